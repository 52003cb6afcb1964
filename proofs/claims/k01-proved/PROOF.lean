import PyProof.Rows.All
import Wide.All
import OpenK.AllK
import Wide.FinOn
import HandS.ForMost
import HandS.ForExc
import HandS.Evl
import HandS.AnyAll
import HandS.Lambda
import HandS.EndTab
import HandS.IsInst
import HandS.SetKeys
import HandS.ExcIs
import PyProof.GenCompD
import HandS.JoinGen
import HandS.HotCalls
import HandS.ExcCtx
import KE.DataMinMax
import KE.SortData
import HandS.SortInts
import HandS.TupSets
import HandS.Iter
import HandS.Dict
import HandS.Walk
import OpenK.KTop
import PyProof.DictKinds
import HandS.Style
import HandS.Conv
import HandS.ExcInit
import HandS.FStr
import KE.KExcSuper
import KE.KExcIs
import HandS.ExcField
import HandS.Text
import PyProof.Rows.RegReprOcc
import HandS.HeadHook4
import HandS.HeadWalk
import PyProof.Rows.RegStrFacts
import HandS.Head0
import HandS.Head1
import HandS.Head2
import PySem.Challenge.RW_endshare_k01_fields_and_hands_refused
set_option Elab.async false
set_option linter.all false
set_option maxRecDepth 100000
set_option maxHeartbeats 0
namespace Ub
open PySem PySem.Spec PyProof.Rows L2

/-! ### a def of the top, and its promise -/
structure Df (K : PySem.W.Frag) (mg : Str → Option Value) (x : Str) (st : Stmt) (ps : List Str) : Prop where
  ex : ∃ (f : Addr) (fd : FuncData), Fun K x x st f fd ∧ mg x = some (.ref f) ∧ L2.Binds K fd ps []
structure Kp (P : Program) (w : World) (K : PySem.W.Frag) (mg : Str → Option Value) (base : Heap) (CX : CXT) (k : Nat) (x : Str) (ps : List Str) (sp : Sp) : Prop where
  ex : ∃ (f : Addr) (fd : FuncData), mg x = some (.ref f) ∧ PySem.W.keepIn K (.ref f) = true ∧ L2.Binds K fd ps [] ∧ FnOk P w K mg base CX k f fd ps sp
theorem Df.ok {P : Program} {w : World} {K : PySem.W.Frag} {mg : Str → Option Value} {base : Heap} {x : Str} {st : Stmt} {N ps : List Str} {k : Nat} {sp : Sp} (D : Df K mg x st ps) (S : FnScope N ps (defScope st))
    (len : ∀ vs H Q E, sp vs H Q E → vs.length = ps.length)
    (hbody : ∀ (f : Addr) (cdv : Value) (A : Around) (outer : List Env) (s : Shared) (H : Hp) (vs : List V) (Q : VK) (E : XK), Room k (A.deeper (envOfC x (defScope st) s.heap.objs.size f cdv)) → sp vs H Q E →
      ∃ t, PSs (cxOf CX0 P w K mg base N x (defScope st) f cdv A outer s H E).nox (defBody st) t ∧ t { nx := fun _ H' => Q .non H', rt := Q } (start N vs) H) :
    Kp P w K mg base CX0 (k + 1) x ps sp := by
  obtain ⟨f, fd, F, hm, hb⟩ := D.ex
  exact ⟨f, fd, hm, F.kp, hb, F.ok S len (hbody f)⟩
section
variable {X : Cx} {CX : CXT} {k : Nat} {ps : List Str} {sp : Sp} {E : XK} {x : Str} {p pos : Pos} {e : Expr} {es : List Expr} {t : TA}
theorem pe_callA (F : Kp X.prog X.w X.K X.mg X.base CX k x ps sp) (hr : Room k X.A) (hx : Passes CX X E) (ha : PA X (e :: es) t) (hg : Gl X x := by rfl)
    (hdb : (x == ("__debug__" : Str)) = false := by decide) (he : starEach (e :: es) X.env = (false, eval e X.env) :: starEach es X.env := by rfl) (hpl : (backTo pos (starEach es X.env)).any (·.1) = false := by rfl) :
    PE X (.Call (.Name x p) (e :: es) [] pos) (tCall sp [] E t) := by
  obtain ⟨f, fd, hm, hk, hb, F⟩ := F.ex
  exact pe_call F hr hg hm hk hb .nil hx ha hdb he hpl
end

/-- the same where the code object is told -/
structure DfC (K : PySem.W.Frag) (mg : Str → Option Value) (x : Str) (st : Stmt) (ps : List Str) (c : Addr) : Prop where
  ex : ∃ (f : Addr) (oc kV doc pm ct : Value) (od an : Option Addr) (osl : Array (Option Value)), K.lookup f = some ⟨oc, od, .func (PySem.W.fnOf x x (defArgs st) (defBody st) (defScope st) .none kV doc pm an (.ref c) ct), osl⟩ ∧ PySem.W.codeIn K (.ref c) x = true ∧
    mg x = some (.ref f) ∧ PySem.W.keepIn K (.ref f) = true ∧ L2.Binds K (PySem.W.fnOf x x (defArgs st) (defBody st) (defScope st) .none kV doc pm an (.ref c) ct) ps []
theorem DfC.df {K : PySem.W.Frag} {mg : Str → Option Value} {x : Str} {st : Stmt} {ps : List Str} {c : Addr} (D : DfC K mg x st ps c) : Df K mg x st ps := by
  obtain ⟨f, oc, kV, doc, pm, ct, od, an, osl, l, hc, hm, hk, hb⟩ := D.ex
  exact ⟨f, _, fun_mk l hc hk, hm, hb⟩
theorem DfC.ok {P : Program} {w : World} {K : PySem.W.Frag} {mg : Str → Option Value} {base : Heap} {x : Str} {st : Stmt} {N ps : List Str} {c : Addr} {k : Nat} {sp : Sp} (D : DfC K mg x st ps c) (S : FnScope N ps (defScope st))
    (len : ∀ vs H Q E, sp vs H Q E → vs.length = ps.length)
    (hbody : ∀ (f : Addr) (A : Around) (outer : List Env) (s : Shared) (H : Hp) (vs : List V) (Q : VK) (E : XK), Room k (A.deeper (envOfC x (defScope st) s.heap.objs.size f (.ref c))) → sp vs H Q E →
      ∃ t, PSs (cxOf CX0 P w K mg base N x (defScope st) f (.ref c) A outer s H E).nox (defBody st) t ∧ t { nx := fun _ H' => Q .non H', rt := Q } (start N vs) H) :
    Kp P w K mg base CX0 (k + 1) x ps sp := by
  obtain ⟨f, oc, kV, doc, pm, ct, od, an, osl, l, hc, hm, hk, hb⟩ := D.ex
  refine ⟨f, _, hm, hk, hb, fn_of l hc S len fun A outer s H vs Q E hr hsp => ?_⟩
  obtain ⟨t, h, q⟩ := hbody f A outer s H vs Q E hr hsp
  exact ⟨t, h.nox, q⟩
/-! ### which built-in names the top leaves alone -/
structure Bl (mg : Str → Option Value) : Prop where
  len : mg "len" = none
  range : mg "range" = none
  abs : mg "abs" = none
  min : mg "min" = none
  max : mg "max" = none
  isinst : mg "isinstance" = none
  list : mg "list" = none
  tuple : mg "tuple" = none
  int : mg "int" = none
  str : mg "str" = none
  bool : mg "bool" = none
  all : mg "all" = none
  zip : mg "zip" = none
  enumerate : mg "enumerate" = none
  sorted : mg "sorted" = none
  sum : mg "sum" = none
  set : mg "set" = none

/-! ### the tables of code objects; a stable part of the heap -/
structure Tb where
  g : List Addr
  l : List (Addr × Str)
  dis : ∀ p ∈ g, ∀ q ∈ l, p ≠ q.1
/-- B: what stands and stays; H: all that is tracked -/
structure Ok (T : Tb) (B H : Hp) : Prop where
  ex : Evl.Ex B H
  nt : ∀ b ps, B b ≠ some (.tbl ps)
  tg : ∀ p ∈ T.g, GxR.TabG H p
  tl : ∀ p ∈ T.l, LamX.TabS H p.1 p.2
abbrev Ex := Evl.Ex
def notTab (o : HO) : Prop := ∀ ps, o ≠ .tbl ps
theorem nt_lst {xs : List V} : notTab (.lst xs) := fun _ h => nomatch h
theorem nt_tup {xs : List V} : notTab (.tup xs) := fun _ h => nomatch h
section
variable {T : Tb} {B B' B0 H H' : Hp} {p l : Addr} {o u : HO}
theorem Ok.fresh (k : Ok T B H) (h : H p = none) : B p = none := Evl.fresh_back k.ex h
theorem TabG.keep {P : Addr} (t : GxR.TabG H P) (e : Ex H H') : GxR.TabG H' P := by
  obtain ⟨ps, h1, h2⟩ := t
  exact ⟨ps, e _ _ h1, h2⟩
/-- a new object, stable from now on -/
theorem Ok.new (k : Ok T B H) (h : H p = none) (n : notTab o) : Ok T (upd B p o) (upd H p o) := by
  have eH : Ex H (upd H p o) := Evl.Ex.new h
  refine ⟨fun a x e => ?_, fun b ps e => ?_, fun q hq => TabG.keep (k.tg q hq) eH, fun q hq => LamX.TabS.ext (k.tl q hq) eH⟩
  · by_cases ha : a = p
    · subst ha
      rw [upd_same] at e ⊢
      exact e
    · rw [upd_ne ha] at e ⊢
      exact k.ex _ _ e
  · by_cases ha : b = p
    · subst ha
      rw [upd_same] at e
      exact n ps (Option.some.inj e)
    · rw [upd_ne ha] at e
      exact k.nt _ _ e
/-- a new object that may change -/
theorem Ok.newM (k : Ok T B H) (h : H p = none) : Ok T B (upd H p o) := by
  have eH : Ex H (upd H p o) := Evl.Ex.new h
  exact ⟨k.ex.trans eH, k.nt, fun q hq => TabG.keep (k.tg q hq) eH, fun q hq => LamX.TabS.ext (k.tl q hq) eH⟩
theorem Ok.up (k : Ok T B H) (h : H p = none) : Ex B (upd B p o) := Evl.Ex.new (k.fresh h)
/-- an object outside of the stable part changes -/
theorem Ok.mut (k : Ok T B H) (n : B l = none) (h : H l = some u) (n1 : notTab u) (n2 : ∀ q, u ≠ LamX.CodeO l q) : Ok T B (upd H l o) := by
  have nP : ∀ P ps, H P = some (.tbl ps) → P ≠ l := fun P ps e z => n1 ps (by rw [z, h] at e; exact Option.some.inj e)
  refine ⟨Evl.Ex.mut k.ex n, k.nt, fun q hq => ?_, fun q hq => ?_⟩
  · obtain ⟨ps, h1, h2⟩ := k.tg q hq
    exact ⟨ps, by rw [upd_ne (nP _ _ h1)]; exact h1, h2⟩
  · obtain ⟨ps, h1, h2, h3⟩ := k.tl q hq
    refine ⟨ps, by rw [upd_ne (nP _ _ h1)]; exact h1, h2, fun pos cv hc => ?_⟩
    obtain ⟨c, e1, e2⟩ := h3 pos cv hc
    refine ⟨c, e1, ?_⟩
    rw [upd_ne (fun z => n2 q.2 (by rw [z, h] at e2; exact Option.some.inj e2))]
    exact e2
theorem Ok.mutL {xs : List V} (k : Ok T B H) (n : B l = none) (h : H l = some (.lst xs)) : Ok T B (upd H l o) := k.mut n h nt_lst (fun _ e => nomatch e)
theorem Ok.back (k : Ok T B' H) (e : Ex B B') : Ok T B H := by
  refine ⟨e.trans k.ex, fun b ps h => k.nt b ps (e _ _ h), k.tg, k.tl⟩
/-- what stands in H is counted to the stable part -/
theorem Ok.add (k : Ok T B H) (h : H p = some o) (n : notTab o) : Ok T (upd B p o) H := by
  refine ⟨fun a x e => ?_, fun b ps e => ?_, k.tg, k.tl⟩
  · by_cases ha : a = p
    · subst ha
      rw [upd_same] at e
      rw [h]
      exact e
    · rw [upd_ne ha] at e
      exact k.ex _ _ e
  · by_cases ha : b = p
    · subst ha
      rw [upd_same] at e
      exact n ps (Option.some.inj e)
    · rw [upd_ne ha] at e
      exact k.nt _ _ e
theorem Ok.addL {xs : List V} (k : Ok T B H) (h : H p = some (.lst xs)) : Ok T (upd B p (.lst xs)) H := k.add h nt_lst
theorem upd_up (n : B p = none) : Ex B (upd B p o) := Evl.Ex.new n
theorem upd_no (n : B l = none) (h : l ≠ p) : upd B p o l = none := by
  rw [upd_ne h]
  exact n
theorem Ok.sl {K : PySem.W.Frag} {a : Addr} {xs : List V} (k : Ok T B H) (h : SqL K B a xs) : SqL K H a xs := Evl.ex_l k.ex h
theorem Ok.st {K : PySem.W.Frag} {a : Addr} {xs : List V} (k : Ok T B H) (h : SqT K B a xs) : SqT K H a xs := Evl.ex_t k.ex h
/-- behind a generator expression: its table may have grown -/
theorem Ok.tabbed {P : Addr} (k : Ok T B H) (hP : P ∈ T.g) (t : GxR.Tabbed P H H') : Ok T B H' := by
  obtain ⟨t1, t2⟩ := t
  obtain ⟨ps0, h0, _⟩ := k.tg P hP
  have nB : B P = none := by
    cases e : B P with
    | none => rfl
    | some o => exact absurd (by rw [e, ← k.ex _ _ e, h0]) (k.nt P ps0)
  refine ⟨fun a o e => ?_, k.nt, fun q hq => ?_, fun q hq => ?_⟩
  · rw [t2 a (ne_of_none e nB)]
    exact k.ex _ _ e
  · by_cases hq2 : q = P
    · rw [hq2]
      exact t1
    · obtain ⟨ps, h1, h2⟩ := k.tg q hq
      exact ⟨ps, by rw [t2 q hq2]; exact h1, h2⟩
  · obtain ⟨ps, h1, h2, h3⟩ := k.tl q hq
    refine ⟨ps, by rw [t2 _ (fun z => T.dis P hP q hq z.symm)]; exact h1, h2, fun pos cv hc => ?_⟩
    obtain ⟨c, e1, e2⟩ := h3 pos cv hc
    refine ⟨c, e1, ?_⟩
    rw [t2 c (fun z => by rw [z, h0] at e2; exact LamX.codeO_ne ps0 (Option.some.inj e2).symm)]
    exact e2
end

theorem codeO_set {P : Program} {w : World} {c a : Addr} {q : Str} {S : Key → Bool} {n : Nat} (e : SetK P w a S n = LamX.CodeO c q) (hca : a = c) : False := by
  subst hca
  let o : Obj := { cls := .none, data := .fields #[.none, .str q 0] }
  let h : Heap := { objs := Array.replicate (a + 1) o }
  have hg : h.get? a = some o := by
    show (match (Array.replicate (a + 1) o)[a]? with | some ⟨_, _, .freed, _⟩ => none | r => r) = some o
    rw [Array.getElem?_replicate, if_pos (Nat.lt_succ_self a)]
  have h1 : (∃ (oc : Obj) (vs : Array Value) (t : Tok), h.get? a = some oc ∧ oc.data = .fields vs ∧ vs[1]? = some (.str q t)) := ⟨o, _, 0, hg, rfl, rfl⟩
  have e2 := congrFun (HO.ext.inj e) h
  have h3 : h.SetOf (mixKind P w) a S n := e2.mpr h1
  obtain ⟨o', es, ep, t, ho, _, hd, _⟩ := h3
  rw [hg] at ho
  cases ho
  cases hd
theorem Ok.mutS {P : Program} {w : World} {T : Tb} {B H : Hp} {l : Addr} {S : Key → Bool} {n : Nat} {o : HO} (k : Ok T B H) (nb : B l = none) (h : H l = some (SetK P w l S n)) : Ok T B (upd H l o) :=
  k.mut nb h (fun _ e => nomatch e) fun _ e => codeO_set e rfl
theorem nt_set {P : Program} {w : World} {l : Addr} {S : Key → Bool} {n : Nat} : notTab (SetK P w l S n) := fun _ e => nomatch e
/-! ### lists by place -/
theorem ixN_nat {n j : Nat} (h : j < n) : ixN n (j : Int) = some j := by
  unfold ixN
  rw [if_pos (by omega), if_pos (by omega)]
  simp
theorem at_int {xs : List V} {i : Int} {v : V} (h0 : 0 ≤ i) (h : xs[i.toNat]? = some v) : atI xs i = some v := by
  have e : i = ((i.toNat : Nat) : Int) := by omega
  rw [e]
  exact atI_nat h
theorem seqIx_nat {n j : Nat} (h : j < n) : seqIndex? (j : Int) n = some j := (ixN_seq (ixN_nat h)).1
theorem upd3 {H : Hp} {a : Addr} {o u v : HO} : upd (upd (upd H a o) a u) a v = upd H a v := by rw [upd_upd, upd_upd]
/-! ### data stays -/
mutual
theorem Dp.up {K : PySem.W.Frag} {H H' : Hp} (e : Ex H H') : ∀ (d : PyData) (v : V), Dp K H v d → Dp K H' v d
  | .none, _, h => by cases h; exact .non
  | .bool b, _, h => by cases h; exact .bl b
  | .int i, _, h => by cases h; exact .int i
  | .str x, _, h => by cases h; exact .str x
  | .list ds, _, h => by
    cases h with
    | lst hs ha => exact .lst (Evl.ex_l e hs) (DpAll.up e ds _ ha)
  | .tuple ds, _, h => by
    cases h with
    | tup hs ha => exact .tup (Evl.ex_t e hs) (DpAll.up e ds _ ha)
  | .dict _, _, h => by cases h
theorem DpAll.up {K : PySem.W.Frag} {H H' : Hp} (e : Ex H H') : ∀ (ds : List PyData) (vs : List V), DpAll K H vs ds → DpAll K H' vs ds
  | [], _, h => by cases h; exact .nil
  | d :: ds, _, h => by
    cases h with
    | cons h1 h2 => exact .cons (Dp.up e d _ h1) (DpAll.up e ds _ h2)
end
theorem erase_perm {α : Type} : ∀ {l : List α} {i : Nat} (h : i < l.length), (l[i] :: l.eraseIdx i).Perm l
  | [], i, h => absurd h (by simp)
  | a :: l, 0, _ => List.Perm.refl _
  | a :: l, i + 1, h => by
    have h' : i < l.length := by simpa using h
    have ih := erase_perm (l := l) (i := i) h'
    show (l[i] :: a :: l.eraseIdx i).Perm (a :: l)
    exact (List.Perm.swap a l[i] _).trans (List.Perm.cons a ih)
/-! ### data that may be compared -/
def Sh (n : Nat) (d : PyData) : Prop := d.canLay0 = true ∧ d.depth ≤ n
theorem Sh.shaped {n : Nat} {d : PyData} (h : Sh n d) (hn : n ≤ 64) : SeqAt.shaped d = true := by
  unfold SeqAt.shaped
  rw [h.1, decide_eq_true (Nat.le_trans h.2 hn)] <;> rfl
theorem Sh.mono {n m : Nat} {d : PyData} (h : Sh n d) (hn : n ≤ m) : Sh m d := ⟨h.1, Nat.le_trans h.2 hn⟩
theorem sh_all {n : Nat} : ∀ {ds : List PyData}, (∀ d ∈ ds, Sh n d) → PyData.canLayAll0 ds = true ∧ PyData.depthAll ds ≤ n
  | [], _ => ⟨by simp [PyData.canLayAll0], by simp [PyData.depthAll]⟩
  | d :: ds, h => by
    obtain ⟨h1, h2⟩ := sh_all (n := n) (ds := ds) fun x hx => h x (List.mem_cons_of_mem _ hx)
    have h3 := h d List.mem_cons_self
    refine ⟨by simp [PyData.canLayAll0, h1, h3.1], ?_⟩
    simp only [PyData.depthAll]
    exact Nat.max_le.mpr ⟨h3.2, h2⟩
theorem Sh.list {n : Nat} {ds : List PyData} (h : ∀ d ∈ ds, Sh n d) : Sh (n + 1) (.list ds) := by
  obtain ⟨h1, h2⟩ := sh_all h
  exact ⟨by simp [PyData.canLay0, h1], by simp [PyData.depth]; exact h2⟩
theorem Sh.tuple {n : Nat} {ds : List PyData} (h : ∀ d ∈ ds, Sh n d) : Sh (n + 1) (.tuple ds) := by
  obtain ⟨h1, h2⟩ := sh_all h
  exact ⟨by simp [PyData.canLay0, h1], by simp [PyData.depth]; exact h2⟩
theorem Sh.int {n : Nat} {i : Int} : Sh n (.int i) := ⟨by simp [PyData.canLay0], by simp [PyData.depth]⟩
theorem Sh.bool {n : Nat} {b : Bool} : Sh n (.bool b) := ⟨by simp [PyData.canLay0], by simp [PyData.depth]⟩
theorem Sh.none {n : Nat} : Sh n .none := ⟨by simp [PyData.canLay0], by simp [PyData.depth]⟩
theorem Sh.str {n : Nat} {x : Str} (h : PyData.strOk x = true) : Sh n (.str x) := ⟨by simp [PyData.canLay0, h], by simp [PyData.depth]⟩
/-- a value that is no reference, as data -/
def scD : V → Option PyData
  | .non => some .none
  | .bl b => some (.bool b)
  | .int i => some (.int i)
  | .str x => if PyData.strOk x = true then some (.str x) else none
  | _ => none
theorem scD_dp {K : PySem.W.Frag} {H : Hp} {v : V} {d : PyData} (h : scD v = some d) : Dp K H v d ∧ Sh 0 d := by
  cases v with
  | non => cases h; exact ⟨.non, .none⟩
  | bl b => cases h; exact ⟨.bl b, .bool⟩
  | int i => cases h; exact ⟨.int i, .int⟩
  | str x =>
    by_cases hx : PyData.strOk x = true
    · have e : scD (.str x) = some (.str x) := if_pos hx
      rw [e] at h
      cases h
      exact ⟨.str x, .str hx⟩
    · have e : scD (.str x) = none := if_neg hx
      rw [e] at h
      cases h
  | byt b => cases h
  | flt b => cases h
  | ref b => cases h
  | ty n => cases h
theorem scD_all {K : PySem.W.Frag} {H : Hp} : ∀ {vs : List V}, (∀ v ∈ vs, ∃ d, scD v = some d) → ∃ ds, DpAll K H vs ds ∧ (∀ d ∈ ds, Sh 0 d) ∧ ds.length = vs.length
  | [], _ => ⟨[], .nil, by simp, rfl⟩
  | v :: vs, h => by
    obtain ⟨ds, h1, h2, h3⟩ := scD_all (K := K) (H := H) (vs := vs) fun x hx => h x (List.mem_cons_of_mem _ hx)
    obtain ⟨d, hd⟩ := h v List.mem_cons_self
    obtain ⟨k1, k2⟩ := scD_dp (K := K) (H := H) hd
    refine ⟨d :: ds, .cons k1 h1, fun x hx => ?_, by simp [h3]⟩
    rcases List.mem_cons.mp hx with rfl | hx
    · exact k2
    · exact h2 x hx
/-! ### a text, many times -/
def repS (z : Str) (n : Int) : Str := if n < 1 then Str.empty else if (n == 1 || z.length == 0) = true then z else ⟨(List.replicate n.toNat z.cps).foldl (· ++ ·) #[]⟩
def rRepS : R2 := fun x y H Q => ∃ z n, x = .str z ∧ y = .int n ∧ 0 ≤ n ∧ n ≤ 1000 ∧ z.length ≤ 1000 ∧ Q (.str (repS z n)) H
theorem fold_size : ∀ (l : List (Array Nat)) (a : Array Nat) (k : Nat), (∀ x ∈ l, x.size = k) → (l.foldl (· ++ ·) a).size = a.size + l.length * k
  | [], a, k, _ => by simp
  | x :: l, a, k, h => by
    rw [List.foldl_cons, fold_size l (a ++ x) k fun y hy => h y (List.mem_cons_of_mem _ hy), Array.size_append, h x List.mem_cons_self, List.length_cons, Nat.succ_mul]
    omega
theorem op_repS {X : Cx} : OpR X (binaryOp .Mult) rRepS := by
  intro pins s σ H x y v u Q I rx ry h
  obtain ⟨z, n, rfl, rfl, n0, n1, hz, q⟩ := h
  obtain ⟨t, rfl⟩ := rx
  obtain ⟨t', rfl⟩ := ry
  have hm : z.length * n.toNat ≤ 1000 * 1000 := Nat.mul_le_mul hz (by omega)
  refine PySem.P.mul_str (by rw [decide_eq_false (by omega), decide_eq_false (by omega)] <;> rfl) (fun h1 _ => ?_) (fun h1 _ => ?_) ?_
  · have h2 : (1000 : Int) ≤ (2 ^ 63 - 1) / n := by
      rw [Int.le_ediv_iff_mul_le (by omega)]
      omega
    omega
  · show decide _ = false
    exact decide_eq_false (by show ¬ (z.length * n.toNat > sizeLine); unfold sizeLine; omega)
  · by_cases h1 : n < 1
    · rw [if_pos h1]
      have e : repS z n = Str.empty := if_pos h1
      rw [e] at q
      exact ⟨by decide, .str _, H, I.tok _, ⟨_, rfl⟩, q⟩
    · rw [if_neg h1]
      by_cases h2 : (n == 1 || z.length == 0) = true
      · rw [if_pos h2]
        have e : repS z n = z := (if_neg h1).trans (if_pos h2)
        rw [e] at q
        exact ⟨.str z, H, I, ⟨_, rfl⟩, q⟩
      · rw [if_neg h2]
        have e : repS z n = ⟨(List.replicate n.toNat z.cps).foldl (· ++ ·) #[]⟩ := (if_neg h1).trans (if_neg h2)
        rw [e] at q
        refine ⟨?_, .str _, H, I.tok _, ⟨_, rfl⟩, q⟩
        show ((List.replicate n.toNat z.cps).foldl (· ++ ·) #[]).size ≤ sizeLine
        rw [fold_size _ _ z.length fun x hx => by rw [List.eq_of_mem_replicate hx]; rfl, List.length_replicate, Nat.mul_comm]
        unfold sizeLine
        simp
        omega
/-! ### is None; truth -/
def rIsN : R2 := fun x y H Q => y = .non ∧ Q (.bl (decide (x = .non))) H
def rNotN : R2 := fun x y H Q => y = .non ∧ Q (.bl (!decide (x = .non))) H
section
variable {X : Cx}
theorem or_isN : OpR X (compareOp .Is) rIsN := op_isN
theorem or_notN : OpR X (compareOp .IsNot) rNotN := op_notN
end
def tTru (K : PySem.W.Frag) (t : TE) : TT := fun σ H Q => t σ H fun x H' => ∃ k, TruV K x H' k ∧ Q k H'
theorem pt_tru {X : Cx} {a : Expr} {ta : TE} (ha : PE X a ta) (he : ∀ whole, isTrue a X.env whole = (do let v ← whole; standAt a.pos; holding [v] (truthy v)) := by intro _; rfl) : PT X a (tTru X.K ta) := pt_truth ha he
end Ub

namespace Ub
open PySem PySem.Spec PyProof.Rows L2
/-! ### all(test for x in e): the test may read the module's names, or call -/
/-- where an element is reckoned -/
structure EnvG (X : Cx) (scope : Scope) (ce : Env) (A' : Around) (t : Shared) (ml : Str → Option Value) : Prop where
  sc : ce.scope = scope
  gl : ce.globals = mainGlobals
  bu : ce.builtins = builtinsNs
  ns : t.heap.Ns ce.locals ml
  base : ∀ b u, X.base.get? b = some u → t.heap.get? b = some u
  hd : A'.handled = none
  dp : A'.depth ≤ X.A.depth + 1
  un : A'.units ≤ X.A.units + 8
  mod : L2.Mod X.K X.mg X.base
section
variable {X : Cx} {pins : List (Addr × Obj)} {σ : L2.St} {H : Hp} {s : Shared}
def GotAll (X : Cx) (pins : List (Addr × Obj)) (σ : L2.St) (Hm : Hp) (P : Addr) (n : Nat) (tr : Nat → Bool) (g : Addr) (t5 : Shared) : Prop :=
  ∃ (fp wr : List Addr) (G : Array GenState → Array GenState → Prop) (F : Nat → Value → Prop) (St : Nat → Shared → Prop),
    WalksS X.prog X.w X.A.in1 g fp wr G n F St ∧ St 0 t5 ∧ TruthOf X.prog X.w X.A.in1 F tr ∧ ∀ t6, Moved wr G t5 t6 → ∃ He, GxR.Tabbed P Hm He ∧ Inv X pins σ He t6
theorem gen_core {c P : Addr} {elt iter : Expr} {x : Str} {px gpos : Pos} {scope : Scope} {k : Nat} {Q' : Value → Shared → Prop}
    (hr : Room k X.A) (TB : GxR.TabB X.base X.mg c P) (hcode : X.env.code = .ref c) (S : GxR.GenS X.env scope x) (hs : ∀ v, genFold iter X.env v = pure v)
    (hit : wpAny (model X.prog X.w) X.A (eval iter X.env) (fun xv s1 => ∃ (Hm : Hp) (n : Nat) (tr : Nat → Bool) (Pf : Nat → Value → Prop) (fp0 : List Addr), Inv X pins σ Hm s1 ∧ GxR.TabG Hm P ∧ (∀ b ∈ fp0, b < s1.heap.objs.size ∧ b ≠ P) ∧
      (∀ (ce : Env) (A' : Around) (E' : Value → Shared → Prop) (i : Nat) (v : Value) (t : Shared) (ml : Str → Option Value), EnvG X scope ce A' t ml → Pf i v → ml x = some v →
        wpAny (model X.prog X.w) A' (eval elt ce) (fun y t2 => y = .bool (tr i) ∧ Keeps t t2) E' t) ∧
      (∀ Q9 : Value → Shared → Prop, (∀ (o : Obj) (St : Nat → Heap → Prop), (∀ A' : Around, A'.handled = none → Walks X.prog X.w A' s1.heap.objs.size (s1.heap.objs.size :: fp0) [s1.heap.objs.size] n Pf St) → St 0 (s1.heap.push o) → Q9 (.ref s1.heap.objs.size) { s1 with heap := s1.heap.push o }) → wpAny (model X.prog X.w) X.A (pyIter xv) Q9 X.xe s1) ∧
      ∀ g t5, GotAll X pins σ Hm P n tr g t5 → Q' (.ref g) t5) X.xe s) :
    wpAny (model X.prog X.w) X.A (eval (.GeneratorExp elt [⟨.Name x px, iter, [], 0⟩] scope gpos) X.env) Q' X.xe s := by
  refine wpAny_GeneratorExp_walksQD hr.hd S.co (closure_ok S.free) S.cell S.dot S.loc S.kind (by have := hr.dp; omega) ?_ hs
  refine wpAny_mono hit (fun xv s1 hh => ?_) fun _ _ e => e
  obtain ⟨Hm, n, tr, Pf, fp0, I1, ⟨ps, hP, ht⟩, hfp0, hel, hiter, hQ⟩ := hh
  refine hiter _ fun o St W hst => ?_
  have hPs : s1.heap.get? P = some { cls := .none, data := .fields ps } := I1.hok P _ hP
  have hPlt : P < s1.heap.objs.size := Heap.lt_size hPs
  have hP2 : (s1.heap.push o).get? P = some { cls := .none, data := .fields ps } := Heap.get?_push_of_some _ hPs
  have cdh : PySem.W.CodeHd (s1.heap.push o) c P := TB.code.keeps fun b u e => Heap.get?_push_of_some _ (I1.bk b u e)
  have limp : (s1.heap.push o).NoLimit := I1.nolimit.push o
  have szp : (s1.heap.push o).objs.size = s1.heap.objs.size + 1 := Heap.size_push ..
  have bP : ∀ b u, X.base.get? b = some u → b ≠ P := fun b u e z => by
    have e2 := (I1.bs b u e).2
    rw [z, hP] at e2
    cases e2
  have go : ∀ (code : Value) (hq : Heap) (tk : Nat) (ps2 : Array Value), Heap.ExtBut P (s1.heap.push o) hq → (s1.heap.push o).objs.size ≤ hq.objs.size → hq.get? P = some { cls := .none, data := .fields ps2 } → (∃ more, ps2 = ps ++ more) → TriplesOk ps2.toList →
      wpAny (model X.prog X.w) X.A (builtinsFor X.env.globals X.env.builtins) (fun bi s4 =>
        ∃ Ia fp wr n0 Pw Sw pz F, Value.ref s1.heap.objs.size = .ref Ia ∧ (∀ A' : Around, A'.handled = none → Walks X.prog X.w A' Ia fp wr n0 Pw Sw) ∧ Sw 0 s4.heap ∧ (∀ b ∈ fp, b < s4.heap.objs.size) ∧ s4.heap.NoLimit ∧ cStatics ∉ wr ∧
          (∀ hf : Heap, (∀ b u, s4.heap.get? b = some u → hf.get? b = some u) →
            QuietGenD X.prog X.w (genEnv scope (cloFrom X.env.cells scope.names []) s4.heap.objs.size code bi X.env) x [] elt (List.range s4.heap.objs.size) wr Pw pz F hf (X.A.depth + 1) (X.A.units + 8)) ∧
          (∀ a h5 tk5 gs, gs.bare = true → s4.heap.objs.size < a → h5.objs.size = a + 1 → (∀ b u, s4.heap.get? b = some u → h5.get? b = some u) →
            WalksS X.prog X.w X.A.in4 a (a :: s4.heap.objs.size :: List.range s4.heap.objs.size) (s4.heap.objs.size :: wr) (GenOnlyQ s4.gens.size) (passing pz n0 0).length
              (fun j y => ∃ i, (passing pz n0 0)[j]? = some i ∧ F i y) (GenAt X.prog X.w X.A.in4 a s4.gens.size s4.heap.objs.size (List.range s4.heap.objs.size) wr pz n0 F) →
            GenAt X.prog X.w X.A.in4 a s4.gens.size s4.heap.objs.size (List.range s4.heap.objs.size) wr pz n0 F 0 { s4 with gens := s4.gens.push gs, toks := tk5, heap := h5 } →
            Q' (.ref a) { s4 with gens := s4.gens.push gs, toks := tk5, heap := h5 })) X.xe { s1 with heap := hq, toks := tk } := by
    intro code hq tk ps2 hx hsz hPq hmore htq
    obtain ⟨bm, ob, b1, b2, b3, b4, b5, b6, b7, b8⟩ := TB.bm
    have hcP : cStatics ≠ P := fun e => by
      obtain ⟨_, hns, _⟩ := I1.nolimit
      obtain ⟨u, _, _, hu, hdu, _⟩ := hns
      rw [e, hPs] at hu
      cases hu
      cases hdu
    have hcl : cStatics < s1.heap.objs.size := let ⟨_, hns, _⟩ := I1.nolimit; hns.lt
    have keep : ∀ b u, b ≠ P → s1.heap.get? b = some u → hq.get? b = some u := fun b u hb e => hx b u hb (Heap.get?_push_of_some _ e)
    refine wpAny_builtinsFor (m := X.mg) (by rw [I1.ok.glob]; exact ((I1.mod.glob.keeps I1.bk).push o).extBut hx TB.gP) b1 b2 (keep _ _ b4 (I1.bk _ _ b5)) b6 b7 b8 ?_
    have nI : ∀ b u, s1.heap.get? b = some u → b ≠ s1.heap.objs.size := fun b u e z => Nat.lt_irrefl _ (z ▸ Heap.lt_size e)
    refine ⟨s1.heap.objs.size, s1.heap.objs.size :: fp0, [s1.heap.objs.size], n, Pf, St, (fun _ => true), (fun i y => y = .bool (tr i)), rfl, W, ?_, ?_, limp.extBut hx hcP, ?_, ?_, ?_⟩
    · refine (W X.A hr.hd).frame _ _ _ hst fun b hb u e => hx b u ?_ e
      rcases List.mem_cons.mp hb with z | z
      · rw [z]
        exact Nat.ne_of_gt hPlt
      · exact (hfp0 b z).2
    · intro b hb
      have e9 : s1.heap.objs.size < hq.objs.size := by omega
      rcases List.mem_cons.mp hb with z | z
      · rw [z]
        exact e9
      · exact Nat.lt_trans (hfp0 b z).1 e9
    · intro z
      exact Nat.ne_of_lt hcl (List.mem_singleton.mp z)
    · intro hf hhf
      refine ⟨fun A' E' i v t2 ml _ _ _ _ _ _ _ => ?_, fun A' E' i v t2 ml hA hD hU hPv _ hn hm hk => ?_⟩
      · simp only [List.forIn_nil]
        exact wpAny_pure ⟨rfl, GxR.keeps_refl _⟩
      · refine hel _ A' E' i v t2 ml ⟨rfl, I1.ok.glob, rfl, hn, fun b u e => ?_, hA, hD, hU, I1.ok.mod⟩ hPv hm
        have e1 := I1.bk b u e
        refine hk b (List.mem_range.mpr (Nat.lt_of_lt_of_le (Heap.lt_size e1) (by show s1.heap.objs.size ≤ hq.objs.size; omega))) (fun z => nI b u e1 (List.mem_singleton.mp z)) u (hhf b u (keep b u (bP b u e) e1))
    · intro g h5 tk5 gs hgb hag hsz5 hk5 W5 hat
      simp only [GxR.passing_true, List.length_range] at W5
      refine hQ g _ ⟨_, _, _, _, _, W5.in4_1, hat, ?_, fun t6 hm => ?_⟩
      · intro j y tj Qj Ej hy hQj
        obtain ⟨i, hij, rfl⟩ := hy
        obtain ⟨hj, ej⟩ := List.getElem?_eq_some_iff.mp hij
        rw [List.getElem_range] at ej
        subst ej
        exact wpAny_truthy_bool hQj
      · obtain ⟨more, em⟩ := hmore
        have nwr : ∀ b u, s1.heap.get? b = some u → b ∉ hq.objs.size :: [s1.heap.objs.size] := fun b u e hb => by
          have hl := Heap.lt_size e
          rcases List.mem_cons.mp hb with z | z
          · rw [z] at hl
            have h9 : (hq.objs.size : Nat) < s1.heap.objs.size := hl
            omega
          · exact nI b u e (List.mem_singleton.mp z)
        have J := GxR.inv_tab (more := more) (h' := t6.heap) (g' := t6.gens) (d' := t6.drawn) (t' := t6.toks) I1 hP (fun b u hb e => hm.heap b u (nwr b u e) (hk5 b u (keep b u hb e)))
          (by rw [← em]; exact hm.heap P _ (nwr P _ hPs) (hk5 P _ hPq)) (AllBare.movedS (I1.bare.push hgb) hm)
        rw [GxR.sh_eta s1 t6 hm.os] at J
        exact ⟨upd Hm P (.tbl (ps ++ more)), ⟨⟨ps ++ more, upd_same, by rw [← em]; exact htq⟩, fun b hb => upd_ne hb⟩, J⟩
  refine ⟨limp, ?_⟩
  cases hf : codeAmong gpos ps.toList with
  | none =>
    refine wpAny_genexprCodeX hcode (cdh.code hP2 ht) (cdh.tab hP2) hf fun c' h' tk hx hge hlt hco' _ htab' _ => ?_
    obtain ⟨_, _, _, _, _, _, _, _, _, _, _, _, _, _, _, _, _, _, _, htr, _⟩ := hco'
    exact go _ h' tk _ hx (Nat.le_trans hge (Nat.le_of_lt hlt)) htab'.2 ⟨_, rfl⟩ htr
  | some cv =>
    refine wpAny_genexprCode_hit hcode (cdh.code hP2 ht) hf ?_
    exact go cv (s1.heap.push o) s1.toks ps (Heap.ExtBut.refl _ _) (Nat.le_refl _) hP2 ⟨#[], by simp⟩ ht
/-- an element that tests a sign, an int -/
def EltT (X : Cx) (scope : Scope) (x : Str) (elt : Expr) (pb : Nat → Bool) : Prop :=
  ∀ (ce : Env) (A' : Around) (E' : Value → Shared → Prop) (cc : Nat) (tok : Tok) (t : Shared) (ml : Str → Option Value), EnvG X scope ce A' t ml → ml x = some (.str ⟨#[cc]⟩ tok) →
    wpAny (model X.prog X.w) A' (eval elt ce) (fun y t2 => y = .bool (pb cc) ∧ Keeps t t2) E' t
def EltI (X : Cx) (scope : Scope) (x : Str) (elt : Expr) (pb : Int → Bool) : Prop :=
  ∀ (ce : Env) (A' : Around) (E' : Value → Shared → Prop) (i : Int) (tok : Tok) (t : Shared) (ml : Str → Option Value), EnvG X scope ce A' t ml → ml x = some (.int i tok) →
    wpAny (model X.prog X.w) A' (eval elt ce) (fun y t2 => y = .bool (pb i) ∧ Keeps t t2) E' t
def trI (pb : Int → Bool) (l : List Int) (j : Nat) : Bool := match l[j]? with
  | some b => pb b
  | none => false
theorem all_trI (l : List Int) (pb : Int → Bool) : (List.range l.length).all (trI pb l) = l.all pb := by
  have at_ : ∀ (j : Nat) (hj : j < l.length), trI pb l j = pb l[j] := fun j hj => by
    unfold trI
    rw [List.getElem?_eq_getElem hj]
  rw [Bool.eq_iff_iff, List.all_eq_true, List.all_eq_true]
  constructor
  · intro h b hb
    obtain ⟨j, hj, e⟩ := List.getElem_of_mem hb
    have q := h j (List.mem_range.mpr hj)
    rw [at_ j hj, e] at q
    exact q
  · intro h j hj
    have hj' := List.mem_range.mp hj
    rw [at_ j hj']
    exact h _ (List.getElem_mem hj')
def tAllL (K : PySem.W.Frag) (P : Addr) (pb : Int → Bool) (te : TE) : TE := fun σ H Q => te σ H fun v H1 => ∃ (yl : Addr) (ns : List Int), v = .ref yl ∧ SqL K H1 yl (ns.map V.int) ∧ GxR.TabG H1 P ∧ ∀ H2, GxR.Tabbed P H1 H2 → Q (.bl (ns.all pb)) H2
theorem all_call {elt iter : Expr} {x : Str} {px p pos gpos : Pos} {scope : Scope} {tx : TE}
    (hg : Gl X "all") (hm : X.mg "all" = none)
    (hgen : ∀ (pins : List (Addr × Obj)) (σ : L2.St) (H : Hp) (s : Shared) (Q : VK), Inv X pins σ H s → tx σ H Q → wpAny (model X.prog X.w) X.A (eval (.GeneratorExp elt [⟨.Name x px, iter, [], 0⟩] scope gpos) X.env) (fun u t5 =>
      ∃ g Hm P n tr, u = .ref g ∧ GotAll X pins σ Hm P n tr g t5 ∧ ∀ He, GxR.Tabbed P Hm He → Q (.bl ((List.range n).all tr)) He) X.xe s)
    (he : starEach [.GeneratorExp elt [⟨.Name x px, iter, [], 0⟩] scope gpos] X.env = (false, eval (.GeneratorExp elt [⟨.Name x px, iter, [], 0⟩] scope gpos) X.env) :: starEach [] X.env := by rfl) :
    PE X (.Call (.Name "all" p) [.GeneratorExp elt [⟨.Name x px, iter, [], 0⟩] scope gpos] [] pos) tx := by
  refine ⟨fun pins s σ H Q I h => ?_⟩
  refine wpAny_Call_Name_kw (ld_blt I hg hm (by decide +kernel : bootBuiltins "all" = some (.builtin "all")) ?_)
  refine PyProof.Rows.callWith_builtin1 ?_ he (by rfl)
  rw [he]
  show wpAny _ _ (spliced ((false, eval (.GeneratorExp elt [⟨.Name x px, iter, [], 0⟩] scope gpos) X.env) :: backTo pos (starEach [] X.env))) _ _ s
  refine Calls.spliced_cons (wpAny_mono (hgen pins σ H s Q I h) (fun u t5 hu => ?_) fun _ _ e => e)
  obtain ⟨g, Hm, P, n, tr, rfl, ⟨fp, wr, G, F, St, W, hst, htr, hI⟩, hq⟩ := hu
  refine Calls.spliced_nil (call_all_walkS (W.self 0 _ _ _ hst ⟨g, fp, wr, G, _, F, St, _, rfl, W, hst, htr, fun t6 hmv => ?_⟩))
  obtain ⟨He, hT, J⟩ := hI t6 hmv
  exact ⟨.bl _, He, J, rfl, hq He hT⟩
theorem pe_allTxt {c P : Addr} {elt iter : Expr} {x : Str} {px p pos gpos : Pos} {scope : Scope} {pb : Nat → Bool} {te : TE} {k : Nat}
    (hr : Room k X.A) (hg : Gl X "all") (hm : X.mg "all" = none) (TB : GxR.TabB X.base X.mg c P) (hcode : X.env.code = .ref c) (S : GxR.GenS X.env scope x) (hi : PE X iter te) (hel : EltT X scope x elt pb) (hs : ∀ v, genFold iter X.env v = pure v)
    (he : starEach [.GeneratorExp elt [⟨.Name x px, iter, [], 0⟩] scope gpos] X.env = (false, eval (.GeneratorExp elt [⟨.Name x px, iter, [], 0⟩] scope gpos) X.env) :: starEach [] X.env := by rfl) :
    PE X (.Call (.Name "all" p) [.GeneratorExp elt [⟨.Name x px, iter, [], 0⟩] scope gpos] [] pos) (GxR.tAllS P pb te) := by
  refine all_call hg hm (fun pins σ H s Q I h => ?_) he
  refine gen_core (pins := pins) (σ := σ) hr TB hcode S hs (wpAny_mono (hi.run pins s σ H _ I h) (fun xv s1 hh => ?_) fun _ _ e => e)
  obtain ⟨v, H1, I1, r1, a, rfl, ht, hq⟩ := hh
  obtain ⟨t, rfl⟩ := _root_.id r1
  refine ⟨H1, a.cps.size, GxR.trF pb a.cps.toList, SignAt a, [], I1, ht, by simp, fun ce A' E' i u t ml hE hP hml => ?_, fun Q9 h9 => wpAny_pyIter_str fun o St W hst => h9 o St W hst, fun g t5 hG => ⟨g, H1, P, _, _, rfl, hG, fun He hT => ?_⟩⟩
  · obtain ⟨cc, tok, hcc, rfl⟩ := hP
    have e9 : a.cps.toList[i]? = some cc := by rw [Array.getElem?_toList]; exact hcc
    rw [GxR.trF_some e9]
    exact hel ce A' E' cc tok t ml hE hml
  · rw [GxR.all_signs]
    exact hq He hT
theorem pe_allInt {K : PySem.W.Frag} {c P : Addr} {elt iter : Expr} {x : Str} {px p pos gpos : Pos} {scope : Scope} {pb : Int → Bool} {te : TE} {k : Nat} (hK : X.K = K)
    (hr : Room k X.A) (hg : Gl X "all") (hm : X.mg "all" = none) (TB : GxR.TabB X.base X.mg c P) (hcode : X.env.code = .ref c) (S : GxR.GenS X.env scope x) (hi : PE X iter te) (hel : EltI X scope x elt pb) (hs : ∀ v, genFold iter X.env v = pure v)
    (he : starEach [.GeneratorExp elt [⟨.Name x px, iter, [], 0⟩] scope gpos] X.env = (false, eval (.GeneratorExp elt [⟨.Name x px, iter, [], 0⟩] scope gpos) X.env) :: starEach [] X.env := by rfl) :
    PE X (.Call (.Name "all" p) [.GeneratorExp elt [⟨.Name x px, iter, [], 0⟩] scope gpos] [] pos) (tAllL K P pb te) := by
  subst hK
  refine all_call hg hm (fun pins σ H s Q I h => ?_) he
  refine gen_core (pins := pins) (σ := σ) hr TB hcode S hs (wpAny_mono (hi.run pins s σ H _ I h) (fun xv s1 hh => ?_) fun _ _ e => e)
  obtain ⟨v, H1, I1, r1, yl, ns, rfl, hyl, ht, hq⟩ := hh
  obtain rfl : xv = Value.ref yl := r1
  obtain ⟨its, rv, hl, hz⟩ := I1.list hyl
  have hIL := hl.isList
  have hlen : its.length = ns.length := by rw [← rv.length, List.length_map]
  obtain ⟨ps, hP, htr⟩ := ht
  have hPs : s1.heap.get? P = some { cls := .none, data := .fields ps } := I1.hok P _ hP
  obtain ⟨ob, eob, ec, nn, ed⟩ := _root_.id hIL
  have hylt : yl < s1.heap.objs.size := Heap.lt_size eob
  have hylP : yl ≠ P := fun z => by
    rw [z, hPs] at eob
    cases eob
    cases ed
  refine ⟨H1, its.toArray.size, trI pb ns, (fun i v => its.toArray[i]? = some v), [yl], I1, ⟨ps, hP, htr⟩, fun b hb => by rw [List.mem_singleton.mp hb]; exact ⟨hylt, hylP⟩, fun ce A' E' i u t ml hE hPv hml => ?_, fun Q9 h9 => ?_, fun g t5 hG => ⟨g, H1, P, _, _, rfl, hG, fun He hT => ?_⟩⟩
  · have hv2 : its[i]? = some u := by simpa using hPv
    have hi2 : i < its.length := (List.getElem?_eq_some_iff.mp hv2).1
    have hin : i < ns.length := by omega
    have hb : (ns.map V.int)[i]? = some (V.int ns[i]) := by rw [List.getElem?_map, List.getElem?_eq_getElem hin] <;> rfl
    obtain ⟨u', hu, ru⟩ := rv.get hb
    rw [hv2] at hu
    cases hu
    obtain ⟨tok, rfl⟩ := (show ∃ t, u = Value.int ns[i] t from ru)
    have etr : trI pb ns i = pb ns[i] := by
      unfold trI
      rw [List.getElem?_eq_getElem hin]
    rw [etr]
    exact hel ce A' E' ns[i] tok t ml hE hml
  · refine wpAny_pyIter_list hIL ?_
    refine h9 _ (fun i h => h.IsListIter s1.heap.objs.size yl i ∧ h.IsList yl its.toArray) (fun A' hA => Walks.list hA _ _ (Nat.ne_of_lt hylt) _) ⟨⟨_, Heap.get?_push_size _ rfl, rfl, rfl⟩, ?_⟩
    exact ⟨ob, Heap.get?_push_of_some _ eob, ec, nn, ed⟩
  · have en : its.toArray.size = ns.length := by rw [List.size_toArray, hlen]
    rw [en, all_trI]
    exact hq He hT
end
end Ub

namespace Ub
open PySem PySem.Spec PyProof.Rows L2
/-! ### expressions that leave all that stands as it was: what a generator expression's element may do -/
structure Qc (K : PySem.W.Frag) (mg : Str → Option Value) (base : Heap) (env : Env) (t : Shared) (ml : Str → Option Value) : Prop where
  kind : env.scope.kind = .function
  gl : env.globals = mainGlobals
  bu : env.builtins = builtinsNs
  ns : t.heap.Ns env.locals ml
  bs : ∀ b u, base.get? b = some u → t.heap.get? b = some u
  mod : L2.Mod K mg base
theorem kq_refl (t : Shared) : Keeps t t := GxR.keeps_refl t
theorem kq_trans {a b c : Shared} (h1 : Keeps a b) (h2 : Keeps b c) : Keeps a c := by
  obtain ⟨h', tk, rfl, k1⟩ := h1
  obtain ⟨h2', tk2, rfl, k2⟩ := h2
  exact ⟨h2', tk2, rfl, fun b o e => k2 b o (k1 b o e)⟩
theorem kq_heap {a b : Shared} (h : Keeps a b) : ∀ x o, a.heap.get? x = some o → b.heap.get? x = some o := by
  obtain ⟨h', tk, rfl, k1⟩ := h
  exact k1
theorem kq_tok (t : Shared) (n : Nat) : Keeps t { t with toks := n } := GxR.keeps_tok t n
theorem Qc.keeps {K : PySem.W.Frag} {mg : Str → Option Value} {base : Heap} {env : Env} {t t2 : Shared} {ml : Str → Option Value} (q : Qc K mg base env t ml) (k : Keeps t t2) : Qc K mg base env t2 ml :=
  ⟨q.kind, q.gl, q.bu, q.ns.keeps (kq_heap k), fun b u e => kq_heap k _ _ (q.bs b u e), q.mod⟩
def QE (P : Program) (w : World) (K : PySem.W.Frag) (mg : Str → Option Value) (base : Heap) (sc : Scope) (e : Expr) (L : (Str → Option Value) → Prop) (D : Nat) (R : Value → Prop) : Prop :=
  ∀ (env : Env) (A' : Around) (E' : Value → Shared → Prop) (t : Shared) (ml : Str → Option Value), Qc K mg base env t ml → env.scope = sc → L ml → Room D A' → wpAny (model P w) A' (eval e env) (fun y t2 => R y ∧ Keeps t t2) E' t
section
variable {P : Program} {w : World} {K : PySem.W.Frag} {mg : Str → Option Value} {base : Heap} {sc : Scope} {L : (Str → Option Value) → Prop} {D : Nat} {R : Value → Prop} {x : Str} {v : Value} {pos : Pos}
theorem qe_loc (hl : sc.names.lookup x = some .local) (hv : ∀ ml, L ml → ml x = some v) (hd : (x == ("__debug__" : Str)) = false := by decide) : QE P w K mg base sc (.Name x pos) L D (fun y => y = v) := by
  intro env A' E' t ml q hs hL hr
  subst hs
  exact wpAny_Name (wpAny_loadName_local q.kind hl q.ns (hv ml hL) ⟨rfl, kq_refl t⟩) hd
theorem qe_glo {u : Value} (hl : sc.names.lookup x = some .globalImplicit) (hm : mg x = some u) (hd : (x == ("__debug__" : Str)) = false := by decide) : QE P w K mg base sc (.Name x pos) L D (fun y => y = u) := by
  intro env A' E' t ml q hs hL hr
  subst hs
  exact Calls.Name_function_global q.kind hl (Calls.loadGlobal_global (by rw [q.gl]; exact q.mod.glob.keeps q.bs) hm ⟨rfl, kq_refl t⟩) hd
theorem qe_int {i : Int} {k : Nat} : QE P w K mg base sc (.Constant (.int i) k pos) L D (fun y => ∃ t, y = .int i t) := fun _ _ _ t _ _ _ _ _ => wpAny_Constant_int ⟨⟨_, rfl⟩, kq_tok t _⟩
theorem qe_and {a b : Expr} {p q : Bool} (ha : QE P w K mg base sc a L D (fun y => y = .bool p)) (hb : QE P w K mg base sc (.BoolOp .And [b] pos) L D (fun y => y = .bool q)) : QE P w K mg base sc (.BoolOp .And [a, b] pos) L D (fun y => y = .bool (p && q)) := by
  intro env A' E' t ml c hs hL hr
  refine BoolOp_and (wpAny_mono (ha env A' E' t ml c hs hL hr) (fun y t2 hy => ?_) fun _ _ e => e)
  obtain ⟨rfl, k⟩ := hy
  refine wpAny_truthy_bool ?_
  cases p with
  | false => exact ⟨rfl, k⟩
  | true => exact wpAny_mono (hb env A' E' t2 ml (c.keeps k) hs hL hr) (fun z t3 hz => ⟨by rw [hz.1]; rfl, kq_trans k hz.2⟩) fun _ _ e => e
theorem qe_one {a : Expr} (ha : QE P w K mg base sc a L D R) {op} : QE P w K mg base sc (.BoolOp op [a] pos) L D R := fun env A' E' t ml c hs hL hr => BoolOp_one (ha env A' E' t ml c hs hL hr)
theorem qe_not {a : Expr} {p : Bool} (ha : QE P w K mg base sc a L D (fun y => y = .bool p)) : QE P w K mg base sc (.UnaryOp .Not a pos) L D (fun y => y = .bool (!p)) := by
  intro env A' E' t ml c hs hL hr
  refine UnaryOp_ (wpAny_mono (ha env A' E' t ml c hs hL hr) (fun y t2 hy => ?_) fun _ _ e => e)
  obtain ⟨rfl, k⟩ := hy
  exact not_of (wpAny_truthy_bool ⟨rfl, k⟩)
/-- a <= b <= c -/
theorem qe_le_le {a b c : Expr} {i j k : Int} (ha : QE P w K mg base sc a L D (fun y => ∃ t, y = .int i t)) (hb : QE P w K mg base sc b L D (fun y => ∃ t, y = .int j t)) (hc : QE P w K mg base sc c L D (fun y => ∃ t, y = .int k t))
    (hm : lastMarks [.LtE, .LtE] [b, c] = false := by with_unfolding_all rfl) : QE P w K mg base sc (.Compare a [.LtE, .LtE] [b, c] pos) L D (fun y => y = .bool (decide (i ≤ j) && decide (j ≤ k))) := by
  intro env A' E' t ml q hs hL hr
  refine Compare_chain (wpAny_mono (ha env A' E' t ml q hs hL hr) (fun y t1 hy => ?_) fun _ _ e => e) hm
  obtain ⟨⟨ti, rfl⟩, k1⟩ := hy
  refine chain_link (wpAny_mono (hb env A' E' t1 ml (q.keeps k1) hs hL hr) (fun y t2 hy => ?_) fun _ _ e => e)
  obtain ⟨⟨tj, rfl⟩, k2⟩ := hy
  refine PyProof.Rows.le_int (wpAny_truthy_bool ?_)
  by_cases h : i ≤ j
  · rw [decide_eq_true h]
    show wpAny _ _ _ _ _ _
    refine chain_last (wpAny_mono (hc env A' E' t2 ml (q.keeps (kq_trans k1 k2)) hs hL hr) (fun y t3 hy => ?_) fun _ _ e => e)
    obtain ⟨⟨tk, rfl⟩, k3⟩ := hy
    exact PyProof.Rows.le_int ⟨by rw [Bool.true_and], kq_trans (kq_trans k1 k2) k3⟩
  · rw [decide_eq_false h]
    exact ⟨rfl, kq_trans k1 k2⟩
/-- c in TEXT -/
theorem qe_in {a b : Expr} {c : Nat} {z : Str} (ha : QE P w K mg base sc a L D (fun y => ∃ t, y = .str ⟨#[c]⟩ t)) (hb : QE P w K mg base sc b L D (fun y => ∃ t, y = .str z t)) (hm : behindInMarks .In b = false := by with_unfolding_all rfl) :
    QE P w K mg base sc (.Compare a [.In] [b] pos) L D (fun y => y = .bool (decide (c ∈ z.cps.toList))) := by
  intro env A' E' t ml q hs hL hr
  refine wpAny_Compare1 (wpAny_mono (ha env A' E' t ml q hs hL hr) (fun y t1 hy => ?_) fun _ _ e => e) hm
  obtain ⟨⟨ti, rfl⟩, k1⟩ := hy
  refine wpAny_mono (hb env A' E' t1 ml (q.keeps k1) hs hL hr) (fun y t2 hy => ?_) fun _ _ e => e
  obtain ⟨⟨tj, rfl⟩, k2⟩ := hy
  refine PyProof.Rows.in_str ?_
  first
    | exact ⟨by rw [PySem.StrLaws.found_one], kq_trans k1 k2⟩
    | exact ⟨by rw [← PySem.StrLaws.found_one], kq_trans k1 k2⟩
theorem qe_typ {T : String} (hT : bootBuiltins x = some (.type T)) (hm : mg x = none) (hl : sc.names.lookup x = some .globalImplicit) (hn : x ≠ "__name__" := by decide) (hd : (x == ("__debug__" : Str)) = false := by decide) : QE P w K mg base sc (.Name x pos) L D (fun y => y = .type T) := by
  intro env A' E' t ml q hs hL hr
  subst hs
  obtain ⟨mb, h1, h2⟩ := q.mod.blt
  exact Calls.Name_function_global q.kind hl (Calls.loadGlobal_builtin (by rw [q.gl]; exact q.mod.glob.keeps q.bs) hm (by rw [q.bu]; exact h1.keeps q.bs) ((h2 _ hn).trans hT) ⟨rfl, kq_refl t⟩) hd
/-- isinstance(x, T) of an int -/
theorem qe_isi {a c : Expr} {i : Int} {T : String} {b : Bool} {p1 : Pos} (ha : QE P w K mg base sc a L D (fun y => ∃ t, y = .int i t)) (hc : QE P w K mg base sc c L D (fun y => y = .type T)) (hm : mg "isinstance" = none) (hl : sc.names.lookup ("isinstance" : Str) = some .globalImplicit) (hb : kitB "int" T = some b)
    (he : ∀ env, starEach [a, c] env = (false, eval a env) :: starEach [c] env := by intro _; rfl) (he2 : ∀ env, starEach [c] env = (false, eval c env) :: starEach [] env := by intro _; rfl) :
    QE P w K mg base sc (.Call (.Name "isinstance" p1) [a, c] [] pos) L D (fun y => y = .bool b) := by
  intro env A' E' t ml q hs hL hr
  obtain ⟨mb, h1, h2⟩ := q.mod.blt
  refine wpAny_Call_Name_kw (Calls.Name_function_global q.kind (by show env.scope.names.lookup _ = _; rw [hs]; exact hl) (Calls.loadGlobal_builtin (by rw [q.gl]; exact q.mod.glob.keeps q.bs) hm (by rw [q.bu]; exact h1.keeps q.bs) ((h2 _ (by decide)).trans (by decide +kernel : bootBuiltins "isinstance" = some (.builtin "isinstance"))) ?_))
  refine PyProof.Rows.callWith_builtin1 (PyProof.Rows.args_cons (wpAny_mono (ha env A' E' t ml q hs hL hr) (fun y t1 hy => ?_) fun _ _ e => e) (he env)) (he env) (by rw [he2 env]; rfl)
  obtain ⟨⟨ti, rfl⟩, k1⟩ := hy
  have q1 := q.keeps k1
  refine PyProof.Rows.args_cons (wpAny_mono (hc env A' E' t1 ml q1 hs hL hr) (fun z t2 hz => ?_) fun _ _ e => e) (he2 env)
  obtain ⟨rfl, k2⟩ := hz
  refine PyProof.Rows.args_nil ?_
  exact PySem.W.kia_one PySem.W.kitx_int (q1.mod.kin.keeps (q1.keeps k2).bs) True.intro (kit_ty hb) (fun z => nomatch z) fun tk => ⟨rfl, kq_trans (kq_trans k1 k2) (kq_tok t2 tk)⟩
/-- a def of one parameter p that hands back an expression, called with an int -/
structure DfQ (K : PySem.W.Frag) (mg : Str → Option Value) (x p : Str) (st : Stmt) (e : Expr) : Prop where
  ex : ∃ (f : Addr) (oc kV doc pm cdv ct : Value) (od an : Option Addr) (osl : Array (Option Value)) (rp : Pos), K.lookup f = some ⟨oc, od, .func (PySem.W.fnOf x x (defArgs st) (defBody st) (defScope st) .none kV doc pm an cdv ct), osl⟩ ∧ PySem.W.codeIn K cdv x = true ∧ mg x = some (.ref f) ∧
    PySem.W.keepIn K (.ref f) = true ∧ defBody st = [.Return (some e) rp] ∧ ∀ v : Value, bindArgs (PySem.W.fnOf x x (defArgs st) (defBody st) (defScope st) .none kV doc pm an cdv ct) ⟨[v], []⟩ = pure [(p, v)]
  co : (defScope st).isCoroutine = false
  gen : (defScope st).isGenerator = false
  kd : (defScope st).kind = .function
  nc : ∀ y ∈ (defScope st).names, y.2 ≠ .cell
  lp : (defScope st).names.lookup p = some .local
theorem qe_call {x p : Str} {st : Stmt} {e a : Expr} {i : Int} {b : Bool} {p1 : Pos} (F : DfQ K mg x p st e) (hl : sc.names.lookup x = some .globalImplicit) (ha : QE P w K mg base sc a L (D + 1) (fun y => ∃ t, y = .int i t))
    (hb : ∀ tok, QE P w K mg base (defScope st) e (fun ml => ml p = some (.int i tok)) D (fun y => y = .bool b)) (hd : (x == ("__debug__" : Str)) = false := by decide)
    (he : ∀ env, starEach [a] env = (false, eval a env) :: starEach [] env := by intro _; rfl) :
    QE P w K mg base sc (.Call (.Name x p1) [a] [] pos) L (D + 1) (fun y => y = .bool b) := by
  intro env A' E' t ml q hs hL hr
  obtain ⟨f, oc, kV, doc, pm, cdv, ct, od, an, osl, rp, lk, hcd, hm, hk, hbody, hbind⟩ := F.ex
  refine wpAny_Call_Name_kw (Calls.Name_function_global q.kind (by show env.scope.names.lookup _ = _; rw [hs]; exact hl) (Calls.loadGlobal_global (by rw [q.gl]; exact q.mod.glob.keeps q.bs) hm ?_) hd)
  refine PySem.W.callWith_K (h₀ := base) q.mod.kin hk (PyProof.Rows.args_cons (wpAny_mono (ha env A' E' t ml q hs hL hr) (fun y t1 hy => ?_) fun _ _ e => e) (he env)) (he env) (by rfl)
  obtain ⟨⟨tok, rfl⟩, k1⟩ := hy
  have q1 := q.keeps k1
  refine PyProof.Rows.args_nil ⟨q1.mod.kin.keeps q1.bs, ?_⟩
  have KX : K.In t1.heap := q1.mod.kin.keeps q1.bs
  refine wpAny_call (codeAny_mono (R := fun r t3 => r = .ok (.ret (.bool b)) ∧ Keeps t1 t3) ?_ fun r t3 hq => ?_)
  · refine codeAny_call_function hr.depth (KX _ _ lk) rfl F.co F.gen rfl (PySem.W.codeRec_of KX hcd) ?_
    rw [show (([] : List Value) ++ [Value.int i tok]) = [Value.int i tok] from rfl, hbind]
    refine wpAny_pure (wpAny_newFunctionEnv F.nc (fun y hy => ?_) (fun h1 hns hsb => ?_) F.kd)
    · obtain rfl : y = (p, .int i tok) := List.mem_singleton.mp hy
      exact F.lp
    · have kp : ∀ b o, t1.heap.get? b = some o → h1.get? b = some o := fun b o e => hsb.extBut b o (Nat.ne_of_lt (Heap.lt_size e)) (Heap.get?_push_of_some _ e)
      refine ⟨(q1.mod.nolimit.keeps q1.bs).keeps kp, codeAny_func ?_⟩
      have hbody2 : defBody st = [.Return (some e) rp] := hbody
      show wpAny _ _ (execs (defBody st) _) _ _ _
      rw [hbody2]
      refine wpAny_execs_cons (wpAny_Return_some (wpAny_mono (hb tok _ _ (fun _ _ => False) _ (fun y => [(p, Value.int i tok)].reverse.lookup y) ⟨F.kd, rfl, rfl, hns, fun b u e => kp _ _ (q1.bs b u e), q1.mod⟩ rfl (by simp) (hr.deeper _)) (fun y t3 hy => ?_) fun e t3 he => ?_))
      · exact ⟨by rw [hy.1], kq_trans ⟨h1, _, rfl, kp⟩ hy.2⟩
      · exact False.elim he
  · obtain ⟨rfl, k3⟩ := hq
    exact ⟨rfl, kq_trans k1 k3⟩
end
/-! ### a generator expression's element -/
theorem EnvG.qc {X : Cx} {scope : Scope} {ce : Env} {A' : Around} {t : Shared} {ml : Str → Option Value} (h : EnvG X scope ce A' t ml) (hk : scope.kind = .function) : Qc X.K X.mg X.base ce t ml :=
  ⟨by rw [h.sc]; exact hk, h.gl, h.bu, h.ns, h.base, h.mod⟩
theorem EnvG.room {X : Cx} {scope : Scope} {ce : Env} {A' : Around} {t : Shared} {ml : Str → Option Value} {D : Nat} (h : EnvG X scope ce A' t ml) (hr : Room (D + 1) X.A) : Room D A' :=
  ⟨h.hd, by have := hr.dp; have := h.dp; omega, by have := hr.un; have := h.un; omega⟩
theorem eltT_of {X : Cx} {scope : Scope} {x : Str} {elt : Expr} {pb : Nat → Bool} {D : Nat} (hk : scope.kind = .function) (hr : Room (D + 1) X.A)
    (h : ∀ (cc : Nat) (tok : Tok), QE X.prog X.w X.K X.mg X.base scope elt (fun ml => ml x = some (.str ⟨#[cc]⟩ tok)) D (fun y => y = .bool (pb cc))) : EltT X scope x elt pb :=
  fun ce A' E' cc tok t ml hE hml => h cc tok ce A' E' t ml (hE.qc hk) hE.sc hml (hE.room hr)
theorem eltI_of {X : Cx} {scope : Scope} {x : Str} {elt : Expr} {pb : Int → Bool} {D : Nat} (hk : scope.kind = .function) (hr : Room (D + 1) X.A)
    (h : ∀ (i : Int) (tok : Tok), QE X.prog X.w X.K X.mg X.base scope elt (fun ml => ml x = some (.int i tok)) D (fun y => y = .bool (pb i))) : EltI X scope x elt pb :=
  fun ce A' E' i tok t ml hE hml => h i tok ce A' E' t ml (hE.qc hk) hE.sc hml (hE.room hr)
theorem QE.imp {P : Program} {w : World} {K : PySem.W.Frag} {mg : Str → Option Value} {base : Heap} {sc : Scope} {e : Expr} {L : (Str → Option Value) → Prop} {D : Nat} {R R' : Value → Prop} (h : QE P w K mg base sc e L D R) (i : ∀ y, R y → R' y) : QE P w K mg base sc e L D R' :=
  fun env A' E' t ml q hs hL hr => wpAny_mono (h env A' E' t ml q hs hL hr) (fun y t2 hy => ⟨i y hy.1, hy.2⟩) fun _ _ e => e
def genSB (scope : Scope) (x : Str) : Bool :=
  decide (scope.kind = .function) && !scope.isCoroutine && (scope.names.all fun y => !decide (y.2 = .cell) && !decide (y.2 = .free)) && decide (scope.names.lookup (".0" : Str) = some NameKind.local) && decide (scope.names.lookup x = some NameKind.local)
theorem genS_by {env : Env} {scope : Scope} {x : Str} (h : genSB scope x = true) : GxR.GenS env scope x := by
  unfold genSB at h
  simp only [Bool.and_eq_true, Bool.not_eq_true', decide_eq_true_eq, decide_eq_false_iff_not, List.all_eq_true] at h
  obtain ⟨⟨⟨⟨h1, h2⟩, h3⟩, h4⟩, h5⟩ := h
  exact ⟨h1, h2, fun y hy => (h3 y hy).1, h4, h5, fun y hy e => absurd e (h3 y hy).2⟩
end Ub

namespace Ub
open PySem PySem.Spec PyProof.Rows L2 L2H
/-! ### where an exception is handled: lists walked, comprehensions -/
section
variable {prog : Program} {w : World} {A : Around} {E : Value → Shared → Prop} {s : Shared}
theorem list_end_hot {it l x1 : Addr} {i : Nat} {items : Array Value} {Q : Option Value → Shared → Prop} (hot : HotX.HotAt A x1 s.heap) (hi1 : it ≠ x1)
    (hit : s.heap.IsListIter it l i) (hl : s.heap.IsList l items) (hx : items[i]? = none) (hQ : ∀ h', Heap.ExtBut it s.heap h' → Q none { s with heap := h' }) : wpAny (model prog w) A (pyNext (.ref it)) Q E s := by
  obtain ⟨oi, hoi, ci, di⟩ := id hit
  obtain ⟨ol, hol, _, nl, dl⟩ := hl
  obtain ⟨hh, o1, vs1, h1, d1, c1⟩ := hot
  unfold pyNext
  refine wpAny_bind (wpAny_attempt (wpAny_callSpecial?_slot (name := Str.ofString "__next__") hit.typeIs slot_listiter_next (wpAny_call_entry slot_listiter_next hit.typeIs entry_listiter_next ?_ (args_listiter_next _))))
  show wpAny _ _ (field (.ref it) 0 >>= _) _ _ _
  refine wpAny_bind (wpAny_field hoi di (x := .ref l) rfl ?_)
  show wpAny _ _ (if (Value.ref l == Value.none) = true then _ else _) _ _ _
  rw [if_neg (show ¬ ((Value.ref l == Value.none) = true) by intro z; exact Bool.false_ne_true z)]
  show wpAny _ _ (field (.ref it) 1 >>= _) _ _ _
  refine wpAny_bind (wpAny_field hoi di (x := .int i 0) rfl ?_)
  show wpAny _ _ (seqItems? (.ref l) >>= _) _ _ _
  refine wpAny_bind (wpAny_seqItems hol dl ?_)
  simp only [Int.toNat_natCast, hx]
  refine wpAny_bind (wpAny_rule (wpAny_bind (wpAny_setField hoi di (by simp) ?_)))
  have xb : ∀ f, Heap.ExtBut it s.heap (s.heap.update it f) := fun f => (Heap.SameBut.update ..).extBut
  have xb := xb (Obj.mapFields (·.setIfInBounds 0 .none))
  generalize s.heap.update it (Obj.mapFields (·.setIfInBounds 0 .none)) = hu at xb ⊢
  show wpAny _ _ (newExc (.type "StopIteration") [] >>= _) _ _ _
  refine wpAny_bind ?_
  simp only [newExc, newTuple]
  refine wpAny_bind (wpAny_newObj_type ?_ (by size_fits))
  refine wpAny_bind (m := firstArgMember _ _) (wpAny_of_eq (a := Value.none) (by first | rfl | (simp only [firstArgMember]; rfl)) ?_)
  refine wpAny_newObj_type ?_ (by size_fits)
  have gu : hu.get? x1 = some o1 := xb x1 _ (Ne.symm hi1) h1
  refine HotX.raiseNew_hot (x1 := x1) ⟨hh, o1, vs1, Heap.get?_push_of_some _ (Heap.get?_push_of_some _ gu), d1, c1⟩ (Nat.ne_of_lt (Heap.lt_size (Heap.get?_push_of_some _ gu))) (Heap.get?_push_size _ rfl) rfl (by first | (simp; done) | (simp; omega)) ?_
  refine wpAny_bind (wpAny_isInstance (T := "StopIteration") (b := true) ⟨_, Heap.get?_update_self _ (Heap.get?_push_size _ rfl) rfl, rfl⟩ isSubtype_stop ?_)
  refine wpAny_pure (hQ _ fun b o hb e => ?_)
  have e1 := xb b o hb e
  rw [Heap.get?_update_other _ _ (Nat.ne_of_gt (Heap.lt_size (Heap.get?_push_of_some _ e1)))]
  exact Heap.get?_push_of_some _ (Heap.get?_push_of_some _ e1)
/-! ### a list walked there -/
theorem turn_listH {P : Program} {w : World} {K : PySem.W.Frag} {tg : Expr} (a it : Addr) : TurnH P w K tg (Itl K a) [it] it (fun i h => h.IsListIter it a i) where
  mem := List.mem_singleton.mpr rfl
  obj := fun i h st b hb => by
    obtain rfl : b = it := List.mem_singleton.mp hb
    obtain ⟨o, eo, _, ed⟩ := st
    exact ⟨o, eo, fun v z => by rw [ed] at z; cases z⟩
  keep := fun i h h' st kk => st.at fun o eo => kk it (List.mem_singleton.mpr rfl) o eo
  item := by
    intro X hP hw hK _ i pins s σ H E I hf st hg
    subst hP hw hK
    obtain ⟨xs, x, hq, hx⟩ := hg
    obtain ⟨its, rv, il, hz⟩ := I.list hq
    obtain ⟨u, hu, ru⟩ := rv.get hx
    obtain ⟨k0, k1, k2, k3, k4, k5⟩ := hf it (List.mem_singleton.mpr rfl)
    refine wpAny_pyNext_list_item st il.isList (x := u) (by simpa using hu) fun hn stn sb => ?_
    have J : Inv X pins σ H { s with heap := hn } := I.turned (t' := s.toks) (fun b o hb eb => (sb.2 b hb).trans eb) k0 k1 k3 k4 k5
    obtain ⟨o, eo, ec, ed⟩ := id stn
    exact ⟨u, rfl, go_of (s := { s with heap := hn }) eo ec ed (by decide) ⟨x, H, J, ru, ⟨rfl, fun ys hy => by rw [I.list_inj hy hq]; exact hx⟩, stn, fun b hb => (hf b hb).1⟩⟩
  done := by
    intro X hP hw hK hc i pins s σ H E I hf st hg
    subst hP hw hK
    obtain ⟨xs, hq, hx⟩ := hg
    obtain ⟨its, rv, il, hz⟩ := I.list hq
    obtain ⟨k0, k1, k2, k3, k4, k5⟩ := hf it (List.mem_singleton.mpr rfl)
    have lv := rv.length
    obtain ⟨q, ⟨hh, v1, d1, c1⟩, hq1⟩ := hc
    have g1 := (I.pin q (List.mem_append_left _ hq1)).1
    exact list_end_hot (x1 := q.1) ⟨hh, q.2, v1, g1, d1, c1⟩ (fun z => k5 q (List.mem_append_left _ hq1) z.symm) st il.isList (by simp; omega) fun hn eb => ⟨rfl, I.turned (t' := s.toks) (fun b o hb eo => eb b o hb eo) k0 k1 k3 k4 k5⟩
  self := fun _ _ _ _ _ st hQ => wpAny_pyIter_listiter st hQ
theorem pi_listH {X : Cx} {tg l : Expr} {tl : TE} (hl : PE X l tl) : PIH X tg l (iList X.K tl) := by
  refine ⟨fun pins s σ H R I h => ?_⟩
  refine thn (hl.run pins s σ H _ I h) fun v s1 ⟨x, H1, I1, r1, q1⟩ => ?_
  obtain ⟨a, rfl, ⟨xs, hq⟩, q⟩ := q1
  obtain rfl : v = Value.ref a := r1
  obtain ⟨its, rv, il, hz⟩ := I1.list hq
  refine wpAny_pyIter_list il.isList ?_
  refine ⟨s1.heap.objs.size, [s1.heap.objs.size], _, _, H1, rfl, I1.kept (t' := s1.toks) fun b o eo => Heap.get?_push_of_some _ eo, turn_listH a _, ⟨_, Heap.get?_push_size _ rfl, rfl, rfl⟩, fun b hb => ?_, q⟩
  obtain rfl : b = s1.heap.objs.size := List.mem_singleton.mp hb
  exact I1.fpOk (Nat.le_refl _) (I1.hok.fresh (Nat.le_refl _))
/-! ### a comprehension there -/
theorem lc_coreH {X : Cx} {pins : List (Addr × Obj)} {s : Shared} {σ : L2.St} {H : Hp} {Q : VK} {elt tg iter : Expr} {ifs : List Expr} {scope : Scope} {own : List (Str × Nat)} {pos pos' : Pos} {wi : TI} {g : TG} {tt : TT} {te : TE} {use : Option (Value → Sem Unit)} {Qf : Value → Shared → Prop}
    (hc : HotC X) (hN : X.N.Nodup) (I : Inv X pins σ H s) (hi : PIH X tg iter wi) (ok : BlkOk X.N X.env.scope scope own)
    (hg : ∀ (s : Shared) (H : Hp) (C : Addr) (cl : List (Str × Addr)) (fp : List Addr), PG (X.blk s H scope (compEnvC scope cl C X.env) fp) tg g)
    (ht : ∀ (s : Shared) (H : Hp) (C : Addr) (cl : List (Str × Addr)) (fp : List Addr), PTs (X.blk s H scope (compEnvC scope cl C X.env) fp) ifs tt)
    (he : ∀ (s : Shared) (H : Hp) (C : Addr) (cl : List (Str × Addr)) (fp : List Addr), PE (X.blk s H scope (compEnvC scope cl C X.env) fp) elt te)
    (hs : ∀ x, foldedSetIterable iter X.env x = pure x) (h : tLc wi g tt te (own.map (·.2)) σ H Q)
    (hend : ∀ D C s' m H', Inv X pins σ H' s' → Q (.ref D) H' → s'.heap.Ns C m → FpOk X pins H' C → compPost (model X.prog X.w) X.A X.xe use Qf (.ref D) C (.ok .next) s') :
    wpAny (model X.prog X.w) X.A (comprehension (.ListComp elt [⟨tg, iter, ifs, 0⟩] scope pos) scope X.env pos' (newList []) false (eval iter X.env) use) Qf X.xe s := by
  have free0 : ∀ y ∈ scope.names, y.2 = .free → ∃ c, X.env.cells.lookup y.1 = some c := fun y hy e => (ok.free y hy e).elim (fun z => I.ok.has _ (.inl z)) fun z => I.ok.has _ (.inr z)
  refine wpAny_comprehension_free (use := use) rfl hs (closure_ok free0) ok.kind (fun y hy e => by rw [ok.uniq y hy, e]) (thn (hi.run pins s σ H _ I h) fun xv s1 hx1 => thn hx1 fun itv s2 h2 => ?_)
  obtain ⟨it, fp, tn, J, H2, rfl, I2, T, st2, f2, q⟩ := h2
  refine wpAny_newObj_type (newEnv_comp ?_) (by show 0 ≤ sizeLine; exact Nat.zero_le _)
  generalize hD : s2.heap.objs.size = D
  have nD : H2 D = none := I2.hok.fresh (Nat.le_of_eq hD)
  obtain ⟨W, ⟨m0, w0⟩, turn⟩ := q D nD
  generalize hs3 : ({ s2 with heap := s2.heap.push { cls := .type "list", data := .seq ([] : List Value).toArray } } : Shared) = s3
  have h3 : s3.heap = s2.heap.push { cls := .type "list", data := .seq ([] : List Value).toArray } := by rw [← hs3]
  have I3 : Inv X pins σ (upd H2 D (.lst [])) s3 := by
    rw [← hs3]
    exact I2.laid (t' := s2.toks) (fun b o e => Heap.get?_push_of_some _ e) (Nat.le_of_eq hD) ⟨Nat.zero_le _, [], 0, .nil, by rw [← hD]; exact Heap.get?_push_size _ rfl⟩
  have f3 : ∀ b ∈ fp, FpOk X pins (upd H2 D (.lst [])) b ∧ b < s3.heap.objs.size := fun b hb => by
    obtain ⟨o, eo, _⟩ := T.obj _ _ st2 b hb
    have lt2 := Heap.lt_size eo
    have nbD : b ≠ D := by rw [← hD]; exact Nat.ne_of_lt lt2
    exact ⟨⟨(upd_ne nbD).trans (f2 b hb).1, (f2 b hb).2⟩, by rw [h3, Heap.size_push]; exact Nat.lt_succ_of_lt lt2⟩
  have st3 : tn 0 s3.heap := T.keep _ _ _ st2 fun b _ o e => by rw [h3]; exact Heap.get?_push_of_some _ e
  have I4 := block_start I3 ok hN f3
  have pg := hg s3 (upd H2 D (.lst [])) s3.heap.objs.size (cellsFrom (s3.heap.objs.size + 1) scope.names (cloFrom X.env.cells scope.names [])) fp
  have pt := ht s3 (upd H2 D (.lst [])) s3.heap.objs.size (cellsFrom (s3.heap.objs.size + 1) scope.names (cloFrom X.env.cells scope.names [])) fp
  have pe := he s3 (upd H2 D (.lst [])) s3.heap.objs.size (cellsFrom (s3.heap.objs.size + 1) scope.names (cloFrom X.env.cells scope.names [])) fp
  show codeAny _ _ (.compStart (.ListComp elt [⟨tg, iter, ifs, 0⟩] scope pos) 0 (.ref it) (.ref D) (compEnvC scope (cellsFrom (s3.heap.objs.size + 1) scope.names (cloFrom X.env.cells scope.names [])) s3.heap.objs.size X.env))
    (compPost (model X.prog X.w) X.A X.xe use Qf (.ref D) s3.heap.objs.size) { s3 with heap := pushCells (s3.heap.push { cls := .type "dict", data := .dict #[] }) scope.names }
  have nfp : ∀ b ∈ fp, (upd H2 D (.lst [])) b = none := fun b hb => (f3 b hb).1.1
  have kp4 : ∀ b o, s3.heap.get? b = some o → (pushCells (s3.heap.push { cls := .type "dict", data := .dict #[] }) scope.names).get? b = some o := fun b o e => pushCells_keeps _ _ _ _ (Heap.get?_push_of_some _ e)
  -- the handled exception is known in the block, too
  obtain ⟨p, hot, hp⟩ := hc
  have P3 := I3.pin p (List.mem_append_left _ hp)
  generalize hce : compEnvC scope (cellsFrom (s3.heap.objs.size + 1) scope.names (cloFrom X.env.cells scope.names [])) s3.heap.objs.size X.env = ce at I4 pg pt pe ⊢
  have cL : ce.locals = s3.heap.objs.size := by rw [← hce]; rfl
  generalize hH3 : upd H2 D (.lst []) = H3 at I3 I4 pg pt pe w0 nfp f3 P3
  generalize hs4 : ({ s3 with heap := pushCells (s3.heap.push { cls := .type "dict", data := .dict #[] }) scope.names } : Shared) = s4 at I4 ⊢
  have st4 : tn 0 s4.heap := T.keep _ _ _ st3 fun b _ o e => by rw [← hs4]; exact kp4 b o e
  have I4p : Inv (X.blk s3 H3 scope ce fp) [p] (wipe σ (own.map (·.2))) H3 s4 := I4.pins_of fun r hr => by
    obtain rfl : r = p := List.mem_singleton.mp hr
    refine ⟨by rw [← hs4]; exact kp4 _ _ P3.1, P3.2.1, ?_, fun hm => ?_, P3.2.2.2.2⟩
    · show r.1 ≠ ce.locals
      rw [cL]
      exact Nat.ne_of_lt (Heap.lt_size P3.1)
    · exact (List.mem_cons.mp (I3.stkSub r.1 hm)).elim P3.2.2.1 P3.2.2.2.1
  have pfp : ∀ b ∈ fp, p.1 ≠ b := fun b hb z => (f3 b hb).1.2.2.2.2.2 p (List.mem_append_left _ hp) z
  have fpk : ∀ {σ' : L2.St} {H' : Hp} {s' : Shared}, Inv (X.blk s3 H3 scope ce fp) [p] σ' H' s' → (∀ b ∈ fp, H' b = none) → ∀ b ∈ fp, FpOk (X.blk s3 H3 scope ce fp) [p] H' b := fun {σ' H' s'} I' hn b hb =>
    ⟨hn b hb, (I'.ok.exf b hb).1, I'.ok.exfs b hb, .inl hb, fun x c e => (I'.ok.exf b hb).2 x c e, fun r hr => by
      obtain rfl : r = p := List.mem_singleton.mp (show r ∈ [p] from hr)
      exact pfp b hb⟩
  -- the block's context with the handled exception among its pins
  let Y : Cx := (X.blk s3 H3 scope ce fp).tr [p] (fun _ _ => False)
  have toY : ∀ {σ' : L2.St} {H' : Hp} {s' : Shared}, Inv (X.blk s3 H3 scope ce fp) [p] σ' H' s' → Inv Y [] σ' H' s' := fun {σ' H' s'} I' => I'.toTry _
  have ofY : ∀ {σ' : L2.St} {H' : Hp} {s' : Shared}, (X.blk s3 H3 scope ce fp).Ok → Inv Y [] σ' H' s' → Inv (X.blk s3 H3 scope ce fp) [p] σ' H' s' := fun {σ' H' s'} okB I' => Inv.ofTry (X := X.blk s3 H3 scope ce fp) (pins := [p]) (xe := fun _ _ => False) I' okB
  have hcY : HotC Y := ⟨p, hot, List.mem_singleton.mpr rfl⟩
  have fpY : ∀ {H' : Hp}, (∀ b ∈ fp, FpOk (X.blk s3 H3 scope ce fp) [p] H' b) → ∀ b ∈ fp, FpOk Y [] H' b := fun {H'} hf b hb => by
    obtain ⟨a0, a1, a2, a3, a4, a5⟩ := hf b hb
    exact ⟨a0, a1, a2, a3, a4, fun r hr => a5 r (by rw [List.append_nil] at hr; exact hr)⟩
  have loop : codeAny (model X.prog X.w) X.A (.compLoop (.ListComp elt [⟨tg, iter, ifs, 0⟩] scope pos) 0 (.ref it) (.ref D) ce) (compPost (model X.prog X.w) X.A X.xe use Qf (.ref D) s3.heap.objs.size) s4 := by
    refine compLoop_any (fun n s' => ∃ i H', Inv (X.blk s3 H3 scope ce fp) [p] (wipe σ (own.map (·.2))) H' s' ∧ tn i s'.heap ∧ (∀ b ∈ fp, H' b = none) ∧ W i n H') ?_ m0 ⟨0, H3, I4p, st4, nfp, w0⟩
    rintro n s5 ⟨i, H5, I5, st5, n5, w5⟩
    rcases turn i n H5 w5 with ⟨hstop, qq⟩ | ⟨hgo, Nx, hNx, hstep⟩
    · refine thnF (T.done Y rfl rfl rfl hcY i [] s5 _ H5 (fun _ _ => False) (toY I5) (fpY (fpk I5 n5)) st5 hstop) fun r s6 ⟨hr, I6y⟩ => ?_
      subst hr
      have I6 := ofY I5.ok I6y
      have I7 : Inv X pins σ H5 s6 := I3.call' (ch := fp) I6.os I6.base I6.hok I6.bare fun b hb => ⟨(f3 b hb).1.2.2.2.1, (f3 b hb).1.2.1, (f3 b hb).1.2.2.2.2.1, (f3 b hb).1.2.2.2.2.2⟩
      have nC : H5 s3.heap.objs.size = none := by
        have z : H5 ce.locals = none := I6.free
        rw [cL] at z
        exact z
      obtain ⟨m, hnm, _⟩ := I6.loc
      have hnm : s6.heap.Ns ce.locals m := hnm
      rw [cL] at hnm
      exact hend D s3.heap.objs.size s6 m H5 I7 qq hnm (I3.fpOk (Nat.le_refl _) nC)
    · refine thnF (T.item Y rfl rfl rfl hcY i [] s5 _ H5 (fun _ _ => False) (toY I5) (fpY (fpk I5 n5)) st5 hgo) fun r s6 ⟨u, hr, h6⟩ => ?_
      subst hr
      refine thnF h6 fun _ s7 ⟨x, H7, I7y, r7, y7, st7, n7⟩ => ?_
      have I7 := ofY I5.ok I7y
      have I7q := I7.pinned (fpk I7 n7) (T.obj _ _ st7)
      refine thnF (pg.run _ s7 _ H7 x u _ I7q r7 (hstep x H7 y7)) fun _ s8 ⟨σ8, H8, I8, hw8, q8⟩ => ?_
      refine thnF (pt.run _ s8 σ8 H8 _ I8 q8) fun b s9 ⟨H9, I9, q9⟩ => ?_
      have fin : ∀ {s' : Shared} {H' : Hp}, Inv (X.blk s3 H3 scope ce fp) ([p] ++ pinsAt fp s7.heap) σ8 H' s' → Nx H' → ∃ m, m < n ∧ ∃ i H', Inv (X.blk s3 H3 scope ce fp) [p] (wipe σ (own.map (·.2))) H' s' ∧ tn i s'.heap ∧ (∀ b ∈ fp, H' b = none) ∧ W i m H' := fun {s' H'} I' nx => by
        obtain ⟨m', hm, w'⟩ := hNx H' nx
        have pin' : ∀ b ∈ fp, ∀ o, s7.heap.get? b = some o → s'.heap.get? b = some o ∧ H' b = none := fun b hb o e =>
          let z := I'.pin (b, o) (List.mem_append_right _ (List.mem_append_right _ (mem_pinsAt hb e)))
          ⟨z.1, z.2.1⟩
        have lw : (wipe σ (own.map (·.2))).length = σ8.length := by rw [← hw8, wipe_length]
        refine ⟨m', hm, i + 1, H', (I'.unpinned (pins := [p])).weak lw (fun j v e => ?_), T.keep _ _ _ st7 fun b hb o e => (pin' b hb o e).1, fun b hb => ?_, w'⟩
        · rw [← hw8] at e
          exact (wipe_some e).1
        · obtain ⟨o, eo, _⟩ := T.obj _ _ st7 b hb
          exact (pin' b hb o eo).2
      cases b with
      | false =>
        simp only [Bool.false_eq_true, if_false] at q9 ⊢
        exact fin I9 q9
      | true =>
        simp only [if_true] at q9 ⊢
        refine thnF (pe.run _ s9 σ8 H9 _ I9 q9) fun z s10 ⟨yv, H10, I10, r10, acc, hD10, hz10, nx⟩ => ?_
        exact app_ok (X := X.blk s3 H3 scope ce fp) I10 hD10 hz10 r10 fun s11 I11 => fin I11 nx
  exact codeAny_compStart_list loop (T.self X.A 0 _ _ _ st4 loop)
theorem pe_lcH {X : Cx} {elt tg iter : Expr} {ifs : List Expr} {scope : Scope} {own : List (Str × Nat)} {pos : Pos} {wi : TI} {g : TG} {tt : TT} {te : TE} (hc : HotC X) (hN : X.N.Nodup) (hi : PIH X tg iter wi) (ok : BlkOk X.N X.env.scope scope own)
    (hg : ∀ (s : Shared) (H : Hp) (C : Addr) (cl : List (Str × Addr)) (fp : List Addr), PG (X.blk s H scope (compEnvC scope cl C X.env) fp) tg g)
    (ht : ∀ (s : Shared) (H : Hp) (C : Addr) (cl : List (Str × Addr)) (fp : List Addr), PTs (X.blk s H scope (compEnvC scope cl C X.env) fp) ifs tt)
    (he : ∀ (s : Shared) (H : Hp) (C : Addr) (cl : List (Str × Addr)) (fp : List Addr), PE (X.blk s H scope (compEnvC scope cl C X.env) fp) elt te)
    (hs : ∀ x, foldedSetIterable iter X.env x = pure x := by intro _; rfl) :
    PE X (.ListComp elt [⟨tg, iter, ifs, 0⟩] scope pos) (tLc wi g tt te (own.map (·.2))) := by
  refine ⟨fun pins s σ H Q I h => ?_⟩
  rw [eval_ListComp]
  refine lc_coreH hc hN I hi ok hg ht he hs h fun D C s' m H' I' q hn f => ⟨m, hn, fun hx sb => ?_⟩
  obtain ⟨a0, a1, a2, a3, a4, a5⟩ := f
  exact ⟨.ref D, H', I'.turned (t' := s'.toks) (fun b o hb e => (sb.2 b hb).trans e) a0 a1 a3 a4 a5, rfl, q⟩
end
end Ub

namespace Ub
open PySem PySem.Spec PyProof.Rows L2 L2H
/-! ### a def called where an exception is handled, its promise told of that exception -/
structure FnX (P : Program) (w : World) (K : PySem.W.Frag) (mg : Str → Option Value) (base : Heap) (k : Nat) (f : Addr) (fd : FuncData) (ps : List Str) (sp : Addr × Obj → Sp) : Prop where
  len : ∀ p vs H Q E, sp p vs H Q E → vs.length = ps.length
  run : ∀ (A : Around) (outer : List Env) (s : Shared) (H : Hp) (args : Args) (us : List Value) (vs : List V) (Q : VK) (E : XK) (p : Addr × Obj), RoomH k A → Hot1 A p → PinOk outer H s p → Env0 P w K mg base A outer s H → BindsTo s fd args (ps.zip us) → Vals vs us →
    sp p vs H Q E → codeAny (model P w) A (.call (.ref f) args) (CR CX0 outer P w H s Q E) s
structure KpX (P : Program) (w : World) (K : PySem.W.Frag) (mg : Str → Option Value) (base : Heap) (k : Nat) (x : Str) (ps : List Str) (sp : Addr × Obj → Sp) : Prop where
  ex : ∃ (f : Addr) (fd : FuncData), mg x = some (.ref f) ∧ PySem.W.keepIn K (.ref f) = true ∧ L2.Binds K fd ps [] ∧ FnX P w K mg base k f fd ps sp
theorem Df.okX {P : Program} {w : World} {K : PySem.W.Frag} {mg : Str → Option Value} {base : Heap} {x : Str} {st : Stmt} {N ps : List Str} {k : Nat} {sp : Addr × Obj → Sp} (D : Df K mg x st ps) (S : FnScope N ps (defScope st))
    (len : ∀ p vs H Q E, sp p vs H Q E → vs.length = ps.length)
    (hbody : ∀ (f : Addr) (cdv : Value) (A : Around) (outer : List Env) (s : Shared) (H : Hp) (vs : List V) (Q : VK) (E : XK) (p : Addr × Obj), Hot1 A p → RoomH k (A.deeper (envOfC x (defScope st) s.heap.objs.size f cdv)) → sp p vs H Q E →
      ∃ t, PSs (cxH CX0 P w K mg base N x (defScope st) f cdv A outer s H E p).nox (defBody st) t ∧ t { nx := fun _ H' => Q .non H', rt := Q } (L2.start N vs) H) :
    KpX P w K mg base (k + 1) x ps sp := by
  obtain ⟨f, fd, F, hm, hb⟩ := D.ex
  refine ⟨f, fd, hm, F.kp, hb, ⟨len, fun A outer s H args us vs Q E p hr hot hpin e0 hbi r hsp => ?_⟩⟩
  obtain ⟨oc, od, kV, doc, pm, an, cdv, ct, osl, rfl, lk, hcd⟩ := F.ex
  have hlen := len _ _ _ _ _ hsp
  have kb : ∀ b o, base.get? b = some o → s.heap.get? b = some o := fun b o e => (e0.bs b o e).1
  have KX : K.In s.heap := e0.mod.kin.keeps kb
  have lim : s.heap.NoLimit := e0.mod.nolimit.keeps kb
  have hkind : ∀ y ∈ ps.zip us, (defScope st).names.lookup y.1 = some .local ∨ ((defScope st).names.lookup y.1 = some .cell ∧ ((cellsFrom (s.heap.objs.size + 1) (defScope st).names []).lookup y.1).isSome = true) := fun y hy =>
    (S.par y.1 (List.of_mem_zip (show (y.1, y.2) ∈ ps.zip us from hy)).1).elim .inl fun q => .inr ⟨q, PySem.W.cellsFrom_some _ _ _ (.inl q)⟩
  refine codeAny_call_function hr.depth (KX _ _ lk) rfl S.co S.gen rfl (PySem.W.codeRec_of KX hcd) (hbi _ _ _ _ ?_)
  refine wpAny_newFunctionEnv_cells S.kind hkind fun env he s1 xx => ?_
  subst he
  refine ⟨lim.keeps xx.toInCall.keep, codeAny_func ?_⟩
  obtain ⟨t, ht, hq⟩ := hbody f cdv A outer s H vs Q E p hot (hr.deeper _) hsp
  have I : Inv (cxH CX0 P w K mg base N x (defScope st) f cdv A outer s H E p) [] (L2.start N vs) H s1 := inv_startH S hpin e0 hlen r xx
  refine wpAny_mono (ht.nox.run [] s1 (L2.start N vs) H _ I hq) (fun fl s' hs => ?_) fun e s' hs => hs
  have out : ∀ {σ' : L2.St} {H' : Hp} {v : V} {u : Value}, Inv (cxH CX0 P w K mg base N x (defScope st) f cdv A outer s H E p) [] σ' H' s' → RelV v u → Q v H' → CE outer P w H s Q u s' :=
    fun {σ' H' v u} J rv q => ⟨v, H', J.os, J.bare, J.base, J.hok, rv, q⟩
  cases fl with
  | ret u =>
    obtain ⟨v, σ', H', J, rv, q⟩ := hs
    exact out J rv q
  | next =>
    obtain ⟨σ', H', J, q⟩ := hs
    exact out (v := V.non) (u := Value.none) J rfl q
  | brk => exact hs.elim fun _ z => z.elim fun _ z => z.2.elim
  | cont => exact hs.elim fun _ z => z.elim fun _ z => z.2.elim
section
variable {X : Cx} {k : Nat} {ps : List Str} {x : Str} {q pos : Pos} {e : Expr} {es : List Expr} {t : TA} {p : Addr × Obj}
theorem pe_callX {sp : Addr × Obj → Sp} (F : KpX X.prog X.w X.K X.mg X.base k x ps sp) (hr : RoomH k X.A) (hot : Hot1 X.A p) (hp : p ∈ X.pn) (ha : PA X (e :: es) t) (hg : Gl X x := by rfl) (hdb : (x == ("__debug__" : Str)) = false := by decide)
    (he : starEach (e :: es) X.env = (false, eval e X.env) :: starEach es X.env := by rfl) (hpl : (backTo pos (starEach es X.env)).any (·.1) = false := by rfl) :
    PE X (.Call (.Name x q) (e :: es) [] pos) (tCall (sp p) [] E0 t) := by
  obtain ⟨f, fd, hm, hk, hb, F⟩ := F.ex
  refine ⟨fun pins s σ H Q I h => ?_⟩
  refine wpAny_Call_Name_kw (ld_glob I hg hm ?_ hdb)
  refine PySem.W.callWith_K (h₀ := X.base) I.ok.mod.kin hk (thn (ha.run pos pins s σ H _ I h) fun us s1 ⟨vs, H1, I1, r, qq⟩ => ⟨I1.kIn, ?_⟩) he hpl
  have qq : sp p vs H1 Q E0 := by
    have z : sp p (vs ++ []) H1 Q E0 := qq
    rw [List.append_nil] at z
    exact z
  have hl : us.length = ps.length := by rw [← r.length]; exact F.len _ _ _ _ _ qq
  have b := hb s1 us I1.kIn (by rw [List.append_nil]; exact hl)
  rw [List.append_nil] at b
  have P1 := I1.pin p (List.mem_append_left _ hp)
  have hpin : PinOk X.stack H1 s1 p := ⟨P1.1, P1.2.1, fun hm => (List.mem_cons.mp (I1.stkSub p.1 hm)).elim P1.2.2.1 P1.2.2.2.1, P1.2.2.2.2⟩
  refine wpAny_call (codeAny_mono (F.run X.A X.stack s1 H1 ⟨us, []⟩ us vs Q E0 p hr hot hpin I1.env0 b r qq) fun r s' hq => ?_)
  cases r with
  | error e => exact (show False from hq).elim
  | ok fl =>
    cases fl with
    | ret u => exact I1.after hq
    | next => exact False.elim hq
    | brk => exact False.elim hq
    | cont => exact False.elim hq
/-- isinstance of the handled exception, an object without attributes of its own -/
theorem call_isX {D : Addr} (C : ExcC X.K D) (hz : Zc (.ref D) none p.2) (hf : ∃ vs, p.2.data = .fields vs) (hp : p ∈ X.pn) : CallR X (.builtin "isinstance") (rIsE X.K D p.1) := by
  intro pins s σ H xs us Q I r h
  obtain ⟨c, cv, b, rfl, hcv, hk, q⟩ := h
  obtain ⟨u1, u2, rfl, r1, r2⟩ := vals2 r
  obtain rfl : u1 = Value.ref p.1 := r1
  obtain rfl := hcv _ r2
  have hget := (I.pin p (List.mem_append_left _ hp)).1
  obtain ⟨vs, hv⟩ := hf
  have J : PySem.W.InstAt s.heap p.1 p.2 D none := by
    obtain ⟨pa, oc, od, oda, osl⟩ := p
    obtain ⟨h1, h2⟩ := hz
    dsimp only at h1 h2 hv hget
    subst h1 h2 hv
    exact ⟨hget, rfl, rfl, trivial⟩
  exact PySem.W.kia_one (PySem.W.handS_kitx_exc C.hg C.hk C.hs C.hd C.ha C.hn C.ht C.hm) I.kIn J hk (fun z => nomatch z) fun tk => ⟨.bl b, H, I.kept (t' := tk) fun _ _ z => z, rfl, q⟩
end
theorem roomH_units {k : Nat} {A : Around} (hr : RoomH k A) : A.units + 64 < cLine := by
  have := hr.un
  omega
end Ub

namespace Ub
open PySem PySem.Spec PyProof.Rows L2
/-! ### defs that may refuse -/
theorem Df.okN {P : Program} {w : World} {K : PySem.W.Frag} {mg : Str → Option Value} {base : Heap} {x : Str} {st : Stmt} {N ps : List Str} {k : Nat} {sp : Sp} (D : Df K mg x st ps) (S : FnScope N ps (defScope st))
    (len : ∀ vs H Q E, sp vs H Q E → vs.length = ps.length)
    (hbody : ∀ (f : Addr) (cdv : Value) (A : Around) (outer : List Env) (s : Shared) (H : Hp) (vs : List V) (Q : VK) (E : XK), Room k (A.deeper (envOfC x (defScope st) s.heap.objs.size f cdv)) → sp vs H Q E →
      ∃ t, PSs (cxOf (L2N.CX P w) P w K mg base N x (defScope st) f cdv A outer s H E) (defBody st) t ∧ t { nx := fun _ H' => Q .non H', rt := Q } (start N vs) H) :
    Kp P w K mg base (L2N.CX P w) (k + 1) x ps sp := by
  obtain ⟨f, fd, F, hm, hb⟩ := D.ex
  obtain ⟨oc, od, kV, doc, pm, an, cdv, ct, osl, rfl, lk, hcd⟩ := F.ex
  exact ⟨f, _, hm, F.kp, hb, fn_of lk hcd S len fun A outer s H vs Q E hr hsp => hbody f cdv A outer s H vs Q E hr hsp⟩
theorem DfC.okN {P : Program} {w : World} {K : PySem.W.Frag} {mg : Str → Option Value} {base : Heap} {x : Str} {st : Stmt} {N ps : List Str} {c : Addr} {k : Nat} {sp : Sp} (D : DfC K mg x st ps c) (S : FnScope N ps (defScope st))
    (len : ∀ vs H Q E, sp vs H Q E → vs.length = ps.length)
    (hbody : ∀ (f : Addr) (A : Around) (outer : List Env) (s : Shared) (H : Hp) (vs : List V) (Q : VK) (E : XK), Room k (A.deeper (envOfC x (defScope st) s.heap.objs.size f (.ref c))) → sp vs H Q E →
      ∃ t, PSs (cxOf (L2N.CX P w) P w K mg base N x (defScope st) f (.ref c) A outer s H E) (defBody st) t ∧ t { nx := fun _ H' => Q .non H', rt := Q } (start N vs) H) :
    Kp P w K mg base (L2N.CX P w) (k + 1) x ps sp := by
  obtain ⟨f, oc, kV, doc, pm, ct, od, an, osl, l, hc, hm, hk, hb⟩ := D.ex
  exact ⟨f, _, hm, hk, hb, fn_of l hc S len fun A outer s H vs Q E hr hsp => hbody f A outer s H vs Q E hr hsp⟩
/-- the same, its function object told -/
theorem okF {P : Program} {w : World} {K : PySem.W.Frag} {mg : Str → Option Value} {base : Heap} {x : Str} {st : Stmt} {N ps : List Str} {c f : Addr} {k : Nat} {sp : Sp} {oc kV doc pm ct : Value} {od an : Option Addr} {osl : Array (Option Value)}
    (l : K.lookup f = some ⟨oc, od, .func (PySem.W.fnOf x x (defArgs st) (defBody st) (defScope st) .none kV doc pm an (.ref c) ct), osl⟩) (hc : PySem.W.codeIn K (.ref c) x = true) (S : FnScope N ps (defScope st)) (len : ∀ vs H Q E, sp vs H Q E → vs.length = ps.length)
    (hbody : ∀ (A : Around) (outer : List Env) (s : Shared) (H : Hp) (vs : List V) (Q : VK) (E : XK), Room k (A.deeper (envOfC x (defScope st) s.heap.objs.size f (.ref c))) → sp vs H Q E →
      ∃ t, PSs (cxOf CX0 P w K mg base N x (defScope st) f (.ref c) A outer s H E).nox (defBody st) t ∧ t { nx := fun _ H' => Q .non H', rt := Q } (start N vs) H) :
    FnOk P w K mg base CX0 (k + 1) f (PySem.W.fnOf x x (defArgs st) (defBody st) (defScope st) .none kV doc pm an (.ref c) ct) ps sp := by
  refine fn_of l hc S len fun A outer s H vs Q E hr hsp => ?_
  obtain ⟨t, h, q⟩ := hbody A outer s H vs Q E hr hsp
  exact ⟨t, h.nox, q⟩
/-- what a callee lets out, a def lets out -/
theorem passN {P : Program} {w : World} {K : PySem.W.Frag} {mg : Str → Option Value} {base : Heap} {N : List Str} {q : Str} {sc : Scope} {f : Addr} {cd : Value} {A : Around} {outer : List Env} {s : Shared} {H : Hp} {E : XK} :
    Passes (L2N.CX P w) (cxOf (L2N.CX P w) P w K mg base N q sc f cd A outer s H E) E :=
  L2N.passes_call (L2N.takes_of rfl rfl rfl rfl) fun _ _ _ _ h => h
/-! ### a lambda without parameters is made; its table may have grown -/
section
variable {X : Cx} {pins : List (Addr × Obj)} {σ : L2.St} {H : Hp} {s : Shared}
theorem lam_make3 {c P : Addr} {params : Arguments} {body : Expr} {scope : Scope} {pos : Pos} {E Q : Value → Shared → Prop} (I : Inv X pins σ H s) (TB : LamX.TabB X.base X.mg c P) (hcode : X.env.code = .ref c) (hT : LamX.TabS H P (X.env.qual ++ "<lambda>"))
    (hdef : defaultsOf params X.env = ([], [])) (hfree : ∀ y ∈ scope.names, y.2 = .free → ∃ c, X.env.cells.lookup y.1 = some c)
    (h : ∀ (f c' : Addr) (pm ctv : Value) (H1 : Hp) (s1 : Shared), Inv X pins σ H1 s1 → (∀ b o, b ≠ P → H b = some o → H1 b = some o) → LamX.TabS H1 P (X.env.qual ++ "<lambda>") →
      s1.heap.get? f = some (PySem.W.kla_obj "<lambda>" (X.env.qual ++ "<lambda>") params body scope (cloFrom X.env.cells scope.names []) pm c' ctv) → H1 f = none → (f ≠ X.env.locals ∧ f ∉ X.fs) → H1 c' = some (LamX.CodeO c' (X.env.qual ++ "<lambda>")) → Q (.ref f) s1) :
    wpAny (model X.prog X.w) X.A (eval (.Lambda params body scope pos) X.env) Q E s := by
  obtain ⟨ps, hP, ht, ha⟩ := hT
  refine PySem.W.kla_eval hdef ?_
  have bmP : s.heap.BuiltinsAt X.mg P := TB.bm.keeps I.bk
  have hPs : s.heap.get? P = some { cls := .none, data := .fields ps } := I.hok P _ hP
  have notF : ∀ f, s.heap.objs.size ≤ f → f ≠ X.env.locals ∧ f ∉ X.fs := fun f hf => ⟨fun e => by
    have h1 := I.lt
    rw [← e] at h1
    exact Nat.lt_irrefl _ (Nat.lt_of_lt_of_le h1 hf), I.nofs hf⟩
  cases hc : codeAmong pos ps.toList with
  | some cv =>
    obtain ⟨c', rfl, hco⟩ := ha pos cv hc
    refine PySem.W.kla_makeFunctionHit (mg := X.mg) (c := c) (P := P) (ps := ps) (closure_ok hfree) I.ok.glob (I.mod.glob.keeps I.bk) hcode (TB.code.keeps I.bk) hPs ht hc bmP fun ctv hn tk hx hsz => ?_
    exact h hn.objs.size c' ((X.mg "__name__").getD .none) ctv H _ (I.kept fun b o e => Heap.get?_push_of_some _ (hx b o e)) (fun _ _ _ e => e) ⟨ps, hP, ht, ha⟩ (Heap.get?_push_size _ rfl) (I.hok.fresh hsz) (notF _ hsz) hco
  | none =>
    refine PySem.W.kla_makeFunction (mg := X.mg) (c := c) (P := P) (ps := ps) (closure_ok hfree) I.ok.glob (I.mod.glob.keeps I.bk) hcode (TB.code.keeps I.bk) hPs ht hc TB.gP bmP fun c' ctv hn tk hx hge hlt hrec htb => ?_
    obtain ⟨c2, oc, vs, tq, e2, hoc, hd, hv⟩ := hrec
    cases e2
    have hsz : s.heap.objs.size ≤ hn.objs.size := Nat.le_trans hge (Nat.le_of_lt hlt)
    have nC : H c' = none := I.hok.fresh hge
    have J := LamX.inv_table (t' := tk) (more := #[rawInt pos.line, rawInt pos.col, .ref c']) (h' := hn.push (PySem.W.kla_obj "<lambda>" (X.env.qual ++ "<lambda>") params body scope (cloFrom X.env.cells scope.names []) ((X.mg "__name__").getD .none) c' ctv)) (q := X.env.qual ++ "<lambda>") I hP
      (fun b o hb e => Heap.get?_push_of_some _ (hx b o hb e)) (Heap.get?_push_of_some _ htb) hge ⟨oc, vs, tq, Heap.get?_push_of_some _ hoc, hd, hv⟩
    have keepH : ∀ b o, b ≠ P → H b = some o → upd (upd H P (.tbl (ps ++ #[rawInt pos.line, rawInt pos.col, .ref c']))) c' (LamX.CodeO c' (X.env.qual ++ "<lambda>")) b = some o := fun b o hb e => by
      rw [upd_ne (ne_of_none e nC), upd_ne hb]
      exact e
    have eL : (ps ++ #[rawInt pos.line, rawInt pos.col, .ref c']).toList = ps.toList ++ [rawInt pos.line, rawInt pos.col, .ref c'] := by simp
    refine h hn.objs.size c' ((X.mg "__name__").getD .none) ctv _ _ J keepH ⟨_, by rw [upd_ne (ne_of_none hP nC), upd_same], by rw [eL]; exact PySem.TriplesOk_snoc _ _ _ _ ht, fun p' cv hcv => ?_⟩ (Heap.get?_push_size _ rfl) ?_ (notF _ hsz) upd_same
    · rw [eL] at hcv
      rcases LamX.among_app _ ht hcv with z | z
      · obtain ⟨c0, e1, e2⟩ := ha p' cv z
        exact ⟨c0, e1, keepH _ _ (fun zz => by rw [zz, hP] at e2; exact LamX.codeO_ne ps (Option.some.inj e2).symm) e2⟩
      · exact ⟨c', z, upd_same⟩
    · rw [upd_ne (Nat.ne_of_gt hlt), upd_ne (Nat.ne_of_gt (Nat.lt_of_lt_of_le (Heap.lt_size hPs) hsz))]
      exact I.hok.fresh hsz
end
/-- the stable part is stable beside a lambda that was made -/
theorem Ok.lam {T : Tb} {B H H1 : Hp} {P : Addr} {q : Str} (k : Ok T B H) (hP : (P, q) ∈ T.l) (hu : ∀ r ∈ T.l, r.1 = P → r.2 = q) (h : ∀ b o, b ≠ P → H b = some o → H1 b = some o) (t : LamX.TabS H1 P q) : Ok T B H1 := by
  obtain ⟨ps0, h0, _⟩ := k.tl _ hP
  have nB : B P = none := by
    cases e : B P with
    | none => rfl
    | some o => exact absurd (by rw [e, ← k.ex _ _ e, h0]) (k.nt P ps0)
  refine ⟨fun a o e => h a o (ne_of_none e nB) (k.ex _ _ e), k.nt, fun g hg => ?_, fun r hr => ?_⟩
  · obtain ⟨ps, h1, h2⟩ := k.tg g hg
    exact ⟨ps, h g _ (T.dis g hg _ hP) h1, h2⟩
  · by_cases hr2 : r.1 = P
    · rw [hr2, hu r hr hr2]
      exact t
    · obtain ⟨ps, h1, h2, h3⟩ := k.tl r hr
      refine ⟨ps, h _ _ hr2 h1, h2, fun pos cv hc => ?_⟩
      obtain ⟨c, e1, e2⟩ := h3 pos cv hc
      exact ⟨c, e1, h _ _ (fun z => by rw [z, h0] at e2; exact LamX.codeO_ne ps0 (Option.some.inj e2).symm) e2⟩
/-! ### the lambda called by the def that got it -/
/-- the context of its body -/
def lamCxN (X : Cx) (A : Around) (outer : List Env) (s : Shared) (H : Hp) (E : XK) (scope : Scope) (f c' : Addr) : Cx :=
  (LamX.lamCx X A outer s H E scope f c').wish fun e s' => wpAny (model X.prog X.w) (A.deeper (LamX.lamEnv X scope s.heap.objs.size f c')) (leaving (LamX.lamEnv X scope s.heap.objs.size f c') e)
    (fun _ s'' => L2N.CX X.prog X.w outer H s E e s'') (fun e' s'' => L2N.CX X.prog X.w outer H s E e' s'') s'
theorem lamN_takes {X : Cx} {A : Around} {outer : List Env} {s : Shared} {H : Hp} {E : XK} {scope : Scope} {f c' : Addr} : L2N.Takes (lamCxN X A outer s H E scope f c') (fun cls d _ H' => E cls d H') := L2N.takes_of rfl rfl rfl rfl
theorem lamN_pass {X : Cx} {A : Around} {outer : List Env} {s : Shared} {H : Hp} {E : XK} {scope : Scope} {f c' : Addr} : Passes (L2N.CX X.prog X.w) (lamCxN X A outer s H E scope f c') E := L2N.passes_call lamN_takes fun _ _ _ _ h => h
section
variable {X : Cx} {pins : List (Addr × Obj)} {σ : L2.St} {H : Hp} {s : Shared}
theorem act3 {CXg : CXT} {Eg : XK} {Ng : List Str} {qg : Str} {sg : Scope} {g f c' : Addr} {cdg pm ctv : Value} {params : Arguments} {body : Expr} {scope : Scope} {k i : Nat} {a : Str} {pn : List (Addr × Obj)} {xe : Value → Shared → Prop} {W : WX} {tb : XK → TE} {p1 p2 : Pos}
    (I : Inv X pins σ H s) (L : LamX.LamS X.env.scope scope) (hf : s.heap.get? f = some (PySem.W.kla_obj "<lambda>" (X.env.qual ++ "<lambda>") params body scope (cloFrom X.env.cells scope.names []) pm c' ctv)) (hfn : H f = none) (hfr : f ∉ frs X.stack)
    (hbind : bindArgs (PySem.W.kla_fn "<lambda>" (X.env.qual ++ "<lambda>") params body scope (cloFrom X.env.cells scope.names []) pm (.ref c') ctv) ⟨[], []⟩ = pure [])
    (tk : L2N.Takes ((cxOf CXg X.prog X.w X.K X.mg X.base Ng qg sg g cdg X.A X.stack s H Eg).tr pn xe) W) (hr : Room (k + 1) (X.A.deeper (envOfC qg sg s.heap.objs.size g cdg)))
    (hbody : ∀ (E : XK) (A : Around) (outer : List Env) (s : Shared) (H : Hp), Room k (A.deeper (LamX.lamEnv X scope s.heap.objs.size f c')) → PE (lamCxN X A outer s H E scope f c') body (tb E))
    (hN : Ng[i]? = some a) (hv : Vis sg a) (hd : (a == ("__debug__" : Str)) = false) (hcd : (a == ("__classdict__" : Str)) = false) :
    PE ((cxOf CXg X.prog X.w X.K X.mg X.base Ng qg sg g cdg X.A X.stack s H Eg).tr pn xe) (.Call (.Name a p1) [] [] p2) (fun σZ HZ Q => σZ[i]? = some (some (.ref f)) ∧ HZ c' = some (LamX.CodeO c' (X.env.qual ++ "<lambda>")) ∧ tb (WE W σZ) σ HZ Q) := by
  refine ⟨fun pinsZ sZ σZ HZ Q IZ h => ?_⟩
  obtain ⟨hs, hc, ht⟩ := h
  refine wpAny_Call_Name_kw (thn ((pe_var (pos := p1) (i := i) hN hv hd hcd).run pinsZ sZ σZ HZ (fun v H1 => v = .ref f ∧ H1 = HZ) IZ ⟨.ref f, hs, rfl, rfl⟩) fun u s1 ⟨v, H1, I1, r1, q1⟩ => ?_)
  obtain ⟨rfl, rfl⟩ := q1
  obtain rfl : u = Value.ref f := r1
  have hf1 : s1.heap.get? f = some (PySem.W.kla_obj "<lambda>" (X.env.qual ++ "<lambda>") params body scope (cloFrom X.env.cells scope.names []) pm c' ctv) := I1.base.keep f _ hf hfn hfr fun z => nomatch (show f ∈ ([] : List Addr) from z)
  refine PySem.W.callWith_F0 ⟨_, _, _, _, hf1⟩ ?_
  have un : Un (frs X.stack) [] H H1 s.heap s1.heap := I1.base
  obtain ⟨⟨oc, vs, tq, hoc, hdc, hvc⟩, _, _⟩ := I1.hok c' _ hc
  have rc : codeAny (model X.prog X.w) (X.A.deeper (envOfC qg sg s.heap.objs.size g cdg)) (.call (.ref f) ⟨[], []⟩) (CR (L2N.CX X.prog X.w) (envOfC qg sg s.heap.objs.size g cdg :: X.stack) X.prog X.w H1 s1 Q (WE W σZ)) s1 := by
    refine PySem.W.kla_callFunE hr.depth hf1 rfl L.co L.gen rfl ⟨c', oc, vs, tq, rfl, hoc, hdc, hvc⟩ ?_
    rw [hbind]
    refine wpAny_pure (wpAny_newFunctionEnv (fun y hy => (L.own y hy).2) (fun y hy => absurd hy (by simp)) (fun hq hns hsb => ⟨I1.nolimit.fresh _ hsb, ?_⟩) L.kind)
    show codeAny _ _ (.expr body (LamX.lamEnv X scope s1.heap.objs.size f c')) _ _
    have kp : ∀ b o, s1.heap.get? b = some o → hq.get? b = some o := fun b o e => hsb.extBut b o (Nat.ne_of_lt (Heap.lt_size e)) (Heap.get?_push_of_some _ e)
    have J := (LamX.lam_start2 (tk := s1.toks + ([] : List (Str × Value)).length) (E := WE W σZ) (f := f) (c' := c') I L I1.env0 hr.hd un hns kp).wish fun e s' => wpAny (model X.prog X.w) ((X.A.deeper (envOfC qg sg s.heap.objs.size g cdg)).deeper (LamX.lamEnv X scope s1.heap.objs.size f c')) (leaving (LamX.lamEnv X scope s1.heap.objs.size f c') e)
      (fun _ s'' => L2N.CX X.prog X.w (envOfC qg sg s.heap.objs.size g cdg :: X.stack) H1 s1 (WE W σZ) e s'') (fun e' s'' => L2N.CX X.prog X.w (envOfC qg sg s.heap.objs.size g cdg :: X.stack) H1 s1 (WE W σZ) e' s'') s'
    refine PySem.W.kla_codeExpr (wpAny_mono ((hbody (WE W σZ) _ _ s1 H1 (hr.deeper _)).run [] _ _ H1 Q J ht) (fun v s' hq => ?_) fun e s' hq => hq)
    obtain ⟨w', H', J', rv, q⟩ := hq
    exact ⟨w', H', J'.os, J'.bare, J'.base, J'.hok, rv, q⟩
  refine wpAny_call (codeAny_mono rc fun r s' hq => ?_)
  cases r with
  | error e => exact L2N.passAt tk σZ pinsZ H1 s1 e s' I1 hq
  | ok fl =>
    cases fl with
    | ret u => exact I1.after hq
    | next => exact False.elim hq
    | brk => exact False.elim hq
    | cont => exact False.elim hq
/-- what the def that gets the lambda and two values more promises; q: the lambda's name -/
def Gives3 (X : Cx) (Ng : List Str) (x : Str) (sg : Scope) (bg : List Stmt) (a q : Str) (k : Nat) (TT : (XK → Hp → VK → Prop) → V → V → Hp → VK → Prop) : Prop :=
  ∀ (g f c' : Addr) (cdg : Value) (s : Shared) (H : Hp) (Q : VK) (v2 v3 : V) (tl : XK → Hp → VK → Prop), Room (k + 1) (X.A.deeper (envOfC x sg s.heap.objs.size g cdg)) →
    (∀ (W : WX) (pn : List (Addr × Obj)) (xe : Value → Shared → Prop) (p1 p2 : Pos), L2N.Takes ((cxOf CX0 X.prog X.w X.K X.mg X.base Ng x sg g cdg X.A X.stack s H E0).tr pn xe) W →
      PE ((cxOf CX0 X.prog X.w X.K X.mg X.base Ng x sg g cdg X.A X.stack s H E0).tr pn xe) (.Call (.Name a p1) [] [] p2) (fun σZ HZ Q => σZ[0]? = some (some (.ref f)) ∧ HZ c' = some (LamX.CodeO c' q) ∧ tl (WE W σZ) HZ Q)) →
    H c' = some (LamX.CodeO c' q) → TT tl v2 v3 H Q →
    ∃ t, PSs (cxOf CX0 X.prog X.w X.K X.mg X.base Ng x sg g cdg X.A X.stack s H E0) bg t ∧ t { nx := fun _ H' => Q .non H', rt := Q } (L2.start Ng [.ref f, v2, v3]) H
def tLam3 (P : Addr) (q : Str) (TT : (XK → Hp → VK → Prop) → V → V → Hp → VK → Prop) (t : XK → TE) (ta : TA) : TE := fun σ H Q => LamX.TabS H P q ∧ ∀ (H1 : Hp) (c' : Addr), (∀ b o, b ≠ P → H b = some o → H1 b = some o) → LamX.TabS H1 P q → H1 c' = some (LamX.CodeO c' q) →
  ta σ H1 fun vs H2 => ∃ v2 v3, vs = [v2, v3] ∧ H2 c' = some (LamX.CodeO c' q) ∧ TT (fun E H' Q' => t E σ H' Q') v2 v3 H2 Q
theorem pe_lam3 {x a : Str} {c P : Addr} {k : Nat} {st : Stmt} {ps Ng : List Str} {params : Arguments} {body : Expr} {scope : Scope} {e2 e3 : Expr} {ta : TA} {t : XK → TE} {p lpos pos : Pos} {TT : (XK → Hp → VK → Prop) → V → V → Hp → VK → Prop}
    (D : Df X.K X.mg x st ps) (Sg : FnScope Ng ps (defScope st)) (hlen : ps.length = 3) (hNg : Ng[0]? = some a) (hva : Vis (defScope st) a) (hg : Gl X x) (hG : Gives3 X Ng x (defScope st) (defBody st) a (X.env.qual ++ "<lambda>") k TT)
    (TB : LamX.TabB X.base X.mg c P) (hcode : X.env.code = .ref c) (L : LamX.LamS X.env.scope scope) (hdef : defaultsOf params X.env = ([], []))
    (hbind : ∀ (q : Str) (cl : List (Str × Addr)) (pm cv ctv : Value), bindArgs (PySem.W.kla_fn "<lambda>" q params body scope cl pm cv ctv) ⟨[], []⟩ = pure []) (hr : Room (k + 2) X.A) (ha : PA X [e2, e3] ta)
    (hbody : ∀ (E : XK) (A : Around) (outer : List Env) (s : Shared) (H : Hp) (f c' : Addr), Room k (A.deeper (LamX.lamEnv X scope s.heap.objs.size f c')) → PE (lamCxN X A outer s H E scope f c') body (t E))
    (he : starEach [.Lambda params body scope lpos, e2, e3] X.env = (false, eval (.Lambda params body scope lpos) X.env) :: starEach [e2, e3] X.env := by rfl) (hpl : (backTo pos (starEach [e2, e3] X.env)).any (·.1) = false := by rfl)
    (hdb : (x == ("__debug__" : Str)) = false := by decide) (hd : (a == ("__debug__" : Str)) = false := by decide) (hcd : (a == ("__classdict__" : Str)) = false := by decide) :
    PE X (.Call (.Name x p) [.Lambda params body scope lpos, e2, e3] [] pos) (tLam3 P (X.env.qual ++ "<lambda>") TT t ta) := by
  obtain ⟨g, fd, F, hm, hb⟩ := D.ex
  have hk := F.kp
  obtain ⟨oc, od, kV, doc, pm, an, cdv, ct, osl, rfl, lk, hcg⟩ := F.ex
  refine ⟨fun pins s σ H Q I h => ?_⟩
  obtain ⟨hT, h⟩ := h
  refine wpAny_Call_Name_kw (ld_glob I hg hm ?_ hdb)
  refine PySem.W.callWith_K (h₀ := X.base) I.ok.mod.kin hk ?_ he hpl
  rw [he]
  show wpAny _ _ (spliced ((false, eval (.Lambda params body scope lpos) X.env) :: backTo pos (starEach [e2, e3] X.env))) _ _ s
  refine Calls.spliced_cons (lam_make3 I TB hcode hT hdef (L.has I.ok) fun f c' pm' ctv H1 s' I1 kH T1 hf hfn hff hco => ?_)
  have hfr : f ∉ frs X.stack := fun z => (List.mem_cons.mp (I1.stkSub _ z)).elim hff.1 hff.2
  have Ip : Inv X ((f, PySem.W.kla_obj "<lambda>" (X.env.qual ++ "<lambda>") params body scope (cloFrom X.env.cells scope.names []) pm' c' ctv) :: pins) σ H1 s' := I1.pins_of fun r hr => by
    rcases List.mem_cons.mp hr with z | z
    · rw [z]
      exact ⟨hf, hfn, hff.1, hff.2, fun v e => by cases e⟩
    · exact I1.pin r (List.mem_append_right _ z)
  refine thn (ha.run pos _ s' σ H1 _ Ip (h H1 c' kH T1 hco)) fun us s2 hh => ?_
  obtain ⟨vs, H2, I2, rv, v2, v3, rfl, hco2, htt⟩ := hh
  have P2 := I2.pin _ (List.mem_append_right _ List.mem_cons_self)
  have I3 : Inv X pins σ H2 s2 := I2.pins_of fun r hr => I2.pin r (List.mem_append_right _ (List.mem_cons_of_mem _ hr))
  refine ⟨I3.kIn, ?_⟩
  have rc : codeAny (model X.prog X.w) X.A (.call (.ref g) ⟨[] ++ .ref f :: us, []⟩) (CR CX0 X.stack X.prog X.w H2 s2 Q E0) s2 := by
    have rv' : Vals [.ref f, v2, v3] (.ref f :: us) := .cons rfl rv
    refine LamX.run_ofS (N := Ng) (ps := ps) (us := .ref f :: us) (vs := [.ref f, v2, v3]) lk hcg Sg hr I3.env0 (by have b := hb s2 (.ref f :: us) I3.kIn (by rw [List.append_nil, ← rv'.length, hlen]; rfl); rw [List.append_nil] at b; exact b) rv' (by rw [hlen]; rfl) fun hr' => ?_
    exact hG g f c' cdv s2 H2 Q v2 v3 _ hr' (fun W pn xe p1 p2 tk => act3 (i := 0) I3 L P2.1 P2.2.1 hfr (hbind _ _ _ _ _) tk hr' (fun E A outer s H hr2 => hbody E A outer s H f c' hr2) hNg hva hd hcd) hco2 htt
  refine wpAny_call (codeAny_mono rc fun r s2 hq => ?_)
  cases r with
  | error e => exact (show False from hq).elim
  | ok fl =>
    cases fl with
    | ret u => exact I3.after hq
    | next => exact False.elim hq
    | brk => exact False.elim hq
    | cont => exact False.elim hq
end
end Ub

namespace Ub
open PySem PySem.Spec PyProof.Rows L2
/-! ### the order of nested data -/
def rLtD (K : PySem.W.Frag) : R2 := fun x y H Q => ∃ d e, Dp K H x d ∧ Dp K H y e ∧ PySem.W.alike d e = true ∧ d ≠ .none ∧ d.depth ≤ 60 ∧ Q (.bl (PySem.W.dataLt d e)) H
theorem op_ltD {X : Cx} (hu : X.A.units + 64 < cLine) : OpR X (compareOp .Lt) (rLtD X.K) := by
  intro pins s σ H x y v u Q I rx ry h
  obtain ⟨d, e, hd, he, ha, hn, hdp, q⟩ := h
  obtain ⟨as, r1⟩ := Dp.reads I d x v hd rx
  obtain ⟨bs, r2⟩ := Dp.reads I e y u he ry
  exact PySem.W.lt_data r1 r2 ha hn (by omega) ⟨.bl _, H, I, rfl, q⟩
/-! ### sorted(xs), xs a list of nested data -/
def rSortedD (K : PySem.W.Frag) : List V → Hp → VK → Prop := fun vs H Q => ∃ (a : Addr) (bs : List (V × PyData)), vs = [V.ref a] ∧ SqL K H a (bs.map (·.1)) ∧ (∀ b ∈ bs, Dp K H b.1 b.2) ∧ PySem.W.AllAlike (bs.map (·.2)) ∧ PySem.W.Sortable (bs.map (·.2)) ∧ (∀ b ∈ bs, b.2.depth ≤ 50) ∧
  ∀ p, H p = none → Q (.ref p) (upd H p (.lst ((bs.mergeSort (PySem.W.dataLe false (·.2))).map (·.1))))
theorem each_rel {us : List Value} : ∀ {bs : List (V × PyData)}, Vals (bs.map (·.1)) us → PySem.W.EachIs (fun u b => RelV b.1 u) us bs := by
  induction us with
  | nil =>
    intro bs h
    cases bs with
    | nil => exact .nil
    | cons b bs => cases h
  | cons u us ih =>
    intro bs h
    cases bs with
    | nil => cases h
    | cons b bs =>
      cases h with
      | cons h1 h2 => exact .cons h1 (ih h2)
theorem each_vals {us : List Value} : ∀ {bs : List (V × PyData)}, PySem.W.EachIs (fun u b => RelV b.1 u) us bs → Vals (bs.map (·.1)) us
  | [], .nil => .nil
  | _ :: _, .cons h1 h2 => .cons h1 (each_vals h2)
theorem cr_sortedD {X : Cx} (hu : X.A.units + 64 < cLine) : CallR X (.builtin "sorted") (rSortedD X.K) := by
  intro pins s σ H vs us Q I r h
  obtain ⟨a, bs, rfl, hs, hd, hal, hk, hdp, q⟩ := h
  obtain ⟨its, rv, hl, hz⟩ := I.list hs
  rw [Vals.ref1 r]
  have e := each_rel rv
  have er : PySem.W.EachIs (fun u (b : V × PyData) => ∃ as, Reads s.heap u b.2 as) its bs := (PySem.W.each_mem e).mono fun u b hb => Dp.reads I b.2 b.1 u (hd b hb.2) hb.1
  have hL : bs.length ≤ sizeLine := by rw [List.length_map] at hz; exact hz
  refine PySem.W.sorted_data (enc := (·.2)) hl.isList e er hal hk hL (fun b hb => by have := hdp b hb; omega) fun out ho eo => ?_
  obtain ⟨ep, he'⟩ := PyProof.Rows.sortedAll_at s.heap its out.toArray
  have rv' := each_vals eo
  have hlen : ((bs.mergeSort (PySem.W.dataLe false (·.2))).map (·.1)).length ≤ sizeLine := by
    rw [List.length_map, List.length_mergeSort]
    exact hL
  exact ⟨.ref _, upd H (s.heap.objs.size + 1) (.lst ((bs.mergeSort (PySem.W.dataLe false (·.2))).map (·.1))), I.laid (t' := s.toks) (fun _ _ => PyProof.Rows.sortedAll_old) (Nat.le_succ _) ⟨hlen, out, ep, rv', he'⟩, rfl, q _ (I.hok.fresh (Nat.le_succ _))⟩
/-! ### min(d.values()), the values nested data -/
/-- a view of the values of the dict at d, at v -/
def ViewO (v d : Addr) : HO := .ext fun h => h.get? v = some { cls := .type "dict_values", data := .fields #[.ref d] }
def rVals : V → List V → Hp → VK → Prop := fun x xs H Q => ∃ (d : Addr) (kvs : List (Key × V)), x = .ref d ∧ xs = [] ∧ H d = some (.dK kvs) ∧ ∀ v, H v = none → Q (.ref v) (upd H v (ViewO v d))
theorem mt_values {X : Cx} : MtR X "dict.values" rVals := by
  intro pins s σ H x xs u us Q I rx rxs h
  obtain ⟨d, kvs, rfl, rfl, hd, q⟩ := h
  cases rx
  cases rxs
  obtain ⟨_, hs, vs, kv, hm⟩ := I.hok d _ hd
  refine PySem.call_meetsIn PySem.F.slot_dict_values hm.typeIs PySem.F.entry_dict_values (PySem.F.args_dict_values_1 _) (PySem.meets_dict_values (mixKind X.prog X.w) d hs) ⟨⟨vs, hm⟩, ?_⟩
  have new : ObjOk X.prog X.w (upd H s.heap.objs.size (ViewO s.heap.objs.size d)) (s.heap.push { cls := .type "dict_values", data := .fields #[.ref d] }) s.heap.objs.size (ViewO s.heap.objs.size d) :=
    ⟨Heap.get?_push_size _ rfl, ⟨_, Heap.get?_push_size _ rfl⟩, fun h1 h2 e k => k _ e⟩
  exact ⟨.ref _, upd H s.heap.objs.size (ViewO s.heap.objs.size d), I.laid (t' := s.toks) (fun b u e => Heap.get?_push_of_some _ e) (Nat.le_refl _) new, rfl, q _ (I.hok.fresh (Nat.le_refl _))⟩
def bestOf (ds : List PyData) (n : Nat) : Nat := PySem.argBest (fun i j => PySem.W.dataLt (ds.getD i .none) (ds.getD j .none)) (n - 1)
def rMinV (K : PySem.W.Frag) : List V → Hp → VK → Prop := fun xs H Q => ∃ (v d : Addr) (kvs : List (Key × V)) (ds : List PyData), xs = [.ref v] ∧ H v = some (ViewO v d) ∧ H d = some (.dK kvs) ∧ DpAll K H (kvs.map (·.2)) ds ∧ PySem.W.AlikeAll ds ∧ 0 < kvs.length ∧ PyData.depthAll ds ≤ 50 ∧
  ∀ k x, kvs[bestOf ds kvs.length]? = some (k, x) → Q x H
theorem kv_vals : ∀ {kvs : List (Key × V)} {vs : List (Key × Value)}, KV kvs vs → Vals (kvs.map (·.2)) (vs.map (·.2))
  | [], _, .nil => .nil
  | _ :: _, _, .cons r t => .cons r.2 (kv_vals t)
theorem kv_at : ∀ {kvs : List (Key × V)} {vs : List (Key × Value)} {i : Nat} {k : Key} {u : Value}, KV kvs vs → vs[i]? = some (k, u) → ∃ x, kvs[i]? = some (k, x) ∧ RelV x u
  | [], _, _, _, _, .nil, h => by cases h
  | (k, x) :: _, (k', u) :: _, 0, _, _, .cons r t, h => by
    cases h
    obtain ⟨r1, r2⟩ := r
    dsimp only at r1 r2
    subst r1
    exact ⟨x, rfl, r2⟩
  | _ :: _, _ :: _, i + 1, _, _, .cons r t, h => kv_at (i := i) t h
theorem cr_minV {X : Cx} (hc : X.calm = true) (hu : X.A.units + 64 < cLine) : CallR X (.builtin "min") (rMinV X.K) := by
  intro pins s σ H xs us Q I r h
  obtain ⟨v, d, kvs, ds, rfl, hv, hd, hda, hal, hn, hdp, q⟩ := h
  rw [Vals.ref1 r]
  obtain ⟨hz, hs, vs, kv, o, es, ep, ho, hx, hdt, rest⟩ := I.hok d _ hd
  have dat : s.heap.DictAt (mixKind X.prog X.w) d vs ep := ⟨o, es, ho, hx, hdt, rest⟩
  have hget : s.heap.get? v = some { cls := .type "dict_values", data := .fields #[.ref d] } := (I.hok v _ hv).1
  have hl : kvs.length = vs.length := Paired.length kv
  obtain ⟨as, hr⟩ := Dp.readsAll I ds _ _ hda (kv_vals kv)
  have hlt : d < s.heap.objs.size := Heap.lt_size ho
  refine PySem.call_min_walkH (PySem.wpAny_pyIter_values (knd := mixKind X.prog X.w) ⟨_, hget, rfl, rfl⟩ dat ?_)
  have ex : ∀ b ob, s.heap.get? b = some ob → b ∉ [s.heap.objs.size] := fun b ob e hb => absurd (Heap.lt_size e) ((List.mem_singleton.mp hb) ▸ Nat.lt_irrefl _)
  have cmp := PySem.W.cmpIn_lt (prog := X.prog) (w := X.w) (A := X.A.in1) (s := s) (vs := (vs.map (·.2)).toArray) (xs := ds) (as := as) (by simpa using hr) hal (by show X.A.units + 1 + _ < _; omega)
  refine ⟨_, _, _, _, _, _, _, s.heap, fun i j => PySem.W.dataLt (ds.getD i .none) (ds.getD j .none), rfl, (PySem.Walks.dictValues (knd := mixKind X.prog X.w) (A := X.A.in1) (I.ok.hd hc) s.heap.objs.size d (Nat.ne_of_lt hlt) vs ep).toS,
    ⟨⟨_, Heap.get?_push_size _ rfl, rfl, rfl⟩, dat.keep fun b u e => Heap.get?_push_of_some _ e⟩, fun b hb => ?_, by omega, ex, fun b ob e => Heap.get?_push_of_some _ e, fun i j vi vj s' Q' E' hk hi hj hq => ?_, fun u s' hP m => ?_⟩
  · show b < (s.heap.push _).objs.size
    rw [Heap.size_push]
    rcases List.mem_cons.mp hb with e | hb
    · rw [e]
      exact Nat.lt_succ_self _
    · rw [List.mem_singleton.mp hb]
      exact Nat.lt_succ_of_lt hlt
  · have at_ : ∀ {i : Nat} {v : Value}, (∃ k, vs[i]? = some (k, v)) → (vs.map (·.2)).toArray[i]? = some v := fun {i v} ⟨k, e⟩ => by
      rw [List.getElem?_toArray, List.getElem?_map, e]
      rfl
    exact cmp i j vi vj s' Q' E' hk (at_ hi) (at_ hj) hq
  · obtain ⟨h', tk, rfl, hk'⟩ := PySem.W.moved_old rfl rfl m
    obtain ⟨k, e⟩ := hP
    obtain ⟨x, ex2, rx⟩ := kv_at kv e
    refine ⟨x, H, I.kept (t' := tk) hk', rx, q k x ?_⟩
    rw [show bestOf ds kvs.length = PySem.argBest (fun i j => PySem.W.dataLt (ds.getD i .none) (ds.getD j .none)) (vs.length - 1) by unfold bestOf; rw [hl]]
    exact ex2
end Ub

namespace Ub
open PySem PySem.Spec PyProof.Rows L2

/-! ### data, and where it stands -/
/-- a lambda without arguments: its qualified name, its parts, what it captured, the defaults of its parameters -/
structure LamD where
  q : Str
  params : Arguments
  body : Expr
  scope : Scope
  clo : List (Str × Addr)
  dfl : List Int := []
abbrev lamFd (L : LamD) (dV pm cdv ctv : Value) : FuncData :=
  { name := "<lambda>", qualname := L.q, params := L.params, body := .expr L.body, scope := L.scope, globals := mainGlobals, closure := L.clo, defaults := dV, kwdefaults := .none, doc := .none, pyModule := pm, annotations := none, code := cdv, closureTuple := ctv, builtins := builtinsNs }
def FnO (f c' : Addr) (L : LamD) (dV : Value) : HO := .ext fun h => ∃ pm ctv, h.get? f = some { cls := .type "function", data := .func (lamFd L dV pm (.ref c') ctv) }
/-- a cell that a frame left: tracked from then on -/
def CellO (c : Addr) (v : V) : HO := .ext fun h => ∃ u, RelV v u ∧ h.IsCell c (some u)
def CellsAt (B : Hp) : List (Str × Addr) → List V → Prop
  | [], [] => True
  | p :: l, v :: vs => B p.2 = some (CellO p.2 v) ∧ CellsAt B l vs
  | _, _ => False
theorem CellsAt.up {B B' : Hp} (e : Ex B B') : ∀ {l : List (Str × Addr)} {vs : List V}, CellsAt B l vs → CellsAt B' l vs
  | [], [], _ => True.intro
  | _ :: _, _ :: _, h => ⟨e _ _ h.1, CellsAt.up e h.2⟩
  | [], _ :: _, h => h.elim
  | _ :: _, [], h => h.elim
/-- the names and the cells of a closure: no name twice, no cell twice -/
structure CloOk (l : List (Str × Addr)) : Prop where
  nd : (l.map (·.1)).Nodup
  inj : ∀ x y c, l.lookup x = some c → l.lookup y = some c → x = y
inductive Dt where
  | non | bl (b : Bool) | int (i : Int) | str (s : Str) | lst (l : List Dt) | tup (l : List Dt) | obj (c : Addr) (fs : List (Str × Dt)) | lam (L : LamD) | exc (a : Addr) (d : Option Addr) (fs : List (Str × V)) | clo (L : LamD) (ds : List Dt)
mutual
inductive Dz (K : PySem.W.Frag) (B : Hp) : V → Dt → Prop
  | non : Dz K B .non .non
  | bl (b : Bool) : Dz K B (.bl b) (.bl b)
  | int (i : Int) : Dz K B (.int i) (.int i)
  | str (s : Str) : Dz K B (.str s) (.str s)
  | lst {a : Addr} {xs : List V} {ds : List Dt} (h : B a = some (.lst xs)) (t : DzA K B xs ds) : Dz K B (.ref a) (.lst ds)
  | tup {a : Addr} {xs : List V} {ds : List Dt} (h : SqT K B a xs) (t : DzA K B xs ds) : Dz K B (.ref a) (.tup ds)
  | obj {a c dx : Addr} {fs : List (Str × V)} {gs : List (Str × Dt)} (h : B a = some (.ins c dx fs)) (t : DzF K B fs gs) : Dz K B (.ref a) (.obj c gs)
  | lam {f c' : Addr} {L : LamD} {dV : Value} (h : B f = some (FnO f c' L dV)) (hc : B c' = some (LamX.CodeO c' L.q)) (hd : (L.dfl = [] ∧ dV = .none) ∨ (L.dfl ≠ [] ∧ ∃ t, dV = .ref t ∧ B t = some (.tup (L.dfl.map V.int)))) : Dz K B (.ref f) (.lam L)
  | exc {a : Addr} {d : Option Addr} {fs : List (Str × V)} (h : ∀ x, d = some x → B x = some (.xd fs)) : Dz K B (.ref a) (.exc a d fs)
  | clo {f c' : Addr} {L : LamD} {dV : Value} {vals : List V} {ds : List Dt} (h : B f = some (FnO f c' L dV)) (hc : B c' = some (LamX.CodeO c' L.q)) (hd : (L.dfl = [] ∧ dV = .none) ∨ (L.dfl ≠ [] ∧ ∃ t, dV = .ref t ∧ B t = some (.tup (L.dfl.map V.int)))) (co : CloOk L.clo) (ca : CellsAt B L.clo vals) (t : DzA K B vals ds) : Dz K B (.ref f) (.clo L ds)
inductive DzA (K : PySem.W.Frag) (B : Hp) : List V → List Dt → Prop
  | nil : DzA K B [] []
  | cons {v : V} {d : Dt} {vs : List V} {ds : List Dt} (h : Dz K B v d) (t : DzA K B vs ds) : DzA K B (v :: vs) (d :: ds)
inductive DzF (K : PySem.W.Frag) (B : Hp) : List (Str × V) → List (Str × Dt) → Prop
  | nil : DzF K B [] []
  | cons {x : Str} {v : V} {d : Dt} {vs : List (Str × V)} {ds : List (Str × Dt)} (h : Dz K B v d) (t : DzF K B vs ds) : DzF K B ((x, v) :: vs) ((x, d) :: ds)
end
section
variable {K : PySem.W.Frag} {B B' : Hp}
mutual
theorem Dz.up (e : Ex B B') : ∀ {v : V} {d : Dt}, Dz K B v d → Dz K B' v d
  | _, _, .non => .non
  | _, _, .bl b => .bl b
  | _, _, .int i => .int i
  | _, _, .str s => .str s
  | _, _, .lst h t => .lst (e _ _ h) (DzA.up e t)
  | _, _, .tup h t => .tup (Evl.ex_t e h) (DzA.up e t)
  | _, _, .obj h t => .obj (e _ _ h) (DzF.up e t)
  | _, _, .lam h hc hd => .lam (e _ _ h) (e _ _ hc) (hd.imp id fun ⟨n, t, e1, e2⟩ => ⟨n, t, e1, e _ _ e2⟩)
  | _, _, .exc h => .exc fun x z => e _ _ (h x z)
  | _, _, .clo h hc hd co ca t => .clo (e _ _ h) (e _ _ hc) (hd.imp id fun ⟨n, t, e1, e2⟩ => ⟨n, t, e1, e _ _ e2⟩) co (ca.up e) (DzA.up e t)
theorem DzA.up (e : Ex B B') : ∀ {vs : List V} {ds : List Dt}, DzA K B vs ds → DzA K B' vs ds
  | _, _, .nil => .nil
  | _, _, .cons h t => .cons (Dz.up e h) (DzA.up e t)
theorem DzF.up (e : Ex B B') : ∀ {vs : List (Str × V)} {ds : List (Str × Dt)}, DzF K B vs ds → DzF K B' vs ds
  | _, _, .nil => .nil
  | _, _, .cons h t => .cons (Dz.up e h) (DzF.up e t)
end
theorem DzA.len : ∀ {vs : List V} {ds : List Dt}, DzA K B vs ds → vs.length = ds.length
  | _, _, .nil => rfl
  | _, _, .cons _ t => by simp [DzA.len t]
theorem DzA.get : ∀ {vs : List V} {ds : List Dt} {i : Nat} {v : V}, DzA K B vs ds → vs[i]? = some v → ∃ d, ds[i]? = some d ∧ Dz K B v d
  | _, _, _, _, .nil, e => by simp at e
  | _, _, 0, _, .cons h _, e => by cases e; exact ⟨_, rfl, h⟩
  | _, _, i + 1, _, .cons _ t, e => by
    obtain ⟨d, h1, h2⟩ := DzA.get (i := i) t (by simpa using e)
    exact ⟨d, by simpa using h1, h2⟩
theorem DzA.at_ : ∀ {vs : List V} {ds : List Dt} {i : Nat} {d : Dt}, DzA K B vs ds → ds[i]? = some d → ∃ v, vs[i]? = some v ∧ Dz K B v d
  | _, _, _, _, .nil, e => by simp at e
  | _, _, 0, _, .cons h _, e => by cases e; exact ⟨_, rfl, h⟩
  | _, _, i + 1, _, .cons _ t, e => by
    obtain ⟨d, h1, h2⟩ := DzA.at_ (i := i) t (by simpa using e)
    exact ⟨d, by simpa using h1, h2⟩
theorem DzA.app : ∀ {vs ws : List V} {ds es : List Dt}, DzA K B vs ds → DzA K B ws es → DzA K B (vs ++ ws) (ds ++ es)
  | _, _, _, _, .nil, h => h
  | _, _, _, _, .cons h t, g => .cons h (DzA.app t g)
theorem DzA.take : ∀ {n : Nat} {vs : List V} {ds : List Dt}, DzA K B vs ds → DzA K B (vs.take n) (ds.take n)
  | 0, _, _, _ => by simp; exact .nil
  | _ + 1, _, _, .nil => .nil
  | n + 1, _, _, .cons h t => .cons h (DzA.take t)
theorem DzA.drop : ∀ {n : Nat} {vs : List V} {ds : List Dt}, DzA K B vs ds → DzA K B (vs.drop n) (ds.drop n)
  | 0, _, _, h => by simpa using h
  | _ + 1, _, _, .nil => .nil
  | n + 1, _, _, .cons h t => DzA.drop (n := n) t
theorem DzA.rev : ∀ {vs : List V} {ds : List Dt}, DzA K B vs ds → DzA K B vs.reverse ds.reverse
  | _, _, .nil => .nil
  | _, _, .cons h t => by
    rw [List.reverse_cons, List.reverse_cons]
    exact DzA.app (DzA.rev t) (.cons h .nil)
theorem DzA.set : ∀ {i : Nat} {vs : List V} {ds : List Dt} {v : V} {d : Dt}, DzA K B vs ds → Dz K B v d → DzA K B (vs.set i v) (ds.set i d)
  | _, _, _, _, _, .nil, _ => .nil
  | 0, _, _, _, _, .cons _ t, g => .cons g t
  | i + 1, _, _, _, _, .cons h t, g => .cons h (DzA.set t g)
theorem DzA.erase : ∀ {i : Nat} {vs : List V} {ds : List Dt}, DzA K B vs ds → DzA K B (vs.eraseIdx i) (ds.eraseIdx i)
  | _, _, _, .nil => by simp; exact .nil
  | 0, _, _, .cons _ t => t
  | i + 1, _, _, .cons h t => .cons h (DzA.erase t)
theorem DzA.ints : ∀ ns : List Int, DzA K B (ns.map V.int) (ns.map Dt.int)
  | [] => .nil
  | n :: ns => .cons (.int n) (DzA.ints ns)
theorem DzA.strs : ∀ ns : List Str, DzA K B (ns.map V.str) (ns.map Dt.str)
  | [] => .nil
  | n :: ns => .cons (.str n) (DzA.strs ns)
theorem DzA.ints_eq : ∀ {ns : List Int} {vs : List V}, DzA K B vs (ns.map Dt.int) → vs = ns.map V.int
  | [], _, .nil => rfl
  | _ :: _, _, .cons h t => by
    cases h
    rw [DzA.ints_eq t] <;> rfl
theorem DzA.bls_eq : ∀ {ns : List Bool} {vs : List V}, DzA K B vs (ns.map Dt.bl) → vs = ns.map V.bl
  | [], _, .nil => rfl
  | _ :: _, _, .cons h t => by
    cases h
    rw [DzA.bls_eq t] <;> rfl
theorem DzA.strs_eq : ∀ {ns : List Str} {vs : List V}, DzA K B vs (ns.map Dt.str) → vs = ns.map V.str
  | [], _, .nil => rfl
  | _ :: _, _, .cons h t => by
    cases h
    rw [DzA.strs_eq t] <;> rfl
theorem DzA.rep {v : V} {d : Dt} (h : Dz K B v d) : ∀ n : Nat, DzA K B (List.replicate n v) (List.replicate n d)
  | 0 => .nil
  | n + 1 => .cons h (DzA.rep h n)
/-- data without addresses -/
def Dt.atom : Dt → Bool
  | .non => true | .bl _ => true | .int _ => true | .str _ => true | .lst _ => false | .tup _ => false | .obj _ _ => false | .lam _ => false | .exc _ _ _ => false | .clo _ _ => false
theorem Dz.atm {v : V} {d : Dt} (h : Dz K B v d) (a : d.atom = true) : Dz K B' v d := by
  cases h with
  | non => exact .non
  | bl b => exact .bl b
  | int i => exact .int i
  | str s => exact .str s
  | lst _ _ => cases a
  | tup _ _ => cases a
  | obj _ _ => cases a
  | lam _ _ _ => cases a
  | exc _ => cases a
  | clo _ _ _ _ _ _ => cases a
theorem DzA.atm : ∀ {vs : List V} {ds : List Dt}, DzA K B vs ds → (∀ d ∈ ds, d.atom = true) → DzA K B' vs ds
  | _, _, .nil, _ => .nil
  | _, _, .cons h t, a => .cons (h.atm (a _ List.mem_cons_self)) (DzA.atm t fun d hd => a d (List.mem_cons_of_mem _ hd))
end
def Dt.flat : Dt → Bool
  | .non => true | .bl _ => true | .int _ => true | .str _ => true | _ => false
def Dt.v : Dt → V
  | .bl b => .bl b | .int i => .int i | .str s => .str s | _ => .non
/-- an error: its class, its fields (the last one that was stored first) -/
structure Xd where
  cls : Addr
  fs : List (Str × Dt)
def XdAt (B : Hp) (dc : Option Addr) (C H : Hp) (x : Xd) (cls : Value) (d : Option Addr) : Prop := cls = .ref x.cls ∧ ((x.fs = [] ∧ d = none) ∨ (x.fs ≠ [] ∧ ∃ a, d = some a ∧ B a = none ∧ C a = none ∧ dc ≠ some a ∧ H a = some (.xd (x.fs.map fun p => (p.1, p.2.v)))))
/-! ### slots -/
inductive Sl where
  | un | dat (d : Dt) | own (l : List Dt) | dice
def Sl.isOwn : Sl → Prop
  | .own _ => True
  | _ => False
structure Dice (D : List Int) : Prop where
  len2 : 2 ≤ D.length
  len : D.length ≤ 70
  a0 : ∀ a, D[0]? = some a → 0 ≤ a ∧ a < 2147483647
  nn : ∀ z ∈ D, 0 ≤ z
def DiceAt (H : Hp) (d : Addr) : Prop := ∃ D : List Int, H d = some (.lst (D.map V.int)) ∧ Dice D
def SlAt (K : PySem.W.Frag) (B : Hp) (dc : Option Addr) (C H : Hp) (σ : L2.St) (a : Addr) (i : Nat) : Sl → Prop
  | .un => True
  | .dat d => ∃ v, σ[i]? = some (some v) ∧ Dz K C v d
  | .own l => σ[i]? = some (some (.ref a)) ∧ B a = none ∧ C a = none ∧ dc ≠ some a ∧ ∃ vs, H a = some (.lst vs) ∧ DzA K C vs l
  | .dice => ∃ d, dc = some d ∧ σ[i]? = some (some (.ref d))
/-- A: where what was handed in stands; B: what must stay; C: where data stands -/
structure Rep (K : PySem.W.Frag) (T : Tb) (A B : Hp) (dc : Option Addr) (C H : Hp) (σ : L2.St) (ρ : List Sl) (α : Nat → Addr) : Prop where
  okB : Ok T B H
  okC : Ok T C H
  eA : Ex A C
  new : ∀ a, C a ≠ none → A a ≠ none ∨ (B a = none ∨ ∃ φ, C a = some (.ext φ))
  len : σ.length = ρ.length
  sl : ∀ i s, ρ[i]? = some s → SlAt K B dc C H σ (α i) i s
  inj : ∀ i j l m, ρ[i]? = some (Sl.own l) → ρ[j]? = some (Sl.own m) → α i = α j → i = j
  dice : ∀ d, dc = some d → B d = none ∧ C d = none ∧ DiceAt H d
section
variable {K : PySem.W.Frag} {T : Tb} {A B : Hp} {dc : Option Addr} {C H : Hp} {σ : L2.St} {ρ : List Sl} {α : Nat → Addr}
theorem Rep.dat (R : Rep K T A B dc C H σ ρ α) {i : Nat} {d : Dt} (h : ρ[i]? = some (Sl.dat d)) : ∃ v, σ[i]? = some (some v) ∧ Dz K C v d := R.sl i _ h
theorem Rep.ow (R : Rep K T A B dc C H σ ρ α) {i : Nat} {l : List Dt} (h : ρ[i]? = some (Sl.own l)) : σ[i]? = some (some (.ref (α i))) ∧ B (α i) = none ∧ C (α i) = none ∧ dc ≠ some (α i) ∧ ∃ vs, H (α i) = some (.lst vs) ∧ DzA K C vs l := R.sl i _ h
/-- the heap grows, C with it or not -/
theorem Rep.toX (R : Rep K T A B dc C H σ ρ α) {C' H' : Hp} (oB : Ok T B H') (oC : Ok T C' H') (e : Ex C C') (n : ∀ a, C' a ≠ none → C a ≠ none ∨ (B a = none ∨ ∃ φ, C' a = some (.ext φ)))
    (ho : ∀ i l, ρ[i]? = some (Sl.own l) → C' (α i) = none ∧ H' (α i) = H (α i)) (hd : ∀ d, dc = some d → C' d = none ∧ DiceAt H' d) : Rep K T A B dc C' H' σ ρ α := by
  refine ⟨oB, oC, R.eA.trans e, fun a ha => ?_, R.len, fun i s hi => ?_, R.inj, fun d h => ⟨(R.dice d h).1, (hd d h).1, (hd d h).2⟩⟩
  · rcases n a ha with h | h
    · exact (R.new a h).imp id (Or.imp id fun ⟨φ, z⟩ => ⟨φ, e _ _ z⟩)
    · exact .inr h
  · have q := R.sl i s hi
    cases s with
    | un => exact True.intro
    | dat d =>
      obtain ⟨v, h1, h2⟩ := q
      exact ⟨v, h1, h2.up e⟩
    | own l =>
      obtain ⟨h1, h2, h3, h4, vs, h5, h6⟩ := q
      obtain ⟨g1, g2⟩ := ho i l hi
      exact ⟨h1, h2, g1, h4, vs, g2.trans h5, h6.up e⟩
    | dice => exact q
theorem Rep.to (R : Rep K T A B dc C H σ ρ α) {C' H' : Hp} (oB : Ok T B H') (oC : Ok T C' H') (e : Ex C C') (n : ∀ a, C' a ≠ none → C a ≠ none ∨ B a = none)
    (ho : ∀ i l, ρ[i]? = some (Sl.own l) → C' (α i) = none ∧ H' (α i) = H (α i)) (hd : ∀ d, dc = some d → C' d = none ∧ DiceAt H' d) : Rep K T A B dc C' H' σ ρ α :=
  R.toX oB oC e (fun a h => (n a h).imp id .inl) ho hd
theorem DiceAt.ne {H : Hp} {d p : Addr} {o : HO} (h : DiceAt H d) (np : H p = none) : DiceAt (upd H p o) d := by
  obtain ⟨D, h1, h2⟩ := h
  exact ⟨D, (upd_ne (ne_of_none h1 np)).trans h1, h2⟩
theorem Rep.new1 (R : Rep K T A B dc C H σ ρ α) {p : Addr} {o : HO} (np : H p = none) (n : notTab o) : Rep K T A B dc (upd C p o) (upd H p o) σ ρ α := by
  refine R.to (R.okB.newM np) (R.okC.new np n) (R.okC.up np) (fun a ha => ?_) (fun i l hi => ?_) (fun d h => ?_)
  · by_cases e : a = p
    · subst e
      exact .inr (R.okB.fresh np)
    · rw [upd_ne e] at ha
      exact .inl ha
  · obtain ⟨_, _, h3, _, vs, h5, _⟩ := R.ow hi
    have e := ne_of_none h5 np
    exact ⟨(upd_ne e).trans h3, upd_ne e⟩
  · obtain ⟨_, h2, h3⟩ := R.dice d h
    obtain ⟨D, h4, _⟩ := id h3
    exact ⟨(upd_ne (ne_of_none h4 np)).trans h2, h3.ne np⟩
theorem Rep.newM (R : Rep K T A B dc C H σ ρ α) {p : Addr} {o : HO} (np : H p = none) : Rep K T A B dc C (upd H p o) σ ρ α := by
  refine R.to (R.okB.newM np) (R.okC.newM np) (Evl.Ex.refl _) (fun a ha => .inl ha) (fun i l hi => ?_) (fun d h => ?_)
  · obtain ⟨_, _, h3, _, vs, h5, _⟩ := R.ow hi
    exact ⟨h3, upd_ne (ne_of_none h5 np)⟩
  · obtain ⟨_, h2, h3⟩ := R.dice d h
    exact ⟨h2, h3.ne np⟩
/-- a slot anew -/
theorem Rep.slot (R : Rep K T A B dc C H σ ρ α) {i : Nat} {x : Option V} {s : Sl} (hs : i < ρ.length → SlAt K B dc C H (σ.set i x) (α i) i s) (ho : ∀ l, s = .own l → ∀ j m, j ≠ i → ρ[j]? = some (Sl.own m) → α j ≠ α i) :
    Rep K T A B dc C H (σ.set i x) (ρ.set i s) α := by
  refine ⟨R.okB, R.okC, R.eA, R.new, by simp [R.len], fun j s' hj => ?_, fun j k l m hj hk e => ?_, R.dice⟩
  · by_cases e : j = i
    · subst e
      have hl : j < ρ.length := by
        have := (List.getElem?_eq_some_iff.mp hj).1
        simpa using this
      rw [List.getElem?_set_self hl] at hj
      cases hj
      exact hs hl
    · rw [List.getElem?_set_ne (Ne.symm e)] at hj
      have q := R.sl j s' hj
      have es : (σ.set i x)[j]? = σ[j]? := List.getElem?_set_ne (Ne.symm e)
      cases s' with
      | un => exact True.intro
      | dat d => obtain ⟨v, h1, h2⟩ := q; exact ⟨v, es.trans h1, h2⟩
      | own l => obtain ⟨h1, h2⟩ := q; exact ⟨es.trans h1, h2⟩
      | dice => obtain ⟨d, h1, h2⟩ := q; exact ⟨d, h1, es.trans h2⟩
  · by_cases e1 : j = i
    · by_cases e2 : k = i
      · rw [e1, e2]
      · subst e1
        have hl : j < ρ.length := by
          have := (List.getElem?_eq_some_iff.mp hj).1
          simpa using this
        rw [List.getElem?_set_self hl] at hj
        cases hj
        rw [List.getElem?_set_ne (Ne.symm e2)] at hk
        exact absurd e.symm (ho l rfl k m e2 hk)
    · rw [List.getElem?_set_ne (Ne.symm e1)] at hj
      by_cases e2 : k = i
      · subst e2
        have hl : k < ρ.length := by
          have := (List.getElem?_eq_some_iff.mp hk).1
          simpa using this
        rw [List.getElem?_set_self hl] at hk
        cases hk
        exact absurd e (ho m rfl j l e1 hj)
      · rw [List.getElem?_set_ne (Ne.symm e2)] at hk
        exact R.inj j k l m hj hk e
theorem Rep.setD (R : Rep K T A B dc C H σ ρ α) {i : Nat} {v : V} {d : Dt} (h : Dz K C v d) : Rep K T A B dc C H (σ.set i (some v)) (ρ.set i (Sl.dat d)) α :=
  R.slot (fun hl => ⟨v, List.getElem?_set_self (by rw [R.len]; exact hl), h⟩) (fun _ e => nomatch e)
theorem Rep.setU (R : Rep K T A B dc C H σ ρ α) {i : Nat} {x : Option V} : Rep K T A B dc C H (σ.set i x) (ρ.set i Sl.un) α := R.slot (fun _ => True.intro) (fun _ e => nomatch e)
/-- the addresses of other slots don't matter -/
theorem Rep.alp (R : Rep K T A B dc C H σ ρ α) {β : Nat → Addr} (h : ∀ i l, ρ[i]? = some (Sl.own l) → β i = α i) : Rep K T A B dc C H σ ρ β := by
  refine ⟨R.okB, R.okC, R.eA, R.new, R.len, fun j s hj => ?_, fun i j l m hi hj e => ?_, R.dice⟩
  · have q := R.sl j s hj
    cases s with
    | un => exact True.intro
    | dat d => exact q
    | own l => rw [h j l hj]; exact q
    | dice => exact q
  · rw [h i l hi, h j m hj] at e
    exact R.inj i j l m hi hj e
theorem Rep.setL (R : Rep K T A B dc C H σ ρ α) {i : Nat} {p : Addr} {vs : List V} {l : List Dt} (nb : B p = none) (nc : C p = none) (nd : dc ≠ some p) (hp : H p = some (.lst vs)) (h : DzA K C vs l) (no : ∀ j m, ρ[j]? = some (Sl.own m) → α j ≠ p) :
    Rep K T A B dc C H (σ.set i (some (.ref p))) (ρ.set i (Sl.own l)) (fun j => if j = i then p else α j) := by
  have R1 : Rep K T A B dc C H (σ.set i none) (ρ.set i Sl.un) (fun j => if j = i then p else α j) := (R.setU (i := i) (x := none)).alp fun j m hj => by
    by_cases e : j = i
    · subst e
      have hl : j < ρ.length := by
        have := (List.getElem?_eq_some_iff.mp hj).1
        simpa using this
      rw [List.getElem?_set_self hl] at hj
      cases hj
    · exact if_neg e
  have R2 := R1.slot (i := i) (x := some (.ref p)) (s := .own l) (fun hl => ⟨by
      rw [if_pos rfl]
      exact List.getElem?_set_self (by rw [R1.len]; exact hl), by rw [if_pos rfl]; exact ⟨nb, nc, nd, vs, hp, h⟩⟩) (fun _ _ j m hj hm => by
      rw [if_pos rfl, if_neg hj]
      rw [List.getElem?_set_ne (Ne.symm hj)] at hm
      exact no j m hm)
  simpa only [List.set_set] using R2
/-- a list of one's own changes -/
theorem Rep.mut (R : Rep K T A B dc C H σ ρ α) {i : Nat} {l l' : List Dt} {vs : List V} (hi : ρ[i]? = some (Sl.own l)) (h : DzA K C vs l') : Rep K T A B dc C (upd H (α i) (.lst vs)) σ (ρ.set i (Sl.own l')) α := by
  obtain ⟨h1, h2, h3, h4, ws, h5, h6⟩ := R.ow hi
  have hl := (List.getElem?_eq_some_iff.mp hi).1
  refine ⟨R.okB.mutL h2 h5, R.okC.mutL h3 h5, R.eA, R.new, by simp [R.len], fun j s hj => ?_, fun j k m n hj hk e => ?_, fun d hd => ?_⟩
  · by_cases e : j = i
    · subst e
      rw [List.getElem?_set_self hl] at hj
      cases hj
      exact ⟨h1, h2, h3, h4, vs, upd_same, h⟩
    · rw [List.getElem?_set_ne (Ne.symm e)] at hj
      have q := R.sl j s hj
      cases s with
      | un => exact True.intro
      | dat d => exact q
      | own m =>
        obtain ⟨g1, g2, g3, g4, us, g5, g6⟩ := q
        exact ⟨g1, g2, g3, g4, us, (upd_ne fun z => e (R.inj j i m l hj hi z)).trans g5, g6⟩
      | dice => exact q
  · have back : ∀ {j m}, (ρ.set i (Sl.own l'))[j]? = some (Sl.own m) → ∃ m', ρ[j]? = some (Sl.own m') := fun {j m} hj => by
      by_cases e : j = i
      · subst e
        exact ⟨l, hi⟩
      · rw [List.getElem?_set_ne (Ne.symm e)] at hj
        exact ⟨m, hj⟩
    obtain ⟨m', hj'⟩ := back hj
    obtain ⟨n', hk'⟩ := back hk
    exact R.inj j k m' n' hj' hk' e
  · obtain ⟨g1, g2, D, g3, g4⟩ := R.dice d hd
    have ne : d ≠ α i := fun z => h4 (by rw [hd, z])
    exact ⟨g1, g2, D, (upd_ne ne).trans g3, g4⟩
/-- a list of one's own is let be -/
theorem Rep.frz (R : Rep K T A B dc C H σ ρ α) {i : Nat} {l : List Dt} (hi : ρ[i]? = some (Sl.own l)) : ∃ C', Rep K T A B dc C' H σ (ρ.set i (Sl.dat (.lst l))) α ∧ Ex C C' := by
  obtain ⟨h1, h2, h3, h4, ws, h5, h6⟩ := R.ow hi
  have e : Ex C (upd C (α i) (.lst ws)) := upd_up h3
  have hl := (List.getElem?_eq_some_iff.mp hi).1
  refine ⟨upd C (α i) (.lst ws), ?_, e⟩
  have R0 := R.setU (i := i) (x := some (.ref (α i)))
  have R1 : Rep K T A B dc (upd C (α i) (.lst ws)) H (σ.set i (some (.ref (α i)))) (ρ.set i Sl.un) α := by
    refine R0.to R.okB (R.okC.addL h5) e (fun a ha => ?_) (fun j m hj => ?_) (fun d hd => ?_)
    · by_cases z : a = α i
      · subst z
        exact .inr h2
      · rw [upd_ne z] at ha
        exact .inl ha
    · have ji : j ≠ i := fun z => by
        subst z
        rw [List.getElem?_set_self hl] at hj
        cases hj
      rw [List.getElem?_set_ne (Ne.symm ji)] at hj
      obtain ⟨_, _, g3, _⟩ := R.ow hj
      exact ⟨(upd_ne fun z => ji (R.inj j i m l hj hi z)).trans g3, rfl⟩
    · obtain ⟨g1, g2, g3⟩ := R.dice d hd
      exact ⟨(upd_ne fun z => h4 (by rw [hd, z])).trans g2, g3⟩
  have R2 := R1.setD (i := i) (v := .ref (α i)) (d := .lst l) (.lst upd_same (h6.up e))
  have e1 : (σ.set i (some (.ref (α i)))).set i (some (.ref (α i))) = σ := by
    rw [List.set_set]
    refine List.ext_getElem? fun j => ?_
    by_cases z : j = i
    · subst z
      rw [h1]
      exact List.getElem?_set_self (by rw [R.len]; exact hl)
    · exact List.getElem?_set_ne (Ne.symm z)
  rw [e1, List.set_set] at R2
  exact R2
theorem Rep.forget (R : Rep K T A B dc C H σ ρ α) {i : Nat} : Rep K T A B dc C H σ (ρ.set i Sl.un) α := by
  refine ⟨R.okB, R.okC, R.eA, R.new, by simp [R.len], fun j s hj => ?_, fun j k l m hj hk e => ?_, R.dice⟩
  · by_cases e : j = i
    · subst e
      have hl : j < ρ.length := by
        have := (List.getElem?_eq_some_iff.mp hj).1
        simpa using this
      rw [List.getElem?_set_self hl] at hj
      cases hj
      exact True.intro
    · rw [List.getElem?_set_ne (Ne.symm e)] at hj
      exact R.sl j s hj
  · have back : ∀ {j m}, (ρ.set i Sl.un)[j]? = some (Sl.own m) → ρ[j]? = some (Sl.own m) := fun {j m} hj => by
      by_cases e : j = i
      · subst e
        have hl : j < ρ.length := by
          have := (List.getElem?_eq_some_iff.mp hj).1
          simpa using this
        rw [List.getElem?_set_self hl] at hj
        cases hj
      · rw [List.getElem?_set_ne (Ne.symm e)] at hj
        exact hj
    exact R.inj j k l m (back hj) (back hk) e
/-- one more thing that must stay -/
theorem Rep.tmp (R : Rep K T A B dc C H σ ρ α) {p : Addr} {o : HO} (hp : H p = some o) (n : notTab o) (nc : C p = none) (nd : dc ≠ some p) (no : ∀ j m, ρ[j]? = some (Sl.own m) → α j ≠ p) : Rep K T A (upd B p o) dc C H σ ρ α := by
  refine ⟨R.okB.add hp n, R.okC, R.eA, fun a ha => ?_, R.len, fun j s hj => ?_, R.inj, fun d hd => ?_⟩
  · rcases R.new a ha with h | h
    · exact .inl h
    · refine .inr (h.imp (fun h => (upd_ne fun z => ?_).trans h) id)
      rw [z] at ha
      exact ha nc
  · have q := R.sl j s hj
    cases s with
    | un => exact True.intro
    | dat d => exact q
    | own m =>
      obtain ⟨g1, g2, g3⟩ := q
      exact ⟨g1, (upd_ne (no j m hj)).trans g2, g3⟩
    | dice => exact q
  · obtain ⟨g1, g2⟩ := R.dice d hd
    exact ⟨(upd_ne fun z => nd (by rw [hd, z])).trans g1, g2⟩
theorem Rep.untmp {p : Addr} {o : HO} (nb : B p = none) (R : Rep K T A (upd B p o) dc C H σ ρ α) : Rep K T A B dc C H σ ρ α := by
  have e : Ex B (upd B p o) := upd_up nb
  have dn : ∀ {a}, upd B p o a = none → B a = none := fun {a} h => Evl.fresh_back e h
  refine ⟨R.okB.back e, R.okC, R.eA, fun a ha => (R.new a ha).imp id (Or.imp dn id), R.len, fun j s hj => ?_, R.inj, fun d hd => ?_⟩
  · have q := R.sl j s hj
    cases s with
    | un => exact True.intro
    | dat d => exact q
    | own m =>
      obtain ⟨g1, g2, g3⟩ := q
      exact ⟨g1, dn g2, g3⟩
    | dice => exact q
  · obtain ⟨g1, g2⟩ := R.dice d hd
    exact ⟨dn g1, g2⟩
/-- what stands now is as handed in -/
theorem Rep.re (R : Rep K T A B dc C H σ ρ α) : Rep K T C B dc C H σ ρ α := ⟨R.okB, R.okC, Evl.Ex.refl _, fun _ h => .inl h, R.len, R.sl, R.inj, R.dice⟩
theorem Rep.unre {C0 H0 : Hp} {σ0 : L2.St} {ρ0 : List Sl} {α0 : Nat → Addr} (R0 : Rep K T A B dc C0 H0 σ0 ρ0 α0) (R : Rep K T C0 B dc C H σ ρ α) : Rep K T A B dc C H σ ρ α :=
  ⟨R.okB, R.okC, R0.eA.trans R.eA, fun a h => (R.new a h).elim (fun z => (R0.new a z).imp id (Or.imp id fun ⟨φ, q⟩ => ⟨φ, R.eA _ _ q⟩)) .inr, R.len, R.sl, R.inj, R.dice⟩
end
/-! ### what an expression gives -/
inductive Ag where
  | dat (d : Dt) | slot (i : Nat)
def AgAt (K : PySem.W.Frag) (C : Hp) (ρ : List Sl) (α : Nat → Addr) : Ag → V → Prop
  | .dat d, v => Dz K C v d
  | .slot i, v => v = .ref (α i) ∧ ∃ l, ρ[i]? = some (Sl.own l)
def agD (ρ : List Sl) : Ag → Option Dt
  | .dat d => some d
  | .slot i => match ρ[i]? with
    | some (Sl.own l) => some (.lst l)
    | _ => none
theorem AgAt.up {K : PySem.W.Frag} {C C' : Hp} {ρ : List Sl} {α : Nat → Addr} (e : Ex C C') : ∀ {g : Ag} {v : V}, AgAt K C ρ α g v → AgAt K C' ρ α g v
  | .dat _, _, h => Dz.up e h
  | .slot _, _, h => h
def AgsAt (K : PySem.W.Frag) (C : Hp) (ρ : List Sl) (α : Nat → Addr) : List Ag → List V → Prop
  | [], [] => True
  | g :: gs, v :: vs => AgAt K C ρ α g v ∧ AgsAt K C ρ α gs vs
  | _, _ => False
def agsD (ρ : List Sl) : List Ag → Option (List Dt)
  | [] => some []
  | g :: gs => match agD ρ g, agsD ρ gs with
    | some d, some ds => some (d :: ds)
    | _, _ => none
inductive Res where
  | dat (d : Dt) | fr (l : List Dt)
structure Nd where
  nx : List Sl → Prop
  rt : Res → Prop
  bk : List Sl → Prop := fun _ => False
  ct : List Sl → Prop := fun _ => False
  ex : Xd → Prop := fun _ => False
  E : XK := fun _ _ _ => False
/-- the place of a new list: it is no one else's -/
structure Fr (A B : Hp) (dc : Option Addr) (C : Hp) (ρ : List Sl) (α : Nat → Addr) (p : Addr) : Prop where
  nb : B p = none
  nc : C p = none
  nd : dc ≠ some p
  no : ∀ j m, ρ[j]? = some (Sl.own m) → α j ≠ p
def ResAt (K : PySem.W.Frag) (B : Hp) (dc : Option Addr) (C H : Hp) : Res → V → Prop
  | .dat d, v => Dz K C v d
  | .fr l, v => ∃ p vs, v = .ref p ∧ B p = none ∧ C p = none ∧ dc ≠ some p ∧ H p = some (.lst vs) ∧ DzA K C vs l
structure Tie (K : PySem.W.Frag) (T : Tb) (A B : Hp) (dc : Option Addr) (N : Nd) (D : Ends) : Prop where
  nx : ∀ {C H σ ρ α}, N.nx ρ → Rep K T A B dc C H σ ρ α → D.nx σ H
  rt : ∀ {C H σ ρ α r v}, N.rt r → Rep K T A B dc C H σ ρ α → ResAt K B dc C H r v → D.rt v H
  bk : ∀ {C H σ ρ α}, N.bk ρ → Rep K T A B dc C H σ ρ α → D.bk σ H
  ct : ∀ {C H σ ρ α}, N.ct ρ → Rep K T A B dc C H σ ρ α → D.ct σ H
  ex : ∀ {C H σ ρ α x cls d}, N.ex x → Rep K T A B dc C H σ ρ α → XdAt B dc C H x cls d → N.E cls d H
section
variable (K : PySem.W.Frag) (T : Tb)
def WE (te : TE) (ρ : List Sl) (P : Ag → Prop) : Prop := ∀ ⦃A B dc C H σ α⦄ (R : Rep K T A B dc C H σ ρ α) (Q : VK), (∀ g v C' H', P g → Rep K T A B dc C' H' σ ρ α → Ex C C' → AgAt K C' ρ α g v → Q v H') → te σ H Q
def WL (te : TE) (ρ : List Sl) (P : List Dt → Prop) : Prop := ∀ ⦃A B dc C H σ α⦄ (R : Rep K T A B dc C H σ ρ α) (Q : VK), (∀ ds p vs C' H', P ds → Rep K T A B dc C' H' σ ρ α → Ex C C' → Fr A B dc C' ρ α p → H' p = some (.lst vs) → DzA K C' vs ds → Q (.ref p) H') → te σ H Q
def WT (tt : TT) (ρ : List Sl) (P : Bool → Prop) : Prop := ∀ ⦃A B dc C H σ α⦄ (R : Rep K T A B dc C H σ ρ α) (Q : Bool → Hp → Prop), (∀ b C' H', P b → Rep K T A B dc C' H' σ ρ α → Ex C C' → Q b H') → tt σ H Q
def WA (ta : TA) (ρ : List Sl) (P : List Ag → Prop) : Prop := ∀ ⦃A B dc C H σ α⦄ (R : Rep K T A B dc C H σ ρ α) (Q : List V → Hp → Prop), (∀ gs vs C' H', P gs → Rep K T A B dc C' H' σ ρ α → Ex C C' → AgsAt K C' ρ α gs vs → Q vs H') → ta σ H Q
def WO (to : TO) (ρ : List Sl) (P : Option Int → Prop) : Prop := ∀ ⦃A B dc C H σ α⦄ (R : Rep K T A B dc C H σ ρ α) (Q : Option Int → Hp → Prop), (∀ o C' H', P o → Rep K T A B dc C' H' σ ρ α → Ex C C' → Q o H') → to σ H Q
def WG (t : TG) (d : Dt) (ρ : List Sl) (P : List Sl → Prop) : Prop := ∀ ⦃A B dc C H σ α v⦄ (R : Rep K T A B dc C H σ ρ α) (h : Dz K C v d) (Q : L2.St → Hp → Prop), (∀ σ' ρ' C' H', P ρ' → Rep K T A B dc C' H' σ' ρ' α → Ex C C' → Q σ' H') → t v σ H Q
def WGs (t : TGs) (ds : List Dt) (ρ : List Sl) (P : List Sl → Prop) : Prop := ∀ ⦃A B dc C H σ α vs⦄ (R : Rep K T A B dc C H σ ρ α) (h : DzA K C vs ds) (Q : L2.St → Hp → Prop), (∀ σ' ρ' C' H', P ρ' → Rep K T A B dc C' H' σ' ρ' α → Ex C C' → Q σ' H') → t vs σ H Q
def WS (t : TS) (ρ : List Sl) (N : Nd) : Prop := ∀ ⦃A B dc C H σ α D⦄ (R : Rep K T A B dc C H σ ρ α), Tie K T A B dc N D → t D σ H
/-- an operation on two values -/
def WR (r : R2) (ρ : List Sl) (x y : Ag) (P : Ag → Prop) : Prop := ∀ ⦃A B dc C H σ α v w⦄ (R : Rep K T A B dc C H σ ρ α) (hv : AgAt K C ρ α x v) (hw : AgAt K C ρ α y w) (Q : VK), (∀ g v' C' H', P g → Rep K T A B dc C' H' σ ρ α → Ex C C' → AgAt K C' ρ α g v' → Q v' H') → r v w H Q
/-- a call on values -/
def WC (r : List V → Hp → VK → Prop) (ρ : List Sl) (xs : List Ag) (P : Ag → Prop) : Prop := ∀ ⦃A B dc C H σ α vs⦄ (R : Rep K T A B dc C H σ ρ α) (hv : AgsAt K C ρ α xs vs) (Q : VK), (∀ g v' C' H', P g → Rep K T A B dc C' H' σ ρ α → Ex C C' → AgAt K C' ρ α g v' → Q v' H') → r vs H Q
end
end Ub

namespace Ub
open PySem PySem.Spec PyProof.Rows L2
/-! ### names for some readings -/
def rAbs : List V → Hp → VK → Prop := fun xs H Q => ∃ i, xs = [.int i] ∧ Q (.int (if i < 0 then -i else i)) H
def rMin2 : List V → Hp → VK → Prop := fun xs H Q => ∃ i j, xs = [.int i, .int j] ∧ Q (.int (if j < i then j else i)) H
def rMax2 : List V → Hp → VK → Prop := fun xs H Q => ∃ i j, xs = [.int i, .int j] ∧ Q (.int (if j > i then j else i)) H
def rInt1 : List V → Hp → VK → Prop := fun xs H Q => (∃ i, xs = [.int i] ∧ Q (.int i) H) ∨ ∃ k, xs = [.bl k] ∧ Q (.int (if k then 1 else 0)) H
def rIntS : List V → Hp → VK → Prop := fun xs H Q => ∃ a n, xs = [.str a] ∧ PySem.intText? a = some n ∧ a.length ≤ 640 ∧ Q (.int n) H
def rStrI : List V → Hp → VK → Prop := fun xs H Q => ∃ i : Int, xs = [.int i] ∧ i.natAbs.log2 < 1920 ∧ Q (.str (toString i)) H
def rAddS : R2 := fun x y H Q => ∃ i j, x = .str i ∧ y = .str j ∧ i.length + j.length ≤ sizeLine ∧ Q (.str (i ++ j)) H
def rLenStr : List V → Hp → VK → Prop := fun xs H Q => ∃ z, xs = [.str z] ∧ z.length ≤ sizeLine ∧ Q (.int z.length) H
section
variable {X : Cx}
theorem cr_abs : CallR X (.builtin "abs") rAbs := call_abs
theorem cr_min2 (hc : X.calm = true) : CallR X (.builtin "min") rMin2 := call_min2 hc
theorem cr_max2 (hc : X.calm = true) : CallR X (.builtin "max") rMax2 := call_max2 hc
theorem cr_int1 : CallR X (.type "int") rInt1 := call_int1
theorem cr_intS : CallR X (.type "int") rIntS := call_int_str
theorem cr_strI : CallR X (.type "str") rStrI := call_str_int
theorem cr_lenStr : CallR X (.builtin "len") rLenStr := call_len_str
theorem cr_lenSq : CallR X (.builtin "len") (Evl.rLenS X.K) := call_len_seq
theorem cr_listSq : CallR X (.type "list") (Evl.rListS X.K) := call_list_of
theorem op_addS : OpR X (binaryOp .Add) rAddS := op_add_str
end
section
variable {K : PySem.W.Frag} {T : Tb} {A B : Hp} {dc : Option Addr} {C H : Hp} {σ : L2.St} {ρ : List Sl} {α : Nat → Addr} {P : Ag → Prop} {ta tb tc te : TE} {t u : TT}
/-! ### reading -/
theorem ag_list (R : Rep K T A B dc C H σ ρ α) {g : Ag} {v : V} {l : List Dt} (h : AgAt K C ρ α g v) (hd : agD ρ g = some (.lst l)) : ∃ a vs, v = .ref a ∧ H a = some (.lst vs) ∧ DzA K C vs l := by
  cases g with
  | dat d =>
    have e : d = .lst l := Option.some.inj hd
    subst e
    cases (show Dz K C v (.lst l) from h) with
    | lst h1 h2 => exact ⟨_, _, rfl, R.okC.ex _ _ h1, h2⟩
  | slot i =>
    obtain ⟨rfl, m, hm⟩ := h
    have e : m = l := by
      simp only [agD, hm] at hd
      exact Dt.lst.inj (Option.some.inj hd)
    subst e
    obtain ⟨_, _, _, _, vs, h5, h6⟩ := R.ow hm
    exact ⟨_, vs, rfl, h5, h6⟩
theorem ag_tup (R : Rep K T A B dc C H σ ρ α) {g : Ag} {v : V} {l : List Dt} (h : AgAt K C ρ α g v) (hd : agD ρ g = some (.tup l)) : ∃ a vs, v = .ref a ∧ SqT K H a vs ∧ DzA K C vs l := by
  cases g with
  | dat d =>
    have e : d = .tup l := Option.some.inj hd
    subst e
    cases (show Dz K C v (.tup l) from h) with
    | tup h1 h2 => exact ⟨_, _, rfl, R.okC.st h1, h2⟩
  | slot i =>
    exfalso
    obtain ⟨_, m, hm⟩ := h
    simp only [agD, hm] at hd
    cases hd
theorem ag_int {v : V} {i : Int} (h : AgAt K C ρ α (.dat (.int i)) v) : v = .int i := by
  cases (show Dz K C v (.int i) from h)
  rfl
theorem ag_str {v : V} {i : Str} (h : AgAt K C ρ α (.dat (.str i)) v) : v = .str i := by
  cases (show Dz K C v (.str i) from h)
  rfl
theorem ag_bl {v : V} {i : Bool} (h : AgAt K C ρ α (.dat (.bl i)) v) : v = .bl i := by
  cases (show Dz K C v (.bl i) from h)
  rfl
theorem ag_non {v : V} (h : AgAt K C ρ α (.dat .non) v) : v = .non := by
  cases (show Dz K C v .non from h)
  rfl
/-! ### expressions -/
theorem we_dat {i : Nat} {d : Dt} (h : ρ[i]? = some (Sl.dat d)) (p : P (.dat d)) : WE K T (tVar i) ρ P := fun ⦃A B dc C H σ α⦄ R Q q => by
  obtain ⟨v, h1, h2⟩ := R.dat h
  exact ⟨v, h1, q _ v C H p R (Evl.Ex.refl _) h2⟩
theorem we_own {i : Nat} {l : List Dt} (h : ρ[i]? = some (Sl.own l)) (p : P (.slot i)) : WE K T (tVar i) ρ P := fun ⦃A B dc C H σ α⦄ R Q q =>
  ⟨_, (R.ow h).1, q _ _ C H p R (Evl.Ex.refl _) ⟨rfl, l, h⟩⟩
theorem we_c {v : V} {d : Dt} (h : ∀ C, Dz K C v d) (p : P (.dat d)) : WE K T (tC v) ρ P := fun ⦃A B dc C H σ α⦄ R Q q => q _ v C H p R (Evl.Ex.refl _) (h C)
theorem we_int {n : Int} (p : P (.dat (.int n))) : WE K T (tC (.int n)) ρ P := we_c (fun _ => .int n) p
theorem we_str {n : Str} (p : P (.dat (.str n))) : WE K T (tC (.str n)) ρ P := we_c (fun _ => .str n) p
theorem we_bl {n : Bool} (p : P (.dat (.bl n))) : WE K T (tC (.bl n)) ρ P := we_c (fun _ => .bl n) p
theorem we_non (p : P (.dat .non)) : WE K T (tC .non) ρ P := we_c (fun _ => .non) p
theorem we_op {r : R2} (h : WE K T ta ρ fun x => WE K T tb ρ fun y => WR K T r ρ x y P) : WE K T (tOp r ta tb) ρ P := fun ⦃A B dc C H σ α⦄ R Q q =>
  h R _ fun g v C1 H1 h1 R1 e1 a1 => h1 R1 _ fun g2 w C2 H2 h2 R2 e2 a2 => h2 R2 (a1.up e2) a2 Q fun g3 z C3 H3 p R3 e3 a3 => q g3 z C3 H3 p R3 (e1.trans (e2.trans e3)) a3
theorem we_mono {P' : Ag → Prop} (h : WE K T te ρ P) (i : ∀ g, P g → P' g) : WE K T te ρ P' := fun ⦃A B dc C H σ α⦄ R Q q => h R Q fun g v C' H' p => q g v C' H' (i g p)
theorem we_neg (h : WE K T ta ρ fun x => ∃ i, x = .dat (.int i) ∧ P (.dat (.int (-i)))) : WE K T (tUn (rU fun i => .int (-i)) ta) ρ P := fun ⦃A B dc C H σ α⦄ R Q q =>
  h R _ fun g v C1 H1 h1 R1 e1 a1 => by
    obtain ⟨i, rfl, p⟩ := h1
    obtain rfl := ag_int a1
    exact ⟨i, rfl, q _ _ C1 H1 p R1 e1 (.int _)⟩
theorem we_if (h : WT K T t ρ fun b => (b = true → WE K T ta ρ P) ∧ (b = false → WE K T tb ρ P)) : WE K T (tIf t ta tb) ρ P := fun ⦃A B dc C H σ α⦄ R Q q =>
  h R _ fun b C1 H1 h1 R1 e1 => by
    cases b with
    | true => exact iteT (h1.1 rfl R1 Q fun g v C' H' p R' e a => q g v C' H' p R' (e1.trans e) a)
    | false => exact iteF (h1.2 rfl R1 Q fun g v C' H' p R' e a => q g v C' H' p R' (e1.trans e) a)
theorem we_and (h : WE K T ta ρ fun x => ∃ a, x = .dat (.bl a) ∧ (a = true → WE K T tb ρ P) ∧ (a = false → P (.dat (.bl false)))) : WE K T (tAndV ta tb) ρ P := fun ⦃A B dc C H σ α⦄ R Q q =>
  h R _ fun g v C1 H1 h1 R1 e1 a1 => by
    obtain ⟨a, rfl, p1, p2⟩ := h1
    obtain rfl := ag_bl a1
    cases a with
    | true => exact ⟨true, rfl, iteT (p1 rfl R1 Q fun g v C' H' p R' e a => q g v C' H' p R' (e1.trans e) a)⟩
    | false => exact ⟨false, rfl, iteF (q _ _ C1 H1 (p2 rfl) R1 e1 (.bl _))⟩
theorem we_or (h : WE K T ta ρ fun x => ∃ a, x = .dat (.bl a) ∧ (a = false → WE K T tb ρ P) ∧ (a = true → P (.dat (.bl true)))) : WE K T (tOrV ta tb) ρ P := fun ⦃A B dc C H σ α⦄ R Q q =>
  h R _ fun g v C1 H1 h1 R1 e1 a1 => by
    obtain ⟨a, rfl, p1, p2⟩ := h1
    obtain rfl := ag_bl a1
    cases a with
    | false => exact ⟨false, rfl, iteF (p1 rfl R1 Q fun g v C' H' p R' e a => q g v C' H' p R' (e1.trans e) a)⟩
    | true => exact ⟨true, rfl, iteT (q _ _ C1 H1 (p2 rfl) R1 e1 (.bl _))⟩
theorem we_not (h : WE K T ta ρ fun x => ∃ a, x = .dat (.bl a) ∧ P (.dat (.bl (!a)))) : WE K T (tNotV ta) ρ P := fun ⦃A B dc C H σ α⦄ R Q q =>
  h R _ fun g v C1 H1 h1 R1 e1 a1 => by
    obtain ⟨a, rfl, p⟩ := h1
    obtain rfl := ag_bl a1
    exact ⟨a, rfl, q _ _ C1 H1 p R1 e1 (.bl _)⟩
theorem we_chain {r r' : R2} (h : WE K T ta ρ fun x => WE K T tb ρ fun y => WR K T r ρ x y fun z => ∃ k, z = .dat (.bl k) ∧ (k = true → WE K T tc ρ fun z => WR K T r' ρ y z P) ∧ (k = false → P (.dat (.bl false)))) : WE K T (tChain r r' ta tb tc) ρ P := fun ⦃A B dc C H σ α⦄ R Q q =>
  h R _ fun g v C1 H1 h1 R1 e1 a1 => h1 R1 _ fun g2 w C2 H2 h2 R2 e2 a2 => h2 R2 (a1.up e2) a2 _ fun g3 z C3 H3 p3 R3 e3 a3 => by
    obtain ⟨k, rfl, p1, p2⟩ := p3
    obtain rfl := ag_bl a3
    have e := e1.trans (e2.trans e3)
    cases k with
    | true => exact ⟨true, rfl, iteT (p1 rfl R3 _ fun g4 y C4 H4 h4 R4 e4 a4 => h4 R4 (a2.up (e3.trans e4)) a4 Q fun g5 z C5 H5 p R5 e5 a5 => q g5 z C5 H5 p R5 (e.trans (e4.trans e5)) a5)⟩
    | false => exact ⟨false, rfl, iteF (q _ _ C3 H3 (p2 rfl) R3 e (.bl _))⟩
/-! ### tests -/
variable {Pb : Bool → Prop}
theorem wt_val (h : WE K T te ρ fun g => ∃ b, g = .dat (.bl b) ∧ Pb b) : WT K T (tB te) ρ Pb := fun ⦃A B dc C H σ α⦄ R Q q =>
  h R _ fun g v C1 H1 h1 R1 e1 a1 => by
    obtain ⟨b, rfl, p⟩ := h1
    obtain rfl := ag_bl a1
    exact ⟨b, rfl, q b C1 H1 p R1 e1⟩
theorem wt_test (h : WE K T te ρ fun g => ∃ b, g = .dat (.bl b) ∧ Pb b) : WT K T (tTest te) ρ Pb := fun ⦃A B dc C H σ α⦄ R Q q =>
  h R _ fun g v C1 H1 h1 R1 e1 a1 => by
    obtain ⟨b, rfl, p⟩ := h1
    obtain rfl := ag_bl a1
    exact ⟨b, rfl, q b C1 H1 p R1 e1⟩
theorem wt_and (h : WT K T t ρ fun a => (a = true → WT K T u ρ Pb) ∧ (a = false → Pb false)) : WT K T (tAnd t u) ρ Pb := fun ⦃A B dc C H σ α⦄ R Q q =>
  h R _ fun a C1 H1 h1 R1 e1 => by
    cases a with
    | true => exact iteT (h1.1 rfl R1 Q fun b C' H' p R' e => q b C' H' p R' (e1.trans e))
    | false => exact iteF (q false C1 H1 (h1.2 rfl) R1 e1)
theorem wt_or (h : WT K T t ρ fun a => (a = false → WT K T u ρ Pb) ∧ (a = true → Pb true)) : WT K T (tOr t u) ρ Pb := fun ⦃A B dc C H σ α⦄ R Q q =>
  h R _ fun a C1 H1 h1 R1 e1 => by
    cases a with
    | false => exact iteF (h1.1 rfl R1 Q fun b C' H' p R' e => q b C' H' p R' (e1.trans e))
    | true => exact iteT (q true C1 H1 (h1.2 rfl) R1 e1)
theorem wt_not (h : WT K T t ρ fun a => Pb (!a)) : WT K T (tNot t) ρ Pb := fun ⦃A B dc C H σ α⦄ R Q q => h R _ fun a C1 H1 h1 R1 e1 => q _ C1 H1 h1 R1 e1
theorem wt_yes (p : Pb true) : WT K T tYes ρ Pb := fun ⦃A B dc C H σ α⦄ R Q q => q true C H p R (Evl.Ex.refl _)
/-! ### arguments, parts of slices -/
variable {Pa : List Ag → Prop} {tr tas : TA} {Po : Option Int → Prop} {Pl : List Dt → Prop}
theorem wa_nil (p : Pa []) : WA K T tNil ρ Pa := fun ⦃A B dc C H σ α⦄ R Q q => q [] [] C H p R (Evl.Ex.refl _) True.intro
theorem wa_cons (h : WE K T te ρ fun g => WA K T tr ρ fun gs => Pa (g :: gs)) : WA K T (tCons te tr) ρ Pa := fun ⦃A B dc C H σ α⦄ R Q q =>
  h R _ fun g v C1 H1 h1 R1 e1 a1 => h1 R1 _ fun gs vs C2 H2 h2 R2 e2 a2 => q (g :: gs) (v :: vs) C2 H2 h2 R2 (e1.trans e2) ⟨a1.up e2, a2⟩
theorem wo_none (p : Po none) : WO K T tNoPart ρ Po := fun ⦃A B dc C H σ α⦄ R Q q => q none C H p R (Evl.Ex.refl _)
theorem wo_some (h : WE K T te ρ fun g => ∃ i, g = .dat (.int i) ∧ Po (some i)) : WO K T (tPart te) ρ Po := fun ⦃A B dc C H σ α⦄ R Q q =>
  h R _ fun g v C1 H1 h1 R1 e1 a1 => by
    obtain ⟨i, rfl, p⟩ := h1
    obtain rfl := ag_int a1
    exact ⟨i, rfl, q (some i) C1 H1 p R1 e1⟩
/-! ### operations -/
theorem wr_int {f : Int → Int → Int} {i j : Int} (p : P (.dat (.int (f i j)))) : WR K T (rI0 fun i j => .int (f i j)) ρ (.dat (.int i)) (.dat (.int j)) P := fun ⦃A B dc C H σ α v w⦄ R hv hw Q q => by
  obtain rfl := ag_int hv
  obtain rfl := ag_int hw
  exact ⟨i, j, rfl, rfl, q _ _ C H p R (Evl.Ex.refl _) (.int _)⟩
theorem wr_cmp {f : Int → Int → Bool} {i j : Int} (p : P (.dat (.bl (f i j)))) : WR K T (rI0 fun i j => .bl (f i j)) ρ (.dat (.int i)) (.dat (.int j)) P := fun ⦃A B dc C H σ α v w⦄ R hv hw Q q => by
  obtain rfl := ag_int hv
  obtain rfl := ag_int hw
  exact ⟨i, j, rfl, rfl, q _ _ C H p R (Evl.Ex.refl _) (.bl _)⟩
theorem wr_intC {c : Int → Int → Prop} {f : Int → Int → Int} {i j : Int} (hc : c i j) (p : P (.dat (.int (f i j)))) : WR K T (rI c fun i j => .int (f i j)) ρ (.dat (.int i)) (.dat (.int j)) P := fun ⦃A B dc C H σ α v w⦄ R hv hw Q q => by
  obtain rfl := ag_int hv
  obtain rfl := ag_int hw
  exact ⟨i, j, rfl, rfl, hc, q _ _ C H p R (Evl.Ex.refl _) (.int _)⟩
theorem wr_eqI {i j : Int} (p : P (.dat (.bl (decide (i = j))))) : WR K T rEq ρ (.dat (.int i)) (.dat (.int j)) P := fun ⦃A B dc C H σ α v w⦄ R hv hw Q q => by
  obtain rfl := ag_int hv
  obtain rfl := ag_int hw
  refine ⟨rfl, ?_⟩
  rw [show decide (V.int i = V.int j) = decide (i = j) by simp]
  exact q _ _ C H p R (Evl.Ex.refl _) (.bl _)
theorem wr_neI {i j : Int} (p : P (.dat (.bl (!decide (i = j))))) : WR K T rNe ρ (.dat (.int i)) (.dat (.int j)) P := fun ⦃A B dc C H σ α v w⦄ R hv hw Q q => by
  obtain rfl := ag_int hv
  obtain rfl := ag_int hw
  refine ⟨rfl, ?_⟩
  rw [show decide (V.int i = V.int j) = decide (i = j) by simp]
  exact q _ _ C H p R (Evl.Ex.refl _) (.bl _)
theorem wr_eqS {i j : Str} (p : P (.dat (.bl (decide (i = j))))) : WR K T rEq ρ (.dat (.str i)) (.dat (.str j)) P := fun ⦃A B dc C H σ α v w⦄ R hv hw Q q => by
  obtain rfl := ag_str hv
  obtain rfl := ag_str hw
  refine ⟨rfl, ?_⟩
  rw [show decide (V.str i = V.str j) = decide (i = j) by simp]
  exact q _ _ C H p R (Evl.Ex.refl _) (.bl _)
theorem wr_neS {i j : Str} (p : P (.dat (.bl (!decide (i = j))))) : WR K T rNe ρ (.dat (.str i)) (.dat (.str j)) P := fun ⦃A B dc C H σ α v w⦄ R hv hw Q q => by
  obtain rfl := ag_str hv
  obtain rfl := ag_str hw
  refine ⟨rfl, ?_⟩
  rw [show decide (V.str i = V.str j) = decide (i = j) by simp]
  exact q _ _ C H p R (Evl.Ex.refl _) (.bl _)
theorem wr_eqB {i j : Bool} (p : P (.dat (.bl (decide (i = j))))) : WR K T rEq ρ (.dat (.bl i)) (.dat (.bl j)) P := fun ⦃A B dc C H σ α v w⦄ R hv hw Q q => by
  obtain rfl := ag_bl hv
  obtain rfl := ag_bl hw
  refine ⟨rfl, ?_⟩
  rw [show decide (V.bl i = V.bl j) = decide (i = j) by simp]
  exact q _ _ C H p R (Evl.Ex.refl _) (.bl _)
theorem wr_neB {i j : Bool} (p : P (.dat (.bl (!decide (i = j))))) : WR K T rNe ρ (.dat (.bl i)) (.dat (.bl j)) P := fun ⦃A B dc C H σ α v w⦄ R hv hw Q q => by
  obtain rfl := ag_bl hv
  obtain rfl := ag_bl hw
  refine ⟨rfl, ?_⟩
  rw [show decide (V.bl i = V.bl j) = decide (i = j) by simp]
  exact q _ _ C H p R (Evl.Ex.refl _) (.bl _)
theorem atI_dz {vs : List V} {l : List Dt} {i : Int} {d : Dt} (h : DzA K C vs l) (e : atI l i = some d) : ∃ v, atI vs i = some v ∧ Dz K C v d := by
  unfold atI at e ⊢
  rw [h.len]
  cases z : ixN l.length i with
  | none => rw [z] at e; cases e
  | some j =>
    rw [z] at e
    exact h.at_ e
theorem wr_ixL {x : Ag} {l : List Dt} {i : Int} {d : Dt} (hx : agD ρ x = some (.lst l)) (hi : atI l i = some d) (p : P (.dat d)) : WR K T (rIxL K) ρ x (.dat (.int i)) P := fun ⦃A B dc C H σ α v w⦄ R hv hw Q q => by
  obtain ⟨a, vs, rfl, h1, h2⟩ := ag_list R hv hx
  obtain rfl := ag_int hw
  obtain ⟨z, h3, h4⟩ := atI_dz h2 hi
  exact ⟨a, vs, i, z, rfl, rfl, SqL.of h1, h3, q _ _ C H p R (Evl.Ex.refl _) h4⟩
theorem wr_ixT {x : Ag} {l : List Dt} {i : Int} {d : Dt} (hx : agD ρ x = some (.tup l)) (hi : atI l i = some d) (p : P (.dat d)) : WR K T (rIxT K) ρ x (.dat (.int i)) P := fun ⦃A B dc C H σ α v w⦄ R hv hw Q q => by
  obtain ⟨a, vs, rfl, h1, h2⟩ := ag_tup R hv hx
  obtain rfl := ag_int hw
  obtain ⟨z, h3, h4⟩ := atI_dz h2 hi
  exact ⟨a, vs, i, z, rfl, rfl, h1, h3, q _ _ C H p R (Evl.Ex.refl _) h4⟩
theorem wr_ixS {z : Str} {i : Int} {c : Nat} (hl : z.length ≤ 100000) (hi : atI z.cps.toList i = some c) (p : P (.dat (.str ⟨#[c]⟩))) : WR K T rIxS ρ (.dat (.str z)) (.dat (.int i)) P := fun ⦃A B dc C H σ α v w⦄ R hv hw Q q => by
  obtain rfl := ag_str hv
  obtain rfl := ag_int hw
  exact ⟨z, i, c, rfl, rfl, Nat.le_trans hl (by decide), hi, q _ _ C H p R (Evl.Ex.refl _) (.str _)⟩
theorem wr_addS {i j : Str} (hl : i.length + j.length ≤ 100000) (p : P (.dat (.str (i ++ j)))) : WR K T rAddS ρ (.dat (.str i)) (.dat (.str j)) P := fun ⦃A B dc C H σ α v w⦄ R hv hw Q q => by
  obtain rfl := ag_str hv
  obtain rfl := ag_str hw
  exact ⟨i, j, rfl, rfl, Nat.le_trans hl (by decide), q _ _ C H p R (Evl.Ex.refl _) (.str _)⟩
theorem wr_repS {z : Str} {n : Int} (h0 : 0 ≤ n) (h1 : n ≤ 1000) (h2 : z.length ≤ 1000) (p : P (.dat (.str (repS z n)))) : WR K T rRepS ρ (.dat (.str z)) (.dat (.int n)) P := fun ⦃A B dc C H σ α v w⦄ R hv hw Q q => by
  obtain rfl := ag_str hv
  obtain rfl := ag_int hw
  exact ⟨z, n, rfl, rfl, h0, h1, h2, q _ _ C H p R (Evl.Ex.refl _) (.str _)⟩
/-! ### in -/
theorem inV_ints {n : Int} : ∀ {ns : List Int}, inV (.int n) (ns.map V.int) = ns.contains n
  | [] => rfl
  | m :: ns => by
    have ih := inV_ints (n := n) (ns := ns)
    unfold inV at ih ⊢
    rw [List.map_cons, List.any_cons, ih, List.contains_cons]
    congr 1
    show eqV (.int m) (.int n) = (n == m)
    by_cases e : m = n
    · subst e
      simp [eqV]
    · have e2 : ¬ n = m := fun z => e z.symm
      rw [show eqV (.int m) (.int n) = (m == n) from rfl, beq_eq_false_iff_ne.mpr e, beq_eq_false_iff_ne.mpr e2]
theorem flat_ints : ∀ {ns : List Int}, (ns.map V.int).all flatV = true
  | [] => rfl
  | m :: ns => by
    rw [List.map_cons, List.all_cons, flat_ints]
    rfl
theorem wr_inI {neg : Bool} {y : Ag} {n : Int} {ns : List Int} (hy : agD ρ y = some (.lst (ns.map Dt.int))) (p : P (.dat (.bl (if neg then !ns.contains n else ns.contains n)))) : WR K T (rIn K neg) ρ (.dat (.int n)) y P := fun ⦃A B dc C H σ α v w⦄ R hv hw Q q => by
  obtain rfl := ag_int hv
  obtain ⟨a, vs, rfl, h1, h2⟩ := ag_list R hw hy
  have e := h2.ints_eq
  subst e
  refine ⟨a, _, rfl, .inl (SqL.of h1), rfl, flat_ints, ?_⟩
  rw [inV_ints]
  exact q _ _ C H p R (Evl.Ex.refl _) (.bl _)
/-! ### calls of built-ins -/
theorem we_tcb {r : List V → Hp → VK → Prop} (h : WA K T tas ρ fun gs => WC K T r ρ gs P) : WE K T (tCB r tas) ρ P := fun ⦃A B dc C H σ α⦄ R Q q =>
  h R _ fun gs vs C1 H1 h1 R1 e1 a1 => h1 R1 a1 Q fun g v C' H' p R' e a => q g v C' H' p R' (e1.trans e) a
theorem ags1 {x : Ag} {vs : List V} (h : AgsAt K C ρ α [x] vs) : ∃ v, vs = [v] ∧ AgAt K C ρ α x v := by
  match vs, h with
  | [v], h => exact ⟨v, rfl, h.1⟩
theorem ags2 {x y : Ag} {vs : List V} (h : AgsAt K C ρ α [x, y] vs) : ∃ v w, vs = [v, w] ∧ AgAt K C ρ α x v ∧ AgAt K C ρ α y w := by
  match vs, h with
  | [v, w], h => exact ⟨v, w, rfl, h.1, h.2.1⟩
theorem wc_lenL {x : Ag} {l : List Dt} (hx : agD ρ x = some (.lst l)) (p : P (.dat (.int l.length))) : WC K T (Evl.rLenS K) ρ [x] P := fun ⦃A B dc C H σ α vs⦄ R hv Q q => by
  obtain ⟨v, rfl, h⟩ := ags1 hv
  obtain ⟨a, ws, rfl, h1, h2⟩ := ag_list R h hx
  refine ⟨a, ws, rfl, .inl (SqL.of h1), ?_⟩
  rw [h2.len]
  exact q _ _ C H p R (Evl.Ex.refl _) (.int _)
theorem wc_lenT {x : Ag} {l : List Dt} (hx : agD ρ x = some (.tup l)) (p : P (.dat (.int l.length))) : WC K T (Evl.rLenS K) ρ [x] P := fun ⦃A B dc C H σ α vs⦄ R hv Q q => by
  obtain ⟨v, rfl, h⟩ := ags1 hv
  obtain ⟨a, ws, rfl, h1, h2⟩ := ag_tup R h hx
  refine ⟨a, ws, rfl, .inr h1, ?_⟩
  rw [h2.len]
  exact q _ _ C H p R (Evl.Ex.refl _) (.int _)
theorem wc_lenS {z : Str} (hl : z.length ≤ 100000) (p : P (.dat (.int z.length))) : WC K T rLenStr ρ [.dat (.str z)] P := fun ⦃A B dc C H σ α vs⦄ R hv Q q => by
  obtain ⟨v, rfl, h⟩ := ags1 hv
  obtain rfl := ag_str h
  exact ⟨z, rfl, Nat.le_trans hl (by decide), q _ _ C H p R (Evl.Ex.refl _) (.int _)⟩
theorem wc_abs {i : Int} (p : P (.dat (.int (if i < 0 then -i else i)))) : WC K T rAbs ρ [.dat (.int i)] P := fun ⦃A B dc C H σ α vs⦄ R hv Q q => by
  obtain ⟨v, rfl, h⟩ := ags1 hv
  obtain rfl := ag_int h
  exact ⟨i, rfl, q _ _ C H p R (Evl.Ex.refl _) (.int _)⟩
theorem wc_min {i j : Int} (p : P (.dat (.int (if j < i then j else i)))) : WC K T rMin2 ρ [.dat (.int i), .dat (.int j)] P := fun ⦃A B dc C H σ α vs⦄ R hv Q q => by
  obtain ⟨v, w, rfl, h1, h2⟩ := ags2 hv
  obtain rfl := ag_int h1
  obtain rfl := ag_int h2
  exact ⟨i, j, rfl, q _ _ C H p R (Evl.Ex.refl _) (.int _)⟩
theorem wc_max {i j : Int} (p : P (.dat (.int (if j > i then j else i)))) : WC K T rMax2 ρ [.dat (.int i), .dat (.int j)] P := fun ⦃A B dc C H σ α vs⦄ R hv Q q => by
  obtain ⟨v, w, rfl, h1, h2⟩ := ags2 hv
  obtain rfl := ag_int h1
  obtain rfl := ag_int h2
  exact ⟨i, j, rfl, q _ _ C H p R (Evl.Ex.refl _) (.int _)⟩
theorem wc_intB {b : Bool} (p : P (.dat (.int (if b then 1 else 0)))) : WC K T rInt1 ρ [.dat (.bl b)] P := fun ⦃A B dc C H σ α vs⦄ R hv Q q => by
  obtain ⟨v, rfl, h⟩ := ags1 hv
  obtain rfl := ag_bl h
  exact .inr ⟨b, rfl, q _ _ C H p R (Evl.Ex.refl _) (.int _)⟩
theorem wc_intI {i : Int} (p : P (.dat (.int i))) : WC K T rInt1 ρ [.dat (.int i)] P := fun ⦃A B dc C H σ α vs⦄ R hv Q q => by
  obtain ⟨v, rfl, h⟩ := ags1 hv
  obtain rfl := ag_int h
  exact .inl ⟨i, rfl, q _ _ C H p R (Evl.Ex.refl _) (.int _)⟩
theorem wc_intS {a : Str} {n : Int} (h1 : PySem.intText? a = some n) (h2 : a.length ≤ 640) (p : P (.dat (.int n))) : WC K T rIntS ρ [.dat (.str a)] P := fun ⦃A B dc C H σ α vs⦄ R hv Q q => by
  obtain ⟨v, rfl, h⟩ := ags1 hv
  obtain rfl := ag_str h
  exact ⟨a, n, rfl, h1, h2, q _ _ C H p R (Evl.Ex.refl _) (.int _)⟩
theorem wc_strI {i : Int} (h1 : i.natAbs.log2 < 1920) (p : P (.dat (.str (toString i)))) : WC K T rStrI ρ [.dat (.int i)] P := fun ⦃A B dc C H σ α vs⦄ R hv Q q => by
  obtain ⟨v, rfl, h⟩ := ags1 hv
  obtain rfl := ag_int h
  exact ⟨i, rfl, h1, q _ _ C H p R (Evl.Ex.refl _) (.str _)⟩
/-! ### new lists and tuples -/
def Ag.isD : Ag → Bool
  | .dat _ => true
  | .slot _ => false
def Ag.d : Ag → Dt
  | .dat d => d
  | .slot _ => .non
theorem ags_d : ∀ {gs : List Ag} {vs : List V}, AgsAt K C ρ α gs vs → gs.all Ag.isD = true → DzA K C vs (gs.map Ag.d)
  | [], [], _, _ => .nil
  | [], _ :: _, h, _ => h.elim
  | _ :: _, [], h, _ => h.elim
  | .dat d :: gs, v :: vs, h, a => .cons h.1 (ags_d h.2 (by simpa [Ag.isD] using a))
  | .slot i :: gs, v :: vs, h, a => by simp [Ag.isD] at a
theorem ags_len : ∀ {gs : List Ag} {vs : List V}, AgsAt K C ρ α gs vs → vs.length = gs.length
  | [], [], _ => rfl
  | [], _ :: _, h => h.elim
  | _ :: _, [], h => h.elim
  | g :: gs, v :: vs, h => by simp [ags_len h.2]
theorem sz3 {n : Nat} (h : n ≤ 100000) : n ≤ sizeLine := Nat.le_trans h (by decide)
theorem Fr.up {p : Addr} {C' : Hp} (F : Fr A B dc C ρ α p) (h : C' p = none) : Fr A B dc C' ρ α p := ⟨F.nb, h, F.nd, F.no⟩
theorem Rep.fr (R : Rep K T A B dc C H σ ρ α) {p : Addr} (np : H p = none) : Fr A B dc C ρ α p := by
  refine ⟨R.okB.fresh np, R.okC.fresh np, fun e => ?_, fun j m hj => ?_⟩
  · obtain ⟨_, _, D, h, _⟩ := R.dice p e
    rw [np] at h
    cases h
  · obtain ⟨_, _, _, _, vs, h, _⟩ := R.ow hj
    exact ne_of_none h np
theorem wl_new {Q : VK} {vs : List V} {ds : List Dt} {C0 : Hp} (R : Rep K T A B dc C H σ ρ α) (e : Ex C0 C) (h : DzA K C vs ds) (p : Pl ds) (q : ∀ ds p vs C' H', Pl ds → Rep K T A B dc C' H' σ ρ α → Ex C0 C' → Fr A B dc C' ρ α p → H' p = some (.lst vs) → DzA K C' vs ds → Q (.ref p) H') :
    ∀ a, H a = none → Q (.ref a) (upd H a (.lst vs)) := fun a na => q ds a vs C _ p (R.newM na) e (R.fr na) upd_same h
theorem wl_lst (h : WA K T tas ρ fun gs => gs.all Ag.isD = true ∧ gs.length ≤ 1000 ∧ Pl (gs.map Ag.d)) : WL K T (tLst tas) ρ Pl := fun ⦃A B dc C H σ α⦄ R Q q =>
  h R _ fun gs vs C1 H1 h1 R1 e1 a1 => ⟨sz3 (by rw [ags_len a1]; have := h1.2.1; omega), wl_new R1 e1 (ags_d a1 h1.1) h1.2.2 q⟩
theorem we_tup (h : WA K T tas ρ fun gs => gs.all Ag.isD = true ∧ gs.length ≤ 1000 ∧ P (.dat (.tup (gs.map Ag.d)))) : WE K T (tTup tas) ρ P := fun ⦃A B dc C H σ α⦄ R Q q =>
  h R _ fun gs vs C1 H1 h1 R1 e1 a1 => ⟨sz3 (by rw [ags_len a1]; have := h1.2.1; omega), fun p np =>
    have e2 := R1.okC.up np (o := .tup vs)
    q _ _ _ _ h1.2.2 (R1.new1 np nt_tup) (e1.trans e2) (.tup (SqT.of upd_same) ((ags_d a1 h1.1).up e2))⟩
/-- a new list that is let be -/
theorem we_l (h : WL K T te ρ fun ds => P (.dat (.lst ds))) : WE K T te ρ P := fun ⦃A B dc C H σ α⦄ R Q q =>
  h R Q fun ds p vs C' H' hp R' e F h1 h2 => by
    have e2 : Ex C' (upd C' p (.lst vs)) := upd_up F.nc
    have R2 : Rep K T A B dc (upd C' p (.lst vs)) H' σ ρ α := by
      refine R'.to R'.okB (R'.okC.addL h1) e2 (fun a ha => ?_) (fun i l hi => ?_) (fun d hd => ?_)
      · by_cases z : a = p
        · subst z
          exact .inr F.nb
        · rw [upd_ne z] at ha
          exact .inl ha
      · obtain ⟨_, _, g3, _⟩ := R'.ow hi
        exact ⟨(upd_ne (F.no i l hi)).trans g3, rfl⟩
      · obtain ⟨g1, g2, g3⟩ := R'.dice d hd
        exact ⟨(upd_ne fun z => F.nd (by rw [hd, z])).trans g2, g3⟩
    exact q _ _ _ _ hp R2 (e.trans e2) (.lst upd_same (h2.up e2))
def cutD (xs : List Dt) (lo hi : Option Int) : List Dt := (xs.drop (HT.sIx xs.length 0 lo)).take (HT.sIx xs.length xs.length hi - HT.sIx xs.length 0 lo)
theorem cut_dz {vs : List V} {l : List Dt} {lo hi : Option Int} (h : DzA K C vs l) : DzA K C (cutV vs lo hi) (cutD l lo hi) := by
  unfold cutV cutD
  rw [h.len]
  exact (h.drop).take
variable {tl th : TO}
theorem wl_slice (h : WE K T te ρ fun g => ∃ l, agD ρ g = some (.lst l) ∧ WO K T tl ρ fun lo => WO K T th ρ fun hi => Pl (cutD l lo hi)) : WL K T (tSl (rSlL K) te tl th) ρ Pl := fun ⦃A B dc C H σ α⦄ R Q q =>
  h R _ fun g v C1 H1 ⟨l, hl, h1⟩ R1 e1 a1 => h1 R1 _ fun lo C2 H2 h2 R2 e2 => h2 R2 _ fun hi C3 H3 h3 R3 e3 => by
    obtain ⟨a, vs, rfl, g1, g2⟩ := ag_list R3 (a1.up (e2.trans e3)) hl
    exact ⟨a, vs, rfl, SqL.of g1, wl_new R3 (e1.trans (e2.trans e3)) (cut_dz g2) h3 q⟩
theorem we_sliceS (h : WE K T te ρ fun g => ∃ z, g = .dat (.str z) ∧ z.length ≤ 100000 ∧ WO K T tl ρ fun lo => WO K T th ρ fun hi => P (.dat (.str (cutS z lo hi)))) : WE K T (tSl rSlS te tl th) ρ P := fun ⦃A B dc C H σ α⦄ R Q q =>
  h R _ fun g v C1 H1 ⟨z, hz, hl, h1⟩ R1 e1 a1 => h1 R1 _ fun lo C2 H2 h2 R2 e2 => h2 R2 _ fun hi C3 H3 h3 R3 e3 => by
    subst hz
    obtain rfl := ag_str a1
    exact ⟨z, rfl, sz3 hl, q _ _ C3 H3 h3 R3 (e1.trans (e2.trans e3)) (.str _)⟩
theorem wl_cat (h : WE K T ta ρ fun x => WE K T tb ρ fun y => ∃ l m, agD ρ x = some (.lst l) ∧ agD ρ y = some (.lst m) ∧ l.length + m.length ≤ 100000 ∧ Pl (l ++ m)) : WL K T (tOp rCat ta tb) ρ Pl := fun ⦃A B dc C H σ α⦄ R Q q =>
  h R _ fun g v C1 H1 h1 R1 e1 a1 => h1 R1 _ fun g2 w C2 H2 ⟨l, m, hl, hm, hz, h2⟩ R2 e2 a2 => by
    obtain ⟨a, vs, rfl, g1, g2⟩ := ag_list R2 (a1.up e2) hl
    obtain ⟨b, ws, rfl, g3, g4⟩ := ag_list R2 a2 hm
    exact ⟨a, b, vs, ws, rfl, rfl, g1, g3, sz3 (by rw [g2.len, g4.len]; exact hz), wl_new R2 (e1.trans e2) (g2.app g4) h2 q⟩
theorem flat_rep {α : Type} {x : α} : ∀ n : Nat, (List.replicate n [x]).flatten = List.replicate n x
  | 0 => rfl
  | n + 1 => by rw [List.replicate_succ, List.flatten_cons, flat_rep n]; rfl
/-- [x] * n -/
theorem wl_rep1 (h : WE K T ta ρ fun x => WE K T tb ρ fun y => ∃ d n, agD ρ x = some (.lst [d]) ∧ y = .dat (.int n) ∧ n ≤ 100000 ∧ -100000 ≤ n ∧ Pl (List.replicate n.toNat d)) : WL K T (tOp rRep ta tb) ρ Pl := fun ⦃A B dc C H σ α⦄ R Q q =>
  h R _ fun g v C1 H1 h1 R1 e1 a1 => h1 R1 _ fun g2 w C2 H2 ⟨d, n, hl, hm, hz, hz2, h2⟩ R2 e2 a2 => by
    obtain ⟨a, vs, rfl, g1, g2⟩ := ag_list R2 (a1.up e2) hl
    subst hm
    obtain rfl := ag_int a2
    cases g2 with
    | @cons v _ vs _ g2 g3 =>
      cases g3
      refine ⟨a, n, [v], rfl, rfl, g1, by omega, by omega, sz3 (by simp; omega), ?_⟩
      rw [flat_rep]
      exact wl_new R2 (e1.trans e2) (DzA.rep g2 _) h2 q
theorem wl_list (h : WE K T te ρ fun g => ∃ l, agD ρ g = some (.lst l) ∧ Pl l) : WL K T (tCB (Evl.rListS K) (tCons te tNil)) ρ Pl := fun ⦃A B dc C H σ α⦄ R Q q =>
  h R _ fun g v C1 H1 ⟨l, hl, h1⟩ R1 e1 a1 => by
    obtain ⟨a, vs, rfl, g1, g2⟩ := ag_list R1 a1 hl
    exact ⟨a, vs, rfl, .inl (SqL.of g1), wl_new R1 e1 g2 h1 q⟩
theorem wl_if (h : WT K T t ρ fun b => (b = true → WL K T ta ρ Pl) ∧ (b = false → WL K T tb ρ Pl)) : WL K T (tIf t ta tb) ρ Pl := fun ⦃A B dc C H σ α⦄ R Q q =>
  h R _ fun b C1 H1 h1 R1 e1 => by
    cases b with
    | true => exact iteT (h1.1 rfl R1 Q fun g v vs C' H' p R' e a => q g v vs C' H' p R' (e1.trans e) a)
    | false => exact iteF (h1.2 rfl R1 Q fun g v vs C' H' p R' e a => q g v vs C' H' p R' (e1.trans e) a)
/-! ### targets -/
variable {Pg : List Sl → Prop}
theorem wg_name {i : Nat} {d : Dt} (p : Pg (ρ.set i (Sl.dat d))) : WG K T (gName i) d ρ Pg := fun ⦃A B dc C H σ α v⦄ R h Q q => q _ _ C H p (R.setD h) (Evl.Ex.refl _)
theorem wg_tup {n : Nat} {ts : TGs} {l : List Dt} (hl : l.length = n) (h : WGs K T ts l ρ Pg) : WG K T (gTup K n ts) (.tup l) ρ Pg := fun ⦃A B dc C H σ α v⦄ R hv Q q => by
  cases hv with
  | tup h1 h2 => exact ⟨_, _, rfl, R.okC.st h1, h2.len.trans hl, h R h2 Q q⟩
theorem wgs_nil (p : Pg ρ) : WGs K T gNil [] ρ Pg := fun ⦃A B dc C H σ α vs⦄ R hv Q q => by
  cases hv
  exact ⟨rfl, q _ _ C H p R (Evl.Ex.refl _)⟩
theorem wgs_cons {g : TG} {ts : TGs} {d : Dt} {ds : List Dt} (h : WG K T g d ρ fun ρ' => WGs K T ts ds ρ' Pg) : WGs K T (gCons g ts) (d :: ds) ρ Pg := fun ⦃A B dc C H σ α vs⦄ R hv Q q => by
  cases hv with
  | cons h1 h2 => exact ⟨_, _, rfl, h R h1 _ fun σ' ρ' C' H' h3 R' e => h3 R' (h2.up e) Q fun σ2 ρ2 C2 H2 p R2 e2 => q σ2 ρ2 C2 H2 p R2 (e.trans e2)⟩
/-! ### statements -/
variable {N : Nd} {ts us : TS} {g : TG}
theorem ws_seq (h : WS K T ts ρ { N with nx := fun ρ' => WS K T us ρ' N }) : WS K T (tSeq ts us) ρ N := fun ⦃A B dc C H σ α D⦄ R tie =>
  h R ⟨fun p R' => p R' tie, tie.rt, tie.bk, tie.ct, tie.ex⟩
theorem ws_next (p : N.nx ρ) : WS K T tNext ρ N := fun ⦃A B dc C H σ α D⦄ R tie => tie.nx p R
theorem ws_cont (p : N.ct ρ) : WS K T tCont ρ N := fun ⦃A B dc C H σ α D⦄ R tie => tie.ct p R
theorem ws_brk (p : N.bk ρ) : WS K T tBreak ρ N := fun ⦃A B dc C H σ α D⦄ R tie => tie.bk p R
theorem ws_set {i : Nat} (h : WE K T te ρ fun g => ∃ d, g = .dat d ∧ N.nx (ρ.set i (Sl.dat d))) : WS K T (tAsg te (gName i)) ρ N := fun ⦃A B dc C H σ α D⦄ R tie =>
  h R _ fun g v C' H' ⟨d, hg, p⟩ R' e a => by
    subst hg
    exact tie.nx p (R'.setD a)
theorem ws_setL {i : Nat} (h : WL K T te ρ fun ds => N.nx (ρ.set i (Sl.own ds))) : WS K T (tAsg te (gName i)) ρ N := fun ⦃A B dc C H σ α D⦄ R tie =>
  h R _ fun ds p vs C' H' hp R' e F h1 h2 => tie.nx hp (R'.setL F.nb F.nc F.nd h1 h2 F.no)
theorem ws_asg (h : WE K T te ρ fun x => ∃ d, x = .dat d ∧ WG K T g d ρ N.nx) : WS K T (tAsg te g) ρ N := fun ⦃A B dc C H σ α D⦄ R tie =>
  h R _ fun x v C' H' ⟨d, hg, p⟩ R' e a => by
    subst hg
    exact p R' a _ fun σ2 ρ2 C2 H2 p2 R2 _ => tie.nx p2 R2
theorem ws_drop (h : WE K T te ρ fun _ => N.nx ρ) : WS K T (tDrop te) ρ N := fun ⦃A B dc C H σ α D⦄ R tie =>
  h R _ fun g v C' H' p R' e a => tie.nx p R'
def resOf (ρ : List Sl) : Ag → Res
  | .dat d => .dat d
  | .slot i => match ρ[i]? with
    | some (.own l) => .fr l
    | _ => .dat .non
theorem ws_ret (h : WE K T te ρ fun g => N.rt (resOf ρ g)) : WS K T (tRet te) ρ N := fun ⦃A B dc C H σ α D⦄ R tie =>
  h R _ fun g v C' H' p R' e a => by
    cases g with
    | dat d => exact tie.rt p R' a
    | slot i =>
      obtain ⟨rfl, l, hl⟩ := a
      have er : resOf ρ (.slot i) = .fr l := by
        simp only [resOf, hl]
      rw [er] at p
      obtain ⟨_, h2, h3, h4, vs, h5, h6⟩ := R'.ow hl
      exact tie.rt p R' ⟨_, vs, rfl, h2, h3, h4, h5, h6⟩
theorem ws_retL (h : WL K T te ρ fun ds => N.rt (.fr ds)) : WS K T (tRet te) ρ N := fun ⦃A B dc C H σ α D⦄ R tie =>
  h R _ fun ds p vs C' H' hp R' e F h1 h2 => tie.rt hp R' ⟨p, vs, rfl, F.nb, F.nc, F.nd, h1, h2⟩
theorem ws_retIf (h : WT K T t ρ fun b => (b = true → WS K T (tRet ta) ρ N) ∧ (b = false → WS K T (tRet tb) ρ N)) : WS K T (tRet (tIf t ta tb)) ρ N := fun ⦃A B dc C H σ α D⦄ R tie =>
  h R _ fun b C1 H1 h1 R1 e1 => by
    cases b with
    | true => exact iteT (h1.1 rfl R1 tie)
    | false => exact iteF (h1.2 rfl R1 tie)
theorem ws_retN (p : N.rt (.dat .non)) : WS K T tRetN ρ N := fun ⦃A B dc C H σ α D⦄ R tie => tie.rt p R (.non)
theorem ws_if (h : WT K T t ρ fun b => (b = true → WS K T ts ρ N) ∧ (b = false → WS K T us ρ N)) : WS K T (tIfS t ts us) ρ N := fun ⦃A B dc C H σ α D⦄ R tie =>
  h R _ fun b C1 H1 h1 R1 e1 => by
    cases b with
    | true => exact iteT (h1.1 rfl R1 tie)
    | false => exact iteF (h1.2 rfl R1 tie)
/-- a list of one's own is let be from here on -/
theorem ws_frz {i : Nat} {l : List Dt} (hi : ρ[i]? = some (Sl.own l)) (h : WS K T ts (ρ.set i (Sl.dat (.lst l))) N) : WS K T ts ρ N := fun ⦃A B dc C H σ α D⦄ R tie => by
  obtain ⟨C', R', _⟩ := R.frz hi
  exact h R' tie
theorem ws_append {i : Nat} {l : List Dt} (hi : ρ[i]? = some (Sl.own l)) (hl : l.length < 100000) (h : WE K T te ρ fun g => ∃ d, g = .dat d ∧ N.nx (ρ.set i (Sl.own (l ++ [d])))) : WS K T (tDrop (tBM K "list" rAppend (tVar i) (tCons te tNil))) ρ N := fun ⦃A B dc C H σ α D⦄ R tie => by
  obtain ⟨h1, h2, h3, h4, vs, h5, h6⟩ := R.ow hi
  refine ⟨_, h1, .inl ⟨rfl, vs, SqL.of h5⟩, h R _ fun g v C' H' ⟨d, hg, p⟩ R' e a => ?_⟩
  subst hg
  obtain ⟨_, _, _, _, ws, g5, g6⟩ := R'.ow hi
  exact ⟨_, ws, v, rfl, rfl, g5, Nat.lt_of_lt_of_le (by rw [g6.len]; exact hl) (show 100000 ≤ sizeLine by decide), tie.nx p (R'.mut hi (g6.app (.cons a .nil)))⟩
theorem ws_clear {i : Nat} {l : List Dt} (hi : ρ[i]? = some (Sl.own l)) (p : N.nx (ρ.set i (Sl.own []))) : WS K T (tDrop (tBM0 K "list" rClear (tVar i))) ρ N := fun ⦃A B dc C H σ α D⦄ R tie => by
  obtain ⟨h1, h2, h3, h4, vs, h5, h6⟩ := R.ow hi
  exact ⟨_, h1, .inl ⟨rfl, vs, SqL.of h5⟩, _, vs, rfl, rfl, h5, tie.nx p (R.mut hi .nil)⟩
/-! ### weaker slots -/
def Sub : List Sl → List Sl → Prop
  | [], [] => True
  | s :: ρ, s' :: ρ' => (s' = .un ∨ s' = s) ∧ Sub ρ ρ'
  | _, _ => False
theorem sub_nil : Sub [] [] := True.intro
theorem sub_eq {s : Sl} {ρ ρ' : List Sl} (h : Sub ρ ρ') : Sub (s :: ρ) (s :: ρ') := ⟨.inr rfl, h⟩
theorem sub_un {s : Sl} {ρ ρ' : List Sl} (h : Sub ρ ρ') : Sub (s :: ρ) (Sl.un :: ρ') := ⟨.inl rfl, h⟩
theorem sub_refl : ∀ ρ : List Sl, Sub ρ ρ
  | [] => sub_nil
  | _ :: ρ => sub_eq (sub_refl ρ)
theorem Sub.len : ∀ {ρ ρ' : List Sl}, Sub ρ ρ' → ρ.length = ρ'.length
  | [], [], _ => rfl
  | _ :: _, _ :: _, h => by simp [Sub.len h.2]
  | [], _ :: _, h => h.elim
  | _ :: _, [], h => h.elim
theorem Sub.get : ∀ {ρ ρ' : List Sl} {i : Nat} {s : Sl}, Sub ρ ρ' → ρ'[i]? = some s → s = .un ∨ ρ[i]? = some s
  | [], [], _, _, _, e => by simp at e
  | s :: ρ, s' :: ρ', 0, _, h, e => by
    cases e
    exact h.1.imp id fun z => by rw [z]; rfl
  | s :: ρ, s' :: ρ', i + 1, t, h, e => by
    have e2 : ρ'[i]? = some t := by simpa using e
    simpa using Sub.get h.2 e2
  | [], _ :: _, _, _, h, _ => h.elim
  | _ :: _, [], _, _, h, _ => h.elim
theorem Rep.sub {ρ' : List Sl} (R : Rep K T A B dc C H σ ρ α) (h : Sub ρ ρ') : Rep K T A B dc C H σ ρ' α := by
  have g : ∀ {i l}, ρ'[i]? = some (Sl.own l) → ρ[i]? = some (Sl.own l) := fun {i l} e => (h.get e).elim (fun z => nomatch z) id
  refine ⟨R.okB, R.okC, R.eA, R.new, R.len.trans h.len, fun i s hi => ?_, fun i j l m hi hj e => R.inj i j l m (g hi) (g hj) e, R.dice⟩
  rcases h.get hi with rfl | e
  · exact True.intro
  · exact R.sl i s e
def Wk (I : List Sl → Prop) : List Sl → Prop := fun ρ => ∃ ρ', Sub ρ ρ' ∧ I ρ'
theorem wk {I : List Sl → Prop} (h : I ρ) : Wk I ρ := ⟨ρ, sub_refl ρ, h⟩
/-! ### loops -/
theorem for_core {J : It} {n : Nat} {G : Hp → Prop} {Y : Nat → Hp → V → Hp → Prop} (w : Walk J n G Y) {tb : TS} {D : Ends} (R : Rep K T A B dc C H σ ρ α) (tie : Tie K T A B dc N D) (I : Nat → List Sl → Prop) (dt : Nat → Dt → Prop)
    (hG : ∀ {C' H' σ' ρ' α'}, Rep K T C B dc C' H' σ' ρ' α' → G H') (hY : ∀ {i x C' H' H2 σ' ρ' α'}, i < n → Rep K T C B dc C' H' σ' ρ' α' → Y i H' x H2 → ∃ C2 d, dt i d ∧ Rep K T C B dc C2 H2 σ' ρ' α' ∧ Ex C' C2 ∧ Dz K C2 x d)
    (h0 : I 0 ρ) (hs : ∀ i d ρ', i < n → dt i d → I i ρ' → WG K T g d ρ' fun ρ2 => WS K T tb ρ2 { N with nx := Wk (I (i + 1)), ct := Wk (I (i + 1)), bk := N.nx }) (hd : ∀ ρ', I n ρ' → N.nx ρ') :
    ∃ W : Nat → Nat → L2.St → Hp → Prop, (∃ m, W 0 m σ H) ∧ ∀ i m σ H, W i m σ H →
      (J.stop i H ∧ D.nx σ H) ∨ (J.go i H ∧ ∃ N : L2.St → Hp → Prop, (∀ σ' H', N σ' H' → ∃ m', m' < m ∧ W (i + 1) m' σ' H') ∧ ∀ x H', J.yld i H x H' → g x σ H' fun σ2 H2 => tb { D with nx := N, ct := N, bk := D.nx } σ2 H2) := by
  refine for_it w (fun i σ' H' => ∃ C' ρ' α', Rep K T C B dc C' H' σ' ρ' α' ∧ I i ρ') ⟨C, ρ, α, R.re, h0⟩ (fun i σ' H' _ h => ?_) (fun i x σ' H1 H2 hi h hy => ?_) (fun σ' H' h => ?_)
  · obtain ⟨C', ρ', α', R', _⟩ := h
    exact hG R'
  · obtain ⟨C', ρ', α', R', hI⟩ := h
    obtain ⟨C2, d, hdt, R2, e2, hz⟩ := hY hi R' hy
    refine hs i d ρ' hi hdt hI R2 hz _ fun σ3 ρ3 C3 H3 h3 R3 _ => h3 R3 ⟨fun p R4 => ?_, fun p R4 r => tie.rt p (R.unre R4) r, fun p R4 => tie.nx p (R.unre R4), fun p R4 => ?_, fun p R4 z => tie.ex p (R.unre R4) z⟩
    · obtain ⟨ρ5, hs5, p5⟩ := p
      exact ⟨_, ρ5, _, R4.sub hs5, p5⟩
    · obtain ⟨ρ5, hs5, p5⟩ := p
      exact ⟨_, ρ5, _, R4.sub hs5, p5⟩
  · obtain ⟨C', ρ', α', R', hI⟩ := h
    exact tie.nx (hd ρ' hI) (R.unre R')
theorem ws_forL {tl : TE} {tb : TS} (I : Nat → List Sl → Prop) (h : WE K T tl ρ fun x => ∃ l, x = .dat (.lst l) ∧ I 0 ρ ∧ (∀ i d ρ', l[i]? = some d → I i ρ' → WG K T g d ρ' fun ρ2 => WS K T tb ρ2 { N with nx := Wk (I (i + 1)), ct := Wk (I (i + 1)), bk := N.nx }) ∧ ∀ ρ', I l.length ρ' → N.nx ρ') :
    WS K T (tFor (iList K tl) g tb) ρ N := fun ⦃A B dc C H σ α D⦄ R tie =>
  h R _ fun x v C1 H1 ⟨l, hx, h0, hs, hd⟩ R1 e1 a1 => by
    subst hx
    cases (show Dz K C1 v (.lst l) from a1) with
    | @lst a vs _ g1 g2 =>
      have hl : vs.length = l.length := g2.len
      refine ⟨a, rfl, ⟨vs, SqL.of (R1.okC.ex _ _ g1)⟩, for_core (walk_list (K := K) (a := a) (xs := vs)) R1 tie I (fun i d => l[i]? = some d) (fun R' => SqL.of (R'.okC.ex _ _ (R'.eA _ _ g1))) (fun hi R' hy => ?_) h0 (fun i d ρ' hi hd' hI => hs i d ρ' hd' hI) (fun ρ' hI => hd ρ' (hl ▸ hI))⟩
      obtain ⟨rfl, hx⟩ := hy
      obtain ⟨d, h3, h4⟩ := g2.get hx
      exact ⟨_, d, h3, R', Evl.Ex.refl _, h4.up R'.eA⟩
theorem ws_forT {tl : TE} {tb : TS} (I : Nat → List Sl → Prop) (h : WE K T tl ρ fun x => ∃ l, x = .dat (.tup l) ∧ I 0 ρ ∧ (∀ i d ρ', l[i]? = some d → I i ρ' → WG K T g d ρ' fun ρ2 => WS K T tb ρ2 { N with nx := Wk (I (i + 1)), ct := Wk (I (i + 1)), bk := N.nx }) ∧ ∀ ρ', I l.length ρ' → N.nx ρ') :
    WS K T (tFor (iTup K tl) g tb) ρ N := fun ⦃A B dc C H σ α D⦄ R tie =>
  h R _ fun x v C1 H1 ⟨l, hx, h0, hs, hd⟩ R1 e1 a1 => by
    subst hx
    cases (show Dz K C1 v (.tup l) from a1) with
    | @tup a vs _ g1 g2 =>
      have hl : vs.length = l.length := g2.len
      refine ⟨a, rfl, ⟨vs, R1.okC.st g1⟩, for_core (walk_tup (K := K) (a := a) (xs := vs)) R1 tie I (fun i d => l[i]? = some d) (fun R' => R'.okC.st (Evl.ex_t R'.eA g1)) (fun hi R' hy => ?_) h0 (fun i d ρ' hi hd' hI => hs i d ρ' hd' hI) (fun ρ' hI => hd ρ' (hl ▸ hI))⟩
      obtain ⟨rfl, hx⟩ := hy
      obtain ⟨d, h3, h4⟩ := g2.get hx
      exact ⟨_, d, h3, R', Evl.Ex.refl _, h4.up R'.eA⟩
theorem ws_forR {tb : TS} (I : Nat → List Sl → Prop) (h : WA K T tas ρ fun xs => ∃ n : Int, xs = [.dat (.int n)] ∧ n ≤ 1000000 ∧ -1000000 ≤ n ∧ I 0 ρ ∧ (∀ (i : Nat) ρ', i < n.toNat → I i ρ' → WG K T g (.int (i : Nat)) ρ' fun ρ2 => WS K T tb ρ2 { N with nx := Wk (I (i + 1)), ct := Wk (I (i + 1)), bk := N.nx }) ∧ ∀ ρ', I n.toNat ρ' → N.nx ρ') :
    WS K T (tFor (iRng1 tas) g tb) ρ N := fun ⦃A B dc C H σ α D⦄ R tie =>
  h R _ fun xs vs C1 H1 ⟨n, hx, hn, hn2, h0, hs, hd⟩ R1 e1 a1 => by
    subst hx
    obtain ⟨v, rfl, h1⟩ := ags1 a1
    obtain rfl := ag_int h1
    refine ⟨n, rfl, by omega, by omega, for_core (walk_range (lo := 0) (n := n.toNat)) R1 tie I (fun i d => d = .int (i : Nat)) (fun _ => True.intro) (fun hi R' hy => ?_) h0 (fun i d ρ' hi hd' hI => by subst hd'; exact hs i ρ' hi hI) hd⟩
    obtain ⟨rfl, rfl⟩ := hy
    refine ⟨_, _, rfl, R', Evl.Ex.refl _, ?_⟩
    dsimp only
    rw [Int.zero_add]
    exact .int _
theorem pair_new {x y : V} {d e : Dt} {p : Addr} (R : Rep K T A B dc C H σ ρ α) (np : H p = none) (hx : Dz K C x d) (hy : Dz K C y e) : ∃ C2 d', d' = .tup [d, e] ∧ Rep K T A B dc C2 (upd H p (.tup [x, y])) σ ρ α ∧ Ex C C2 ∧ Dz K C2 (.ref p) d' := by
  have e2 := R.okC.up np (o := .tup [x, y])
  exact ⟨_, _, rfl, R.new1 np nt_tup, e2, .tup (SqT.of upd_same) (.cons (hx.up e2) (.cons (hy.up e2) .nil))⟩
theorem ws_forZ {tb : TS} (I : Nat → List Sl → Prop) (h : WA K T tas ρ fun xs => ∃ l m : List Dt, xs = [.dat (.lst l), .dat (.lst m)] ∧ I 0 ρ ∧ (∀ i d e ρ', l[i]? = some d → m[i]? = some e → I i ρ' → WG K T g (.tup [d, e]) ρ' fun ρ2 => WS K T tb ρ2 { N with nx := Wk (I (i + 1)), ct := Wk (I (i + 1)), bk := N.nx }) ∧ ∀ ρ', I (min l.length m.length) ρ' → N.nx ρ') :
    WS K T (tFor (iZip K tas) g tb) ρ N := fun ⦃A B dc C H σ α D⦄ R tie =>
  h R _ fun xs vs C1 H1 ⟨l, m, hx, h0, hs, hd⟩ R1 e1 a1 => by
    subst hx
    obtain ⟨v, w, rfl, h1, h2⟩ := ags2 a1
    cases (show Dz K C1 v (.lst l) from h1) with
    | @lst a vs _ g1 g2 =>
      cases (show Dz K C1 w (.lst m) from h2) with
      | @lst b ws _ g3 g4 =>
        have hl : vs.length = l.length := g2.len
        have hm : ws.length = m.length := g4.len
        refine ⟨a, b, vs, ws, rfl, SqL.of (R1.okC.ex _ _ g1), SqL.of (R1.okC.ex _ _ g3), for_core (walk_zip (K := K) (a := a) (b := b) (xs := vs) (ys := ws) (n := min l.length m.length) (by rw [hl, hm])) R1 tie I (fun i d => ∃ d1 d2, l[i]? = some d1 ∧ m[i]? = some d2 ∧ d = .tup [d1, d2])
          (fun R' => ⟨SqL.of (R'.okC.ex _ _ (R'.eA _ _ g1)), SqL.of (R'.okC.ex _ _ (R'.eA _ _ g3))⟩) (fun hi R' hy => ?_) h0 (fun i d ρ' hi ⟨d1, d2, q1, q2, q3⟩ hI => by subst q3; exact hs i d1 d2 ρ' q1 q2 hI) hd⟩
        obtain ⟨p, x1, x2, rfl, np, rfl, q1, q2⟩ := hy
        obtain ⟨d1, k1, k2⟩ := g2.get q1
        obtain ⟨d2, k3, k4⟩ := g4.get q2
        obtain ⟨C2, d', rfl, R2, e2, z2⟩ := pair_new R' np (k2.up R'.eA) (k4.up R'.eA)
        exact ⟨C2, _, ⟨d1, d2, k1, k3, rfl⟩, R2, e2, z2⟩
theorem ws_forE {tb : TS} (I : Nat → List Sl → Prop) (h : WA K T tas ρ fun xs => ∃ l : List Dt, xs = [.dat (.lst l)] ∧ I 0 ρ ∧ (∀ i d ρ', l[i]? = some d → I i ρ' → WG K T g (.tup [.int (i : Nat), d]) ρ' fun ρ2 => WS K T tb ρ2 { N with nx := Wk (I (i + 1)), ct := Wk (I (i + 1)), bk := N.nx }) ∧ ∀ ρ', I l.length ρ' → N.nx ρ') :
    WS K T (tFor (iEnum K tas) g tb) ρ N := fun ⦃A B dc C H σ α D⦄ R tie =>
  h R _ fun xs vs C1 H1 ⟨l, hx, h0, hs, hd⟩ R1 e1 a1 => by
    subst hx
    obtain ⟨v, rfl, h1⟩ := ags1 a1
    cases (show Dz K C1 v (.lst l) from h1) with
    | @lst a vs _ g1 g2 =>
      have hl : vs.length = l.length := g2.len
      refine ⟨a, vs, rfl, SqL.of (R1.okC.ex _ _ g1), for_core (walk_enum (K := K) (a := a) (xs := vs)) R1 tie I (fun i d => ∃ d1, l[i]? = some d1 ∧ d = .tup [.int (i : Nat), d1])
        (fun R' => SqL.of (R'.okC.ex _ _ (R'.eA _ _ g1))) (fun hi R' hy => ?_) h0 (fun i d ρ' hi ⟨d1, q1, q3⟩ hI => by subst q3; exact hs i d1 ρ' q1 hI) (fun ρ' hI => hd ρ' (hl ▸ hI))⟩
      obtain ⟨p, x1, x2, rfl, np, rfl, q1, q2⟩ := hy
      cases q1
      obtain ⟨d2, k3, k4⟩ := g2.get q2
      obtain ⟨C2, d', rfl, R2, e2, z2⟩ := pair_new R' np (.int _) (k4.up R'.eA)
      exact ⟨C2, _, ⟨d2, k3, rfl⟩, R2, e2, z2⟩
theorem ws_forS {ts' : TE} {tb : TS} (I : Nat → List Sl → Prop) (h : WE K T ts' ρ fun x => ∃ z : Str, x = .dat (.str z) ∧ I 0 ρ ∧ (∀ i c ρ', z.cps[i]? = some c → I i ρ' → WG K T g (.str ⟨#[c]⟩) ρ' fun ρ2 => WS K T tb ρ2 { N with nx := Wk (I (i + 1)), ct := Wk (I (i + 1)), bk := N.nx }) ∧ ∀ ρ', I z.cps.size ρ' → N.nx ρ') :
    WS K T (tFor (iStr ts') g tb) ρ N := fun ⦃A B dc C H σ α D⦄ R tie =>
  h R _ fun x v C1 H1 ⟨z, hx, h0, hs, hd⟩ R1 e1 a1 => by
    subst hx
    obtain rfl := ag_str a1
    refine ⟨z, rfl, for_core (walk_str (z := z)) R1 tie I (fun i d => ∃ c, z.cps[i]? = some c ∧ d = .str ⟨#[c]⟩) (fun _ => True.intro) (fun hi R' hy => ?_) h0 (fun i d ρ' hi ⟨c, q1, q2⟩ hI => by subst q2; exact hs i c ρ' q1 hI) hd⟩
    obtain ⟨rfl, c, q1, rfl⟩ := hy
    exact ⟨_, _, ⟨c, q1, rfl⟩, R', Evl.Ex.refl _, .str _⟩
theorem ws_while {tb : TS} (W : Nat → List Sl → Prop) (m0 : Nat) (h0 : W m0 ρ) (hs : ∀ m ρ', W m ρ' → WT K T t ρ' fun b => (b = true → WS K T tb ρ' { N with nx := Wk fun ρ2 => ∃ m', m' < m ∧ W m' ρ2, ct := Wk fun ρ2 => ∃ m', m' < m ∧ W m' ρ2, bk := N.nx }) ∧ (b = false → N.nx ρ')) :
    WS K T (tWhile t tb) ρ N := fun ⦃A B dc C H σ α D⦄ R tie => by
  refine ⟨fun m σ' H' => ∃ C' ρ' α', Rep K T A B dc C' H' σ' ρ' α' ∧ W m ρ', ⟨m0, C, ρ, α, R, h0⟩, fun m σ' H' h => ?_⟩
  obtain ⟨C', ρ', α', R', hW⟩ := h
  refine hs m ρ' hW R' _ fun b C1 H1 h1 R1 e1 => ?_
  cases b with
  | false => exact iteF (tie.nx (h1.2 rfl) R1)
  | true =>
    refine iteT ⟨fun σ2 H2 => ∃ m', m' < m ∧ ∃ C' ρ' α', Rep K T A B dc C' H2 σ2 ρ' α' ∧ W m' ρ', fun σ2 H2 h => ?_, h1.1 rfl R1 ⟨fun p R4 => ?_, tie.rt, fun p R4 => tie.nx p R4, fun p R4 => ?_, fun p R4 z => tie.ex p R4 z⟩⟩
    · obtain ⟨m', hm, h⟩ := h
      exact ⟨m', hm, h⟩
    · obtain ⟨ρ5, hs5, m', hm, p5⟩ := p
      exact ⟨m', hm, _, ρ5, _, R4.sub hs5, p5⟩
    · obtain ⟨ρ5, hs5, m', hm, p5⟩ := p
      exact ⟨m', hm, _, ρ5, _, R4.sub hs5, p5⟩
end
end Ub

namespace Ub
open PySem PySem.Spec PyProof.Rows L2
section
variable {K : PySem.W.Frag} {T : Tb} {A B : Hp} {dc : Option Addr} {C H : Hp} {σ : L2.St} {ρ : List Sl} {α : Nat → Addr} {P : Ag → Prop} {Pl : List Dt → Prop} {ta tb tc te : TE} {t u tt : TT} {g : TG} {tas : TA}
/-! ### comprehensions -/
/-- a target stores to these slots alone -/
def Tch (g : TG) (js : List Nat) : Prop := ∀ v σ H (Q : L2.St → Hp → Prop), g v σ H Q → g v σ H fun σ' H' => Q σ' H' ∧ σ'.length = σ.length ∧ ∀ i, i ∉ js → σ'[i]? = σ[i]?
def Tchs (g : TGs) (js : List Nat) : Prop := ∀ v σ H (Q : L2.St → Hp → Prop), g v σ H Q → g v σ H fun σ' H' => Q σ' H' ∧ σ'.length = σ.length ∧ ∀ i, i ∉ js → σ'[i]? = σ[i]?
/-- a target is monotone -/
def Mng (g : TG) : Prop := ∀ v σ H (Q Q' : L2.St → Hp → Prop), (∀ σ' H', Q σ' H' → Q' σ' H') → g v σ H Q → g v σ H Q'
def Mngs (g : TGs) : Prop := ∀ v σ H (Q Q' : L2.St → Hp → Prop), (∀ σ' H', Q σ' H' → Q' σ' H') → g v σ H Q → g v σ H Q'
theorem mn_name {i : Nat} : Mng (gName i) := fun _ _ _ _ _ h q => h _ _ q
theorem mn_tup {n : Nat} {ts : TGs} (h : Mngs ts) : Mng (gTup K n ts) := fun v σ H Q Q' i q => by
  obtain ⟨a, xs, h1, h2, h3, h4⟩ := q
  exact ⟨a, xs, h1, h2, h3, h _ _ _ _ _ i h4⟩
theorem mns_nil : Mngs gNil := fun _ _ _ _ _ i q => ⟨q.1, i _ _ q.2⟩
theorem mns_cons {ts : TGs} (h1 : Mng g) (h2 : Mngs ts) : Mngs (gCons g ts) := fun v σ H Q Q' i q => by
  obtain ⟨x, r, e, q⟩ := q
  exact ⟨x, r, e, h1 _ _ _ _ _ (fun σ' H' z => h2 _ _ _ _ _ i z) q⟩
theorem tch_name {i : Nat} : Tch (gName i) [i] := fun v σ H Q q => ⟨q, by simp, fun j hj => by
  rw [List.getElem?_set_ne]
  intro e
  exact hj (by simp [e])⟩
theorem tch_tup {n : Nat} {ts : TGs} {js : List Nat} (h : Tchs ts js) : Tch (gTup K n ts) js := fun v σ H Q q => by
  obtain ⟨a, xs, h1, h2, h3, h4⟩ := q
  exact ⟨a, xs, h1, h2, h3, h _ _ _ _ h4⟩
theorem tchs_nil : Tchs gNil [] := fun v σ H Q q => ⟨q.1, q.2, rfl, fun _ _ => rfl⟩
theorem tchs_cons {ts : TGs} {js ks : List Nat} (m1 : Mng g) (m2 : Mngs ts) (h1 : Tch g js) (h2 : Tchs ts ks) : Tchs (gCons g ts) (js ++ ks) := fun v σ H Q q => by
  obtain ⟨x, r, e, q⟩ := q
  refine ⟨x, r, e, m1 _ _ _ _ _ (fun σ' H' z => ?_) (h1 _ _ _ _ q)⟩
  obtain ⟨z1, z2, z3⟩ := z
  refine m2 _ _ _ _ _ (fun σ2 H2 y => ?_) (h2 _ _ _ _ z1)
  obtain ⟨y1, y2, y3⟩ := y
  exact ⟨y1, y2.trans z2, fun i hi => (y3 i fun z => hi (List.mem_append_right _ z)).trans (z3 i fun z => hi (List.mem_append_left _ z))⟩
theorem wipe_get {σ : L2.St} : ∀ {vs : List Nat} {i : Nat}, i ∉ vs → (wipe σ vs)[i]? = σ[i]?
  | [], _, _ => rfl
  | v :: vs, i, h => by
    show ((wipe σ vs).set v none)[i]? = _
    rw [List.getElem?_set_ne (fun e => h (by simp [e])), wipe_get fun z => h (List.mem_cons_of_mem _ z)]
theorem wipe_in {σ : L2.St} : ∀ {vs : List Nat} {i : Nat}, i ∈ vs → i < σ.length → (wipe σ vs)[i]? = some none
  | v :: vs, i, h, hl => by
    show ((wipe σ vs).set v none)[i]? = _
    by_cases e : i = v
    · subst e
      rw [List.getElem?_set_self (by rw [wipe_length]; exact hl)]
    · rw [List.getElem?_set_ne (Ne.symm e)]
      exact wipe_in ((List.mem_cons.mp h).resolve_left e) hl
theorem wipe_eq {σ σ' : L2.St} {vs : List Nat} (hl : σ'.length = σ.length) (h : ∀ i, i ∉ vs → σ'[i]? = σ[i]?) : wipe σ' vs = wipe σ vs := by
  refine List.ext_getElem? fun i => ?_
  by_cases hi : i ∈ vs
  · by_cases hb : i < σ.length
    · rw [wipe_in hi hb, wipe_in hi (by rw [hl]; exact hb)]
    · rw [List.getElem?_eq_none (by rw [wipe_length]; omega), List.getElem?_eq_none (by rw [wipe_length]; omega)]
  · rw [wipe_get hi, wipe_get hi, h i hi]
/-- the slots of a comprehension's own names -/
def wipeS (ρ : List Sl) : List Nat → List Sl
  | [] => ρ
  | v :: vs => (wipeS ρ vs).set v .un
theorem Rep.wipe (R : Rep K T A B dc C H σ ρ α) : ∀ vs : List Nat, Rep K T A B dc C H (wipe σ vs) (wipeS ρ vs) α
  | [] => R
  | v :: vs => (Rep.wipe R vs).setU
theorem wipeS_get {ρ : List Sl} : ∀ {vs : List Nat} {i : Nat}, i ∉ vs → (wipeS ρ vs)[i]? = ρ[i]?
  | [], _, _ => rfl
  | v :: vs, i, h => by
    show ((wipeS ρ vs).set v .un)[i]? = _
    rw [List.getElem?_set_ne (fun e => h (by simp [e])), wipeS_get fun z => h (List.mem_cons_of_mem _ z)]
theorem wipeS_len {ρ : List Sl} : ∀ {vs : List Nat}, (wipeS ρ vs).length = ρ.length
  | [] => rfl
  | v :: vs => by
    show ((wipeS ρ vs).set v .un).length = _
    rw [List.length_set, wipeS_len]
theorem wipeS_in {ρ : List Sl} : ∀ {vs : List Nat} {i : Nat} {s : Sl}, i ∈ vs → (wipeS ρ vs)[i]? = some s → s = .un
  | v :: vs, i, s, h, hs => by
    have hs : ((wipeS ρ vs).set v .un)[i]? = some s := hs
    by_cases e : i = v
    · subst e
      have := (List.getElem?_eq_some_iff.mp hs).1
      rw [List.length_set] at this
      rw [List.getElem?_set_self this] at hs
      exact (Option.some.inj hs).symm
    · rw [List.getElem?_set_ne (Ne.symm e)] at hs
      exact wipeS_in ((List.mem_cons.mp h).resolve_left e) hs
def noOwn (ρ : List Sl) (vs : List Nat) : Bool := vs.all fun j => match ρ[j]? with
  | some (.own _) => false
  | some .dice => false
  | _ => true
/-- earlier slots at a later heap -/
theorem Rep.mix {C' H' : Hp} {σ' : L2.St} {ρ' : List Sl} (R : Rep K T A B dc C H σ ρ α) (R' : Rep K T A B dc C' H' σ' ρ' α) (e : Ex C C') (ho : ∀ (i : Nat) (l : List Dt), ρ[i]? = some (Sl.own l) → ρ'[i]? = some (Sl.own l)) : Rep K T A B dc C' H' σ ρ α := by
  refine ⟨R'.okB, R'.okC, R'.eA, R'.new, R.len, fun i s hi => ?_, R.inj, R'.dice⟩
  have q := R.sl i s hi
  cases s with
  | un => exact True.intro
  | dat d => obtain ⟨v, h2, h3⟩ := q; exact ⟨v, h2, h3.up e⟩
  | own l => exact ⟨(R.ow hi).1, (R'.ow (ho i l hi)).2⟩
  | dice => exact q
theorem Rep.unwipe {vs : List Nat} {C' H' : Hp} (R : Rep K T A B dc C H σ ρ α) (hv : noOwn ρ vs = true) (R' : Rep K T A B dc C' H' (L2.wipe σ vs) (wipeS ρ vs) α) (e : Ex C C') : Rep K T A B dc C' H' σ ρ α := by
  refine R.mix R' e fun i l hi => ?_
  by_cases hm : i ∈ vs
  · have h1 := List.all_eq_true.mp hv i hm
    rw [hi] at h1
    cases h1
  · rw [wipeS_get hm]
    exact hi
/-- a list that is no one's changes -/
theorem Rep.mutX (R : Rep K T A B dc C H σ ρ α) {p : Addr} {vs ws : List V} (F : Fr A B dc C ρ α p) (h : H p = some (.lst vs)) : Rep K T A B dc C (upd H p (.lst ws)) σ ρ α := by
  refine R.to (R.okB.mutL F.nb h) (R.okC.mutL F.nc h) (Evl.Ex.refl _) (fun a ha => .inl ha) (fun i l hi => ?_) (fun d hd => ?_)
  · obtain ⟨_, _, g3, _⟩ := R.ow hi
    exact ⟨g3, upd_ne (F.no i l hi)⟩
  · obtain ⟨g1, g2, D, g3, g4⟩ := R.dice d hd
    exact ⟨g2, D, (upd_ne fun z => F.nd (by rw [hd, z])).trans g3, g4⟩
/-- a target that stores d: the slots behind -/
structure TgD (K : PySem.W.Frag) (T : Tb) (g : TG) (d : Dt) (ρ ρ' : List Sl) (js : List Nat) : Prop where
  run : WG K T g d ρ fun r => r = ρ'
  tch : Tch g js
  mn : Mng g
  keep : ∀ i, i ∉ js → ρ'[i]? = ρ[i]?
structure TgDs (K : PySem.W.Frag) (T : Tb) (g : TGs) (d : List Dt) (ρ ρ' : List Sl) (js : List Nat) : Prop where
  run : WGs K T g d ρ fun r => r = ρ'
  tch : Tchs g js
  mn : Mngs g
  keep : ∀ i, i ∉ js → ρ'[i]? = ρ[i]?
theorem tg_name {i : Nat} {d : Dt} : TgD K T (gName i) d ρ (ρ.set i (Sl.dat d)) [i] := ⟨wg_name (Pg := fun r => r = ρ.set i (Sl.dat d)) rfl, tch_name, mn_name, fun j hj => List.getElem?_set_ne fun e => hj (by simp [e])⟩
theorem tg_tup {n : Nat} {ts : TGs} {l : List Dt} {ρ' : List Sl} {js : List Nat} (hl : l.length = n) (h : TgDs K T ts l ρ ρ' js) : TgD K T (gTup K n ts) (.tup l) ρ ρ' js := ⟨wg_tup hl h.run, tch_tup h.tch, mn_tup h.mn, h.keep⟩
theorem tgs_nil : TgDs K T gNil [] ρ ρ [] := ⟨wgs_nil (Pg := fun r => r = ρ) rfl, tchs_nil, mns_nil, fun _ _ => rfl⟩
theorem tgs_cons {ts : TGs} {d : Dt} {ds : List Dt} {ρ1 ρ2 : List Sl} {js ks : List Nat} (h1 : TgD K T g d ρ ρ1 js) (h2 : TgDs K T ts ds ρ1 ρ2 ks) : TgDs K T (gCons g ts) (d :: ds) ρ ρ2 (js ++ ks) :=
  ⟨wgs_cons fun ⦃A B dc C H σ α v⦄ R h Q q => h1.run R h Q fun σ' ρ' C' H' e R' => q σ' ρ' C' H' (by subst e; exact h2.run) R', tchs_cons h1.mn h2.mn h1.tch h2.tch, mns_cons h1.mn h2.mn,
    fun i hi => (h2.keep i fun z => hi (List.mem_append_right _ z)).trans (h1.keep i fun z => hi (List.mem_append_left _ z))⟩
theorem lc_core {J : It} {n : Nat} {G : Hp → Prop} {Y : Nat → Hp → V → Hp → Prop} (w : Walk J n G Y) (hn : n ≤ 100000) {vs js : List Nat} (hj : ∀ j ∈ js, j ∈ vs) (R : Rep K T A B dc C H σ ρ α) (hv : noOwn ρ vs = true) (I : Nat → List Dt → Prop) (dt : Nat → Dt → Prop)
    (hG : ∀ {B' C' H' σ' ρ' α'}, Rep K T C B' dc C' H' σ' ρ' α' → G H') (hY : ∀ {i x B' C' H' H2 σ' ρ' α'}, i < n → Rep K T C B' dc C' H' σ' ρ' α' → Y i H' x H2 → ∃ C2 d, dt i d ∧ Rep K T C B' dc C2 H2 σ' ρ' α' ∧ Ex C' C2 ∧ Dz K C2 x d)
    (h0 : I 0 []) (hs : ∀ i d acc, i < n → acc.length ≤ i → dt i d → I i acc → ∃ ρ2, TgD K T g d (wipeS ρ vs) ρ2 js ∧ WT K T tt ρ2 fun b => (b = true → WE K T te ρ2 fun x => ∃ y, x = .dat y ∧ I (i + 1) (acc ++ [y])) ∧ (b = false → I (i + 1) acc)) (hd : ∀ acc, I n acc → Pl acc)
    {Q : VK} (q : ∀ ds p ws C' H', Pl ds → Rep K T A B dc C' H' σ ρ α → Ex C C' → Fr A B dc C' ρ α p → H' p = some (.lst ws) → DzA K C' ws ds → Q (.ref p) H') :
    ∀ D, H D = none → ∃ W : Nat → Nat → Hp → Prop, (∃ m, W 0 m (upd H D (.lst []))) ∧ ∀ i m H, W i m H →
      (J.stop i H ∧ Q (.ref D) H) ∨ (J.go i H ∧ ∃ Nx : Hp → Prop, (∀ H', Nx H' → ∃ m', m' < m ∧ W (i + 1) m' H') ∧ ∀ x H', J.yld i H x H' → g x (L2.wipe σ vs) H' fun σ2 H2 => L2.wipe σ2 vs = L2.wipe σ vs ∧ tt σ2 H2 fun b H3 =>
        if b = true then te σ2 H3 fun y H4 => ∃ acc, H4 D = some (.lst acc) ∧ acc.length < sizeLine ∧ Nx (upd H4 D (.lst (acc ++ [y]))) else Nx H3) := by
  intro D nD
  have F0 : Fr A B dc C ρ α D := R.fr nD
  have Rw := (R.newM nD (o := .lst [])).re.wipe vs
  have FD : ∀ {C'}, C' D = none → Fr C B dc C' (wipeS ρ vs) α D := fun {C'} h => ⟨F0.nb, h, F0.nd, fun j m hj => by
    by_cases hm : j ∈ vs
    · exact nomatch wipeS_in hm hj
    · exact F0.no j m ((wipeS_get hm).symm.trans hj)⟩
  refine lc_it w (fun i H' => ∃ C' ws acc, Rep K T C B dc C' H' (L2.wipe σ vs) (wipeS ρ vs) α ∧ C' D = none ∧ H' D = some (.lst ws) ∧ DzA K C' ws acc ∧ I i acc ∧ acc.length ≤ i) ⟨C, [], [], Rw, F0.nc, upd_same, .nil, h0, Nat.le_refl 0⟩ (fun i H' _ h => ?_) (fun i x H1 H2 hi h hy => ?_) (fun H' h => ?_)
  · obtain ⟨C', ws, acc, R', _⟩ := h
    exact hG R'
  · obtain ⟨C', ws, acc, R', nC, hD, ha, hI, hl⟩ := h
    have F1 := FD nC
    have R1 := R'.tmp hD nt_lst nC F1.nd F1.no
    obtain ⟨C2, d, hdt, R2, e2, hz⟩ := hY hi R1 hy
    have nb2 : ∀ {C3 H3 σ3 ρ3}, Rep K T C (upd B D (.lst ws)) dc C3 H3 σ3 ρ3 α → Rep K T C B dc C3 H3 σ3 ρ3 α ∧ C3 D = none ∧ H3 D = some (.lst ws) := fun {C3 H3 σ3 ρ3} R3 => by
      refine ⟨R3.untmp F0.nb, ?_, R3.okB.ex _ _ upd_same⟩
      cases e : C3 D with
      | none => rfl
      | some o =>
        rcases R3.new D (by rw [e]; exact fun z => nomatch z) with z | z | ⟨φ, z⟩
        · exact absurd F0.nc z
        · rw [upd_same] at z
          cases z
        · have q1 := R3.okC.ex _ _ z
          rw [R3.okB.ex _ _ upd_same] at q1
          cases q1
    obtain ⟨ρ2, htg, hwt⟩ := hs i d acc hi hl hdt hI
    refine htg.mn _ _ _ _ _ (fun σ3 H3 z => ?_) (htg.tch _ _ _ _ (htg.run R2 hz (fun σ3 H3 => tt σ3 H3 fun b H4 => L2.wipe σ3 vs = L2.wipe σ vs → if b = true then te σ3 H4 fun y H5 => ∃ acc, H5 D = some (.lst acc) ∧ acc.length < sizeLine ∧ ∃ C' ws ds, Rep K T C B dc C' (upd H5 D (.lst (acc ++ [y]))) (L2.wipe σ vs) (wipeS ρ vs) α ∧ C' D = none ∧ (upd H5 D (.lst (acc ++ [y]))) D = some (.lst ws) ∧ DzA K C' ws ds ∧ I (i + 1) ds ∧ ds.length ≤ i + 1
        else ∃ C' ws ds, Rep K T C B dc C' H4 (L2.wipe σ vs) (wipeS ρ vs) α ∧ C' D = none ∧ H4 D = some (.lst ws) ∧ DzA K C' ws ds ∧ I (i + 1) ds ∧ ds.length ≤ i + 1) fun σ3 ρ3 C3 H3 h3 R3 e3 => by
      subst h3
      refine hwt R3 _ fun b C4 H4 h4 R4 e4 hw => ?_
      have back : ∀ {C5 H5}, Rep K T C (upd B D (.lst ws)) dc C5 H5 σ3 ρ3 α → Ex C2 C5 → Rep K T C B dc C5 H5 (L2.wipe σ vs) (wipeS ρ vs) α ∧ C5 D = none ∧ H5 D = some (.lst ws) := fun {C5 H5} R5 e5 => by
        obtain ⟨b1, b2, b3⟩ := nb2 R5
        refine ⟨R'.mix b1 (e2.trans e5) fun j l hk => ?_, b2, b3⟩
        exact (htg.keep j fun z => nomatch wipeS_in (hj j z) hk).trans hk
      cases b with
      | false =>
        obtain ⟨b1, b2, b3⟩ := back R4 (e3.trans e4)
        exact iteF ⟨C4, ws, acc, b1, b2, b3, ha.up (e2.trans (e3.trans e4)), h4.2 rfl, by omega⟩
      | true =>
        refine iteT (h4.1 rfl R4 _ fun x2 y C5 H5 ⟨yd, hy2, hI2⟩ R5 e5 a5 => ?_)
        subst hy2
        have e6 := e3.trans (e4.trans e5)
        obtain ⟨b1, b2, b3⟩ := back R5 e6
        exact ⟨ws, b3, Nat.lt_of_lt_of_le (show ws.length < 100000 by rw [ha.len]; omega) (by decide), C5, ws ++ [y], acc ++ [yd], b1.mutX (FD b2) b3, b2, upd_same, (ha.up (e2.trans e6)).app (.cons a5 .nil), hI2, by simp; omega⟩))
    obtain ⟨z1, z2, z3⟩ := z
    have hw : L2.wipe σ3 vs = L2.wipe σ vs := by
      have e1 : L2.wipe σ3 vs = L2.wipe (L2.wipe σ vs) vs := wipe_eq z2 fun i hi => z3 i fun h => hi (hj i h)
      rw [e1]
      refine wipe_eq (wipe_length σ vs) fun i hi => wipe_get hi
    refine ⟨hw, ?_⟩
    have z4 : tt σ3 H3 fun b H4 => L2.wipe σ3 vs = L2.wipe σ vs → _ := z1
    simpa only [hw, true_implies] using z4
  · obtain ⟨C', ws, acc, R', nC, hD, ha, hI, hl⟩ := h
    exact q acc D ws C' H' (hd acc hI) (R.unre ((R.re).unwipe hv R' R'.eA)) R'.eA ⟨F0.nb, nC, F0.nd, F0.no⟩ hD ha

variable {vs js : List Nat}
theorem wl_lcR (I : Nat → List Dt → Prop) (hj : ∀ j ∈ js, j ∈ vs) (hv : noOwn ρ vs = true) (h : WA K T tas ρ fun xs => ∃ n : Int, xs = [.dat (.int n)] ∧ n ≤ 100000 ∧ -100000 ≤ n ∧ I 0 [] ∧
    (∀ (i : Nat) acc, i < n.toNat → acc.length ≤ i → I i acc → ∃ ρ2, TgD K T g (.int (i : Nat)) (wipeS ρ vs) ρ2 js ∧ WT K T tt ρ2 fun b => (b = true → WE K T te ρ2 fun x => ∃ y, x = .dat y ∧ I (i + 1) (acc ++ [y])) ∧ (b = false → I (i + 1) acc)) ∧ ∀ acc, I n.toNat acc → Pl acc) :
    WL K T (tLc (iRng1 tas) g tt te vs) ρ Pl := fun ⦃A B dc C H σ α⦄ R Q q =>
  h R _ fun xs vs1 C1 H1 ⟨n, hx, hn, hn2, h0, hs, hd⟩ R1 e1 a1 => by
    subst hx
    obtain ⟨v, rfl, h1⟩ := ags1 a1
    obtain rfl := ag_int h1
    refine ⟨n, rfl, by omega, by omega, lc_core (walk_range (lo := 0) (n := n.toNat)) (by omega) hj R1 hv I (fun i d => d = .int (i : Nat)) (fun _ => True.intro) (fun hi R' hy => ?_) h0 (fun i d acc hi hl hd' hI => by subst hd'; exact hs i acc hi hl hI) hd fun ds p ws C' H' hp R' e F g1 g2 => q ds p ws C' H' hp R' (e1.trans e) F g1 g2⟩
    obtain ⟨rfl, rfl⟩ := hy
    refine ⟨_, _, rfl, R', Evl.Ex.refl _, ?_⟩
    dsimp only
    rw [Int.zero_add]
    exact .int _
theorem wl_lcL {tl : TE} (I : Nat → List Dt → Prop) (hj : ∀ j ∈ js, j ∈ vs) (hv : noOwn ρ vs = true) (h : WE K T tl ρ fun x => ∃ l, x = .dat (.lst l) ∧ l.length ≤ 100000 ∧ I 0 [] ∧
    (∀ (i : Nat) d acc, l[i]? = some d → acc.length ≤ i → I i acc → ∃ ρ2, TgD K T g d (wipeS ρ vs) ρ2 js ∧ WT K T tt ρ2 fun b => (b = true → WE K T te ρ2 fun x => ∃ y, x = .dat y ∧ I (i + 1) (acc ++ [y])) ∧ (b = false → I (i + 1) acc)) ∧ ∀ acc, I l.length acc → Pl acc) :
    WL K T (tLc (iList K tl) g tt te vs) ρ Pl := fun ⦃A B dc C H σ α⦄ R Q q =>
  h R _ fun x v C1 H1 ⟨l, hx, hl1, h0, hs, hd⟩ R1 e1 a1 => by
    subst hx
    cases (show Dz K C1 v (.lst l) from a1) with
    | @lst a us _ g1 g2 =>
      have hl : us.length = l.length := g2.len
      refine ⟨a, rfl, ⟨us, SqL.of (R1.okC.ex _ _ g1)⟩, lc_core (walk_list (K := K) (a := a) (xs := us)) (by omega) hj R1 hv I (fun i d => l[i]? = some d) (fun R' => SqL.of (R'.okC.ex _ _ (R'.eA _ _ g1))) (fun hi R' hy => ?_) h0 (fun i d acc hi hl hd' hI => hs i d acc hd' hl hI) (fun acc hI => hd acc (hl ▸ hI)) fun ds p ws C' H' hp R' e F g1 g2 => q ds p ws C' H' hp R' (e1.trans e) F g1 g2⟩
      obtain ⟨rfl, hx⟩ := hy
      obtain ⟨d, h3, h4⟩ := g2.get hx
      exact ⟨_, d, h3, R', Evl.Ex.refl _, h4.up R'.eA⟩
theorem wl_lcS {tl : TE} (I : Nat → List Dt → Prop) (hj : ∀ j ∈ js, j ∈ vs) (hv : noOwn ρ vs = true) (h : WE K T tl ρ fun x => ∃ z : Str, x = .dat (.str z) ∧ z.cps.size ≤ 100000 ∧ I 0 [] ∧
    (∀ (i : Nat) c acc, z.cps[i]? = some c → acc.length ≤ i → I i acc → ∃ ρ2, TgD K T g (.str ⟨#[c]⟩) (wipeS ρ vs) ρ2 js ∧ WT K T tt ρ2 fun b => (b = true → WE K T te ρ2 fun x => ∃ y, x = .dat y ∧ I (i + 1) (acc ++ [y])) ∧ (b = false → I (i + 1) acc)) ∧ ∀ acc, I z.cps.size acc → Pl acc) :
    WL K T (tLc (iStr tl) g tt te vs) ρ Pl := fun ⦃A B dc C H σ α⦄ R Q q =>
  h R _ fun x v C1 H1 ⟨z, hx, hl1, h0, hs, hd⟩ R1 e1 a1 => by
    subst hx
    obtain rfl := ag_str a1
    refine ⟨z, rfl, lc_core (walk_str (z := z)) hl1 hj R1 hv I (fun i d => ∃ c, z.cps[i]? = some c ∧ d = .str ⟨#[c]⟩) (fun _ => True.intro) (fun hi R' hy => ?_) h0 (fun i d acc hi hl ⟨c, q1, q2⟩ hI => by subst q2; exact hs i c acc q1 hl hI) hd fun ds p ws C' H' hp R' e F g1 g2 => q ds p ws C' H' hp R' (e1.trans e) F g1 g2⟩
    obtain ⟨rfl, c, q1, rfl⟩ := hy
    exact ⟨_, _, ⟨c, q1, rfl⟩, R', Evl.Ex.refl _, .str _⟩
/-! ### promises of defs -/
open Classical in
noncomputable def frm (S : Addr → Prop) (H : Hp) : Hp := fun a => if S a then H a else none
theorem frm_in {S : Addr → Prop} {a : Addr} (h : S a) : frm S H a = H a := if_pos h
theorem frm_some {S : Addr → Prop} {a : Addr} {o : HO} (h : frm S H a = some o) : S a ∧ H a = some o := by
  unfold frm at h
  split at h
  · exact ⟨by assumption, h⟩
  · cases h
theorem frm_ok {S : Addr → Prop} (o : Ok T B H) (h : ∀ a u, S a → H a = some u → notTab u) : Ok T (frm S H) H :=
  ⟨fun a u e => (frm_some e).2, fun b ps e => h b _ (frm_some e).1 (frm_some e).2 ps rfl, o.tg, o.tl⟩
def isOwn (ρ : List Sl) (α : Nat → Addr) (a : Addr) : Prop := ∃ j l, ρ[j]? = some (Sl.own l) ∧ α j = a
def Fram (B C : Hp) (dc dc' : Option Addr) (ρ : List Sl) (α : Nat → Addr) (a : Addr) : Prop := B a ≠ none ∨ C a ≠ none ∨ isOwn ρ α a ∨ (dc = some a ∧ dc' = none)
theorem call_core (R : Rep K T A B dc C H σ ρ α) {A' : Hp} {dc' : Option Addr} (hdc : dc' = none ∨ dc' = dc) (hA : ∀ a o, A' a = some o → H a = some o ∧ (C a ≠ none ∨ isOwn ρ α a)) (hC : Ex C A') :
    Ok T (frm (Fram B C dc dc' ρ α) H) H ∧ Ex A' (frm (Fram B C dc dc' ρ α) H) ∧ (∀ d, dc' = some d → frm (Fram B C dc dc' ρ α) H d = none ∧ A' d = none ∧ DiceAt H d) ∧
      ∀ {C' H' σ' ρ' α'}, Rep K T A' (frm (Fram B C dc dc' ρ α) H) dc' C' H' σ' ρ' α' → (A' = C → Rep K T A B dc C' H' σ ρ α) ∧ Rep K T A B dc C H' σ ρ α ∧ ∀ p, frm (Fram B C dc dc' ρ α) H p = none → dc' ≠ some p → H' p ≠ none → ∀ {C2 : Hp}, C2 p = none → Fr A B dc C2 ρ α p := by
  have hnt : ∀ a u, Fram B C dc dc' ρ α a → H a = some u → notTab u := by
    intro a u h hu ps e
    subst e
    rcases h with h | h | ⟨j, l, h1, h2⟩ | ⟨h, _⟩
    · cases z : B a with
      | none => exact h z
      | some o =>
        have := R.okB.ex _ _ z
        rw [hu] at this
        cases this
        exact R.okB.nt _ _ z
    · cases z : C a with
      | none => exact h z
      | some o =>
        have := R.okC.ex _ _ z
        rw [hu] at this
        cases this
        exact R.okC.nt _ _ z
    · obtain ⟨_, _, _, _, vs, g, _⟩ := R.ow h1
      rw [h2, hu] at g
      cases g
    · obtain ⟨_, _, D, g, _⟩ := R.dice a h
      rw [hu] at g
      cases g
  have eB : Ex B (frm (Fram B C dc dc' ρ α) H) := fun a o e => (frm_in (.inl (by rw [e]; exact fun z => nomatch z))).trans (R.okB.ex _ _ e)
  have eC : Ex C (frm (Fram B C dc dc' ρ α) H) := fun a o e => (frm_in (.inr (.inl (by rw [e]; exact fun z => nomatch z)))).trans (R.okC.ex _ _ e)
  have bno : ∀ {a}, frm (Fram B C dc dc' ρ α) H a = none → B a = none := fun {a} h => Evl.fresh_back eB h
  have own_in : ∀ {i l}, ρ[i]? = some (Sl.own l) → ∃ u, frm (Fram B C dc dc' ρ α) H (α i) = some u ∧ H (α i) = some u := fun {i l} hi => by
    obtain ⟨_, _, _, _, vs, g, _⟩ := R.ow hi
    exact ⟨_, (frm_in (.inr (.inr (.inl ⟨i, l, hi, rfl⟩)))).trans g, g⟩
  refine ⟨frm_ok R.okB hnt, fun a o e => ?_, fun d hd => ?_, fun {C' H' σ' ρ' α'} R' => ?_⟩
  · obtain ⟨h1, h2⟩ := hA a o e
    exact (frm_in (h2.elim (fun z => .inr (.inl z)) (fun z => .inr (.inr (.inl z))))).trans h1
  · have e : dc = some d := by
      rcases hdc with z | z
      · rw [z] at hd
        cases hd
      · rw [← z]
        exact hd
    obtain ⟨g1, g2, g3⟩ := R.dice d e
    have no : ¬ isOwn ρ α d := fun ⟨j, l, h1, h2⟩ => (R.ow h1).2.2.2.1 (by rw [h2]; exact e)
    have nf : ¬ Fram B C dc dc' ρ α d := by
      rintro (h | h | h | ⟨_, h⟩)
      · exact h g1
      · exact h g2
      · exact no h
      · rw [h] at hd
        cases hd
    refine ⟨if_neg nf, ?_, g3⟩
    cases z : A' d with
    | none => rfl
    | some o => exact ((hA d o z).2.elim (fun h => h g2) no).elim
  · have okB' : Ok T B H' := R'.okB.back eB
    have ownH : ∀ i l, ρ[i]? = some (Sl.own l) → H' (α i) = H (α i) := fun i l hi => by
      obtain ⟨u, h1, h2⟩ := own_in hi
      rw [R'.okB.ex _ _ h1, h2]
    have diceH : ∀ d, dc = some d → DiceAt H' d := fun d hd => by
      rcases hdc with z | z
      · obtain ⟨_, _, D, g, g'⟩ := R.dice d hd
        exact ⟨D, R'.okB.ex _ _ ((frm_in (.inr (.inr (.inr ⟨hd, z⟩)))).trans g), g'⟩
      · exact (R'.dice d (by rw [z]; exact hd)).2.2
    refine ⟨fun hA' => ?_, ?_, fun p hp hd hne C2 hc => ?_⟩
    · subst hA'
      refine R.toX okB' R'.okC R'.eA (fun a ha => (R'.new a ha).imp id (Or.imp bno id)) (fun i l hi => ⟨?_, ownH i l hi⟩) (fun d hd => ⟨?_, diceH d hd⟩)
      · cases z : C' (α i) with
        | none => rfl
        | some o =>
          obtain ⟨u, h1, _⟩ := own_in hi
          rcases R'.new (α i) (by rw [z]; exact fun z => nomatch z) with y | y | ⟨φ, y⟩
          · exact absurd (R.ow hi).2.2.1 y
          · rw [h1] at y
            cases y
          · have q1 := R'.okC.ex _ _ y
            rw [ownH i l hi] at q1
            obtain ⟨_, _, _, _, vs, g4, _⟩ := R.ow hi
            rw [g4] at q1
            cases q1
      · rcases hdc with y | y
        · cases z : C' d with
          | none => rfl
          | some o =>
            obtain ⟨_, g2, D, g, _⟩ := R.dice d hd
            rcases R'.new d (by rw [z]; exact fun z => nomatch z) with x | x | ⟨φ, x⟩
            · exact absurd g2 x
            · rw [frm_in (.inr (.inr (.inr ⟨hd, y⟩))), g] at x
              cases x
            · have q1 := R'.okC.ex _ _ x
              obtain ⟨D2, q2, _⟩ := diceH d hd
              rw [q2] at q1
              cases q1
        · exact (R'.dice d (by rw [y]; exact hd)).2.1
    · refine R.to okB' (R'.okC.back (hC.trans R'.eA)) (Evl.Ex.refl _) (fun a ha => .inl ha) (fun i l hi => ⟨(R.ow hi).2.2.1, ownH i l hi⟩) (fun d hd => ⟨(R.dice d hd).2.1, diceH d hd⟩)
    · refine ⟨bno hp, hc, fun e => ?_, fun j m hj e => ?_⟩
      · rcases hdc with z | z
        · obtain ⟨_, _, D, g, _⟩ := R.dice p e
          rw [frm_in (.inr (.inr (.inr ⟨e, z⟩))), g] at hp
          cases hp
        · exact hd (by rw [z]; exact e)
      · obtain ⟨u, h1, _⟩ := own_in hj
        rw [e, hp] at h1
        cases h1
/-- a def's promise: S of the arguments' data and of what is wanted of the answer -/
abbrev SpD := List Dt → (Res → Prop) → Prop
def spR (K : PySem.W.Frag) (T : Tb) (S : SpD) : Sp := fun vs H Q _ => ∃ (ds : List Dt) (A B : Hp) (Pr : Res → Prop), Ok T B H ∧ Ex A B ∧ DzA K A vs ds ∧ S ds Pr ∧ ∀ r v C' H' σ ρ α, Pr r → Rep K T A B none C' H' σ ρ α → ResAt K B none C' H' r v → Q v H'
/-- .. whose first argument is the dice -/
def spRd (K : PySem.W.Frag) (T : Tb) (S : SpD) : Sp := fun vs H Q _ => ∃ (d : Addr) (ws : List V) (ds : List Dt) (A B : Hp) (Pr : Res → Prop), vs = .ref d :: ws ∧ Ok T B H ∧ Ex A B ∧ DzA K A ws ds ∧ B d = none ∧ A d = none ∧ DiceAt H d ∧ S ds Pr ∧ ∀ r v C' H' σ ρ α, Pr r → Rep K T A B (some d) C' H' σ ρ α → ResAt K B (some d) C' H' r v → Q v H'
def slots (N : List Str) (ds : List Dt) : List Sl := ds.map Sl.dat ++ List.replicate (N.length - ds.length) .un
def slotsD (N : List Str) (ds : List Dt) : List Sl := .dice :: (ds.map Sl.dat ++ List.replicate (N.length - (ds.length + 1)) .un)
theorem rep_start {vs : List V} {ds : List Dt} {n : Nat} (oB : Ok T B H) (e : Ex A B) (h : DzA K A vs ds) (hd : ∀ d, dc = some d → B d = none ∧ A d = none ∧ DiceAt H d) : Rep K T A B dc A H (vs.map some ++ List.replicate n none) (ds.map Sl.dat ++ List.replicate n Sl.un) α := by
  have hl := h.len
  have nown : ∀ {i : Nat} {s : Sl}, (ds.map Sl.dat ++ List.replicate n Sl.un)[i]? = some s → (∃ d, ds[i]? = some d ∧ s = Sl.dat d) ∨ s = Sl.un := fun {i s} hi => by
    by_cases hb : i < ds.length
    · rw [List.getElem?_append_left (by simpa using hb), List.getElem?_map, List.getElem?_eq_getElem hb] at hi
      cases hi
      exact .inl ⟨_, List.getElem?_eq_getElem hb, rfl⟩
    · rw [List.getElem?_append_right (by simpa using hb)] at hi
      have := List.mem_of_getElem? hi
      exact .inr (List.eq_of_mem_replicate this)
  refine ⟨oB, oB.back e, Evl.Ex.refl _, fun a ha => .inl ha, by simp [hl], fun i s hi => ?_, fun i j l m hi _ _ => ?_, hd⟩
  · rcases nown hi with ⟨d, h1, rfl⟩ | rfl
    · obtain ⟨v, h2, h3⟩ := h.at_ h1
      have hb : i < vs.length := (List.getElem?_eq_some_iff.mp h2).1
      refine ⟨v, ?_, h3⟩
      rw [List.getElem?_append_left (by simpa using hb), List.getElem?_map, h2]
      rfl
    · exact True.intro
  · rcases nown hi with ⟨d, _, e⟩ | e <;> cases e
theorem kp_of {P : Program} {w : World} {mg : Str → Option Value} {base : Heap} {x : Str} {st : Stmt} {N ps : List Str} {k : Nat} {S : SpD} (D : Df K mg x st ps) (Sc : FnScope N ps (defScope st)) (hl : ∀ ds Pr, S ds Pr → ds.length = ps.length)
    (body : ∀ (f : Addr) (cdv : Value) (A : Around) (outer : List Env) (s : Shared) (H : Hp) (E : XK), Room k (A.deeper (envOfC x (defScope st) s.heap.objs.size f cdv)) → ∀ ds Pr, S ds Pr →
      ∃ t, PSs (cxOf CX0 P w K mg base N x (defScope st) f cdv A outer s H E).nox (defBody st) t ∧ WS K T t (slots N ds) { nx := fun _ => Pr (.dat .non), rt := Pr }) : Kp P w K mg base CX0 (k + 1) x ps (spR K T S) := by
  refine D.ok Sc (fun vs H Q E h => ?_) (fun f cdv A outer s H vs Q E hr h => ?_)
  · obtain ⟨ds, A, B, Pr, _, _, hz, hS, _⟩ := h
    exact hz.len.trans (hl ds Pr hS)
  · obtain ⟨ds, A', B, Pr, oB, e, hz, hS, q⟩ := h
    obtain ⟨t, ht, hw⟩ := body f cdv A outer s H E hr ds Pr hS
    refine ⟨t, ht, hw (α := fun _ => 0) (A := A') (B := B) (dc := none) (C := A') ?_ ⟨fun p R => q _ _ _ _ _ _ _ p R .non, fun p R r => q _ _ _ _ _ _ _ p R r, fun p _ => p.elim, fun p _ => p.elim, fun p _ _ => p.elim⟩⟩
    have := rep_start (n := N.length - ds.length) (α := fun _ => 0) (dc := none) oB e hz (fun d z => nomatch z)
    unfold L2.start
    rw [hz.len]
    exact this
theorem kp_ofD {P : Program} {w : World} {mg : Str → Option Value} {base : Heap} {x : Str} {st : Stmt} {N ps : List Str} {k : Nat} {S : SpD} (D : Df K mg x st ps) (Sc : FnScope N ps (defScope st)) (hl : ∀ ds Pr, S ds Pr → ds.length + 1 = ps.length)
    (body : ∀ (f : Addr) (cdv : Value) (A : Around) (outer : List Env) (s : Shared) (H : Hp) (E : XK), Room k (A.deeper (envOfC x (defScope st) s.heap.objs.size f cdv)) → ∀ ds Pr, S ds Pr →
      ∃ t, PSs (cxOf CX0 P w K mg base N x (defScope st) f cdv A outer s H E).nox (defBody st) t ∧ WS K T t (slotsD N ds) { nx := fun _ => Pr (.dat .non), rt := Pr }) : Kp P w K mg base CX0 (k + 1) x ps (spRd K T S) := by
  refine D.ok Sc (fun vs H Q E h => ?_) (fun f cdv A outer s H vs Q E hr h => ?_)
  · obtain ⟨d, ws, ds, A, B, Pr, rfl, _, _, hz, _, _, _, hS, _⟩ := h
    simp [hz.len, hl ds Pr hS]
  · obtain ⟨d, ws, ds, A', B, Pr, rfl, oB, e, hz, nb, na, hD, hS, q⟩ := h
    obtain ⟨t, ht, hw⟩ := body f cdv A outer s H E hr ds Pr hS
    refine ⟨t, ht, hw (α := fun _ => 0) (A := A') (B := B) (dc := some d) (C := A') ?_ ⟨fun p R => q _ _ _ _ _ _ _ p R .non, fun p R r => q _ _ _ _ _ _ _ p R r, fun p _ => p.elim, fun p _ => p.elim, fun p _ _ => p.elim⟩⟩
    have R0 := rep_start (n := N.length - (ds.length + 1)) (α := fun _ => 0) (dc := some d) oB e hz (fun d' z => by cases z; exact ⟨nb, na, hD⟩)
    unfold L2.start slotsD
    rw [List.map_cons, List.length_cons, hz.len]
    refine ⟨R0.okB, R0.okC, R0.eA, R0.new, by have := R0.len; simpa using this, fun i s hi => ?_, fun i j l m hi hj _ => ?_, R0.dice⟩
    · cases i with
      | zero => cases hi; exact ⟨d, rfl, rfl⟩
      | succ i =>
        have q1 := R0.sl i s (by simpa using hi)
        cases s with
        | un => exact True.intro
        | dat d => obtain ⟨v, h1, h2⟩ := q1; exact ⟨v, by simpa using h1, h2⟩
        | own l => obtain ⟨h1, h2⟩ := q1; exact ⟨by simpa using h1, h2⟩
        | dice => obtain ⟨d, h1, h2⟩ := q1; exact ⟨d, h1, by simpa using h2⟩
    · cases i with
      | zero => cases hi
      | succ i =>
        cases j with
        | zero => cases hj
        | succ j => exact congrArg (· + 1) (R0.inj i j l m (by simpa using hi) (by simpa using hj) rfl)
/-! ### calls of defs -/
variable {S : SpD} {E : XK}
theorem ex_self : ∀ a o, C a = some o → Ok T C H → H a = some o ∧ (C a ≠ none ∨ isOwn ρ α a) := fun a o e k => ⟨k.ex _ _ e, .inl (by rw [e]; exact fun z => nomatch z)⟩
theorem we_call (h : WA K T tas ρ fun gs => gs.all Ag.isD = true ∧ S (gs.map Ag.d) fun r => ∃ d, r = .dat d ∧ P (.dat d)) : WE K T (tCall (spR K T S) [] E tas) ρ P := fun ⦃A B dc C H σ α⦄ R Q q =>
  h R _ fun gs vs C1 H1 ⟨h1, h2⟩ R1 e1 a1 => by
    rw [List.append_nil]
    obtain ⟨c1, c2, c3, c4⟩ := call_core R1 (A' := C1) (dc' := none) (.inl rfl) (fun a o e => ex_self a o e R1.okC) (Evl.Ex.refl _)
    refine ⟨_, C1, _, _, c1, c2, ags_d a1 h1, h2, fun r v C' H' σ' ρ' α' hp R' hr => ?_⟩
    obtain ⟨d, rfl, p⟩ := hp
    exact q _ _ _ _ p ((c4 R').1 rfl) (e1.trans R'.eA) hr
theorem wl_call (h : WA K T tas ρ fun gs => gs.all Ag.isD = true ∧ S (gs.map Ag.d) fun r => ∃ l, r = .fr l ∧ Pl l) : WL K T (tCall (spR K T S) [] E tas) ρ Pl := fun ⦃A B dc C H σ α⦄ R Q q =>
  h R _ fun gs vs C1 H1 ⟨h1, h2⟩ R1 e1 a1 => by
    rw [List.append_nil]
    obtain ⟨c1, c2, c3, c4⟩ := call_core R1 (A' := C1) (dc' := none) (.inl rfl) (fun a o e => ex_self a o e R1.okC) (Evl.Ex.refl _)
    refine ⟨_, C1, _, _, c1, c2, ags_d a1 h1, h2, fun r v C' H' σ' ρ' α' hp R' hr => ?_⟩
    obtain ⟨l, rfl, p⟩ := hp
    obtain ⟨p', ws, rfl, g1, g2, g3, g4, g5⟩ := hr
    exact q _ _ _ _ _ p ((c4 R').1 rfl) (e1.trans R'.eA) ((c4 R').2.2 p' g1 g3 (by rw [g4]; exact fun z => nomatch z) g2) g4 g5
theorem we_callD {j : Nat} (hj : ρ[j]? = some Sl.dice) (h : WA K T tas ρ fun gs => gs.all Ag.isD = true ∧ S (gs.map Ag.d) fun r => ∃ d, r = .dat d ∧ P (.dat d)) : WE K T (tCall (spRd K T S) [] E (tCons (tVar j) tas)) ρ P := fun ⦃A B dc C H σ α⦄ R Q q => by
  obtain ⟨d0, hd0, hs0⟩ := R.sl j _ hj
  refine ⟨_, hs0, h R _ fun gs vs C1 H1 ⟨h1, h2⟩ R1 e1 a1 => ?_⟩
  show spRd K T S ((V.ref d0 :: vs) ++ []) H1 Q E
  rw [List.append_nil]
  obtain ⟨c1, c2, c3, c4⟩ := call_core R1 (A' := C1) (dc' := dc) (.inr rfl) (fun a o e => ex_self a o e R1.okC) (Evl.Ex.refl _)
  obtain ⟨k1, k2, k3⟩ := c3 d0 hd0
  subst hd0
  refine ⟨d0, _, _, C1, _, _, rfl, c1, c2, ags_d a1 h1, k1, k2, k3, h2, fun r v C' H' σ' ρ' α' hp R' hr => ?_⟩
  obtain ⟨d, rfl, p⟩ := hp
  exact q _ _ _ _ p ((c4 R').1 rfl) (e1.trans R'.eA) hr
theorem wl_callD {j : Nat} (hj : ρ[j]? = some Sl.dice) (h : WA K T tas ρ fun gs => gs.all Ag.isD = true ∧ S (gs.map Ag.d) fun r => ∃ l, r = .fr l ∧ Pl l) : WL K T (tCall (spRd K T S) [] E (tCons (tVar j) tas)) ρ Pl := fun ⦃A B dc C H σ α⦄ R Q q => by
  obtain ⟨d0, hd0, hs0⟩ := R.sl j _ hj
  refine ⟨_, hs0, h R _ fun gs vs C1 H1 ⟨h1, h2⟩ R1 e1 a1 => ?_⟩
  show spRd K T S ((V.ref d0 :: vs) ++ []) H1 Q E
  rw [List.append_nil]
  obtain ⟨c1, c2, c3, c4⟩ := call_core R1 (A' := C1) (dc' := dc) (.inr rfl) (fun a o e => ex_self a o e R1.okC) (Evl.Ex.refl _)
  obtain ⟨k1, k2, k3⟩ := c3 d0 hd0
  subst hd0
  refine ⟨d0, _, _, C1, _, _, rfl, c1, c2, ags_d a1 h1, k1, k2, k3, h2, fun r v C' H' σ' ρ' α' hp R' hr => ?_⟩
  obtain ⟨l, rfl, p⟩ := hp
  obtain ⟨p', ws, rfl, g1, g2, g3, g4, g5⟩ := hr
  exact q _ _ _ _ _ p ((c4 R').1 rfl) (e1.trans R'.eA) ((c4 R').2.2 p' g1 g3 (by rw [g4]; exact fun z => nomatch z) g2) g4 g5
/-- arguments among which are lists of one's own: the answer holds no address -/
theorem ags_own (R : Rep K T A B dc C H σ ρ α) : ∀ {gs : List Ag} {vs : List V} {ds : List Dt}, AgsAt K C ρ α gs vs → agsD ρ gs = some ds → DzA K (frm (fun a => C a ≠ none ∨ isOwn ρ α a) H) vs ds := by
  have e : Ex C (frm (fun a => C a ≠ none ∨ isOwn ρ α a) H) := fun a o e => (frm_in (.inl (by rw [e]; exact fun z => nomatch z))).trans (R.okC.ex _ _ e)
  intro gs
  induction gs with
  | nil =>
    intro vs ds h hd
    cases hd
    match vs, h with
    | [], _ => exact .nil
  | cons g gs ih =>
    intro vs ds h hd
    match vs, h with
    | v :: vs, h =>
      unfold agsD at hd
      split at hd
      · rename_i d ds' h1 h2
        cases hd
        refine .cons ?_ (ih h.2 h2)
        cases g with
        | dat d' =>
          cases h1
          exact Dz.up e h.1
        | slot i =>
          obtain ⟨rfl, l, hl⟩ := h.1
          simp only [agD, hl] at h1
          cases h1
          obtain ⟨_, _, _, _, ws, g5, g6⟩ := R.ow hl
          exact .lst ((frm_in (.inr ⟨i, l, hl, rfl⟩)).trans g5) (g6.up e)
      · cases hd
theorem own_A (R : Rep K T A B dc C H σ ρ α) : (∀ a o, frm (fun a => C a ≠ none ∨ isOwn ρ α a) H a = some o → H a = some o ∧ (C a ≠ none ∨ isOwn ρ α a)) ∧ Ex C (frm (fun a => C a ≠ none ∨ isOwn ρ α a) H) :=
  ⟨fun a o e => ⟨(frm_some e).2, (frm_some e).1⟩, fun a o e => (frm_in (.inl (by rw [e]; exact fun z => nomatch z))).trans (R.okC.ex _ _ e)⟩
theorem we_callO (h : WA K T tas ρ fun gs => ∃ ds, agsD ρ gs = some ds ∧ S ds fun r => ∃ d, r = .dat d ∧ d.atom = true ∧ P (.dat d)) : WE K T (tCall (spR K T S) [] E tas) ρ P := fun ⦃A B dc C H σ α⦄ R Q q =>
  h R _ fun gs vs C1 H1 ⟨ds, h1, h2⟩ R1 e1 a1 => by
    rw [List.append_nil]
    obtain ⟨o1, o2⟩ := own_A R1
    obtain ⟨c1, c2, c3, c4⟩ := call_core R1 (dc' := none) (.inl rfl) o1 o2
    refine ⟨_, _, _, _, c1, c2, ags_own R1 a1 h1, h2, fun r v C' H' σ' ρ' α' hp R' hr => ?_⟩
    obtain ⟨d, rfl, ha, p⟩ := hp
    exact q _ _ _ _ p (c4 R').2.1 e1 (Dz.atm hr ha)
theorem wl_callO (h : WA K T tas ρ fun gs => ∃ ds, agsD ρ gs = some ds ∧ S ds fun r => ∃ l, r = .fr l ∧ (∀ d ∈ l, d.atom = true) ∧ Pl l) : WL K T (tCall (spR K T S) [] E tas) ρ Pl := fun ⦃A B dc C H σ α⦄ R Q q =>
  h R _ fun gs vs C1 H1 ⟨ds, h1, h2⟩ R1 e1 a1 => by
    rw [List.append_nil]
    obtain ⟨o1, o2⟩ := own_A R1
    obtain ⟨c1, c2, c3, c4⟩ := call_core R1 (dc' := none) (.inl rfl) o1 o2
    refine ⟨_, _, _, _, c1, c2, ags_own R1 a1 h1, h2, fun r v C' H' σ' ρ' α' hp R' hr => ?_⟩
    obtain ⟨l, rfl, ha, p⟩ := hp
    obtain ⟨p', ws, rfl, g1, g2, g3, g4, g5⟩ := hr
    have F := (c4 R').2.2 p' g1 g3 (by rw [g4]; exact fun z => nomatch z) (C2 := C1) (by
      cases z : C1 p' with
      | none => rfl
      | some o =>
        have := R'.eA _ _ (o2 _ _ z)
        rw [g2] at this
        cases this)
    exact q _ _ _ _ _ p (c4 R').2.1 e1 F g4 (g5.atm ha)
theorem Kp.imp {P : Program} {w : World} {mg : Str → Option Value} {base : Heap} {CX : CXT} {k : Nat} {x : Str} {ps : List Str} {sp sp' : Sp} (F : Kp P w K mg base CX k x ps sp) (h : ∀ vs H Q E, sp' vs H Q E → sp vs H Q E) : Kp P w K mg base CX k x ps sp' := by
  obtain ⟨f, fd, h1, h2, h3, h4⟩ := F.ex
  exact ⟨f, fd, h1, h2, h3, h4.imp h⟩
theorem wa_mono {Pa Pa' : List Ag → Prop} (h : WA K T tas ρ Pa) (i : ∀ gs, Pa gs → Pa' gs) : WA K T tas ρ Pa' := fun ⦃A B dc C H σ α⦄ R Q q => h R Q fun g v C' H' p => q g v C' H' (i g p)
theorem wl_mono {Pl' : List Dt → Prop} (h : WL K T te ρ Pl) (i : ∀ gs, Pl gs → Pl' gs) : WL K T te ρ Pl' := fun ⦃A B dc C H σ α⦄ R Q q => h R Q fun g p v C' H' z => q g p v C' H' (i g z)
theorem wr_mulL {i j : Int} (h1 : -18446744073709551616 < i) (h2 : i < 18446744073709551616) (p : P (.dat (.int (i * j)))) : WR K T (rI CMul fun i j => .int (i * j)) ρ (.dat (.int i)) (.dat (.int j)) P := wr_intC (f := fun i j => i * j) (show CMul i j from .inl ⟨by omega, by omega⟩) p
theorem wr_mulR {i j : Int} (h1 : -18446744073709551616 < j) (h2 : j < 18446744073709551616) (p : P (.dat (.int (i * j)))) : WR K T (rI CMul fun i j => .int (i * j)) ρ (.dat (.int i)) (.dat (.int j)) P := wr_intC (f := fun i j => i * j) (show CMul i j from .inr ⟨by omega, by omega⟩) p
theorem wr_fdiv {i j : Int} (h1 : 0 < j) (h2 : j < 1073741824) (p : P (.dat (.int (i / j)))) : WR K T (rI CDiv fun i j => .int (i / j)) ρ (.dat (.int i)) (.dat (.int j)) P := wr_intC (f := fun i j => i / j) (show CDiv i j from ⟨h1, h2⟩) p
theorem wr_mod {i j : Int} (h1 : 0 < j) (p : P (.dat (.int (i % j)))) : WR K T (rI (fun _ j => 0 < j) fun i j => .int (i % j)) ρ (.dat (.int i)) (.dat (.int j)) P := wr_intC (c := fun _ j => 0 < j) (f := fun i j => i % j) h1 p
def SOff : SpD := fun ds Pr => ∃ m : Int, ds = [.int m] ∧ 1 ≤ m ∧ m < 1000000 ∧ ∀ r : Int, 0 ≤ r → r < m → Pr (.dat (.int r))
theorem at_pick {l : List Dt} {r : Int} (h0 : 0 ≤ r) (h1 : r < (l.length : Int)) : ∃ d, atI l r = some d ∧ d ∈ l := by
  have hl : r.toNat < l.length := by omega
  refine ⟨l[r.toNat], ?_, List.getElem_mem hl⟩
  have h := atI_nat (List.getElem?_eq_getElem hl)
  rw [show ((r.toNat : Nat) : Int) = r by omega] at h
  exact h
/-- [a, b, ..][_law_off(d, n)] -/
theorem we_pick {Pg : Ag → Prop} {j : Nat} {n : Int} {E : XK} (hj : ρ[j]? = some Sl.dice) (h : WA K T tas ρ fun gs => gs.all Ag.isD = true ∧ (gs.length : Int) = n ∧ 1 ≤ n ∧ n < 1000 ∧ ∀ d ∈ gs.map Ag.d, Pg (.dat d)) :
    WE K T (tOp (rIxL K) (tLst tas) (tCall (spRd K T SOff) [] E (tCons (tVar j) (tCons (tC (.int n)) tNil)))) ρ Pg := by
  refine we_op (we_l (wl_lst (wa_mono h fun gs ⟨h1, h2, h3, h4, h5⟩ => ⟨h1, by omega, ?_⟩)))
  refine we_callD hj (wa_cons (we_int (wa_nil ⟨rfl, n, rfl, h3, by omega, fun r r0 r1 => ⟨_, rfl, ?_⟩⟩)))
  obtain ⟨d, hd, hm⟩ := at_pick (l := gs.map Ag.d) r0 (by simp; omega)
  exact wr_ixL (x := .dat (.lst (gs.map Ag.d))) rfl hd (h5 d hm)
/-! ### small steps -/
theorem ex_d {d : Dt} {P : Dt → Prop} (p : P d) : ∃ d', Ag.dat d = Ag.dat d' ∧ P d' := ⟨d, rfl, p⟩
theorem ex_i {d : Int} {P : Int → Prop} (p : P d) : ∃ d', Ag.dat (.int d) = Ag.dat (.int d') ∧ P d' := ⟨d, rfl, p⟩
theorem ex_s {d : Str} {P : Str → Prop} (p : P d) : ∃ d', Ag.dat (.str d) = Ag.dat (.str d') ∧ P d' := ⟨d, rfl, p⟩
theorem ex_b {d : Bool} {P : Bool → Prop} (p : P d) : ∃ d', Ag.dat (.bl d) = Ag.dat (.bl d') ∧ P d' := ⟨d, rfl, p⟩
theorem ex_l {d : List Dt} {P : List Dt → Prop} (p : P d) : ∃ d', Ag.dat (.lst d) = Ag.dat (.lst d') ∧ P d' := ⟨d, rfl, p⟩
theorem ex_t {d : List Dt} {P : List Dt → Prop} (p : P d) : ∃ d', Ag.dat (.tup d) = Ag.dat (.tup d') ∧ P d' := ⟨d, rfl, p⟩
theorem ex_rd {d : Dt} {P : Dt → Prop} (p : P d) : ∃ d', Res.dat d = Res.dat d' ∧ P d' := ⟨d, rfl, p⟩
theorem ex_rf {d : List Dt} {P : List Dt → Prop} (p : P d) : ∃ d', Res.fr d = Res.fr d' ∧ P d' := ⟨d, rfl, p⟩
theorem ex_al {g : Ag} {l : List Dt} {P : List Dt → Prop} (h : agD ρ g = some (.lst l)) (p : P l) : ∃ l', agD ρ g = some (.lst l') ∧ P l' := ⟨l, h, p⟩
theorem ex_n1 {d : Int} {P : Int → Prop} (p : P d) : ∃ d', [Ag.dat (.int d)] = [Ag.dat (.int d')] ∧ P d' := ⟨d, rfl, p⟩
theorem ex_l1 {d : List Dt} {P : List Dt → Prop} (p : P d) : ∃ d', [Ag.dat (.lst d)] = [Ag.dat (.lst d')] ∧ P d' := ⟨d, rfl, p⟩
theorem ex_l2 {d e : List Dt} {P : List Dt → List Dt → Prop} (p : P d e) : ∃ d' e', [Ag.dat (.lst d), Ag.dat (.lst e)] = [Ag.dat (.lst d'), Ag.dat (.lst e')] ∧ P d' e' := ⟨d, e, rfl, p⟩
theorem an_d {gs : List Ag} {p : Prop} (h : gs.all Ag.isD = true) (q : p) : gs.all Ag.isD = true ∧ p := ⟨h, q⟩
theorem an_le {a b : Nat} {p : Prop} (h : a ≤ b) (q : p) : a ≤ b ∧ p := ⟨h, q⟩
theorem an_leI {a b : Int} {p : Prop} (h : a ≤ b) (q : p) : a ≤ b ∧ p := ⟨h, q⟩
theorem an_ltI {a b : Int} {p : Prop} (h : a < b) (q : p) : a < b ∧ p := ⟨h, q⟩
theorem an_eqI {a b : Int} {p : Prop} (h : a = b) (q : p) : a = b ∧ p := ⟨h, q⟩
theorem ex_cat {x y : Ag} {l m : List Dt} {Pl : List Dt → List Dt → Prop} (h1 : agD ρ x = some (.lst l)) (h2 : agD ρ y = some (.lst m)) (h3 : l.length + m.length ≤ 100000) (p : Pl l m) : ∃ l m, agD ρ x = some (.lst l) ∧ agD ρ y = some (.lst m) ∧ l.length + m.length ≤ 100000 ∧ Pl l m := ⟨l, m, h1, h2, h3, p⟩
theorem ex_rep {x : Ag} {d : Dt} {n : Int} {Pl : Dt → Int → Prop} (h1 : agD ρ x = some (.lst [d])) (h3 : n ≤ 100000) (h4 : -100000 ≤ n) (p : Pl d n) : ∃ d n', agD ρ x = some (.lst [d]) ∧ Ag.dat (.int n) = .dat (.int n') ∧ n' ≤ 100000 ∧ -100000 ≤ n' ∧ Pl d n' := ⟨d, n, h1, rfl, h3, h4, p⟩
end
end Ub

namespace Ub
open PySem PySem.Spec PyProof.Rows L2
/-! ### a dict of the module, int keys -/
def KDctI (K : PySem.W.Frag) (a : Addr) (z : Int) (v : V) : Prop :=
  ∃ es n u, K.lookup a = some ⟨.type "dict", none, .dict es n, #[]⟩ ∧ (∀ e ∈ es, ∃ (i : Int) (t : Tok), e.key = .int i t ∧ e.hash = hashInt i) ∧ findBy Value.isInt es z = some u ∧ RelV v u
def rIxDI (K : PySem.W.Frag) : R2 := fun x y H Q => ∃ p z v, x = .ref p ∧ y = .int z ∧ KDctI K p z v ∧ Q v H
theorem ix_kdictI {X : Cx} : IxR X (rIxDI X.K) := by
  intro value slice pins s σ H x y v u Q I rx ry h hs
  obtain ⟨p, z, r, rfl, rfl, ⟨es, n, u0, hl, hk, e, ru⟩, q⟩ := h
  obtain rfl : v = Value.ref p := rx
  obtain ⟨t, rfl⟩ := ry
  have hm : s.heap.MapOf (intKind X.prog X.w) p (fun k => findBy Value.isInt es k) := ⟨_, es, n, I.kIn _ _ hl, ⟨rfl, rfl, rfl⟩, rfl, fun e he => by
    obtain ⟨i, t, e1, e2⟩ := hk e he
    exact ⟨i, by rw [e1]; exact intKind_is X.prog X.w i t, e2⟩, fun _ => rfl⟩
  exact tail_any hm.typeIs slot_dict_getitem.lookup (wpAny_getItem_of (intKind_is X.prog X.w z t) hm e ⟨r, H, I.tok _, ru, q⟩) hs
def dctIB (K : PySem.W.Frag) (a : Addr) (ps : List (Int × Int)) : Bool := match K.lookup a with
  | some ⟨.type c, none, .dict es _, sl⟩ => decide (c = "dict") && (sl.isEmpty && (es.toList.all (fun e => match e.key with
      | .int i _ => decide (e.hash = hashInt i)
      | _ => false) && ps.all fun p => match findBy Value.isInt es p.1 with
      | some (.int j _) => decide (j = p.2)
      | _ => false))
  | _ => false
theorem dctIB_ok {K : PySem.W.Frag} {a : Addr} {ps : List (Int × Int)} (h : dctIB K a ps = true) : ∀ p ∈ ps, KDctI K a p.1 (.int p.2) := by
  intro p hp
  unfold dctIB at h
  split at h
  · rename_i c es n sl q
    simp only [Bool.and_eq_true, decide_eq_true_eq, List.all_eq_true] at h
    obtain ⟨rfl, h2, h3, h4⟩ := h
    have hsl : sl = #[] := Array.isEmpty_iff.mp h2
    subst hsl
    have h5 := h4 p hp
    split at h5
    · rename_i j t hf
      refine ⟨es, n, _, q, fun e he => ?_, hf, ⟨t, by rw [of_decide_eq_true h5]⟩⟩
      have h6 := h3 e (Array.mem_toList_iff.mpr he)
      split at h6
      · rename_i i t2 hk
        exact ⟨i, t2, hk, of_decide_eq_true h6⟩
      · cases h6
    · cases h5
  · cases h
section
variable {K : PySem.W.Frag} {T : Tb} {A B : Hp} {dc : Option Addr} {C H : Hp} {σ : L2.St} {ρ : List Sl} {α : Nat → Addr} {P : Ag → Prop} {Pl : List Dt → Prop} {ta tb tc te : TE} {t u tt : TT} {g : TG} {tas : TA}
theorem we_ixK {a : Addr} (h : WE K T tb ρ fun y => ∃ z j, y = .dat (.int z) ∧ KDctI K a z (.int j) ∧ P (.dat (.int j))) : WE K T (tOp (rIxDI K) (tC (.ref a)) tb) ρ P := fun ⦃A B dc C H σ α⦄ R Q q =>
  h R _ fun g v C1 H1 ⟨z, j, hz, hk, p⟩ R1 e1 a1 => by
    subst hz
    obtain rfl := ag_int a1
    exact ⟨a, z, .int j, rfl, rfl, hk, q _ _ _ _ p R1 e1 (.int _)⟩
/-! ### {k: v, ..}[e] -/
def Ag.key : Ag → Option Key
  | .dat (.int i) => some (.inl i)
  | .dat (.str s) => some (.inr s)
  | _ => none
theorem ag_key {x : Ag} {v : V} {k : Key} (h : AgAt K C ρ α x v) (e : x.key = some k) : v = kV k := by
  cases x with
  | slot i => cases e
  | dat d =>
    cases d with
    | int i => cases e; exact ag_int h
    | str s => cases e; exact ag_str h
    | _ => cases e
theorem we_dgetC {trs : List (TE × TE)} {ty : TE} (kvs : List (Key × V)) (htr : ∀ σ H (Q : List (V × V) → Hp → Prop), Q (kvs.map fun kv => (kV kv.1, kv.2)) H → tPairs trs σ H Q) (hl : kvs.length ≤ 15) (h : WE K T ty ρ fun y => ∃ k v d, y.key = some k ∧ valV (mergeK [] kvs) k = some v ∧ (∀ C, Dz K C v d) ∧ P (.dat d)) :
    WE K T (tDGet (tDisp trs) ty) ρ P := fun ⦃A B dc C H σ α⦄ R Q q => fun p np => htr _ _ _ ⟨upd_same, kvs, rfl, hl, by
    have R1 := R.newM np (o := .dK (mergeK [] kvs))
    have F := R.fr np
    have R2 := R1.tmp upd_same (fun _ e => nomatch e) F.nc F.nd F.no
    rw [upd_upd]
    refine h R2 _ fun g v C1 H1 ⟨k, u, d, hk, hv, hd, p2⟩ R3 e1 a1 => ?_
    obtain rfl := ag_key a1 hk
    have hp := R3.okB.ex _ _ upd_same
    exact ⟨p, u, rfl, .inl ⟨_, k, .inl hp, rfl, hv.symm⟩, q _ _ _ _ p2 (R3.untmp F.nb) e1 (hd _)⟩⟩
/-! ### data as the library's data -/
mutual
def toP : Dt → Option PyData
  | .non => some .none
  | .bl b => some (.bool b)
  | .int i => some (.int i)
  | .str s => some (.str s)
  | .lst l => (toPs l).map PyData.list
  | .tup l => (toPs l).map PyData.tuple
  | .obj _ _ => none
  | .lam _ => none
  | .exc _ _ _ => none
  | .clo _ _ => none
def toPs : List Dt → Option (List PyData)
  | [] => some []
  | d :: ds => match toP d, toPs ds with
    | some p, some ps => some (p :: ps)
    | _, _ => none
end
mutual
theorem Dz.dp {B : Hp} (e : Ex C B) : ∀ {d : Dt} {v : V} {p : PyData}, Dz K C v d → toP d = some p → Dp K B v p
  | .non, _, _, h, q => by cases h; simp only [toP, Option.some.injEq] at q; subst q; exact .non
  | .bl b, _, _, h, q => by cases h; simp only [toP, Option.some.injEq] at q; subst q; exact .bl b
  | .int i, _, _, h, q => by cases h; simp only [toP, Option.some.injEq] at q; subst q; exact .int i
  | .str s, _, _, h, q => by cases h; simp only [toP, Option.some.injEq] at q; subst q; exact .str s
  | .lst l, _, _, h, q => by
    simp only [toP, Option.map_eq_some_iff] at q
    obtain ⟨ps, q1, rfl⟩ := q
    cases h with
    | lst h1 h2 => exact .lst (SqL.of (e _ _ h1)) (DzA.dp e h2 q1)
  | .tup l, _, _, h, q => by
    simp only [toP, Option.map_eq_some_iff] at q
    obtain ⟨ps, q1, rfl⟩ := q
    cases h with
    | tup h1 h2 => exact .tup (Evl.ex_t e h1) (DzA.dp e h2 q1)
  | .obj _ _, _, _, _, q => by simp [toP] at q
  | .lam _, _, _, _, q => by simp [toP] at q
  | .exc _ _ _, _, _, _, q => by simp [toP] at q
  | .clo _ _, _, _, _, q => by simp [toP] at q
theorem DzA.dp {B : Hp} (e : Ex C B) : ∀ {ds : List Dt} {vs : List V} {ps : List PyData}, DzA K C vs ds → toPs ds = some ps → DpAll K B vs ps
  | [], _, _, h, q => by cases h; simp only [toPs, Option.some.injEq] at q; subst q; exact .nil
  | d :: ds, _, _, h, q => by
    cases h with
    | cons h1 h2 =>
      simp only [toPs] at q
      split at q
      · rename_i p ps q1 q2
        cases q
        exact .cons (Dz.dp e h1 q1) (DzA.dp e h2 q2)
      · cases q
end
theorem ag_dp (R : Rep K T A B dc C H σ ρ α) {x : Ag} {v : V} {d : Dt} {p : PyData} (h : AgAt K C ρ α x v) (hd : agD ρ x = some d) (hp : toP d = some p) : Dp K H v p := by
  cases x with
  | dat d' =>
    cases hd
    exact Dz.dp R.okC.ex h hp
  | slot i =>
    obtain ⟨rfl, l, hl⟩ := h
    simp only [agD, hl] at hd
    cases hd
    simp only [toP, Option.map_eq_some_iff] at hp
    obtain ⟨ps, q1, rfl⟩ := hp
    obtain ⟨_, _, _, _, vs, h5, h6⟩ := R.ow hl
    exact .lst (SqL.of h5) (DzA.dp R.okC.ex h6 q1)
theorem wr_eqD {x y : Ag} {d e : Dt} {p q : PyData} (hx : agD ρ x = some d) (hy : agD ρ y = some e) (hp : toP d = some p) (hq : toP e = some q) (sp : SeqAt.shaped p = true) (sq : SeqAt.shaped q = true) (k : P (.dat (.bl (PyData.eqv p q)))) : WR K T (rEqD K) ρ x y P := fun ⦃A B dc C H σ α v w⦄ R hv hw Q z =>
  ⟨p, q, ag_dp R hv hx hp, ag_dp R hw hy hq, sp, sq, z _ _ _ _ k R (Evl.Ex.refl _) (.bl _)⟩
theorem wr_neD {x y : Ag} {d e : Dt} {p q : PyData} (hx : agD ρ x = some d) (hy : agD ρ y = some e) (hp : toP d = some p) (hq : toP e = some q) (sp : SeqAt.shaped p = true) (sq : SeqAt.shaped q = true) (k : P (.dat (.bl (!PyData.eqv p q)))) : WR K T (rNeD K) ρ x y P := fun ⦃A B dc C H σ α v w⦄ R hv hw Q z =>
  ⟨p, q, ag_dp R hv hx hp, ag_dp R hw hy hq, sp, sq, z _ _ _ _ k R (Evl.Ex.refl _) (.bl _)⟩
theorem toPs_ints : ∀ ns : List Int, toPs (ns.map Dt.int) = some (ns.map PyData.int)
  | [] => by simp [toPs]
  | n :: ns => by simp [toPs, toP, toPs_ints ns]
theorem toP_ints (ns : List Int) : toP (.lst (ns.map Dt.int)) = some (.list (ns.map PyData.int)) := by simp [toP, toPs_ints]
theorem sh_ints (ns : List Int) : SeqAt.shaped (.list (ns.map PyData.int)) = true := (Sh.list (n := 0) fun d hd => by
  obtain ⟨m, _, rfl⟩ := List.mem_map.mp hd
  exact .int).shaped (by decide)
theorem eqv_ints : ∀ ns ms : List Int, PyData.eqv (.list (ns.map PyData.int)) (.list (ms.map PyData.int)) = decide (ns = ms) := by
  have h : ∀ ns ms : List Int, PyData.eqvAll (ns.map PyData.int) (ms.map PyData.int) = decide (ns = ms) := by
    intro ns
    induction ns with
    | nil =>
      intro ms
      cases ms with
      | nil => rfl
      | cons m ms => simp [PyData.eqvAll]
    | cons n ns ih =>
      intro ms
      cases ms with
      | nil => simp [PyData.eqvAll]
      | cons m ms =>
        simp only [List.map_cons, PyData.eqvAll, ih ms, PyData.eqv]
        rw [Bool.eq_iff_iff]
        simp
  intro ns ms
  simp only [PyData.eqv]
  exact h ns ms
theorem wr_eqIs {x y : Ag} {ns ms : List Int} (hx : agD ρ x = some (.lst (ns.map Dt.int))) (hy : agD ρ y = some (.lst (ms.map Dt.int))) (k : P (.dat (.bl (decide (ns = ms))))) : WR K T (rEqD K) ρ x y P :=
  wr_eqD hx hy (toP_ints ns) (toP_ints ms) (sh_ints ns) (sh_ints ms) (by rw [eqv_ints]; exact k)
theorem wr_neIs {x y : Ag} {ns ms : List Int} (hx : agD ρ x = some (.lst (ns.map Dt.int))) (hy : agD ρ y = some (.lst (ms.map Dt.int))) (k : P (.dat (.bl (!decide (ns = ms))))) : WR K T (rNeD K) ρ x y P :=
  wr_neD hx hy (toP_ints ns) (toP_ints ms) (sh_ints ns) (sh_ints ms) (by rw [eqv_ints]; exact k)
theorem wl_rev (h : WE K T te ρ fun g => ∃ l, agD ρ g = some (.lst l) ∧ Pl l.reverse) : WL K T (tRevL K te) ρ Pl := fun ⦃A B dc C H σ α⦄ R Q q =>
  h R _ fun g v C1 H1 ⟨l, hl, h1⟩ R1 e1 a1 => by
    obtain ⟨a, vs, rfl, g1, g2⟩ := ag_list R1 a1 hl
    exact ⟨a, vs, rfl, SqL.of g1, wl_new R1 e1 g2.rev h1 q⟩
/-! ### slices by natural bounds -/
theorem cut_take {l : List Dt} {p : Nat} : cutD l none (some (p : Int)) = l.take p := by
  unfold cutD
  rw [HT.sIx_nat]
  show (l.drop 0).take (min p l.length - 0) = _
  rw [List.drop_zero, Nat.sub_zero, List.take_eq_take_min]
  simp
theorem cut_drop {l : List Dt} {p : Nat} : cutD l (some (p : Int)) none = l.drop p := by
  unfold cutD
  rw [HT.sIx_nat]
  show (l.drop (min p l.length)).take (l.length - min p l.length) = _
  rw [List.take_of_length_le (by simp)]
  by_cases h : p ≤ l.length
  · rw [Nat.min_eq_left h]
  · rw [Nat.min_eq_right (by omega), List.drop_of_length_le (by omega), List.drop_of_length_le (by omega)]
theorem cut_mid {l : List Dt} {p q : Nat} (h1 : p ≤ q) (h2 : q ≤ l.length) : cutD l (some (p : Int)) (some (q : Int)) = (l.drop p).take (q - p) := by
  unfold cutD
  rw [HT.sIx_nat, HT.sIx_nat, Nat.min_eq_left h2, Nat.min_eq_left (Nat.le_trans h1 h2)]
theorem mp_at {β γ : Type} {l : List β} {f : β → γ} {i : Nat} {y : γ} (h : (l.map f)[i]? = some y) : ∃ x, l[i]? = some x ∧ y = f x := by
  rw [List.getElem?_map] at h
  cases e : l[i]? with
  | none => rw [e] at h; cases h
  | some x => rw [e] at h; cases h; exact ⟨x, rfl, rfl⟩
theorem at_mp {β γ : Type} {l : List β} {f : β → γ} {i : Nat} {x : β} (h : l[i]? = some x) : (l.map f)[i]? = some (f x) := by
  rw [List.getElem?_map, h]
  rfl
end
end Ub

namespace Rw
open PySem PySem.Spec PyProof.Rows L2 Ub
def topS (i : Nat) : Stmt := PySem.Challenge.pw_endshare_k01_fields_and_hands_refused.main.body.getD i (.Pass ⟨0, 0, 0, 0⟩)
abbrev s_cells_of : Stmt := topS 11
abbrev N_cells_of : List Str := ["number", "size", "order", "cells", "rest", "_"]
abbrev P_cells_of : List Str := ["number", "size", "order"]
theorem sc_cells_of : FnScope N_cells_of P_cells_of (defScope s_cells_of) := ⟨rfl, rfl, rfl, by decide +kernel, rfl, by decide +kernel, by decide +kernel⟩
abbrev s_number_in : Stmt := topS 12
abbrev N_number_in : List Str := ["cells", "order", "number", "figures", "figure"]
abbrev P_number_in : List Str := ["cells", "order"]
theorem sc_number_in : FnScope N_number_in P_number_in (defScope s_number_in) := ⟨rfl, rfl, rfl, by decide +kernel, rfl, by decide +kernel, by decide +kernel⟩
abbrev s_is_whole : Stmt := topS 22
abbrev N_is_whole : List Str := ["number"]
abbrev P_is_whole : List Str := ["number"]
theorem sc_is_whole : FnScope N_is_whole P_is_whole (defScope s_is_whole) := ⟨rfl, rfl, rfl, by decide +kernel, rfl, by decide +kernel, by decide +kernel⟩
abbrev s_is_size : Stmt := topS 23
abbrev N_is_size : List Str := ["number"]
abbrev P_is_size : List Str := ["number"]
theorem sc_is_size : FnScope N_is_size P_is_size (defScope s_is_size) := ⟨rfl, rfl, rfl, by decide +kernel, rfl, by decide +kernel, by decide +kernel⟩
abbrev s_are_small_letters : Stmt := topS 24
abbrev N_are_small_letters : List Str := ["text", "sign"]
abbrev P_are_small_letters : List Str := ["text"]
theorem sc_are_small_letters : FnScope N_are_small_letters P_are_small_letters (defScope s_are_small_letters) := ⟨rfl, rfl, rfl, by decide +kernel, rfl, by decide +kernel, by decide +kernel⟩
abbrev s_is_name : Stmt := topS 25
abbrev N_is_name : List Str := ["name"]
abbrev P_is_name : List Str := ["name"]
theorem sc_is_name : FnScope N_is_name P_is_name (defScope s_is_name) := ⟨rfl, rfl, rfl, by decide +kernel, rfl, by decide +kernel, by decide +kernel⟩
abbrev s_is_gap : Stmt := topS 26
abbrev N_is_gap : List Str := ["number"]
abbrev P_is_gap : List Str := ["number"]
theorem sc_is_gap : FnScope N_is_gap P_is_gap (defScope s_is_gap) := ⟨rfl, rfl, rfl, by decide +kernel, rfl, by decide +kernel, by decide +kernel⟩
abbrev s_can_have : Stmt := topS 27
abbrev N_can_have : List Str := ["size", "number"]
abbrev P_can_have : List Str := ["size", "number"]
theorem sc_can_have : FnScope N_can_have P_can_have (defScope s_can_have) := ⟨rfl, rfl, rfl, by decide +kernel, rfl, by decide +kernel, by decide +kernel⟩
abbrev s_check_fields : Stmt := topS 28
abbrev N_check_fields : List Str := ["fields", "names", "number", "name", "size"]
abbrev P_check_fields : List Str := ["fields"]
theorem sc_check_fields : FnScope N_check_fields P_check_fields (defScope s_check_fields) := ⟨rfl, rfl, rfl, by decide +kernel, rfl, by decide +kernel, by decide +kernel⟩
abbrev s_check_hand : Stmt := topS 29
abbrev N_check_hand : List Str := ["hand", "order", "align", "wide", "way"]
abbrev P_check_hand : List Str := ["hand"]
theorem sc_check_hand : FnScope N_check_hand P_check_hand (defScope s_check_hand) := ⟨rfl, rfl, rfl, by decide +kernel, rfl, by decide +kernel, by decide +kernel⟩
abbrev s_check_gaps : Stmt := topS 30
abbrev N_check_gaps : List Str := ["fields", "gaps", "gap"]
abbrev P_check_gaps : List Str := ["fields", "gaps"]
theorem sc_check_gaps : FnScope N_check_gaps P_check_gaps (defScope s_check_gaps) := ⟨rfl, rfl, rfl, by decide +kernel, rfl, by decide +kernel, by decide +kernel⟩
abbrev s_check_memory : Stmt := topS 31
abbrev N_check_memory : List Str := ["memory", "room", "at", "cell"]
abbrev P_check_memory : List Str := ["memory", "room"]
theorem sc_check_memory : FnScope N_check_memory P_check_memory (defScope s_check_memory) := ⟨rfl, rfl, rfl, by decide +kernel, rfl, by decide +kernel, by decide +kernel⟩
abbrev s_check_programs : Stmt := topS 32
abbrev N_check_programs : List Str := ["fields", "programs", "sizes", "hand", "program", "number", "deed"]
abbrev P_check_programs : List Str := ["fields", "programs"]
theorem sc_check_programs : FnScope N_check_programs P_check_programs (defScope s_check_programs) := ⟨rfl, rfl, rfl, by decide +kernel, rfl, by decide +kernel, by decide +kernel⟩
abbrev s_is_deed : Stmt := topS 33
abbrev N_is_deed : List Str := ["deed", "sizes"]
abbrev P_is_deed : List Str := ["deed", "sizes"]
theorem sc_is_deed : FnScope N_is_deed P_is_deed (defScope s_is_deed) := ⟨rfl, rfl, rfl, by decide +kernel, rfl, by decide +kernel, by decide +kernel⟩
abbrev s_laid : Stmt := topS 35
abbrev N_laid : List Str := ["fields", "hand"]
abbrev P_laid : List Str := ["fields", "hand"]
theorem sc_laid : FnScope N_laid P_laid (defScope s_laid) := ⟨rfl, rfl, rfl, by decide +kernel, rfl, by decide +kernel, by decide +kernel⟩
abbrev s_spread : Stmt := topS 36
abbrev N_spread : List Str := ["fields", "hand", "gaps"]
abbrev P_spread : List Str := ["fields", "hand", "gaps"]
theorem sc_spread : FnScope N_spread P_spread (defScope s_spread) := ⟨rfl, rfl, rfl, by decide +kernel, rfl, by decide +kernel, by decide +kernel⟩
abbrev s_filled : Stmt := topS 37
abbrev N_filled : List Str := ["fields", "one", "other", "best", "_", "size", "gaps"]
abbrev P_filled : List Str := ["fields", "one", "other"]
theorem sc_filled : FnScope N_filled P_filled (defScope s_filled) := ⟨rfl, rfl, rfl, by decide +kernel, rfl, by decide +kernel, by decide +kernel⟩
abbrev s_step_of : Stmt := topS 38
abbrev N_step_of : List Str := ["size", "hand", "_", "align"]
abbrev P_step_of : List Str := ["size", "hand"]
theorem sc_step_of : FnScope N_step_of P_step_of (defScope s_step_of) := ⟨rfl, rfl, rfl, by decide +kernel, rfl, by decide +kernel, by decide +kernel⟩
abbrev s_first_multiple : Stmt := topS 39
abbrev N_first_multiple : List Str := ["start", "step"]
abbrev P_first_multiple : List Str := ["start", "step"]
theorem sc_first_multiple : FnScope N_first_multiple P_first_multiple (defScope s_first_multiple) := ⟨rfl, rfl, rfl, by decide +kernel, rfl, by decide +kernel, by decide +kernel⟩
abbrev s_placed : Stmt := topS 40
abbrev N_placed : List Str := ["fields", "hand", "gaps", "places", "end", "greatest", "_", "size", "gap", "step", "place"]
abbrev P_placed : List Str := ["fields", "hand", "gaps"]
theorem sc_placed : FnScope N_placed P_placed (defScope s_placed) := ⟨rfl, rfl, rfl, by decide +kernel, rfl, by decide +kernel, by decide +kernel⟩
abbrev s_best_behind : Stmt := topS 41
abbrev N_best_behind : List Str := ["best", "size", "step", "other_step", "found", "end", "total", "gaps", "gap", "place", "choice", "behind"]
abbrev P_best_behind : List Str := ["best", "size", "step", "other_step"]
theorem sc_best_behind : FnScope N_best_behind P_best_behind (defScope s_best_behind) := ⟨rfl, rfl, rfl, by decide +kernel, rfl, by decide +kernel, by decide +kernel⟩
abbrev s_written : Stmt := topS 43
abbrev N_written : List Str := ["fields", "name", "size"]
abbrev P_written : List Str := ["fields"]
theorem sc_written : FnScope N_written P_written (defScope s_written) := ⟨rfl, rfl, rfl, by decide +kernel, rfl, by decide +kernel, by decide +kernel⟩
abbrev s_put : Stmt := topS 45
abbrev N_put : List Str := ["fields", "hand", "memory", "name", "number", "place", "size", "order", "_"]
abbrev P_put : List Str := ["fields", "hand", "memory", "name", "number"]
theorem sc_put : FnScope N_put P_put (defScope s_put) := ⟨rfl, rfl, rfl, by decide +kernel, rfl, by decide +kernel, by decide +kernel⟩
abbrev s_look : Stmt := topS 46
abbrev N_look : List Str := ["fields", "hand", "memory", "name", "place", "size", "order", "_"]
abbrev P_look : List Str := ["fields", "hand", "memory", "name"]
theorem sc_look : FnScope N_look P_look (defScope s_look) := ⟨rfl, rfl, rfl, by decide +kernel, rfl, by decide +kernel, by decide +kernel⟩
abbrev s_led : Stmt := topS 47
abbrev N_led : List Str := ["fields", "one", "other", "memory", "places", "room", "to_places", "to_room", "order", "_", "to_order", "cells", "size", "place", "to_place", "number"]
abbrev P_led : List Str := ["fields", "one", "other", "memory"]
theorem sc_led : FnScope N_led P_led (defScope s_led) := ⟨rfl, rfl, rfl, by decide +kernel, rfl, by decide +kernel, by decide +kernel⟩
abbrev s_unlike : Stmt := topS 48
abbrev N_unlike : List Str := ["fields", "one", "other", "places", "room", "other_places", "other_room", "name", "size", "place", "other_place", "cells", "other_cells", "cell", "other_cell", "memory"]
abbrev P_unlike : List Str := ["fields", "one", "other"]
theorem sc_unlike : FnScope N_unlike P_unlike (defScope s_unlike) := ⟨rfl, rfl, rfl, by decide +kernel, rfl, by decide +kernel, by decide +kernel⟩
abbrev s_field_in : Stmt := topS 49
abbrev N_field_in : List Str := ["fields", "hand", "memory", "name", "places", "room", "told", "size", "place"]
abbrev P_field_in : List Str := ["fields", "hand", "memory", "name"]
theorem sc_field_in : FnScope N_field_in P_field_in (defScope s_field_in) := ⟨rfl, rfl, rfl, by decide +kernel, rfl, by decide +kernel, by decide +kernel⟩
abbrev s_figure_cells : Stmt := topS 50
abbrev N_figure_cells : List Str := ["place", "size", "hand", "order", "_", "cells"]
abbrev P_figure_cells : List Str := ["place", "size", "hand"]
theorem sc_figure_cells : FnScope N_figure_cells P_figure_cells (defScope s_figure_cells) := ⟨rfl, rfl, rfl, by decide +kernel, rfl, by decide +kernel, by decide +kernel⟩
abbrev s_checked_places : Stmt := topS 54
abbrev N_checked_places : List Str := ["fields", "hands", "programs", "one", "other", "gaps"]
abbrev P_checked_places : List Str := ["fields", "hands", "programs"]
theorem sc_checked_places : FnScope N_checked_places P_checked_places (defScope s_checked_places) := ⟨rfl, rfl, rfl, by decide +kernel, rfl, by decide +kernel, by decide +kernel⟩
abbrev s_plans_of : Stmt := topS 55
abbrev N_plans_of : List Str := ["fields", "hands", "programs", "places", "found", "name", "size", "place", "plans", "hand", "program", "steps", "deed"]
abbrev P_plans_of : List Str := ["fields", "hands", "programs", "places"]
theorem sc_plans_of : FnScope N_plans_of P_plans_of (defScope s_plans_of) := ⟨rfl, rfl, rfl, by decide +kernel, rfl, by decide +kernel, by decide +kernel⟩
abbrev s_steps : Stmt := topS 56
abbrev N_steps : List Str := ["deed", "place", "size", "hand", "order", "_", "parts", "steps", "number", "start", "stop", "whole", "part", "last"]
abbrev P_steps : List Str := ["deed", "place", "size", "hand"]
theorem sc_steps : FnScope N_steps P_steps (defScope s_steps) := ⟨rfl, rfl, rfl, by decide +kernel, rfl, by decide +kernel, by decide +kernel⟩
abbrev s_parts : Stmt := topS 57
abbrev N_parts : List Str := ["size", "hand", "_", "wide", "way", "many", "parts", "start"]
abbrev P_parts : List Str := ["size", "hand"]
theorem sc_parts : FnScope N_parts P_parts (defScope s_parts) := ⟨rfl, rfl, rfl, by decide +kernel, rfl, by decide +kernel, by decide +kernel⟩
abbrev s_played : Stmt := topS 60
abbrev N_played : List Str := ["fields", "hands", "programs", "weaving", "places", "room", "plans", "state", "numbers", "hand"]
abbrev P_played : List Str := ["fields", "hands", "programs", "weaving"]
theorem sc_played : FnScope N_played P_played (defScope s_played) := ⟨rfl, rfl, rfl, by decide +kernel, rfl, by decide +kernel, by decide +kernel⟩
abbrev s_ends : Stmt := topS 61
abbrev N_ends : List Str := ["fields", "hands", "programs", "places", "room", "plans", "reached", "_", "state", "numbers"]
abbrev P_ends : List Str := ["fields", "hands", "programs"]
theorem sc_ends : FnScope N_ends P_ends (defScope s_ends) := ⟨rfl, rfl, rfl, by decide +kernel, rfl, by decide +kernel, by decide +kernel⟩
abbrev s_torn : Stmt := topS 62
abbrev N_torn : List Str := ["fields", "hands", "programs", "places", "room"]
abbrev P_torn : List Str := ["fields", "hands", "programs"]
theorem sc_torn : FnScope N_torn P_torn (defScope s_torn) := ⟨rfl, rfl, rfl, by decide +kernel, rfl, by decide +kernel, by decide +kernel⟩
abbrev s_widened : Stmt := topS 63
abbrev N_widened : List Str := ["fields", "hands", "programs", "places", "room", "wides", "wider", "hand", "wide"]
abbrev P_widened : List Str := ["fields", "hands", "programs"]
theorem sc_widened : FnScope N_widened P_widened (defScope s_widened) := ⟨rfl, rfl, rfl, by decide +kernel, rfl, by decide +kernel, by decide +kernel⟩
abbrev s_with_wide : Stmt := topS 64
abbrev N_with_wide : List Str := ["hand", "wide", "order", "align", "_", "way"]
abbrev P_with_wide : List Str := ["hand", "wide"]
theorem sc_with_wide : FnScope N_with_wide P_with_wide (defScope s_with_wide) := ⟨rfl, rfl, rfl, by decide +kernel, rfl, by decide +kernel, by decide +kernel⟩
abbrev s_first_state : Stmt := topS 65
abbrev N_first_state : List Str := ["room"]
abbrev P_first_state : List Str := ["room"]
theorem sc_first_state : FnScope N_first_state P_first_state (defScope s_first_state) := ⟨rfl, rfl, rfl, by decide +kernel, rfl, by decide +kernel, by decide +kernel⟩
abbrev s_steps_in_all : Stmt := topS 66
abbrev N_steps_in_all : List Str := ["plans", "plan"]
abbrev P_steps_in_all : List Str := ["plans"]
theorem sc_steps_in_all : FnScope N_steps_in_all P_steps_in_all (defScope s_steps_in_all) := ⟨rfl, rfl, rfl, by decide +kernel, rfl, by decide +kernel, by decide +kernel⟩
abbrev s_has_step : Stmt := topS 67
abbrev N_has_step : List Str := ["plans", "state", "hand", "at", "_"]
abbrev P_has_step : List Str := ["plans", "state", "hand"]
theorem sc_has_step : FnScope N_has_step P_has_step (defScope s_has_step) := ⟨rfl, rfl, rfl, by decide +kernel, rfl, by decide +kernel, by decide +kernel⟩
abbrev s_moved : Stmt := topS 68
abbrev N_moved : List Str := ["plans", "state", "hand", "memory", "one", "other", "at", "seen", "plan", "step", "whole", "part"]
abbrev P_moved : List Str := ["plans", "state", "hand"]
theorem sc_moved : FnScope N_moved P_moved (defScope s_moved) := ⟨rfl, rfl, rfl, by decide +kernel, rfl, by decide +kernel, by decide +kernel⟩
abbrev s_watched : Stmt := topS 69
abbrev N_watched : List Str := ["plans", "state", "numbers", "hand", "behind", "seen", "one", "other", "number"]
abbrev P_watched : List Str := ["plans", "state", "numbers", "hand"]
theorem sc_watched : FnScope N_watched P_watched (defScope s_watched) := ⟨rfl, rfl, rfl, by decide +kernel, rfl, by decide +kernel, by decide +kernel⟩
abbrev s_all_watched : Stmt := topS 70
abbrev N_all_watched : List Str := ["plans", "reached", "found", "state", "numbers", "hand"]
abbrev P_all_watched : List Str := ["plans", "reached"]
theorem sc_all_watched : FnScope N_all_watched P_all_watched (defScope s_all_watched) := ⟨rfl, rfl, rfl, by decide +kernel, rfl, by decide +kernel, by decide +kernel⟩
abbrev s_told : Stmt := topS 71
abbrev N_told : List Str := ["state", "numbers", "one", "other"]
abbrev P_told : List Str := ["state", "numbers"]
theorem sc_told : FnScope N_told P_told (defScope s_told) := ⟨rfl, rfl, rfl, by decide +kernel, rfl, by decide +kernel, by decide +kernel⟩
abbrev s_first_torn : Stmt := topS 72
abbrev N_first_torn : List Str := ["plans", "room", "reached", "_", "weaving"]
abbrev P_first_torn : List Str := ["plans", "room"]
theorem sc_first_torn : FnScope N_first_torn P_first_torn (defScope s_first_torn) := ⟨rfl, rfl, rfl, by decide +kernel, rfl, by decide +kernel, by decide +kernel⟩
abbrev s_torn_behind : Stmt := topS 73
abbrev N_torn_behind : List Str := ["plans", "reached", "found", "state", "weaving", "hand", "behind", "seen"]
abbrev P_torn_behind : List Str := ["plans", "reached"]
theorem sc_torn_behind : FnScope N_torn_behind P_torn_behind (defScope s_torn_behind) := ⟨rfl, rfl, rfl, by decide +kernel, rfl, by decide +kernel, by decide +kernel⟩
abbrev s_is_torn : Stmt := topS 74
abbrev N_is_torn : List Str := ["plans", "state", "hand", "seen", "at", "_", "name", "plan", "done", "step"]
abbrev P_is_torn : List Str := ["plans", "state", "hand", "seen"]
theorem sc_is_torn : FnScope N_is_torn P_is_torn (defScope s_is_torn) := ⟨rfl, rfl, rfl, by decide +kernel, rfl, by decide +kernel, by decide +kernel⟩
abbrev s_dice : Stmt := topS 76
abbrev N_dice : List Str := ["_law_script", "_law_k", "_law_found", "_law_cell"]
abbrev P_dice : List Str := ["_law_script", "_law_k"]
theorem sc_dice : FnScope N_dice P_dice (defScope s_dice) := ⟨rfl, rfl, rfl, by decide +kernel, rfl, by decide +kernel, by decide +kernel⟩
abbrev s_off : Stmt := topS 77
abbrev N_off : List Str := ["_law_d", "_law_most", "_law_found"]
abbrev P_off : List Str := ["_law_d", "_law_most"]
theorem sc_off : FnScope N_off P_off (defScope s_off) := ⟨rfl, rfl, rfl, by decide +kernel, rfl, by decide +kernel, by decide +kernel⟩
abbrev s_alike : Stmt := topS 78
abbrev N_alike : List Str := ["_law_found", "_law_due", "_law_k"]
abbrev P_alike : List Str := ["_law_found", "_law_due"]
theorem sc_alike : FnScope N_alike P_alike (defScope s_alike) := ⟨rfl, rfl, rfl, by decide +kernel, rfl, by decide +kernel, by decide +kernel⟩
abbrev s_mixed : Stmt := topS 79
abbrev N_mixed : List Str := ["_law_d", "_law_row", "_law_left", "_law_found"]
abbrev P_mixed : List Str := ["_law_d", "_law_row"]
theorem sc_mixed : FnScope N_mixed P_mixed (defScope s_mixed) := ⟨rfl, rfl, rfl, by decide +kernel, rfl, by decide +kernel, by decide +kernel⟩
abbrev s_is : Stmt := topS 80
abbrev N_is : List Str := ["_law_e", "_law_word", "_law_kinds", "_law_words", "_law_one"]
abbrev P_is : List Str := ["_law_e", "_law_word"]
theorem sc_is : FnScope N_is P_is (defScope s_is) := ⟨rfl, rfl, rfl, by decide +kernel, rfl, by decide +kernel, by decide +kernel⟩
abbrev s_refused : Stmt := topS 81
abbrev N_refused : List Str := ["_law_work", "_law_word", "_law_value", "_law_e"]
abbrev P_refused : List Str := ["_law_work", "_law_word", "_law_value"]
theorem sc_refused : FnScope N_refused P_refused (defScope s_refused) := ⟨rfl, rfl, rfl, by decide +kernel, rfl, by decide +kernel, by decide +kernel⟩
abbrev s_names : Stmt := topS 82
abbrev N_names : List Str := ["_law_d", "_law_turn", "_law_signs", "_law_found"]
abbrev P_names : List Str := ["_law_d"]
theorem sc_names : FnScope N_names P_names (defScope s_names) := ⟨rfl, rfl, rfl, by decide +kernel, rfl, by decide +kernel, by decide +kernel⟩
abbrev s_fields : Stmt := topS 83
abbrev N_fields : List Str := ["_law_d", "_law_most", "_law_names_here", "_law_k"]
abbrev P_fields : List Str := ["_law_d", "_law_most"]
theorem sc_fields : FnScope N_fields P_fields (defScope s_fields) := ⟨rfl, rfl, rfl, by decide +kernel, rfl, by decide +kernel, by decide +kernel⟩
abbrev s_hand : Stmt := topS 84
abbrev N_hand : List Str := ["_law_d", "_law_order"]
abbrev P_hand : List Str := ["_law_d"]
theorem sc_hand : FnScope N_hand P_hand (defScope s_hand) := ⟨rfl, rfl, rfl, by decide +kernel, rfl, by decide +kernel, by decide +kernel⟩
abbrev s_works : Stmt := topS 85
abbrev N_works : List Str := ["_law_fields_here", "_law_one", "_law_other", "_law_works_here"]
abbrev P_works : List Str := ["_law_fields_here", "_law_one", "_law_other"]
theorem sc_works : FnScope N_works P_works (defScope s_works) := ⟨rfl, rfl, rfl, by decide +kernel, rfl, by decide +kernel, by decide +kernel⟩
abbrev s_single : Stmt := topS 86
abbrev N_single : List Str := ["_law_fields_here", "_law_hand_here", "_law_works_here"]
abbrev P_single : List Str := ["_law_fields_here", "_law_hand_here"]
theorem sc_single : FnScope N_single P_single (defScope s_single) := ⟨rfl, rfl, rfl, by decide +kernel, rfl, by decide +kernel, by decide +kernel⟩
abbrev s_bad : Stmt := topS 87
abbrev N_bad : List Str := ["_law_d", "_law_fields_here", "_law_at", "_law_names_here", "_law_some", "_law_sign"]
abbrev P_bad : List Str := ["_law_d", "_law_fields_here"]
theorem sc_bad : FnScope N_bad P_bad (defScope s_bad) := ⟨rfl, rfl, rfl, by decide +kernel, rfl, by decide +kernel, by decide +kernel⟩
abbrev s_odd : Stmt := topS 88
abbrev N_odd : List Str := ["_law_d", "_law_hand_here", "_law_word", "_law_size", "_law_kind", "_law_parts", "_law_odd_here", "_law_k"]
abbrev P_odd : List Str := ["_law_d", "_law_hand_here"]
theorem sc_odd : FnScope N_odd P_odd (defScope s_odd) := ⟨rfl, rfl, rfl, by decide +kernel, rfl, by decide +kernel, by decide +kernel⟩
abbrev s_law : Stmt := topS 89
abbrev N_law : List Str := ["_law_script", "_law_d", "_law_fields_here", "_law_one", "_law_other", "_law_handed", "_law_bad_here", "_law_number", "_law_odd_here", "_law_why", "_law_worse", "_law_worst", "_law_works_here", "_law_work"]
abbrev P_law : List Str := ["_law_script"]
theorem sc_law : FnScope N_law P_law (defScope s_law) := ⟨rfl, rfl, rfl, by decide +kernel, rfl, by decide +kernel, by decide +kernel⟩
end Rw

namespace Rw
open PySem PySem.Spec PyProof.Rows L2 Ub
section
variable {P : Program} {w : World} {K : PySem.W.Frag} {mg : Str → Option Value} {base : Heap} {T : Tb}
theorem _root_.Ub.Dice.shape {D : List Int} (h : Dice D) : ∃ a b r, D = a :: b :: r ∧ 0 ≤ a ∧ a < 2147483647 ∧ 0 ≤ b ∧ (∀ z ∈ r, 0 ≤ z) ∧ r.length ≤ 68 := by
  match D, h with
  | [], h => exact absurd h.len2 (by simp)
  | [_], h => exact absurd h.len2 (by simp)
  | a :: b :: r, h =>
    have h1 := h.a0 a rfl
    have h2 := h.len
    simp at h2
    exact ⟨a, b, r, rfl, h1.1, h1.2, h.nn b (by simp), fun z hz => h.nn z (by simp [hz]), by omega⟩
theorem _root_.Ub.Dice.mk' {a b : Int} {r : List Int} (h1 : 0 ≤ a) (h2 : a < 2147483647) (h3 : 0 ≤ b) (h4 : ∀ z ∈ r, 0 ≤ z) (h5 : r.length ≤ 68) : Dice (a :: b :: r) :=
  ⟨by simp, by simp; omega, fun x e => by cases e; exact ⟨h1, h2⟩, fun z hz => by
    rcases List.mem_cons.mp hz with e | hz
    · omega
    · rcases List.mem_cons.mp hz with e | hz
      · omega
      · exact h4 z hz⟩
theorem map_at {α : Type} {l : List α} {f : α → V} {i : Nat} {x : V} (h : (l.map f)[i]? = some x) : ∃ z, l[i]? = some z ∧ x = f z := by
  rw [List.getElem?_map] at h
  cases e : l[i]? with
  | none => rw [e] at h; cases h
  | some z => rw [e] at h; cases h; exact ⟨z, rfl, rfl⟩
theorem pick_at {xs : List V} {r : Int} (h0 : 0 ≤ r) (h1 : r < (xs.length : Int)) : ∃ v, atI xs r = some v ∧ v ∈ xs := by
  have hl : r.toNat < xs.length := by omega
  exact ⟨xs[r.toNat], at_int h0 (List.getElem?_eq_getElem hl), List.getElem_mem hl⟩
structure Hand where
  order : Str
  align : Int
  wide : Int
  way : Str
structure HandOk (h : Hand) : Prop where
  order : h.order = "great" ∨ h.order = "small"
  align : h.align = 1 ∨ h.align = 2 ∨ h.align = 4
  wide : h.wide = 1 ∨ h.wide = 2 ∨ h.wide = 4
  way : h.way = "up" ∨ h.way = "down"
def Hand.vs (h : Hand) : List V := [.str h.order, .int h.align, .int h.wide, .str h.way]
def HandAt (K : PySem.W.Frag) (B : Hp) (t : Addr) (h : Hand) : Prop := SqT K B t h.vs ∧ HandOk h
theorem HandAt.up {B B' : Hp} {t : Addr} {h : Hand} (k : HandAt K B t h) (e : Ex B B') : HandAt K B' t h := ⟨Evl.ex_t e k.1, k.2⟩
def NameOk (n : Str) : Prop := 1 ≤ n.length ∧ n.length ≤ 6 ∧ ∀ c ∈ n.cps.toList, 97 ≤ c ∧ c ≤ 122
instance (n : Str) : Decidable (NameOk n) := by unfold NameOk; infer_instance
theorem NameOk.strOk {n : Str} (h : NameOk n) : PyData.strOk n = true := by
  unfold PyData.strOk
  rw [Array.all_eq_true]
  intro i hi
  have h2 := h.2.2 n.cps[i] (by simp)
  simp
  omega
def NamesOk (l : List Str) : Prop := l.Nodup ∧ l.length = 7 ∧ ∀ n ∈ l, NameOk n
instance (l : List Str) : Decidable (NamesOk l) := by unfold NamesOk; infer_instance
def abc : Str := "abcdefghijklmnopqrstuvwxyz"
def sgOf (r : Int) : Str := cutS abc (some r) none ++ cutS abc none (some r)
def sgn (z : Str) (i : Nat) : Str := ⟨#[z.cps.toList.getD i 0]⟩
def nmOf (r : Int) : List Str :=
  let z := sgOf r
  [sgn z 0, sgn z 0 ++ sgn z 1, sgn z 1, sgn z 1 ++ sgn z 0, repS (sgn z 2) 6, repS (sgn z 2) 5, cutS z (some 3) (some 9)]
def SgFact (r : Int) : Prop := (sgOf r).length = 26 ∧ (cutS abc (some r) none).length ≤ 26 ∧ (cutS abc none (some r)).length ≤ 26 ∧ NamesOk (nmOf r)
instance (r : Int) : Decidable (SgFact r) := by unfold SgFact; infer_instance
theorem sg_all : ∀ t : Nat, t < 26 → SgFact (t : Int) := by decide +kernel
theorem sgn_at {z : Str} {i : Nat} (h : i < z.length) : atI z.cps.toList (i : Int) = some (z.cps.toList.getD i 0) := by
  refine atI_nat ?_
  have h2 : i < z.cps.toList.length := by
    have e : z.length = z.cps.toList.length := by simp [Str.length]
    omega
  rw [List.getD_eq_getElem?_getD, List.getElem?_eq_getElem h2]
  rfl
def unS : V → Str
  | .str x => x
  | _ => ""
theorem perm_strs {ys : List V} {l : List Str} (h : ys.Perm (l.map V.str)) : ∃ l' : List Str, ys = l'.map V.str ∧ l'.Perm l := by
  refine ⟨ys.map unS, ?_, ?_⟩
  · rw [List.map_map]
    refine (List.map_id ys).symm.trans (List.map_congr_left fun y hy => ?_)
    obtain ⟨x, _, rfl⟩ := List.mem_map.mp (h.mem_iff.mp hy)
    rfl
  · have h2 := h.map unS
    rw [List.map_map] at h2
    have e : List.map (unS ∘ V.str) l = l := (List.map_congr_left fun x _ => rfl).trans (List.map_id l)
    rw [e] at h2
    exact h2
theorem NamesOk.perm {l l' : List Str} (h : NamesOk l) (p : l'.Perm l) : NamesOk l' := ⟨p.nodup_iff.mpr h.1, p.length_eq.trans h.2.1, fun n hn => h.2.2 n (p.mem_iff.mp hn)⟩
abbrev Fld := Str × Int
def SizeOk (n : Int) : Prop := n = 1 ∨ n = 2 ∨ n = 4
structure FieldsOk (fs : List Fld) : Prop where
  pos : 1 ≤ fs.length
  most : fs.length ≤ 6
  nd : (fs.map (·.1)).Nodup
  name : ∀ f ∈ fs, NameOk f.1
  size : ∀ f ∈ fs, SizeOk f.2
def FldAt (K : PySem.W.Frag) (B : Hp) (t : Addr) (f : Fld) : Prop := SqT K B t [.str f.1, .int f.2]
def FieldsAt (K : PySem.W.Frag) (B : Hp) (a : Addr) (fs : List Fld) : Prop := ∃ ts : List Addr, SqL K B a (ts.map V.ref) ∧ ts.length = fs.length ∧ ∀ (i : Nat) (t : Addr) (f : Fld), ts[i]? = some t → fs[i]? = some f → FldAt K B t f
theorem FieldsAt.up {B B' : Hp} {a : Addr} {fs : List Fld} (k : FieldsAt K B a fs) (e : Ex B B') : FieldsAt K B' a fs := by
  obtain ⟨ts, h1, h2, h3⟩ := k
  exact ⟨ts, Evl.ex_l e h1, h2, fun i t f a b => Evl.ex_t e (h3 i t f a b)⟩
theorem mem3 {v : V} (h : v ∈ [V.int 1, .int 2, .int 4]) : ∃ n : Int, v = .int n ∧ SizeOk n := by
  simp only [List.mem_cons, List.not_mem_nil, or_false] at h
  rcases h with rfl | rfl | rfl
  · exact ⟨1, rfl, .inl rfl⟩
  · exact ⟨2, rfl, .inr (.inl rfl)⟩
  · exact ⟨4, rfl, .inr (.inr rfl)⟩
def upTo (x s : Int) : Int := (x + s - 1) / s * s
def stp (al sz : Int) : Int := if sz < al then sz else al
def layStep (al : Int) (s : Int × Int × List Int) (x : Fld × Int) : Int × Int × List Int :=
  (upTo (s.1 + x.2) (stp al x.1.2) + x.1.2, if stp al x.1.2 > s.2.1 then stp al x.1.2 else s.2.1, s.2.2 ++ [upTo (s.1 + x.2) (stp al x.1.2)])
def layAll (al : Int) (l : List (Fld × Int)) : Int × Int × List Int := l.foldl (layStep al) (0, 1, [])
def placed (al : Int) (fs : List Fld) (gs : List Int) : List Int × Int := ((layAll al (fs.zip gs)).2.2, upTo (layAll al (fs.zip gs)).1 (layAll al (fs.zip gs)).2.1)
theorem stp_ok {al sz : Int} (h1 : SizeOk al) (h2 : SizeOk sz) : SizeOk (stp al sz) := by
  unfold stp
  split
  · exact h2
  · exact h1
theorem layAll_snoc {al : Int} {l : List (Fld × Int)} {x : Fld × Int} : layAll al (l ++ [x]) = layStep al (layAll al l) x := by
  unfold layAll
  rw [List.foldl_append]
  rfl
theorem great_ok {al : Int} (h : SizeOk al) : ∀ {l : List (Fld × Int)} {s : Int × Int × List Int}, SizeOk s.2.1 → (∀ x ∈ l, SizeOk x.1.2) → SizeOk (l.foldl (layStep al) s).2.1
  | [], s, hs, _ => hs
  | x :: l, s, hs, hl => by
    refine great_ok h (l := l) ?_ fun y hy => hl y (List.mem_cons_of_mem _ hy)
    show SizeOk (if stp al x.1.2 > s.2.1 then stp al x.1.2 else s.2.1)
    split
    · exact stp_ok h (hl x List.mem_cons_self)
    · exact hs
theorem upTo_ge {x s : Int} (h : SizeOk s) : x ≤ upTo x s ∧ upTo x s % s = 0 ∧ upTo x s < x + s := by
  unfold upTo
  rcases h with rfl | rfl | rfl <;> omega
theorem upTo_eq {x s y : Int} (h : SizeOk s) (h1 : x ≤ y) (h2 : y ≤ upTo x s) (h3 : y % s = 0) : y = upTo x s := by
  unfold upTo at *
  rcases h with rfl | rfl | rfl <;> omega
theorem upTo_lt {x s y : Int} (h : SizeOk s) (h1 : x ≤ y) (h2 : y ≤ upTo x s) (h3 : y % s ≠ 0) : y + 1 ≤ upTo x s := by
  unfold upTo at *
  rcases h with rfl | rfl | rfl <;> omega
theorem SizeOk.pos {s : Int} (h : SizeOk s) : 0 < s := by
  rcases h with rfl | rfl | rfl <;> decide
theorem HandOk.al {h : Hand} (k : HandOk h) : SizeOk h.align := k.align
/-! ### how many items a list in some data has at most -/
mutual
def wid : PyData → Nat
  | .list xs => max xs.length (widAll xs)
  | .tuple xs => max xs.length (widAll xs)
  | .none => 0
  | .bool _ => 0
  | .int _ => 0
  | .str _ => 0
  | .dict _ => 0
def widAll : List PyData → Nat
  | [] => 0
  | x :: xs => max (wid x) (widAll xs)
end
theorem wid_mem : ∀ {ds : List PyData} {d : PyData}, d ∈ ds → wid d ≤ widAll ds
  | [], _, h => by simp at h
  | x :: ds, d, h => by
    simp only [widAll]
    rcases List.mem_cons.mp h with rfl | h
    · exact Nat.le_max_left _ _
    · exact Nat.le_trans (wid_mem h) (Nat.le_max_right _ _)
theorem SqL.ty {H : Hp} {a : Addr} {xs : List V} (h : SqL K H a xs) : TyX K H (.ref a) (.type "list") := by
  rcases h with (h | ⟨o, h⟩) | ⟨o, its, n, h1, h2, _⟩
  · exact .base (.lst h)
  · exact .base (.frz h)
  · exact .kList h1 h2
theorem SqT.ty {H : Hp} {a : Addr} {xs : List V} (h : SqT K H a xs) : TyX K H (.ref a) (.type "tuple") := by
  rcases h with (h | ⟨o, h⟩) | ⟨o, its, n, h1, h2, _⟩
  · exact .base (.tup h)
  · exact .fTuple h
  · exact .kTuple h1 h2
theorem isi {σ : L2.St} {H : Hp} {Q : VK} {i : Nat} {x : V} {t U : String} {b : Bool} (hσ : σ[i]? = some (some x)) (ht : TyX K H x (.type t)) (hb : kitB t U = some b) (q : Q (.bl b) H) :
    tCB (rIsi K) (tCons (tVar i) (tCons (tC (.ty U)) tNil)) σ H Q := ⟨x, hσ, x, .ty U, .type t, .type U, b, rfl, .ty U, ht, kit_ty hb, q⟩
theorem DpAll.len {H : Hp} : ∀ {ds : List PyData} {xs : List V}, DpAll K H xs ds → xs.length = ds.length
  | _, _, .nil => rfl
  | _, _, .cons _ t => by simp [DpAll.len t]
theorem DpAll.get {H : Hp} : ∀ {ds : List PyData} {xs : List V} {i : Nat} {d : PyData}, DpAll K H xs ds → ds[i]? = some d → ∃ x, xs[i]? = some x ∧ Dp K H x d
  | _, _, _, _, .nil, e => by simp at e
  | _, _, 0, _, .cons h _, e => by cases e; exact ⟨_, rfl, h⟩
  | _, _, i + 1, _, .cons _ t, e => by
    obtain ⟨x, h1, h2⟩ := DpAll.get (i := i) t (by simpa using e)
    exact ⟨x, by simpa using h1, h2⟩
theorem depth_mem : ∀ {ds : List PyData} {n : Nat} {d : PyData}, PyData.depthAll ds ≤ n → PyData.canLayAll0 ds = true → d ∈ ds → d.depth ≤ n ∧ d.canLay0 = true
  | [], _, _, _, _, h => by simp at h
  | x :: ds, n, d, h1, h2, h => by
    simp only [PyData.depthAll] at h1
    simp only [PyData.canLayAll0, Bool.and_eq_true] at h2
    rcases List.mem_cons.mp h with rfl | h
    · exact ⟨Nat.le_trans (Nat.le_max_left _ _) h1, h2.1⟩
    · exact depth_mem (Nat.le_trans (Nat.le_max_right _ _) h1) h2.2 h
end
end Rw

namespace Rw
open PySem PySem.Spec PyProof.Rows L2 Ub
section
variable {P : Program} {w : World} {K : PySem.W.Frag} {mg : Str → Option Value} {base : Heap} {T : Tb}
/-! ### the dice: a list of whole numbers that turns -/
def spOff (T : Tb) : Sp := fun vs H Q _ => ∃ (d : Addr) (m : Int) (D : List Int) (B : Hp), vs = [.ref d, .int m] ∧ Ok T B H ∧ B d = none ∧ H d = some (.lst (D.map V.int)) ∧ Dice D ∧ 1 ≤ m ∧ m < 1000000 ∧
  ∀ (r : Int) (D' : List Int) (H' : Hp), 0 ≤ r → r < m → Dice D' → Ok T B H' → H' d = some (.lst (D'.map V.int)) → Q (.int r) H'
theorem k_off_ (D : Df K mg "_law_off" s_off P_off) (bl : Bl mg) : Kp P w K mg base CX0 1 "_law_off" P_off (spOff T) := by
  refine D.ok sc_off (fun vs H Q E h => ?_) (fun f cdv A outer s H vs Q E hr h => ?_)
  · obtain ⟨_, _, _, _, rfl, _⟩ := h
    rfl
  · obtain ⟨d, m, D, B, rfl, o0, nd, hd, hD, m1, m2, q⟩ := h
    obtain ⟨a, b, r, rfl, a0, a1, b0, r0, rl⟩ := hD.shape
    refine ⟨_, (Evl.pss_cut (ps_if (PW.pt (pw_and (pt_cmpR op_eq (pe_ix ix_list (pv 0) pe_int (fun _ _ => rfl)) pe_int (nomark _)) (pw_and1 (pt_cmpR op_gt (pe_callB call_len_seq (by rfl) bl.len PySem.boot_len (pa_cons (pv 0) pa_nil)) pe_int (nomark _)))))
      (pss_one (ps_asg (pe_bm PySem.F.plainAttrs_list PySem.F.slot_list_pop PySem.F.type_list_pop mt_popAt (pv 0) (pa_cons pe_int pa_nil)) (pg_sub (pv 0) pe_int set_list)))
      pss_nil)
    (pss_cons (ps_if (pt_cmpR op_gt (pe_ix ix_list (pv 0) pe_int (fun _ _ => rfl)) pe_int (nomark _))
      (pss_cons (ps_set (i := 2) sc_off.nd rfl (by first | exact Or.inl rfl | exact Or.inr rfl) (pe_op op_mod (pe_ix ix_list (pv 0) pe_int (fun _ _ => rfl)) (pv 1)))
      (pss_cons (ps_asg (pe_op op_fdiv (pe_ix ix_list (pv 0) pe_int (fun _ _ => rfl)) (pv 1)) (pg_sub (pv 0) pe_int set_list))
      (pss_one (ps_ret (pv 2)))))
      pss_nil)
    (pss_cons (ps_asg (pe_op op_mod (pe_op op_add (pe_op op_mul (pe_ix ix_list (pv 0) pe_int (fun _ _ => rfl)) pe_int) pe_int) pe_int) (pg_sub (pv 0) pe_int set_list))
    (pss_one (ps_ret (pe_op op_mod (pe_op op_fdiv (pe_ix ix_list (pv 0) pe_int (fun _ _ => rfl)) pe_int) (pv 1))))))), ?_⟩
    refine ⟨fun σ H1 => ∃ (b : Int) (r : List Int), σ = start N_off [.ref d, .int m] ∧ 0 ≤ b ∧ (∀ z ∈ r, 0 ≤ z) ∧ r.length ≤ 68 ∧ Ok T B H1 ∧ H1 d = some (.lst ((a :: b :: r).map V.int)), ?_, fun σ H1 hM => ?_⟩
    · have hl : SqL K H d ((a :: b :: r).map V.int) := SqL.of hd
      refine ⟨_, rfl, _, _, _, _, rfl, rfl, hl, atI_nat (j := 1) rfl, rfl, _, rfl, ite2 (fun _ => ⟨_, rfl, _, _, rfl, .inl hl, _, _, rfl, rfl, _, rfl, ite2 (fun e => ?_) (fun _ => ⟨b, r, rfl, b0, r0, rl, o0, hd⟩)⟩) (fun _ => ⟨b, r, rfl, b0, r0, rl, o0, hd⟩)⟩
      have e2 : 0 < r.length := by
        have e1 := of_decide_eq_true e
        simp at e1
        omega
      obtain ⟨c, r', rfl⟩ : ∃ c r', r = c :: r' := by
        cases r with
        | nil => simp at e2
        | cons c r' => exact ⟨c, r', rfl⟩
      refine ⟨_, rfl, .inl ⟨rfl, _, hl⟩, d, _, 2, 2, .int c, rfl, rfl, hd, by decide, by decide, seqIx_nat (j := 2) (by simp), rfl, ?_⟩
      refine ⟨_, rfl, d, (a :: b :: r').map V.int, 1, 1, rfl, rfl, by rw [upd_same]; rfl, ixN_nat (j := 1) (by simp), ?_⟩
      rw [upd_upd]
      exact ⟨c, r', rfl, r0 c (by simp), fun z hz => r0 z (by simp [hz]), by simp at rl; omega, o0.mutL nd hd, upd_same⟩
    · obtain ⟨b, r, rfl, b0, r0, rl, o1, h1⟩ := hM
      have hl : SqL K H1 d ((a :: b :: r).map V.int) := SqL.of h1
      refine ⟨_, rfl, _, _, _, _, rfl, rfl, hl, atI_nat (j := 1) rfl, _, _, rfl, rfl, _, rfl, ite2 (fun e => ?_) (fun _ => ?_)⟩
      · have e1 : 0 < b := of_decide_eq_true e
        refine ⟨_, rfl, _, _, _, _, rfl, rfl, hl, atI_nat (j := 1) rfl, _, rfl, _, _, rfl, rfl, by show 0 < m; omega, ?_⟩
        refine ⟨_, rfl, _, _, _, _, rfl, rfl, hl, atI_nat (j := 1) rfl, _, rfl, _, _, rfl, rfl, ⟨by omega, by omega⟩, ?_⟩
        refine ⟨_, rfl, d, _, 1, 1, rfl, rfl, h1, ixN_nat (j := 1) (by simp), ?_⟩
        refine ⟨_, rfl, ?_⟩
        exact q _ (a :: (b / m) :: r) _ (Int.emod_nonneg _ (by omega)) (Int.emod_lt_of_pos _ (by omega)) (.mk' a0 a1 (Int.ediv_nonneg b0 (by omega)) r0 rl) (o1.mutL nd h1) upd_same
      · refine ⟨_, rfl, _, _, _, _, rfl, rfl, hl, atI_nat (j := 0) rfl, _, _, rfl, rfl, .inr ⟨by decide, by decide⟩, _, _, rfl, rfl, _, _, rfl, rfl, by show (0 : Int) < 2147483647; decide, ?_⟩
        refine ⟨_, rfl, d, _, 0, 0, rfl, rfl, h1, ixN_nat (j := 0) (by simp), ?_⟩
        refine ⟨_, rfl, _, _, _, _, rfl, rfl, SqL.of upd_same, atI_nat (j := 0) rfl, _, _, rfl, rfl, ⟨by decide, by decide⟩, _, rfl, _, _, rfl, rfl, by show 0 < m; omega, ?_⟩
        exact q _ (((a * 48271 + 11) % 2147483647) :: b :: r) _ (Int.emod_nonneg _ (by omega)) (Int.emod_lt_of_pos _ (by omega)) (.mk' (Int.emod_nonneg _ (by decide)) (Int.emod_lt_of_pos _ (by decide)) b0 r0 rl) (o1.mutL nd h1) upd_same
end
end Rw

namespace Rw
open PySem PySem.Spec PyProof.Rows L2 Ub
section
variable {P : Program} {w : World} {K : PySem.W.Frag} {mg : Str → Option Value} {base : Heap} {T : Tb}
def spDice (T : Tb) (K : PySem.W.Frag) : Sp := fun vs H Q _ => ∃ (a : Addr) (ns : List Int) (B : Hp), vs = [.ref a, .int 0] ∧ Ok T B H ∧ SqL K B a (ns.map V.int) ∧ ns.length ≤ 63 ∧
  ∀ (d : Addr) (D : List Int) (H' : Hp), B d = none → Dice D → Ok T B H' → H' d = some (.lst (D.map V.int)) → Q (.ref d) H'
theorem k_dice_ (D : Df K mg "_law_dice" s_dice P_dice) (bl : Bl mg) : Kp P w K mg base CX0 1 "_law_dice" P_dice (spDice T K) := by
  refine D.ok sc_dice (fun vs H Q E h => ?_) (fun f cdv A outer s H vs Q E hr h => ?_)
  · obtain ⟨_, _, _, rfl, _⟩ := h
    rfl
  · obtain ⟨a, ns, B, rfl, o0, hS, hl, q⟩ := h
    have hSH := o0.sl hS
    refine ⟨_, (pss_cons (ps_set (i := 2) sc_dice.nd rfl (by first | exact Or.inl rfl | exact Or.inr rfl) (pv 1))
    (pss_cons (ps_for PassesOwn.never rfl (pi_list (pv 0)) (pg_name (i := 3) sc_dice.nd rfl (by first | exact Or.inl rfl | exact Or.inr rfl))
      (pss_one (ps_set (i := 2) sc_dice.nd rfl (by first | exact Or.inl rfl | exact Or.inr rfl) (pe_op op_mod (pe_op op_add (pe_op op_mul (pv 2) pe_int) (pe_callB call_abs (by rfl) bl.abs (by decide +kernel) (pa_cons (pv 3) pa_nil))) pe_int))))
    (pss_one (ps_ret (pe_op op_cat (pe_lst (pa_cons (pv 2) (pa_cons pe_int pa_nil))) (pe_lc (own := [("_law_cell", 3)]) (g := gName 3) (by rfl) sc_dice.nd (pi_list (pv 0)) (blkOk_by (own := [("_law_cell", 3)]) (N := N_dice) (sc := defScope s_dice) (by decide +kernel)) (fun _ _ _ _ _ => (pg_name (i := 3) sc_dice.nd rfl (by first | exact Or.inl rfl | exact Or.inr rfl))) (fun _ _ _ _ _ => (pts_one (pt_cmpR op_ge (pv 3) (pe_op op_pow pe_int pe_int) (nomark _)))) (fun _ _ _ _ _ => (pv 3)))))))), ?_⟩
    refine ⟨_, rfl, _, rfl, a, rfl, ⟨_, hSH⟩, for_list (K := K) (a := a) (xs := ns.map V.int) (fun i σ H' => ∃ (f : Int) (y : Option V), σ = [some (.ref a), some (.int 0), some (.int f), y] ∧ 0 ≤ f ∧ f < 2147483647 ∧ H = H')
      ⟨0, none, rfl, by decide, by decide, rfl⟩ (fun i σ H' _ h => ?_) (fun i x σ H' hx h => ?_) (fun σ H' h => ?_)⟩
    · obtain ⟨_, _, _, _, _, rfl⟩ := h
      exact hSH
    · obtain ⟨f, y, rfl, f0, f1, rfl⟩ := h
      obtain ⟨z, hz, rfl⟩ := map_at hx
      refine ⟨_, rfl, _, _, rfl, rfl, .inl ⟨by omega, by omega⟩, _, rfl, _, rfl, _, _, rfl, rfl, _, _, rfl, rfl, by show (0 : Int) < 2147483647; decide, ?_⟩
      exact ⟨_, _, rfl, Int.emod_nonneg _ (by decide), Int.emod_lt_of_pos _ (by decide), rfl⟩
    · obtain ⟨f, y, rfl, f0, f1, rfl⟩ := h
      refine ⟨_, rfl, by show 2 ≤ sizeLine; decide, fun p np => ?_⟩
      have o1 := o0.newM np (o := .lst [.int f, .int 0])
      refine ⟨_, rfl, a, rfl, ⟨_, o1.sl hS⟩, fun D nD => ?_⟩
      refine lc_list (K := K) (a := a) (xs := ns.map V.int) (fun i H' => ∃ zs : List Int, Ok T B H' ∧ H' p = some (.lst [.int f, .int 0]) ∧ H' D = some (.lst (zs.map V.int)) ∧ (∀ z ∈ zs, 0 ≤ z) ∧ zs.length ≤ i) ?_ (fun i H' _ h => ?_) (fun i x H' hx h => ?_) (fun H' h => ?_)
      · refine ⟨[], o1.newM nD, ?_, upd_same, by simp, by simp⟩
        rw [upd_ne (ne_of_none upd_same nD)]
        exact upd_same
      · obtain ⟨_, o2, _⟩ := h
        exact o2.sl hS
      · obtain ⟨zs, o2, h1, h2, h3, h4⟩ := h
        obtain ⟨z, hz, rfl⟩ := map_at hx
        have hi : i < ns.length := (List.getElem?_eq_some_iff.mp hz).1
        refine ⟨rfl, _, rfl, _, _, rfl, rfl, ⟨by decide, by decide, by decide⟩, _, _, rfl, rfl, _, rfl, ite2 (fun e => ?_) (fun _ => ⟨zs, o2, h1, h2, h3, by omega⟩)⟩
        have e1 : (10 : Int) ^ 18 ≤ z := of_decide_eq_true e
        have hpD : p ≠ D := ne_of_none upd_same nD
        refine ⟨_, rfl, _, h2, by rw [List.length_map]; exact Nat.lt_of_le_of_lt (show zs.length ≤ 63 by omega) (by decide), zs ++ [z], o2.mutL (Evl.fresh_back o1.ex nD) h2, by rw [upd_ne hpD]; exact h1, by rw [upd_same, List.map_append]; rfl, fun x hx => ?_, by simp; omega⟩
        rcases List.mem_append.mp hx with hx | hx
        · exact h3 x hx
        · have ex : x = z := by simpa using hx
          have : (0 : Int) ≤ 10 ^ 18 := by decide
          omega
      · obtain ⟨zs, o2, h1, h2, h3, h4⟩ := h
        rw [List.length_map] at h4
        refine ⟨p, D, _, _, rfl, rfl, h1, h2, by rw [List.length_map]; exact Nat.le_trans (show _ ≤ 65 by simp; omega) (by decide), fun e ne => ?_⟩
        refine q e (f :: 0 :: zs) _ (o2.fresh ne) (.mk' f0 f1 (by decide) h3 (by omega)) (o2.newM ne) ?_
        rw [upd_same]
        rfl
end
end Rw

namespace Rw
open PySem PySem.Spec PyProof.Rows L2 Ub
section
variable {P : Program} {w : World} {K : PySem.W.Frag} {mg : Str → Option Value} {base : Heap} {T : Tb}
/-- [a, b, ..][_law_off(d, n)] -/
theorem pick_off {σ : L2.St} {B H : Hp} {Q : VK} {ta : TA} {xs : List V} {i : Nat} {n : Int} {d : Addr} {D : List Int} {E : XK} (o : Ok T B H) (nd : B d = none) (hd : H d = some (.lst (D.map V.int))) (hD : Dice D)
    (hσ : σ[i]? = some (some (.ref d))) (hta : ∀ (H : Hp) (Q : List V → Hp → Prop), Q xs H → ta σ H Q) (hn : (xs.length : Int) = n) (n1 : 1 ≤ n) (n2 : n < 1000)
    (k : ∀ (v : V) (D' : List Int) (H' : Hp), v ∈ xs → Dice D' → Ok T B H' → H' d = some (.lst (D'.map V.int)) → Q v H') :
    tOp (rIxL K) (tLst ta) (tCall (spOff T) [] E (tCons (tVar i) (tCons (tC (.int n)) tNil))) σ H Q := by
  refine hta H _ ⟨Nat.le_trans (show xs.length ≤ 1000 by omega) (by decide), fun p np => ?_⟩
  have nB := o.fresh np
  have dp : d ≠ p := ne_of_none hd np
  refine ⟨_, hσ, d, n, D, upd B p (.lst xs), rfl, o.new np nt_lst, upd_no nd dp, (upd_ne dp).trans hd, hD, n1, by omega, fun r D' H' r0 r1 hD' o' hd' => ?_⟩
  obtain ⟨v, hv, hm⟩ := pick_at (xs := xs) r0 (by omega)
  exact ⟨p, xs, r, v, rfl, rfl, o'.sl (SqL.of upd_same), hv, k v D' H' hm hD' (o'.back (upd_up nB)) hd'⟩
/-! ### a hand -/
def spHand (T : Tb) (K : PySem.W.Frag) : Sp := fun vs H Q _ => ∃ (d : Addr) (D : List Int) (B : Hp), vs = [.ref d] ∧ Ok T B H ∧ B d = none ∧ H d = some (.lst (D.map V.int)) ∧ Dice D ∧
  ∀ (t : Addr) (h : Hand) (D' : List Int) (B' H' : Hp), Ex B B' → Ok T B' H' → B' d = none → H' d = some (.lst (D'.map V.int)) → Dice D' → HandAt K B' t h → Q (.ref t) H'
theorem k_hand_ (D : Df K mg "_law_hand" s_hand P_hand) (bl : Bl mg) (k_off : Kp P w K mg base CX0 1 "_law_off" P_off (spOff T)) : Kp P w K mg base CX0 2 "_law_hand" P_hand (spHand T K) := by
  refine D.ok sc_hand (fun vs H Q E h => ?_) (fun f cdv A outer s H vs Q E hr h => ?_)
  · obtain ⟨_, _, _, rfl, _⟩ := h
    rfl
  · obtain ⟨d, D, B, rfl, o0, nd, hd, hD, q⟩ := h
    refine ⟨_, (pss_cons (ps_set (i := 1) sc_hand.nd rfl (by first | exact Or.inl rfl | exact Or.inr rfl) (pe_ix ix_list (pe_lst (pa_cons pe_str (pa_cons pe_str pa_nil))) (pe_callA k_off (hr.mono (by decide)) pass0 (pa_cons (pv 0) (pa_cons pe_int pa_nil))) (fun _ _ => rfl)))
    (pss_one (ps_ret (pe_tup (pa_cons (pv 1) (pa_cons (pe_ix ix_list (pe_lst (pa_cons pe_int (pa_cons pe_int (pa_cons pe_int pa_nil)))) (pe_callA k_off (hr.mono (by decide)) pass0 (pa_cons (pv 0) (pa_cons pe_int pa_nil))) (fun _ _ => rfl)) (pa_cons (pe_ix ix_list (pe_lst (pa_cons pe_int (pa_cons pe_int (pa_cons pe_int pa_nil)))) (pe_callA k_off (hr.mono (by decide)) pass0 (pa_cons (pv 0) (pa_cons pe_int pa_nil))) (fun _ _ => rfl)) (pa_cons (pe_ix ix_list (pe_lst (pa_cons pe_str (pa_cons pe_str pa_nil))) (pe_callA k_off (hr.mono (by decide)) pass0 (pa_cons (pv 0) (pa_cons pe_int pa_nil))) (fun _ _ => rfl)) pa_nil)))))))), ?_⟩
    refine pick_off (xs := [.str "great", .str "small"]) o0 nd hd hD rfl (fun _ _ h => h) rfl (by decide) (by decide) fun v D1 H1 v1 hD1 o1 hd1 => ?_
    refine ⟨_, rfl, ?_⟩
    refine pick_off (xs := [.int 1, .int 2, .int 4]) o1 nd hd1 hD1 rfl (fun _ _ h => h) rfl (by decide) (by decide) fun v2 D2 H2 m2 hD2 o2 hd2 => ?_
    refine pick_off (xs := [.int 1, .int 2, .int 4]) o2 nd hd2 hD2 rfl (fun _ _ h => h) rfl (by decide) (by decide) fun v3 D3 H3 m3 hD3 o3 hd3 => ?_
    refine pick_off (xs := [.str "up", .str "down"]) o3 nd hd3 hD3 rfl (fun _ _ h => h) rfl (by decide) (by decide) fun v4 D4 H4 m4 hD4 o4 hd4 => ?_
    refine ⟨by show 4 ≤ sizeLine; decide, fun t nt => ?_⟩
    have i3 : ∀ {v : V}, v ∈ [V.int 1, .int 2, .int 4] → ∃ n : Int, v = .int n ∧ (n = 1 ∨ n = 2 ∨ n = 4) := fun {v} h => by
      simp only [List.mem_cons, List.not_mem_nil, or_false] at h
      rcases h with rfl | rfl | rfl
      · exact ⟨1, rfl, .inl rfl⟩
      · exact ⟨2, rfl, .inr (.inl rfl)⟩
      · exact ⟨4, rfl, .inr (.inr rfl)⟩
    have i2 : ∀ {v : V} {x y : Str}, v ∈ [V.str x, .str y] → ∃ n : Str, v = .str n ∧ (n = x ∨ n = y) := fun {v x y} h => by
      simp only [List.mem_cons, List.not_mem_nil, or_false] at h
      rcases h with rfl | rfl
      · exact ⟨x, rfl, .inl rfl⟩
      · exact ⟨y, rfl, .inr rfl⟩
    obtain ⟨od, rfl, c1⟩ := i2 v1
    obtain ⟨al, rfl, c2⟩ := i3 m2
    obtain ⟨wd, rfl, c3⟩ := i3 m3
    obtain ⟨wy, rfl, c4⟩ := i2 m4
    have dt : d ≠ t := ne_of_none hd4 nt
    exact q t ⟨od, al, wd, wy⟩ D4 _ _ (o4.up nt) (o4.new nt nt_tup) (upd_no nd dt) ((upd_ne dt).trans hd4) hD4 ⟨SqT.of upd_same, ⟨c1, c2, c3, c4⟩⟩
end
end Rw

namespace Rw
open PySem PySem.Spec PyProof.Rows L2 Ub
section
variable {P : Program} {w : World} {K : PySem.W.Frag} {mg : Str → Option Value} {base : Heap} {T : Tb}
def spMixed (T : Tb) (K : PySem.W.Frag) : Sp := fun vs H Q _ => ∃ (d a : Addr) (xs : List V) (D : List Int) (B : Hp), vs = [.ref d, .ref a] ∧ Ok T B H ∧ B d = none ∧ H d = some (.lst (D.map V.int)) ∧ Dice D ∧ SqL K B a xs ∧ xs.length ≤ 100 ∧ (∀ v ∈ xs, ∃ d, scD v = some d) ∧
  ∀ (f : Addr) (ys : List V) (D' : List Int) (H' : Hp), B f = none → ys.Perm xs → Ok T B H' → f ≠ d → H' f = some (.lst ys) → H' d = some (.lst (D'.map V.int)) → Dice D' → Q (.ref f) H'
theorem k_mixed_ (D : Df K mg "_law_mixed" s_mixed P_mixed) (bl : Bl mg) (k_off : Kp P w K mg base CX0 1 "_law_off" P_off (spOff T)) : Kp P w K mg base CX0 2 "_law_mixed" P_mixed (spMixed T K) := by
  refine D.ok sc_mixed (fun vs H Q E h => ?_) (fun f cdv A outer s H vs Q E hr h => ?_)
  · obtain ⟨_, _, _, _, _, rfl, _⟩ := h
    rfl
  · obtain ⟨d, a, xs, D, B, rfl, o0, nd, hd, hD, hS, hxl, hxs, q⟩ := h
    refine ⟨_, (pss_cons (ps_set (i := 2) sc_mixed.nd rfl (by first | exact Or.inl rfl | exact Or.inr rfl) (pe_callTy call_list_of (by rfl) bl.list (by decide +kernel) (pa_cons (pv 1) pa_nil)))
    (pss_cons (ps_set (i := 3) sc_mixed.nd rfl (by first | exact Or.inl rfl | exact Or.inr rfl) (pe_lst pa_nil))
    (pss_cons (ps_while PassesOwn.never (pt_cmpR (op_neD hr.units) (pv 2) (pe_lst pa_nil) (nomark _))
      (pss_one (ps_expr (pe_bm PySem.F.plainAttrs_list PySem.F.slot_list_append PySem.F.type_list_append mt_append (pv 3) (pa_cons (pe_bm PySem.F.plainAttrs_list PySem.F.slot_list_pop PySem.F.type_list_pop mt_popAt (pv 2) (pa_cons (pe_callA k_off (hr.mono (by decide)) pass0 (pa_cons (pv 0) (pa_cons (pe_callB call_len_seq (by rfl) bl.len PySem.boot_len (pa_cons (pv 2) pa_nil)) pa_nil))) pa_nil)) pa_nil)))))
    (pss_one (ps_ret (pv 3)))))), ?_⟩
    refine ⟨_, rfl, a, xs, rfl, .inl (o0.sl hS), fun l nl => ?_⟩
    have o1 := o0.newM nl (o := .lst xs)
    refine ⟨Nat.zero_le _, fun f nf => ?_⟩
    have o2 := o1.newM nf (o := .lst [])
    have nBl := o0.fresh nl
    have nBf := o1.fresh nf
    have lf : l ≠ f := ne_of_none upd_same nf
    have dl : d ≠ l := ne_of_none hd nl
    have df : d ≠ f := ne_of_none ((upd_ne dl).trans hd) nf
    refine ⟨fun m σ H => ∃ (ls fs : List V) (D : List Int), σ = [some (.ref d), some (.ref a), some (.ref l), some (.ref f)] ∧ ls.length = m ∧ (fs ++ ls).Perm xs ∧ Ok T B H ∧ H l = some (.lst ls) ∧ H f = some (.lst fs) ∧ H d = some (.lst (D.map V.int)) ∧ Dice D,
      ⟨_, xs, [], D, rfl, rfl, by simp, o2, (upd_ne lf).trans upd_same, upd_same, (upd_ne df).trans ((upd_ne dl).trans hd), hD⟩, fun m σ H hW => ?_⟩
    obtain ⟨ls, fs, D, rfl, hm, hp, o, hl, hf, hd, hD⟩ := hW
    have hsc : ∀ v ∈ ls, ∃ d, scD v = some d := fun v hv => hxs v (hp.mem_iff.mp (List.mem_append.mpr (.inr hv)))
    refine ⟨_, rfl, Nat.zero_le _, fun p np => ?_⟩
    have o3 := o.newM np (o := .lst [])
    have lp : l ≠ p := ne_of_none hl np
    have fp : f ≠ p := ne_of_none hf np
    have dp : d ≠ p := ne_of_none hd np
    have hl3 : upd H p (.lst []) l = some (.lst ls) := (upd_ne lp).trans hl
    obtain ⟨ds, k1, k2, k3⟩ := scD_all (K := K) (H := upd H p (.lst [])) hsc
    refine ⟨.list ds, .list [], .lst (SqL.of hl3) k1, .lst (SqL.of upd_same) .nil, (Sh.list k2).shaped (by decide), (Sh.list (n := 0) (by simp)).shaped (by decide), _, rfl, ?_⟩
    cases ls with
    | nil =>
      have e0 : ds = [] := List.length_eq_zero_iff.mp k3
      subst e0
      rw [show (!PyData.eqv (.list []) (.list [])) = false by simp [PyData.eqv, PyData.eqvAll]]
      refine iteF ⟨_, rfl, ?_⟩
      exact q f fs D _ nBf (by simpa using hp) o3 df.symm ((upd_ne fp).trans hf) ((upd_ne dp).trans hd) hD
    | cons v ls =>
      obtain ⟨d0, ds', rfl⟩ : ∃ d0 ds', ds = d0 :: ds' := by
        cases ds with
        | nil => simp at k3
        | cons a b => exact ⟨a, b, rfl⟩
      rw [show (!PyData.eqv (.list (d0 :: ds')) (.list [])) = true by simp [PyData.eqv, PyData.eqvAll]]
      refine iteT ⟨fun σ' H' => ∃ (ls' fs' : List V) (D' : List Int), σ' = [some (.ref d), some (.ref a), some (.ref l), some (.ref f)] ∧ ls'.length = ls.length ∧ (fs' ++ ls').Perm xs ∧ Ok T B H' ∧ H' l = some (.lst ls') ∧ H' f = some (.lst fs') ∧ H' d = some (.lst (D'.map V.int)) ∧ Dice D',
        fun σ' H' ⟨ls', fs', D', e1, e2, e3⟩ => ⟨ls.length, by simp at hm; omega, ls', fs', D', e1, e2, e3⟩, ?_⟩
      have hf3 : upd H p (.lst []) f = some (.lst fs) := (upd_ne fp).trans hf
      have hd3 : upd H p (.lst []) d = some (.lst (D.map V.int)) := (upd_ne dp).trans hd
      have hlen : (v :: ls).length ≤ 100 := by
        have := hp.length_eq
        simp at this ⊢
        omega
      refine ⟨_, rfl, .inl ⟨rfl, _, SqL.of hf3⟩, _, rfl, .inl ⟨rfl, _, SqL.of hl3⟩, _, rfl, _, rfl, _, _, rfl, .inl (SqL.of hl3), ?_⟩
      refine ⟨d, _, D, upd (upd B l (.lst (v :: ls))) f (.lst fs), rfl, (o3.addL hl3).addL hf3, upd_no (upd_no nd dl) df, hd3, hD, by simp; omega, by simp at hlen ⊢; omega, fun r D' H' r0 r1 hD' o4 hd4 => ?_⟩
      have hl4 : H' l = some (.lst (v :: ls)) := o4.ex _ _ ((upd_ne lf).trans upd_same)
      have hf4 : H' f = some (.lst fs) := o4.ex _ _ upd_same
      have hk : r.toNat < (v :: ls).length := by omega
      have er : r = ((r.toNat : Nat) : Int) := by omega
      refine ⟨l, _, r, r.toNat, (v :: ls)[r.toNat], rfl, rfl, hl4, by omega, by omega, by rw [er]; exact seqIx_nat (by simpa using hk), List.getElem?_eq_getElem hk, ?_⟩
      have o5 : Ok T B H' := o4.back ((upd_up nBl).trans (upd_up (upd_no nBf lf.symm)))
      refine ⟨f, fs, _, rfl, rfl, (upd_ne lf.symm).trans hf4, Nat.lt_of_le_of_lt (show fs.length ≤ 100 by have := hp.length_eq; simp at this; omega) (by decide), ?_⟩
      refine ⟨_, _, D', rfl, by rw [List.length_eraseIdx, if_pos hk]; rfl, ?_, (o5.mutL nBl hl4).mutL nBf ((upd_ne lf.symm).trans hf4), (upd_ne lf).trans upd_same, upd_same, (upd_ne df).trans ((upd_ne dl).trans hd4), hD'⟩
      refine List.Perm.trans ?_ hp
      rw [List.append_assoc]
      exact List.Perm.append_left fs (erase_perm hk)
end
end Rw

namespace Rw
open PySem PySem.Spec PyProof.Rows L2 Ub
set_option hygiene false in
local macro_rules | `(tactic| acc_peel) => `(tactic| (repeat (first | ((with_reducible show Ub.WS _ _ (tSeq _ _) _ _); (first | refine ws_seq ?_)) | ((with_reducible show Ub.WS _ _ tNext _ _); (first | refine ws_next ?_)) | ((with_reducible show Ub.WS _ _ tRetN _ _); (first | refine ws_retN ?_)) | ((with_reducible show Ub.WS _ _ (tIfS _ _ _) _ _); (first | refine ws_if ?_)) | ((with_reducible show Ub.WS _ _ (tRet (tIf _ _ _)) _ _); (first | refine ws_retIf ?_)) | ((with_reducible show Ub.WS _ _ (tAsg (tC _) (gName _)) _ _); (first | refine ws_set (we_int ?_) | refine ws_set (we_str ?_) | refine ws_set (we_bl ?_) | refine ws_set (we_non ?_))) | ((with_reducible show Ub.WS _ _ (tAsg (tVar _) (gName _)) _ _); (first | refine ws_set (we_dat rfl ?_))) | ((with_reducible show Ub.WS _ _ (tAsg (tLst tNil) (gName _)) _ _); (first | refine ws_setL (wl_lst (wa_nil ⟨rfl, by decide, ?_⟩)))) | ((with_reducible show Ub.WS _ _ (tAsg (tOp (rIxL _) (tLst _) (tCall _ _ _ _)) (gName _)) _ _); (first | refine ws_set (we_pick rfl ?_))) | ((with_reducible show Ub.WS _ _ (tAsg (tOp rCat _ _) (gName _)) _ _); (first | refine ws_set (we_l (wl_cat ?_)))) | ((with_reducible show Ub.WS _ _ (tAsg (tOp rRep _ _) (gName _)) _ _); (first | refine ws_set (we_l (wl_rep1 ?_)))) | ((with_reducible show Ub.WS _ _ (tAsg (tOp (rCatT _) _ _) (gName _)) _ _); (first | refine ws_set (we_catT ?_))) | ((with_reducible show Ub.WS _ _ (tAsg (tOp _ _ _) (gName _)) _ _); (first | refine ws_set (we_op ?_))) | ((with_reducible show Ub.WS _ _ (tAsg (tSl (rSlL _) _ _ _) (gName _)) _ _); (first | refine ws_set (we_l (wl_slice ?_)))) | ((with_reducible show Ub.WS _ _ (tAsg (tTup _) (gName _)) _ _); (first | refine ws_set (we_tup ?_))) | ((with_reducible show Ub.WS _ _ (tAsg (tUn _ _) (gName _)) _ _); (first | refine ws_set (we_neg ?_))) | ((with_reducible show Ub.WS _ _ (tAsg (tCB rMax2 _) (gName _)) _ _); (first | refine ws_set (we_tcb ?_))) | ((with_reducible show Ub.WS _ _ (tAsg (tCB rMin2 _) (gName _)) _ _); (first | refine ws_set (we_tcb ?_))) | ((with_reducible show Ub.WS _ _ (tAsg (tCB rInt1 _) (gName _)) _ _); (first | refine ws_set (we_tcb ?_))) | ((with_reducible show Ub.WS _ _ (tAsg (tCB (Evl.rLenS _) _) (gName _)) _ _); (first | refine ws_set (we_tcb ?_))) | ((with_reducible show Ub.WE _ _ (tC _) _ _); (first | refine we_int ?_ | refine we_str ?_ | refine we_bl ?_ | refine we_non ?_)) | ((with_reducible show Ub.WE _ _ (tVar _) _ _); (first | refine we_dat rfl ?_ | refine we_own rfl ?_)) | ((with_reducible show Ub.WE _ _ (tOp (rIxL _) (tLst _) (tCall _ _ _ _)) _ _); (first | refine we_pick rfl ?_)) | ((with_reducible show Ub.WE _ _ (tOp rCat _ _) _ _); (first | refine we_l (wl_cat ?_))) | ((with_reducible show Ub.WE _ _ (tOp rRep _ _) _ _); (first | refine we_l (wl_rep1 ?_))) | ((with_reducible show Ub.WE _ _ (tOp (rIxDI _) (tC _) _) _ _); (first | refine we_ixK ?_)) | ((with_reducible show Ub.WE _ _ (tOp (rCatT _) _ _) _ _); (first | refine we_catT ?_)) | ((with_reducible show Ub.WE _ _ (tLstRg (tRg1 _)) _ _); (first | refine we_l (wl_listR1 ?_))) | ((with_reducible show Ub.WE _ _ (tLstRg (tRg2 _ _)) _ _); (first | refine we_l (wl_listR2 ?_))) | ((with_reducible show Ub.WE _ _ (tOp _ _ _) _ _); (first | refine we_op ?_)) | ((with_reducible show Ub.WE _ _ (tUn _ _) _ _); (first | refine we_neg ?_)) | ((with_reducible show Ub.WE _ _ (tIf _ _ _) _ _); (first | refine we_if ?_)) | ((with_reducible show Ub.WE _ _ (tAndV _ _) _ _); (first | refine we_and ?_)) | ((with_reducible show Ub.WE _ _ (tOrV _ _) _ _); (first | refine we_or ?_)) | ((with_reducible show Ub.WE _ _ (tNotV _) _ _); (first | refine we_not ?_)) | ((with_reducible show Ub.WE _ _ (tChain _ _ _ _ _) _ _); (first | refine we_chain ?_)) | ((with_reducible show Ub.WE _ _ (tCB (Evl.rListS _) _) _ _); (first | refine we_l (wl_list ?_))) | ((with_reducible show Ub.WE _ _ (tCB (rTupOf _) (tCons _ tNil)) _ _); (first | refine we_tupOf ?_)) | ((with_reducible show Ub.WE _ _ (tCB (rIsi _) (tCons _ (tCons (tC (.ty _)) tNil))) _ _); (first | refine we_isi ?_)) | ((with_reducible show Ub.WE _ _ (tBM _ "list" (rIndex _) _ (tCons _ tNil)) _ _); (first | refine we_index ?_)) | ((with_reducible show Ub.WE _ _ (tM1 rSplitT _ _) _ _); (first | refine we_l (wl_split ?_))) | ((with_reducible show Ub.WE _ _ (tM1 rPartT _ _) _ _); (first | refine we_part ?_)) | ((with_reducible show Ub.WE _ _ (tM1 rCountT _ _) _ _); (first | refine we_count ?_)) | ((with_reducible show Ub.WR _ _ rInT _ _ _ _); (first | refine wr_inT ?_)) | ((with_reducible show Ub.WR _ _ rInTn _ _ _ _); (first | refine wr_inTn ?_)) | ((with_reducible show Ub.WE _ _ (tJoinF [] _) _ _); (first | refine we_jNil ?_)) | ((with_reducible show Ub.WE _ _ (tJoinF (_ :: _) _) _ _); (first | refine we_jCons ?_)) | ((with_reducible show Ub.WE _ _ (tCB _ _) _ _); (first | refine we_tcb ?_)) | ((with_reducible show Ub.WE _ _ (tTup _) _ _); (first | refine we_tup ?_)) | ((with_reducible show Ub.WE _ _ (tLst _) _ _); (first | refine we_l (wl_lst ?_))) | ((with_reducible show Ub.WE _ _ (tSl (rSlL _) _ _ _) _ _); (first | refine we_l (wl_slice ?_))) | ((with_reducible show Ub.WE _ _ (tSl rSlS _ _ _) _ _); (first | refine we_sliceS ?_)) | ((with_reducible show Ub.WE _ _ (tSl (rSlT _) _ _ _) _ _); (first | refine we_sliceT ?_)) | ((with_reducible show Ub.WE _ _ (tRevL _ _) _ _); (first | refine we_l (wl_rev ?_))) | ((with_reducible show Ub.WA _ _ tNil _ _); (first | refine wa_nil ?_)) | ((with_reducible show Ub.WA _ _ (tCons _ _) _ _); (first | refine wa_cons ?_)) | ((with_reducible show Ub.WO _ _ tNoPart _ _); (first | refine wo_none ?_)) | ((with_reducible show Ub.WO _ _ (tPart _) _ _); (first | refine wo_some ?_)) | ((with_reducible show Ub.WT _ _ (tB _) _ _); (first | refine wt_val ?_)) | ((with_reducible show Ub.WT _ _ (tTest _) _ _); (first | refine wt_test ?_)) | ((with_reducible show Ub.WT _ _ (tAnd _ _) _ _); (first | refine wt_and ?_)) | ((with_reducible show Ub.WT _ _ (tOr _ _) _ _); (first | refine wt_or ?_)) | ((with_reducible show Ub.WT _ _ (tNot _) _ _); (first | refine wt_not ?_)) | ((with_reducible show Ub.WT _ _ tYes _ _); (first | refine wt_yes ?_)) | ((with_reducible show Ub.WT _ _ (tTru _ _) _ _); (first | refine wt_tru ?_)) | ((with_reducible show Ub.WR _ _ rIsN _ _ _ _); (first | refine wr_isN rfl ?_)) | ((with_reducible show Ub.WR _ _ rNotN _ _ _ _); (first | refine wr_notN rfl ?_)) | ((with_reducible show Ub.WR _ _ (rI0 _) _ _ _ _); (first | refine wr_int ?_ | refine wr_cmp ?_)) | ((with_reducible show Ub.WR _ _ (rI CMul _) _ _ _ _); (first | refine wr_mulL (by omega) (by omega) ?_ | refine wr_mulR (by omega) (by omega) ?_)) | ((with_reducible show Ub.WR _ _ (rI CDiv _) _ _ _ _); (first | refine wr_fdiv (by omega) (by omega) ?_)) | ((with_reducible show Ub.WR _ _ (rI _ _) _ _ _ _); (first | refine wr_mod (by omega) ?_)) | ((with_reducible show Ub.WR _ _ rEq _ _ _ _); (first | refine wr_eqI ?_ | refine wr_eqS ?_ | refine wr_eqB ?_)) | ((with_reducible show Ub.WR _ _ rNe _ _ _ _); (first | refine wr_neI ?_ | refine wr_neS ?_ | refine wr_neB ?_)) | ((with_reducible show Ub.WR _ _ (rIxL _) _ _ _ _); (first | refine wr_ixL rfl rfl ?_)) | ((with_reducible show Ub.WR _ _ (rIxT _) _ _ _ _); (first | refine wr_h0 ?_ | refine wr_h1 ?_ | refine wr_f0 ?_ | refine wr_f1 ?_ | refine wr_l0 ?_ | refine wr_l1 ?_ | refine wr_ixT rfl rfl ?_)) | ((with_reducible show Ub.WR _ _ rAddS _ _ _ _); (first | refine wr_addS (by omega) ?_)) | ((with_reducible show Ub.WR _ _ rRepS _ _ _ _); (first | refine wr_repS (by omega) (by omega) (by omega) ?_)) | ((with_reducible show Ub.WC _ _ (Evl.rLenS _) _ _ _); (first | refine wc_lenL rfl ?_ | refine wc_lenT rfl ?_)) | ((with_reducible show Ub.WC _ _ rLenStr _ _ _); (first | refine wc_lenS (by omega) ?_)) | ((with_reducible show Ub.WC _ _ rAbs _ _ _); (first | refine wc_abs ?_)) | ((with_reducible show Ub.WC _ _ rMin2 _ _ _); (first | refine wc_min ?_)) | ((with_reducible show Ub.WC _ _ rMax2 _ _ _); (first | refine wc_max ?_)) | ((with_reducible show Ub.WC _ _ rInt1 _ _ _); (first | refine wc_intB ?_ | refine wc_intI ?_)) | ((with_reducible show Ub.WC _ _ rStrI _ _ _); (first | refine wc_strI (by assumption) ?_)) | ((with_reducible show Ub.WC _ _ rIntS _ _ _); (first | refine wc_intS (by assumption) (by assumption) ?_)) | ((with_reducible show Ub.WG _ _ (gName _) _ _ _); (first | refine wg_name ?_)) | ((with_reducible show Ub.WG _ _ (gTup _ _ _) _ _ _); (first | refine wg_tup rfl ?_)) | ((with_reducible show Ub.WGs _ _ (gCons _ _) _ _ _); (first | refine wgs_cons ?_)) | ((with_reducible show Ub.WGs _ _ gNil _ _ _); (first | refine wgs_nil ?_)) | ((with_reducible show Exists _); (first | refine ex_d ?_ | refine ex_i ?_ | refine ex_s ?_ | refine ex_b ?_ | refine ex_l ?_ | refine ex_t ?_ | refine ex_rd ?_ | refine ex_rf ?_ | refine ex_al rfl ?_ | refine ex_n1 ?_ | refine ex_l1 ?_ | refine ex_l2 ?_ | refine ex_cat rfl rfl (by first | omega | (simp; done) | (simp; omega)) ?_ | refine ex_rep rfl (by first | omega | (simp; done) | (simp; omega)) (by first | omega | (simp; done) | (simp; omega)) ?_)) | ((with_reducible show _ ∧ _); (first | refine an_d rfl ?_ | refine an_le (Nat.le_of_ble_eq_true rfl) ?_ | refine an_le (by first | omega | (simp; done) | (simp; omega)) ?_ | refine an_leI (by first | omega | (simp; done) | (simp; omega)) ?_ | refine an_ltI (by first | omega | (simp; done) | (simp; omega)) ?_ | refine an_eqI rfl ?_ | refine an_bf rfl ?_)) | ((with_reducible show Ub.WS _ _ (tDrop (tBM _ "list" rAppend (tVar _) (tCons _ tNil))) _ _); (first | refine ws_append rfl (by first | omega | (simp; done) | (simp; omega)) ?_)))))
section
variable {P : Program} {w : World} {K : PySem.W.Frag} {mg : Str → Option Value} {base : Heap} {T : Tb}
/-! ### the dice by data -/
theorem rep_nil {A B H : Hp} {dc : Option Addr} (oB : Ok T B H) (e : Ex A B) (hd : ∀ d, dc = some d → B d = none ∧ A d = none ∧ DiceAt H d) : Rep K T A B dc A H [] [] (fun _ => 0) :=
  ⟨oB, oB.back e, Evl.Ex.refl _, fun _ h => .inl h, rfl, fun _ _ h => by simp at h, fun _ _ _ _ h => by simp at h, hd⟩
theorem k_offD_ (k : Kp P w K mg base CX0 1 "_law_off" P_off (spOff T)) : Kp P w K mg base CX0 1 "_law_off" P_off (spRd K T SOff) := k.imp fun vs H Q E h => by
  obtain ⟨d, ws, ds, A, B, Pr, rfl, oB, e, hz, nb, na, ⟨D, h1, h2⟩, ⟨m, rfl, m1, m2, hp⟩, q⟩ := h
  cases hz with
  | cons a b =>
    cases b
    cases a
    refine ⟨d, m, D, B, rfl, oB, nb, h1, h2, m1, m2, fun r D' H' r0 r1 hD o hd => ?_⟩
    exact q (.dat (.int r)) _ A H' _ _ _ (hp r r0 r1) (rep_nil o e fun d' z => by cases z; exact ⟨nb, na, D', hd, hD⟩) (.int _)
def scDt : Dt → Prop
  | .int _ => True
  | .str s => PyData.strOk s = true
  | _ => False
theorem sc_vs {A : Hp} : ∀ {l : List Dt} {vs : List V}, DzA K A vs l → (∀ d ∈ l, scDt d) → (∀ v ∈ vs, ∃ d, scD v = some d) ∧ ∀ v ∈ vs, ∃ d ∈ l, ∀ B', Dz K B' v d
  | _, _, .nil, _ => by simp
  | d :: ds, v :: vs, .cons h t, hs => by
    obtain ⟨g1, g2⟩ := sc_vs t fun x hx => hs x (List.mem_cons_of_mem _ hx)
    have hd := hs d List.mem_cons_self
    refine ⟨fun x hx => ?_, fun x hx => ?_⟩
    · rcases List.mem_cons.mp hx with rfl | hx
      · cases h with
        | int i => exact ⟨.int i, rfl⟩
        | str s => exact ⟨.str s, if_pos hd⟩
        | _ => exact hd.elim
      · exact g1 x hx
    · rcases List.mem_cons.mp hx with rfl | hx
      · refine ⟨d, List.mem_cons_self, fun B' => h.atm ?_⟩
        cases d with
        | int _ => rfl
        | str _ => rfl
        | _ => exact hd.elim
      · obtain ⟨y, h1, h2⟩ := g2 x hx
        exact ⟨y, List.mem_cons_of_mem _ h1, h2⟩
def ofV : V → Dt
  | .int i => .int i
  | .str s => .str s
  | _ => .non
theorem dz_ofV {A : Hp} : ∀ {l : List Dt} {vs : List V}, DzA K A vs l → (∀ d ∈ l, scDt d) → l = vs.map ofV
  | _, _, .nil, _ => rfl
  | d :: ds, v :: vs, .cons h t, hs => by
    rw [List.map_cons, ← dz_ofV t fun x hx => hs x (List.mem_cons_of_mem _ hx)]
    have hd := hs d List.mem_cons_self
    cases h with
    | int i => rfl
    | str s => rfl
    | _ => exact hd.elim
theorem ofV_dz {A : Hp} : ∀ {vs : List V}, (∀ v ∈ vs, scDt (ofV v)) → DzA K A vs (vs.map ofV)
  | [], _ => .nil
  | v :: vs, h => by
    refine .cons ?_ (ofV_dz fun x hx => h x (List.mem_cons_of_mem _ hx))
    have := h v List.mem_cons_self
    cases v with
    | int i => exact .int i
    | str s => exact .str s
    | _ => exact this.elim
def SMixed : SpD := fun ds Pr => ∃ l : List Dt, ds = [.lst l] ∧ l.length ≤ 100 ∧ (∀ d ∈ l, scDt d) ∧ ∀ l' : List Dt, l'.Perm l → Pr (.fr l')
theorem k_mixedD_ (k : Kp P w K mg base CX0 2 "_law_mixed" P_mixed (spMixed T K)) : Kp P w K mg base CX0 2 "_law_mixed" P_mixed (spRd K T SMixed) := k.imp fun vs H Q E h => by
  obtain ⟨d, ws, ds, A, B, Pr, rfl, oB, e, hz, nb, na, ⟨D, h1, h2⟩, ⟨l, rfl, hl, hs, hp⟩, q⟩ := h
  cases hz with
  | cons a b =>
    cases b
    cases a with
    | @lst a xs _ g1 g2 =>
      have el := dz_ofV g2 hs
      refine ⟨d, a, xs, D, B, rfl, oB, nb, h1, h2, SqL.of (e _ _ g1), by rw [g2.len]; exact hl, (sc_vs g2 hs).1, fun f ys D' H' nf hperm o fd hf hd hD => ?_⟩
      have hpm : (ys.map ofV).Perm l := by rw [el]; exact hperm.map ofV
      refine q (.fr (ys.map ofV)) _ A H' _ _ _ (hp _ hpm) (rep_nil o e fun d' z => by cases z; exact ⟨nb, na, D', hd, hD⟩) ⟨f, ys, rfl, nf, ?_, fun z => fd (Option.some.inj z).symm, hf, ofV_dz fun v hv => hs _ (hpm.mem_iff.mp (List.mem_map.mpr ⟨v, hv, rfl⟩))⟩
      exact Evl.fresh_back e nf
/-! ### a hand, names, fields -/

def handD (h : Hand) : Dt := .tup [.str h.order, .int h.align, .int h.wide, .str h.way]
def fldD (f : Fld) : Dt := .tup [.str f.1, .int f.2]
def fldsD (fs : List Fld) : Dt := .lst (fs.map fldD)
theorem in2 {d a b : Dt} (h : d ∈ [a, b]) : d = a ∨ d = b := by simpa using h
theorem in3 {d a b c : Dt} (h : d ∈ [a, b, c]) : d = a ∨ d = b ∨ d = c := by simpa using h
theorem in4 {d a b c e : Dt} (h : d ∈ [a, b, c, e]) : d = a ∨ d = b ∨ d = c ∨ d = e := by simpa using h
theorem in_size {d : Dt} (h : d ∈ [Dt.int 1, .int 2, .int 4]) : ∃ n : Int, d = .int n ∧ SizeOk n := by
  rcases in3 h with rfl | rfl | rfl
  · exact ⟨1, rfl, .inl rfl⟩
  · exact ⟨2, rfl, .inr (.inl rfl)⟩
  · exact ⟨4, rfl, .inr (.inr rfl)⟩
theorem wr_h0 {ρ : List Sl} {h : Hand} {Pg : Ag → Prop} (p : Pg (.dat (.str h.order))) : WR K T (rIxT K) ρ (.dat (handD h)) (.dat (.int 0)) Pg := wr_ixT (l := [.str h.order, .int h.align, .int h.wide, .str h.way]) rfl rfl p
theorem wr_h1 {ρ : List Sl} {h : Hand} {Pg : Ag → Prop} (p : Pg (.dat (.int h.align))) : WR K T (rIxT K) ρ (.dat (handD h)) (.dat (.int 1)) Pg := wr_ixT (l := [.str h.order, .int h.align, .int h.wide, .str h.way]) rfl rfl p
theorem wr_f0 {ρ : List Sl} {f : Fld} {Pg : Ag → Prop} (p : Pg (.dat (.str f.1))) : WR K T (rIxT K) ρ (.dat (fldD f)) (.dat (.int 0)) Pg := wr_ixT (l := [.str f.1, .int f.2]) rfl rfl p
theorem wr_f1 {ρ : List Sl} {f : Fld} {Pg : Ag → Prop} (p : Pg (.dat (.int f.2))) : WR K T (rIxT K) ρ (.dat (fldD f)) (.dat (.int 1)) Pg := wr_ixT (l := [.str f.1, .int f.2]) rfl rfl p
def SHand : SpD := fun ds Pr => ds = [] ∧ ∀ h : Hand, HandOk h → Pr (.dat (handD h))
theorem k_handD_ (D : Df K mg "_law_hand" s_hand P_hand) (bl : Bl mg) (k_off : Kp P w K mg base CX0 1 "_law_off" P_off (spRd K T SOff)) : Kp P w K mg base CX0 2 "_law_hand" P_hand (spRd K T SHand) := by
  refine kp_ofD D sc_hand (fun ds Pr h => ?_) (fun f cdv A outer s H E hr ds Pr h => ?_)
  · obtain ⟨rfl, _⟩ := h
    rfl
  · obtain ⟨rfl, hp⟩ := h
    refine ⟨_, (pss_cons (ps_set (i := 1) sc_hand.nd rfl (by first | exact Or.inl rfl | exact Or.inr rfl) (pe_ix (r := rIxL K) ix_list (pe_lst (pa_cons pe_str (pa_cons pe_str pa_nil))) (pe_callA k_off (hr.mono (by decide)) pass0 (pa_cons (pv 0) (pa_cons pe_int pa_nil))) (fun _ _ => rfl)))
      (pss_one (ps_ret (pe_tup (pa_cons (pv 1) (pa_cons (pe_ix (r := rIxL K) ix_list (pe_lst (pa_cons pe_int (pa_cons pe_int (pa_cons pe_int pa_nil)))) (pe_callA k_off (hr.mono (by decide)) pass0 (pa_cons (pv 0) (pa_cons pe_int pa_nil))) (fun _ _ => rfl)) (pa_cons (pe_ix (r := rIxL K) ix_list (pe_lst (pa_cons pe_int (pa_cons pe_int (pa_cons pe_int pa_nil)))) (pe_callA k_off (hr.mono (by decide)) pass0 (pa_cons (pv 0) (pa_cons pe_int pa_nil))) (fun _ _ => rfl)) (pa_cons (pe_ix (r := rIxL K) ix_list (pe_lst (pa_cons pe_str (pa_cons pe_str pa_nil))) (pe_callA k_off (hr.mono (by decide)) pass0 (pa_cons (pv 0) (pa_cons pe_int pa_nil))) (fun _ _ => rfl)) pa_nil)))))))), ?_⟩
    acc_peel
    intro d hd
    acc_peel
    obtain ⟨o, rfl, ho⟩ : ∃ o, d = .str o ∧ (o = "great" ∨ o = "small") := by
      rcases in2 hd with rfl | rfl
      · exact ⟨_, rfl, .inl rfl⟩
      · exact ⟨_, rfl, .inr rfl⟩
    refine ws_ret ?_
    acc_peel
    intro d2 hd2
    obtain ⟨al, rfl, hal⟩ := in_size hd2
    acc_peel
    intro d3 hd3
    obtain ⟨wd, rfl, hwd⟩ := in_size hd3
    acc_peel
    intro d4 hd4
    obtain ⟨wy, rfl, hwy⟩ : ∃ o, d4 = .str o ∧ (o = "up" ∨ o = "down") := by
      rcases in2 hd4 with rfl | rfl
      · exact ⟨_, rfl, .inl rfl⟩
      · exact ⟨_, rfl, .inr rfl⟩
    acc_peel
    exact hp ⟨o, al, wd, wy⟩ ⟨ho, hal, hwd, hwy⟩
theorem permD {l' : List Dt} {l : List Str} (h : l'.Perm (l.map Dt.str)) : ∃ l2 : List Str, l' = l2.map Dt.str ∧ l2.Perm l := by
  let u : Dt → Str := fun d => match d with
    | .str x => x
    | _ => ""
  refine ⟨l'.map u, ?_, ?_⟩
  · rw [List.map_map]
    refine (List.map_id l').symm.trans (List.map_congr_left fun y hy => ?_)
    obtain ⟨x, _, rfl⟩ := List.mem_map.mp (h.mem_iff.mp hy)
    rfl
  · have h2 := h.map u
    rw [List.map_map] at h2
    have e : List.map (u ∘ Dt.str) l = l := (List.map_congr_left fun x _ => rfl).trans (List.map_id l)
    rw [e] at h2
    exact h2
def SNames : SpD := fun ds Pr => ds = [] ∧ ∀ nms : List Str, NamesOk nms → Pr (.fr (nms.map Dt.str))

theorem k_namesD_ (D : Df K mg "_law_names" s_names P_names) (bl : Bl mg) (k_off : Kp P w K mg base CX0 1 "_law_off" P_off (spRd K T SOff)) (k_mixed : Kp P w K mg base CX0 2 "_law_mixed" P_mixed (spRd K T SMixed)) : Kp P w K mg base CX0 3 "_law_names" P_names (spRd K T SNames) := by
  refine kp_ofD D sc_names (fun ds Pr h => ?_) (fun f cdv A outer s H E hr ds Pr h => ?_)
  · obtain ⟨rfl, _⟩ := h
    rfl
  · obtain ⟨rfl, hp⟩ := h
    refine ⟨_, (pss_cons (ps_set (i := 1) sc_names.nd rfl (by first | exact Or.inl rfl | exact Or.inr rfl) (pe_callA k_off (hr.mono (by decide)) pass0 (pa_cons (pv 0) (pa_cons pe_int pa_nil))))
      (pss_cons (ps_set (i := 2) sc_names.nd rfl (by first | exact Or.inl rfl | exact Or.inr rfl) pe_str)
      (pss_cons (ps_set (i := 2) sc_names.nd rfl (by first | exact Or.inl rfl | exact Or.inr rfl) (pe_op (r := rAddS) op_addS (pe_slice sl_str (pv 2) (po_some (pv 1)) po_none) (pe_slice sl_str (pv 2) po_none (po_some (pv 1)))))
      (pss_cons (ps_set (i := 3) sc_names.nd rfl (by first | exact Or.inl rfl | exact Or.inr rfl) (pe_lst (pa_cons (pe_ix ix_str (pv 2) pe_int (fun _ _ => rfl)) (pa_cons (pe_op (r := rAddS) op_addS (pe_ix ix_str (pv 2) pe_int (fun _ _ => rfl)) (pe_ix ix_str (pv 2) pe_int (fun _ _ => rfl))) (pa_cons (pe_ix ix_str (pv 2) pe_int (fun _ _ => rfl)) (pa_cons (pe_op (r := rAddS) op_addS (pe_ix ix_str (pv 2) pe_int (fun _ _ => rfl)) (pe_ix ix_str (pv 2) pe_int (fun _ _ => rfl))) (pa_cons (pe_op op_repS (pe_ix ix_str (pv 2) pe_int (fun _ _ => rfl)) pe_int) (pa_cons (pe_op op_repS (pe_ix ix_str (pv 2) pe_int (fun _ _ => rfl)) pe_int) (pa_cons (pe_slice sl_str (pv 2) (po_some pe_int) (po_some pe_int)) pa_nil)))))))))
      (pss_one (ps_ret (pe_callA k_mixed (hr.mono (by decide)) pass0 (pa_cons (pv 0) (pa_cons (pv 3) pa_nil))))))))), ?_⟩
    refine ws_seq (ws_set (we_callD rfl ?_))
    acc_peel
    refine ⟨26, rfl, by decide, by decide, fun r r0 r1 => ⟨_, rfl, _, rfl, ?_⟩⟩
    obtain ⟨t, rfl⟩ : ∃ t : Nat, r = (t : Int) := ⟨r.toNat, by omega⟩
    obtain ⟨f1, f2, f3, f4⟩ := sg_all t (by omega)
    acc_peel
    refine wr_addS (Nat.le_trans (Nat.add_le_add f2 f3) (by decide)) ⟨_, rfl, ?_⟩
    have at0 : ∀ i : Nat, i < 26 → atI (sgOf t).cps.toList (i : Int) = some ((sgOf t).cps.toList.getD i 0) := fun i hi => sgn_at (by omega)
    have lz : (sgOf t).length ≤ 100000 := by omega
    refine ws_seq (ws_set (we_l (wl_lst ?_)))
    acc_peel
    refine wr_ixS lz (at0 0 (by decide)) ?_
    acc_peel
    refine wr_ixS lz (at0 0 (by decide)) ?_
    acc_peel
    refine wr_ixS lz (at0 1 (by decide)) (wr_addS (show 1 + 1 ≤ 100000 by decide) ?_)
    acc_peel
    refine wr_ixS lz (at0 1 (by decide)) ?_
    acc_peel
    refine wr_ixS lz (at0 1 (by decide)) ?_
    acc_peel
    refine wr_ixS lz (at0 0 (by decide)) (wr_addS (show 1 + 1 ≤ 100000 by decide) ?_)
    acc_peel
    refine wr_ixS lz (at0 2 (by decide)) ?_
    acc_peel
    refine wr_repS (by decide) (by decide) (show 1 ≤ 1000 by decide) ?_
    acc_peel
    refine wr_ixS lz (at0 2 (by decide)) ?_
    acc_peel
    refine wr_repS (by decide) (by decide) (show 1 ≤ 1000 by decide) ?_
    acc_peel
    refine ⟨lz, ?_⟩
    acc_peel
    refine ws_retL (wl_callD rfl ?_)
    acc_peel
    refine ⟨(nmOf t).map Dt.str, rfl, Nat.le_of_ble_eq_true rfl, fun d hd => ?_, fun l' hl' => ⟨_, rfl, ?_⟩⟩
    · obtain ⟨x, hx, rfl⟩ := List.mem_map.mp hd
      exact (f4.2.2 x hx).strOk
    · obtain ⟨l2, rfl, hp2⟩ := permD hl'
      exact hp l2 (f4.perm hp2)
def SFields : SpD := fun ds Pr => ∃ m : Int, ds = [.int m] ∧ 1 ≤ m ∧ m ≤ 6 ∧ ∀ fs : List Fld, FieldsOk fs → (fs.length : Int) ≤ m → Pr (.fr (fs.map fldD))

theorem k_fieldsD_ (D : Df K mg "_law_fields" s_fields P_fields) (bl : Bl mg) (k_off : Kp P w K mg base CX0 1 "_law_off" P_off (spRd K T SOff)) (k_names : Kp P w K mg base CX0 3 "_law_names" P_names (spRd K T SNames)) :
    Kp P w K mg base CX0 4 "_law_fields" P_fields (spRd K T SFields) := by
  refine kp_ofD D sc_fields (fun ds Pr h => ?_) (fun f cdv A outer s H E hr ds Pr h => ?_)
  · obtain ⟨m, rfl, _⟩ := h
    rfl
  · obtain ⟨m, rfl, m1, m6, hp⟩ := h
    refine ⟨_, (pss_cons (ps_set (i := 2) sc_fields.nd rfl (by first | exact Or.inl rfl | exact Or.inr rfl) (pe_callA k_names (hr.mono (by decide)) pass0 (pa_cons (pv 0) pa_nil)))
      (pss_one (ps_ret (pe_lc (own := [("_law_k", 3)]) (g := gName 3) (by rfl) sc_fields.nd (pi_range1 (by rfl) bl.range (pa_cons (pe_op op_add pe_int (pe_callA k_off (hr.mono (by decide)) pass0 (pa_cons (pv 0) (pa_cons (pv 1) pa_nil)))) pa_nil)) (blkOk_by (own := [("_law_k", 3)]) (N := N_fields) (sc := defScope s_fields) (by decide +kernel)) (fun _ _ _ _ _ => (pg_name (i := 3) sc_fields.nd rfl (by first | exact Or.inl rfl | exact Or.inr rfl))) (fun _ _ _ _ _ => pts_nil) (fun _ _ _ _ _ => (pe_tup (pa_cons (pe_ix (r := rIxL K) ix_list (pv 2) (pv 3) (fun _ _ => rfl)) (pa_cons (pe_ix (r := rIxL K) ix_list (pe_lst (pa_cons pe_int (pa_cons pe_int (pa_cons pe_int pa_nil)))) (pe_callA k_off (hr.mono (by decide)) pass0 (pa_cons (pv 0) (pa_cons pe_int pa_nil))) (fun _ _ => rfl)) pa_nil)))))))), ?_⟩
    refine ws_seq (ws_setL (wl_callD rfl ?_))
    acc_peel
    refine ⟨rfl, fun nms hN => ⟨_, rfl, ?_⟩⟩
    refine ws_retL (wl_lcR (js := [3]) (fun i acc => ∃ fs : List Fld, acc = fs.map fldD ∧ fs.length = i ∧ fs.map (·.1) = nms.take i ∧ ∀ f ∈ fs, SizeOk f.2) (by simp) rfl ?_)
    acc_peel
    refine we_callD rfl ?_
    acc_peel
    refine ⟨m, rfl, m1, by omega, fun r r0 r1 => ⟨_, rfl, ?_⟩⟩
    acc_peel
    refine ⟨⟨[], rfl, rfl, rfl, by simp⟩, fun i acc hi hl hI => ⟨_, tg_name, ?_⟩, fun acc hI => ?_⟩
    · obtain ⟨fs, rfl, l1, l2, l3⟩ := hI
      have hi7 : i < nms.length := by rw [hN.2.1]; omega
      acc_peel
      refine ⟨fun _ => ?_, fun h => nomatch h⟩
      acc_peel
      refine wr_ixL rfl (d := .str nms[i]) (atI_nat (by rw [List.getElem?_map, List.getElem?_eq_getElem hi7]; rfl)) ?_
      acc_peel
      intro d hd
      obtain ⟨sz, rfl, hsz⟩ := in_size hd
      acc_peel
      refine ⟨fs ++ [(nms[i], sz)], by rw [List.map_append]; rfl, by simp [l1], ?_, fun g hg => ?_⟩
      · rw [List.map_append, l2, List.take_add_one, List.getElem?_eq_getElem hi7]
        rfl
      · rcases List.mem_append.mp hg with hg | hg
        · exact l3 g hg
        · have : g = (nms[i], sz) := by simpa using hg
          rw [this]
          exact hsz
    · obtain ⟨fs, rfl, l1, l2, l3⟩ := hI
      refine hp fs ⟨by omega, by omega, ?_, fun g hg => ?_, l3⟩ (by omega)
      · rw [l2]
        exact List.Nodup.sublist (List.take_sublist _ _) hN.1
      · have h1 : g.1 ∈ fs.map (·.1) := List.mem_map.mpr ⟨g, hg, rfl⟩
        rw [l2] at h1
        exact hN.2.2 _ (List.mem_of_mem_take h1)
end
end Rw

namespace Rw
open PySem PySem.Spec PyProof.Rows L2 Ub
section
variable {P : Program} {w : World} {K : PySem.W.Frag} {mg : Str → Option Value} {base : Heap} {T : Tb}
/-! ### the law's own def -/
def spLaw (T : Tb) (K : PySem.W.Frag) : Sp := fun vs H Q _ => ∃ (a : Addr) (ns : List Int) (B : Hp), vs = [.ref a] ∧ Ok T B H ∧ SqL K B a (ns.map V.int) ∧ ns.length ≤ 63 ∧ ∀ H', Q (.bl true) H'
/-- behind the dice -/
theorem law_rest {t : TS} {B H : Hp} {d : Addr} {D : List Int} {Q : VK} {σ : L2.St} {n : Nat} (o : Ok T B H) (nd : B d = none) (hd : H d = some (.lst (D.map V.int))) (hD : Dice D) (hl : σ.length = n + 2) (hσ : σ[1]? = some (some (.ref d))) (q : ∀ H', Q (.bl true) H')
    (h : WS K T t (.un :: .dice :: List.replicate n .un) { nx := fun _ => False, rt := fun r => r = .dat (.bl true) }) : t { nx := fun _ H' => Q .non H', rt := Q } σ H := by
  have hA : Ex (fun _ => none : Hp) B := fun _ _ e => nomatch e
  refine h (A := fun _ => none) (B := B) (dc := some d) (C := fun _ => none) (α := fun _ => 0) ?_ ⟨fun p _ => p.elim, fun {C H σ ρ α r v} p R z => ?_, fun p _ => p.elim, fun p _ => p.elim, fun p _ _ => p.elim⟩
  · refine ⟨o, o.back hA, Evl.Ex.refl _, fun _ z => .inl z, by simp [hl], fun i s hi => ?_, fun i j l m hi hj _ => ?_, fun d' z => by cases z; exact ⟨nd, rfl, D, hd, hD⟩⟩
    · match i with
      | 0 => cases hi; exact True.intro
      | 1 => cases hi; exact ⟨d, rfl, hσ⟩
      | i + 2 =>
        have := List.mem_of_getElem? (show (List.replicate n Sl.un)[i]? = some s by simpa using hi)
        rw [List.eq_of_mem_replicate this]
        exact True.intro
    · match i with
      | 0 => cases hi
      | 1 => cases hi
      | i + 2 =>
        have := List.mem_of_getElem? (show (List.replicate n Sl.un)[i]? = some (Sl.own l) by simpa using hi)
        have := List.eq_of_mem_replicate this
        cases this
  · have p : r = .dat (.bl true) := p
    subst p
    cases (show Dz K C v (.bl true) from z)
    exact q H
theorem law_start {t : TS} {B H : Hp} {a : Addr} {ns : List Int} {Q : VK} {N : List Str} {n : Nat} {E : XK} (o : Ok T B H) (hA : SqL K B a (ns.map V.int)) (hn : ns.length ≤ 63) (q : ∀ H', Q (.bl true) H') (hN : N.length = n + 2)
    (h : WS K T t (.un :: .dice :: List.replicate n .un) { nx := fun _ => False, rt := fun r => r = .dat (.bl true) }) : tSeq (tAsg (tCall (spDice T K) [] E (tCons (tVar 0) (tCons (tC (V.int 0)) tNil))) (gName 1)) t { nx := fun _ H' => Q .non H', rt := Q } (L2.start N [.ref a]) H := by
  refine ⟨.ref a, rfl, a, ns, B, rfl, o, hA, hn, fun d D H1 nd hD o1 hd => ?_⟩
  refine law_rest (n := n) (σ := (L2.start N [.ref a]).set 1 (some (.ref d))) o1 nd hd hD ?_ ?_ q h
  · simp [L2.start, hN]
    try omega
  · refine List.getElem?_set_self ?_
    simp [L2.start, hN]
end
end Rw

namespace Ub
open PySem PySem.Spec PyProof.Rows L2
section
variable {K : PySem.W.Frag} {T : Tb} {A B : Hp} {dc : Option Addr} {C H : Hp} {σ : L2.St} {ρ : List Sl} {α : Nat → Addr} {P : Ag → Prop} {Pl : List Dt → Prop} {ta tb tc te : TE} {t u : TT} {g : TG} {tas : TA} {tl th : TO}
/-- a tuple's slice that is not all of it -/
theorem we_sliceT (h : WE K T te ρ fun g => ∃ l, agD ρ g = some (.tup l) ∧ WO K T tl ρ fun lo => WO K T th ρ fun hi => ¬ (HT.sIx l.length 0 lo = 0 ∧ HT.sIx l.length l.length hi = l.length) ∧ P (.dat (.tup (cutD l lo hi)))) : WE K T (tSl (rSlT K) te tl th) ρ P := fun ⦃A B dc C H σ α⦄ R Q q =>
  h R _ fun g v C1 H1 ⟨l, hl, h1⟩ R1 e1 a1 => h1 R1 _ fun lo C2 H2 h2 R2 e2 => h2 R2 _ fun hi C3 H3 ⟨h3, h4⟩ R3 e3 => by
    obtain ⟨a, vs, rfl, g1, g2⟩ := ag_tup R3 (a1.up (e2.trans e3)) hl
    refine ⟨a, vs, rfl, g1, by rw [g2.len]; exact h3, fun p np => ?_⟩
    have e4 := R3.okC.up np (o := .tup (cutV vs lo hi))
    exact q _ _ _ _ h4 (R3.new1 np nt_tup) ((e1.trans (e2.trans e3)).trans e4) (.tup (SqT.of upd_same) ((cut_dz g2).up e4))
theorem we_catT (h : WE K T ta ρ fun x => WE K T tb ρ fun y => ∃ l m, agD ρ x = some (.tup l) ∧ agD ρ y = some (.tup m) ∧ l ≠ [] ∧ m ≠ [] ∧ l.length + m.length ≤ 100000 ∧ P (.dat (.tup (l ++ m)))) : WE K T (tOp (rCatT K) ta tb) ρ P := fun ⦃A B dc C H σ α⦄ R Q q =>
  h R _ fun g v C1 H1 h1 R1 e1 a1 => h1 R1 _ fun g2 w C2 H2 ⟨l, m, hl, hm, nl, nm, hz, h2⟩ R2 e2 a2 => by
    obtain ⟨a, vs, rfl, g1, g2⟩ := ag_tup R2 (a1.up e2) hl
    obtain ⟨b, ws, rfl, g3, g4⟩ := ag_tup R2 a2 hm
    have nv : vs ≠ [] := fun z => by subst z; cases g2; exact nl rfl
    have nw : ws ≠ [] := fun z => by subst z; cases g4; exact nm rfl
    refine ⟨a, b, vs, ws, rfl, rfl, g1, g3, nv, sz3 (by rw [g2.len, g4.len]; exact hz), fun z => absurd z nw, fun _ p np => ?_⟩
    have e3 := R2.okC.up np (o := .tup (vs ++ ws))
    exact q _ _ _ _ h2 (R2.new1 np nt_tup) ((e1.trans e2).trans e3) (.tup (SqT.of upd_same) ((g2.app g4).up e3))
def rgD (a b : Int) : List Dt := (List.range (b - a).toNat).map fun i => Dt.int (a + (i : Nat))
theorem dz_rg {a b : Int} : DzA K C (rgV a b) (rgD a b) := by
  unfold rgV rgD
  generalize List.range (b - a).toNat = l
  induction l with
  | nil => exact .nil
  | cons x l ih => exact .cons (.int _) ih
theorem wl_listR1 (h : WE K T ta ρ fun x => ∃ n : Int, x = .dat (.int n) ∧ 0 ≤ n ∧ n ≤ 100000 ∧ Pl (rgD 0 n)) : WL K T (tLstRg (tRg1 ta)) ρ Pl := fun ⦃A B dc C H σ α⦄ R Q q =>
  h R _ fun g v C1 H1 ⟨n, hn, n0, n1, h1⟩ R1 e1 a1 => by
    subst hn
    obtain rfl := ag_int a1
    exact ⟨n, rfl, RgOk.of_le (by decide) (by omega) (by decide) n0, wl_new R1 e1 dz_rg h1 q⟩
theorem wl_listR2 (h : WE K T ta ρ fun x => WE K T tb ρ fun y => ∃ a b : Int, x = .dat (.int a) ∧ y = .dat (.int b) ∧ 0 ≤ a ∧ a ≤ 100000 ∧ 0 ≤ b ∧ b ≤ 100000 ∧ Pl (rgD a b)) : WL K T (tLstRg (tRg2 ta tb)) ρ Pl := fun ⦃A B dc C H σ α⦄ R Q q =>
  h R _ fun g v C1 H1 h1 R1 e1 a1 => h1 R1 _ fun g2 w C2 H2 ⟨a, b, ha, hb, a0, a1', b0, b1, h2⟩ R2 e2 a2 => by
    subst ha hb
    obtain rfl := ag_int a1
    obtain rfl := ag_int a2
    exact ⟨a, b, rfl, rfl, RgOk.of_le a0 (by omega) (by omega) b0, wl_new R2 (e1.trans e2) dz_rg h2 q⟩
theorem ws_sub {ts : TS} {N : Nd} (ρ' : List Sl) (h : Sub ρ ρ') (k : WS K T ts ρ' N) : WS K T ts ρ N := fun ⦃A B dc C H σ α D⦄ R tie => k (R.sub h) tie
theorem rgD_nat (n : Nat) : rgD 0 (n : Int) = (List.range n).map fun k : Nat => Dt.int (k : Int) := by
  unfold rgD
  rw [show ((n : Int) - 0).toNat = n by omega]
  exact List.map_congr_left fun i _ => by rw [Int.zero_add]
/-- a loop over a list whose invariant is told behind the list -/
theorem ws_forLx {tl : TE} {tb : TS} {N : Nd} (h : WE K T tl ρ fun x => ∃ l, x = .dat (.lst l) ∧ ∃ I : Nat → List Sl → Prop, I 0 ρ ∧ (∀ i d ρ', l[i]? = some d → I i ρ' → WG K T g d ρ' fun ρ2 => WS K T tb ρ2 { N with nx := Wk (I (i + 1)), ct := Wk (I (i + 1)), bk := N.nx }) ∧ ∀ ρ', I l.length ρ' → N.nx ρ') :
    WS K T (tFor (iList K tl) g tb) ρ N := fun ⦃A B dc C H σ α D⦄ R tie =>
  h R _ fun x v C1 H1 ⟨l, hx, I, h0, hs, hd⟩ R1 e1 a1 => by
    subst hx
    cases (show Dz K C1 v (.lst l) from a1) with
    | @lst a vs _ g1 g2 =>
      have hl : vs.length = l.length := g2.len
      refine ⟨a, rfl, ⟨vs, SqL.of (R1.okC.ex _ _ g1)⟩, for_core (walk_list (K := K) (a := a) (xs := vs)) R1 tie I (fun i d => l[i]? = some d) (fun R' => SqL.of (R'.okC.ex _ _ (R'.eA _ _ g1))) (fun hi R' hy => ?_) h0 (fun i d ρ' hi hd' hI => hs i d ρ' hd' hI) (fun ρ' hI => hd ρ' (hl ▸ hI))⟩
      obtain ⟨rfl, hx⟩ := hy
      obtain ⟨d, h3, h4⟩ := g2.get hx
      exact ⟨_, d, h3, R', Evl.Ex.refl _, h4.up R'.eA⟩
end
end Ub

namespace Ub
open PySem PySem.Spec PyProof.Rows L2
section
variable {K : PySem.W.Frag} {T : Tb} {A B : Hp} {dc : Option Addr} {C H : Hp} {σ : L2.St} {ρ : List Sl} {α : Nat → Addr} {tas : TA} {N : Nd}
/-- a, b = x, y -/
theorem ws_par {i j : Nat} (h : WA K T tas ρ fun gs => ∃ d e, gs = [.dat d, .dat e] ∧ N.nx ((ρ.set i (Sl.dat d)).set j (Sl.dat e))) : WS K T (tPar i j tas) ρ N := fun ⦃A B dc C H σ α D⦄ R tie =>
  h R _ fun gs vs C1 H1 ⟨d, e, hg, p⟩ R1 e1 a1 => by
    subst hg
    obtain ⟨v, w, rfl, h1, h2⟩ := ags2 a1
    exact ⟨v, w, rfl, tie.nx p ((R1.setD h1).setD h2)⟩
end
end Ub

namespace Ub
open PySem PySem.Spec PyProof.Rows L2
/-! ### kinds, None, in, index -/
def Dt.knd : Dt → String
  | .non => "NoneType" | .bl _ => "bool" | .int _ => "int" | .str _ => "str" | .lst _ => "list" | .tup _ => "tuple" | .obj _ _ => "" | .lam _ => "" | .exc _ _ _ => "" | .clo _ _ => ""
def Dt.isNon : Dt → Bool
  | .non => true | _ => false
def Dt.isObj : Dt → Bool
  | .obj _ _ => true | .lam _ => true | .exc _ _ _ => true | .clo _ _ => true | _ => false
def Dt.tru : Dt → Bool
  | .non => false | .bl b => b | .int i => i != 0 | .str s => (s.length : Int) != 0 | .lst l => !l.isEmpty | .tup l => !l.isEmpty | .obj _ _ => false | .lam _ => false | .exc _ _ _ => false | .clo _ _ => false
section
variable {K : PySem.W.Frag} {T : Tb} {A B : Hp} {dc : Option Addr} {C H : Hp} {σ : L2.St} {ρ : List Sl} {α : Nat → Addr} {P : Ag → Prop} {Pl : List Dt → Prop} {Pb : Bool → Prop} {ta tb tc te tl : TE} {t u tt : TT} {g : TG} {tas : TA} {N : Nd}
theorem sqT_ty {a : Addr} {xs : List V} (h : SqT K H a xs) : TyX K H (.ref a) (.type "tuple") := by
  rcases h with (h | ⟨o, h⟩) | ⟨o, its, n, h1, h2, _⟩
  · exact .base (.tup h)
  · exact .fTuple h
  · exact .kTuple h1 h2
theorem flat_v {v : V} {d : Dt} (h : Dz K C v d) (f : d.flat = true) : v = d.v := by
  cases h <;> first | rfl | cases f
theorem flat_vs : ∀ {vs : List V} {ds : List Dt}, DzA K C vs ds → ds.all Dt.flat = true → vs = ds.map Dt.v
  | _, _, .nil, _ => rfl
  | _, _, .cons h t, f => by
    rw [List.all_cons, Bool.and_eq_true] at f
    rw [List.map_cons, flat_v h f.1, flat_vs t f.2]
theorem flat_flat {d : Dt} (f : d.flat = true) : flatV d.v = true := by
  cases d <;> first | rfl | cases f
theorem flats_flat {ds : List Dt} (f : ds.all Dt.flat = true) : (ds.map Dt.v).all flatV = true := by
  rw [List.all_eq_true] at f ⊢
  intro x hx
  obtain ⟨d, hd, rfl⟩ := List.mem_map.mp hx
  exact flat_flat (f d hd)
theorem ag_ty (R : Rep K T A B dc C H σ ρ α) {x : Ag} {v : V} {d : Dt} (h : AgAt K C ρ α x v) (hd : agD ρ x = some d) (no : d.isObj = false) : TyX K H v (.type d.knd) := by
  cases x with
  | slot i =>
    obtain ⟨rfl, l, hl⟩ := h
    simp only [agD, hl] at hd
    cases hd
    obtain ⟨_, _, _, _, vs, h5, _⟩ := R.ow hl
    exact .base (.lst h5)
  | dat d' =>
    cases hd
    cases (show Dz K C v d from h) with
    | non => exact .base .non
    | bl b => exact .base (.bl b)
    | int i => exact .base (.int i)
    | str s => exact .base (.str s)
    | lst h1 h2 => exact .base (.lst (R.okC.ex _ _ h1))
    | tup h1 h2 => exact sqT_ty (R.okC.st h1)
    | obj _ _ => cases no
    | lam _ _ _ => cases no
    | exc _ => cases no
    | clo _ _ _ _ _ _ => cases no
theorem we_isi {U : String} (h : WE K T te ρ fun g => ∃ d b, agD ρ g = some d ∧ d.isObj = false ∧ kitB d.knd U = some b ∧ P (.dat (.bl b))) : WE K T (tCB (rIsi K) (tCons te (tCons (tC (.ty U)) tNil))) ρ P := fun ⦃A B dc C H σ α⦄ R Q q =>
  h R _ fun g v C1 H1 ⟨d, b, hd, no, hb, p⟩ R1 e1 a1 => ⟨v, .ty U, .type d.knd, .type U, b, rfl, .ty U, ag_ty R1 a1 hd no, kit_ty hb, q _ _ C1 H1 p R1 e1 (.bl b)⟩
theorem ag_non_iff (R : Rep K T A B dc C H σ ρ α) {x : Ag} {v : V} {d : Dt} (h : AgAt K C ρ α x v) (hd : agD ρ x = some d) : decide (v = .non) = d.isNon := by
  cases x with
  | slot i =>
    obtain ⟨rfl, l, hl⟩ := h
    simp only [agD, hl] at hd
    cases hd
    rfl
  | dat d' =>
    cases hd
    cases (show Dz K C v d from h) <;> rfl
theorem wr_isN {x : Ag} {d : Dt} (hd : agD ρ x = some d) (p : P (.dat (.bl d.isNon))) : WR K T rIsN ρ x (.dat .non) P := fun ⦃A B dc C H σ α v w⦄ R hv hw Q q => by
  obtain rfl := ag_non hw
  refine ⟨rfl, ?_⟩
  rw [ag_non_iff R hv hd]
  exact q _ _ C H p R (Evl.Ex.refl _) (.bl _)
theorem wr_notN {x : Ag} {d : Dt} (hd : agD ρ x = some d) (p : P (.dat (.bl (!d.isNon)))) : WR K T rNotN ρ x (.dat .non) P := fun ⦃A B dc C H σ α v w⦄ R hv hw Q q => by
  obtain rfl := ag_non hw
  refine ⟨rfl, ?_⟩
  rw [ag_non_iff R hv hd]
  exact q _ _ C H p R (Evl.Ex.refl _) (.bl _)
theorem wr_inF {neg : Bool} {x : Dt} {y : Ag} {l : List Dt} (fx : x.flat = true) (hy : agD ρ y = some (.lst l)) (fl : l.all Dt.flat = true) (p : P (.dat (.bl (if neg then !inV x.v (l.map Dt.v) else inV x.v (l.map Dt.v))))) : WR K T (rIn K neg) ρ (.dat x) y P := fun ⦃A B dc C H σ α v w⦄ R hv hw Q q => by
  obtain rfl := flat_v (show Dz K C v x from hv) fx
  obtain ⟨a, vs, rfl, h1, h2⟩ := ag_list R hw hy
  obtain rfl := flat_vs h2 fl
  exact ⟨a, _, rfl, .inl (SqL.of h1), flat_flat fx, flats_flat fl, q _ _ C H p R (Evl.Ex.refl _) (.bl _)⟩
theorem wr_inFT {neg : Bool} {x : Dt} {y : Ag} {l : List Dt} (fx : x.flat = true) (hy : agD ρ y = some (.tup l)) (fl : l.all Dt.flat = true) (p : P (.dat (.bl (if neg then !inV x.v (l.map Dt.v) else inV x.v (l.map Dt.v))))) : WR K T (rIn K neg) ρ (.dat x) y P := fun ⦃A B dc C H σ α v w⦄ R hv hw Q q => by
  obtain rfl := flat_v (show Dz K C v x from hv) fx
  obtain ⟨a, vs, rfl, h1, h2⟩ := ag_tup R hw hy
  obtain rfl := flat_vs h2 fl
  exact ⟨a, _, rfl, .inr h1, flat_flat fx, flats_flat fl, q _ _ C H p R (Evl.Ex.refl _) (.bl _)⟩
theorem we_index (h : WE K T tl ρ fun g => ∃ l, agD ρ g = some (.lst l) ∧ WE K T te ρ fun y => ∃ (d : Dt) (j : Nat) (z : Dt), y = .dat d ∧ d.flat = true ∧ l.all Dt.flat = true ∧ l[j]? = some z ∧ eqV z.v d.v = true ∧ (∀ (m : Nat) z', m < j → l[m]? = some z' → eqV z'.v d.v = false) ∧ P (.dat (.int j))) :
    WE K T (tBM K "list" (rIndex K) tl (tCons te tNil)) ρ P := fun ⦃A B dc C H σ α⦄ R Q q =>
  h R _ fun g v C1 H1 ⟨l, hl, h2⟩ R1 e1 a1 => by
    obtain ⟨a, vs, rfl, g1, g2⟩ := ag_list R1 a1 hl
    refine ⟨.inl ⟨rfl, vs, SqL.of g1⟩, h2 R1 _ fun y w C2 H2 ⟨d, j, z, hy, fd, fl, hz, he, hn, p⟩ R2 e2 a2 => ?_⟩
    subst hy
    obtain ⟨a', vs2, e, k1, k2⟩ := ag_list R2 (a1.up e2) hl
    cases e
    obtain rfl := flat_vs k2 fl
    obtain rfl := flat_v (show Dz K C2 w d from a2) fd
    refine ⟨a, _, _, j, z.v, rfl, rfl, SqL.of k1, flat_flat fd, flats_flat fl, by rw [List.getElem?_map, hz]; rfl, he, fun m z' hm hz' => ?_, q _ _ C2 H2 p R2 (e1.trans e2) (.int _)⟩
    obtain ⟨z2, hz2, rfl⟩ := mp_at hz'
    exact hn m z2 hm hz2
/-! ### truth -/
theorem ag_tru (R : Rep K T A B dc C H σ ρ α) {x : Ag} {v : V} {d : Dt} (h : AgAt K C ρ α x v) (hd : agD ρ x = some d) (no : d.isObj = false) (hs : ∀ s, d = .str s → s.length ≤ 100000) : TruV K v H d.tru := by
  cases x with
  | slot i =>
    obtain ⟨rfl, l, hl⟩ := h
    simp only [agD, hl] at hd
    cases hd
    obtain ⟨_, _, _, _, vs, h5, h6⟩ := R.ow hl
    refine .inl ⟨vs, SqL.of h5, ?_⟩
    show (!l.isEmpty) = _
    cases h6 <;> rfl
  | dat d' =>
    cases hd
    cases (show Dz K C v d from h) with
    | non => rfl
    | bl b => rfl
    | int i => rfl
    | str s => exact ⟨sz3 (hs s rfl), rfl⟩
    | @lst a vs l h1 h2 =>
      refine .inl ⟨vs, SqL.of (R.okC.ex _ _ h1), ?_⟩
      show (!l.isEmpty) = _
      cases h2 <;> rfl
    | @tup a vs l h1 h2 =>
      refine .inr (.inl ⟨vs, R.okC.st h1, ?_⟩)
      show (!l.isEmpty) = _
      cases h2 <;> rfl
    | obj _ _ => cases no
    | lam _ _ _ => cases no
    | exc _ => cases no
    | clo _ _ _ _ _ _ => cases no
theorem wt_tru (h : WE K T te ρ fun g => ∃ d, agD ρ g = some d ∧ d.isObj = false ∧ (∀ s, d = .str s → s.length ≤ 100000) ∧ Pb d.tru) : WT K T (tTru K te) ρ Pb := fun ⦃A B dc C H σ α⦄ R Q q =>
  h R _ fun g v C1 H1 ⟨d, hd, no, hs, p⟩ R1 e1 a1 => ⟨d.tru, ag_tru R1 a1 hd no hs, q _ C1 H1 p R1 e1⟩
/-- both ways of a statement go on alike -/
theorem ws_join {ts us : TS} (J : List Sl → Prop) (h : WS K T ts ρ { N with nx := J }) (k : ∀ ρ', J ρ' → WS K T us ρ' N) : WS K T (tSeq ts us) ρ N := fun ⦃A B dc C H σ α D⦄ R tie =>
  h R ⟨fun p R' => k _ p R' tie, tie.rt, tie.bk, tie.ct, tie.ex⟩
end
end Ub

namespace Ub
open PySem PySem.Spec PyProof.Rows L2
/-! ### an own error's __init__ that begins with super().__init__(text) -/
def supCx (P : Program) (w : World) (K : PySem.W.Frag) (mg : Str → Option Value) (base : Heap) (N : List Str) (qual : Str) (scope : Scope) (f : Addr) (cd : Value) (cc : Addr) (A : Around) (outer : List Env) (s : Shared) (H : Hp) : Cx :=
  { prog := P, w := w, K := K, mg := mg, base := base, A := A.deeper (PySem.W.ksEnv qual scope s.heap.objs.size f cd cc), N := N, s_0 := s, H_0 := H, env := PySem.W.ksEnv qual scope s.heap.objs.size f cd cc,
    outer := outer, stack := PySem.W.ksEnv qual scope s.heap.objs.size f cd cc :: outer, ex := [], calm := true, fn := fun _ => false, pn := [], xe := fun _ _ => False }
theorem zip_back {ps : List Str} : ∀ {us : List Value} {i : Nat} {y : Str} {u : Value}, ps.Nodup → ps[i]? = some y → us[i]? = some u → (ps.zip us).reverse.lookup y = some u := by
  intro us i y u nd hp hu
  have key : ∀ l : List (Str × Value), (l.map (·.1)).Nodup → (y, u) ∈ l → l.lookup y = some u := by
    intro l
    induction l with
    | nil => intro _ h; cases h
    | cons q l ih =>
      intro hn hm
      obtain ⟨z, v⟩ := q
      rw [List.map_cons, List.nodup_cons] at hn
      rcases List.mem_cons.mp hm with e | e
      · cases e
        simp [List.lookup]
      · have ne : y ≠ z := fun q => hn.1 (List.mem_map.mpr ⟨(y, u), e, q⟩)
        have nb : (y == z) = false := by simpa using ne
        simp only [List.lookup, nb]
        exact ih hn.2 e
  refine key _ ?_ ?_
  · have h1 : ((ps.zip us).map (·.1)).Nodup := by
      refine nd.sublist ?_
      clear hp hu key nd
      induction ps generalizing us with
      | nil => simp
      | cons a ps ih =>
        cases us with
        | nil => simp
        | cons b us => simpa using ih
    rw [List.map_reverse]
    exact (List.reverse_perm _).nodup_iff.mpr h1
  · rw [List.mem_reverse]
    refine List.mem_of_getElem? (i := i) ?_
    rw [List.getElem?_zip_eq_some]
    exact ⟨hp, hu⟩
/-- what a scope of such an __init__ is -/
structure SupS (ps : List Str) (scope : Scope) : Prop where
  kind : scope.kind = .function
  co : scope.isCoroutine = false
  gen : scope.isGenerator = false
  nocell : ∀ y ∈ scope.names, y.2 ≠ .cell
  free : ∀ y ∈ scope.names, y.2 = .free → y.1 = ("__class__" : Str)
  par : ∀ y ∈ ps, scope.names.lookup y = some .local
  ks : scope.names.lookup ("super" : Str) = some .globalImplicit
  kc : scope.names.lookup ("__class__" : Str) = some .free
  nd : ps.Nodup
section
variable {P : Program} {w : World} {K : PySem.W.Frag} {mg : Str → Option Value} {base : Heap} {ps : List Str} {qual : Str} {scope : Scope} {f cc : Addr} {cd : Value} {A : Around} {outer : List Env} {s s1 : Shared} {H : Hp} {us : List Value} {vs : List V} {v0 : Option Value}
theorem sup_start {h₁ : Heap} {tk : Nat} (S : SupS ps scope) (hd : A.handled = none) (e0 : Env0 P w K mg base A outer s H) (hl : vs.length = ps.length) (r : Vals vs us) (hcell : base.IsCell cc v0)
    (hns : h₁.Ns s.heap.objs.size fun y => (ps.zip us).reverse.lookup y) (kp : ∀ b o, s.heap.get? b = some o → h₁.get? b = some o) :
    Inv (supCx P w K mg base ps qual scope f cd cc A outer s H) [] (L2.start ps vs) H { s with heap := h₁, toks := tk } := by
  obtain ⟨occ, hcc, dcc⟩ := hcell
  have noA : ∀ b : Addr, b ∉ (supCx P w K mg base ps qual scope f cd cc A outer s H).ex := fun b z => absurd (show b ∈ ([] : List Addr) from z) (by simp)
  have lk1 : ∀ {y : Str} {c : Addr}, ([(("__class__" : Str), cc)] : List (Str × Addr)).lookup y = some c → y = ("__class__" : Str) ∧ c = cc := fun {y c} e => by
    have z := PySem.mem_of_lookup e
    simpa using z
  refine ⟨⟨e0.mod, S.kind, rfl, rfl, Nat.le_refl _, fun y z c h1 h2 => ((lk1 h1).1).trans ((lk1 h2).1).symm, fun y hy => ?_, fun y c z _ => Bool.noConfusion (show false = true from z), fun _ => hd, Around.frames_deeper e0.frames, .inr ⟨rfl, rfl⟩, fun b z => absurd z (noA b), e0.bs, e0.bsz, fun b _ _ => noA b,
      fun b z => absurd z (noA b), e0.funs, e0.frf⟩,
    rfl, e0.bare, Un.kept kp, ⟨_, hns, fun i y v h1 h2 h3 => ?_⟩, fun y c e => ?_, e0.hok.fresh (Nat.le_refl _), fun y c e => ?_, fun q hq => absurd (show q ∈ ([] : List (Addr × Obj)) ++ [] from hq) (by simp), e0.hok.kept kp, by simp [L2.start, hl, supCx]⟩
  · have hy : scope.names.lookup y = some .cell ∨ scope.names.lookup y = some .free := hy
    rcases hy with hy | hy
    · exact absurd rfl (S.nocell _ (PySem.mem_of_lookup hy))
    · have e : y = ("__class__" : Str) := S.free _ (PySem.mem_of_lookup hy) rfl
      subst e
      exact ⟨cc, by show ([(("__class__" : Str), cc)] : List (Str × Addr)).lookup ("__class__" : Str) = some cc; simp [List.lookup]⟩
  · have hy : ps[i]? = some y := h1
    have ha : vs[i]? = some v := by
      unfold L2.start at h2
      rw [show ps.length - vs.length = 0 by omega] at h2
      simp only [List.replicate_zero, List.append_nil, List.getElem?_map] at h2
      cases e : vs[i]? with
      | none => rw [e] at h2; cases h2
      | some a => rw [e] at h2; cases h2; rfl
    obtain ⟨u, hu, rv⟩ := r.get ha
    exact ⟨u, rv, .inl ⟨S.par y (List.mem_of_getElem? hy), zip_back S.nd hy hu⟩⟩
  · obtain ⟨_, rfl⟩ := lk1 e
    exact ⟨v0, occ, kp _ _ (e0.bs _ _ hcc).1, dcc⟩
  · obtain ⟨_, rfl⟩ := lk1 e
    exact (e0.bs _ _ hcc).2
/-- what the top tells of such a class -/
structure SupC (P : Program) (K : PySem.W.Frag) (mg : Str → Option Value) (C cc cda : Addr) : Prop where
  ex : OexC K C
  cell : ∃ cl cld csl, K.lookup cc = some ⟨cl, cld, .cell (some (.ref C)), csl⟩
  code : ∃ ccl cdd vs ccs file tf, K.lookup cda = some ⟨ccl, cdd, .fields vs, ccs⟩ ∧ vs[2]? = some (.str file tf) ∧ ((P.main.file : Str) == file) = true
  sub : PySem.W.mroIn K C (.ref C) = some true
  blt : mg "super" = none
  st : PySem.W.nsIn K cStatics "thirdparty.any" = some none
  ini : PySem.W.ks_superIn K C C "__init__" = some (some (.builtin "ValueError.__init__"))
  ve : PySem.W.subIn K (.ref C) (.type "ValueError") = some true
  top : (P.main.scope.names.lookup ("super" : Str)).isSome = false
theorem cls_of {C : Addr} (T : OexC K C) : ∃ oD cd, K.lookup C = some oD ∧ oD.data = .cls cd ∧ PySem.W.clsIn K C = some cd := by
  obtain ⟨nm, q, N, bs, bm, sn, sub, ab, col, dd, k0, k1, k2, k3, k5, hC, _⟩ := T.cls
  refine ⟨_, _, hC, rfl, ?_⟩
  unfold PySem.W.clsIn
  rw [hC] <;> rfl
/-- the bound ValueError.__init__ called -/
theorem mw_call {X : Cx} {pins : List (Addr × Obj)} {σ : L2.St} {H : Hp} {s : Shared} {a u C : Addr} {us : List Value} {Q : Value → Shared → Prop} {E : Value → Shared → Prop} {A : Around} (T : OexC X.K C) (I : Inv X pins σ H s) (e : H a = some (exo a C none)) (hu : s.heap.get? u = some (PySem.W.kxs_mw "ValueError.__init__" a)) (hz : us.length ≤ sizeLine)
    (h : ∀ s', Inv X pins σ H s' → Q .none s') : wpAny (model X.prog X.w) A (call (.ref u) us) Q E s := by
  obtain ⟨nm, q, N, bs, bm, sn, sub, ab, col, dd, k0, k1, k2, k3, k5, hC, hbm⟩ := T.cls
  obtain ⟨t1, ho⟩ := exo_at I.hok e
  have hCs := I.kIn _ _ hC
  obtain ⟨hp, g, d, t, os⟩ := s
  have eu : upd H a (exo a C none) = H := funext fun b => by
    by_cases hb : b = a
    · rw [hb, upd_same, e]
    · exact upd_ne hb
  have fin : ∀ h', (∀ b o, b ≠ a → hp.get? b = some o → h'.get? b = some o) → h'.get? a = some (PySem.W.excObj C hp.objs.size none .none) → h'.get? hp.objs.size = some (PySem.W.excTup us) → Q .none ⟨h', g, d, t, os⟩ := fun h' k ea _ => by
    have J := I.write (t' := t) (x := a) (e := a) (o := exo a C none) (by rw [e]; exact True.intro) (.inl rfl) k ⟨_, ea⟩ (exo_ok ea)
    rw [eu] at J
    exact h _ J
  have tt : (Value.type "method-wrapper" == Value.type "method" || Value.type "method-wrapper" == Value.type "builtin_function_or_method" || Value.type "method-wrapper" == Value.type "method-wrapper") = true := by decide
  refine wpAny_call (codeAny_of_tree ?_)
  show wpAny _ A.in1 (callAny (.ref u) ⟨us, []⟩) _ _ _
  simp only [callAny]
  refine wpAny_bind (wpAny_load hu ?_)
  simp only [PySem.W.kxs_mw, tt, if_true]
  refine PySem.W.KFB.if_so (by decide) ?_
  refine wpAny_bind (PySem.W.check_bound_init F.excBase_ValueError.toExcCallFacts hCs ho rfl ?_)
  refine wpAny_bind (wpAny_pure (wpAny_pure ⟨plainId_quiet F.excBase_ValueError.init.plain _, codeAny_builtin F.excBase_ValueError.initEntry ?_⟩))
  exact PySem.W.exc_init_tree (cls := .ref C) (t0 := t1) (dv := none) (c2 := .none) (c3 := .none) (b4 := .bool false) ho hz fin
/-- super().__init__(e) -/
theorem sup_stmt {X : Cx} {pins : List (Addr × Obj)} {σ : L2.St} {H : Hp} {s : Shared} {a C f cc cda : Addr} {fd : FuncData} {ar : Arg} {e : Expr} {te : TE} {body : List Stmt} {p0 p1 pa pc pe : Pos} {oc : Value} {od : Option Addr} {osl : Array (Option Value)} {Q : Flow → Shared → Prop} {E : Value → Shared → Prop} {pl : Sem Bool}
    (SC : SupC X.prog X.K X.mg C cc cda) (I : Inv X pins σ H s) (ea : H a = some (exo a C none)) (hσ : ∃ i : Nat, X.N[i]? = some ar.arg ∧ σ[i]? = some (some (.ref a))) (hva : X.env.scope.names.lookup ar.arg = some .local)
    (hfu : X.env.func = some f) (hf : X.K.lookup f = some ⟨oc, od, .func fd, osl⟩) (hp : (fd.params.posonlyargs ++ fd.params.args).head? = some ar) (hco : X.env.code = .ref cda) (hks : X.env.kindOf "super" = some .globalImplicit) (hkc : X.env.kindOf "__class__" = some .free) (hcl : X.env.cells.lookup ("__class__" : Str) = some cc)
    (he : PE X e te) (ht : tCons te tNil σ H fun vs H1 => (∃ y, vs = [.str y]) ∧ H1 = H) (hi : interactive X.env = false) (hst : starEach [e] X.env = (false, eval e X.env) :: starEach [] X.env) (hpl : (backTo pc (starEach [] X.env)).any (·.1) = false) (hq : ∀ s', Inv X pins σ H s' → Q .next s') (hxe : X.xe = E)
    (hs : swapsWith (.Call (.Attribute (.Call (.Name "super" p0) [] [] p1) "__init__" pa) [e] [] pc) none pe.line X.env = pure false)
    (hev : eval (.Call (.Attribute (.Call (.Name "super" p0) [] [] p1) "__init__" pa) [e] [] pc) X.env = (do
      let base ← attributeBase (.Call (.Name "super" p0) [] [] p1) "__init__" X.env (eval (.Call (.Name "super" p0) [] [] p1) X.env)
      standAt pa.atName
      let (fn, first) ← holding [base] (getMethod base "__init__" pl)
      callWith pc fn first (backTo pc (starEach [e] X.env)) [])) :
    _root_.PySem.wpAt (model X.prog X.w) X.A (.func body X.env) (exec (.Expr (.Call (.Attribute (.Call (.Name "super" p0) [] [] p1) "__init__" pa) [e] [] pc) pe) X.env) Q E s := by
  obtain ⟨i, hN, hi2⟩ := hσ
  subst hxe
  refine ks_wpAt_Expr_any ?_ hi hs
  refine ks_wpAt_MethodCall (pl := pl) ?_ hev
  obtain ⟨ccl, cdd, vs, ccs, file, tf, hcda, hvs, hfile⟩ := SC.code
  obtain ⟨oD, cd, hD1, hD2, hcls⟩ := cls_of SC.ex
  obtain ⟨cl, cld, csl, hcell⟩ := SC.cell
  have X1 := I.kIn
  refine ks_wpAt_super_base hks hkc (by decide) hfu (X1 _ _ hf) rfl hp hco (X1 _ _ hcda) rfl hvs hfile SC.top ?_
  obtain ⟨mb, b1, b2⟩ := I.mod.blt
  refine PySem.W.ks_loadName_global I.ok.kind hks (Calls.loadGlobal_builtin (by rw [I.ok.glob]; exact I.mod.glob.keeps I.bk) SC.blt (by rw [I.ok.blt]; exact b1.keeps I.bk) ((b2 "super" (by decide)).trans (by decide +kernel)) ⟨rfl, ?_⟩)
  refine wpAny_loadName_free I.ok.kind hkc hcl ⟨_, X1 _ _ hcell, rfl⟩ ?_
  obtain ⟨m, hns, hloc⟩ := I.loc
  obtain ⟨u, ru, lk⟩ := hloc i _ _ hN hi2 (.inl hva)
  cases (show u = Value.ref a from ru)
  have hm : m ar.arg = some (.ref a) := by
    rcases lk with ⟨_, h⟩ | ⟨h, _⟩
    · exact h
    · have h2 : X.env.scope.names.lookup ar.arg = some .cell ∨ X.env.scope.names.lookup ar.arg = some .free := h
      rw [hva] at h2
      rcases h2 with z | z <;> cases z
  refine wpAny_loadName_local I.ok.kind hva hns hm ?_
  obtain ⟨t1, ho⟩ := exo_at I.hok ea
  obtain ⟨hp0, g, d, t, os⟩ := s
  have hDs := X1 _ _ hD1
  refine ks_wpAny_isType_cls hDs hD2 ⟨rfl, ?_⟩
  refine ks_wpAny_call_super hDs hD2 ho rfl (fun c z => by cases z) (PySem.W.looks_mroIn X1 SC.sub) fun h1 eso k1 => ?_
  -- the super object stands
  have I1 : Inv X pins σ H ⟨h1, g, d, t, os⟩ := I.kept (t' := t) k1
  have X2 := I1.kIn
  have IA : PySem.W.InstAt h1 a ({ cls := .ref C, data := .fields #[.ref t1, .none, .none, .none, .bool false, .none] } : Obj) C none := ⟨k1 _ _ ho, rfl, rfl, trivial⟩
  have hin := SC.ini
  unfold PySem.W.ks_superIn at hin
  rw [hcls] at hin
  refine PySem.W.kxs_getMethod PySem.W.kxs_ValueError eso (PySem.W.looks_opaque X2 SC.st) ((PySem.W.looks_clsIn X2 hcls).andThen .now) rfl X2 hin (IA.type.andThen (PySem.W.looks_subIn X2 SC.ve)) (PySem.W.ks_ne X2 IA hcls) (by decide) ?_
  have I2 : Inv X pins σ H ⟨h1.push (PySem.W.kxs_mw "ValueError.__init__" a), g, d, t + 1, os⟩ := I1.kept (t' := t + 1) fun b o z => Heap.get?_push_of_some _ z
  have hu : (h1.push (PySem.W.kxs_mw "ValueError.__init__" a)).get? h1.objs.size = some (PySem.W.kxs_mw "ValueError.__init__" a) := Heap.get?_push_size _ rfl
  have nu : H h1.objs.size = none := I1.hok.fresh (Nat.le_refl _)
  have Ip : Inv X ((h1.objs.size, PySem.W.kxs_mw "ValueError.__init__" a) :: pins) σ H ⟨h1.push (PySem.W.kxs_mw "ValueError.__init__" a), g, d, t + 1, os⟩ := I2.pins_of fun r hr => by
    rcases List.mem_cons.mp hr with z | z
    · rw [z]
      exact ⟨hu, nu, fun z2 => Nat.lt_irrefl _ (by have h := I1.lt; rw [← z2] at h; exact h), I1.nofs (Nat.le_refl _), fun v z2 => by cases z2⟩
    · exact I2.pin r (List.mem_append_right _ z)
  have ha : PA X [e] (tCons te tNil) := pa_cons he pa_nil (by rw [hst])
  have run := ha.run pc _ _ σ H (fun vs H1 => (∃ y, vs = [.str y]) ∧ H1 = H) Ip ht
  show wpAny _ _ (callWith pc _ _ (backTo pc (starEach [e] X.env)) []) _ _ _
  rw [hst] at run ⊢
  refine PySem.W.kxs_callWith (i := "ValueError.__init__") (x := a) (by show (false || (backTo pc (starEach [] X.env)).any (·.1)) = false; rw [hpl]; rfl) (PySem.Calls.evalArgs_plain ?_)
  refine thn run fun us s1 hh => ?_
  obtain ⟨vs1, H1, J, r1, ⟨y, ev⟩, eH⟩ := hh
  subst ev
  rw [eH] at J
  have P1 := J.pin _ (List.mem_append_right _ List.mem_cons_self)
  have J2 : Inv X pins σ H s1 := J.pins_of fun r hr => J.pin r (List.mem_append_right _ (List.mem_cons_of_mem _ hr))
  refine ⟨P1.1, ?_⟩
  show wpAny _ _ (call (.ref h1.objs.size) ([] ++ us)) _ _ _
  rw [List.nil_append]
  exact mw_call SC.ex J2 ea P1.1 (by rw [← r1.length]; exact Nat.le_trans (show 1 ≤ 1000 by decide) (by decide)) hq
theorem fn_sup {CX : CXT} {C cda : Addr} {ar : Arg} {e : Expr} {te : TE} {tr : TS} {body rest : List Stmt} {p0 p1 pa pc pe : Pos} {oc dV kV doc pm ct : Value} {od an : Option Addr} {osl : Array (Option Value)} {name : Str} {params : Arguments} {k : Nat} {sp : Sp} {pl : Addr → Sem Bool}
    (lk : K.lookup f = some ⟨oc, od, .func (PySem.W.ksFn name qual params body scope dV kV doc pm an (.ref cda) ct cc), osl⟩) (hcd : PySem.W.codeIn K (.ref cda) qual = true) (S : SupS ps scope) (SC : SupC P K mg C cc cda) (hcb : base.IsCell cc v0)
    (hp : (params.posonlyargs ++ params.args).head? = some ar) (hp0 : ps[0]? = some ar.arg) (hb : body = .Expr (.Call (.Attribute (.Call (.Name "super" p0) [] [] p1) "__init__" pa) [e] [] pc) pe :: rest)
    (len : ∀ vs H Q E, sp vs H Q E → vs.length = ps.length)
    (he : ∀ (A : Around) (outer : List Env) (s : Shared) (H : Hp), PE (supCx P w K mg base ps qual scope f (.ref cda) cc A outer s H) e te) (hr : ∀ (A : Around) (outer : List Env) (s : Shared) (H : Hp), PSs (supCx P w K mg base ps qual scope f (.ref cda) cc A outer s H) rest tr)
    (hsp : ∀ vs H Q E, sp vs H Q E → ∃ a ws, vs = .ref a :: ws ∧ H a = some (exo a C none) ∧ (tCons te tNil (L2.start ps vs) H fun xs H1 => (∃ y, xs = [.str y]) ∧ H1 = H) ∧ tr { nx := fun _ H' => Q .non H', rt := Q } (L2.start ps vs) H)
    (hi : ∀ L, interactive (PySem.W.ksEnv qual scope L f (.ref cda) cc) = false) (hst : ∀ L, starEach [e] (PySem.W.ksEnv qual scope L f (.ref cda) cc) = (false, eval e (PySem.W.ksEnv qual scope L f (.ref cda) cc)) :: starEach [] (PySem.W.ksEnv qual scope L f (.ref cda) cc))
    (hpl : ∀ L, (backTo pc (starEach [] (PySem.W.ksEnv qual scope L f (.ref cda) cc))).any (·.1) = false)
    (hs : ∀ L, swapsWith (.Call (.Attribute (.Call (.Name "super" p0) [] [] p1) "__init__" pa) [e] [] pc) none pe.line (PySem.W.ksEnv qual scope L f (.ref cda) cc) = pure false)
    (hev : ∀ L, eval (.Call (.Attribute (.Call (.Name "super" p0) [] [] p1) "__init__" pa) [e] [] pc) (PySem.W.ksEnv qual scope L f (.ref cda) cc) = (do
      let base ← attributeBase (.Call (.Name "super" p0) [] [] p1) "__init__" (PySem.W.ksEnv qual scope L f (.ref cda) cc) (eval (.Call (.Name "super" p0) [] [] p1) (PySem.W.ksEnv qual scope L f (.ref cda) cc))
      standAt pa.atName
      let (fn, first) ← holding [base] (getMethod base "__init__" (pl L))
      callWith pc fn first (backTo pc (starEach [e] (PySem.W.ksEnv qual scope L f (.ref cda) cc))) [])) :
    FnOk P w K mg base CX (k + 1) f (PySem.W.ksFn name qual params body scope dV kV doc pm an (.ref cda) ct cc) ps sp := by
  refine ⟨len, fun A outer s H args us vs Q E hroom e0 hbi r hS => ?_⟩
  have hl := len _ _ _ _ hS
  obtain ⟨a, ws, hv, ea, hte, htr⟩ := hsp _ _ _ _ hS
  have kb : ∀ b o, base.get? b = some o → s.heap.get? b = some o := fun b o z => (e0.bs b o z).1
  have KX : K.In s.heap := e0.mod.kin.keeps kb
  refine ks_codeAny_call_defAt (fd := PySem.W.ksFn name qual params body scope dV kV doc pm an (.ref cda) ct cc) (body := body) (binds := ps.zip us) hroom.depth (KX _ _ lk) rfl (e0.mod.nolimit.keeps kb) (PySem.W.codeRec_of KX hcd) rfl hbi S.nocell
    (fun y hy => S.par _ (List.of_mem_zip (show (y.1, y.2) ∈ ps.zip us from hy)).1) (fun h1 hns kp => ?_) S.co S.gen S.kind
  have I : Inv (supCx P w K mg base ps qual scope f (.ref cda) cc A outer s H) [] (L2.start ps vs) H { s with heap := h1, toks := s.toks + (ps.zip us).length } := sup_start S hroom.hd e0 hl r hcb hns kp
  rw [hb]
  show _root_.PySem.wpAt (model (supCx P w K mg base ps qual scope f (.ref cda) cc A outer s H).prog (supCx P w K mg base ps qual scope f (.ref cda) cc A outer s H).w) (supCx P w K mg base ps qual scope f (.ref cda) cc A outer s H).A (.func _ (supCx P w K mg base ps qual scope f (.ref cda) cc A outer s H).env) (execs _ (supCx P w K mg base ps qual scope f (.ref cda) cc A outer s H).env) _ _ _
  refine ks_wpAt_mono (E := fun _ _ => False) (Q := fun fl s' => CR CX outer P w H s Q E (.ok (.ret (match fl with | .ret v => v | _ => .none))) s') (ks_wpAt_execs_cons ?_) (fun _ _ z => z) fun _ _ z => z.elim
  refine sup_stmt (X := supCx P w K mg base ps qual scope f (.ref cda) cc A outer s H) (f := f) (cc := cc) (pl := pl s.heap.objs.size) SC I ea ⟨0, hp0, ?_⟩ (S.par _ (List.mem_of_getElem? hp0)) rfl lk hp rfl S.ks S.kc (by show ([(("__class__" : Str), cc)] : List (Str × Addr)).lookup ("__class__" : Str) = some cc; simp [List.lookup]) (he A outer s H) hte (hi _) (hst _) (hpl _) (fun s2 I2 => ?_) rfl (hs _) (hev _)
  · rw [hv]
    rfl
  · refine wpAt_of_wpAny (wpAny_mono ((hr A outer s H).run [] s2 (L2.start ps vs) H _ I2 htr) (fun fl s' hs' => ?_) fun _ _ z => z)
    have out : ∀ {σ' : L2.St} {H' : Hp} {v : V} {u : Value}, Inv (supCx P w K mg base ps qual scope f (.ref cda) cc A outer s H) [] σ' H' s' → RelV v u → Q v H' → CE outer P w H s Q u s' := fun {σ' H' v u} J rv q => ⟨v, H', J.os, J.bare, J.base, J.hok, rv, q⟩
    cases fl with
    | ret u =>
      obtain ⟨v, σ', H', J, rv, q⟩ := hs'
      exact out J rv q
    | next =>
      obtain ⟨σ', H', J, q⟩ := hs'
      exact out (v := V.non) (u := Value.none) J rfl q
    | brk =>
      obtain ⟨_, _, _, q⟩ := hs'
      exact q.elim
    | cont =>
      obtain ⟨_, _, _, q⟩ := hs'
      exact q.elim
end
end Ub

namespace Ub
open PySem PySem.Spec PyProof.Rows L2
/-! ### such an error made and raised -/
def fmtOk : V → Prop
  | .int i => i.natAbs.log2 < 1920
  | .str y => y.length ≤ 1000
  | _ => False
/-- its __init__: the arguments become its fields -/
def spIni (C : Addr) (fns : List Str) : Sp := fun vs H Q _ => ∃ a ws, vs = .ref a :: ws ∧ ws.length = fns.length ∧ (∀ w ∈ ws, fmtOk w) ∧ H a = some (exo a C none) ∧
  ∀ dx H', H dx = none → dx ≠ a → H' a = some (exo a C (some dx)) → H' dx = some (exd dx (fns.zip ws).reverse) → (∀ b, b ≠ a → b ≠ dx → H' b = H b) → Q .non H'
/-- raise X(e, ..) -/
def tRaisM (C : Addr) (fns : List Str) (ta : TA) : L2.St → Hp → XK → Prop := fun σ H E => ta σ H fun vs H1 => vs.length = fns.length ∧ (∀ w ∈ vs, fmtOk w) ∧ ∀ d, H1 d = none → E (.ref C) (some d) (upd H1 d (.xd (fns.zip vs).reverse))
def tRais (C : Addr) (fns : List Str) (E : XK) (ta : TA) : TS := fun _ σ H => tRaisM C fns ta σ H E
/-- how a class's __init__ stands -/
structure IniC (P : Program) (w : World) (K : PySem.W.Frag) (mg : Str → Option Value) (base : Heap) (x : Str) (C : Addr) (ps fns : List Str) : Prop where
  ex : OexC K C
  gC : mg x = some (.ref C)
  fn : ∃ (fI : Addr) (fd : FuncData), PySem.W.findIn K (.ref C) "__init__" = some (some (.ref fI)) ∧ PySem.W.typeIn K (.ref fI) = some (.type "function") ∧ L2.Binds K fd ps [] ∧ FnOk P w K mg base CX0 1 fI fd ps (spIni C fns)
section
variable {X : Cx} {x : Str} {C : Addr} {ps fns : List Str} {e : Expr} {es : List Expr} {ta : TA} {p pos pos' : Pos} {E : XK}
theorem pmk_ini (T : IniC X.prog X.w X.K X.mg X.base x C ps fns) (hr : Room 2 X.A) (hg : Gl X x) (hf : fns.length ≤ 10) (hps : ps.length = fns.length + 1) (ha : PA X (e :: es) ta)
    (hdb : (x == ("__debug__" : Str)) = false := by decide) (he : starEach (e :: es) X.env = (false, eval e X.env) :: starEach es X.env := by rfl) (hpl : (backTo pos (starEach es X.env)).any (·.1) = false := by rfl) :
    L2N.PMk X (.Call (.Name x p) (e :: es) [] pos) (tRaisM C fns ta) := by
  intro pins s σ H Q I h
  obtain ⟨fI, fd, iC, tI, hb, F1⟩ := T.fn
  have exC := T.ex.exC
  have tyC := T.ex.tyC
  obtain ⟨nm, q, N, bs, bm, sn, sub, ab, col, dd, k0, k1, k2, k3, k5, hC, hbm⟩ := T.ex.cls
  refine wpAny_Call_Name_kw (ld_glob I hg T.gC ?_ hdb)
  refine PySem.W.callWith_K (h₀ := X.base) I.ok.mod.kin T.ex.kC (thn (ha.run pos pins s σ H _ I h) fun us s1 hh => ?_) he hpl
  obtain ⟨vs, H1, I1, r1, hl, hw, q1⟩ := hh
  refine ⟨I1.kIn, ?_⟩
  show wpAny _ _ (call (.ref C) us) _ _ _
  obtain ⟨hp, g, dr, tk, os⟩ := s1
  have hsz : hp.objs.size ≤ hp.objs.size + 1 := Nat.le_succ _
  have hn : H1 (hp.objs.size + 1) = none := I1.hok.fresh hsz
  have kk : ∀ b o, hp.get? b = some o → ((hp.push (PySem.W.kdv_tup us)).push (PySem.HandSPX.excO C hp.objs.size)).get? b = some o := fun b o z => Heap.get?_push_of_some _ (Heap.get?_push_of_some _ z)
  have hget : ((hp.push (PySem.W.kdv_tup us)).push (PySem.HandSPX.excO C hp.objs.size)).get? (hp.objs.size + 1) = some (PySem.HandSPX.excO C hp.objs.size) := by heap_get
  have I2 : Inv X pins σ (upd H1 (hp.objs.size + 1) (exo (hp.objs.size + 1) C none)) ⟨(hp.push (PySem.W.kdv_tup us)).push (PySem.HandSPX.excO C hp.objs.size), g, dr, tk, os⟩ := I1.laid (t' := tk) (o := exo (hp.objs.size + 1) C none) kk hsz (exo_ok hget)
  have r2 : Vals (V.ref (hp.objs.size + 1) :: vs) (Value.ref (hp.objs.size + 1) :: us) := .cons rfl r1
  have hul : us.length = fns.length := by rw [← r1.length]; exact hl
  have hus : us.length ≤ sizeLine := by rw [sizeLine_eq]; omega
  have hlen : (Value.ref (hp.objs.size + 1) :: us).length = ps.length := by
    rw [hps, ← hul]
    rfl
  generalize ha0 : hp.objs.size + 1 = a at *
  have hsp : spIni C fns (V.ref a :: vs) (upd H1 a (exo a C none)) (fun v H2 => v = .non ∧ ∃ dx, H1 dx = none ∧ dx ≠ a ∧ H2 a = some (exo a C (some dx)) ∧ H2 dx = some (exd dx (fns.zip vs).reverse) ∧ upd (del H2 a) dx (.xd (fns.zip vs).reverse) = upd H1 dx (.xd (fns.zip vs).reverse)) (fun _ _ _ => False) := by
    refine ⟨a, vs, rfl, hl, hw, upd_same, fun dx H' n1 n2 z1 z2 z3 => ⟨rfl, dx, by rw [upd_ne n2] at n1; exact n1, n2, z1, z2, funext fun b => ?_⟩⟩
    by_cases h1 : b = dx
    · rw [h1, upd_same, upd_same]
    · rw [upd_ne h1, upd_ne h1]
      by_cases h2 : b = a
      · rw [h2, del_same, hn]
      · rw [del_ne h2, z3 b h2 h1, upd_ne h2]
  have bind := hb _ (Value.ref a :: us) I2.kIn (by rw [List.append_nil]; exact hlen)
  rw [List.append_nil] at bind
  have run := F1.run _ X.stack _ _ ⟨Value.ref a :: us, []⟩ (Value.ref a :: us) _ _ (fun _ _ _ => False) (hr.make C us []) (I2.env0.make C us []) bind r2 hsp
  subst ha0
  refine wpAny_call (PySem.HandSPX.call_own F.excBase_ValueError (fun Y => PySem.HandSPX.refsVE_contains Y bm hbm) (I1.kIn _ _ hC) (PySem.W.looks_findIn I1.kIn iC) (fun self => PySem.W.bind_fn I1.kIn self tI) hus (codeAny_mono run fun r s' hq' => ?_))
  cases r with
  | error er => exact (show False from hq').elim
  | ok fl =>
    cases fl with
    | ret u =>
      obtain ⟨v, H2, os2, bare2, un2, hok2, rv, ev, dx, hd1, nda, ea, ed, eq⟩ := hq'
      subst ev
      obtain ⟨h2, g2, d2, t2, os'⟩ := s'
      obtain ⟨t0, G, J, kG, ge, hoe, na⟩ := mk_end0 (d2 := d2) (t2 := t2) I1 hsz kk un2 hok2 os2 bare2 ea ed hd1
      rw [eq] at J na
      exact ⟨rv, _, _, _, ⟨G, g2, d2, t2, os'⟩, _, .ref C, some dx, rfl, J, kG, ge, hoe, ⟨rfl, rfl, fun vs z => by cases z; rfl⟩, rfl, rfl, na, rfl, bare2, raises_own exC tyC, q1 dx hd1⟩
    | next => exact False.elim hq'
    | brk => exact False.elim hq'
    | cont => exact False.elim hq'
theorem ps_rais {W : WX} (T : IniC X.prog X.w X.K X.mg X.base x C ps fns) (hr : Room 2 X.A) (hc : X.calm = true) (tk : L2N.Takes X W) (hW : ∀ cls d σ H, E cls d H → W cls d σ H) (hf : fns.length ≤ 10) (hps : ps.length = fns.length + 1) (ha : PA X (e :: es) ta) (hg : Gl X x := by rfl)
    (hdb : (x == ("__debug__" : Str)) = false := by decide) (he : starEach (e :: es) X.env = (false, eval e X.env) :: starEach es X.env := by rfl) (hpl : (backTo pos (starEach es X.env)).any (·.1) = false := by rfl) :
    PS X (.Raise (some (.Call (.Name x p) (e :: es) [] pos)) none pos') (tRais C fns E ta) :=
  L2N.ps_raise (W := fun cls d _ H => E cls d H) hc (tk.imp fun c d σ H h => hW c d σ H h) (pmk_ini T hr hg hf hps ha hdb he hpl)
end
end Ub

namespace Ub
open PySem PySem.Spec PyProof.Rows L2
/-! ### an error without an __init__ of its own, made of any arguments, raised -/
structure ErC (K : PySem.W.Frag) (C : Addr) : Prop where
  ex : PySem.W.excIn K C [.type "ValueError", .type "Exception", .type "BaseException", .type "object"] "ValueError.__new__" = true
  keep : PySem.W.keepIn K (.ref C) = true
  sub : PySem.W.subIn K (.ref C) (.type "BaseException") = some true
  ty : PySem.W.typeIn K (.ref C) = some (.type "type")
def tRaisM0 (C : Addr) (ta : TA) : L2.St → Hp → XK → Prop := fun σ H E => ta σ H fun vs H1 => vs.length ≤ 1000 ∧ E (.ref C) none H1
def tRais0 (C : Addr) (E : XK) (ta : TA) : TS := fun _ σ H => tRaisM0 C ta σ H E
section
variable {X : Cx} {x : Str} {C : Addr} {e : Expr} {es : List Expr} {ta : TA} {p pos pos' : Pos} {E : XK}
theorem pmk_any (T : ErC X.K C) (gC : X.mg x = some (.ref C)) (hg : Gl X x) (ha : PA X (e :: es) ta) (hdb : (x == ("__debug__" : Str)) = false := by decide)
    (he : starEach (e :: es) X.env = (false, eval e X.env) :: starEach es X.env := by rfl) (hpl : (backTo pos (starEach es X.env)).any (·.1) = false := by rfl) :
    L2N.PMk X (.Call (.Name x p) (e :: es) [] pos) (tRaisM0 C ta) := by
  intro pins s σ H Q I h
  refine wpAny_Call_Name_kw (ld_glob I hg gC ?_ hdb)
  refine PySem.W.callWith_K (h₀ := X.base) I.ok.mod.kin T.keep (thn (ha.run pos pins s σ H _ I h) fun us s1 hh => ?_) he hpl
  obtain ⟨vs, H1, I1, r1, hz, q1⟩ := hh
  refine ⟨I1.kIn, ?_⟩
  show wpAny _ _ (call (.ref C) us) _ _ _
  obtain ⟨bm, N, nm, qn, bs, hdct, sn, sub, ab, col, dd, k0, k1, k2, k3, k5, mN, hC, hN, hni, hT⟩ := exc_obj I1.kIn T.ex
  have hl : us.length ≤ sizeLine := by
    rw [← r1.length, sizeLine_eq]
    omega
  exact wpAny_call_exc_subT PySem.F.excBase_ValueError hT hC hN hni (fun h' a hm => L2N.mk_of I1 hm (raises_own T.sub T.ty) q1 (I1.hok.gone hm.new)) hl
theorem ps_rais0 {W : WX} (T : ErC X.K C) (gC : X.mg x = some (.ref C)) (hc : X.calm = true) (tk : L2N.Takes X W) (hW : ∀ cls d σ H, E cls d H → W cls d σ H) (ha : PA X (e :: es) ta) (hg : Gl X x := by rfl)
    (hdb : (x == ("__debug__" : Str)) = false := by decide) (he : starEach (e :: es) X.env = (false, eval e X.env) :: starEach es X.env := by rfl) (hpl : (backTo pos (starEach es X.env)).any (·.1) = false := by rfl) :
    PS X (.Raise (some (.Call (.Name x p) (e :: es) [] pos)) none pos') (tRais0 C E ta) :=
  L2N.ps_raise (W := fun cls d _ H => E cls d H) hc (tk.imp fun c d σ H h => hW c d σ H h) (pmk_any T gC hg ha hdb he hpl)
theorem takes_no {X : Cx} : L2N.Takes X (fun _ _ _ _ => False) := fun _ _ x => by
  obtain ⟨_, _, _, _, _, _, _, _, _, _, _, _, _, _, _, _, z⟩ := x
  exact z.elim
/-- a def that might refuse, where it doesn't -/
theorem passNo {X : Cx} : Passes (L2N.CX X.prog X.w) X (fun _ _ _ => False) := L2N.passes_call takes_no fun _ _ _ _ h => h
end
/-! ### promises of defs that may refuse -/
abbrev SpX := List Dt → (Res → Prop) → (Xd → Prop) → Prop
def spX (K : PySem.W.Frag) (T : Tb) (S : SpX) : Sp := fun vs H Q E => ∃ (ds : List Dt) (A B : Hp) (Pr : Res → Prop) (Px : Xd → Prop), Ok T B H ∧ Ex A B ∧ DzA K A vs ds ∧ S ds Pr Px ∧ (∀ r v C' H' σ ρ α, Pr r → Rep K T A B none C' H' σ ρ α → ResAt K B none C' H' r v → Q v H') ∧
  ∀ x cls d C' H' σ ρ α, Px x → Rep K T A B none C' H' σ ρ α → XdAt B none C' H' x cls d → E cls d H'
section
variable {K : PySem.W.Frag} {T : Tb} {A B : Hp} {dc : Option Addr} {C H : Hp} {σ : L2.St} {ρ : List Sl} {α : Nat → Addr} {P : Ag → Prop} {Pl : List Dt → Prop} {tas : TA} {N : Nd} {S : SpX} {g : TG}
theorem kp_ofX {P : Program} {w : World} {mg : Str → Option Value} {base : Heap} {x : Str} {st : Stmt} {N ps : List Str} {k : Nat} {S : SpX} (D : Df K mg x st ps) (Sc : FnScope N ps (defScope st)) (hl : ∀ ds Pr Px, S ds Pr Px → ds.length = ps.length)
    (body : ∀ (f : Addr) (cdv : Value) (A : Around) (outer : List Env) (s : Shared) (H : Hp) (E : XK), Room k (A.deeper (envOfC x (defScope st) s.heap.objs.size f cdv)) → ∀ ds Pr Px, S ds Pr Px →
      ∃ t, PSs (cxOf (L2N.CX P w) P w K mg base N x (defScope st) f cdv A outer s H E) (defBody st) t ∧ WS K T t (slots N ds) { nx := fun _ => Pr (.dat .non), rt := Pr, ex := Px, E := E }) : Kp P w K mg base (L2N.CX P w) (k + 1) x ps (spX K T S) := by
  refine D.okN Sc (fun vs H Q E h => ?_) (fun f cdv A outer s H vs Q E hr h => ?_)
  · obtain ⟨ds, A, B, Pr, Px, _, _, hz, hS, _⟩ := h
    exact hz.len.trans (hl ds Pr Px hS)
  · obtain ⟨ds, A', B, Pr, Px, oB, e, hz, hS, q, qx⟩ := h
    obtain ⟨t, ht, hw⟩ := body f cdv A outer s H E hr ds Pr Px hS
    refine ⟨t, ht, hw (α := fun _ => 0) (A := A') (B := B) (dc := none) (C := A') ?_ ⟨fun p R => q _ _ _ _ _ _ _ p R .non, fun p R r => q _ _ _ _ _ _ _ p R r, fun p _ => p.elim, fun p _ => p.elim, fun p R z => qx _ _ _ _ _ _ _ _ p R z⟩⟩
    have := rep_start (n := N.length - ds.length) (α := fun _ => 0) (dc := none) oB e hz (fun d z => nomatch z)
    unfold L2.start slots
    rw [hz.len]
    exact this
theorem fram_dc {d : Addr} {o : HO} (h : dc = some d) (hd : H d = some o) : frm (Fram B C dc none ρ α) H d = some o := (frm_in (.inr (.inr (.inr ⟨h, rfl⟩)))).trans hd
/-- what a callee lets out is one's own -/
theorem xd_up (R1 : Rep K T A B dc C H σ ρ α) {C' H' : Hp} {x : Xd} {cls : Value} {d : Option Addr} (z : XdAt (frm (Fram B C dc none ρ α) H) none C' H' x cls d) : XdAt B dc C' H' x cls d := by
  obtain ⟨e, z⟩ := z
  refine ⟨e, z.imp id fun ⟨n, a, ea, nb, nc, nd, ha⟩ => ⟨n, a, ea, ?_, nc, fun hdc => ?_, ha⟩⟩
  · cases q : B a with
    | none => rfl
    | some o =>
      have h1 := R1.okB.ex _ _ q
      rw [frm_in (.inl (by rw [q]; exact fun z => nomatch z)), h1] at nb
      cases nb
  · obtain ⟨_, _, D, hD, _⟩ := R1.dice a hdc
    rw [fram_dc hdc hD] at nb
    cases nb
theorem ws_callX {E : XK} {D : Ends} {Q : VK} (R : Rep K T A B dc C H σ ρ α) (tie : Tie K T A B dc N D) (hE : N.E = E) {Pr : Res → Prop} (h : WA K T tas ρ fun gs => gs.all Ag.isD = true ∧ S (gs.map Ag.d) Pr N.ex)
    (q : ∀ r v C1 C' H', Pr r → Ex C C1 → Rep K T A B dc C' H' σ ρ α → Ex C1 C' → (∀ {d}, r = .dat d → Dz K C' v d) → (∀ {l}, r = .fr l → ∃ p vs, v = .ref p ∧ Fr A B dc C' ρ α p ∧ H' p = some (.lst vs) ∧ DzA K C' vs l) → Q v H') : tCall (spX K T S) [] E tas σ H Q :=
  h R _ fun gs vs C1 H1 ⟨h1, h2⟩ R1 e1 a1 => by
    rw [List.append_nil]
    obtain ⟨c1, c2, c3, c4⟩ := call_core R1 (A' := C1) (dc' := none) (.inl rfl) (fun a o e => ex_self a o e R1.okC) (Evl.Ex.refl _)
    refine ⟨_, C1, _, _, _, c1, c2, ags_d a1 h1, h2, fun r v C' H' σ' ρ' α' hp R' hr => ?_, fun x cls d C' H' σ' ρ' α' hp R' z => ?_⟩
    · refine q r v C1 C' H' hp e1 ((c4 R').1 rfl) R'.eA (fun {d} e => ?_) fun {l} e => ?_
      · subst e
        exact hr
      · subst e
        obtain ⟨p', ws, rfl, g1, g2, g3, g4, g5⟩ := hr
        exact ⟨p', ws, rfl, (c4 R').2.2 p' g1 g3 (by rw [g4]; exact fun z => nomatch z) g2, g4, g5⟩
    · subst hE
      exact tie.ex hp ((c4 R').1 rfl) (xd_up R1 z)
theorem ws_dropX (h : WA K T tas ρ fun gs => gs.all Ag.isD = true ∧ S (gs.map Ag.d) (fun _ => N.nx ρ) N.ex) : WS K T (tDrop (tCall (spX K T S) [] N.E tas)) ρ N := fun ⦃A B dc C H σ α D⦄ R tie =>
  ws_callX R tie rfl h fun r v C1 C' H' p e1 R' e2 _ _ => tie.nx p R'
theorem ws_setX {i : Nat} (h : WA K T tas ρ fun gs => gs.all Ag.isD = true ∧ S (gs.map Ag.d) (fun r => ∃ d, r = .dat d ∧ N.nx (ρ.set i (Sl.dat d))) N.ex) : WS K T (tAsg (tCall (spX K T S) [] N.E tas) (gName i)) ρ N := fun ⦃A B dc C H σ α D⦄ R tie =>
  ws_callX R tie rfl h fun r v C1 C' H' p e1 R' e2 a1 _ => by
    obtain ⟨d, hd, p⟩ := p
    exact tie.nx p (R'.setD (a1 hd))
theorem ws_setLX {i : Nat} (h : WA K T tas ρ fun gs => gs.all Ag.isD = true ∧ S (gs.map Ag.d) (fun r => ∃ l, r = .fr l ∧ N.nx (ρ.set i (Sl.own l))) N.ex) : WS K T (tAsg (tCall (spX K T S) [] N.E tas) (gName i)) ρ N := fun ⦃A B dc C H σ α D⦄ R tie =>
  ws_callX R tie rfl h fun r v C1 C' H' p e1 R' e2 _ a1 => by
    obtain ⟨l, hl, p⟩ := p
    obtain ⟨q, vs, rfl, F, h1, h2⟩ := a1 hl
    exact tie.nx p (R'.setL F.nb F.nc F.nd h1 h2 F.no)
theorem ws_asgX (h : WA K T tas ρ fun gs => gs.all Ag.isD = true ∧ S (gs.map Ag.d) (fun r => ∃ d, r = .dat d ∧ WG K T g d ρ N.nx) N.ex) : WS K T (tAsg (tCall (spX K T S) [] N.E tas) g) ρ N := fun ⦃A B dc C H σ α D⦄ R tie =>
  ws_callX R tie rfl h fun r v C1 C' H' p e1 R' e2 a1 _ => by
    obtain ⟨d, hd, p⟩ := p
    exact p R' (a1 hd) _ fun σ2 ρ2 C2 H2 p2 R2 _ => tie.nx p2 R2
theorem ws_retX (h : WA K T tas ρ fun gs => gs.all Ag.isD = true ∧ S (gs.map Ag.d) N.rt N.ex) : WS K T (tRet (tCall (spX K T S) [] N.E tas)) ρ N := fun ⦃A B dc C H σ α D⦄ R tie =>
  ws_callX R tie rfl h fun r v C1 C' H' p e1 R' e2 a1 a2 => by
    cases r with
    | dat d => exact tie.rt p R' (a1 rfl)
    | fr l =>
      obtain ⟨q, vs, e, F, h1, h2⟩ := a2 rfl
      exact tie.rt p R' ⟨q, vs, e, F.nb, F.nc, F.nd, h1, h2⟩
/-- where it doesn't refuse -/
theorem we_callX0 (h : WA K T tas ρ fun gs => gs.all Ag.isD = true ∧ S (gs.map Ag.d) (fun r => ∃ d, r = .dat d ∧ P (.dat d)) fun _ => False) : WE K T (tCall (spX K T S) [] (fun _ _ _ => False) tas) ρ P := fun ⦃A B dc C H σ α⦄ R Q q =>
  h R _ fun gs vs C1 H1 ⟨h1, h2⟩ R1 e1 a1 => by
    rw [List.append_nil]
    obtain ⟨c1, c2, c3, c4⟩ := call_core R1 (A' := C1) (dc' := none) (.inl rfl) (fun a o e => ex_self a o e R1.okC) (Evl.Ex.refl _)
    refine ⟨_, C1, _, _, _, c1, c2, ags_d a1 h1, h2, fun r v C' H' σ' ρ' α' hp R' hr => ?_, fun x cls d C' H' σ' ρ' α' hp R' z => hp⟩
    obtain ⟨d, rfl, p⟩ := hp
    exact q _ _ _ _ p ((c4 R').1 rfl) (e1.trans R'.eA) hr
theorem wl_callX0 (h : WA K T tas ρ fun gs => gs.all Ag.isD = true ∧ S (gs.map Ag.d) (fun r => ∃ l, r = .fr l ∧ Pl l) fun _ => False) : WL K T (tCall (spX K T S) [] (fun _ _ _ => False) tas) ρ Pl := fun ⦃A B dc C H σ α⦄ R Q q =>
  h R _ fun gs vs C1 H1 ⟨h1, h2⟩ R1 e1 a1 => by
    rw [List.append_nil]
    obtain ⟨c1, c2, c3, c4⟩ := call_core R1 (A' := C1) (dc' := none) (.inl rfl) (fun a o e => ex_self a o e R1.okC) (Evl.Ex.refl _)
    refine ⟨_, C1, _, _, _, c1, c2, ags_d a1 h1, h2, fun r v C' H' σ' ρ' α' hp R' hr => ?_, fun x cls d C' H' σ' ρ' α' hp R' z => hp.elim⟩
    obtain ⟨l, rfl, p⟩ := hp
    obtain ⟨p', ws, rfl, g1, g2, g3, g4, g5⟩ := hr
    exact q _ _ _ _ _ p ((c4 R').1 rfl) (e1.trans R'.eA) ((c4 R').2.2 p' g1 g3 (by rw [g4]; exact fun z => nomatch z) g2) g4 g5
/-! ### raise -/
def fmtD : Dt → Prop
  | .int i => i.natAbs.log2 < 1920
  | .str y => y.length ≤ 1000
  | _ => False
theorem fmtD_ok {d : Dt} (h : fmtD d) : d.flat = true ∧ fmtOk d.v := by
  cases d <;> first | exact h.elim | exact ⟨rfl, h⟩
theorem zip_v {fns : List Str} : ∀ {ds : List Dt}, (fns.zip (ds.map Dt.v)) = (fns.zip ds).map fun p => (p.1, p.2.v) := by
  induction fns with
  | nil => intro ds; simp
  | cons f fns ih =>
    intro ds
    cases ds with
    | nil => simp
    | cons d ds => simp [ih]
theorem ws_rais {Cx : Addr} {fns : List Str} (hf : fns ≠ []) (h : WA K T tas ρ fun gs => gs.all Ag.isD = true ∧ gs.length = fns.length ∧ (∀ d ∈ gs.map Ag.d, fmtD d) ∧ N.ex ⟨Cx, (fns.zip (gs.map Ag.d)).reverse⟩) : WS K T (tRais Cx fns N.E tas) ρ N := fun ⦃A B dc C H σ α D⦄ R tie =>
  h R _ fun gs vs C1 H1 ⟨h1, h2, h3, p⟩ R1 e1 a1 => by
    have hz := ags_d a1 h1
    have hv : vs = (gs.map Ag.d).map Dt.v := flat_vs hz (List.all_eq_true.mpr fun d hd => (fmtD_ok (h3 d hd)).1)
    have hl : vs.length = fns.length := by
      rw [hv, List.length_map, List.length_map]
      exact h2
    refine ⟨hl, fun w hw => ?_, fun d nd => ?_⟩
    · rw [hv] at hw
      obtain ⟨x, hx, rfl⟩ := List.mem_map.mp hw
      exact (fmtD_ok (h3 x hx)).2
    · refine tie.ex p (R1.newM nd) ⟨rfl, .inr ⟨fun z => ?_, d, rfl, R1.okB.fresh nd, R1.okC.fresh nd, (R1.fr nd).nd, ?_⟩⟩
      · have z2 : (fns.zip (gs.map Ag.d)).reverse.length = 0 := by rw [show (fns.zip (gs.map Ag.d)).reverse = [] from z]; rfl
        rw [List.length_reverse, List.length_zip, List.length_map] at z2
        have h4 : 0 < fns.length := List.length_pos_iff.mpr hf
        omega
      · rw [upd_same, hv, zip_v, List.map_reverse]
theorem ws_rais0 {Cx : Addr} (h : WA K T tas ρ fun gs => gs.length ≤ 1000 ∧ N.ex ⟨Cx, []⟩) : WS K T (tRais0 Cx N.E tas) ρ N := fun ⦃A B dc C H σ α D⦄ R tie =>
  h R _ fun gs vs C1 H1 ⟨h1, p⟩ R1 e1 a1 => ⟨by rw [ags_len a1]; exact h1, tie.ex p R1 ⟨rfl, .inl ⟨rfl, rfl⟩⟩⟩
end
end Ub

namespace Ub
open PySem PySem.Spec PyProof.Rows L2 L2H
/-! ### isinstance of the handled error, with or without fields of its own -/
def rIsD (K : PySem.W.Frag) (D a : Addr) (dd : Option Addr) : List V → Hp → VK → Prop := fun xs H Q => ∃ (c : V) (cv : Value) (b : Bool), xs = [.ref a, c] ∧ (∀ u, RelV c u → u = cv) ∧ PySem.W.kitOne K (.ref D) cv = some b ∧ (∀ d, dd = some d → ∃ fs, H d = some (.xd fs)) ∧ Q (.bl b) H
theorem call_isD {X : Cx} {p : Addr × Obj} {D : Addr} {dd : Option Addr} (C : ExcC X.K D) (hz : Zc (.ref D) dd p.2) (hf : ∃ vs, p.2.data = .fields vs) (hp : p ∈ X.pn) : CallR X (.builtin "isinstance") (rIsD X.K D p.1 dd) := by
  intro pins s σ H xs us Q I r h
  obtain ⟨c, cv, b, rfl, hcv, hk, hd, q⟩ := h
  obtain ⟨u1, u2, rfl, r1, r2⟩ := vals2 r
  obtain rfl : u1 = Value.ref p.1 := r1
  obtain rfl := hcv _ r2
  have hget := (I.pin p (List.mem_append_left _ hp)).1
  obtain ⟨vs, hv⟩ := hf
  have J : ∃ od, PySem.W.InstAt s.heap p.1 p.2 D od := by
    obtain ⟨pa, oc, od, oda, osl⟩ := p
    obtain ⟨h1, h2⟩ := hz
    dsimp only at h1 h2 hv hget
    subst h1 h2 hv
    cases od with
    | none => exact ⟨none, hget, rfl, rfl, trivial⟩
    | some d =>
      obtain ⟨fs, hfs⟩ := hd d rfl
      obtain ⟨mA, hns, _⟩ := (show ObjOk X.prog X.w H s.heap d (.xd fs) from I.hok d _ hfs)
      obtain ⟨o, _, _, ho, _⟩ := hns
      exact ⟨some o, hget, rfl, rfl, ho⟩
  obtain ⟨od, J⟩ := J
  obtain ⟨cd, hc, _⟩ := PySem.W.any_some C.hd
  exact PySem.W.kia_one (PySem.W.kitx_exc (by rw [hc]; rfl) C.hg C.hk C.hs C.ha C.hn C.ht C.hm) I.kIn J hk (fun z => nomatch z) fun tk => ⟨.bl b, H, I.kept (t' := tk) fun _ _ z => z, rfl, q⟩
theorem isD {K : PySem.W.Frag} {dd : Option Addr} {σ : L2.St} {H : Hp} {Q : VK} {n : Nat} {D a : Addr} {c : V} {cv : Value} {b : Bool} (hσ : σ[n]? = some (some (.ref a))) (hc : ∀ u, RelV c u → u = cv) (hk : PySem.W.kitOne K (.ref D) cv = some b) (hd : ∀ d, dd = some d → ∃ fs, H d = some (.xd fs)) (q : Q (.bl b) H) :
    tCB (rIsD K D a dd) (tCons (tVar n) (tCons (tC c) tNil)) σ H Q := ⟨_, hσ, c, cv, b, rfl, hc, hk, hd, q⟩
theorem eqv_bools : ∀ ns ms : List Bool, PyData.eqv (.list (ns.map PyData.bool)) (.list (ms.map PyData.bool)) = decide (ns = ms) := by
  have h : ∀ ns ms : List Bool, PyData.eqvAll (ns.map PyData.bool) (ms.map PyData.bool) = decide (ns = ms) := by
    intro ns
    induction ns with
    | nil =>
      intro ms
      cases ms with
      | nil => rfl
      | cons m ms => simp [PyData.eqvAll]
    | cons n ns ih =>
      intro ms
      cases ms with
      | nil => simp [PyData.eqvAll]
      | cons m ms =>
        simp only [List.map_cons, PyData.eqvAll, ih ms, PyData.eqv]
        rw [Bool.eq_iff_iff]
        cases n <;> cases m <;> simp
  intro ns ms
  simp only [PyData.eqv]
  exact h ns ms
end Ub

namespace Ub
open PySem PySem.Spec PyProof.Rows L2
/-! ### texts in the data layer -/
def rSplitT : V → List V → Hp → VK → Prop := fun x xs H Q => ∃ a b, x = .str a ∧ xs = [.str b] ∧ (b.length == 0) = false ∧ a.length + 2 ≤ sizeLine ∧ rNewStrs (Txt.split a b) H Q
def rPartT : V → List V → Hp → VK → Prop := fun x xs H Q => ∃ a b, x = .str a ∧ xs = [.str b] ∧ (b.length == 0) = false ∧ a.length ≤ sizeLine ∧
  ∀ p, H p = none → Q (.ref p) (upd H p (.tup [.str (Txt.partition a b).1, .str (Txt.partition a b).2.1, .str (Txt.partition a b).2.2]))
def rJoinT (K : PySem.W.Frag) : V → List V → Hp → VK → Prop := fun x xs H Q => ∃ a p, ∃ ys : List Str, x = .str a ∧ xs = [.ref p] ∧ (SqL K H p (ys.map V.str) ∨ SqT K H p (ys.map V.str)) ∧ (ys.map (·.length)).sum + ys.length * a.length ≤ 16777216 ∧ Q (.str (Txt.join a ys)) H
def rCountT : V → List V → Hp → VK → Prop := fun x xs H Q => ∃ a b, x = .str a ∧ xs = [.str b] ∧ Q (.int (Txt.count a b)) H
theorem pe_cnt {X : Cx} {o e : Expr} {to te : TE} {apos pos : Pos} (ho : PE X o to) (he : PE X e te) (hs : starEach [e] X.env = [(false, eval e X.env)] := by rfl) (hbase : attributeBase o "count" X.env (eval o X.env) = eval o X.env := by rfl) (hline : (apos.endLine == pos.line) = true := by rfl) :
    PE X (.Call (.Attribute o "count" apos) [e] [] pos) (tM1 rCountT to te) := pe_m1 F.slot_str_count F.type_str_count mt_count ho he hs hbase hline
def inTx (i j : Str) : Bool := !(Builtin.Str.occurrences j i 0 j.length 1).isEmpty
def rInT : R2 := fun x y H Q => ∃ i j, x = .str i ∧ y = .str j ∧ Q (.bl (inTx i j)) H
def rInTn : R2 := fun x y H Q => ∃ i j, x = .str i ∧ y = .str j ∧ Q (.bl (!inTx i j)) H
theorem or_inT {X : Cx} : OpR X (compareOp .In) rInT := op_in_str
theorem or_inTn {X : Cx} : OpR X (compareOp .NotIn) rInTn := op_notIn_str
def tJoinF (ts : List TE) (acc : Str) : TE := fun σ H Q => tJs ts acc σ H fun out H1 => Q (.str out) H1
theorem pe_jn {X : Cx} {v1 v2 : Expr} {rest : List Expr} {ts : List TE} {pos : Pos} (h : PJ X (v1 :: v2 :: rest) ts) : PE X (.JoinedStr (v1 :: v2 :: rest) pos) (tJoinF ts Str.empty) := pe_joined h
section
variable {K : PySem.W.Frag} {T : Tb} {ρ : List Sl} {P : Ag → Prop} {Pl : List Dt → Prop} {to te : TE} {ts : List TE} {acc : Str}
theorem ag_strV {A B : Hp} {dc : Option Addr} {C H : Hp} {σ : L2.St} {α : Nat → Addr} (R : Rep K T A B dc C H σ ρ α) {g : Ag} {v : V} {ys : List Str} (h : AgAt K C ρ α g v) (hd : agD ρ g = some (.lst (ys.map Dt.str))) : ∃ p, v = .ref p ∧ SqL K H p (ys.map V.str) := by
  obtain ⟨a, vs, rfl, h1, h2⟩ := ag_list R h hd
  rw [DzA.strs_eq h2] at h1
  exact ⟨a, rfl, SqL.of h1⟩
theorem wl_split (h : WE K T to ρ fun x => ∃ a, x = .dat (.str a) ∧ WE K T te ρ fun y => ∃ b, y = .dat (.str b) ∧ (b.length == 0) = false ∧ a.length ≤ 1000000 ∧ Pl ((Txt.split a b).map Dt.str)) : WL K T (tM1 rSplitT to te) ρ Pl := fun ⦃A B dc C H σ α⦄ R Q q =>
  h R _ fun g v C1 H1 ⟨a, e, h1⟩ R1 e1 a1 => by
    subst e
    cases ag_str a1
    refine ⟨⟨a, rfl⟩, h1 R1 _ fun g2 v2 C2 H2 ⟨b, e, hb, hl, p⟩ R2 e2 a2 => ?_⟩
    subst e
    cases ag_str a2
    exact ⟨a, b, rfl, rfl, hb, Nat.le_trans (Nat.add_le_add_right hl 2) (by decide), wl_new R2 (e1.trans e2) (DzA.strs _) p q⟩
theorem we_part (h : WE K T to ρ fun x => ∃ a, x = .dat (.str a) ∧ WE K T te ρ fun y => ∃ b, y = .dat (.str b) ∧ (b.length == 0) = false ∧ a.length ≤ 1000000 ∧ P (.dat (.tup [.str (Txt.partition a b).1, .str (Txt.partition a b).2.1, .str (Txt.partition a b).2.2]))) : WE K T (tM1 rPartT to te) ρ P := fun ⦃A B dc C H σ α⦄ R Q q =>
  h R _ fun g v C1 H1 ⟨a, e, h1⟩ R1 e1 a1 => by
    subst e
    cases ag_str a1
    refine ⟨⟨a, rfl⟩, h1 R1 _ fun g2 v2 C2 H2 ⟨b, e, hb, hl, p⟩ R2 e2 a2 => ?_⟩
    subst e
    cases ag_str a2
    refine ⟨a, b, rfl, rfl, hb, Nat.le_trans hl (by decide), fun t nt => ?_⟩
    have e3 := R2.okC.up nt (o := .tup [.str (Txt.partition a b).1, .str (Txt.partition a b).2.1, .str (Txt.partition a b).2.2])
    exact q _ _ _ _ p (R2.new1 nt nt_tup) ((e1.trans e2).trans e3) (.tup (SqT.of upd_same) (.cons (.str _) (.cons (.str _) (.cons (.str _) .nil))))
theorem we_join (h : WE K T to ρ fun x => ∃ a, x = .dat (.str a) ∧ WE K T te ρ fun y => ∃ ys : List Str, agD ρ y = some (.lst (ys.map Dt.str)) ∧ (ys.map (·.length)).sum + ys.length * a.length ≤ 16777216 ∧ P (.dat (.str (Txt.join a ys)))) : WE K T (tM1 (rJoinT K) to te) ρ P := fun ⦃A B dc C H σ α⦄ R Q q =>
  h R _ fun g v C1 H1 ⟨a, e, h1⟩ R1 e1 a1 => by
    subst e
    cases ag_str a1
    refine ⟨⟨a, rfl⟩, h1 R1 _ fun g2 v2 C2 H2 ⟨ys, hy, hl, p⟩ R2 e2 a2 => ?_⟩
    obtain ⟨t, rfl, hS⟩ := ag_strV R2 a2 hy
    exact ⟨a, t, ys, rfl, rfl, .inl hS, hl, q _ _ _ _ p R2 (e1.trans e2) (.str _)⟩
theorem we_joinL (h : WE K T to ρ fun x => ∃ a, x = .dat (.str a) ∧ WL K T te ρ fun l => ∃ ys : List Str, l = ys.map Dt.str ∧ (ys.map (·.length)).sum + ys.length * a.length ≤ 16777216 ∧ P (.dat (.str (Txt.join a ys)))) : WE K T (tM1 (rJoinT K) to te) ρ P :=
  we_join (we_mono h fun g ⟨a, e, h1⟩ => ⟨a, e, we_l (wl_mono h1 fun l ⟨ys, e, h2, p⟩ => ⟨ys, by rw [e] <;> rfl, h2, p⟩)⟩)
theorem we_count (h : WE K T to ρ fun x => ∃ a, x = .dat (.str a) ∧ WE K T te ρ fun y => ∃ b, y = .dat (.str b) ∧ P (.dat (.int (Txt.count a b)))) : WE K T (tM1 rCountT to te) ρ P := fun ⦃A B dc C H σ α⦄ R Q q =>
  h R _ fun g v C1 H1 ⟨a, e, h1⟩ R1 e1 a1 => by
    subst e
    cases ag_str a1
    refine ⟨⟨a, rfl⟩, h1 R1 _ fun g2 v2 C2 H2 ⟨b, e, p⟩ R2 e2 a2 => ?_⟩
    subst e
    cases ag_str a2
    exact ⟨a, b, rfl, rfl, q _ _ _ _ p R2 (e1.trans e2) (.int _)⟩
theorem an_bf {b : Bool} {p : Prop} (h : b = false) (q : p) : b = false ∧ p := ⟨h, q⟩
theorem we_fmtS (h : WE K T te ρ fun x => ∃ y : Str, x = .dat (.str y) ∧ y.length ≤ 1000000 ∧ P (.dat (.str y))) : WE K T (tFmt te) ρ P := fun ⦃A B dc C H σ α⦄ R Q q =>
  h R _ fun g v C1 H1 ⟨a, e, hl, p⟩ R1 e1 a1 => by
    subst e
    cases ag_str a1
    exact .inl ⟨a, rfl, Nat.le_trans hl (by decide), q _ _ _ _ p R1 e1 (.str _)⟩
theorem we_fmtI (h : WE K T te ρ fun x => ∃ y : Int, x = .dat (.int y) ∧ y.natAbs.log2 < 1920 ∧ P (.dat (.str (toString y)))) : WE K T (tFmt te) ρ P := fun ⦃A B dc C H σ α⦄ R Q q =>
  h R _ fun g v C1 H1 ⟨a, e, hl, p⟩ R1 e1 a1 => by
    subst e
    cases ag_int a1
    exact .inr ⟨a, rfl, hl, q _ _ _ _ p R1 e1 (.str _)⟩
theorem we_jNil (p : P (.dat (.str acc))) : WE K T (tJoinF [] acc) ρ P := fun ⦃A B dc C H σ α⦄ R Q q => q _ _ _ _ p R (Evl.Ex.refl _) (.str _)
theorem we_jCons (h : WE K T te ρ fun x => ∃ y : Str, x = .dat (.str y) ∧ (acc ++ y).length ≤ 1000000 ∧ WE K T (tJoinF ts (acc ++ y)) ρ P) : WE K T (tJoinF (te :: ts) acc) ρ P := fun ⦃A B dc C H σ α⦄ R Q q =>
  h R _ fun g v C1 H1 ⟨a, e, hl, p⟩ R1 e1 a1 => by
    subst e
    cases ag_str a1
    exact ⟨a, rfl, Nat.le_trans hl (by decide), p R1 Q fun g v C' H' hp R' e' ha => q g v C' H' hp R' (e1.trans e') ha⟩
theorem wr_inT {i j : Str} (p : P (.dat (.bl (inTx i j)))) : WR K T rInT ρ (.dat (.str i)) (.dat (.str j)) P := fun ⦃A B dc C H σ α v w⦄ R hv hw Q q => by
  cases ag_str hv
  cases ag_str hw
  exact ⟨i, j, rfl, rfl, q _ _ _ _ p R (Evl.Ex.refl _) (.bl _)⟩
theorem wr_inTn {i j : Str} (p : P (.dat (.bl (!inTx i j)))) : WR K T rInTn ρ (.dat (.str i)) (.dat (.str j)) P := fun ⦃A B dc C H σ α v w⦄ R hv hw Q q => by
  cases ag_str hv
  cases ag_str hw
  exact ⟨i, j, rfl, rfl, q _ _ _ _ p R (Evl.Ex.refl _) (.bl _)⟩
/-- a call whose result may be either way; a new list is let be -/
theorem we_callF {S : SpD} {E : XK} {tas : TA} (h : WA K T tas ρ fun gs => gs.all Ag.isD = true ∧ S (gs.map Ag.d) fun r => (∃ d, r = .dat d ∧ P (.dat d)) ∨ ∃ l, r = .fr l ∧ P (.dat (.lst l))) : WE K T (tCall (spR K T S) [] E tas) ρ P := fun ⦃A B dc C H σ α⦄ R Q q =>
  h R _ fun gs vs C1 H1 ⟨h1, h2⟩ R1 e1 a1 => by
    rw [List.append_nil]
    obtain ⟨c1, c2, c3, c4⟩ := call_core R1 (A' := C1) (dc' := none) (.inl rfl) (fun a o e => ex_self a o e R1.okC) (Evl.Ex.refl _)
    refine ⟨_, C1, _, _, c1, c2, ags_d a1 h1, h2, fun r v C' H' σ' ρ' α' hp R' hr => ?_⟩
    rcases hp with ⟨d, rfl, p⟩ | ⟨l, rfl, p⟩
    · exact q _ _ _ _ p ((c4 R').1 rfl) (e1.trans R'.eA) hr
    · obtain ⟨p', ws, rfl, g1, g2, g3, g4, g5⟩ := hr
      have RR := (c4 R').1 rfl
      have hl : WE K T (fun _ H0 Q0 => Q0 (.ref p') H0 ∧ H0 = H') ρ P → True := fun _ => trivial
      have F := (c4 R').2.2 p' g1 g3 (by rw [g4]; exact fun z => nomatch z) g2
      obtain ⟨C2, R2, e2, z2⟩ : ∃ C2, Rep K T A B dc C2 H' σ ρ α ∧ Ex C' C2 ∧ Dz K C2 (.ref p') (.lst l) := by
        have e2 : Ex C' (upd C' p' (.lst ws)) := upd_up F.nc
        refine ⟨upd C' p' (.lst ws), RR.to RR.okB (RR.okC.addL g4) e2 (fun a ha => ?_) (fun i l hi => ?_) (fun d hd => ?_), e2, .lst upd_same (g5.up e2)⟩
        · by_cases z : a = p'
          · subst z
            exact .inr F.nb
          · rw [upd_ne z] at ha
            exact .inl ha
        · obtain ⟨_, _, g3, _⟩ := RR.ow hi
          exact ⟨(upd_ne (F.no i l hi)).trans g3, rfl⟩
        · obtain ⟨g1, g2, g3⟩ := RR.dice d hd
          exact ⟨(upd_ne fun z => F.nd (by rw [hd, z])).trans g2, g3⟩
      exact q _ _ _ _ p R2 ((e1.trans R'.eA).trans e2) z2
/-- a call that may refuse, told of one's own lists -/
theorem ws_dropXO {N : Nd} {S : SpX} {tas : TA} (h : WA K T tas ρ fun gs => ∃ ds, agsD ρ gs = some ds ∧ S ds (fun _ => N.nx ρ) N.ex) : WS K T (tDrop (tCall (spX K T S) [] N.E tas)) ρ N := fun ⦃A B dc C H σ α D⦄ R tie =>
  h R _ fun gs vs C1 H1 ⟨ds, h1, h2⟩ R1 e1 a1 => by
    rw [List.append_nil]
    obtain ⟨o1, o2⟩ := own_A R1
    obtain ⟨c1, c2, c3, c4⟩ := call_core R1 (dc' := none) (.inl rfl) o1 o2
    refine ⟨_, _, _, _, _, c1, c2, ags_own R1 a1 h1, h2, fun r v C' H' σ' ρ' α' hp R' hr => tie.nx hp (c4 R').2.1, fun x cls d C' H' σ' ρ' α' hp R' z => ?_⟩
    refine tie.ex hp (c4 R').2.1 ?_
    obtain ⟨g1, g2⟩ := xd_up R1 z
    refine ⟨g1, g2.imp id fun ⟨n, a, ea, nb, nc, nd, ha⟩ => ⟨n, a, ea, nb, ?_, nd, ha⟩⟩
    cases q : C1 a with
    | none => rfl
    | some o =>
      have := R'.eA _ _ (o2 _ _ q)
      rw [nc] at this
      cases this
end
end Ub

namespace Ub
open PySem PySem.Spec PyProof.Rows L2 L2H
section
variable {K : PySem.W.Frag} {T : Tb} {A B : Hp} {dc : Option Addr} {C H : Hp} {σ : L2.St} {ρ : List Sl} {α : Nat → Addr} {P : Ag → Prop} {tas : TA} {N : Nd}
/-- what a promise over one stable part leaves of ours -/
theorem rep_frame (R : Rep K T A B dc C H σ ρ α) : ∃ F : Hp, Ok T F H ∧ Ex C F ∧ ∀ H', Ok T F H' → Rep K T A B dc C H' σ ρ α := by
  obtain ⟨c1, c2, c3, c4⟩ := call_core R (A' := C) (dc' := none) (.inl rfl) (fun a o e => ex_self a o e R.okC) (Evl.Ex.refl _)
  have nil : ∀ {H'}, Ok T (frm (Fram B C dc none ρ α) H) H' → Rep K T C (frm (Fram B C dc none ρ α) H) none C H' [] [] (fun _ => 0) := fun o =>
    ⟨o, o.back c2, Evl.Ex.refl _, fun _ h => .inl h, rfl, fun _ _ h => by simp at h, fun _ _ _ _ h => by simp at h, fun _ h => nomatch h⟩
  exact ⟨_, c1, c2, fun H' o => (c4 (nil o)).1 rfl⟩
/-- a caught error in a slot -/
theorem Rep.setX (R : Rep K T A B dc C H σ ρ α) {i : Nat} {x : Xd} {cls : Value} {d : Option Addr} {a : Addr} (z : XdAt B dc C H x cls d) :
    ∃ C', Rep K T A B dc C' H (σ.set i (some (.ref a))) (ρ.set i (Sl.dat (.exc a d (x.fs.map fun p => (p.1, p.2.v))))) α ∧ Ex C C' := by
  obtain ⟨_, ⟨_, rfl⟩ | ⟨_, y, rfl, nb, nc, nd, hy⟩⟩ := z
  · exact ⟨C, R.setD (.exc fun x z => nomatch z), Evl.Ex.refl _⟩
  · have e2 : Ex C (upd C y (.xd (x.fs.map fun p => (p.1, p.2.v)))) := upd_up nc
    refine ⟨upd C y (.xd (x.fs.map fun p => (p.1, p.2.v))), Rep.setD (R.to R.okB (R.okC.add hy fun _ h => nomatch h) e2 (fun b hb => ?_) (fun i l hi => ?_) (fun d hd => ?_)) (.exc fun z e => by cases e; exact upd_same), e2⟩
    · by_cases q : b = y
      · subst q
        exact .inr nb
      · rw [upd_ne q] at hb
        exact .inl hb
    · obtain ⟨_, _, g3, _, vs, g4, _⟩ := R.ow hi
      have ne : α i ≠ y := fun z => by
        rw [z, hy] at g4
        cases g4
      exact ⟨(upd_ne ne).trans g3, rfl⟩
    · obtain ⟨g1, g2, g3⟩ := R.dice d hd
      exact ⟨(upd_ne fun z => nd (by rw [hd, z])).trans g2, g3⟩
/-- the call that may refuse, whatever takes it -/
theorem callX_gen {S : SpX} {Q : VK} {E : L2.St → XK} {Pr : Res → Prop} {Px : Xd → Prop} (R : Rep K T A B dc C H σ ρ α) (h : Ub.WA K T tas ρ fun gs => gs.all Ag.isD = true ∧ S (gs.map Ag.d) Pr Px)
    (q : ∀ r v C' H', Pr r → Rep K T A B dc C' H' σ ρ α → ResAt K B dc C' H' r v → Q v H') (qx : ∀ x cls d C' H', Px x → Rep K T A B dc C' H' σ ρ α → XdAt B dc C' H' x cls d → E σ cls d H') : tCallS (spX K T S) E tas σ H Q :=
  h R _ fun gs vs C1 H1 ⟨h1, h2⟩ R1 e1 a1 => by
    obtain ⟨c1, c2, c3, c4⟩ := call_core R1 (A' := C1) (dc' := none) (.inl rfl) (fun a o e => ex_self a o e R1.okC) (Evl.Ex.refl _)
    refine ⟨_, C1, _, _, _, c1, c2, ags_d a1 h1, h2, fun r v C' H' σ' ρ' α' hp R' hr => ?_, fun x cls d C' H' σ' ρ' α' hp R' z => qx _ _ _ _ _ hp ((c4 R').1 rfl) (xd_up R1 z)⟩
    cases r with
    | dat d => exact q _ _ _ _ hp ((c4 R').1 rfl) hr
    | fr l =>
      obtain ⟨p', ws, rfl, g1, g2, g3, g4, g5⟩ := hr
      have F := (c4 R').2.2 p' g1 g3 (by rw [g4]; exact fun z => nomatch z) g2
      exact q _ _ _ _ hp ((c4 R').1 rfl) ⟨p', ws, rfl, F.nb, F.nc, F.nd, g4, g5⟩
/-- try: return f(..)  except .. as e: .. -/
def tTry1 (K : PySem.W.Frag) (c : Value) (i : Nat) (t2 : Addr → Obj → Value → Option Addr → TS) (sp : Sp) (tas : TA) : TS := fun D σ H =>
  tRet (tCallS sp (L2.WE (wAs K c i (fun a cls d D σ H => ∀ oe, L2N.Zn cls d oe → (∃ vs, oe.data = .fields vs) → t2 a oe cls d D σ H) (fun _ _ _ _ => False) D)) tas) D σ H
theorem ws_try1 {i : Nat} {c : Value} {t2 : Addr → Obj → Value → Option Addr → TS} {S : SpX}
    (h : Ub.WA K T tas ρ fun gs => gs.all Ag.isD = true ∧ S (gs.map Ag.d) N.rt fun x => PySem.W.exmOne K (.ref x.cls) c = some true ∧ ∀ a oe d, L2N.Zn (.ref x.cls) d oe → (∃ vs, oe.data = .fields vs) → (d = none → x.fs = []) →
      Ub.WS K T (t2 a oe (.ref x.cls) d) (ρ.set i (Sl.dat (.exc a d (x.fs.map fun p => (p.1, p.2.v))))) { N with nx := fun ρ' => N.nx (ρ'.set i .un), bk := fun ρ' => N.bk (ρ'.set i .un), ct := fun ρ' => N.ct (ρ'.set i .un) }) :
    Ub.WS K T (tTry1 K c i t2 (spX K T S) tas) ρ N := fun ⦃A B dc C H σ α D⦄ R tie => by
  refine callX_gen R h (fun r v C' H' p R' z => tie.rt p R' z) fun x cls d C' H' p R' z => ?_
  obtain ⟨hx, hs⟩ := p
  obtain rfl : cls = .ref x.cls := z.1
  refine ⟨true, hx, fun _ a na oe hz hf => ?_, fun z => nomatch z⟩
  obtain ⟨C2, R2, e2⟩ := R'.setX (i := i) (a := a) z
  refine hs a oe d hz hf (fun e => ?_) R2 ⟨fun p R => tie.nx p R.setU, fun p R r => tie.rt p R r, fun p R => tie.bk p R.setU, fun p R => tie.ct p R.setU, fun p R z => tie.ex p R z⟩
  obtain ⟨_, ⟨h1, _⟩ | ⟨_, y, h2, _⟩⟩ := z
  · exact h1
  · rw [e] at h2
    cases h2
/-- e.f -/
theorem we_xf {a Ca dd : Addr} {j : Nat} {fs : List (Str × V)} {f : Str} {d : Dt} (hj : ρ[j]? = some (Sl.dat (.exc a (some dd) fs))) (hl : fs.lookup f = some d.v) (fl : d.flat = true) (p : P (.dat d)) : Ub.WE K T (tXf a (.ref Ca) (some dd) Ca f (tVar j)) ρ P := fun ⦃A B dc C H σ α⦄ R Q q => by
  obtain ⟨v, hv, z⟩ := R.dat hj
  cases z with
  | exc h =>
    have dz : Dz K C d.v d := by
      cases d with
      | non => exact .non
      | bl b => exact .bl b
      | int i => exact .int i
      | str s => exact .str s
      | _ => cases fl
    exact ⟨_, hv, rfl, rfl, dd, fs, d.v, rfl, R.okC.ex _ _ (h dd rfl), hl, q _ _ _ _ p R (Evl.Ex.refl _) dz⟩
end
end Ub

namespace Rw
open PySem PySem.Spec PyProof.Rows L2 Ub L2H
section
variable {P : Program} {w : World} {K : PySem.W.Frag} {mg : Str → Option Value} {base : Heap} {T : Tb}
/-! ### the refusals -/
structure Ek (mg : Str → Option Value) (ec : Nat → Addr) : Prop where
  g0 : mg "BadFields" = some (.ref (ec 0))
  g1 : mg "BadHand" = some (.ref (ec 1))
  g2 : mg "BadMemory" = some (.ref (ec 2))
  g3 : mg "NoField" = some (.ref (ec 3))
  g4 : mg "BadNumber" = some (.ref (ec 4))
  g5 : mg "BadDeed" = some (.ref (ec 5))
  g6 : mg "BadText" = some (.ref (ec 6))
  g7 : mg "ShareError" = some (.ref (ec 7))
  ve : mg "ValueError" = none
/-- what an object of the i-th class is -/
structure Ei (K : PySem.W.Frag) (ec : Nat → Addr) (i : Nat) : Prop where
  xc : ExcC K (ec i)
  kit : ∀ j, j < 7 → PySem.W.kitOne K (.ref (ec i)) (.ref (ec j)) = some (decide (i = j))
  kve : PySem.W.kitOne K (.ref (ec i)) (.type "ValueError") = some true
  exm : PySem.W.exmOne K (.ref (ec i)) (.ref (ec 7)) = some true
def kw : List Str := ["fields", "hand", "memory", "name", "number", "deed", "text"]
/-- which word is the handled error's -/
def spIsD (T : Tb) (K : PySem.W.Frag) (ec : Nat → Addr) (p : Addr × Obj) : Sp := fun vs H Q _ => ∃ (i : Nat) (x : Str) (B : Hp) (dd : Option Addr), i < 7 ∧ Ei K ec i ∧ vs = [.ref p.1, .str x] ∧ Ok T B H ∧ Zc (.ref (ec i)) dd p.2 ∧ (∃ vs, p.2.data = .fields vs) ∧ (∀ d, dd = some d → ∃ fs, B d = some (.xd fs)) ∧ ∀ H', Ok T B H' → Q (.bl (decide (kw[i]? = some x))) H'
theorem k_isD_ (D : Df K mg "_law_is" s_is P_is) (bl : Bl mg) {ec : Nat → Addr} (ek : Ek mg ec) : KpX P w K mg base 1 "_law_is" P_is (spIsD T K ec) := by
  refine D.okX sc_is (fun p vs H Q E h => ?_) (fun f cdv A outer s H vs Q E p hot hr h => ?_)
  · obtain ⟨_, _, _, _, _, _, rfl, _⟩ := h
    rfl
  · obtain ⟨i, x, B, dd, hi, ei, rfl, o0, hz, hf, hdd, q⟩ := h
    have xc := ei.xc
    refine ⟨_, (pss_cons (ps_set (i := 2) sc_is.nd rfl (by first | exact Or.inl rfl | exact Or.inr rfl) (pe_lst (pa_cons (pe_callB (r := rIsD K (ec i) p.1 dd) (call_isD xc hz hf (List.mem_singleton.mpr rfl)) (by rfl) bl.isinst (by decide +kernel) (pa_cons (pv 0) (pa_cons (pe_glob (v := .ref (ec 0)) rfl ek.g0 rfl) pa_nil))) (pa_cons (pe_callB (r := rIsD K (ec i) p.1 dd) (call_isD xc hz hf (List.mem_singleton.mpr rfl)) (by rfl) bl.isinst (by decide +kernel) (pa_cons (pv 0) (pa_cons (pe_glob (v := .ref (ec 1)) rfl ek.g1 rfl) pa_nil))) (pa_cons (pe_callB (r := rIsD K (ec i) p.1 dd) (call_isD xc hz hf (List.mem_singleton.mpr rfl)) (by rfl) bl.isinst (by decide +kernel) (pa_cons (pv 0) (pa_cons (pe_glob (v := .ref (ec 2)) rfl ek.g2 rfl) pa_nil))) (pa_cons (pe_callB (r := rIsD K (ec i) p.1 dd) (call_isD xc hz hf (List.mem_singleton.mpr rfl)) (by rfl) bl.isinst (by decide +kernel) (pa_cons (pv 0) (pa_cons (pe_glob (v := .ref (ec 3)) rfl ek.g3 rfl) pa_nil))) pa_nil))))))
      (pss_cons (ps_set (i := 2) sc_is.nd rfl (by first | exact Or.inl rfl | exact Or.inr rfl) (pe_op op_cat (pv 2) (pe_lst (pa_cons (pe_callB (r := rIsD K (ec i) p.1 dd) (call_isD xc hz hf (List.mem_singleton.mpr rfl)) (by rfl) bl.isinst (by decide +kernel) (pa_cons (pv 0) (pa_cons (pe_glob (v := .ref (ec 4)) rfl ek.g4 rfl) pa_nil))) (pa_cons (pe_callB (r := rIsD K (ec i) p.1 dd) (call_isD xc hz hf (List.mem_singleton.mpr rfl)) (by rfl) bl.isinst (by decide +kernel) (pa_cons (pv 0) (pa_cons (pe_glob (v := .ref (ec 5)) rfl ek.g5 rfl) pa_nil))) (pa_cons (pe_callB (r := rIsD K (ec i) p.1 dd) (call_isD xc hz hf (List.mem_singleton.mpr rfl)) (by rfl) bl.isinst (by decide +kernel) (pa_cons (pv 0) (pa_cons (pe_glob (v := .ref (ec 6)) rfl ek.g6 rfl) pa_nil))) pa_nil))))))
      (pss_cons (ps_set (i := 3) sc_is.nd rfl (by first | exact Or.inl rfl | exact Or.inr rfl) (pe_lst (pa_cons pe_str (pa_cons pe_str (pa_cons pe_str (pa_cons pe_str (pa_cons pe_str (pa_cons pe_str (pa_cons pe_str pa_nil)))))))))
      (pss_one (ps_ret (pe_and (pe_callB (r := rIsD K (ec i) p.1 dd) (call_isD xc hz hf (List.mem_singleton.mpr rfl)) (by rfl) bl.isinst (by decide +kernel) (pa_cons (pv 0) (pa_cons (pe_bltn (v := .ty "ValueError") (by rfl) ek.ve (by decide +kernel) rfl) pa_nil))) (pe_one (pe_cmpR (r := rEqD K) (op_eqD (roomH_units hr)) (pv 2) (pe_lcH (own := [("_law_one", 4)]) (g := gName 4) ⟨p, hot, List.mem_singleton.mpr rfl⟩ sc_is.nd (pi_listH (pv 3)) (blkOk_by (own := [("_law_one", 4)]) (N := N_is) (sc := defScope s_is) (by decide +kernel)) (fun _ _ _ _ _ => (pg_name (i := 4) sc_is.nd rfl (by first | exact Or.inl rfl | exact Or.inr rfl))) (fun _ _ _ _ _ => pts_nil) (fun _ _ _ _ _ => (pe_cmpR  op_eq (pv 1) (pv 4) (nomark _)))) (nomark _))))))))), ?_⟩
    have kr : ∀ j, ∀ u, RelV (.ref (ec j)) u → u = Value.ref (ec j) := fun j u h => h
    have xdk : ∀ {H' : Hp}, Ok T B H' → ∀ d, dd = some d → ∃ fs, H' d = some (.xd fs) := fun {H'} o d e => by
      obtain ⟨fs, h1⟩ := hdd d e
      exact ⟨fs, o.ex _ _ h1⟩
    refine isD rfl (kr 0) (ei.kit 0 (by decide)) (xdk o0) (isD rfl (kr 1) (ei.kit 1 (by decide)) (xdk o0) (isD rfl (kr 2) (ei.kit 2 (by decide)) (xdk o0) (isD rfl (kr 3) (ei.kit 3 (by decide)) (xdk o0) ⟨by show 4 ≤ sizeLine; decide, fun l1 n1 => ?_⟩)))
    have o1 := o0.newM n1 (o := .lst [.bl (decide (i = 0)), .bl (decide (i = 1)), .bl (decide (i = 2)), .bl (decide (i = 3))])
    refine ⟨_, rfl, isD rfl (kr 4) (ei.kit 4 (by decide)) (xdk o1) (isD rfl (kr 5) (ei.kit 5 (by decide)) (xdk o1) (isD rfl (kr 6) (ei.kit 6 (by decide)) (xdk o1) ⟨by show 3 ≤ sizeLine; decide, fun l2 n2 => ?_⟩))⟩
    have o2 := o1.newM n2 (o := .lst [.bl (decide (i = 4)), .bl (decide (i = 5)), .bl (decide (i = 6))])
    have l12 : l1 ≠ l2 := ne_of_none upd_same n2
    refine ⟨l1, l2, _, _, rfl, rfl, (upd_ne l12).trans upd_same, upd_same, by show 7 ≤ sizeLine; decide, fun l3 n3 => ?_⟩
    have o3 := o2.newM n3 (o := .lst ([.bl (decide (i = 0)), .bl (decide (i = 1)), .bl (decide (i = 2)), .bl (decide (i = 3))] ++ [.bl (decide (i = 4)), .bl (decide (i = 5)), .bl (decide (i = 6))]))
    refine ⟨by show 7 ≤ sizeLine; decide, fun l4 n4 => ?_⟩
    have o4 := o3.newM n4 (o := .lst (kw.map V.str))
    have l34 : l3 ≠ l4 := ne_of_none upd_same n4
    refine isD rfl (fun u h => h) ei.kve (xdk o4) ⟨_, rfl, ?_⟩
    refine ⟨_, rfl, _, rfl, l4, rfl, ⟨_, SqL.of upd_same⟩, fun L nL => ?_⟩
    refine lc_list (K := K) (a := l4) (xs := kw.map V.str) (fun j H' => Ok T B H' ∧ H' l3 = some (.lst ((List.range 7).map fun m => V.bl (decide (i = m)))) ∧ H' l4 = some (.lst (kw.map V.str)) ∧ H' L = some (.lst ((kw.take j).map fun y => V.bl (decide (x = y))))) ?_ (fun j H' _ h => ?_) (fun j y H' hy h => ?_) (fun H' h => ?_)
    · have l3L : l3 ≠ L := ne_of_none ((upd_ne l34).trans upd_same) nL
      have l4L : l4 ≠ L := ne_of_none upd_same nL
      exact ⟨o4.newM nL, (upd_ne l3L).trans ((upd_ne l34).trans upd_same), (upd_ne l4L).trans upd_same, upd_same⟩
    · exact SqL.of h.2.2.1
    · obtain ⟨o5, h3, h4, hL⟩ := h
      obtain ⟨y', hy', rfl⟩ := map_at hy
      have hj : j < 7 := (List.getElem?_eq_some_iff.mp hy').1
      have e1 : (decide (V.str x = V.str y')) = decide (x = y') := by simp
      refine ⟨rfl, _, rfl, _, rfl, rfl, ?_⟩
      rw [e1]
      have nBL := o4.fresh nL
      have l3L : l3 ≠ L := fun z => by
        rw [z, hL] at h3
        have h9 := congrArg List.length (HO.lst.inj (Option.some.inj h3))
        rw [List.length_map, List.length_map, List.length_take, List.length_range] at h9
        omega
      have l4L : l4 ≠ L := ne_of_none upd_same nL
      have hk7 : kw.length = 7 := rfl
      refine ⟨_, hL, by rw [List.length_map, List.length_take]; exact Nat.lt_of_le_of_lt (Nat.min_le_right _ _) (show 7 < sizeLine by decide), o5.mutL nBL hL, (upd_ne l3L).trans h3, (upd_ne l4L).trans h4, ?_⟩
      rw [upd_same, List.take_add_one, hy', List.map_append]
      rfl
    · obtain ⟨o5, h3, h4, hL⟩ := h
      have dp : ∀ (l : List Bool), DpAll K H' (l.map V.bl) (l.map PyData.bool) := fun l => by
        induction l with
        | nil => exact .nil
        | cons a l ih => exact .cons (.bl _) ih
      have sh : ∀ l : List Bool, SeqAt.shaped (.list (l.map PyData.bool)) = true := fun l => (Sh.list (n := 0) fun d hd => by
        obtain ⟨m, _, rfl⟩ := List.mem_map.mp hd
        exact .bool).shaped (by decide)
      have e3 : (List.range 7).map (fun m => V.bl (decide (i = m))) = ((List.range 7).map fun m => decide (i = m)).map V.bl := by rw [List.map_map]; rfl
      have e4 : (kw.take (kw.map V.str).length).map (fun y => V.bl (decide (x = y))) = (kw.map fun y => decide (x = y)).map V.bl := by rw [List.length_map, List.take_length, List.map_map]; rfl
      rw [e3] at h3
      rw [e4] at hL
      refine ⟨_, _, .lst (SqL.of h3) (dp _), .lst (SqL.of hL) (dp _), sh _, sh _, ?_⟩
      rw [eqv_bools]
      have e5 : decide (((List.range 7).map fun m => decide (i = m)) = kw.map fun y => decide (x = y)) = decide (kw[i]? = some x) := by
        refine decide_eq_decide.mpr ⟨fun h => ?_, fun h => ?_⟩
        · have h9 := congrArg (fun l => l[i]?) h
          simp only [List.getElem?_map, List.getElem?_range hi] at h9
          cases e : kw[i]? with
          | none => rw [e] at h9; cases h9
          | some y =>
            rw [e] at h9
            have : x = y := by simpa using h9
            rw [this]
        · refine List.ext_getElem? fun j => ?_
          rw [List.getElem?_map, List.getElem?_map]
          by_cases hj : j < 7
          · have hk : kw[j]? = some (kw[j]'hj) := List.getElem?_eq_getElem hj
            generalize kw[j]'hj = y at hk
            rw [List.getElem?_range hj, hk]
            show some (decide (i = j)) = some (decide (x = y))
            refine congrArg some (decide_eq_decide.mpr ⟨fun e => ?_, fun e => ?_⟩)
            · subst e
              rw [h] at hk
              exact Option.some.inj hk
            · subst e
              have nd : kw.Nodup := by decide +kernel
              exact (List.getElem?_inj hi nd).mp (h.trans hk.symm)
          · rw [List.getElem?_eq_none (by simp; omega), List.getElem?_eq_none (by show kw.length ≤ j; have : kw.length = 7 := rfl; omega)]
            rfl
      rw [e5]
      exact q H' o5
end
/-- the same by data -/
theorem we_isD {K : PySem.W.Frag} {T : Tb} {ρ : List Sl} {Pg : Ag → Prop} {ec : Nat → Addr} {i j : Nat} {x : Str} {p : Addr × Obj} {dd : Option Addr} {fs : List (Str × V)} {E : XK} (hj : ρ[j]? = some (Sl.dat (.exc p.1 dd fs))) (hi : i < 7) (ei : Ei K ec i) (hz : Zc (.ref (ec i)) dd p.2) (hf : ∃ vs, p.2.data = .fields vs)
    (q : Pg (.dat (.bl (decide (kw[i]? = some x))))) : Ub.WE K T (tCall (spIsD T K ec p) [] E (tCons (tVar j) (tCons (tC (.str x)) tNil))) ρ Pg := fun ⦃A B dc C H σ α⦄ R Q k => by
  obtain ⟨v, hv, z⟩ := R.dat hj
  cases z with
  | exc h =>
    obtain ⟨F, o, e, back⟩ := rep_frame R
    exact ⟨_, hv, i, x, F, dd, hi, ei, rfl, o, hz, hf, fun d q => ⟨_, e _ _ (h d q)⟩, fun H' o' => k _ _ _ _ q (back H' o') (Evl.Ex.refl _) (.bl _)⟩
end Rw

namespace Ub
open PySem PySem.Spec PyProof.Rows L2
/-! ### lambdas as values, with defaults too -/
abbrev lamOb (L : LamD) (dV pm : Value) (c' : Addr) (ctv : Value) : Obj := { cls := .type "function", data := .func (lamFd L dV pm (.ref c') ctv) }
section
variable {M : Model} {A : Around} {E : Value → Shared → Prop} {s : Shared} {L : LamD} {env : Env} {c P : Addr} {ps : Array Value} {pos : Pos} {n : Nat} {mg : Str → Option Value} {dV : Value} {Q : Value → Shared → Prop}
theorem tail_new (hcl : closureFor L.scope env = pure L.clo) (g0 : env.globals = mainGlobals) (hg : s.heap.Ns mainGlobals mg) (hc : env.code = .ref c) (C : PySem.W.CodeHd s.heap c P)
    (hP : s.heap.get? P = some { cls := .none, data := .fields ps }) (ht : TriplesOk ps.toList) (hnf : codeAmong pos ps.toList = none) (gP : mainGlobals ≠ P) (hb : s.heap.BuiltinsAt mg P)
    (h : ∀ (c' : Addr) (ctv : Value) (h' : Heap) (tk : Tok), Heap.ExtBut P s.heap h' → s.heap.objs.size ≤ c' → c' < h'.objs.size → h'.CodeRec (.ref c') L.q → h'.get? P = some { cls := .none, data := .fields (ps ++ #[rawInt pos.line, rawInt pos.col, .ref c']) } →
      Q (.ref h'.objs.size) { s with heap := h'.push (lamOb L dV ((mg "__name__").getD .none) c' ctv), toks := tk }) :
    wpAny M A (makeTail "<lambda>" L.q L.params (.expr L.body) L.scope env dV .none none pos n) Q E s := by
  obtain ⟨b1, b2, e1, e2, _, e3, e4, e5, e6, e7⟩ := hb
  obtain ⟨q, params, body, scope, clo, dfl⟩ := L
  dsimp only at hcl h
  unfold makeTail
  rw [hcl, g0]
  refine wpAny_bind (wpAny_pure ?_)
  cases clo with
  | nil =>
    simp only [List.isEmpty_nil, if_true]
    refine wpAny_bind (wpAny_pure (wpAny_bind (wpAny_functionCodeX hc (C.code hP ht) (C.tab hP) hnf fun c1 h1 t1 x1 x2 x3 _ x4 x5 _ => ?_)))
    refine wpAny_bind (wpAny_builtinsFor (hg.extBut x1 gP) e1 e2 (x1 _ _ e3 e4) e5 e6 e7 (wpAny_bind (wpAny_nsGet (hg.extBut x1 gP) (wpAny_bind (wpAny_pure ?_)))))
    have r := h c1 .none h1 t1 x1 x2 x3 x4 x5.2
    exact wpAny_newObj_type r (by size_fits)
  | cons a l =>
    simp only [List.isEmpty_cons, Bool.false_eq_true, if_false]
    refine wpAny_bind (wpAny_newTextTuple (wpAny_bind (wpAny_functionCodeX hc ((C.keeps fun b o e => Heap.get?_push_of_some _ e).code (Heap.get?_push_of_some _ hP) ht) ((C.keeps fun b o e => Heap.get?_push_of_some _ e).tab (Heap.get?_push_of_some _ hP)) hnf fun c1 h1 t1 x1 x2 x3 _ x4 x5 _ => ?_)))
    have y1 : Heap.ExtBut P s.heap h1 := fun b o n e => x1 b o n (Heap.get?_push_of_some _ e)
    have y2 : s.heap.objs.size ≤ c1 := Nat.le_trans (by rw [Heap.size_push]; omega) x2
    refine wpAny_bind (wpAny_builtinsFor ((hg.push _).extBut x1 gP) e1 e2 (y1 _ _ e3 e4) e5 e6 e7 (wpAny_bind (wpAny_nsGet ((hg.push _).extBut x1 gP) (wpAny_bind (wpAny_pure ?_)))))
    exact wpAny_newObj_type (h c1 _ h1 t1 y1 y2 x3 x4 x5.2) (by size_fits)
theorem tail_hit {c0 : Addr} (hcl : closureFor L.scope env = pure L.clo) (g0 : env.globals = mainGlobals) (hg : s.heap.Ns mainGlobals mg) (hc : env.code = .ref c) (C : PySem.W.CodeHd s.heap c P)
    (hP : s.heap.get? P = some { cls := .none, data := .fields ps }) (ht : TriplesOk ps.toList) (hf : codeAmong pos ps.toList = some (.ref c0)) (hb : s.heap.BuiltinsAt mg P)
    (h : ∀ (ctv : Value) (h' : Heap) (tk : Tok), (∀ b o, s.heap.get? b = some o → h'.get? b = some o) → s.heap.objs.size ≤ h'.objs.size → Q (.ref h'.objs.size) { s with heap := h'.push (lamOb L dV ((mg "__name__").getD .none) c0 ctv), toks := tk }) :
    wpAny M A (makeTail "<lambda>" L.q L.params (.expr L.body) L.scope env dV .none none pos n) Q E s := by
  obtain ⟨b1, b2, e1, e2, _, e3, e4, e5, e6, e7⟩ := hb
  obtain ⟨q, params, body, scope, clo, dfl⟩ := L
  dsimp only at hcl h
  unfold makeTail
  rw [hcl, g0]
  refine wpAny_bind (wpAny_pure ?_)
  cases clo with
  | nil =>
    simp only [List.isEmpty_nil, if_true]
    refine wpAny_bind (wpAny_pure (wpAny_bind (wpAny_functionCode_hit hc (C.code hP ht) hf ?_)))
    refine wpAny_bind (wpAny_builtinsFor hg e1 e2 e4 e5 e6 e7 (wpAny_bind (wpAny_nsGet hg (wpAny_bind (wpAny_pure ?_)))))
    have r := h .none s.heap s.toks (fun _ _ e => e) (Nat.le_refl _)
    exact wpAny_newObj_type r (by size_fits)
  | cons a l =>
    simp only [List.isEmpty_cons, Bool.false_eq_true, if_false]
    refine wpAny_bind (wpAny_newTextTuple (wpAny_bind (wpAny_functionCode_hit hc ((C.keeps fun b o e => Heap.get?_push_of_some _ e).code (Heap.get?_push_of_some _ hP) ht) hf ?_)))
    refine wpAny_bind (wpAny_builtinsFor (hg.push _) e1 e2 (Heap.get?_push_of_some _ e4) e5 e6 e7 (wpAny_bind (wpAny_nsGet (hg.push _) (wpAny_bind (wpAny_pure ?_)))))
    have sz : ∀ o : Obj, s.heap.objs.size ≤ (s.heap.push o).objs.size := fun o => by
      rw [Heap.size_push]
      omega
    exact wpAny_newObj_type (h _ _ s.toks (fun _ _ z => Heap.get?_push_of_some _ z) (sz _)) (by size_fits)
end
/-! ### the lambda is made; its table may have grown -/
/-- what is asked of a lambda's text in the frame of sc; bs: its parameters, each with a default, none of them a slot -/
structure LamP (sc : Scope) (N : List Str) (L : LamD) (bs : List Str) : Prop where
  kind : L.scope.kind = .function
  co : L.scope.isCoroutine = false
  gen : L.scope.isGenerator = false
  own : ∀ y ∈ L.scope.names, y.2 ≠ .cell ∧ (y.2 = .local → y.1 ∈ bs)
  par : ∀ y ∈ bs, L.scope.names.lookup y = some .local
  free : ∀ y ∈ L.scope.names, y.2 = .free → sc.names.lookup y.1 = some .cell ∨ sc.names.lookup y.1 = some .free
  out : ∀ y ∈ bs, y ∉ N
def lamPB (sc : Scope) (N : List Str) (scope : Scope) (bs : List Str) : Bool :=
  decide (scope.kind = .function) && (!scope.isCoroutine && (!scope.isGenerator && ((scope.names.all fun y => !decide (y.2 = .cell) && ((!decide (y.2 = .local) || decide (y.1 ∈ bs)) && (!decide (y.2 = .free) || (decide (sc.names.lookup y.1 = some .cell) || decide (sc.names.lookup y.1 = some .free))))) &&
    (bs.all fun y => decide (scope.names.lookup y = some .local) && !decide (y ∈ N)))))
theorem lamP_by {sc : Scope} {N : List Str} {L : LamD} {bs : List Str} (h : lamPB sc N L.scope bs = true) : LamP sc N L bs := by
  unfold lamPB at h
  simp only [Bool.and_eq_true, Bool.or_eq_true, Bool.not_eq_true', decide_eq_true_eq, decide_eq_false_iff_not, List.all_eq_true] at h
  obtain ⟨h1, h2, h3, h4, h5⟩ := h
  exact ⟨h1, h2, h3, fun y hy => ⟨(h4 y hy).1, fun e => (h4 y hy).2.1.resolve_left (fun z => z e)⟩, fun y hy => (h5 y hy).1, fun y hy e => (h4 y hy).2.2.resolve_left (fun z => z e), fun y hy => (h5 y hy).2⟩
theorem LamP.has {X : Cx} {N : List Str} {L : LamD} {bs : List Str} (h : LamP X.env.scope N L bs) (ok : X.Ok) : ∀ y ∈ L.scope.names, y.2 = .free → ∃ c, X.env.cells.lookup y.1 = some c := fun y hy e =>
  (h.free y hy e).elim (fun k => ok.has _ (.inl k)) fun k => ok.has _ (.inr k)
/-- where the defaults stand -/
def DflAt (L : LamD) (dV : Value) (H : Hp) : Prop := (L.dfl = [] ∧ dV = .none) ∨ (L.dfl ≠ [] ∧ ∃ t, dV = .ref t ∧ H t = some (.tup (L.dfl.map V.int)))
section
variable {X : Cx} {pins : List (Addr × Obj)} {σ : L2.St} {H HZ : Hp} {s s1 : Shared}
theorem fnO_new {L : LamD} {f c' : Addr} {dV pm ctv : Value} {h : Heap} (e : h.get? f = some (lamOb L dV pm c' ctv)) : ∃ pm ctv, h.get? f = some { cls := .type "function", data := .func (lamFd L dV pm (.ref c') ctv) } := ⟨pm, ctv, e⟩
/-- behind the defaults: the function object is made -/
theorem fun_made {c P : Addr} {L : LamD} {dV : Value} {pos : Pos} {n : Nat} {E Q : Value → Shared → Prop} (I : Inv X pins σ H s) (TB : LamX.TabB X.base X.mg c P) (hcode : X.env.code = .ref c) (hT : LamX.TabS H P L.q) (hclo : L.clo = cloFrom X.env.cells L.scope.names [])
    (hfree : ∀ y ∈ L.scope.names, y.2 = .free → ∃ c, X.env.cells.lookup y.1 = some c)
    (h : ∀ (f c' : Addr) (H1 : Hp) (s1 : Shared), Inv X pins σ (upd H1 f (FnO f c' L dV)) s1 → (∀ b o, b ≠ P → H b = some o → H1 b = some o) → LamX.TabS H1 P L.q → H1 f = none → H1 c' = some (LamX.CodeO c' L.q) → Q (.ref f) s1) :
    wpAny (model X.prog X.w) X.A (makeTail "<lambda>" L.q L.params (.expr L.body) L.scope X.env dV .none none pos n) Q E s := by
  obtain ⟨ps, hP, ht, ha⟩ := hT
  have bmP : s.heap.BuiltinsAt X.mg P := TB.bm.keeps I.bk
  have hPs : s.heap.get? P = some { cls := .none, data := .fields ps } := I.hok P _ hP
  have hcl : closureFor L.scope X.env = pure L.clo := by rw [hclo]; exact closure_ok hfree
  have lay : ∀ {c' : Addr} {H1 : Hp} {s0 : Shared} {pm ctv : Value} {tk : Tok}, Inv X pins σ H1 s0 → Inv X pins σ (upd H1 s0.heap.objs.size (FnO s0.heap.objs.size c' L dV)) { s0 with heap := s0.heap.push (lamOb L dV pm c' ctv), toks := tk } := fun {c' H1 s0 pm ctv tk} J =>
    J.laid (fun b u e => Heap.get?_push_of_some _ e) (Nat.le_refl _) ⟨⟨pm, ctv, Heap.get?_push_size _ rfl⟩, ⟨_, Heap.get?_push_size _ rfl⟩, fun h1 h2 ⟨pm, ctv, e⟩ st => ⟨pm, ctv, st _ e⟩⟩
  cases hc : codeAmong pos ps.toList with
  | some cv =>
    obtain ⟨c', rfl, hco⟩ := ha pos cv hc
    refine tail_hit (mg := X.mg) (c := c) (P := P) (ps := ps) hcl I.ok.glob (I.mod.glob.keeps I.bk) hcode (TB.code.keeps I.bk) hPs ht hc bmP fun ctv hn tk hx hsz => ?_
    have J : Inv X pins σ H { s with heap := hn, toks := s.toks } := I.kept (t' := s.toks) hx
    exact h hn.objs.size c' H _ (lay J) (fun _ _ _ e => e) ⟨ps, hP, ht, ha⟩ (I.hok.fresh hsz) hco
  | none =>
    refine tail_new (mg := X.mg) (c := c) (P := P) (ps := ps) hcl I.ok.glob (I.mod.glob.keeps I.bk) hcode (TB.code.keeps I.bk) hPs ht hc TB.gP bmP fun c' ctv hn tk hx hge hlt hrec htb => ?_
    obtain ⟨c2, oc, vs, tq, e2, hoc, hd, hv⟩ := hrec
    cases e2
    have hsz : s.heap.objs.size ≤ hn.objs.size := Nat.le_trans hge (Nat.le_of_lt hlt)
    have nC : H c' = none := I.hok.fresh hge
    have J := LamX.inv_table (t' := s.toks) (more := #[rawInt pos.line, rawInt pos.col, .ref c']) (h' := hn) (q := L.q) I hP hx htb hge ⟨oc, vs, tq, hoc, hd, hv⟩
    have kH : ∀ b o, b ≠ P → H b = some o → upd (upd H P (.tbl (ps ++ #[rawInt pos.line, rawInt pos.col, .ref c']))) c' (LamX.CodeO c' L.q) b = some o := fun b o hb e => by
      rw [upd_ne (ne_of_none e nC), upd_ne hb]
      exact e
    have eL : (ps ++ #[rawInt pos.line, rawInt pos.col, .ref c']).toList = ps.toList ++ [rawInt pos.line, rawInt pos.col, .ref c'] := by simp
    refine h hn.objs.size c' _ _ (lay J) kH ⟨_, by rw [upd_ne (ne_of_none hP nC), upd_same], by rw [eL]; exact PySem.TriplesOk_snoc _ _ _ _ ht, fun p' cv hcv => ?_⟩ ?_ upd_same
    · rw [eL] at hcv
      rcases LamX.among_app _ ht hcv with z | z
      · obtain ⟨c0, e1, e2⟩ := ha p' cv z
        exact ⟨c0, e1, kH _ _ (fun zz => by rw [zz, hP] at e2; exact LamX.codeO_ne ps (Option.some.inj e2).symm) e2⟩
      · exact ⟨c', z, upd_same⟩
    · rw [upd_ne (Nat.ne_of_gt hlt), upd_ne (Nat.ne_of_gt (Nat.lt_of_lt_of_le (Heap.lt_size hPs) hsz))]
      exact I.hok.fresh hsz
/-- how its arguments are bound, none given -/
def LamB (L : LamD) (bs : List Str) : Prop := (L.dfl = [] ∧ bs = [] ∧ ∀ (pm cdv ctv : Value), bindArgs (lamFd L .none pm cdv ctv) ⟨[], []⟩ = pure []) ∨
  ∃ (d : Int) (x : Str), L.dfl = [d] ∧ bs = [x] ∧ ∀ (pm cdv ctv : Value) (t : Addr) (u : Value), ∃ k, bindArgs (lamFd L (.ref t) pm cdv ctv) ⟨[], []⟩ = seqItems? (.ref t) >>= k ∧ k (some #[u]) = pure [(x, u)]
/-- its body's frame is entered -/
theorem lam_in {A : Around} {outer : List Env} {E : XK} {L : LamD} {bs : List Str} {us : List Value} {f c' : Addr} {h1 : Heap} {tk : Nat} (I : Inv X pins σ H s) (P : LamP X.env.scope X.N L bs) (e0 : Env0 X.prog X.w X.K X.mg X.base A outer s1 HZ) (hd : A.handled = none)
    (un : Un (frs X.stack) [] H HZ s.heap s1.heap) (hns : h1.Ns s1.heap.objs.size fun y => (bs.zip us).reverse.lookup y) (kp : ∀ b o, s1.heap.get? b = some o → h1.get? b = some o) :
    Inv (LamX.lamCx X A outer s1 HZ E L.scope f c') [] σ HZ { s1 with heap := h1, toks := tk } := by
  have fr := P.has I.ok
  have into : ∀ {y c}, (cloFrom X.env.cells L.scope.names []).lookup y = some c → X.env.cells.lookup y = some c := fun {y c} e => by
    rcases cloFrom_mem (PySem.mem_of_lookup e) with z | ⟨z1, z2⟩
    · cases z
    · obtain ⟨c1, q⟩ := fr _ z1 rfl
      have q : X.env.cells.lookup y = some c1 := q
      have : c = c1 := by rw [z2, q] <;> rfl
      rw [this, q]
  have outof : ∀ {y}, L.scope.names.lookup y = some .free → ∃ c, (cloFrom X.env.cells L.scope.names []).lookup y = some c := fun {y} z => mem_lookup (cloFrom_has (cells := X.env.cells) (acc := []) (PySem.mem_of_lookup z))
  have stays : ∀ {c : Addr} {v : Option Value}, H c = none → s.heap.IsCell c v → h1.IsCell c v := fun {c v} n ⟨o, z1, z2⟩ => by
    obtain ⟨sl, q⟩ := un.any z1 n (by simp)
    exact ⟨_, kp _ _ q, z2⟩
  have none_ : ∀ b : Addr, b ∉ (LamX.lamCx X A outer s1 HZ E L.scope f c').ex := fun b z => absurd (show b ∈ ([] : List Addr) from z) (by simp)
  have notMine : ∀ {i : Nat} {y : Str}, X.N[i]? = some y → L.scope.names.lookup y ≠ some .local := fun {i y} e z => P.out y ((P.own _ (PySem.mem_of_lookup z)).2 rfl) (List.mem_of_getElem? e)
  refine ⟨⟨e0.mod, P.kind, rfl, rfl, Nat.le_refl _, fun y z c e1 e2 => I.ok.inj y z c (into e1) (into e2), fun y hy => ?_, fun y c z _ => Bool.noConfusion (show false = true from z), fun _ => hd, Around.frames_deeper e0.frames, .inr ⟨rfl, rfl⟩, fun b z => absurd z (none_ b), e0.bs, e0.bsz, fun b _ _ => none_ b,
      fun b z => absurd z (none_ b), e0.funs, e0.frf⟩,
    rfl, e0.bare, Un.kept kp, ⟨_, hns, fun i y v e1 e2 e3 => ?_⟩, fun y c e => ?_, e0.hok.fresh (Nat.le_refl _), fun y c e => ?_, fun q hq => absurd (show q ∈ ([] : List (Addr × Obj)) ++ [] from hq) (by simp), e0.hok.kept kp, I.len⟩
  · have hy : L.scope.names.lookup y = some .cell ∨ L.scope.names.lookup y = some .free := hy
    exact hy.elim (fun z => absurd rfl (P.own _ (PySem.mem_of_lookup z)).1) outof
  · have e1 : X.N[i]? = some y := e1
    have e3 : Vis L.scope y := e3
    rcases e3 with z | z | z
    · exact absurd z (notMine e1)
    · exact absurd rfl (P.own _ (PySem.mem_of_lookup z)).1
    · obtain ⟨m, hn, hl⟩ := I.loc
      have two := P.free _ (PySem.mem_of_lookup z) rfl
      obtain ⟨w1, r, q⟩ := hl i y v e1 e2 (two.elim (fun k => .inr (.inl k)) fun k => .inr (.inr k))
      obtain ⟨c2, z2⟩ := outof z
      refine ⟨w1, r, .inr ⟨.inr z, c2, z2, ?_⟩⟩
      have z1 := into z2
      rcases q with ⟨k, _⟩ | ⟨_, c3, k, kc⟩
      · have k : X.env.scope.names.lookup y = some .local := k
        rcases two with k2 | k2 <;> rw [show X.env.scope.names.lookup y = _ from k2] at k <;> cases k
      · rw [z1] at k
        cases k
        exact stays (I.freeC y _ z1) kc
  · obtain ⟨v, z⟩ := I.cell y c (into e)
    exact ⟨v, stays (I.freeC y c (into e)) z⟩
  · obtain ⟨v, o, z1, z2⟩ := I.cell y c (into e)
    exact un.free c o z1 (I.freeC y c (into e)) (by simp)
/-- work(), in the def that got the lambda -/
theorem act5 {CXg : CXT} {Eg : XK} {Ng : List Str} {qg : Str} {sg : Scope} {g f c' : Addr} {cdg dV : Value} {L : LamD} {bs : List Str} {k i : Nat} {a : Str} {pn : List (Addr × Obj)} {xe : Value → Shared → Prop} {W : WX} {tb : XK → TE} {p1 p2 : Pos}
    (I : Inv X pins σ H s) (P : LamP X.env.scope X.N L bs) (hq : L.q = X.env.qual ++ "<lambda>") (hclo : L.clo = cloFrom X.env.cells L.scope.names []) (hb : LamB L bs)
    (tk : L2N.Takes ((cxOf CXg X.prog X.w X.K X.mg X.base Ng qg sg g cdg X.A X.stack s H Eg).tr pn xe) W) (hr : Room (k + 1) (X.A.deeper (envOfC qg sg s.heap.objs.size g cdg)))
    (hbody : ∀ (E : XK) (A : Around) (outer : List Env) (s : Shared) (H : Hp), Room k (A.deeper (LamX.lamEnv X L.scope s.heap.objs.size f c')) → PE (lamCxN X A outer s H E L.scope f c') L.body (tb E))
    (hN : Ng[i]? = some a) (hv : Vis sg a) (hd : (a == ("__debug__" : Str)) = false) (hcd : (a == ("__classdict__" : Str)) = false) :
    PE ((cxOf CXg X.prog X.w X.K X.mg X.base Ng qg sg g cdg X.A X.stack s H Eg).tr pn xe) (.Call (.Name a p1) [] [] p2) (fun σZ HZ Q => σZ[i]? = some (some (.ref f)) ∧ HZ f = some (FnO f c' L dV) ∧ HZ c' = some (LamX.CodeO c' L.q) ∧ DflAt L dV HZ ∧ tb (L2.WE W σZ) σ HZ Q) := by
  refine ⟨fun pinsZ sZ σZ HZ Q IZ h => ?_⟩
  obtain ⟨hs, hfo, hc, hdf, ht⟩ := h
  refine wpAny_Call_Name_kw (thn ((pe_var (pos := p1) (i := i) hN hv hd hcd).run pinsZ sZ σZ HZ (fun v H1 => v = .ref f ∧ H1 = HZ) IZ ⟨.ref f, hs, rfl, rfl⟩) fun u s1 ⟨v, H1, I1, r1, q1⟩ => ?_)
  obtain ⟨rfl, rfl⟩ := q1
  obtain rfl : u = Value.ref f := r1
  obtain ⟨⟨pm, ctv, hf1⟩, _, _⟩ := I1.hok f _ hfo
  refine PySem.W.callWith_F0 ⟨_, _, _, _, hf1⟩ ?_
  have un : Un (frs X.stack) [] H H1 s.heap s1.heap := I1.base
  obtain ⟨⟨oc, vs, tq, hoc, hdc, hvc⟩, _, _⟩ := I1.hok c' _ hc
  have go : ∀ (us : List Value), us.length = bs.length → wpAny (model X.prog X.w) (X.A.deeper (envOfC qg sg s.heap.objs.size g cdg)).in1 (newFunctionEnv L.scope mainGlobals L.clo (bs.zip us) (L.q ++ ".<locals>.") (some f) (.ref c') none builtinsNs)
      (fun env s2 => s2.heap.NoLimit ∧ codeAny (model X.prog X.w) (X.A.deeper (envOfC qg sg s.heap.objs.size g cdg)) (.expr L.body env) (CR (L2N.CX X.prog X.w) (envOfC qg sg s.heap.objs.size g cdg :: X.stack) X.prog X.w H1 s1 Q (L2.WE W σZ)) s2) (fun e s' => CR (L2N.CX X.prog X.w) (envOfC qg sg s.heap.objs.size g cdg :: X.stack) X.prog X.w H1 s1 Q (L2.WE W σZ) (.error e) s') s1 := fun us hul => by
    refine wpAny_newFunctionEnv (fun y hy => (P.own y hy).1) (fun y hy => P.par _ (List.of_mem_zip (show (y.1, y.2) ∈ bs.zip us from hy)).1) (fun hq2 hns hsb => ⟨I1.nolimit.fresh _ hsb, ?_⟩) P.kind
    have kp : ∀ b o, s1.heap.get? b = some o → hq2.get? b = some o := fun b o e => hsb.extBut b o (Nat.ne_of_lt (Heap.lt_size e)) (Heap.get?_push_of_some _ e)
    have J := (lam_in (tk := s1.toks + (bs.zip us).length) (E := L2.WE W σZ) (f := f) (c' := c') I P I1.env0 hr.hd un hns kp).wish fun e s' => wpAny (model X.prog X.w) ((X.A.deeper (envOfC qg sg s.heap.objs.size g cdg)).deeper (LamX.lamEnv X L.scope s1.heap.objs.size f c')) (leaving (LamX.lamEnv X L.scope s1.heap.objs.size f c') e)
      (fun _ s'' => L2N.CX X.prog X.w (envOfC qg sg s.heap.objs.size g cdg :: X.stack) H1 s1 (L2.WE W σZ) e s'') (fun e' s'' => L2N.CX X.prog X.w (envOfC qg sg s.heap.objs.size g cdg :: X.stack) H1 s1 (L2.WE W σZ) e' s'') s'
    have run := (hbody (L2.WE W σZ) _ _ s1 H1 (hr.deeper _)).run [] _ _ H1 Q J ht
    rw [hq, hclo]
    refine PySem.W.kla_codeExpr (wpAny_mono run (fun v s' hq => ?_) fun e s' hq => hq)
    obtain ⟨w', H', J', rv, q⟩ := hq
    exact ⟨w', H', J'.os, J'.bare, J'.base, J'.hok, rv, q⟩
  have rc : codeAny (model X.prog X.w) (X.A.deeper (envOfC qg sg s.heap.objs.size g cdg)) (.call (.ref f) ⟨[], []⟩) (CR (L2N.CX X.prog X.w) (envOfC qg sg s.heap.objs.size g cdg :: X.stack) X.prog X.w H1 s1 Q (L2.WE W σZ)) s1 := by
    refine PySem.W.kla_callFunE hr.depth hf1 rfl P.co P.gen rfl ⟨c', oc, vs, tq, rfl, hoc, hdc, hvc⟩ ?_
    rcases hb with ⟨d0, b0, hb⟩ | ⟨d, x, d1, b1, hb⟩
    · rcases hdf with ⟨_, rfl⟩ | ⟨n, _⟩
      · rw [hb]
        have z := go [] (by rw [b0]; rfl)
        rw [b0] at z
        exact wpAny_pure z
      · exact absurd d0 n
    · rcases hdf with ⟨n, _⟩ | ⟨_, t, rfl, htu⟩
      · rw [d1] at n
        cases n
      · obtain ⟨its, r, ⟨ot, e1, _, n, e2⟩, _⟩ := I1.tuple (SqT.of (K := X.K) htu)
        have l1 : its.length = 1 := by
          rw [← r.length, d1]
          rfl
        match its, l1 with
        | [u], _ =>
          obtain ⟨k, k1, k2⟩ := hb pm (.ref c') ctv t u
          rw [k1]
          refine wpAny_bind (wpAny_seqItems e1 e2 ?_)
          rw [show ([u] : List Value).toArray = #[u] from rfl, k2]
          have z := go [u] (by rw [b1]; rfl)
          rw [b1] at z
          exact wpAny_pure z
  refine wpAny_call (codeAny_mono rc fun r s' hq => ?_)
  cases r with
  | error e => exact L2N.passAt tk σZ pinsZ _ s1 e s' I1 hq
  | ok fl =>
    cases fl with
    | ret u => exact I1.after hq
    | next => exact False.elim hq
    | brk => exact False.elim hq
    | cont => exact False.elim hq
/-! ### a lambda made, a value from then on -/
def tLamV (P : Addr) (L : LamD) (sc : Scope) (N bs : List Str) : TE := fun σ H Q => LamX.TabS H P L.q ∧ ∀ (f c' : Addr) (dV : Value) (H1 : Hp), LamP sc N L bs → (∀ t, dV = .ref t → H t = none) → (∀ b o, b ≠ P → H b = some o → H1 b = some o) → LamX.TabS H1 P L.q → H f = none → H1 f = some (FnO f c' L dV) → H1 c' = some (LamX.CodeO c' L.q) → DflAt L dV H1 → Q (.ref f) H1
abbrev lamOf (X : Cx) (params : Arguments) (body : Expr) (scope : Scope) (dfl : List Int) : LamD := ⟨X.env.qual ++ "<lambda>", params, body, scope, cloFrom X.env.cells scope.names [], dfl⟩
theorem made_out {P : Addr} {L : LamD} {dV : Value} {f c' : Addr} {H H1 : Hp} {Q : VK} (hn : ∀ t, dV = .ref t → H t = none) (hP : ∃ ps, H P = some (.tbl ps)) (T : LamX.TabS H1 P L.q) (k : ∀ b o, b ≠ P → H b = some o → H1 b = some o) (nf : H1 f = none) (hc : H1 c' = some (LamX.CodeO c' L.q)) (hd : DflAt L dV H1)
    (q : ∀ (f c' : Addr) (dV : Value) (H1 : Hp), (∀ t, dV = .ref t → H t = none) → (∀ b o, b ≠ P → H b = some o → H1 b = some o) → LamX.TabS H1 P L.q → H f = none → H1 f = some (FnO f c' L dV) → H1 c' = some (LamX.CodeO c' L.q) → DflAt L dV H1 → Q (.ref f) H1) : Q (.ref f) (upd H1 f (FnO f c' L dV)) := by
  have up : ∀ b o, H1 b = some o → upd H1 f (FnO f c' L dV) b = some o := fun b o e => (upd_ne (ne_of_none e nf)).trans e
  obtain ⟨ps, hP⟩ := hP
  refine q f c' dV _ hn (fun b o n e => up _ _ (k b o n e)) (T.ext up) ?_ upd_same (up _ _ hc) (hd.imp id fun ⟨n, t, e1, e2⟩ => ⟨n, t, e1, up _ _ e2⟩)
  cases e : H f with
  | none => rfl
  | some o =>
    by_cases n : f = P
    · subst n
      obtain ⟨ps1, e1, _⟩ := T
      rw [nf] at e1
      cases e1
    · rw [k f o n e] at nf
      cases nf
theorem pe_lamV0 {c P : Addr} {params : Arguments} {body : Expr} {scope : Scope} {bs : List Str} {pos : Pos} {sc : Scope} {N : List Str} (TB : LamX.TabB X.base X.mg c P) (hcode : X.env.code = .ref c) (hsc : X.env.scope = sc) (hNN : X.N = N) (hpb : lamPB sc N scope bs = true) (hdef : defaultsOf params X.env = ([], [])) : PE X (.Lambda params body scope pos) (tLamV P (lamOf X params body scope []) sc N bs) := by
  have hp0 : LamP sc N (lamOf X params body scope []) bs := lamP_by hpb
  have hp : LamP X.env.scope X.N (lamOf X params body scope []) bs := by rw [hsc, hNN]; exact hp0
  refine ⟨fun pins s σ H Q I h => ?_⟩
  obtain ⟨hT, q⟩ := h
  refine PySem.W.kla_eval hdef ?_
  rw [makeFunction_eq]
  simp only [List.zip_nil_right, List.filterMap_nil, List.isEmpty_nil, if_true, pure_bind]
  exact fun_made (L := lamOf X params body scope []) (dV := .none) I TB hcode hT rfl (hp.has I.ok) fun f c' H1 s1 I1 k T nf hc => ⟨.ref f, _, I1, rfl, made_out (fun _ z => nomatch z) (by obtain ⟨ps, e, _⟩ := hT; exact ⟨ps, e⟩) T k nf hc (.inl ⟨rfl, rfl⟩) fun f c' dV H1 => q f c' dV H1 hp0⟩
theorem pe_lamV1 {c P : Addr} {params : Arguments} {body e : Expr} {scope : Scope} {bs : List Str} {pos : Pos} {d : Int} {sc : Scope} {N : List Str} (TB : LamX.TabB X.base X.mg c P) (hcode : X.env.code = .ref c) (hsc : X.env.scope = sc) (hNN : X.N = N) (hpb : lamPB sc N scope bs = true) (hdef : defaultsOf params X.env = ([eval e X.env], [])) (he : PE X e (tC (.int d))) :
    PE X (.Lambda params body scope pos) (tLamV P (lamOf X params body scope [d]) sc N bs) := by
  have hp0 : LamP sc N (lamOf X params body scope [d]) bs := lamP_by hpb
  have hp : LamP X.env.scope X.N (lamOf X params body scope [d]) bs := by rw [hsc, hNN]; exact hp0
  refine ⟨fun pins s σ H Q I h => ?_⟩
  obtain ⟨hT, q⟩ := h
  rw [arm_eval_Lambda, hdef]
  show wpAny _ _ (do let dv ← evalAll [eval e X.env]; let kdv ← holding dv (evalAllOpt []); makeFunction "<lambda>" (X.env.qual ++ "<lambda>") params (.expr body) scope X.env dv kdv [] pos pos.line) _ _ _
  refine wpAny_bind ?_
  show wpAny _ _ (do let v ← eval e X.env; return v :: (← holding [v] (evalAll []))) _ _ _
  refine wpAny_bind (thn (he.run pins s σ H (fun v H1 => v = .int d ∧ H1 = H) I ⟨rfl, rfl⟩) fun u s1 ⟨v, H1, I1, r1, q1⟩ => ?_)
  obtain ⟨rfl, rfl⟩ := q1
  refine wpAny_bind (wpAny_holding (wpAny_pure (wpAny_pure (wpAny_bind (wpAny_holding (wpAny_pure ?_))))))
  rw [makeFunction_eq]
  simp only [List.zip_nil_right, List.filterMap_nil, List.isEmpty_nil, List.isEmpty_cons, Bool.false_eq_true, if_true, if_false, pure_bind]
  refine wpAny_bind (wpAny_newTextTuple ?_)
  have np : H1 s1.heap.objs.size = none := I1.hok.fresh (Nat.le_refl _)
  have I2 : Inv X pins σ (upd H1 s1.heap.objs.size (.tup [.int d])) { s1 with heap := s1.heap.push { cls := .type "tuple", data := .seq [u].toArray }, toks := s1.toks } :=
    I1.laid (fun b u e => Heap.get?_push_of_some _ e) (Nat.le_refl _) ⟨by show 1 ≤ sizeLine; decide, [u], .cons r1 .nil, _, Heap.get?_push_size _ rfl, rfl, _, rfl⟩
  have up : ∀ b o, H1 b = some o → upd H1 s1.heap.objs.size (.tup [.int d]) b = some o := fun b o e => (upd_ne (ne_of_none e np)).trans e
  obtain ⟨ps, hP, _⟩ := id hT
  refine fun_made (L := lamOf X params body scope [d]) (dV := .ref s1.heap.objs.size) I2 TB hcode (hT.ext up) rfl (hp.has I.ok) fun f c' H2 s2 J k T nf hc => ⟨.ref f, _, J, rfl, ?_⟩
  have nP : s1.heap.objs.size ≠ P := fun z => by
    rw [z, hP] at np
    cases np
  refine made_out (H := H1) (fun t z => by cases z; exact np) ⟨ps, hP⟩ T (fun b o n e => k b o n (up b o e)) nf hc (.inr ⟨by simp, _, rfl, ?_⟩) fun f c' dV H1 => q f c' dV H1 hp0
  exact k _ _ nP upd_same
/-- a def called with a lambda and two values more -/
structure LamK (X : Cx) (k : Nat) (L : LamD) (bs : List Str) (t : XK → TE) : Prop where
  p : LamP X.env.scope X.N L bs
  q : L.q = X.env.qual ++ "<lambda>"
  clo : L.clo = cloFrom X.env.cells L.scope.names []
  b : LamB L bs
  body : ∀ (E : XK) (A : Around) (outer : List Env) (s : Shared) (H : Hp) (f c' : Addr), Room k (A.deeper (LamX.lamEnv X L.scope s.heap.objs.size f c')) → PE (lamCxN X A outer s H E L.scope f c') L.body (t E)
abbrev TT5 : Type := LamD → Addr → Addr → Value → (XK → Hp → VK → Prop) → V → V → Hp → VK → Prop
def Gives5 (X : Cx) (Ng : List Str) (x : Str) (sg : Scope) (bg : List Stmt) (a : Str) (k : Nat) (TT : TT5) : Prop :=
  ∀ (L : LamD) (g f c' : Addr) (dV cdg : Value) (s : Shared) (H : Hp) (Q : VK) (v2 v3 : V) (tl : XK → Hp → VK → Prop), Room (k + 1) (X.A.deeper (envOfC x sg s.heap.objs.size g cdg)) →
    (∀ (W : WX) (pn : List (Addr × Obj)) (xe : Value → Shared → Prop) (p1 p2 : Pos), L2N.Takes ((cxOf CX0 X.prog X.w X.K X.mg X.base Ng x sg g cdg X.A X.stack s H E0).tr pn xe) W →
      PE ((cxOf CX0 X.prog X.w X.K X.mg X.base Ng x sg g cdg X.A X.stack s H E0).tr pn xe) (.Call (.Name a p1) [] [] p2) (fun σZ HZ Q => σZ[0]? = some (some (.ref f)) ∧ HZ f = some (FnO f c' L dV) ∧ HZ c' = some (LamX.CodeO c' L.q) ∧ DflAt L dV HZ ∧ tl (L2.WE W σZ) HZ Q)) →
    TT L f c' dV tl v2 v3 H Q → ∃ t, PSs (cxOf CX0 X.prog X.w X.K X.mg X.base Ng x sg g cdg X.A X.stack s H E0) bg t ∧ t { nx := fun _ H' => Q .non H', rt := Q } (L2.start Ng [.ref f, v2, v3]) H
def tRef5 (X : Cx) (k : Nat) (TT : TT5) (ta : TA) : TE := fun σ H Q => ta σ H fun vs H2 => ∃ (f c' : Addr) (dV : Value) (L : LamD) (bs : List Str) (t : XK → TE) (v2 v3 : V), vs = [.ref f, v2, v3] ∧ LamK X k L bs t ∧ H2 f = some (FnO f c' L dV) ∧ TT L f c' dV (fun E H' Q' => t E σ H' Q') v2 v3 H2 Q
theorem pe_ref5 {x a : Str} {k : Nat} {st : Stmt} {ps Ng : List Str} {e1 e2 e3 : Expr} {ta : TA} {p pos : Pos} {TT : TT5} (D : Df X.K X.mg x st ps) (Sg : FnScope Ng ps (defScope st)) (hlen : ps.length = 3) (hNg : Ng[0]? = some a) (hva : Vis (defScope st) a) (hg : Gl X x)
    (hG : Gives5 X Ng x (defScope st) (defBody st) a k TT) (hr : Room (k + 2) X.A) (ha : PA X [e1, e2, e3] ta)
    (he : starEach [e1, e2, e3] X.env = (false, eval e1 X.env) :: starEach [e2, e3] X.env := by rfl) (hpl : (backTo pos (starEach [e2, e3] X.env)).any (·.1) = false := by rfl)
    (hdb : (x == ("__debug__" : Str)) = false := by decide) (hd : (a == ("__debug__" : Str)) = false := by decide) (hcd : (a == ("__classdict__" : Str)) = false := by decide) :
    PE X (.Call (.Name x p) [e1, e2, e3] [] pos) (tRef5 X k TT ta) := by
  obtain ⟨g, fd, F, hm, hb⟩ := D.ex
  have hk := F.kp
  obtain ⟨oc, od, kV, doc, pm, an, cdv, ct, osl, rfl, lk, hcg⟩ := F.ex
  refine ⟨fun pins s σ H Q I h => ?_⟩
  refine wpAny_Call_Name_kw (ld_glob I hg hm ?_ hdb)
  refine PySem.W.callWith_K (h₀ := X.base) I.ok.mod.kin hk (thn (ha.run pos pins s σ H _ I h) fun us s2 hh => ?_) he hpl
  obtain ⟨vs, H2, I2, rv, f, c', dV, L, bs, t, v2, v3, rfl, lamk, hf, htt⟩ := hh
  refine ⟨I2.kIn, ?_⟩
  have hus : us.length = ps.length := by rw [← rv.length, hlen] <;> rfl
  have rc : codeAny (model X.prog X.w) X.A (.call (.ref g) ⟨us, []⟩) (CR CX0 X.stack X.prog X.w H2 s2 Q E0) s2 := by
    refine LamX.run_ofS (N := Ng) (ps := ps) (us := us) (vs := [.ref f, v2, v3]) lk hcg Sg hr I2.env0 (by have b := hb s2 us I2.kIn (by rw [List.append_nil]; exact hus); rw [List.append_nil] at b; exact b) rv (by rw [hlen]; rfl) fun hr' => ?_
    exact hG L g f c' dV cdv s2 H2 Q v2 v3 _ hr' (fun W pn xe p1 p2 tk => act5 (i := 0) I2 lamk.p lamk.q lamk.clo lamk.b tk hr' (fun E A outer s H hr2 => lamk.body E A outer s H f c' hr2) hNg hva hd hcd) htt
  refine wpAny_call (codeAny_mono rc fun r s3 hq => ?_)
  cases r with
  | error e => exact (show False from hq).elim
  | ok fl =>
    cases fl with
    | ret u => exact I2.after hq
    | next => exact False.elim hq
    | brk => exact False.elim hq
    | cont => exact False.elim hq
end
end Ub

namespace Ub
open PySem PySem.Spec PyProof.Rows L2
/-! ### a def told of a lambda that must refuse, in the data layer -/
section
variable {K : PySem.W.Frag} {T : Tb} {A B : Hp} {dc : Option Addr} {C H : Hp} {σ : L2.St} {ρ : List Sl} {α : Nat → Addr} {P : Ag → Prop}
theorem Rep.less {B' : Hp} (R : Rep K T A B' dc C H σ ρ α) (e : Ex B B') : Rep K T A B dc C H σ ρ α := by
  have no : ∀ {a}, B' a = none → B a = none := fun h => Evl.fresh_back e h
  refine ⟨R.okB.back e, R.okC, R.eA, fun a ha => (R.new a ha).imp id (Or.imp no id), R.len, fun i s hs => ?_, R.inj, fun d hd => ?_⟩
  · have z := R.sl i s hs
    cases s with
    | own l =>
      obtain ⟨z1, z2, z3⟩ := z
      exact ⟨z1, no z2, z3⟩
    | un => exact z
    | dat d => exact z
    | dice => exact z
  · obtain ⟨z1, z2, z3⟩ := R.dice d hd
    exact ⟨no z1, z2, z3⟩
theorem ex_put {p : Addr} {o : HO} (k : Ok T B H) (h : H p = some o) : Ex B (upd B p o) := fun a u e => by
  by_cases z : a = p
  · subst z
    rw [upd_same, ← h, k.ex _ _ e]
  · exact (upd_ne z).trans e
/-- a thing that stands is kept from now on -/
theorem Rep.keep1 (R : Rep K T A B dc C H σ ρ α) {p : Addr} {o : HO} (hp : H p = some o) (n : notTab o) (hl : ∀ xs, o ≠ .lst xs) : ∃ B', Rep K T A B' dc C H σ ρ α ∧ Ex B B' ∧ (B' p = some o ∨ C p = some o) := by
  cases q : C p with
  | some u =>
    have := R.okC.ex _ _ q
    rw [hp] at this
    cases this
    exact ⟨B, R, Evl.Ex.refl _, .inr rfl⟩
  | none =>
    refine ⟨upd B p o, R.tmp hp n q (fun z => ?_) fun j m hj z => ?_, ex_put R.okB hp, .inl upd_same⟩
    · obtain ⟨_, _, D, hD, _⟩ := R.dice p z
      rw [hp] at hD
      exact hl _ (Option.some.inj hD)
    · obtain ⟨_, _, _, _, vs, h, _⟩ := R.ow hj
      rw [z, hp] at h
      exact hl _ (Option.some.inj h)
theorem rep_frame2 (R : Rep K T A B dc C H σ ρ α) : ∃ F : Hp, Ok T F H ∧ Ex B F ∧ Ex C F ∧ ∀ H', Ok T F H' → Rep K T A B dc C H' σ ρ α := by
  obtain ⟨c1, c2, c3, c4⟩ := call_core R (A' := C) (dc' := none) (.inl rfl) (fun a o e => ex_self a o e R.okC) (Evl.Ex.refl _)
  have nil : ∀ {H'}, Ok T (frm (Fram B C dc none ρ α) H) H' → Rep K T C (frm (Fram B C dc none ρ α) H) none C H' [] [] (fun _ => 0) := fun o =>
    ⟨o, o.back c2, Evl.Ex.refl _, fun _ h => .inl h, rfl, fun _ _ h => by simp at h, fun _ _ _ _ h => by simp at h, fun _ h => nomatch h⟩
  exact ⟨_, c1, fun a o e => (frm_in (.inl (by rw [e]; exact fun z => nomatch z))).trans (R.okB.ex _ _ e), c2, fun H' o => (c4 (nil o)).1 rfl⟩
theorem Rep.lam {P : Addr} {q : Str} {H1 : Hp} (R : Rep K T A B dc C H σ ρ α) (hP : (P, q) ∈ T.l) (hu : ∀ r ∈ T.l, r.1 = P → r.2 = q) (k : ∀ b o, b ≠ P → H b = some o → H1 b = some o) (t : LamX.TabS H1 P q) : Rep K T A B dc C H1 σ ρ α := by
  obtain ⟨ps, h0, _⟩ := R.okB.tl _ hP
  refine R.to (R.okB.lam hP hu k t) (R.okC.lam hP hu k t) (Evl.Ex.refl _) (fun a h => .inl h) (fun i l hi => ?_) fun d hd => ?_
  · obtain ⟨_, _, g3, _, vs, g4, _⟩ := R.ow hi
    refine ⟨g3, (k _ _ (fun z => ?_) g4).trans g4.symm⟩
    rw [z, h0] at g4
    cases g4
  · obtain ⟨g1, g2, D, g3, g4⟩ := R.dice d hd
    refine ⟨g2, D, k _ _ (fun z => ?_) g3, g4⟩
    rw [z, h0] at g3
    cases g3
theorem callX_E {S : SpX} {tas : TA} {Q : VK} {E : XK} {Pr : Res → Prop} {Px : Xd → Prop} (R : Rep K T A B dc C H σ ρ α) (h : Ub.WA K T tas ρ fun gs => gs.all Ag.isD = true ∧ S (gs.map Ag.d) Pr Px)
    (q : ∀ r v C' H', Pr r → Rep K T A B dc C' H' σ ρ α → Ex C C' → ResAt K B dc C' H' r v → Q v H') (qx : ∀ x cls d C' H', Px x → Rep K T A B dc C' H' σ ρ α → Ex C C' → XdAt B dc C' H' x cls d → E cls d H') : tCall (spX K T S) [] E tas σ H Q :=
  h R _ fun gs vs C1 H1 ⟨h1, h2⟩ R1 e1 a1 => by
    rw [List.append_nil]
    obtain ⟨c1, c2, c3, c4⟩ := call_core R1 (A' := C1) (dc' := none) (.inl rfl) (fun a o e => ex_self a o e R1.okC) (Evl.Ex.refl _)
    refine ⟨_, C1, _, _, _, c1, c2, ags_d a1 h1, h2, fun r v C' H' σ' ρ' α' hp R' hr => ?_, fun x cls d C' H' σ' ρ' α' hp R' z => qx _ _ _ _ _ hp ((c4 R').1 rfl) (e1.trans R'.eA) (xd_up R1 z)⟩
    cases r with
    | dat d => exact q _ _ _ _ hp ((c4 R').1 rfl) (e1.trans R'.eA) hr
    | fr l =>
      obtain ⟨p', ws, rfl, g1, g2, g3, g4, g5⟩ := hr
      have F := (c4 R').2.2 p' g1 g3 (by rw [g4]; exact fun z => nomatch z) g2
      exact q _ _ _ _ hp ((c4 R').1 rfl) (e1.trans R'.eA) ⟨p', ws, rfl, F.nb, F.nc, F.nd, g4, g5⟩
/-- the error's fields as they stand -/
def XdS (fs : List (Str × V)) (d : Option Addr) (H : Hp) : Prop := (fs = [] ∧ d = none) ∨ (fs ≠ [] ∧ ∃ a, d = some a ∧ H a = some (.xd fs))
/-- what such a def promises: word and value fit the error; St: what must stand -/
def TTr (T : Tb) (S : Str → V → Xd → Prop) : TT5 := fun L f c' dV tl v2 v3 H Q => ∃ (wd : Str) (x : Xd) (St : Hp → Prop), v2 = .str wd ∧ S wd v3 x ∧ St H ∧
  (∀ H1, St H1 → H1 f = some (FnO f c' L dV) ∧ H1 c' = some (LamX.CodeO c' L.q) ∧ DflAt L dV H1 ∧ ∃ B, Ok T B H1 ∧ ∀ H', Ok T B H' → St H') ∧
  (∀ (E : XK) (Q' : VK), (∀ d H1, St H1 → XdS (x.fs.map fun p => (p.1, p.2.v)) d H1 → E (.ref x.cls) d H1) → tl E H Q') ∧ ∀ H', St H' → Q (.bl true) H'
/-- an expression that changes nothing -/
def Still (te : TE) (ρ : List Sl) (v : V) : Prop := ∀ {K T A B dc C H σ α}, Rep K T A B dc C H σ ρ α → ∀ Q : VK, Q v H → te σ H Q
theorem still_c {v : V} : Still (tC v) ρ v := fun _ _ q => q
theorem still_v {i : Nat} {d : Dt} (h : ρ[i]? = some (Sl.dat d)) (f : d.flat = true) : Still (tVar i) ρ d.v := fun R Q q => by
  obtain ⟨v, hv, z⟩ := R.dat h
  rw [flat_v z f] at hv
  exact ⟨_, hv, q⟩
theorem we_ref5 {X : Cx} {k : Nat} {S : Str → V → Xd → Prop} {SX : SpX} {tas : TA} {te3 : TE} {Pt : Addr} {L : LamD} {bs N : List Str} {sc : Scope} {wd : Str} {v3 : V} {x : Xd} (hP : (Pt, L.q) ∈ T.l) (hu : ∀ r ∈ T.l, r.1 = Pt → r.2 = L.q) (hsc : X.env.scope = sc) (hNN : X.N = N) (lq : L.q = X.env.qual ++ "<lambda>") (lc : L.clo = cloFrom X.env.cells L.scope.names []) (lb : LamB L bs)
    (lbody : ∀ (E : XK) (A : Around) (outer : List Env) (s : Shared) (H : Hp) (f c' : Addr), Room k (A.deeper (LamX.lamEnv X L.scope s.heap.objs.size f c')) → PE (lamCxN X A outer s H E L.scope f c') L.body (tCall (spX K T SX) [] E tas))
    (h3 : Still te3 ρ v3) (hS : S wd v3 x) (h : Ub.WA K T tas ρ fun gs => gs.all Ag.isD = true ∧ SX (gs.map Ag.d) (fun _ => False) fun y => y = x) (p : P (.dat (.bl true))) : Ub.WE K T (tRef5 X k (TTr T S) (tCons (tLamV Pt L sc N bs) (tCons (tC (.str wd)) (tCons te3 tNil)))) ρ P := fun ⦃A B dc C H σ α⦄ R Q q => by
  refine ⟨R.okB.tl _ hP, fun f c' dV H1 lp fr k1 t1 nf hf hc hd => ?_⟩
  have lk : LamK X k L bs fun E => tCall (spX K T SX) [] E tas := ⟨by rw [hsc, hNN]; exact lp, lq, lc, lb, lbody⟩
  have R1 := R.lam hP hu k1 t1
  refine h3 R1 _ ⟨f, c', dV, L, bs, _, .str wd, v3, rfl, lk, hf, ?_⟩
  obtain ⟨B1, R2, e1, m1⟩ := R1.keep1 hf (fun ps z => nomatch z) (fun xs z => nomatch z)
  obtain ⟨B2, R3, e2, m2⟩ := R2.keep1 hc (fun ps z => LamX.codeO_ne ps z) (fun xs z => by unfold LamX.CodeO at z; cases z)
  obtain ⟨B3, R4, e3, m3⟩ : ∃ B3, Rep K T A B3 dc C H1 σ ρ α ∧ Ex B2 B3 ∧ ((L.dfl = [] ∧ dV = .none) ∨ (L.dfl ≠ [] ∧ ∃ t, dV = .ref t ∧ (B3 t = some (.tup (L.dfl.map V.int)) ∨ C t = some (.tup (L.dfl.map V.int))))) := by
    rcases hd with z | ⟨n, t, e, ht⟩
    · exact ⟨B2, R3, Evl.Ex.refl _, .inl z⟩
    · obtain ⟨B3, R4, e3, m3⟩ := R3.keep1 ht nt_tup (fun xs z => nomatch z)
      exact ⟨B3, R4, e3, .inr ⟨n, t, e, m3⟩⟩
  have stands : ∀ {C' H' : Hp} {a : Addr} {o : HO}, Rep K T A B3 dc C' H' σ ρ α → Ex C C' → (B3 a = some o ∨ C a = some o) → H' a = some o := fun R' e z => z.elim (fun z => R'.okB.ex _ _ z) fun z => R'.okC.ex _ _ (e _ _ z)
  have m1' : B3 f = some (FnO f c' L dV) ∨ C f = some (FnO f c' L dV) := m1.imp (fun z => e3 _ _ (e2 _ _ z)) id
  have m2' : B3 c' = some (LamX.CodeO c' L.q) ∨ C c' = some (LamX.CodeO c' L.q) := m2.imp (fun z => e3 _ _ z) id
  refine ⟨wd, x, fun H' => ∃ C', Rep K T A B3 dc C' H' σ ρ α ∧ Ex C C', rfl, hS, ⟨C, R4, Evl.Ex.refl _⟩, fun H2 ⟨C2, R', e⟩ => ⟨stands R' e m1', stands R' e m2', m3.imp id fun ⟨n, t, z1, z2⟩ => ⟨n, t, z1, stands R' e z2⟩, ?_⟩, fun E Q' hE => ?_, fun H' ⟨C', R', e⟩ => ?_⟩
  · obtain ⟨F, o, _, _, back⟩ := rep_frame2 R'
    exact ⟨F, o, fun H' o' => ⟨C2, back H' o', e⟩⟩
  · refine callX_E R4 h (fun r v C' H' z => z.elim) fun y cls d C' H' ey R' e z => ?_
    subst ey
    obtain ⟨z1, z2⟩ := z
    subst z1
    refine hE d H' ⟨C', R', e⟩ (z2.imp (fun ⟨n1, n2⟩ => ⟨by rw [n1] <;> rfl, n2⟩) fun ⟨n1, a, n2, _, _, _, n3⟩ => ⟨fun w => n1 (List.map_eq_nil_iff.mp w), a, n2, n3⟩)
  · exact q _ _ C' H' p (R'.less ((e1.trans e2).trans e3)) e (.bl true)
/-! ### lambdas as data -/
theorem Rep.frz1 (R : Rep K T A B dc C H σ ρ α) {p : Addr} {o : HO} (hp : H p = some o) (n : notTab o) (hl : ∀ xs, o ≠ .lst xs) (hB : B p = none ∨ ∃ φ, o = .ext φ) : ∃ C', Rep K T A B dc C' H σ ρ α ∧ Ex C C' ∧ C' p = some o := by
  cases q : C p with
  | some u =>
    have z := R.okC.ex _ _ q
    rw [hp] at z
    cases z
    exact ⟨C, R, Evl.Ex.refl _, q⟩
  | none =>
    refine ⟨upd C p o, R.toX R.okB (R.okC.add hp n) (upd_up q) (fun a ha => ?_) (fun i l hi => ?_) fun d hd => ?_, upd_up q, upd_same⟩
    · by_cases z : a = p
      · subst z
        exact .inr (hB.imp id fun ⟨φ, e⟩ => ⟨φ, by rw [upd_same, e]⟩)
      · rw [upd_ne z] at ha
        exact .inl ha
    · obtain ⟨_, _, g3, _, vs, g4, _⟩ := R.ow hi
      refine ⟨(upd_ne fun z => ?_).trans g3, rfl⟩
      rw [z, hp] at g4
      exact hl _ (Option.some.inj g4)
    · obtain ⟨_, g2, D, g3, g4⟩ := R.dice d hd
      refine ⟨(upd_ne fun z => ?_).trans g2, D, g3, g4⟩
      rw [z, hp] at g3
      exact hl _ (Option.some.inj g3)
theorem we_lam {Pt : Addr} {L : LamD} {sc : Scope} {N bs : List Str} (hP : (Pt, L.q) ∈ T.l) (hu : ∀ r ∈ T.l, r.1 = Pt → r.2 = L.q) (p : LamP sc N L bs → P (.dat (.lam L))) : Ub.WE K T (tLamV Pt L sc N bs) ρ P := fun ⦃A B dc C H σ α⦄ R Q q => by
  refine ⟨R.okB.tl _ hP, fun f c' dV H1 lp fr k1 t1 nf hf hc hd => ?_⟩
  have R1 := R.lam hP hu k1 t1
  obtain ⟨C1, R2, e1, m1⟩ := R1.frz1 hf (fun ps z => nomatch z) (fun xs z => nomatch z) (.inr ⟨_, rfl⟩)
  obtain ⟨C2, R3, e2, m2⟩ := R2.frz1 hc (fun ps z => LamX.codeO_ne ps z) (fun xs z => by unfold LamX.CodeO at z; cases z) (.inr ⟨_, rfl⟩)
  rcases hd with ⟨z1, z2⟩ | ⟨n, t, e, ht⟩
  · exact q _ _ C2 H1 (p lp) R3 (e1.trans e2) (.lam (e2 _ _ m1) m2 (.inl ⟨z1, z2⟩))
  · obtain ⟨C3, R4, e3, m3⟩ := R3.frz1 ht nt_tup (fun xs z => nomatch z) (.inl (R.okB.fresh (fr t e)))
    exact q _ _ C3 H1 (p lp) R4 ((e1.trans e2).trans e3) (.lam (e3 _ _ (e2 _ _ m1)) (e3 _ _ m2) (.inr ⟨n, t, e, m3⟩))
/-- the def told of a lambda that is data -/
theorem we_ref5v {X : Cx} {k j : Nat} {S : Str → V → Xd → Prop} {SX : SpX} {tas : TA} {te3 : TE} {L : LamD} {bs N : List Str} {sc : Scope} {wd : Str} {v3 : V} {x : Xd} (hj : ρ[j]? = some (Sl.dat (.lam L))) (lp : LamP sc N L bs) (hsc : X.env.scope = sc) (hNN : X.N = N) (lq : L.q = X.env.qual ++ "<lambda>") (lc : L.clo = cloFrom X.env.cells L.scope.names []) (lb : LamB L bs)
    (lbody : ∀ (E : XK) (A : Around) (outer : List Env) (s : Shared) (H : Hp) (f c' : Addr), Room k (A.deeper (LamX.lamEnv X L.scope s.heap.objs.size f c')) → PE (lamCxN X A outer s H E L.scope f c') L.body (tCall (spX K T SX) [] E tas))
    (h3 : Still te3 ρ v3) (hS : S wd v3 x) (h : Ub.WA K T tas ρ fun gs => gs.all Ag.isD = true ∧ SX (gs.map Ag.d) (fun _ => False) fun y => y = x) (p : P (.dat (.bl true))) : Ub.WE K T (tRef5 X k (TTr T S) (tCons (tVar j) (tCons (tC (.str wd)) (tCons te3 tNil)))) ρ P := fun ⦃A B dc C H σ α⦄ R Q q => by
  obtain ⟨v, hv, z⟩ := R.dat hj
  cases z with
  | @lam f c' _ dV hf hc hd =>
    have lk : LamK X k L bs fun E => tCall (spX K T SX) [] E tas := ⟨by rw [hsc, hNN]; exact lp, lq, lc, lb, lbody⟩
    refine ⟨_, hv, h3 R _ ⟨f, c', dV, L, bs, _, .str wd, v3, rfl, lk, R.okC.ex _ _ hf, ?_⟩⟩
    refine ⟨wd, x, fun H' => ∃ C', Rep K T A B dc C' H' σ ρ α ∧ Ex C C', rfl, hS, ⟨C, R, Evl.Ex.refl _⟩, fun H2 ⟨C2, R', e⟩ => ⟨R'.okC.ex _ _ (e _ _ hf), R'.okC.ex _ _ (e _ _ hc), hd.imp id fun ⟨n, t, z1, z2⟩ => ⟨n, t, z1, R'.okC.ex _ _ (e _ _ z2)⟩, ?_⟩, fun E Q' hE => ?_, fun H' ⟨C', R', e⟩ => q _ _ C' H' p R' e (.bl true)⟩
    · obtain ⟨F, o, _, _, back⟩ := rep_frame2 R'
      exact ⟨F, o, fun H' o' => ⟨C2, back H' o', e⟩⟩
    · refine callX_E R h (fun r v C' H' z => z.elim) fun y cls d C' H' ey R' e z => ?_
      subst ey
      obtain ⟨z1, z2⟩ := z
      subst z1
      exact hE d H' ⟨C', R', e⟩ (z2.imp (fun ⟨n1, n2⟩ => ⟨by rw [n1] <;> rfl, n2⟩) fun ⟨n1, a, n2, _, _, _, n3⟩ => ⟨fun w => n1 (List.map_eq_nil_iff.mp w), a, n2, n3⟩)
end
end Ub

namespace Rw
open PySem PySem.Spec PyProof.Rows L2 Ub L2H
section
variable {P : Program} {w : World} {K : PySem.W.Frag} {mg : Str → Option Value} {base : Heap} {T : Tb}
/-! ### alike, asked where a refusal is handled: of two ints, of two texts -/
def spAlF (T : Tb) (p : Addr × Obj) : Sp := fun vs H Q _ => ∃ (v : V) (B : Hp), ((∃ n, v = .int n) ∨ ∃ s, v = .str s) ∧ vs = [v, v] ∧ Ok T B H ∧ ∀ H', Ok T B H' → Q (.bl true) H'
theorem k_alikeF_ (D : Df K mg "_law_alike" s_alike P_alike) (bl : Bl mg) : KpX P w K mg base 1 "_law_alike" P_alike (spAlF T) := by
  refine D.okX sc_alike (fun p vs H Q E h => ?_) (fun f cdv A outer s H vs Q E p hot hr h => ?_)
  · obtain ⟨_, _, _, rfl, _⟩ := h
    rfl
  · obtain ⟨v, B, hv, rfl, o0, q⟩ := h
    refine ⟨_, pss_cons (ps_if (pt_cmpR (r := rIsN) or_isN (pv 1) pe_non (nomark _)) pss_never pss_nil)
      (pss_cons (ps_if (pt_val (pe_callB (r := rIsi K) call_isi (by rfl) bl.isinst (by decide +kernel) (pa_cons (pv 1) (pa_cons (pe_bltn (v := .ty "bool") (by rfl) bl.bool (by decide +kernel) rfl) pa_nil)))) pss_never pss_nil)
      (pss_cons (ps_if (pt_val (pe_callB (r := rIsi K) call_isi (by rfl) bl.isinst (by decide +kernel) (pa_cons (pv 1) (pa_cons (pe_bltn (v := .ty "int") (by rfl) bl.int (by decide +kernel) rfl) pa_nil))))
        (pss_one (ps_ret (pe_and (pe_callB (r := rIsi K) call_isi (by rfl) bl.isinst (by decide +kernel) (pa_cons (pv 0) (pa_cons (pe_bltn (v := .ty "int") (by rfl) bl.int (by decide +kernel) rfl) pa_nil))) (pe_and (pe_not (pe_callB (r := rIsi K) call_isi (by rfl) bl.isinst (by decide +kernel) (pa_cons (pv 0) (pa_cons (pe_bltn (v := .ty "bool") (by rfl) bl.bool (by decide +kernel) rfl) pa_nil)))) (pe_one (pe_cmpR op_eq (pv 0) (pv 1) (nomark _)))))))
        pss_nil)
      (pss_cons (ps_if (pt_val (pe_callB (r := rIsi K) call_isi (by rfl) bl.isinst (by decide +kernel) (pa_cons (pv 1) (pa_cons (pe_bltn (v := .ty "str") (by rfl) bl.str (by decide +kernel) rfl) pa_nil))))
        (pss_one (ps_ret (pe_and (pe_callB (r := rIsi K) call_isi (by rfl) bl.isinst (by decide +kernel) (pa_cons (pv 0) (pa_cons (pe_bltn (v := .ty "str") (by rfl) bl.str (by decide +kernel) rfl) pa_nil))) (pe_one (pe_cmpR op_eq (pv 0) (pv 1) (nomark _))))))
        pss_nil)
      pss_never))), ?_⟩
    rcases hv with ⟨i, rfl⟩ | ⟨z, rfl⟩
    · refine ⟨_, rfl, rfl, _, rfl, isi (b := false) rfl (.base (.int i)) (by decide +kernel) ⟨_, rfl, isi (b := true) rfl (.base (.int i)) (by decide +kernel) ⟨_, rfl, isi (b := true) rfl (.base (.int i)) (by decide +kernel) ⟨_, rfl, isi (b := false) rfl (.base (.int i)) (by decide +kernel) ⟨_, rfl, _, rfl, _, rfl, _, rfl, rfl, ?_⟩⟩⟩⟩⟩
      rw [decide_eq_true rfl]
      exact q H o0
    · refine ⟨_, rfl, rfl, _, rfl, isi (b := false) rfl (.base (.str z)) (by decide +kernel) ⟨_, rfl, isi (b := false) rfl (.base (.str z)) (by decide +kernel) ⟨_, rfl, isi (b := true) rfl (.base (.str z)) (by decide +kernel) ⟨_, rfl, isi (b := true) rfl (.base (.str z)) (by decide +kernel) ⟨_, rfl, _, rfl, _, rfl, rfl, ?_⟩⟩⟩⟩⟩
      rw [decide_eq_true rfl]
      exact q H o0
end
/-! ### _law_refused, of fields that cannot be -/
structure Ex6 (K : PySem.W.Frag) (C : Addr) (f : Str) : Prop where
  xf : XfC K C
  no : PySem.W.findIn K (.ref C) f = some none
def SpecF (ec : Nat → Addr) (wd : Str) (v : V) (x : Xd) : Prop := wd = "fields" ∧ ∃ n : Int, v = .int n ∧ x = ⟨ec 0, [("number", .int n)]⟩
theorem k_refusedF_ {X : Cx} {T : Tb} {ec : Nat → Addr} {k : Nat} (ek : Ek X.mg ec) (ei : Ei X.K ec 0) (x0 : Ex6 X.K (ec 0) "number") (kis : KpX X.prog X.w X.K X.mg X.base 1 "_law_is" P_is (spIsD T X.K ec)) (kal : KpX X.prog X.w X.K X.mg X.base 1 "_law_alike" P_alike (spAlF T)) :
    Gives5 X N_refused "_law_refused" (defScope s_refused) (defBody s_refused) "_law_work" k (TTr T (SpecF ec)) := by
  intro L g f c' dV cdg s H Q v2 v3 tl hr act h
  obtain ⟨wd, x, St, rfl, ⟨rfl, n, rfl, rfl⟩, h0, stand, hx, q⟩ := h
  have hr0 : Room 1 (X.A.deeper (envOfC "_law_refused" (defScope s_refused) s.heap.objs.size g cdg)) := hr.mono (by omega)
  let ts : Addr → Value → Option Addr → TS := fun a cls d D σ H => ∃ dd, cls = .ref (ec 0) ∧ d = some dd ∧ σ[3]? = some (some (.ref a)) ∧ σ[1]? = some (some (.str "fields")) ∧ σ[2]? = some (some (.int n)) ∧ St H ∧ H dd = some (.xd [("number", .int n)]) ∧ ∀ H', St H' → D.rt (.bl true) H'
  refine ⟨_, pss_cons (L2N.ps_try_as (i := 3) (c := .ref (ec 7)) (ts := ts) rfl rfl sc_refused.nd rfl rfl ⟨rfl, by decide, .inl ek.g7⟩ takes_no (fun W pn xe tk _ => pss_one (ps_expr (act W pn xe _ _ tk))) (fun a oe cls d pn hz hf => ?suite)) (pss_one (ps_ret (pe_bl (b := false)))), ?read⟩
  case suite =>
    refine ⟨fun pins s1 σ1 H1 D I1 h1 => ?_⟩
    obtain ⟨dd, rfl, rfl, h3, h4, h5, o1, hxd, q1⟩ := h1
    have hot : Hot1 ((X.A.deeper (envOfC "_law_refused" (defScope s_refused) s.heap.objs.size g cdg)).mark (some (.ref a))) (a, oe) := by
      obtain ⟨vs, hvs⟩ := hf
      exact ⟨rfl, vs, hvs, hz.2.2 vs hvs⟩
    have hrS : RoomH 1 ((X.A.deeper (envOfC "_law_refused" (defScope s_refused) s.heap.objs.size g cdg)).mark (some (.ref a))) := ⟨hr0.dp, hr0.un⟩
    refine PSs.run (pss_cons (ps_if (pt_not (pt_val (pe_callX (X := (cxOf CX0 X.prog X.w X.K X.mg X.base N_refused "_law_refused" (defScope s_refused) g cdg X.A X.stack s H E0).suite a ((a, oe) :: pn)) (p := (a, oe)) kis hrS hot List.mem_cons_self (pa_cons (pv 3) (pa_cons (pv 1) pa_nil))))) (pss_one (ps_ret pe_bl)) pss_nil)
      (pss_cons (ps_if (pt_cmpR op_eq (pv 1) pe_str (nomark _)) (pss_one (ps_ret (pe_callX (X := (cxOf CX0 X.prog X.w X.K X.mg X.base N_refused "_law_refused" (defScope s_refused) g cdg X.A X.stack s H E0).suite a ((a, oe) :: pn)) (p := (a, oe)) kal hrS hot List.mem_cons_self (pa_cons (pe_xf (C := ec 0) x0.xf x0.no hz.zc hf (pv 3)) (pa_cons (pv 2) pa_nil))))) pss_nil) pss_never)) pins s1 σ1 H1 D I1 ?_
    obtain ⟨_, _, _, B, oB, back⟩ := stand H1 o1
    refine ⟨_, h3, _, h4, 0, "fields", upd B dd (.xd [("number", .int n)]), some dd, by decide, ei, rfl, oB.add hxd (fun _ z => nomatch z), hz.zc, hf, fun d e => ⟨_, by cases e; exact upd_same⟩, fun H2 o2 => ⟨_, rfl, iteF ?_⟩⟩
    have hx2 := o2.ex _ _ upd_same
    have o3 := back H2 (o2.back (ex_put oB hxd))
    obtain ⟨_, _, _, B2, oB2, back2⟩ := stand H2 o3
    refine ⟨_, h4, rfl, true, by rw [decide_eq_true rfl], iteT ?_⟩
    refine ⟨_, h3, rfl, rfl, dd, _, .int n, rfl, hx2, rfl, _, h5, .int n, B2, .inl ⟨n, rfl⟩, rfl, oB2, fun H3 o4 => q1 H3 (back2 H3 o4)⟩
  case read =>
    obtain ⟨z1, z2, z3, _⟩ := stand H h0
    refine ⟨rfl, z1, z2, z3, hx _ _ fun d H1 s1 xs => ⟨true, ei.exm, fun _ a na => ?_, fun z => nomatch z⟩⟩
    rcases xs with ⟨z, _⟩ | ⟨_, dd, rfl, hd⟩
    · cases z
    · exact ⟨dd, rfl, rfl, rfl, rfl, rfl, s1, hd, q⟩
end Rw

-- RAISES
namespace Rw
open PySem PySem.Spec PyProof.Rows L2 Ub
section
variable {P : Program} {w : World} {K : PySem.W.Frag} {mg : Str → Option Value} {base : Heap} {T : Tb}
/-! ### the module's constants -/
structure Cn (K : PySem.W.Frag) (mg : Str → Option Value) : Prop where
  LETTERS : ∃ t, mg "LETTERS" = some (.str abc t)
  LONGEST_NAME : ∃ t, mg "LONGEST_NAME" = some (.int 6 t)
  MOST_FIELDS : ∃ t, mg "MOST_FIELDS" = some (.int 6 t)
  SIZES : ∃ a, mg "SIZES" = some (.ref a) ∧ ∀ H, SqT K H a [.int 1, .int 2, .int 4]
structure CnH (K : PySem.W.Frag) (mg : Str → Option Value) : Prop where
  ORDERS : ∃ a, mg "ORDERS" = some (.ref a) ∧ ∀ H, SqT K H a [.str "great", .str "small"]
  WAYS : ∃ a, mg "WAYS" = some (.ref a) ∧ ∀ H, SqT K H a [.str "up", .str "down"]
structure CnG (mg : Str → Option Value) : Prop where
  MOST_GAP : ∃ t, mg "MOST_GAP" = some (.int 9 t)
def spWhole : Sp := fun vs H Q _ => ∃ i : Int, vs = [.int i] ∧ Q (.bl true) H
theorem k_is_whole_ (D : Df K mg "is_whole" s_is_whole P_is_whole) (bl : Bl mg) : Kp P w K mg base CX0 1 "is_whole" P_is_whole spWhole := by
  refine D.ok sc_is_whole (fun vs H Q E h => ?_) (fun f cdv A outer s H vs Q E hr h => ?_)
  · obtain ⟨_, rfl, _⟩ := h
    rfl
  · obtain ⟨i, rfl, q⟩ := h
    refine ⟨_, (pss_one (ps_ret (pe_and (pe_callB (r := rIsi K) call_isi (by rfl) bl.isinst (by decide +kernel) (pa_cons (pv 0) (pa_cons (pe_bltn (v := .ty "int") (by rfl) bl.int (by decide +kernel) rfl) pa_nil))) (pe_one (pe_not (pe_callB (r := rIsi K) call_isi (by rfl) bl.isinst (by decide +kernel) (pa_cons (pv 0) (pa_cons (pe_bltn (v := .ty "bool") (by rfl) bl.bool (by decide +kernel) rfl) pa_nil)))))))), ?_⟩
    exact isi (b := true) rfl (.base (.int i)) (by decide +kernel) ⟨_, rfl, isi (b := false) rfl (.base (.int i)) (by decide +kernel) ⟨_, rfl, q⟩⟩
def sizeB (i : Int) : Bool := inV (.int i) [.int 1, .int 2, .int 4]
theorem sizeB_ok {i : Int} (h : SizeOk i) : sizeB i = true := by
  rcases h with rfl | rfl | rfl <;> decide
def spSize : Sp := fun vs H Q _ => ∃ i : Int, vs = [.int i] ∧ Q (.bl (sizeB i)) H
theorem k_is_size_ (D : Df K mg "is_size" s_is_size P_is_size) (bl : Bl mg) (cn : Cn K mg) (k_is_whole : Kp P w K mg base CX0 1 "is_whole" P_is_whole spWhole) : Kp P w K mg base CX0 2 "is_size" P_is_size spSize := by
  obtain ⟨a_SIZES, c_SIZES, qS⟩ := cn.SIZES
  refine D.ok sc_is_size (fun vs H Q E h => ?_) (fun f cdv A outer s H vs Q E hr h => ?_)
  · obtain ⟨_, rfl, _⟩ := h
    rfl
  · obtain ⟨i, rfl, q⟩ := h
    refine ⟨_, (pss_one (ps_ret (pe_and (pe_callA k_is_whole (hr.mono (by decide)) pass0 (pa_cons (pv 0) pa_nil)) (pe_one (pe_cmpR (r := rIn K false) op_in_seq (pv 0) (pe_glob (v := .ref a_SIZES) rfl c_SIZES rfl) (by rfl)))))), ?_⟩
    exact ⟨_, rfl, i, rfl, _, rfl, _, rfl, a_SIZES, _, rfl, .inr (qS H), rfl, rfl, q⟩
def smallB (n : Str) : Bool := decide ((1 : Int) ≤ n.length) && n.cps.toList.all fun c => decide (c ∈ abc.cps.toList)
def nameB (n : Str) : Bool := decide ((n.length : Int) ≤ 6) && smallB n
theorem abc_mem {c : Nat} : 97 ≤ c → c ≤ 122 → c ∈ abc.cps.toList := fun h1 h2 => by
  have h : ∀ i : Nat, i < 26 → 97 + i ∈ abc.cps.toList := by decide +kernel
  have e : c = 97 + (c - 97) := by omega
  rw [e]
  exact h _ (by omega)
theorem nameB_ok {n : Str} (h : NameOk n) : nameB n = true := by
  unfold nameB smallB
  rw [decide_eq_true (show (1 : Int) ≤ n.length by have := h.1; omega), decide_eq_true (show (n.length : Int) ≤ 6 by have := h.2.1; omega), Bool.true_and, Bool.true_and, List.all_eq_true]
  intro c hc
  exact decide_eq_true (abc_mem (h.2.2 c hc).1 (h.2.2 c hc).2)
def spSmall (T : Tb) : Sp := fun vs H Q _ => ∃ (n : Str) (B : Hp), vs = [.str n] ∧ Ok T B H ∧ n.length ≤ 1000 ∧ ∀ H', Ok T B H' → Q (.bl (smallB n)) H'
theorem k_are_small_letters_ {c P1 : Addr} (D : DfC K mg "are_small_letters" s_are_small_letters P_are_small_letters c) (bl : Bl mg) (cn : Cn K mg) (TB : GxR.TabB base mg c P1) (hT : P1 ∈ T.g) : Kp P w K mg base CX0 2 "are_small_letters" P_are_small_letters (spSmall T) := by
  obtain ⟨tL, cL⟩ := cn.LETTERS
  refine D.ok sc_are_small_letters (fun vs H Q E h => ?_) (fun f A outer s H vs Q E hr h => ?_)
  · obtain ⟨_, _, rfl, _⟩ := h
    rfl
  · obtain ⟨n, B, rfl, o0, hn, q⟩ := h
    refine ⟨_, (pss_one (ps_ret (pe_and (pe_cmpR  op_ge (pe_callB (r := rLenStr) cr_lenStr (by rfl) bl.len PySem.boot_len (pa_cons (pv 0) pa_nil)) pe_int (nomark _)) (pe_one (pe_allTxt hr (by rfl) bl.all TB rfl (genS_by (by decide +kernel)) (pv 0) (eltT_of (D := 0) rfl hr fun cc tok => qe_in ((qe_loc rfl fun _ h => h).imp fun y e => ⟨tok, e⟩) ((qe_glo rfl cL).imp fun y e => ⟨tL, e⟩)) (by intro _; rfl)))))), ?_⟩
    refine ⟨_, rfl, n, rfl, Nat.le_trans hn (by decide), _, _, rfl, rfl, _, rfl, ?_⟩
    unfold smallB at q
    by_cases h1 : (1 : Int) ≤ n.length
    · rw [decide_eq_true h1] at q ⊢
      refine iteT ⟨_, rfl, n, rfl, o0.tg _ hT, fun H2 t2 => ?_⟩
      exact q H2 (o0.tabbed hT t2)
    · rw [decide_eq_false h1] at q ⊢
      exact iteF (q H o0)
def spName (T : Tb) : Sp := fun vs H Q _ => ∃ (n : Str) (B : Hp), vs = [.str n] ∧ Ok T B H ∧ n.length ≤ 1000 ∧ ∀ H', Ok T B H' → Q (.bl (nameB n)) H'
theorem k_is_name_ (D : Df K mg "is_name" s_is_name P_is_name) (bl : Bl mg) (cn : Cn K mg) (k_are_small_letters : Kp P w K mg base CX0 2 "are_small_letters" P_are_small_letters (spSmall T)) : Kp P w K mg base CX0 3 "is_name" P_is_name (spName T) := by
  obtain ⟨tN, c_LONGEST_NAME⟩ := cn.LONGEST_NAME
  refine D.ok sc_is_name (fun vs H Q E h => ?_) (fun f cdv A outer s H vs Q E hr h => ?_)
  · obtain ⟨_, _, rfl, _⟩ := h
    rfl
  · obtain ⟨n, B, rfl, o0, hn, q⟩ := h
    refine ⟨_, (pss_one (ps_ret (pe_and (pe_cmpR  op_le (pe_callB (r := rLenStr) cr_lenStr (by rfl) bl.len PySem.boot_len (pa_cons (pv 0) pa_nil)) (pe_glob (v := .int 6) rfl c_LONGEST_NAME ⟨_, rfl⟩) (nomark _)) (pe_one (pe_callA k_are_small_letters (hr.mono (by decide)) pass0 (pa_cons (pv 0) pa_nil)))))), ?_⟩
    refine ⟨_, rfl, n, rfl, Nat.le_trans hn (by decide), _, _, rfl, rfl, _, rfl, ?_⟩
    unfold nameB at q
    by_cases h2 : (n.length : Int) ≤ 6
    · rw [decide_eq_true h2] at q ⊢
      exact iteT ⟨_, rfl, n, B, rfl, o0, hn, q⟩
    · rw [decide_eq_false h2] at q ⊢
      exact iteF (q H o0)
/-! ### fields and hands that can be are let go -/
def spCkF (T : Tb) (K : PySem.W.Frag) : Sp := fun vs H Q _ => ∃ (a : Addr) (fs : List Fld) (B : Hp), vs = [.ref a] ∧ Ok T B H ∧ FieldsAt K B a fs ∧ FieldsOk fs ∧ ∀ H', Ok T B H' → Q .non H'
theorem k_check_fields_ (D : Df K mg "check_fields" s_check_fields P_check_fields) (bl : Bl mg) (cn : Cn K mg) (k_is_name : Kp P w K mg base CX0 3 "is_name" P_is_name (spName T)) (k_is_size : Kp P w K mg base CX0 2 "is_size" P_is_size spSize) :
    Kp P w K mg base CX0 4 "check_fields" P_check_fields (spCkF T K) := by
  obtain ⟨tM, c_MOST_FIELDS⟩ := cn.MOST_FIELDS
  refine D.ok sc_check_fields (fun vs H Q E h => ?_) (fun f cdv A outer s H vs Q E hr h => ?_)
  · obtain ⟨_, _, _, rfl, _⟩ := h
    rfl
  · obtain ⟨a, fs, B, rfl, o0, hF, hO, q⟩ := h
    obtain ⟨ts, hA, tl, hT⟩ := hF
    refine ⟨_, (pss_cons (ps_if (pt_not (pt_tru (pv 0)))
        (pss_one ps_never)
        pss_nil)
      (pss_cons (ps_set (i := 1) sc_check_fields.nd rfl (by first | exact Or.inl rfl | exact Or.inr rfl) (pe_callTy0 (r := rSet0K P w) cr_set0K (by rfl) bl.set (by decide +kernel)))
      (pss_one (ps_for PassesOwn.never rfl (pi_enum (by rfl) bl.enumerate (pa_cons (pv 0) pa_nil)) (pg_tup rfl (pgs_cons (pg_name (i := 2) sc_check_fields.nd rfl (by first | exact Or.inl rfl | exact Or.inr rfl)) (pgs_cons (pg_tup rfl (pgs_cons (pg_name (i := 3) sc_check_fields.nd rfl (by first | exact Or.inl rfl | exact Or.inr rfl)) (pgs_cons (pg_name (i := 4) sc_check_fields.nd rfl (by first | exact Or.inl rfl | exact Or.inr rfl)) pgs_nil))) pgs_nil)))
        (pss_cons (ps_if (PW.pt (pw_or (pt_cmpR  op_ge (pv 2) (pe_glob (v := .int 6) rfl c_MOST_FIELDS ⟨_, rfl⟩) (nomark _)) (pw_or (pt_not (pt_val (pe_callA k_is_name (hr.mono (by decide)) pass0 (pa_cons (pv 3) pa_nil)))) (pw_or (pt_cmpR (r := rSInK P w false) or_sinK (pv 3) (pv 1) (by rfl)) (pw_or1 (pt_not (pt_val (pe_callA k_is_size (hr.mono (by decide)) pass0 (pa_cons (pv 4) pa_nil)))))))))
          (pss_one ps_never)
          pss_nil)
        (pss_one (ps_expr (pe_saddK (pv 1) (pa_cons (pv 3) pa_nil))))))))), ?_⟩
    have hne : (ts.map V.ref).isEmpty = false := by
      have := hO.pos
      cases ts with
      | nil => simp at tl; omega
      | cons _ _ => rfl
    refine ⟨_, rfl, _, .inl ⟨_, o0.sl hA, rfl⟩, ?_⟩
    rw [hne]
    refine iteF ⟨rfl, fun p np => ?_⟩
    have nB := o0.fresh np
    refine ⟨_, rfl, a, _, rfl, (o0.newM np).sl hA, ?_⟩
    refine for_it (walk_enum (K := K) (a := a) (xs := ts.map V.ref)) (fun i σ H' => ∃ (y2 y3 y4 : Option V) (S : Key → Bool) (n : Nat), σ = [some (.ref a), some (.ref p), y2, y3, y4] ∧ Ok T B H' ∧ H' p = some (SetK P w p S n) ∧ n ≤ i ∧ (∀ k, S k = true → ∃ g ∈ fs.take i, k = Sum.inr g.1))
      ⟨none, none, none, _, 0, rfl, o0.newM np, upd_same, Nat.le_refl 0, fun k hk => by cases hk⟩ (fun i σ H' _ hp => ?_) (fun i x σ H1 H2 hi hp hy => ?_) (fun σ H' hp => ?_)
    · obtain ⟨_, _, _, _, _, _, o1, _⟩ := hp
      exact o1.sl hA
    · obtain ⟨y2, y3, y4, S, n, rfl, o1, hS, hn, hk⟩ := hp
      obtain ⟨t, x1, x2, rfl, nt, rfl, e1, e2⟩ := hy
      cases e1
      obtain ⟨ti, hti, rfl⟩ := map_at e2
      have hif : i < fs.length := by
        have := (List.getElem?_eq_some_iff.mp hti).1
        omega
      have hg : fs[i]? = some fs[i] := List.getElem?_eq_getElem hif
      have hTi : SqT K B ti [.str fs[i].1, .int fs[i].2] := hT i ti _ hti hg
      have o2 := o1.newM nt (o := .tup [.int (i : Nat), .ref ti])
      have pt : p ≠ t := ne_of_none hS nt
      have hS2 := (upd_ne (o := .tup [.int (i : Nat), .ref ti]) pt).trans hS
      have hmem := List.getElem_mem hif
      refine ⟨t, _, rfl, SqT.of upd_same, rfl, _, _, rfl, _, _, rfl, ⟨ti, _, rfl, o2.st hTi, rfl, _, _, rfl, _, _, rfl, rfl, rfl, ?_⟩⟩
      -- number >= MOST_FIELDS
      refine ⟨_, rfl, _, _, rfl, rfl, _, rfl, ?_⟩
      rw [decide_eq_false (show ¬ ((6 : Int) ≤ ((i : Nat) : Int)) by have := hO.most; omega)]
      refine iteF ?_
      refine ⟨_, rfl, fs[i].1, upd B p (SetK P w p S n), rfl, o2.add hS2 nt_set, Nat.le_trans (hO.name _ hmem).2.1 (by decide), fun H3 o3 => ?_⟩
      rw [nameB_ok (hO.name _ hmem)]
      have hS3 : H3 p = some (SetK P w p S n) := o3.ex _ _ upd_same
      have o4 : Ok T B H3 := o3.back (upd_up nB)
      refine ⟨_, rfl, iteF ?_⟩
      have hnin : S (Sum.inr fs[i].1) = false := by
        cases e : S (Sum.inr fs[i].1) with
        | false => rfl
        | true =>
          obtain ⟨g, hg1, hg2⟩ := hk _ e
          obtain ⟨j, hj, ej⟩ := List.getElem_of_mem hg1
          have hj2 : j < i := by simp at hj; omega
          have hjf : j < fs.length := by omega
          have ej2 : fs[j] = g := by rw [← ej, List.getElem_take]
          have nd := hO.nd
          have z := (List.getElem_inj (h₀ := by simpa using hif) (h₁ := by simpa using hjf) nd).mp (by simp only [List.getElem_map]; rw [ej2]; exact Sum.inr.inj hg2)
          omega
      refine ⟨_, rfl, _, rfl, Sum.inr fs[i].1, p, S, n, rfl, rfl, hS3, _, rfl, ?_⟩
      rw [hnin]
      refine iteF ⟨_, rfl, fs[i].2, rfl, ?_⟩
      rw [sizeB_ok (hO.size _ hmem)]
      refine ⟨_, rfl, iteF ?_⟩
      refine ⟨_, rfl, ⟨p, S, n, rfl, hS3⟩, _, rfl, p, Sum.inr fs[i].1, S, n, rfl, rfl, hS3, Nat.lt_of_le_of_lt (show n + 1 ≤ 7 by have := hO.most; omega) (by decide), ?_⟩
      refine ⟨_, _, _, _, n + 1, rfl, o4.mutS nB hS3, by rw [upd_same, hnin] <;> rfl, by omega, fun k hk2 => ?_⟩
      rw [List.take_add_one, hg]
      rcases Bool.or_eq_true_iff.mp hk2 with z | z
      · obtain ⟨g, h1, h2⟩ := hk k z
        exact ⟨g, List.mem_append.mpr (.inl h1), h2⟩
      · exact ⟨fs[i], List.mem_append.mpr (.inr (by simp)), of_decide_eq_true z⟩
    · obtain ⟨_, _, _, _, _, _, o1, _⟩ := hp
      exact q H' o1
end
end Rw

-- RAISES
namespace Rw
open PySem PySem.Spec PyProof.Rows L2 Ub
section
variable {P : Program} {w : World} {K : PySem.W.Frag} {mg : Str → Option Value} {base : Heap} {T : Tb}
def spCkH (T : Tb) (K : PySem.W.Frag) : Sp := fun vs H Q _ => ∃ (t : Addr) (h : Hand) (B : Hp), vs = [.ref t] ∧ Ok T B H ∧ HandAt K B t h ∧ Q .non H
theorem k_check_hand_ (D : Df K mg "check_hand" s_check_hand P_check_hand) (bl : Bl mg) (cn : CnH K mg) (k_is_size : Kp P w K mg base CX0 2 "is_size" P_is_size spSize) : Kp P w K mg base CX0 3 "check_hand" P_check_hand (spCkH T K) := by
  obtain ⟨a_ORDERS, c_ORDERS, qO⟩ := cn.ORDERS
  obtain ⟨a_WAYS, c_WAYS, qW⟩ := cn.WAYS
  refine D.ok sc_check_hand (fun vs H Q E h => ?_) (fun f cdv A outer s H vs Q E hr h => ?_)
  · obtain ⟨_, _, _, rfl, _⟩ := h
    rfl
  · obtain ⟨t, h, B, rfl, o0, hH, q⟩ := h
    refine ⟨_, (pss_cons (ps_asg (pv 0) (pg_tup rfl (pgs_cons (pg_name (i := 1) sc_check_hand.nd rfl (by first | exact Or.inl rfl | exact Or.inr rfl)) (pgs_cons (pg_name (i := 2) sc_check_hand.nd rfl (by first | exact Or.inl rfl | exact Or.inr rfl)) (pgs_cons (pg_name (i := 3) sc_check_hand.nd rfl (by first | exact Or.inl rfl | exact Or.inr rfl)) (pgs_cons (pg_name (i := 4) sc_check_hand.nd rfl (by first | exact Or.inl rfl | exact Or.inr rfl)) pgs_nil))))))
      (pss_cons (ps_if (pt_cmpR (r := rIn K true) op_notIn_seq (pv 1) (pe_glob (v := .ref a_ORDERS) rfl c_ORDERS rfl) (by rfl))
        (pss_one ps_never)
        pss_nil)
      (pss_cons (ps_if (pt_not (pt_val (pe_callA k_is_size (hr.mono (by decide)) pass0 (pa_cons (pv 2) pa_nil))))
        (pss_one ps_never)
        pss_nil)
      (pss_cons (ps_if (pt_not (pt_val (pe_callA k_is_size (hr.mono (by decide)) pass0 (pa_cons (pv 3) pa_nil))))
        (pss_one ps_never)
        pss_nil)
      (pss_one (ps_if (pt_cmpR (r := rIn K true) op_notIn_seq (pv 4) (pe_glob (v := .ref a_WAYS) rfl c_WAYS rfl) (by rfl))
        (pss_one ps_never)
        pss_nil)))))), ?_⟩
    have hs := o0.st hH.1
    have i1 : inV (.str h.order) [.str "great", .str "small"] = true := by
      rcases hH.2.order with e | e <;> rw [e] <;> decide +kernel
    have i2 : inV (.str h.way) [.str "up", .str "down"] = true := by
      rcases hH.2.way with e | e <;> rw [e] <;> decide +kernel
    refine ⟨_, rfl, t, _, rfl, hs, rfl, _, _, rfl, _, _, rfl, _, _, rfl, _, _, rfl, rfl, ?_⟩
    refine ⟨_, rfl, a_ORDERS, _, rfl, .inr (qO H), rfl, rfl, _, rfl, ?_⟩
    rw [if_pos rfl, i1]
    refine iteF ⟨_, rfl, h.align, rfl, ?_⟩
    rw [sizeB_ok hH.2.align]
    refine ⟨_, rfl, iteF ⟨_, rfl, h.wide, rfl, ?_⟩⟩
    rw [sizeB_ok hH.2.wide]
    refine ⟨_, rfl, iteF ⟨_, rfl, a_WAYS, _, rfl, .inr (qW H), rfl, rfl, _, rfl, ?_⟩⟩
    rw [if_pos rfl, i2]
    exact iteF q

end
end Rw

-- RAISES
namespace Rw
open PySem PySem.Spec PyProof.Rows L2 Ub
section
variable {P : Program} {w : World} {K : PySem.W.Frag} {mg : Str → Option Value} {base : Heap} {T : Tb}
/-! ### where a hand lays fields -/
def spStepOf (K : PySem.W.Frag) : Sp := fun vs H Q _ => ∃ (sz : Int) (t : Addr) (h : Hand), vs = [.int sz, .ref t] ∧ SqT K H t h.vs ∧ Q (.int (stp h.align sz)) H
theorem k_step_of_ (D : Df K mg "step_of" s_step_of P_step_of) (bl : Bl mg) : Kp P w K mg base CX0 1 "step_of" P_step_of (spStepOf K) := by
  refine D.ok sc_step_of (fun vs H Q E h => ?_) (fun f cdv A outer s H vs Q E hr h => ?_)
  · obtain ⟨_, _, _, rfl, _⟩ := h
    rfl
  · obtain ⟨sz, t, h, rfl, hs, q⟩ := h
    refine ⟨_, (pss_cons (ps_asg (pv 1) (pg_tup rfl (pgs_cons (pg_name (i := 2) sc_step_of.nd rfl (by first | exact Or.inl rfl | exact Or.inr rfl)) (pgs_cons (pg_name (i := 3) sc_step_of.nd rfl (by first | exact Or.inl rfl | exact Or.inr rfl)) (pgs_cons (pg_name (i := 2) sc_step_of.nd rfl (by first | exact Or.inl rfl | exact Or.inr rfl)) (pgs_cons (pg_name (i := 2) sc_step_of.nd rfl (by first | exact Or.inl rfl | exact Or.inr rfl)) pgs_nil))))))
      (pss_one (ps_ret (pe_callB (r := rMin2) (cr_min2 rfl) (by rfl) bl.min (by decide +kernel) (pa_cons (pv 0) (pa_cons (pv 3) pa_nil)))))), ?_⟩
    refine ⟨_, rfl, t, _, rfl, hs, rfl, _, _, rfl, _, _, rfl, _, _, rfl, _, _, rfl, rfl, ?_⟩
    refine ⟨_, rfl, _, rfl, _, _, rfl, ?_⟩
    rw [show (if h.align < sz then h.align else sz) = stp h.align sz by unfold stp; split <;> split <;> omega]
    exact q
def spFirst : Sp := fun vs H Q _ => ∃ x s : Int, vs = [.int x, .int s] ∧ SizeOk s ∧ Q (.int (upTo x s)) H
theorem k_first_multiple_ (D : Df K mg "first_multiple" s_first_multiple P_first_multiple) (bl : Bl mg) : Kp P w K mg base CX0 1 "first_multiple" P_first_multiple spFirst := by
  refine D.ok sc_first_multiple (fun vs H Q E h => ?_) (fun f cdv A outer s H vs Q E hr h => ?_)
  · obtain ⟨_, _, rfl, _⟩ := h
    rfl
  · obtain ⟨x, s, rfl, hs, q⟩ := h
    have h1 := hs.pos
    have h2 : s ≤ 4 := by rcases hs with rfl | rfl | rfl <;> decide
    refine ⟨_, (pss_one (ps_ret (pe_op op_mul (pe_op op_fdiv (pe_op op_sub (pe_op op_add (pv 0) (pv 1)) pe_int) (pv 1)) (pv 1)))), ?_⟩
    exact ⟨_, rfl, _, rfl, _, _, rfl, rfl, _, _, rfl, rfl, _, rfl, _, _, rfl, rfl, ⟨h1, by omega⟩, _, rfl, _, _, rfl, rfl, .inr ⟨by omega, by omega⟩, q⟩
def spPlaced (T : Tb) (K : PySem.W.Frag) : Sp := fun vs H Q _ => ∃ (a t g : Addr) (fs : List Fld) (h : Hand) (gs : List Int) (B : Hp), vs = [.ref a, .ref t, .ref g] ∧ Ok T B H ∧ FieldsAt K B a fs ∧ fs.length ≤ 6 ∧ (∀ f ∈ fs, SizeOk f.2) ∧ HandAt K B t h ∧ SqL K B g (gs.map V.int) ∧ gs.length = fs.length ∧
  ∀ (p l : Addr) (H' : Hp), B p = none → B l = none → l ≠ p → Ok T B H' → H' p = some (.tup [.ref l, .int (placed h.align fs gs).2]) → H' l = some (.lst ((placed h.align fs gs).1.map V.int)) → Q (.ref p) H'
theorem k_placed_ (D : Df K mg "_placed" s_placed P_placed) (bl : Bl mg) (k_step_of : Kp P w K mg base CX0 1 "step_of" P_step_of (spStepOf K)) (k_first_multiple : Kp P w K mg base CX0 1 "first_multiple" P_first_multiple spFirst) : Kp P w K mg base CX0 2 "_placed" P_placed (spPlaced T K) := by
  refine D.ok sc_placed (fun vs H Q E h => ?_) (fun f cdv A outer s H vs Q E hr h => ?_)
  · obtain ⟨_, _, _, _, _, _, _, rfl, _⟩ := h
    rfl
  · obtain ⟨a, t, g, fs, h, gs, B, rfl, o0, hF, fl, fsz, hH, hG, gl, q⟩ := h
    obtain ⟨ts, hA, tl, hT⟩ := hF
    refine ⟨_, (pss_cons (ps_set (i := 3) sc_placed.nd rfl (by first | exact Or.inl rfl | exact Or.inr rfl) (pe_lst pa_nil))
      (pss_cons (ps_set (i := 4) sc_placed.nd rfl (by first | exact Or.inl rfl | exact Or.inr rfl) pe_int)
      (pss_cons (ps_set (i := 5) sc_placed.nd rfl (by first | exact Or.inl rfl | exact Or.inr rfl) pe_int)
      (pss_cons (ps_for PassesOwn.never rfl (pi_zip (by rfl) bl.zip (pa_cons (pv 0) (pa_cons (pv 2) pa_nil))) (pg_tup rfl (pgs_cons (pg_tup rfl (pgs_cons (pg_name (i := 6) sc_placed.nd rfl (by first | exact Or.inl rfl | exact Or.inr rfl)) (pgs_cons (pg_name (i := 7) sc_placed.nd rfl (by first | exact Or.inl rfl | exact Or.inr rfl)) pgs_nil))) (pgs_cons (pg_name (i := 8) sc_placed.nd rfl (by first | exact Or.inl rfl | exact Or.inr rfl)) pgs_nil)))
        (pss_cons (ps_set (i := 9) sc_placed.nd rfl (by first | exact Or.inl rfl | exact Or.inr rfl) (pe_callA k_step_of (hr.mono (by decide)) pass0 (pa_cons (pv 7) (pa_cons (pv 1) pa_nil))))
        (pss_cons (ps_set (i := 10) sc_placed.nd rfl (by first | exact Or.inl rfl | exact Or.inr rfl) (pe_callA k_first_multiple (hr.mono (by decide)) pass0 (pa_cons (pe_op op_add (pv 4) (pv 8)) (pa_cons (pv 9) pa_nil))))
        (pss_cons (ps_expr (pe_bm PySem.F.plainAttrs_list PySem.F.slot_list_append PySem.F.type_list_append mt_append (pv 3) (pa_cons (pv 10) pa_nil)))
        (pss_cons (ps_set (i := 4) sc_placed.nd rfl (by first | exact Or.inl rfl | exact Or.inr rfl) (pe_op op_add (pv 10) (pv 7)))
        (pss_one (ps_set (i := 5) sc_placed.nd rfl (by first | exact Or.inl rfl | exact Or.inr rfl) (pe_callB (r := rMax2) (cr_max2 rfl) (by rfl) bl.max (by decide +kernel) (pa_cons (pv 5) (pa_cons (pv 9) pa_nil))))))))))
      (pss_one (ps_ret (pe_tup (pa_cons (pv 3) (pa_cons (pe_callA k_first_multiple (hr.mono (by decide)) pass0 (pa_cons (pv 4) (pa_cons (pv 5) pa_nil))) pa_nil))))))))), ?_⟩
    refine ⟨Nat.zero_le _, fun L nL => ?_⟩
    have nBL := o0.fresh nL
    have o1 := o0.newM nL (o := .lst [])
    refine ⟨_, rfl, _, rfl, a, g, _, _, rfl, o1.sl hA, o1.sl hG, ?_⟩
    refine for_it (walk_zip (K := K) (a := a) (b := g) (xs := ts.map V.ref) (ys := gs.map V.int) (n := fs.length) (by rw [List.length_map, List.length_map]; omega)) (fun i σ H' => ∃ (y6 y7 y8 y9 y10 : Option V), σ = [some (.ref a), some (.ref t), some (.ref g), some (.ref L), some (.int (layAll h.align ((fs.zip gs).take i)).1), some (.int (layAll h.align ((fs.zip gs).take i)).2.1), y6, y7, y8, y9, y10] ∧
        Ok T B H' ∧ H' L = some (.lst ((layAll h.align ((fs.zip gs).take i)).2.2.map V.int)) ∧ (layAll h.align ((fs.zip gs).take i)).2.2.length = i) ⟨_, _, _, _, _, rfl, o1, upd_same, rfl⟩ (fun i σ H' _ hp => ?_) (fun i x σ H1 H2 hi hp hy => ?_) (fun σ H' hp => ?_)
    · obtain ⟨_, _, _, _, _, _, o2, _⟩ := hp
      exact ⟨o2.sl hA, o2.sl hG⟩
    · obtain ⟨y6, y7, y8, y9, y10, rfl, o2, hL, hl⟩ := hp
      obtain ⟨tp, x1, x2, rfl, nt, rfl, e1, e2⟩ := hy
      obtain ⟨ti, hti, rfl⟩ := map_at e1
      obtain ⟨gi, hgi, rfl⟩ := map_at e2
      have hif : i < fs.length := hi
      have hg : fs[i]? = some fs[i] := List.getElem?_eq_getElem hif
      have hTi : SqT K B ti [.str fs[i].1, .int fs[i].2] := hT i ti _ hti hg
      have hx : (fs.zip gs)[i]? = some (fs[i], gi) := by
        rw [List.getElem?_zip_eq_some]
        exact ⟨hg, hgi⟩
      have e3 : (fs.zip gs).take (i + 1) = (fs.zip gs).take i ++ [(fs[i], gi)] := by
        rw [List.take_add_one, hx]
        rfl
      rw [e3, layAll_snoc]
      generalize layAll h.align ((fs.zip gs).take i) = st at *
      obtain ⟨here, gr, fd⟩ := st
      dsimp only at hL hl ⊢
      have sz : SizeOk fs[i].2 := fsz _ (List.getElem_mem hif)
      have so : SizeOk (stp h.align fs[i].2) := stp_ok hH.2.al sz
      have o3 := o2.newM nt (o := .tup [.ref ti, .int gi])
      have Lt : L ≠ tp := ne_of_none hL nt
      refine ⟨tp, _, rfl, SqT.of upd_same, rfl, _, _, rfl, ⟨ti, _, rfl, o3.st hTi, rfl, _, _, rfl, _, _, rfl, rfl, _, _, rfl, rfl, ?_⟩⟩
      refine ⟨_, rfl, _, rfl, fs[i].2, t, h, rfl, o3.st hH.1, ?_⟩
      refine ⟨_, rfl, _, rfl, _, _, rfl, rfl, _, rfl, here + gi, stp h.align fs[i].2, rfl, so, ?_⟩
      have hL3 := (upd_ne (o := .tup [.ref ti, .int gi]) Lt).trans hL
      refine ⟨_, rfl, .inl ⟨rfl, _, SqL.of hL3⟩, _, rfl, L, _, _, rfl, rfl, hL3, by rw [List.length_map]; exact Nat.lt_of_le_of_lt (show fd.length ≤ 6 by omega) (by decide), ?_⟩
      refine ⟨_, rfl, _, rfl, _, _, rfl, rfl, ?_⟩
      refine ⟨_, rfl, _, rfl, _, _, rfl, ?_⟩
      refine ⟨_, _, _, _, _, rfl, o3.mutL nBL hL3, ?_, by simp [layStep, hl]⟩
      rw [upd_same]
      simp [layStep]
    · obtain ⟨y6, y7, y8, y9, y10, rfl, o2, hL, hl⟩ := hp
      have e1 : (fs.zip gs).take fs.length = fs.zip gs := List.take_of_length_le (by rw [List.length_zip]; omega)
      rw [e1] at hL hl ⊢
      have hgr : SizeOk (layAll h.align (fs.zip gs)).2.1 := great_ok hH.2.al (.inl rfl) fun x hx => fsz _ (List.of_mem_zip hx).1
      refine ⟨_, rfl, _, rfl, _, rfl, _, _, rfl, hgr, by show 2 ≤ sizeLine; decide, fun p np => ?_⟩
      have Lp : L ≠ p := ne_of_none hL np
      exact q p L _ (o2.fresh np) nBL Lp (o2.newM np) upd_same ((upd_ne Lp).trans hL)

end
end Rw

namespace Rw
open PySem PySem.Spec PyProof.Rows L2 Ub
section
variable {P : Program} {w : World} {K : PySem.W.Frag} {mg : Str → Option Value} {base : Heap} {T : Tb}
/-! ### fields, a hand by data -/
theorem dz_fld {A : Hp} {v : V} {f : Fld} (h : Dz K A v (fldD f)) : ∃ t, v = .ref t ∧ FldAt K A t f := by
  cases h with
  | tup h1 h2 =>
    cases h2 with
    | cons a b =>
      cases a
      cases b with
      | cons a b =>
        cases a
        cases b
        exact ⟨_, rfl, h1⟩
theorem dz_flds {A : Hp} : ∀ {fs : List Fld} {vs : List V}, DzA K A vs (fs.map fldD) → ∃ ts : List Addr, vs = ts.map V.ref ∧ ts.length = fs.length ∧ ∀ (i : Nat) (t : Addr) (f : Fld), ts[i]? = some t → fs[i]? = some f → FldAt K A t f
  | [], _, .nil => ⟨[], rfl, rfl, fun i t f h => by simp at h⟩
  | f :: fs, v :: vs, .cons h t => by
    obtain ⟨ts, rfl, h1, h2⟩ := dz_flds t
    obtain ⟨t0, rfl, h3⟩ := dz_fld h
    refine ⟨t0 :: ts, rfl, by simp [h1], fun i t f' e1 e2 => ?_⟩
    cases i with
    | zero => cases e1; cases e2; exact h3
    | succ i => exact h2 i t f' (by simpa using e1) (by simpa using e2)
theorem dz_fields {A : Hp} {v : V} {fs : List Fld} (h : Dz K A v (fldsD fs)) : ∃ a, v = .ref a ∧ FieldsAt K A a fs := by
  cases h with
  | lst h1 h2 =>
    obtain ⟨ts, rfl, h3, h4⟩ := dz_flds h2
    exact ⟨_, rfl, ts, SqL.of h1, h3, h4⟩
theorem dz_hand {A : Hp} {v : V} {h : Hand} (z : Dz K A v (handD h)) (k : HandOk h) : ∃ t, v = .ref t ∧ HandAt K A t h := by
  cases z with
  | tup h1 h2 =>
    cases h2 with
    | cons a b =>
      cases a
      cases b with
      | cons a b =>
        cases a
        cases b with
        | cons a b =>
          cases a
          cases b with
          | cons a b =>
            cases a
            cases b
            exact ⟨_, rfl, h1, k⟩
theorem dz_ints {A : Hp} {v : V} {ns : List Int} (h : Dz K A v (.lst (ns.map Dt.int))) : ∃ a, v = .ref a ∧ A a = some (.lst (ns.map V.int)) := by
  cases h with
  | lst h1 h2 => exact ⟨_, rfl, h1.trans (by rw [h2.ints_eq])⟩
def layDt (x : List Int × Int) : Dt := .tup [.lst (x.1.map Dt.int), .int x.2]
theorem wr_l0 {ρ : List Sl} {x : List Int × Int} {Pg : Ag → Prop} (p : Pg (.dat (.lst (x.1.map Dt.int)))) : WR K T (rIxT K) ρ (.dat (layDt x)) (.dat (.int 0)) Pg := wr_ixT (l := [.lst (x.1.map Dt.int), .int x.2]) rfl rfl p
theorem wr_l1 {ρ : List Sl} {x : List Int × Int} {Pg : Ag → Prop} (p : Pg (.dat (.int x.2))) : WR K T (rIxT K) ρ (.dat (layDt x)) (.dat (.int 1)) Pg := wr_ixT (l := [.lst (x.1.map Dt.int), .int x.2]) rfl rfl p
theorem lay_res {A B H' : Hp} {p l : Addr} {x : List Int × Int} (oB : Ok T B H') (e : Ex A B) (np : B p = none) (nl : B l = none) (lp : l ≠ p) (hp : H' p = some (.tup [.ref l, .int x.2])) (hl : H' l = some (.lst (x.1.map V.int))) :
    ∃ C', Rep K T A B none C' H' [] [] (fun _ => 0) ∧ Dz K C' (.ref p) (layDt x) := by
  have nA : ∀ {a}, B a = none → A a = none := fun h => Evl.fresh_back e h
  have e1 : Ex A (upd A l (.lst (x.1.map V.int))) := upd_up (nA nl)
  have np1 : upd A l (.lst (x.1.map V.int)) p = none := (upd_ne (Ne.symm lp)).trans (nA np)
  have e2 : Ex (upd A l (.lst (x.1.map V.int))) (upd (upd A l (.lst (x.1.map V.int))) p (.tup [.ref l, .int x.2])) := upd_up np1
  refine ⟨upd (upd A l (.lst (x.1.map V.int))) p (.tup [.ref l, .int x.2]), ⟨oB, ((oB.back e).addL hl).add hp nt_tup, e1.trans e2, fun a ha => ?_, rfl, fun _ _ h => by simp at h, fun _ _ _ _ h => by simp at h, fun _ h => nomatch h⟩, ?_⟩
  · by_cases h1 : a = p
    · subst h1
      exact .inr (.inl np)
    · rw [upd_ne h1] at ha
      by_cases h2 : a = l
      · subst h2
        exact .inr (.inl nl)
      · rw [upd_ne h2] at ha
        exact .inl ha
  · exact .tup (SqT.of upd_same) (.cons (.lst ((upd_ne lp).trans upd_same) (.ints _)) (.cons (.int _) .nil))
end
end Rw

namespace Rw
open PySem PySem.Spec PyProof.Rows L2 Ub
/-! ### fields as words -/
def figs : Str := "0123456789"
theorem inTx_one {c : Nat} {j : Str} : inTx ⟨#[c]⟩ j = decide (c ∈ j.cps.toList) := by
  unfold inTx
  rw [empty_one, Bool.not_not]
/-- a field written -/
def wordOf (f : Fld) : Str := f.1 ++ ":" ++ toString f.2
theorem slen_app (a b : Str) : (a ++ b).length = a.length + b.length := by
  rw [TL.len_tl, TL.tl_append, List.length_append, ← TL.len_tl, ← TL.len_tl]
theorem wordOf_eq (f : Fld) : ((Str.empty ++ f.1) ++ (":" : Str)) ++ (Str.ofString (toString f.2)) = wordOf f := by
  refine TL.ext_tl ?_
  unfold wordOf
  simp only [TL.tl_append]
  rfl
theorem wordOf_len {f : Fld} (h1 : NameOk f.1) (h2 : SizeOk f.2) : (wordOf f).length ≤ 8 := by
  rw [TL.len_tl]
  unfold wordOf
  rw [TL.tl_append, TL.tl_append, List.length_append, List.length_append, ← TL.len_tl, ← TL.len_tl, ← TL.len_tl]
  have e : (Str.ofString (toString f.2)).length = 1 := by
    rcases h2 with e | e | e <;> rw [e] <;> decide +kernel
  have e2 : (":" : Str).length = 1 := by decide +kernel
  have := h1.2.1
  omega
def figB (s : Str) : Bool := decide ((s.length : Int) = 1) && inTx s figs
def figV (s : Str) : Int := (s.cps.toList.headD 48 : Nat) - 48
theorem figB_one {s : Str} (h : figB s = true) : ∃ d : Nat, d < 10 ∧ s = ⟨#[48 + d]⟩ := by
  unfold figB at h
  obtain ⟨h1, h2⟩ := Bool.and_eq_true_iff.mp h
  have h1 : (s.length : Int) = 1 := of_decide_eq_true h1
  obtain ⟨l⟩ := s
  obtain ⟨l⟩ := l
  match l, h1, h2 with
  | [c], _, h2 =>
    have h2 : inTx ⟨#[c]⟩ figs = true := h2
    rw [inTx_one] at h2
    have h3 := of_decide_eq_true h2
    have h4 : ∀ x ∈ figs.cps.toList, 48 ≤ x ∧ x < 58 := by decide +kernel
    obtain ⟨g1, g2⟩ := h4 c h3
    exact ⟨c - 48, by omega, by rw [show 48 + (c - 48) = c by omega]⟩
  | [], h1, _ => exact absurd h1 (by decide)
  | a :: b :: r, h1, _ =>
    have : ((r.length + 1 + 1 : Nat) : Int) = 1 := h1
    omega
theorem figB_digit : ∀ d : Nat, d < 10 → figB ⟨#[48 + d]⟩ = true ∧ figV ⟨#[48 + d]⟩ = (d : Int) ∧ PySem.intText? ⟨#[48 + d]⟩ = some (d : Int) ∧ (toString (d : Int) : Str) = ⟨#[48 + d]⟩ := by decide +kernel
theorem figB_int {s : Str} (h : figB s = true) : PySem.intText? s = some (figV s) ∧ s.length ≤ 640 := by
  obtain ⟨d, hd, rfl⟩ := figB_one h
  obtain ⟨_, h1, h2, _⟩ := figB_digit d hd
  exact ⟨by rw [h1, h2], by show 1 ≤ 640; decide⟩
theorem log_nat {i : Nat} (h : i ≤ 100000) : (Int.natAbs (i : Int)).log2 < 1920 := by
  rw [Int.natAbs_natCast]
  by_cases h0 : i = 0
  · rw [h0]
    decide
  · exact Nat.lt_of_lt_of_le ((Nat.log2_lt h0).mpr (show i < 2 ^ 20 by omega)) (by decide)
theorem fmt_nat {i : Nat} (h : i ≤ 100000) : fmtD (.int (i : Int)) := log_nat h
/-! ### a text cut at blanks -/
theorem spl1 {s : Nat} : ∀ (l acc : List Nat), s ∉ acc → TL.joinL [s] (TL.spl [s] 0 acc l) = acc ++ l ∧ TL.spl [s] 0 acc l ≠ [] ∧ ∀ p ∈ TL.spl [s] 0 acc l, s ∉ p ∧ p.length ≤ acc.length + l.length
  | [], acc, ha => by
    rw [TL.spl_nil]
    refine ⟨by simp [TL.joinL], by simp, fun p hp => ?_⟩
    rw [List.mem_singleton.mp hp]
    exact ⟨ha, by simp⟩
  | c :: r, acc, ha => by
    by_cases h : c = s
    · subst h
      obtain ⟨g1, g2, g3⟩ := spl1 (s := c) r [] (by simp)
      have e : TL.spl [c] 0 acc (c :: r) = acc :: TL.spl [c] 0 [] r := TL.spl_hit (by show ([c] == [c]) = true; simp)
      rw [e]
      refine ⟨?_, by simp, fun p hp => ?_⟩
      · cases q : TL.spl [c] 0 [] r with
        | nil => exact absurd q g2
        | cons x y =>
          rw [q] at g1
          show acc ++ ([c] ++ TL.joinL [c] (x :: y)) = _
          rw [g1]
          simp
      · rcases List.mem_cons.mp hp with rfl | hp
        · exact ⟨ha, by simp⟩
        · obtain ⟨h1, h2⟩ := g3 p hp
          exact ⟨h1, by simp at h2 ⊢; omega⟩
    · have e : TL.spl [s] 0 acc (c :: r) = TL.spl [s] 0 (acc ++ [c]) r := TL.spl_miss (by show ([c] == [s]) = false; simp [h])
      obtain ⟨g1, g2, g3⟩ := spl1 (s := s) r (acc ++ [c]) (by simp [ha, Ne.symm h])
      rw [e]
      refine ⟨by rw [g1]; simp, g2, fun p hp => ?_⟩
      obtain ⟨h1, h2⟩ := g3 p hp
      exact ⟨h1, by simp at h2 ⊢; omega⟩
theorem bl_tl : TL.tl (" " : Str) = [32] := by decide +kernel
theorem co_tl : TL.tl (":" : Str) = [58] := by decide +kernel
theorem split_tl (t : Str) : (Txt.split t " ").map TL.tl = TL.spl [32] 0 [] (TL.tl t) := by
  have h := TL.split_spl t " " (by rw [bl_tl]; simp) (TL.kind_ok (by decide +kernel))
  rw [bl_tl] at h
  exact h
theorem split_ne (t : Str) : Txt.split t " " ≠ [] := fun e => by
  have h := split_tl t
  rw [e] at h
  exact (spl1 (s := 32) (TL.tl t) [] (by simp)).2.1 h.symm
theorem split_mem {t x : Str} (h : x ∈ Txt.split t " ") : 32 ∉ TL.tl x ∧ x.length ≤ t.length := by
  have h2 : TL.tl x ∈ TL.spl [32] 0 [] (TL.tl t) := by
    rw [← split_tl]
    exact List.mem_map.mpr ⟨x, h, rfl⟩
  obtain ⟨g1, g2⟩ := (spl1 (s := 32) (TL.tl t) [] (by simp)).2.2 _ h2
  rw [TL.len_tl x, TL.len_tl t]
  exact ⟨g1, by simpa using g2⟩
theorem join_split (t : Str) : Txt.join " " (Txt.split t " ") = t := by
  refine TL.ext_tl ?_
  rw [TL.join_eq, TL.tl_join, bl_tl, split_tl, (spl1 (s := 32) (TL.tl t) [] (by simp)).1]
  rfl
/-! ### a word read -/
def readW (x : Str) : Option Fld := if smallB (Txt.partition x ":").1 && figB (Txt.partition x ":").2.2 then some ((Txt.partition x ":").1, figV (Txt.partition x ":").2.2) else none
theorem smallB_chars {n : Str} (h : smallB n = true) : 1 ≤ n.length ∧ ∀ c ∈ n.cps.toList, c ∈ abc.cps.toList := by
  unfold smallB at h
  obtain ⟨h1, h2⟩ := Bool.and_eq_true_iff.mp h
  have h1 := of_decide_eq_true h1
  exact ⟨by omega, fun c hc => of_decide_eq_true (List.all_eq_true.mp h2 c hc)⟩
theorem abc_no {c : Nat} (h : c ∈ abc.cps.toList) : c ≠ 58 ∧ c ≠ 32 := by
  have h4 : ∀ x ∈ abc.cps.toList, x ≠ 58 ∧ x ≠ 32 := by decide +kernel
  exact h4 c h
theorem smallB_of {n : Str} (h1 : 1 ≤ n.length) (h2 : ∀ c ∈ n.cps.toList, c ∈ abc.cps.toList) : smallB n = true := by
  unfold smallB
  rw [decide_eq_true (show (1 : Int) ≤ n.length by omega), Bool.true_and, List.all_eq_true]
  exact fun c hc => decide_eq_true (h2 c hc)
theorem par1 {s : Nat} : ∀ (l acc : List Nat), (∃ p q, TL.par [s] acc l = some (acc ++ p, q) ∧ l = p ++ s :: q ∧ s ∉ p) ∨ (TL.par [s] acc l = none ∧ s ∉ l)
  | [], acc => .inr ⟨rfl, by simp⟩
  | c :: r, acc => by
    by_cases h : c = s
    · subst h
      exact .inl ⟨[], r, by rw [TL.par_hit (show TL.pre [c] (c :: r) = true from (by show ([c] == [c]) = true; simp))]; simp, rfl, by simp⟩
    · have e : TL.par [s] acc (c :: r) = TL.par [s] (acc ++ [c]) r := TL.par_miss (by show ([c] == [s]) = false; simp [h])
      rw [e]
      rcases par1 (s := s) r (acc ++ [c]) with ⟨p, q, h1, h2, h3⟩ | ⟨h1, h2⟩
      · exact .inl ⟨c :: p, q, by rw [h1]; simp, by rw [h2]; rfl, by simp [h3, Ne.symm h]⟩
      · exact .inr ⟨h1, by simp [h2, Ne.symm h]⟩
theorem part_parts (x : Str) : (∃ p q : List Nat, Txt.partition x ":" = ((⟨p.toArray⟩ : Str), (":" : Str), (⟨q.toArray⟩ : Str)) ∧ TL.tl x = p ++ 58 :: q ∧ 58 ∉ p) ∨ (Txt.partition x ":" = (x, Str.empty, Str.empty) ∧ 58 ∉ TL.tl x) := by
  have hp := TL.partition_par x ":" (by rw [co_tl]; simp)
  rw [co_tl] at hp
  rcases par1 (s := 58) (TL.tl x) [] with ⟨p, q, h1, h2, h3⟩ | ⟨h1, h2⟩
  · rw [h1] at hp
    exact .inl ⟨p, q, hp, h2, h3⟩
  · rw [h1] at hp
    exact .inr ⟨hp, h2⟩
theorem part_le (x : Str) : (Txt.partition x ":").1.length ≤ x.length ∧ (Txt.partition x ":").2.2.length ≤ x.length := by
  rcases part_parts x with ⟨p, q, h1, h2, _⟩ | ⟨h1, _⟩
  · rw [h1, TL.len_tl x, h2]
    show p.toArray.size ≤ _ ∧ q.toArray.size ≤ _
    simp
    omega
  · rw [h1]
    exact ⟨Nat.le_refl _, Nat.zero_le _⟩
/-- what a word is -/
structure IsW (x : Str) (n : Str) (d : Nat) : Prop where
  tl : TL.tl x = TL.tl n ++ [58, 48 + d]
  small : smallB n = true
  fig : d < 10
theorem IsW.no {x n : Str} {d : Nat} (h : IsW x n d) : 58 ∉ TL.tl n ∧ 32 ∉ TL.tl n := ⟨fun z => (abc_no ((smallB_chars h.small).2 _ z)).1 rfl, fun z => (abc_no ((smallB_chars h.small).2 _ z)).2 rfl⟩
theorem IsW.part {x n : Str} {d : Nat} (h : IsW x n d) : Txt.partition x ":" = (n, (":" : Str), (⟨#[48 + d]⟩ : Str)) := by
  have e : x = n ++ ":" ++ ⟨#[48 + d]⟩ := TL.ext_tl (by
    rw [h.tl, TL.tl_append, TL.tl_append, co_tl, List.append_assoc]
    rfl)
  rw [e]
  exact TL.partition_app co_tl h.no.1
theorem IsW.read {x n : Str} {d : Nat} (h : IsW x n d) : readW x = some (n, (d : Int)) := by
  unfold readW
  rw [h.part]
  show (if smallB n && figB ⟨#[48 + d]⟩ then some (n, figV ⟨#[48 + d]⟩) else none) = _
  obtain ⟨g1, g2, _⟩ := figB_digit d h.fig
  rw [h.small, g1, g2] <;> rfl
theorem readW_some {x : Str} {f : Fld} (h : readW x = some f) : ∃ d : Nat, IsW x f.1 d ∧ f.2 = (d : Int) := by
  unfold readW at h
  split at h
  · rename_i hb
    obtain ⟨h1, h2⟩ := Bool.and_eq_true_iff.mp hb
    cases h
    obtain ⟨d, hd, e⟩ := figB_one h2
    refine ⟨d, ⟨?_, h1, hd⟩, by rw [e]; exact (figB_digit d hd).2.1⟩
    rcases part_parts x with ⟨p, q, g1, g2, g3⟩ | ⟨g1, g2⟩
    · rw [g1] at e ⊢
      have e2 : q = [48 + d] := by
        have := congrArg (fun z : Str => z.cps.toList) e
        simpa using this
      rw [g2, e2]
    · rw [g1] at e
      cases e
  · cases h
/-! ### the law's own look at a word -/
theorem cnt_no {p q : List Nat} (h : 58 ∉ p) : cnt 58 (p ++ q) = cnt 58 q := by
  induction p with
  | nil => rfl
  | cons a p ih =>
    rw [List.cons_append, cnt_cons, if_neg (fun e => h (by simp [e])), ih fun z => h (by simp [z])]
    omega
theorem sIx_m2 {n d : Nat} : HT.sIx n d (some (-2)) = n - 2 := by
  show (if (-2 : Int) < 0 then ((-2 : Int) + (n : Int)).toNat else min (-2 : Int).toNat n) = n - 2
  rw [if_pos (by decide)]
  omega
theorem sIx_m1 {n d : Nat} : HT.sIx n d (some (-1)) = n - 1 := by
  show (if (-1 : Int) < 0 then ((-1 : Int) + (n : Int)).toNat else min (-1 : Int).toNat n) = n - 1
  rw [if_pos (by decide)]
  omega
theorem cut_co (x : Str) : TL.tl (cutS x (some (-2)) (some (-1))) = ((TL.tl x).drop (x.length - 2)).take (x.length - 1 - (x.length - 2)) := by
  show (((TL.tl x).drop (HT.sIx x.length 0 (some (-2)))).take (HT.sIx x.length x.length (some (-1)) - HT.sIx x.length 0 (some (-2)))) = _
  rw [sIx_m2, sIx_m1]
theorem cut_le (x : Str) : TL.tl (cutS x none (some (-2))) = (TL.tl x).take (x.length - 2) := by
  show (((TL.tl x).drop (HT.sIx x.length 0 none)).take (HT.sIx x.length x.length (some (-2)) - HT.sIx x.length 0 none)) = _
  rw [sIx_m2]
  rfl
theorem IsW.facts {x n : Str} {d : Nat} (h : IsW x n d) : x.length = n.length + 2 ∧ cutS x none (some (-2)) = n ∧ cutS x (some (-2)) (some (-1)) = ":" ∧ atI x.cps.toList (-1) = some (48 + d) ∧ Txt.count x ":" = 1 := by
  have hl : x.length = n.length + 2 := by
    rw [TL.len_tl, h.tl, List.length_append, ← TL.len_tl]
    rfl
  have hn : n.length = (TL.tl n).length := TL.len_tl n
  refine ⟨hl, TL.ext_tl ?_, TL.ext_tl ?_, ?_, ?_⟩
  · rw [cut_le, hl, h.tl, hn, Nat.add_sub_cancel, List.take_left]
  · rw [cut_co, hl, h.tl, hn, Nat.add_sub_cancel, List.drop_left, co_tl, show (TL.tl n).length + 2 - 1 - (TL.tl n).length = 1 by omega]
    rfl
  · have e : x.cps.toList = TL.tl n ++ [58, 48 + d] := h.tl
    rw [e]
    unfold atI
    have : ixN (TL.tl n ++ [58, 48 + d]).length (-1) = some ((TL.tl n).length + 1) := by
      unfold ixN
      rw [if_neg (by decide), if_pos (by simp; omega)]
      simp
      omega
    rw [this]
    simp
  · have e : (":" : Str) = ⟨#[58]⟩ := by decide +kernel
    rw [e, count_cnt]
    show cnt 58 (TL.tl x) = 1
    rw [h.tl, cnt_no h.no.1, cnt_cons, cnt_cons, cnt_nil, if_pos rfl, if_neg (by have := h.fig; omega)]
    rfl
theorem isW_of {x : Str} {c : Nat} (h1 : cutS x (some (-2)) (some (-1)) = ":") (h2 : atI x.cps.toList (-1) = some c) (h3 : c ∈ figs.cps.toList) (h4 : 2 < x.length) (h5 : ∀ z ∈ (cutS x none (some (-2))).cps.toList, z ∈ abc.cps.toList) : ∃ n d, IsW x n d := by
  have hl : x.length = (TL.tl x).length := TL.len_tl x
  have g1 := congrArg TL.tl h1
  rw [cut_co, co_tl, show x.length - 1 - (x.length - 2) = 1 by omega] at g1
  have g2 : (TL.tl x)[x.length - 1]? = some c := by
    unfold atI at h2
    have : ixN x.cps.toList.length (-1) = some (x.length - 1) := by
      have e : x.cps.toList.length = x.length := hl.symm
      rw [e]
      unfold ixN
      rw [if_neg (by decide), if_pos (by omega)]
      congr 1
      omega
    rw [this] at h2
    exact h2
  have dig : ∀ z ∈ figs.cps.toList, 48 ≤ z ∧ z < 58 := by decide +kernel
  obtain ⟨d1, d2⟩ := dig c h3
  refine ⟨cutS x none (some (-2)), c - 48, ⟨?_, smallB_of ?_ h5, by omega⟩⟩
  · rw [cut_le, show 48 + (c - 48) = c by omega]
    refine (List.take_append_drop (x.length - 2) (TL.tl x)).symm.trans (congrArg _ ?_)
    have hi : x.length - 2 < (TL.tl x).length := by omega
    have hj : x.length - 2 + 1 < (TL.tl x).length := by omega
    rw [List.drop_eq_getElem_cons hi] at g1 ⊢
    have e1 : (TL.tl x)[x.length - 2] = 58 := by simpa using g1
    rw [List.drop_eq_getElem_cons hj, List.drop_eq_nil_of_le (by omega), e1]
    have e2 : (TL.tl x)[x.length - 2 + 1] = c := by
      have q := g2
      rw [show x.length - 1 = x.length - 2 + 1 by omega, List.getElem?_eq_getElem hj] at q
      exact Option.some.inj q
    rw [e2]
  · rw [TL.len_tl, cut_le, List.length_take]
    omega
theorem readW_none {x : Str} (h : ¬ ∃ n d, IsW x n d) : readW x = none := by
  cases e : readW x with
  | none => rfl
  | some f =>
    obtain ⟨d, hw, _⟩ := readW_some e
    exact absurd ⟨f.1, d, hw⟩ h
/-! ### fields written, read again -/
theorem isW_word {f : Fld} (h1 : NameOk f.1) (h2 : SizeOk f.2) : ∃ d : Nat, IsW (wordOf f) f.1 d ∧ f.2 = (d : Int) := by
  have sm : smallB f.1 = true := smallB_of h1.1 fun c hc => abc_mem (h1.2.2 c hc).1 (h1.2.2 c hc).2
  have e : ∃ d : Nat, d < 10 ∧ f.2 = (d : Int) := by
    rcases h2 with e | e | e
    · exact ⟨1, by decide, e⟩
    · exact ⟨2, by decide, e⟩
    · exact ⟨4, by decide, e⟩
  obtain ⟨d, hd, e⟩ := e
  refine ⟨d, ⟨?_, sm, hd⟩, e⟩
  unfold wordOf
  rw [TL.tl_append, TL.tl_append, co_tl, e]
  have := (figB_digit d hd).2.2.2
  show TL.tl f.1 ++ [58] ++ TL.tl (Str.ofString (toString (d : Int))) = _
  rw [show Str.ofString (toString (d : Int)) = ⟨#[48 + d]⟩ from this, List.append_assoc]
  rfl
theorem IsW.no32 {x n : Str} {d : Nat} (h : IsW x n d) : 32 ∉ TL.tl x := fun z => by
  rw [h.tl] at z
  rcases List.mem_append.mp z with z | z
  · exact h.no.2 z
  · have := h.fig
    simp at z
    omega
theorem split_words {fs : List Fld} (h0 : fs ≠ []) (h1 : ∀ f ∈ fs, NameOk f.1) (h2 : ∀ f ∈ fs, SizeOk f.2) : Txt.split (Txt.join " " (fs.map wordOf)) " " = fs.map wordOf ∧ (fs.map wordOf).map readW = fs.map some := by
  refine ⟨TL.split_join bl_tl (by decide +kernel) (fun e => h0 (List.map_eq_nil_iff.mp e)) fun p hp => ?_, ?_⟩
  · obtain ⟨f, hf, rfl⟩ := List.mem_map.mp hp
    obtain ⟨d, hw, _⟩ := isW_word (h1 f hf) (h2 f hf)
    exact hw.no32
  · rw [List.map_map]
    refine List.map_congr_left fun f hf => ?_
    obtain ⟨d, hw, e⟩ := isW_word (h1 f hf) (h2 f hf)
    show readW (wordOf f) = some f
    rw [hw.read, ← e]
theorem word_read {x : Str} {f : Fld} (h : readW x = some f) : wordOf f = x := by
  obtain ⟨d, hw, e⟩ := readW_some h
  refine TL.ext_tl ?_
  unfold wordOf
  rw [TL.tl_append, TL.tl_append, co_tl, hw.tl, e]
  have := (figB_digit d hw.fig).2.2.2
  show TL.tl f.1 ++ [58] ++ TL.tl (Str.ofString (toString (d : Int))) = _
  rw [show Str.ofString (toString (d : Int)) = ⟨#[48 + d]⟩ from this, List.append_assoc]
  rfl
theorem words_read {t : Str} {fs : List Fld} (h : (Txt.split t " ").map readW = fs.map some) : Txt.join " " (fs.map wordOf) = t := by
  have e : fs.map wordOf = Txt.split t " " := by
    refine List.ext_getElem? fun i => ?_
    have h1 := congrArg (fun l => l[i]?) h
    simp only [List.getElem?_map] at h1 ⊢
    cases e1 : (Txt.split t " ")[i]? with
    | none =>
      cases e2 : fs[i]? with
      | none => rfl
      | some f => rw [e1, e2] at h1; cases h1
    | some x =>
      cases e2 : fs[i]? with
      | none => rw [e1, e2] at h1; cases h1
      | some f =>
        rw [e1, e2] at h1
        show some (wordOf f) = some x
        rw [word_read (Option.some.inj h1)]
  rw [e, join_split]
/-! ### how long joined words are -/
def jlen (ps : List Str) : Nat := (ps.map (·.length)).sum + ps.length
theorem jlen_app {a b : List Str} : jlen (a ++ b) = jlen a + jlen b := by
  unfold jlen
  rw [List.map_append, List.sum_append, List.length_append]
  omega
theorem jlen_cons {a : Str} {b : List Str} : jlen (a :: b) = a.length + 1 + jlen b := by
  unfold jlen
  simp only [List.map_cons, List.sum_cons, List.length_cons]
  omega
theorem jlen_take (n : Nat) (a : List Str) : jlen (a.take n) ≤ jlen a := by
  have h := jlen_app (a := a.take n) (b := a.drop n)
  rw [List.take_append_drop] at h
  omega
theorem jlen_drop (n : Nat) (a : List Str) : jlen (a.drop n) ≤ jlen a := by
  have h := jlen_app (a := a.take n) (b := a.drop n)
  rw [List.take_append_drop] at h
  omega
theorem join_len : ∀ (ps : List Str), (Str.join " " ps).length ≤ jlen ps ∧ (ps ≠ [] → (Str.join " " ps).length + 1 = jlen ps)
  | [] => ⟨Nat.zero_le _, fun h => absurd rfl h⟩
  | [x] => by
    have : jlen [x] = x.length + 1 := by simp [jlen]
    rw [this]
    exact ⟨Nat.le_succ _, fun _ => rfl⟩
  | x :: y :: r => by
    obtain ⟨h1, h2⟩ := join_len (y :: r)
    have h2 := h2 (by simp)
    have e : (Str.join " " (x :: y :: r)).length = x.length + 1 + (Str.join " " (y :: r)).length := by
      show (x ++ (" " : Str) ++ Str.join " " (y :: r)).length = _
      rw [slen_app, slen_app]
      rfl
    rw [e, jlen_cons]
    exact ⟨by omega, fun _ => by omega⟩
theorem jlen_split (t : Str) : jlen (Txt.split t " ") = t.length + 1 := by
  have h := (join_len (Txt.split t " ")).2 (split_ne t)
  rw [← TL.join_eq, join_split] at h
  exact h.symm
/-- some words of a list -/
theorem cut_words {l : List Str} {lo hi : Option Int} : ∃ l2 : List Str, Ub.cutD (l.map Dt.str) lo hi = l2.map Dt.str ∧ jlen l2 ≤ jlen l := by
  unfold Ub.cutD
  rw [← List.map_drop, ← List.map_take]
  exact ⟨_, rfl, Nat.le_trans (jlen_take _ _) (jlen_drop _ _)⟩
end Rw

namespace Rw
open PySem PySem.Spec PyProof.Rows L2 Ub
section
variable {P : Program} {w : World} {K : PySem.W.Frag} {mg : Str → Option Value} {base : Heap} {T : Tb}
/-! ### which field cannot be beside those ahead of it -/
def badAt (fs : List Fld) (i : Nat) : Bool := match fs[i]? with
  | none => false
  | some g => decide ((6 : Int) ≤ (i : Int)) || (!nameB g.1 || (decide (∃ z ∈ fs.take i, z.1 = g.1) || !sizeB g.2))
theorem badAt_ok {fs : List Fld} (h : FieldsOk fs) (i : Nat) : badAt fs i = false := by
  unfold badAt
  cases e : fs[i]? with
  | none => rfl
  | some g =>
    have hi : i < fs.length := (List.getElem?_eq_some_iff.mp e).1
    have hm := List.mem_of_getElem? e
    have h6 := h.most
    have nd : decide (∃ z ∈ fs.take i, z.1 = g.1) = false := decide_eq_false fun ⟨z, hz, ez⟩ => by
      obtain ⟨j, hj, ej⟩ := List.getElem_of_mem hz
      have hj2 : j < i := by simp at hj; omega
      have hjf : j < fs.length := by omega
      have ej2 : fs[j] = z := by rw [← ej, List.getElem_take]
      have eg : fs[i] = g := (List.getElem?_eq_some_iff.mp e).2
      have z := (List.getElem_inj (h₀ := by simpa using hi) (h₁ := by simpa using hjf) h.nd).mp (by simp only [List.getElem_map]; rw [ej2, eg, ez])
      omega
    show (decide ((6 : Int) ≤ (i : Int)) || (!nameB g.1 || (decide (∃ z ∈ fs.take i, z.1 = g.1) || !sizeB g.2))) = false
    rw [nd, nameB_ok (h.name _ hm), sizeB_ok (h.size _ hm), decide_eq_false (show ¬ ((6 : Int) ≤ (i : Int)) by omega)]
    rfl
def SCkX (ec : Nat → Addr) : SpX := fun ds Pr Px => ∃ fs : List Fld, ds = [fldsD fs] ∧ (∀ g ∈ fs, g.1.length ≤ 1000) ∧ fs.length ≤ 100000 ∧ (fs = [] → Px ⟨ec 0, [("number", .int 0)]⟩) ∧ (∀ i : Nat, badAt fs i = true → (∀ j, j < i → badAt fs j = false) → Px ⟨ec 0, [("number", .int i)]⟩) ∧
  (fs ≠ [] → (∀ i, badAt fs i = false) → Pr (.dat .non))
theorem k_check_fieldsX_ {ec : Nat → Addr} (D : Df K mg "check_fields" s_check_fields P_check_fields) (bl : Bl mg) (cn : Cn K mg) (ini0 : IniC P w K mg base "BadFields" (ec 0) ["self", "number"] ["number"]) (k_is_name : Kp P w K mg base CX0 3 "is_name" P_is_name (spName T)) (k_is_size : Kp P w K mg base CX0 2 "is_size" P_is_size spSize) :
    Kp P w K mg base (L2N.CX P w) 4 "check_fields" P_check_fields (spX K T (SCkX ec)) := by
  obtain ⟨tM, c_MOST_FIELDS⟩ := cn.MOST_FIELDS
  refine D.okN sc_check_fields (fun vs H Q E h => ?_) (fun f cdv A' outer s H vs Q E hr h => ?_)
  · obtain ⟨_, _, _, _, _, _, _, hz, ⟨_, rfl, _⟩, _⟩ := h
    exact hz.len
  · obtain ⟨ds, A, B, Pr, Px, o0, eAB, hz, ⟨fs, rfl, hlen, hmost, hE, hB, hG⟩, q, qx⟩ := h
    obtain ⟨a, rfl, hF0⟩ : ∃ a, vs = [.ref a] ∧ FieldsAt K A a fs := by
      cases hz with
      | cons z1 hz =>
        cases hz
        obtain ⟨a, rfl, k1⟩ := dz_fields z1
        exact ⟨a, rfl, k1⟩
    have hF := hF0.up eAB
    obtain ⟨ts, hA, tl, hT⟩ := hF
    have out : ∀ (n : Int) (H1 : Hp), Ok T B H1 → Px ⟨ec 0, [("number", .int n)]⟩ → ∀ d, H1 d = none → E (.ref (ec 0)) (some d) (upd H1 d (.xd (List.zip [("number" : Str)] [V.int n]).reverse)) := fun n H1 o1 hp d nd =>
      qx _ _ _ A _ _ _ _ hp (rep_nil (o1.newM nd) eAB fun _ z => nomatch z) ⟨rfl, .inr ⟨(fun z => nomatch z), d, rfl, o1.fresh nd, (o1.back eAB).fresh nd, (fun z => nomatch z), upd_same⟩⟩
    refine ⟨_, (pss_cons (ps_if (pt_not (pt_tru (pv 0)))
        (pss_one (ps_rais (E := E) ini0 (hr.mono (by decide)) rfl (L2N.takes_of rfl rfl rfl rfl) (fun _ _ _ _ h => h) (by decide) rfl (pa_cons pe_int pa_nil)))
        pss_nil)
      (pss_cons (ps_set (i := 1) sc_check_fields.nd rfl (by first | exact Or.inl rfl | exact Or.inr rfl) (pe_callTy0 (r := rSet0K P w) cr_set0K (by rfl) bl.set (by decide +kernel)))
      (pss_one (ps_for (L2.passes_of rfl) rfl (pi_enum (by rfl) bl.enumerate (pa_cons (pv 0) pa_nil)) (pg_tup rfl (pgs_cons (pg_name (i := 2) sc_check_fields.nd rfl (by first | exact Or.inl rfl | exact Or.inr rfl)) (pgs_cons (pg_tup rfl (pgs_cons (pg_name (i := 3) sc_check_fields.nd rfl (by first | exact Or.inl rfl | exact Or.inr rfl)) (pgs_cons (pg_name (i := 4) sc_check_fields.nd rfl (by first | exact Or.inl rfl | exact Or.inr rfl)) pgs_nil))) pgs_nil)))
        (pss_cons (ps_if (PW.pt (pw_or (pt_cmpR  op_ge (pv 2) (pe_glob (v := .int 6) rfl c_MOST_FIELDS ⟨_, rfl⟩) (nomark _)) (pw_or (pt_not (pt_val (pe_callA k_is_name (hr.mono (by decide)) pass0 (pa_cons (pv 3) pa_nil)))) (pw_or (pt_cmpR (r := rSInK P w false) or_sinK (pv 3) (pv 1) (by rfl)) (pw_or1 (pt_not (pt_val (pe_callA k_is_size (hr.mono (by decide)) pass0 (pa_cons (pv 4) pa_nil)))))))))
          (pss_one (ps_rais (E := E) ini0 (hr.mono (by decide)) rfl (L2N.takes_of rfl rfl rfl rfl) (fun _ _ _ _ h => h) (by decide) rfl (pa_cons (pv 2) pa_nil)))
          pss_nil)
        (pss_one (ps_expr (pe_saddK (pv 1) (pa_cons (pv 3) pa_nil))))))))), ?_⟩
    refine ⟨_, rfl, _, .inl ⟨_, o0.sl hA, rfl⟩, ?_⟩
    by_cases hne : fs = []
    · subst hne
      have : ts = [] := List.eq_nil_of_length_eq_zero tl
      subst this
      exact iteT ⟨rfl, fun w hw => by cases List.mem_singleton.mp hw; exact (by decide : (0 : Int).natAbs.log2 < 1920), out 0 H o0 (hE rfl)⟩
    have hne2 : (ts.map V.ref).isEmpty = false := by
      have := List.length_pos_iff.mpr hne
      cases ts with
      | nil => simp at tl; omega
      | cons _ _ => rfl
    rw [hne2]
    refine iteF ⟨rfl, fun p np => ?_⟩
    have nB := o0.fresh np
    refine ⟨_, rfl, a, _, rfl, (o0.newM np).sl hA, ?_⟩
    refine for_it (walk_enum (K := K) (a := a) (xs := ts.map V.ref)) (fun i σ H' => ∃ (y2 y3 y4 : Option V) (S : Key → Bool) (n : Nat), σ = [some (.ref a), some (.ref p), y2, y3, y4] ∧ Ok T B H' ∧ H' p = some (SetK P w p S n) ∧ n ≤ i ∧ (∀ k, S k = true ↔ ∃ g ∈ fs.take i, k = Sum.inr g.1) ∧ ∀ j, j < i → badAt fs j = false)
      ⟨none, none, none, _, 0, rfl, o0.newM np, upd_same, Nat.le_refl 0, fun k => ⟨fun hk => (by cases hk), fun ⟨g, hg, _⟩ => (by simp at hg)⟩, fun j hj => absurd hj (Nat.not_lt_zero j)⟩ (fun i σ H' _ hp => ?_) (fun i x σ H1 H2 hi hp hy => ?_) (fun σ H' hp => ?_)
    · obtain ⟨_, _, _, _, _, _, o1, _⟩ := hp
      exact o1.sl hA
    · obtain ⟨y2, y3, y4, S, n, rfl, o1, hS, hn, hk, hgood⟩ := hp
      obtain ⟨t, x1, x2, rfl, nt, rfl, e1, e2⟩ := hy
      cases e1
      obtain ⟨ti, hti, rfl⟩ := map_at e2
      have hif : i < fs.length := by
        have := (List.getElem?_eq_some_iff.mp hti).1
        omega
      have hg : fs[i]? = some fs[i] := List.getElem?_eq_getElem hif
      have hTi : SqT K B ti [.str fs[i].1, .int fs[i].2] := hT i ti _ hti hg
      have o2 := o1.newM nt (o := .tup [.int (i : Nat), .ref ti])
      have pt : p ≠ t := ne_of_none hS nt
      have hS2 := (upd_ne (o := .tup [.int (i : Nat), .ref ti]) pt).trans hS
      have hmem := List.getElem_mem hif
      have bdef : badAt fs i = (decide ((6 : Int) ≤ (i : Int)) || (!nameB fs[i].1 || (decide (∃ z ∈ fs.take i, z.1 = fs[i].1) || !sizeB fs[i].2))) := by
        unfold badAt
        rw [hg]
      refine ⟨t, _, rfl, SqT.of upd_same, rfl, _, _, rfl, _, _, rfl, ⟨ti, _, rfl, o2.st hTi, rfl, _, _, rfl, _, _, rfl, rfl, rfl, ?_⟩⟩
      have i19 : (Int.natAbs (i : Int)).log2 < 1920 := log_nat (by omega)
      have bad : badAt fs i = true → ∀ H3, Ok T B H3 → tRais (ec 0) ["number"] E (tCons (tVar 2) tNil) { nx := fun _ H' => Q .non H', rt := Q } [some (.ref a), some (.ref p), some (.int (i : Nat)), some (.str fs[i].1), some (.int fs[i].2)] H3 := fun hb H3 o3 =>
        ⟨_, rfl, rfl, fun w hw => by
          cases List.mem_singleton.mp hw
          exact i19, out i H3 o3 (hB i hb hgood)⟩
      -- number >= MOST_FIELDS
      refine ⟨_, rfl, _, _, rfl, rfl, _, rfl, ?_⟩
      by_cases b1 : (6 : Int) ≤ (i : Int)
      · rw [decide_eq_true b1]
        exact iteT (bad (by rw [bdef, decide_eq_true b1]; rfl) _ o2)
      rw [decide_eq_false b1] at bdef ⊢
      refine iteF ?_
      refine ⟨_, rfl, fs[i].1, upd B p (SetK P w p S n), rfl, o2.add hS2 nt_set, hlen _ hmem, fun H3 o3 => ?_⟩
      have hS3 : H3 p = some (SetK P w p S n) := o3.ex _ _ upd_same
      have o4 : Ok T B H3 := o3.back (upd_up nB)
      cases b2 : nameB fs[i].1 with
      | false =>
        exact ⟨_, rfl, iteT (bad (by rw [bdef, b2]; rfl) _ o4)⟩
      | true =>
      rw [b2] at bdef
      refine ⟨_, rfl, iteF ?_⟩
      have hSe : S (Sum.inr fs[i].1) = decide (∃ z ∈ fs.take i, z.1 = fs[i].1) := by
        rw [Bool.eq_iff_iff, hk, decide_eq_true_iff]
        exact ⟨fun ⟨g, h1, h2⟩ => ⟨g, h1, (Sum.inr.inj h2).symm⟩, fun ⟨g, h1, h2⟩ => ⟨g, h1, by rw [h2]⟩⟩
      refine ⟨_, rfl, _, rfl, Sum.inr fs[i].1, p, S, n, rfl, rfl, hS3, _, rfl, ?_⟩
      cases b3 : decide (∃ z ∈ fs.take i, z.1 = fs[i].1) with
      | true =>
        rw [hSe, b3]
        exact iteT (bad (by rw [bdef, b3]; rfl) _ o4)
      | false =>
      rw [b3] at bdef
      rw [hSe, b3]
      refine iteF ⟨_, rfl, fs[i].2, rfl, ?_⟩
      cases b4 : sizeB fs[i].2 with
      | false =>
        exact ⟨_, rfl, iteT (bad (by rw [bdef, b4]; rfl) _ o4)⟩
      | true =>
      rw [b4] at bdef
      refine ⟨_, rfl, iteF ?_⟩
      refine ⟨_, rfl, ⟨p, S, n, rfl, hS3⟩, _, rfl, p, Sum.inr fs[i].1, S, n, rfl, rfl, hS3, Nat.lt_of_le_of_lt (show n + 1 ≤ 7 by omega) (by decide), ?_⟩
      refine ⟨_, _, _, _, n + 1, rfl, o4.mutS nB hS3, by rw [upd_same, hSe, b3] <;> rfl, by omega, fun k => ⟨fun hk2 => ?_, fun ⟨g, hg1, hg2⟩ => ?_⟩, fun j hj => ?_⟩
      · rw [List.take_add_one, hg]
        rcases Bool.or_eq_true_iff.mp hk2 with z | z
        · obtain ⟨g, h1, h2⟩ := (hk k).mp z
          exact ⟨g, List.mem_append.mpr (.inl h1), h2⟩
        · exact ⟨fs[i], List.mem_append.mpr (.inr (by simp)), of_decide_eq_true z⟩
      · rw [List.take_add_one, hg] at hg1
        rcases List.mem_append.mp hg1 with z | z
        · exact Bool.or_eq_true_iff.mpr (.inl ((hk k).mpr ⟨g, z, hg2⟩))
        · have : g = fs[i] := by simpa using z
          subst this
          exact Bool.or_eq_true_iff.mpr (.inr (decide_eq_true hg2))
      · by_cases e : j = i
        · subst e
          exact bdef
        · exact hgood j (by omega)
    · obtain ⟨_, _, _, _, _, _, o1, hS, hn, hk, hgood⟩ := hp
      exact q _ _ A _ _ _ _ (hG hne fun i => by
        by_cases hi : i < (ts.map V.ref).length
        · exact hgood i hi
        · unfold badAt
          rw [List.getElem?_eq_none (by simp at hi; omega)]) (rep_nil o1 eAB (fun _ z => nomatch z)) .non
end
end Rw

namespace Rw
open PySem PySem.Spec PyProof.Rows L2 Ub
section
variable {P : Program} {w : World} {K : PySem.W.Frag} {mg : Str → Option Value} {base : Heap} {T : Tb}
/-! ### a hand that cannot be -/
def anyHand (o : Str) (a wd : Int) (y : Str) : Dt := .tup [.str o, .int a, .int wd, .str y]
/-- the first word of it that cannot be -/
def handBad (o : Str) (a wd : Int) (y : Str) : Option Str :=
  if inV (.str o) [.str "great", .str "small"] = false then some "order" else if sizeB a = false then some "align" else if sizeB wd = false then some "wide" else if inV (.str y) [.str "up", .str "down"] = false then some "way" else none
def SCkHX (ec : Nat → Addr) : SpX := fun ds Pr Px => ∃ (o : Str) (a wd : Int) (y : Str), ds = [anyHand o a wd y] ∧ (∀ why, handBad o a wd y = some why → Px ⟨ec 1, [("why", .str why)]⟩) ∧ (handBad o a wd y = none → Pr (.dat .non))
theorem k_check_handX_ {ec : Nat → Addr} (D : Df K mg "check_hand" s_check_hand P_check_hand) (bl : Bl mg) (cn : CnH K mg) (ini1 : IniC P w K mg base "BadHand" (ec 1) ["self", "why"] ["why"]) (k_is_size : Kp P w K mg base CX0 2 "is_size" P_is_size spSize) : Kp P w K mg base (L2N.CX P w) 3 "check_hand" P_check_hand (spX K T (SCkHX ec)) := by
  obtain ⟨a_ORDERS, c_ORDERS, qO⟩ := cn.ORDERS
  obtain ⟨a_WAYS, c_WAYS, qW⟩ := cn.WAYS
  refine D.okN sc_check_hand (fun vs H Q E h => ?_) (fun f cdv A' outer s H vs Q E hr h => ?_)
  · obtain ⟨_, _, _, _, _, _, _, hz, ⟨_, _, _, _, rfl, _⟩, _⟩ := h
    exact hz.len
  · obtain ⟨ds, A, B, Pr, Px, o0, eAB, hz, ⟨o, a, wd, y, rfl, hB, hG⟩, q, qx⟩ := h
    obtain ⟨t, rfl, hT⟩ : ∃ t, vs = [.ref t] ∧ SqT K A t [.str o, .int a, .int wd, .str y] := by
      cases hz with
      | cons z1 hz =>
        cases hz
        cases z1 with
        | tup h1 h2 =>
          cases h2 with
          | cons a b =>
            cases a
            cases b with
            | cons a b =>
              cases a
              cases b with
              | cons a b =>
                cases a
                cases b with
                | cons a b =>
                  cases a
                  cases b
                  exact ⟨_, rfl, h1⟩
    have out : ∀ (n : Str) (H1 : Hp), Ok T B H1 → Px ⟨ec 1, [("why", .str n)]⟩ → ∀ d, H1 d = none → E (.ref (ec 1)) (some d) (upd H1 d (.xd (List.zip [("why" : Str)] [V.str n]).reverse)) := fun n H1 o1 hp d nd =>
      qx _ _ _ A _ _ _ _ hp (rep_nil (o1.newM nd) eAB fun _ z => nomatch z) ⟨rfl, .inr ⟨(fun z => nomatch z), d, rfl, o1.fresh nd, (o1.back eAB).fresh nd, (fun z => nomatch z), upd_same⟩⟩
    refine ⟨_, (pss_cons (ps_asg (pv 0) (pg_tup rfl (pgs_cons (pg_name (i := 1) sc_check_hand.nd rfl (by first | exact Or.inl rfl | exact Or.inr rfl)) (pgs_cons (pg_name (i := 2) sc_check_hand.nd rfl (by first | exact Or.inl rfl | exact Or.inr rfl)) (pgs_cons (pg_name (i := 3) sc_check_hand.nd rfl (by first | exact Or.inl rfl | exact Or.inr rfl)) (pgs_cons (pg_name (i := 4) sc_check_hand.nd rfl (by first | exact Or.inl rfl | exact Or.inr rfl)) pgs_nil))))))
      (pss_cons (ps_if (pt_cmpR (r := rIn K true) op_notIn_seq (pv 1) (pe_glob (v := .ref a_ORDERS) rfl c_ORDERS rfl) (by rfl))
        (pss_one (ps_rais (E := E) ini1 (hr.mono (by decide)) rfl (L2N.takes_of rfl rfl rfl rfl) (fun _ _ _ _ h => h) (by decide) rfl (pa_cons pe_str pa_nil)))
        pss_nil)
      (pss_cons (ps_if (pt_not (pt_val (pe_callA k_is_size (hr.mono (by decide)) pass0 (pa_cons (pv 2) pa_nil))))
        (pss_one (ps_rais (E := E) ini1 (hr.mono (by decide)) rfl (L2N.takes_of rfl rfl rfl rfl) (fun _ _ _ _ h => h) (by decide) rfl (pa_cons pe_str pa_nil)))
        pss_nil)
      (pss_cons (ps_if (pt_not (pt_val (pe_callA k_is_size (hr.mono (by decide)) pass0 (pa_cons (pv 3) pa_nil))))
        (pss_one (ps_rais (E := E) ini1 (hr.mono (by decide)) rfl (L2N.takes_of rfl rfl rfl rfl) (fun _ _ _ _ h => h) (by decide) rfl (pa_cons pe_str pa_nil)))
        pss_nil)
      (pss_one (ps_if (pt_cmpR (r := rIn K true) op_notIn_seq (pv 4) (pe_glob (v := .ref a_WAYS) rfl c_WAYS rfl) (by rfl))
        (pss_one (ps_rais (E := E) ini1 (hr.mono (by decide)) rfl (L2N.takes_of rfl rfl rfl rfl) (fun _ _ _ _ h => h) (by decide) rfl (pa_cons pe_str pa_nil)))
        pss_nil)))))), ?_⟩
    refine ⟨_, rfl, t, _, rfl, o0.st (Evl.ex_t eAB hT), rfl, _, _, rfl, _, _, rfl, _, _, rfl, _, _, rfl, rfl, ?_⟩
    have go : ∀ (why : Str) (D : Ends) (σ : L2.St), why.length ≤ 10 → handBad o a wd y = some why → tRais (ec 1) ["why"] E (tCons (tC (.str why)) tNil) D σ H := fun why D σ hl hb =>
      ⟨rfl, fun w hw => by cases List.mem_singleton.mp hw; exact Nat.le_trans hl (by decide), out why H o0 (hB why hb)⟩
    unfold handBad at go hG
    refine ⟨_, rfl, a_ORDERS, _, rfl, .inr (qO H), rfl, rfl, _, rfl, ?_⟩
    rw [if_pos rfl]
    cases b1 : inV (.str o) [.str "great", .str "small"] with
    | false => exact iteT (go "order" _ _ (by decide +kernel) (by rw [if_pos b1]))
    | true =>
    rw [if_neg (by rw [b1]; decide)] at go hG
    refine iteF ⟨_, rfl, a, rfl, ?_⟩
    cases b2 : sizeB a with
    | false => exact ⟨_, rfl, iteT (go "align" _ _ (by decide +kernel) (by rw [if_pos b2]))⟩
    | true =>
    rw [if_neg (by rw [b2]; decide)] at go hG
    refine ⟨_, rfl, iteF ⟨_, rfl, wd, rfl, ?_⟩⟩
    cases b3 : sizeB wd with
    | false => exact ⟨_, rfl, iteT (go "wide" _ _ (by decide +kernel) (by rw [if_pos b3]))⟩
    | true =>
    rw [if_neg (by rw [b3]; decide)] at go hG
    refine ⟨_, rfl, iteF ⟨_, rfl, a_WAYS, _, rfl, .inr (qW H), rfl, rfl, _, rfl, ?_⟩⟩
    rw [if_pos rfl]
    cases b4 : inV (.str y) [.str "up", .str "down"] with
    | false => exact iteT (go "way" _ _ (by decide +kernel) (by rw [if_pos b4]))
    | true =>
    rw [if_neg (by rw [b4]; decide)] at hG
    exact iteF (q _ _ A _ _ _ _ (hG rfl) (rep_nil o0 eAB (fun _ z => nomatch z)) .non)
end
end Rw

-- RAISES
namespace Rw
open PySem PySem.Spec PyProof.Rows L2 Ub
section
variable {P : Program} {w : World} {K : PySem.W.Frag} {mg : Str → Option Value} {base : Heap} {T : Tb}
/-! ### laid, spread -/
def spLaid (T : Tb) (K : PySem.W.Frag) : Sp := fun vs H Q _ => ∃ (a t : Addr) (fs : List Fld) (h : Hand) (B : Hp), vs = [.ref a, .ref t] ∧ Ok T B H ∧ FieldsAt K B a fs ∧ FieldsOk fs ∧ HandAt K B t h ∧
  ∀ (p l : Addr) (H' : Hp), B p = none → B l = none → l ≠ p → Ok T B H' → H' p = some (.tup [.ref l, .int (placed h.align fs (List.replicate fs.length 0)).2]) → H' l = some (.lst ((placed h.align fs (List.replicate fs.length 0)).1.map V.int)) → Q (.ref p) H'
theorem k_laid_ (D : Df K mg "laid" s_laid P_laid) (bl : Bl mg) (k_check_fields : Kp P w K mg base CX0 4 "check_fields" P_check_fields (spCkF T K)) (k_check_hand : Kp P w K mg base CX0 3 "check_hand" P_check_hand (spCkH T K)) (k_placed : Kp P w K mg base CX0 2 "_placed" P_placed (spPlaced T K)) :
    Kp P w K mg base CX0 5 "laid" P_laid (spLaid T K) := by
  refine D.ok sc_laid (fun vs H Q E h => ?_) (fun f cdv A outer s H vs Q E hr h => ?_)
  · obtain ⟨_, _, _, _, _, rfl, _⟩ := h
    rfl
  · obtain ⟨a, t, fs, h, B, rfl, o0, hF, hO, hH, q⟩ := h
    refine ⟨_, (pss_cons (ps_expr (pe_callA k_check_fields (hr.mono (by decide)) pass0 (pa_cons (pv 0) pa_nil)))
      (pss_cons (ps_expr (pe_callA k_check_hand (hr.mono (by decide)) pass0 (pa_cons (pv 1) pa_nil)))
      (pss_one (ps_ret (pe_callA k_placed (hr.mono (by decide)) pass0 (pa_cons (pv 0) (pa_cons (pv 1) (pa_cons (pe_op op_rep (pe_lst (pa_cons pe_int pa_nil)) (pe_callB (r := Evl.rLenS K) cr_lenSq (by rfl) bl.len PySem.boot_len (pa_cons (pv 0) pa_nil))) pa_nil)))))))), ?_⟩
    refine ⟨_, rfl, a, fs, B, rfl, o0, hF, hO, fun H1 o1 => ?_⟩
    refine ⟨_, rfl, t, h, B, rfl, o1, hH, ?_⟩
    obtain ⟨ts, hA, tl, hT⟩ := id hF
    refine ⟨_, rfl, _, rfl, by show 1 ≤ sizeLine; decide, fun z nz => ?_⟩
    have o2 := o1.newM nz (o := .lst [.int 0])
    have hlen : (ts.map V.ref).length = fs.length := by rw [List.length_map, tl]
    refine ⟨_, rfl, a, _, rfl, .inl (o2.sl hA), z, _, _, rfl, rfl, upd_same, by omega, by have := hO.most; omega, by simp; exact Nat.le_trans (show ts.length ≤ 6 by have := hO.most; omega) (by decide), fun y ny => ?_⟩
    have o3 := o2.newM ny (o := .lst (List.replicate (((ts.map V.ref).length : Nat) : Int).toNat [V.int 0]).flatten)
    have nyB := o2.fresh ny
    have egs : (List.replicate (((ts.map V.ref).length : Nat) : Int).toNat [V.int 0]).flatten = (List.replicate fs.length (0 : Int)).map V.int := by
      rw [hlen]
      simp
    have up := Ub.upd_up (o := .lst ((List.replicate fs.length (0 : Int)).map V.int)) nyB
    refine ⟨a, t, y, fs, h, List.replicate fs.length 0, upd B y (.lst ((List.replicate fs.length (0 : Int)).map V.int)), rfl, o3.addL (by rw [upd_same, egs]), hF.up up, hO.most, hO.size, hH.up up, SqL.of upd_same, by simp, fun p l H' np nl lp o4 hp hl => ?_⟩
    have back : ∀ {b : Addr}, upd B y (.lst ((List.replicate fs.length (0 : Int)).map V.int)) b = none → B b = none := fun {b} e => by
      by_cases hb : b = y
      · rw [hb, upd_same] at e
        cases e
      · rw [upd_ne hb] at e
        exact e
    exact q p l H' (back np) (back nl) lp (o4.back up) hp hl
end
end Rw

namespace Rw
open PySem PySem.Spec PyProof.Rows L2 Ub
section
/-- where a hand lays fields -/
def lay (h : Hand) (fs : List Fld) : List Int × Int := placed h.align fs (List.replicate fs.length 0)
/-! ### figures: the mathematics -/
def lim (sz : Int) : Int := if sz = 1 then 10 else if sz = 2 then 100 else 10000
/-- the last figure first -/
def dig (n : Int) (k : Nat) : List Int := (List.range k).map fun i => n / 10 ^ i % 10
def cellsOf (n sz : Int) (o : Str) : List Int := if o = "great" then (dig n sz.toNat).reverse else dig n sz.toNat
def numF (cs : List Int) : Int := cs.foldl (fun a c => a * 10 + c) 0
def numIn (cs : List Int) (o : Str) : Int := numF (if o = "great" then cs else cs.reverse)
theorem dig_len {n : Int} {k : Nat} : (dig n k).length = k := by simp [dig]
theorem cellsOf_len {n sz : Int} {o : Str} : (cellsOf n sz o).length = sz.toNat := by
  unfold cellsOf
  split <;> simp [dig_len]
theorem lim_pos {sz : Int} : 0 < lim sz := by
  unfold lim
  split
  · decide
  · split <;> decide
/-! ### where fields lie -/
theorem lay_all {al : Int} (hal : SizeOk al) : ∀ (n : Nat) (l : List (Fld × Int)), l.length = n → (∀ x ∈ l, SizeOk x.1.2 ∧ 0 ≤ x.2 ∧ x.2 ≤ 9) →
    (layAll al l).2.2.length = l.length ∧ (0 ≤ (layAll al l).1 ∧ (layAll al l).1 ≤ 17 * n) ∧ SizeOk (layAll al l).2.1 ∧ (∀ (i : Nat) p x, (layAll al l).2.2[i]? = some p → l[i]? = some x → 0 ≤ p ∧ p + x.1.2 ≤ (layAll al l).1) ∧
      ∀ (i j : Nat) p q x, i < j → (layAll al l).2.2[i]? = some p → (layAll al l).2.2[j]? = some q → l[i]? = some x → p + x.1.2 ≤ q
  | 0, [], _, _ => ⟨rfl, ⟨Int.le_refl _, Int.le_refl _⟩, .inl rfl, fun i p x h => by simp [layAll] at h, fun i j p q x _ h => by simp [layAll] at h⟩
  | n + 1, l, hl, hs => by
    obtain ⟨L, b, rfl⟩ : ∃ L b, l = L ++ [b] := by
      rcases List.eq_nil_or_concat l with rfl | ⟨L, b, h⟩
      · cases hl
      · exact ⟨L, b, by simpa using h⟩
    have hL : L.length = n := by simpa using hl
    obtain ⟨h1, ⟨h2, h2'⟩, h3, h4, h5⟩ := lay_all hal n L hL fun x hx => hs x (List.mem_append_left _ hx)
    obtain ⟨hb1, hb2, hb3⟩ := hs b (by simp)
    rw [layAll_snoc]
    generalize layAll al L = st at *
    obtain ⟨here, gr, fd⟩ := st
    dsimp only at *
    have so : SizeOk (stp al b.1.2) := stp_ok hal hb1
    obtain ⟨u1, u2, u3⟩ := upTo_ge (x := here + b.2) so
    have sp := hb1.pos
    refine ⟨by simp [layStep, h1], ?_, ?_, fun i p x e1 e2 => ?_, fun i j p q x hij e1 e2 e3 => ?_⟩
    · show 0 ≤ upTo (here + b.2) (stp al b.1.2) + b.1.2 ∧ upTo (here + b.2) (stp al b.1.2) + b.1.2 ≤ 17 * ((n + 1 : Nat) : Int)
      have s4 : stp al b.1.2 ≤ 4 := by rcases so with e | e | e <;> omega
      have b4 : b.1.2 ≤ 4 := by rcases hb1 with e | e | e <;> omega
      omega
    · show SizeOk (if stp al b.1.2 > gr then stp al b.1.2 else gr)
      split
      · exact so
      · exact h3
    · have e1 : (fd ++ [upTo (here + b.2) (stp al b.1.2)])[i]? = some p := e1
      show 0 ≤ p ∧ p + x.1.2 ≤ upTo (here + b.2) (stp al b.1.2) + b.1.2
      by_cases hi : i < L.length
      · rw [List.getElem?_append_left (by omega)] at e1 e2
        obtain ⟨g1, g2⟩ := h4 i p x e1 e2
        omega
      · have hi2 : i = L.length := by
          have := (List.getElem?_eq_some_iff.mp e2).1
          simp at this
          omega
        subst hi2
        rw [List.getElem?_append_right (by omega)] at e1 e2
        simp [h1] at e1
        simp at e2
        subst e1 e2
        omega
    · have e1 : (fd ++ [upTo (here + b.2) (stp al b.1.2)])[i]? = some p := e1
      have e2 : (fd ++ [upTo (here + b.2) (stp al b.1.2)])[j]? = some q := e2
      have hj : j < fd.length + 1 := by
        have := (List.getElem?_eq_some_iff.mp e2).1
        simpa using this
      rw [List.getElem?_append_left (by omega)] at e1 e3
      by_cases hjl : j < fd.length
      · rw [List.getElem?_append_left hjl] at e2
        exact h5 i j p q x hij e1 e2 e3
      · have hj2 : j = fd.length := by omega
        subst hj2
        rw [List.getElem?_append_right (by omega)] at e2
        simp at e2
        subst e2
        have := h4 i p x e1 e3
        omega
structure LayOk (h : Hand) (fs : List Fld) : Prop where
  len : (lay h fs).1.length = fs.length
  room : 0 ≤ (lay h fs).2 ∧ (lay h fs).2 ≤ 17 * fs.length + 4
  at_ : ∀ (i : Nat) p f, (lay h fs).1[i]? = some p → fs[i]? = some f → 0 ≤ p ∧ p + f.2 ≤ (lay h fs).2
  apart : ∀ (i j : Nat) p q f, i < j → (lay h fs).1[i]? = some p → (lay h fs).1[j]? = some q → fs[i]? = some f → p + f.2 ≤ q
theorem zip_rep {fs : List Fld} {i : Nat} {f : Fld} (h : fs[i]? = some f) : (fs.zip (List.replicate fs.length (0 : Int)))[i]? = some (f, 0) := by
  rw [List.getElem?_zip_eq_some]
  refine ⟨h, ?_⟩
  have := (List.getElem?_eq_some_iff.mp h).1
  rw [List.getElem?_replicate, if_pos this]
theorem lay_ok {h : Hand} {fs : List Fld} (hH : HandOk h) (hs : ∀ f ∈ fs, SizeOk f.2) : LayOk h fs := by
  have hz : ∀ x ∈ fs.zip (List.replicate fs.length (0 : Int)), SizeOk x.1.2 ∧ 0 ≤ x.2 ∧ x.2 ≤ 9 := fun x hx => by
    obtain ⟨h1, h2⟩ := List.of_mem_zip hx
    rw [List.eq_of_mem_replicate h2]
    exact ⟨hs _ h1, Int.le_refl _, by decide⟩
  obtain ⟨h1, ⟨h2, h2'⟩, h3, h4, h5⟩ := lay_all hH.al _ _ rfl hz
  obtain ⟨u1, u2, u3⟩ := upTo_ge (x := (layAll h.align (fs.zip (List.replicate fs.length (0 : Int)))).1) h3
  refine ⟨h1.trans (by simp), ?_, fun i p f e1 e2 => ?_, fun i j p q f hij e1 e2 e3 => h5 i j p q (f, 0) hij e1 e2 (zip_rep e3)⟩
  · show 0 ≤ upTo _ _ ∧ upTo _ _ ≤ _
    have g4 : ∀ z : Int, SizeOk z → z ≤ 4 := fun z hz => by rcases hz with e | e | e <;> omega
    have := g4 _ h3
    have hl : (fs.zip (List.replicate fs.length (0 : Int))).length = fs.length := by simp
    rw [hl] at h2'
    omega
  · obtain ⟨g1, g2⟩ := h4 i p (f, 0) e1 (zip_rep e2)
    refine ⟨g1, ?_⟩
    show p + f.2 ≤ upTo _ _
    dsimp only at g2
    omega
theorem dig_succ {n : Int} {k : Nat} : dig n (k + 1) = dig n k ++ [n / 10 ^ k % 10] := by simp [dig, List.range_succ]
theorem numF_take {cs : List Int} {i : Nat} {c : Int} (h : cs[i]? = some c) : numF (cs.take (i + 1)) = numF (cs.take i) * 10 + c := by
  rw [List.take_add_one, h]
  simp [numF]
def CellsOk (m : List Int) : Prop := ∀ c ∈ m, 0 ≤ c ∧ c < 10
/-- the memory with other cells from p on -/
def over (m : List Int) (p : Nat) (cs : List Int) : List Int := m.take p ++ cs ++ m.drop (p + cs.length)
end
end Rw

namespace Rw
open PySem PySem.Spec PyProof.Rows L2 Ub
section
variable {P : Program} {w : World} {K : PySem.W.Frag} {mg : Str → Option Value} {base : Heap} {T : Tb}
def SLaid : SpD := fun ds Pr => ∃ fs h, ds = [fldsD fs, handD h] ∧ FieldsOk fs ∧ HandOk h ∧ Pr (.dat (layDt (lay h fs)))
theorem k_laidD_ (k : Kp P w K mg base CX0 5 "laid" P_laid (spLaid T K)) : Kp P w K mg base CX0 5 "laid" P_laid (spR K T SLaid) := k.imp fun vs H Q E h => by
  obtain ⟨ds, A, B, Pr, oB, e, hz, ⟨fs, h, rfl, hF, hH, hp⟩, q⟩ := h
  cases hz with
  | cons z1 hz =>
    cases hz with
    | cons z2 hz =>
      cases hz
      obtain ⟨a, rfl, k1⟩ := dz_fields z1
      obtain ⟨t, rfl, k2⟩ := dz_hand z2 hH
      refine ⟨a, t, fs, h, B, rfl, oB, k1.up e, hF, k2.up e, fun p l H' np nl lp o h1 h2 => ?_⟩
      obtain ⟨C', R, z⟩ := lay_res (K := K) (x := lay h fs) o e np nl lp h1 h2
      exact q _ _ _ _ _ _ _ hp R z
end
end Rw

namespace Rw
open PySem PySem.Spec PyProof.Rows L2 Ub
section
variable {P : Program} {w : World} {K : PySem.W.Frag} {mg : Str → Option Value} {base : Heap} {T : Tb}
def SPlaced : SpD := fun ds Pr => ∃ (fs : List Fld) (h : Hand) (gs : List Int), ds = [fldsD fs, handD h, .lst (gs.map Dt.int)] ∧ fs.length ≤ 6 ∧ (∀ f ∈ fs, SizeOk f.2) ∧ HandOk h ∧ gs.length = fs.length ∧ Pr (.dat (layDt (placed h.align fs gs)))
theorem k_placedD_ (k : Kp P w K mg base CX0 2 "_placed" P_placed (spPlaced T K)) : Kp P w K mg base CX0 2 "_placed" P_placed (spR K T SPlaced) := k.imp fun vs H Q E h => by
  obtain ⟨ds, A, B, Pr, oB, e, hz, ⟨fs, h, gs, rfl, h6, hS, hH, hl, hp⟩, q⟩ := h
  cases hz with
  | cons z1 hz =>
    cases hz with
    | cons z2 hz =>
      cases hz with
      | cons z3 hz =>
        cases hz
        obtain ⟨a, rfl, k1⟩ := dz_fields z1
        obtain ⟨t, rfl, k2⟩ := dz_hand z2 hH
        obtain ⟨g, rfl, k3⟩ := dz_ints z3
        refine ⟨a, t, g, fs, h, gs, B, rfl, oB, k1.up e, h6, hS, k2.up e, SqL.of (e _ _ k3), hl, fun p l H' np nl lp o h1 h2 => ?_⟩
        obtain ⟨C', R, z⟩ := lay_res (K := K) (x := placed h.align fs gs) o e np nl lp h1 h2
        exact q _ _ _ _ _ _ _ hp R z
end
end Rw

-- RAISES check_fields check_hand laid spread filled _field_in put look led unlike checked_places played ends torn widened written
namespace Rw
open PySem PySem.Spec PyProof.Rows L2 Ub
set_option hygiene false in
local macro_rules | `(tactic| acc_peel) => `(tactic| (repeat (first | ((with_reducible show Ub.WS _ _ (tSeq _ _) _ _); (first | refine ws_seq ?_)) | ((with_reducible show Ub.WS _ _ tNext _ _); (first | refine ws_next ?_)) | ((with_reducible show Ub.WS _ _ tRetN _ _); (first | refine ws_retN ?_)) | ((with_reducible show Ub.WS _ _ (tIfS _ _ _) _ _); (first | refine ws_if ?_)) | ((with_reducible show Ub.WS _ _ (tRet (tIf _ _ _)) _ _); (first | refine ws_retIf ?_)) | ((with_reducible show Ub.WS _ _ (tAsg (tC _) (gName _)) _ _); (first | refine ws_set (we_int ?_) | refine ws_set (we_str ?_) | refine ws_set (we_bl ?_) | refine ws_set (we_non ?_))) | ((with_reducible show Ub.WS _ _ (tAsg (tVar _) (gName _)) _ _); (first | refine ws_set (we_dat rfl ?_))) | ((with_reducible show Ub.WS _ _ (tAsg (tLst tNil) (gName _)) _ _); (first | refine ws_setL (wl_lst (wa_nil ⟨rfl, by decide, ?_⟩)))) | ((with_reducible show Ub.WS _ _ (tAsg (tOp (rIxL _) (tLst _) (tCall _ _ _ _)) (gName _)) _ _); (first | refine ws_set (we_pick rfl ?_))) | ((with_reducible show Ub.WS _ _ (tAsg (tOp rCat _ _) (gName _)) _ _); (first | refine ws_set (we_l (wl_cat ?_)))) | ((with_reducible show Ub.WS _ _ (tAsg (tOp rRep _ _) (gName _)) _ _); (first | refine ws_set (we_l (wl_rep1 ?_)))) | ((with_reducible show Ub.WS _ _ (tAsg (tOp (rCatT _) _ _) (gName _)) _ _); (first | refine ws_set (we_catT ?_))) | ((with_reducible show Ub.WS _ _ (tAsg (tOp _ _ _) (gName _)) _ _); (first | refine ws_set (we_op ?_))) | ((with_reducible show Ub.WS _ _ (tAsg (tSl (rSlL _) _ _ _) (gName _)) _ _); (first | refine ws_set (we_l (wl_slice ?_)))) | ((with_reducible show Ub.WS _ _ (tAsg (tTup _) (gName _)) _ _); (first | refine ws_set (we_tup ?_))) | ((with_reducible show Ub.WS _ _ (tAsg (tUn _ _) (gName _)) _ _); (first | refine ws_set (we_neg ?_))) | ((with_reducible show Ub.WS _ _ (tAsg (tCB rMax2 _) (gName _)) _ _); (first | refine ws_set (we_tcb ?_))) | ((with_reducible show Ub.WS _ _ (tAsg (tCB rMin2 _) (gName _)) _ _); (first | refine ws_set (we_tcb ?_))) | ((with_reducible show Ub.WS _ _ (tAsg (tCB rInt1 _) (gName _)) _ _); (first | refine ws_set (we_tcb ?_))) | ((with_reducible show Ub.WS _ _ (tAsg (tCB (Evl.rLenS _) _) (gName _)) _ _); (first | refine ws_set (we_tcb ?_))) | ((with_reducible show Ub.WE _ _ (tC _) _ _); (first | refine we_int ?_ | refine we_str ?_ | refine we_bl ?_ | refine we_non ?_)) | ((with_reducible show Ub.WE _ _ (tVar _) _ _); (first | refine we_dat rfl ?_ | refine we_own rfl ?_)) | ((with_reducible show Ub.WE _ _ (tOp (rIxL _) (tLst _) (tCall _ _ _ _)) _ _); (first | refine we_pick rfl ?_)) | ((with_reducible show Ub.WE _ _ (tOp rCat _ _) _ _); (first | refine we_l (wl_cat ?_))) | ((with_reducible show Ub.WE _ _ (tOp rRep _ _) _ _); (first | refine we_l (wl_rep1 ?_))) | ((with_reducible show Ub.WE _ _ (tOp (rIxDI _) (tC _) _) _ _); (first | refine we_ixK ?_)) | ((with_reducible show Ub.WE _ _ (tOp (rCatT _) _ _) _ _); (first | refine we_catT ?_)) | ((with_reducible show Ub.WE _ _ (tLstRg (tRg1 _)) _ _); (first | refine we_l (wl_listR1 ?_))) | ((with_reducible show Ub.WE _ _ (tLstRg (tRg2 _ _)) _ _); (first | refine we_l (wl_listR2 ?_))) | ((with_reducible show Ub.WE _ _ (tOp _ _ _) _ _); (first | refine we_op ?_)) | ((with_reducible show Ub.WE _ _ (tUn _ _) _ _); (first | refine we_neg ?_)) | ((with_reducible show Ub.WE _ _ (tIf _ _ _) _ _); (first | refine we_if ?_)) | ((with_reducible show Ub.WE _ _ (tAndV _ _) _ _); (first | refine we_and ?_)) | ((with_reducible show Ub.WE _ _ (tOrV _ _) _ _); (first | refine we_or ?_)) | ((with_reducible show Ub.WE _ _ (tNotV _) _ _); (first | refine we_not ?_)) | ((with_reducible show Ub.WE _ _ (tChain _ _ _ _ _) _ _); (first | refine we_chain ?_)) | ((with_reducible show Ub.WE _ _ (tCB (Evl.rListS _) _) _ _); (first | refine we_l (wl_list ?_))) | ((with_reducible show Ub.WE _ _ (tCB (rTupOf _) (tCons _ tNil)) _ _); (first | refine we_tupOf ?_)) | ((with_reducible show Ub.WE _ _ (tCB (rIsi _) (tCons _ (tCons (tC (.ty _)) tNil))) _ _); (first | refine we_isi ?_)) | ((with_reducible show Ub.WE _ _ (tBM _ "list" (rIndex _) _ (tCons _ tNil)) _ _); (first | refine we_index ?_)) | ((with_reducible show Ub.WE _ _ (tM1 rSplitT _ _) _ _); (first | refine we_l (wl_split ?_))) | ((with_reducible show Ub.WE _ _ (tM1 rPartT _ _) _ _); (first | refine we_part ?_)) | ((with_reducible show Ub.WE _ _ (tM1 rCountT _ _) _ _); (first | refine we_count ?_)) | ((with_reducible show Ub.WR _ _ rInT _ _ _ _); (first | refine wr_inT ?_)) | ((with_reducible show Ub.WR _ _ rInTn _ _ _ _); (first | refine wr_inTn ?_)) | ((with_reducible show Ub.WE _ _ (tJoinF [] _) _ _); (first | refine we_jNil ?_)) | ((with_reducible show Ub.WE _ _ (tJoinF (_ :: _) _) _ _); (first | refine we_jCons ?_)) | ((with_reducible show Ub.WE _ _ (tCB _ _) _ _); (first | refine we_tcb ?_)) | ((with_reducible show Ub.WE _ _ (tTup _) _ _); (first | refine we_tup ?_)) | ((with_reducible show Ub.WE _ _ (tLst _) _ _); (first | refine we_l (wl_lst ?_))) | ((with_reducible show Ub.WE _ _ (tSl (rSlL _) _ _ _) _ _); (first | refine we_l (wl_slice ?_))) | ((with_reducible show Ub.WE _ _ (tSl rSlS _ _ _) _ _); (first | refine we_sliceS ?_)) | ((with_reducible show Ub.WE _ _ (tSl (rSlT _) _ _ _) _ _); (first | refine we_sliceT ?_)) | ((with_reducible show Ub.WE _ _ (tRevL _ _) _ _); (first | refine we_l (wl_rev ?_))) | ((with_reducible show Ub.WA _ _ tNil _ _); (first | refine wa_nil ?_)) | ((with_reducible show Ub.WA _ _ (tCons _ _) _ _); (first | refine wa_cons ?_)) | ((with_reducible show Ub.WO _ _ tNoPart _ _); (first | refine wo_none ?_)) | ((with_reducible show Ub.WO _ _ (tPart _) _ _); (first | refine wo_some ?_)) | ((with_reducible show Ub.WT _ _ (tB _) _ _); (first | refine wt_val ?_)) | ((with_reducible show Ub.WT _ _ (tTest _) _ _); (first | refine wt_test ?_)) | ((with_reducible show Ub.WT _ _ (tAnd _ _) _ _); (first | refine wt_and ?_)) | ((with_reducible show Ub.WT _ _ (tOr _ _) _ _); (first | refine wt_or ?_)) | ((with_reducible show Ub.WT _ _ (tNot _) _ _); (first | refine wt_not ?_)) | ((with_reducible show Ub.WT _ _ tYes _ _); (first | refine wt_yes ?_)) | ((with_reducible show Ub.WT _ _ (tTru _ _) _ _); (first | refine wt_tru ?_)) | ((with_reducible show Ub.WR _ _ rIsN _ _ _ _); (first | refine wr_isN rfl ?_)) | ((with_reducible show Ub.WR _ _ rNotN _ _ _ _); (first | refine wr_notN rfl ?_)) | ((with_reducible show Ub.WR _ _ (rI0 _) _ _ _ _); (first | refine wr_int ?_ | refine wr_cmp ?_)) | ((with_reducible show Ub.WR _ _ (rI CMul _) _ _ _ _); (first | refine wr_mulL (by omega) (by omega) ?_ | refine wr_mulR (by omega) (by omega) ?_)) | ((with_reducible show Ub.WR _ _ (rI CDiv _) _ _ _ _); (first | refine wr_fdiv (by omega) (by omega) ?_)) | ((with_reducible show Ub.WR _ _ (rI _ _) _ _ _ _); (first | refine wr_mod (by omega) ?_)) | ((with_reducible show Ub.WR _ _ rEq _ _ _ _); (first | refine wr_eqI ?_ | refine wr_eqS ?_ | refine wr_eqB ?_)) | ((with_reducible show Ub.WR _ _ rNe _ _ _ _); (first | refine wr_neI ?_ | refine wr_neS ?_ | refine wr_neB ?_)) | ((with_reducible show Ub.WR _ _ (rIxL _) _ _ _ _); (first | refine wr_ixL rfl rfl ?_)) | ((with_reducible show Ub.WR _ _ (rIxT _) _ _ _ _); (first | refine wr_h0 ?_ | refine wr_h1 ?_ | refine wr_f0 ?_ | refine wr_f1 ?_ | refine wr_l0 ?_ | refine wr_l1 ?_ | refine wr_ixT rfl rfl ?_)) | ((with_reducible show Ub.WR _ _ rAddS _ _ _ _); (first | refine wr_addS (by omega) ?_)) | ((with_reducible show Ub.WR _ _ rRepS _ _ _ _); (first | refine wr_repS (by omega) (by omega) (by omega) ?_)) | ((with_reducible show Ub.WC _ _ (Evl.rLenS _) _ _ _); (first | refine wc_lenL rfl ?_ | refine wc_lenT rfl ?_)) | ((with_reducible show Ub.WC _ _ rLenStr _ _ _); (first | refine wc_lenS (by omega) ?_)) | ((with_reducible show Ub.WC _ _ rAbs _ _ _); (first | refine wc_abs ?_)) | ((with_reducible show Ub.WC _ _ rMin2 _ _ _); (first | refine wc_min ?_)) | ((with_reducible show Ub.WC _ _ rMax2 _ _ _); (first | refine wc_max ?_)) | ((with_reducible show Ub.WC _ _ rInt1 _ _ _); (first | refine wc_intB ?_ | refine wc_intI ?_)) | ((with_reducible show Ub.WC _ _ rStrI _ _ _); (first | refine wc_strI (by assumption) ?_)) | ((with_reducible show Ub.WC _ _ rIntS _ _ _); (first | refine wc_intS (by assumption) (by assumption) ?_)) | ((with_reducible show Ub.WG _ _ (gName _) _ _ _); (first | refine wg_name ?_)) | ((with_reducible show Ub.WG _ _ (gTup _ _ _) _ _ _); (first | refine wg_tup rfl ?_)) | ((with_reducible show Ub.WGs _ _ (gCons _ _) _ _ _); (first | refine wgs_cons ?_)) | ((with_reducible show Ub.WGs _ _ gNil _ _ _); (first | refine wgs_nil ?_)) | ((with_reducible show Exists _); (first | refine ex_d ?_ | refine ex_i ?_ | refine ex_s ?_ | refine ex_b ?_ | refine ex_l ?_ | refine ex_t ?_ | refine ex_rd ?_ | refine ex_rf ?_ | refine ex_al rfl ?_ | refine ex_n1 ?_ | refine ex_l1 ?_ | refine ex_l2 ?_ | refine ex_cat rfl rfl (by first | omega | (simp; done) | (simp; omega)) ?_ | refine ex_rep rfl (by first | omega | (simp; done) | (simp; omega)) (by first | omega | (simp; done) | (simp; omega)) ?_)) | ((with_reducible show _ ∧ _); (first | refine an_d rfl ?_ | refine an_le (Nat.le_of_ble_eq_true rfl) ?_ | refine an_le (by first | omega | (simp; done) | (simp; omega)) ?_ | refine an_leI (by first | omega | (simp; done) | (simp; omega)) ?_ | refine an_ltI (by first | omega | (simp; done) | (simp; omega)) ?_ | refine an_eqI rfl ?_ | refine an_bf rfl ?_)) | ((with_reducible show Ub.WS _ _ (tDrop (tBM _ "list" rAppend (tVar _) (tCons _ tNil))) _ _); (first | refine ws_append rfl (by first | omega | (simp; done) | (simp; omega)) ?_)))))
section
variable {P : Program} {w : World} {K : PySem.W.Frag} {mg : Str → Option Value} {base : Heap} {T : Tb}
/-! ### fields and hands that cannot be, handed to all -/
def Small (fs : List Fld) : Prop := (∀ g ∈ fs, g.1.length ≤ 1000) ∧ fs.length ≤ 1000
def numbX (ec : Nat → Addr) (n : Int) : Xd := ⟨ec 0, [("number", .int n)]⟩
def whyX (ec : Nat → Addr) (y : Str) : Xd := ⟨ec 1, [("why", .str y)]⟩
def RefF (ec : Nat → Addr) (fs : List Fld) (x : Xd) : Prop := (fs = [] ∧ x = numbX ec 0) ∨ (fs ≠ [] ∧ ∃ i : Nat, badAt fs i = true ∧ (∀ j, j < i → badAt fs j = false) ∧ x = numbX ec i)
def badH (h : Hand) : Option Str := handBad h.order h.align h.wide h.way
def Ref1 (ec : Nat → Addr) (fs : List Fld) (h : Hand) (x : Xd) : Prop := RefF ec fs x ∨ (FieldsOk fs ∧ ∃ y, badH h = some y ∧ x = whyX ec y)
def Ref2 (ec : Nat → Addr) (fs : List Fld) (h1 h2 : Hand) (x : Xd) : Prop := Ref1 ec fs h1 x ∨ (FieldsOk fs ∧ HandOk h1 ∧ ∃ y, badH h2 = some y ∧ x = whyX ec y)
theorem FieldsOk.small {fs : List Fld} (h : FieldsOk fs) : Small fs := ⟨fun g hg => Nat.le_trans (h.name g hg).2.1 (by decide), Nat.le_trans h.most (by decide)⟩
theorem FieldsOk.ne {fs : List Fld} (h : FieldsOk fs) : fs ≠ [] := fun e => by
  have := h.pos
  rw [e] at this
  cases this
theorem HandOk.none {h : Hand} (k : HandOk h) : badH h = none := by
  obtain ⟨o, al, wd, wy⟩ := h
  have h1 : o = "great" ∨ o = "small" := k.order
  have h2 : al = 1 ∨ al = 2 ∨ al = 4 := k.align
  have h3 : wd = 1 ∨ wd = 2 ∨ wd = 4 := k.wide
  have h4 : wy = "up" ∨ wy = "down" := k.way
  rcases h1 with rfl | rfl <;> rcases h2 with rfl | rfl | rfl <;> rcases h3 with rfl | rfl | rfl <;> rcases h4 with rfl | rfl <;> decide +kernel
variable {ec : Nat → Addr} {fs : List Fld} {h h1 h2 : Hand} {x : Xd} {Pr : Res → Prop} {Px : Xd → Prop}
theorem ckf_ref (r : RefF ec fs x) (sm : Small fs) (hx : Px x) : SCkX ec [fldsD fs] Pr Px := by
  refine ⟨fs, rfl, sm.1, Nat.le_trans sm.2 (by decide), fun e => ?_, fun i b1 b2 => ?_, fun ne ok => ?_⟩
  · rcases r with ⟨_, rfl⟩ | ⟨n, _⟩
    · exact hx
    · exact absurd e n
  · rcases r with ⟨e, _⟩ | ⟨_, j, c1, c2, rfl⟩
    · subst e
      simp [badAt] at b1
    · have : i = j := by
        rcases Nat.lt_trichotomy i j with q | q | q
        · rw [c2 i q] at b1; cases b1
        · exact q
        · rw [b2 j q] at c1; cases c1
      subst this
      exact hx
  · rcases r with ⟨e, _⟩ | ⟨_, j, c1, _⟩
    · exact absurd e ne
    · rw [ok j] at c1
      cases c1
theorem ckf_ok (hF : FieldsOk fs) (hp : Pr (.dat .non)) : SCkX ec [fldsD fs] Pr Px := by
  refine ⟨fs, rfl, hF.small.1, Nat.le_trans hF.small.2 (by decide), fun e => absurd e hF.ne, fun i b1 _ => ?_, fun _ _ => hp⟩
  rw [badAt_ok hF] at b1
  cases b1
theorem ckh_ref {y : Str} (e : badH h = some y) (hx : Px (whyX ec y)) : SCkHX ec [handD h] Pr Px := by
  refine ⟨h.order, h.align, h.wide, h.way, rfl, fun why e2 => ?_, fun e2 => ?_⟩
  · rw [show handBad h.order h.align h.wide h.way = some y from e] at e2
    cases e2
    exact hx
  · rw [show handBad h.order h.align h.wide h.way = some y from e] at e2
    cases e2
theorem ckh_ok (k : HandOk h) (hp : Pr (.dat .non)) : SCkHX ec [handD h] Pr Px := by
  refine ⟨h.order, h.align, h.wide, h.way, rfl, fun why e2 => ?_, fun _ => hp⟩
  rw [show handBad h.order h.align h.wide h.way = none from k.none] at e2
  cases e2
def SLaidX (ec : Nat → Addr) : SpX := fun ds Pr Px => ∃ (fs : List Fld) (h : Hand), ds = [fldsD fs, handD h] ∧ ((∃ x, Small fs ∧ Ref1 ec fs h x ∧ Px x) ∨ (FieldsOk fs ∧ HandOk h ∧ Pr (.dat (layDt (lay h fs)))))
/-- one hand, some more -/
def SRef1 (ec : Nat → Addr) (k : Nat) : SpX := fun ds Pr Px => ∃ (fs : List Fld) (h : Hand) (x : Xd) (r : List Dt), ds = fldsD fs :: handD h :: r ∧ r.length = k ∧ Small fs ∧ Ref1 ec fs h x ∧ Px x
def SRef2 (ec : Nat → Addr) (k : Nat) : SpX := fun ds Pr Px => ∃ (fs : List Fld) (h1 h2 : Hand) (x : Xd) (r : List Dt), ds = fldsD fs :: handD h1 :: handD h2 :: r ∧ r.length = k ∧ Small fs ∧ Ref2 ec fs h1 h2 x ∧ Px x
def SRefP (ec : Nat → Addr) (k : Nat) : SpX := fun ds Pr Px => ∃ (fs : List Fld) (h1 h2 : Hand) (x : Xd) (r : List Dt), ds = fldsD fs :: .tup [handD h1, handD h2] :: r ∧ r.length = k ∧ Small fs ∧ Ref2 ec fs h1 h2 x ∧ Px x
def SRefF (ec : Nat → Addr) : SpX := fun ds Pr Px => ∃ (fs : List Fld) (x : Xd), ds = [fldsD fs] ∧ Small fs ∧ RefF ec fs x ∧ Px x
variable (k_check_fields : Kp P w K mg base (L2N.CX P w) 4 "check_fields" P_check_fields (spX K T (SCkX ec))) (k_check_hand : Kp P w K mg base (L2N.CX P w) 3 "check_hand" P_check_hand (spX K T (SCkHX ec)))
include k_check_fields k_check_hand
theorem k_laidX_ (D : Df K mg "laid" s_laid P_laid) (bl : Bl mg) (k_placed : Kp P w K mg base CX0 2 "_placed" P_placed (spR K T SPlaced)) : Kp P w K mg base (L2N.CX P w) 5 "laid" P_laid (spX K T (SLaidX ec)) := by
  refine kp_ofX D sc_laid (fun ds Pr Px h => ?_) (fun f cdv A outer s H E hr ds Pr Px h => ?_)
  · obtain ⟨_, _, rfl, _⟩ := h
    rfl
  · obtain ⟨fs, h, rfl, hh⟩ := h
    refine ⟨_, (pss_cons (ps_expr (pe_callA k_check_fields (hr.mono (by decide)) (passN (E := E)) (pa_cons (pv 0) pa_nil)))
      (pss_cons (ps_expr (pe_callA k_check_hand (hr.mono (by decide)) (passN (E := E)) (pa_cons (pv 1) pa_nil)))
      (pss_one (ps_ret (pe_callA k_placed (hr.mono (by decide)) pass0 (pa_cons (pv 0) (pa_cons (pv 1) (pa_cons (pe_op op_rep (pe_lst (pa_cons pe_int pa_nil)) (pe_callB (r := Evl.rLenS K) cr_lenSq (by rfl) bl.len PySem.boot_len (pa_cons (pv 0) pa_nil))) pa_nil)))))))), ?_⟩
    refine ws_seq (ws_dropX ?_)
    acc_peel
    rcases hh with ⟨x, sm, r | ⟨hF, y, e, rfl⟩, hx⟩ | ⟨hF, hH, hp⟩
    · exact ckf_ref r sm hx
    · refine ckf_ok hF (ws_seq (ws_dropX ?_))
      acc_peel
      exact ckh_ref e hx
    · refine ckf_ok hF (ws_seq (ws_dropX ?_))
      acc_peel
      have f6 := hF.most
      refine ckh_ok hH (ws_ret (we_call ?_))
      acc_peel
      refine ⟨fs, h, List.replicate fs.length 0, ?_, hF.most, hF.size, hH, by simp, _, rfl, hp⟩
      simp [fldsD, Ag.d]
omit k_check_fields k_check_hand
variable (k_laid : Kp P w K mg base (L2N.CX P w) 5 "laid" P_laid (spX K T (SLaidX ec)))
theorem ws_ref1 {ρ : List Sl} {N : Nd} {g : TG} (r : ∃ x, Small fs ∧ Ref1 ec fs h x ∧ N.ex x) (h0 : ρ[0]? = some (Sl.dat (fldsD fs))) (h1 : ρ[1]? = some (Sl.dat (handD h))) : WS K T (tAsg (tCall (spX K T (SLaidX ec)) [] N.E (tCons (tVar 0) (tCons (tVar 1) tNil))) g) ρ N :=
  ws_asgX (wa_cons (we_dat h0 (wa_cons (we_dat h1 (wa_nil ⟨rfl, fs, h, rfl, .inl r⟩)))))
include k_laid in
theorem k_field_inR_ (D : Df K mg "_field_in" s_field_in P_field_in) : Kp P w K mg base (L2N.CX P w) 6 "_field_in" P_field_in (spX K T (SRef1 ec 2)) := by
  refine kp_ofX D sc_field_in (fun ds Pr Px h => ?_) (fun f cdv A outer s H E hr ds Pr Px h => ?_)
  · obtain ⟨_, _, _, r, rfl, hl, _⟩ := h
    simp [hl]
  · obtain ⟨fs, h, x, r, rfl, hl, sm, rf, hx⟩ := h
    match r, hl with
    | [_, _], _ => exact ⟨_, (pss_cons (ps_asg (pe_callA k_laid (hr.mono (by decide)) (passN (E := E)) (pa_cons (pv 0) (pa_cons (pv 1) pa_nil))) (pg_tup rfl (pgs_cons (pg_name (i := 4) sc_field_in.nd rfl (by first | exact Or.inl rfl | exact Or.inr rfl)) (pgs_cons (pg_name (i := 5) sc_field_in.nd rfl (by first | exact Or.inl rfl | exact Or.inr rfl)) pgs_nil))))
      pss_never), ws_seq (ws_ref1 ⟨x, sm, rf, hx⟩ rfl rfl)⟩
variable (k_field_in : Kp P w K mg base (L2N.CX P w) 6 "_field_in" P_field_in (spX K T (SRef1 ec 2)))
include k_field_in in
theorem k_putR_ (D : Df K mg "put" s_put P_put) : Kp P w K mg base (L2N.CX P w) 7 "put" P_put (spX K T (SRef1 ec 3)) := by
  refine kp_ofX D sc_put (fun ds Pr Px h => ?_) (fun f cdv A outer s H E hr ds Pr Px h => ?_)
  · obtain ⟨_, _, _, r, rfl, hl, _⟩ := h
    simp [hl]
  · obtain ⟨fs, h, x, r, rfl, hl, sm, rf, hx⟩ := h
    match r, hl with
    | [_, _, _], _ =>
      refine ⟨_, (pss_cons (ps_asg (pe_callA k_field_in (hr.mono (by decide)) (passN (E := E)) (pa_cons (pv 0) (pa_cons (pv 1) (pa_cons (pv 2) (pa_cons (pv 3) pa_nil))))) (pg_tup rfl (pgs_cons (pg_name (i := 5) sc_put.nd rfl (by first | exact Or.inl rfl | exact Or.inr rfl)) (pgs_cons (pg_name (i := 6) sc_put.nd rfl (by first | exact Or.inl rfl | exact Or.inr rfl)) pgs_nil))))
      pss_never), ws_seq (ws_asgX ?_)⟩
      acc_peel
      exact ⟨fs, h, x, _, rfl, rfl, sm, rf, hx⟩
include k_field_in in
theorem k_lookR_ (D : Df K mg "look" s_look P_look) : Kp P w K mg base (L2N.CX P w) 7 "look" P_look (spX K T (SRef1 ec 2)) := by
  refine kp_ofX D sc_look (fun ds Pr Px h => ?_) (fun f cdv A outer s H E hr ds Pr Px h => ?_)
  · obtain ⟨_, _, _, r, rfl, hl, _⟩ := h
    simp [hl]
  · obtain ⟨fs, h, x, r, rfl, hl, sm, rf, hx⟩ := h
    match r, hl with
    | [_, _], _ =>
      refine ⟨_, (pss_cons (ps_asg (pe_callA k_field_in (hr.mono (by decide)) (passN (E := E)) (pa_cons (pv 0) (pa_cons (pv 1) (pa_cons (pv 2) (pa_cons (pv 3) pa_nil))))) (pg_tup rfl (pgs_cons (pg_name (i := 4) sc_look.nd rfl (by first | exact Or.inl rfl | exact Or.inr rfl)) (pgs_cons (pg_name (i := 5) sc_look.nd rfl (by first | exact Or.inl rfl | exact Or.inr rfl)) pgs_nil))))
      pss_never), ws_seq (ws_asgX ?_)⟩
      acc_peel
      exact ⟨fs, h, x, _, rfl, rfl, sm, rf, hx⟩
include k_check_fields k_check_hand in
theorem k_spreadR_ (D : Df K mg "spread" s_spread P_spread) : Kp P w K mg base (L2N.CX P w) 5 "spread" P_spread (spX K T (SRef1 ec 1)) := by
  refine kp_ofX D sc_spread (fun ds Pr Px h => ?_) (fun f cdv A outer s H E hr ds Pr Px h => ?_)
  · obtain ⟨_, _, _, r, rfl, hl, _⟩ := h
    simp [hl]
  · obtain ⟨fs, h, x, r, rfl, hl, sm, rf, hx⟩ := h
    match r, hl with
    | [_], _ =>
      refine ⟨_, (pss_cons (ps_expr (pe_callA k_check_fields (hr.mono (by decide)) (passN (E := E)) (pa_cons (pv 0) pa_nil)))
      (pss_cons (ps_expr (pe_callA k_check_hand (hr.mono (by decide)) (passN (E := E)) (pa_cons (pv 1) pa_nil)))
      pss_never)), ws_seq (ws_dropX ?_)⟩
      acc_peel
      rcases rf with r | ⟨hF, y, e, rfl⟩
      · exact ckf_ref r sm hx
      · refine ckf_ok hF (ws_seq (ws_dropX ?_))
        acc_peel
        exact ckh_ref e hx
include k_check_fields k_check_hand in
theorem k_filledR_ (D : Df K mg "filled" s_filled P_filled) : Kp P w K mg base (L2N.CX P w) 5 "filled" P_filled (spX K T (SRef2 ec 0)) := by
  refine kp_ofX D sc_filled (fun ds Pr Px h => ?_) (fun f cdv A outer s H E hr ds Pr Px h => ?_)
  · obtain ⟨_, _, _, _, r, rfl, hl, _⟩ := h
    simp [hl]
  · obtain ⟨fs, h1, h2, x, r, rfl, hl, sm, rf, hx⟩ := h
    match r, hl with
    | [], _ =>
      refine ⟨_, (pss_cons (ps_expr (pe_callA k_check_fields (hr.mono (by decide)) (passN (E := E)) (pa_cons (pv 0) pa_nil)))
      (pss_cons (ps_expr (pe_callA k_check_hand (hr.mono (by decide)) (passN (E := E)) (pa_cons (pv 1) pa_nil)))
      (pss_cons (ps_expr (pe_callA k_check_hand (hr.mono (by decide)) (passN (E := E)) (pa_cons (pv 2) pa_nil)))
      pss_never))), ws_seq (ws_dropX ?_)⟩
      acc_peel
      rcases rf with (r | ⟨hF, y, e, rfl⟩) | ⟨hF, hH, y, e, rfl⟩
      · exact ckf_ref r sm hx
      · refine ckf_ok hF (ws_seq (ws_dropX ?_))
        acc_peel
        exact ckh_ref e hx
      · refine ckf_ok hF (ws_seq (ws_dropX ?_))
        acc_peel
        refine ckh_ok hH (ws_seq (ws_dropX ?_))
        acc_peel
        exact ckh_ref e hx
include k_laid in
theorem k_ledR_ (D : Df K mg "led" s_led P_led) : Kp P w K mg base (L2N.CX P w) 6 "led" P_led (spX K T (SRef2 ec 1)) := by
  refine kp_ofX D sc_led (fun ds Pr Px h => ?_) (fun f cdv A outer s H E hr ds Pr Px h => ?_)
  · obtain ⟨_, _, _, _, r, rfl, hl, _⟩ := h
    simp [hl]
  · obtain ⟨fs, h1, h2, x, r, rfl, hl, sm, rf, hx⟩ := h
    match r, hl with
    | [_], _ =>
      refine ⟨_, (pss_cons (ps_asg (pe_callA k_laid (hr.mono (by decide)) (passN (E := E)) (pa_cons (pv 0) (pa_cons (pv 1) pa_nil))) (pg_tup rfl (pgs_cons (pg_name (i := 4) sc_led.nd rfl (by first | exact Or.inl rfl | exact Or.inr rfl)) (pgs_cons (pg_name (i := 5) sc_led.nd rfl (by first | exact Or.inl rfl | exact Or.inr rfl)) pgs_nil))))
      (pss_cons (ps_asg (pe_callA k_laid (hr.mono (by decide)) (passN (E := E)) (pa_cons (pv 0) (pa_cons (pv 2) pa_nil))) (pg_tup rfl (pgs_cons (pg_name (i := 6) sc_led.nd rfl (by first | exact Or.inl rfl | exact Or.inr rfl)) (pgs_cons (pg_name (i := 7) sc_led.nd rfl (by first | exact Or.inl rfl | exact Or.inr rfl)) pgs_nil))))
      pss_never)), ws_seq ?_⟩
      rcases rf with r | ⟨hF, hH, y, e, rfl⟩
      · exact ws_ref1 ⟨x, sm, r, hx⟩ rfl rfl
      · refine ws_asgX ?_
        acc_peel
        refine ⟨fs, h1, rfl, .inr ⟨hF, hH, _, rfl, ?_⟩⟩
        acc_peel
        refine ws_seq (ws_asgX ?_)
        acc_peel
        exact ⟨fs, h2, rfl, .inl ⟨_, hF.small, .inr ⟨hF, y, e, rfl⟩, hx⟩⟩
include k_laid in
theorem k_unlikeR_ (D : Df K mg "unlike" s_unlike P_unlike) : Kp P w K mg base (L2N.CX P w) 6 "unlike" P_unlike (spX K T (SRef2 ec 0)) := by
  refine kp_ofX D sc_unlike (fun ds Pr Px h => ?_) (fun f cdv A outer s H E hr ds Pr Px h => ?_)
  · obtain ⟨_, _, _, _, r, rfl, hl, _⟩ := h
    simp [hl]
  · obtain ⟨fs, h1, h2, x, r, rfl, hl, sm, rf, hx⟩ := h
    match r, hl with
    | [], _ =>
      refine ⟨_, (pss_cons (ps_asg (pe_callA k_laid (hr.mono (by decide)) (passN (E := E)) (pa_cons (pv 0) (pa_cons (pv 1) pa_nil))) (pg_tup rfl (pgs_cons (pg_name (i := 3) sc_unlike.nd rfl (by first | exact Or.inl rfl | exact Or.inr rfl)) (pgs_cons (pg_name (i := 4) sc_unlike.nd rfl (by first | exact Or.inl rfl | exact Or.inr rfl)) pgs_nil))))
      (pss_cons (ps_asg (pe_callA k_laid (hr.mono (by decide)) (passN (E := E)) (pa_cons (pv 0) (pa_cons (pv 2) pa_nil))) (pg_tup rfl (pgs_cons (pg_name (i := 5) sc_unlike.nd rfl (by first | exact Or.inl rfl | exact Or.inr rfl)) (pgs_cons (pg_name (i := 6) sc_unlike.nd rfl (by first | exact Or.inl rfl | exact Or.inr rfl)) pgs_nil))))
      pss_never)), ws_seq ?_⟩
      rcases rf with r | ⟨hF, hH, y, e, rfl⟩
      · exact ws_ref1 ⟨x, sm, r, hx⟩ rfl rfl
      · refine ws_asgX ?_
        acc_peel
        refine ⟨fs, h1, rfl, .inr ⟨hF, hH, _, rfl, ?_⟩⟩
        acc_peel
        refine ws_seq (ws_asgX ?_)
        acc_peel
        exact ⟨fs, h2, rfl, .inl ⟨_, hF.small, .inr ⟨hF, y, e, rfl⟩, hx⟩⟩
variable (k_filled : Kp P w K mg base (L2N.CX P w) 5 "filled" P_filled (spX K T (SRef2 ec 0)))
include k_filled in
theorem k_checked_placesR_ (D : Df K mg "checked_places" s_checked_places P_checked_places) : Kp P w K mg base (L2N.CX P w) 6 "checked_places" P_checked_places (spX K T (SRefP ec 1)) := by
  refine kp_ofX D sc_checked_places (fun ds Pr Px h => ?_) (fun f cdv A outer s H E hr ds Pr Px h => ?_)
  · obtain ⟨_, _, _, _, r, rfl, hl, _⟩ := h
    simp [hl]
  · obtain ⟨fs, h1, h2, x, r, rfl, hl, sm, rf, hx⟩ := h
    match r, hl with
    | [_], _ =>
      refine ⟨_, (pss_cons (ps_asg (pv 1) (pg_tup rfl (pgs_cons (pg_name (i := 3) sc_checked_places.nd rfl (by first | exact Or.inl rfl | exact Or.inr rfl)) (pgs_cons (pg_name (i := 4) sc_checked_places.nd rfl (by first | exact Or.inl rfl | exact Or.inr rfl)) pgs_nil))))
      (pss_cons (ps_set (i := 5) sc_checked_places.nd rfl (by first | exact Or.inl rfl | exact Or.inr rfl) (pe_callA k_filled (hr.mono (by decide)) (passN (E := E)) (pa_cons (pv 0) (pa_cons (pv 3) (pa_cons (pv 4) pa_nil)))))
      pss_never)), ?_⟩
      acc_peel
      refine ws_asg ?_
      acc_peel
      refine ws_seq (ws_setX ?_)
      acc_peel
      exact ⟨fs, h1, h2, x, _, rfl, rfl, sm, rf, hx⟩
variable (k_checked_places : Kp P w K mg base (L2N.CX P w) 6 "checked_places" P_checked_places (spX K T (SRefP ec 1)))
include k_checked_places in
theorem k_playedR_ (D : Df K mg "played" s_played P_played) : Kp P w K mg base (L2N.CX P w) 7 "played" P_played (spX K T (SRefP ec 2)) := by
  refine kp_ofX D sc_played (fun ds Pr Px h => ?_) (fun f cdv A outer s H E hr ds Pr Px h => ?_)
  · obtain ⟨_, _, _, _, r, rfl, hl, _⟩ := h
    simp [hl]
  · obtain ⟨fs, h1, h2, x, r, rfl, hl, sm, rf, hx⟩ := h
    match r, hl with
    | [_, _], _ =>
      refine ⟨_, (pss_cons (ps_asg (pe_callA k_checked_places (hr.mono (by decide)) (passN (E := E)) (pa_cons (pv 0) (pa_cons (pv 1) (pa_cons (pv 2) pa_nil)))) (pg_tup rfl (pgs_cons (pg_name (i := 4) sc_played.nd rfl (by first | exact Or.inl rfl | exact Or.inr rfl)) (pgs_cons (pg_name (i := 5) sc_played.nd rfl (by first | exact Or.inl rfl | exact Or.inr rfl)) pgs_nil))))
      pss_never), ws_seq (ws_asgX ?_)⟩
      acc_peel
      exact ⟨fs, h1, h2, x, _, rfl, rfl, sm, rf, hx⟩
include k_checked_places in
theorem k_endsR_ (D : Df K mg "ends" s_ends P_ends) : Kp P w K mg base (L2N.CX P w) 7 "ends" P_ends (spX K T (SRefP ec 1)) := by
  refine kp_ofX D sc_ends (fun ds Pr Px h => ?_) (fun f cdv A outer s H E hr ds Pr Px h => ?_)
  · obtain ⟨_, _, _, _, r, rfl, hl, _⟩ := h
    simp [hl]
  · obtain ⟨fs, h1, h2, x, r, rfl, hl, sm, rf, hx⟩ := h
    match r, hl with
    | [_], _ =>
      refine ⟨_, (pss_cons (ps_asg (pe_callA k_checked_places (hr.mono (by decide)) (passN (E := E)) (pa_cons (pv 0) (pa_cons (pv 1) (pa_cons (pv 2) pa_nil)))) (pg_tup rfl (pgs_cons (pg_name (i := 3) sc_ends.nd rfl (by first | exact Or.inl rfl | exact Or.inr rfl)) (pgs_cons (pg_name (i := 4) sc_ends.nd rfl (by first | exact Or.inl rfl | exact Or.inr rfl)) pgs_nil))))
      pss_never), ws_seq (ws_asgX ?_)⟩
      acc_peel
      exact ⟨fs, h1, h2, x, _, rfl, rfl, sm, rf, hx⟩
include k_checked_places in
theorem k_tornR_ (D : Df K mg "torn" s_torn P_torn) : Kp P w K mg base (L2N.CX P w) 7 "torn" P_torn (spX K T (SRefP ec 1)) := by
  refine kp_ofX D sc_torn (fun ds Pr Px h => ?_) (fun f cdv A outer s H E hr ds Pr Px h => ?_)
  · obtain ⟨_, _, _, _, r, rfl, hl, _⟩ := h
    simp [hl]
  · obtain ⟨fs, h1, h2, x, r, rfl, hl, sm, rf, hx⟩ := h
    match r, hl with
    | [_], _ =>
      refine ⟨_, (pss_cons (ps_asg (pe_callA k_checked_places (hr.mono (by decide)) (passN (E := E)) (pa_cons (pv 0) (pa_cons (pv 1) (pa_cons (pv 2) pa_nil)))) (pg_tup rfl (pgs_cons (pg_name (i := 3) sc_torn.nd rfl (by first | exact Or.inl rfl | exact Or.inr rfl)) (pgs_cons (pg_name (i := 4) sc_torn.nd rfl (by first | exact Or.inl rfl | exact Or.inr rfl)) pgs_nil))))
      pss_never), ws_seq (ws_asgX ?_)⟩
      acc_peel
      exact ⟨fs, h1, h2, x, _, rfl, rfl, sm, rf, hx⟩
include k_checked_places in
theorem k_widenedR_ (D : Df K mg "widened" s_widened P_widened) : Kp P w K mg base (L2N.CX P w) 7 "widened" P_widened (spX K T (SRefP ec 1)) := by
  refine kp_ofX D sc_widened (fun ds Pr Px h => ?_) (fun f cdv A outer s H E hr ds Pr Px h => ?_)
  · obtain ⟨_, _, _, _, r, rfl, hl, _⟩ := h
    simp [hl]
  · obtain ⟨fs, h1, h2, x, r, rfl, hl, sm, rf, hx⟩ := h
    match r, hl with
    | [_], _ =>
      refine ⟨_, (pss_cons (ps_asg (pe_callA k_checked_places (hr.mono (by decide)) (passN (E := E)) (pa_cons (pv 0) (pa_cons (pv 1) (pa_cons (pv 2) pa_nil)))) (pg_tup rfl (pgs_cons (pg_name (i := 3) sc_widened.nd rfl (by first | exact Or.inl rfl | exact Or.inr rfl)) (pgs_cons (pg_name (i := 4) sc_widened.nd rfl (by first | exact Or.inl rfl | exact Or.inr rfl)) pgs_nil))))
      pss_never), ws_seq (ws_asgX ?_)⟩
      acc_peel
      exact ⟨fs, h1, h2, x, _, rfl, rfl, sm, rf, hx⟩
include k_check_fields in
theorem k_writtenR_ (D : Df K mg "written" s_written P_written) : Kp P w K mg base (L2N.CX P w) 5 "written" P_written (spX K T (SRefF ec)) := by
  refine kp_ofX D sc_written (fun ds Pr Px h => ?_) (fun f cdv A outer s H E hr ds Pr Px h => ?_)
  · obtain ⟨_, _, rfl, _⟩ := h
    rfl
  · obtain ⟨fs, x, rfl, sm, rf, hx⟩ := h
    refine ⟨_, (pss_cons (ps_expr (pe_callA k_check_fields (hr.mono (by decide)) (passN (E := E)) (pa_cons (pv 0) pa_nil)))
      pss_never), ws_seq (ws_dropX ?_)⟩
    acc_peel
    exact ckf_ref rf sm hx
end
end Rw

namespace Rw
open PySem PySem.Spec PyProof.Rows L2 Ub L2H
/-! ### _law_refused, of fields and hands that cannot be -/
def SpecH (ec : Nat → Addr) (wd : Str) (v : V) (x : Xd) : Prop := (wd = "fields" ∧ ∃ n : Int, v = .int n ∧ x = numbX ec n) ∨ (wd = "hand" ∧ ∃ y : Str, v = .str y ∧ x = whyX ec y)
theorem k_refusedH_ {X : Cx} {T : Tb} {ec : Nat → Addr} {k : Nat} (ek : Ek X.mg ec) (ei0 : Ei X.K ec 0) (ei1 : Ei X.K ec 1) (x0 : Ex6 X.K (ec 0) "number") (x1 : Ex6 X.K (ec 1) "why") (kis : KpX X.prog X.w X.K X.mg X.base 1 "_law_is" P_is (spIsD T X.K ec)) (kal : KpX X.prog X.w X.K X.mg X.base 1 "_law_alike" P_alike (spAlF T)) :
    Gives5 X N_refused "_law_refused" (defScope s_refused) (defBody s_refused) "_law_work" k (TTr T (SpecH ec)) := by
  intro L g f c' dV cdg s H Q v2 v3 tl hr act h
  obtain ⟨wd, x, St, rfl, hS, h0, stand, hx, q⟩ := h
  have hr0 : Room 1 (X.A.deeper (envOfC "_law_refused" (defScope s_refused) s.heap.objs.size g cdg)) := hr.mono (by omega)
  let ts : Addr → Value → Option Addr → TS := fun a cls d D σ H => cls = .ref x.cls ∧ σ[3]? = some (some (.ref a)) ∧ σ[1]? = some (some (.str wd)) ∧ σ[2]? = some (some v3) ∧ St H ∧ XdS (x.fs.map fun p => (p.1, p.2.v)) d H ∧ ∀ H', St H' → D.rt (.bl true) H'
  have cls : ∃ i, i < 7 ∧ Ei X.K ec i ∧ x.cls = ec i ∧ kw[i]? = some wd := by
    rcases hS with ⟨rfl, n, _, rfl⟩ | ⟨rfl, y, _, rfl⟩
    · exact ⟨0, by decide, ei0, rfl, rfl⟩
    · exact ⟨1, by decide, ei1, rfl, rfl⟩
  obtain ⟨i, hi, ei, ec_i, hw⟩ := cls
  refine ⟨_, pss_cons (L2N.ps_try_as (i := 3) (c := .ref (ec 7)) (ts := ts) rfl rfl sc_refused.nd rfl rfl ⟨rfl, by decide, .inl ek.g7⟩ takes_no (fun W pn xe tk _ => pss_one (ps_expr (act W pn xe _ _ tk))) (fun a oe cls d pn hz hf => ?suite)) (pss_one (ps_ret (pe_bl (b := false)))), ?read⟩
  case suite =>
    refine ⟨fun pins s1 σ1 H1 D I1 h1 => ?_⟩
    obtain ⟨rfl, h3, h4, h5, o1, hxd, q1⟩ := h1
    have hot : Hot1 ((X.A.deeper (envOfC "_law_refused" (defScope s_refused) s.heap.objs.size g cdg)).mark (some (.ref a))) (a, oe) := by
      obtain ⟨vs, hvs⟩ := hf
      exact ⟨rfl, vs, hvs, hz.2.2 vs hvs⟩
    have hrS : RoomH 1 ((X.A.deeper (envOfC "_law_refused" (defScope s_refused) s.heap.objs.size g cdg)).mark (some (.ref a))) := ⟨hr0.dp, hr0.un⟩
    refine PSs.run (pss_cons (ps_if (pt_not (pt_val (pe_callX (X := (cxOf CX0 X.prog X.w X.K X.mg X.base N_refused "_law_refused" (defScope s_refused) g cdg X.A X.stack s H E0).suite a ((a, oe) :: pn)) (p := (a, oe)) kis hrS hot List.mem_cons_self (pa_cons (pv 3) (pa_cons (pv 1) pa_nil))))) (pss_one (ps_ret pe_bl)) pss_nil)
      (pss_cons (ps_if (pt_cmpR op_eq (pv 1) pe_str (nomark _)) (pss_one (ps_ret (pe_callX (X := (cxOf CX0 X.prog X.w X.K X.mg X.base N_refused "_law_refused" (defScope s_refused) g cdg X.A X.stack s H E0).suite a ((a, oe) :: pn)) (p := (a, oe)) kal hrS hot List.mem_cons_self (pa_cons (pe_xf (C := ec 0) x0.xf x0.no hz.zc hf (pv 3)) (pa_cons (pv 2) pa_nil))))) pss_nil)
      (pss_cons (ps_if (pt_cmpR op_eq (pv 1) pe_str (nomark _)) (pss_one (ps_ret (pe_callX (X := (cxOf CX0 X.prog X.w X.K X.mg X.base N_refused "_law_refused" (defScope s_refused) g cdg X.A X.stack s H E0).suite a ((a, oe) :: pn)) (p := (a, oe)) kal hrS hot List.mem_cons_self (pa_cons (pe_xf (C := ec 1) x1.xf x1.no hz.zc hf (pv 3)) (pa_cons (pv 2) pa_nil))))) pss_nil)
      pss_never)))
      pins s1 σ1 H1 D I1 ?_
    -- what stands while _law_is is asked
    obtain ⟨_, _, _, B, oB, back⟩ := stand H1 o1
    obtain ⟨B1, oB1, eB, hd⟩ : ∃ B1, Ok T B1 H1 ∧ Ex B B1 ∧ ∀ y, d = some y → B1 y = some (.xd (x.fs.map fun p => (p.1, p.2.v))) := by
      rcases hxd with ⟨_, rfl⟩ | ⟨_, y, rfl, hy⟩
      · exact ⟨B, oB, Evl.Ex.refl _, fun y e => nomatch e⟩
      · exact ⟨upd B y _, oB.add hy (fun _ z => nomatch z), ex_put oB hy, fun z e => by cases e; exact upd_same⟩
    rw [ec_i] at hz
    refine ⟨_, h3, _, h4, i, wd, B1, d, hi, ei, rfl, oB1, hz.zc, hf, fun y e => ⟨_, hd y e⟩, fun H2 o2 => ⟨_, rfl, ?_⟩⟩
    rw [decide_eq_true hw]
    refine iteF ?_
    have o3 := back H2 (o2.back eB)
    have ne : ∀ y : Str, wd ≠ y → V.bl (decide (V.str wd = V.str y)) = V.bl false := fun y h => by rw [decide_eq_false fun e => h (V.str.inj e)]
    obtain ⟨dd, rfl⟩ : ∃ dd, d = some dd := by
      rcases hxd with ⟨z, _⟩ | ⟨_, y, e, _⟩
      · rcases hS with ⟨_, n, _, rfl⟩ | ⟨_, y, _, rfl⟩ <;> cases z
      · exact ⟨y, e⟩
    obtain ⟨_, _, _, B2, oB2, back2⟩ := stand H2 o3
    have hx2 := o2.ex _ _ (hd dd rfl)
    rcases hS with ⟨rfl, n, rfl, rfl⟩ | ⟨rfl, y, rfl, rfl⟩
    · refine ⟨_, h4, rfl, true, by rw [decide_eq_true rfl], iteT ?_⟩
      exact ⟨_, h3, rfl, rfl, dd, _, .int n, rfl, hx2, rfl, _, h5, .int n, B2, .inl ⟨n, rfl⟩, rfl, oB2, fun H3 o4 => q1 H3 (back2 H3 o4)⟩
    · refine ⟨_, h4, rfl, false, ne "fields" (by decide), iteF ⟨_, h4, rfl, true, by rw [decide_eq_true rfl], iteT ?_⟩⟩
      exact ⟨_, h3, rfl, rfl, dd, _, .str y, rfl, hx2, rfl, _, h5, .str y, B2, .inr ⟨y, rfl⟩, rfl, oB2, fun H3 o4 => q1 H3 (back2 H3 o4)⟩
  case read =>
    obtain ⟨z1, z2, z3, _⟩ := stand H h0
    exact ⟨rfl, z1, z2, z3, hx _ _ fun d H1 s1 xs => ⟨true, by rw [ec_i]; exact ei.exm, fun _ a na => ⟨rfl, rfl, rfl, rfl, s1, xs, q⟩, fun z => nomatch z⟩⟩
end Rw

namespace Ub
open PySem PySem.Spec PyProof.Rows L2
/-! ### a comprehension whose parts know the def's frame as it stood where the block began -/
section
/-- a test where the block's state is the def's but for its own names -/
def tAtT (w : L2.St) (vs : List Nat) (tt : TT) : TT := fun σ H Q => wipe σ vs = w ∧ tt σ H Q
/-- as pe_lc's rule, but the element, the target and the tests are also given the invariant of the def around -/
theorem lc_coreI {X : Cx} {pins : List (Addr × Obj)} {s : Shared} {σ : L2.St} {H : Hp} {Q : VK} {elt tg iter : Expr} {ifs : List Expr} {scope : Scope} {own : List (Str × Nat)} {pos pos' : Pos} {wi : TI} {g : TG} {tt : TT} {te : TE} {use : Option (Value → Sem Unit)} {Qf : Value → Shared → Prop}
    (hc : X.calm = true) (hN : X.N.Nodup) (I : Inv X pins σ H s) (hi : PI X tg iter wi) (ok : BlkOk X.N X.env.scope scope own)
    (hg : ∀ (s : Shared) (H : Hp) (C : Addr) (cl : List (Str × Addr)) (fp : List Addr), PG (X.blk s H scope (compEnvC scope cl C X.env) fp) tg g)
    (ht : ∀ (s : Shared) (H : Hp) (C : Addr) (cl : List (Str × Addr)) (fp : List Addr), Inv X pins σ H s → (∀ b ∈ fp, FpOk X pins H b) → PTs (X.blk s H scope (compEnvC scope cl C X.env) fp) ifs (tAtT (wipe σ (own.map (·.2))) (own.map (·.2)) tt))
    (he : ∀ (s : Shared) (H : Hp) (C : Addr) (cl : List (Str × Addr)) (fp : List Addr), Inv X pins σ H s → (∀ b ∈ fp, FpOk X pins H b) → PE (X.blk s H scope (compEnvC scope cl C X.env) fp) elt te)
    (hs : ∀ x, foldedSetIterable iter X.env x = pure x) (h : tLc wi g tt te (own.map (·.2)) σ H Q)
    (hend : ∀ D C s' m H', Inv X pins σ H' s' → Q (.ref D) H' → s'.heap.Ns C m → FpOk X pins H' C → compPost (model X.prog X.w) X.A X.xe use Qf (.ref D) C (.ok .next) s') :
    wpAny (model X.prog X.w) X.A (comprehension (.ListComp elt [⟨tg, iter, ifs, 0⟩] scope pos) scope X.env pos' (newList []) false (eval iter X.env) use) Qf X.xe s := by
  have free0 : ∀ y ∈ scope.names, y.2 = .free → ∃ c, X.env.cells.lookup y.1 = some c := fun y hy e => (ok.free y hy e).elim (fun z => I.ok.has _ (.inl z)) fun z => I.ok.has _ (.inr z)
  refine wpAny_comprehension_free (use := use) rfl hs (closure_ok free0) ok.kind (fun y hy e => by rw [ok.uniq y hy, e]) (thn (hi.run pins s σ H _ I h) fun xv s1 hx1 => thn hx1 fun itv s2 h2 => ?_)
  obtain ⟨it, fp, tn, J, H2, rfl, I2, T, st2, f2, q⟩ := h2
  refine wpAny_newObj_type (newEnv_comp ?_) (by show 0 ≤ sizeLine; exact Nat.zero_le _)
  generalize hD : s2.heap.objs.size = D
  have nD : H2 D = none := I2.hok.fresh (Nat.le_of_eq hD)
  obtain ⟨W, ⟨m0, w0⟩, turn⟩ := q D nD
  generalize hs3 : ({ s2 with heap := s2.heap.push { cls := .type "list", data := .seq ([] : List Value).toArray } } : Shared) = s3
  have h3 : s3.heap = s2.heap.push { cls := .type "list", data := .seq ([] : List Value).toArray } := by rw [← hs3]
  have I3 : Inv X pins σ (upd H2 D (.lst [])) s3 := by
    rw [← hs3]
    exact I2.laid (t' := s2.toks) (fun b o e => Heap.get?_push_of_some _ e) (Nat.le_of_eq hD) ⟨Nat.zero_le _, [], 0, .nil, by rw [← hD]; exact Heap.get?_push_size _ rfl⟩
  have f3 : ∀ b ∈ fp, FpOk X pins (upd H2 D (.lst [])) b ∧ b < s3.heap.objs.size := fun b hb => by
    obtain ⟨o, eo, _⟩ := T.obj _ _ st2 b hb
    have lt2 := Heap.lt_size eo
    have nbD : b ≠ D := by rw [← hD]; exact Nat.ne_of_lt lt2
    exact ⟨⟨(upd_ne nbD).trans (f2 b hb).1, (f2 b hb).2⟩, by rw [h3, Heap.size_push]; exact Nat.lt_succ_of_lt lt2⟩
  have st3 : tn 0 s3.heap := T.keep _ _ _ st2 fun b _ o e => by rw [h3]; exact Heap.get?_push_of_some _ e
  have I4 := block_start I3 ok hN f3
  have pg := hg s3 (upd H2 D (.lst [])) s3.heap.objs.size (cellsFrom (s3.heap.objs.size + 1) scope.names (cloFrom X.env.cells scope.names [])) fp
  have pt := ht s3 (upd H2 D (.lst [])) s3.heap.objs.size (cellsFrom (s3.heap.objs.size + 1) scope.names (cloFrom X.env.cells scope.names [])) fp I3 fun b hb => (f3 b hb).1
  have pe := he s3 (upd H2 D (.lst [])) s3.heap.objs.size (cellsFrom (s3.heap.objs.size + 1) scope.names (cloFrom X.env.cells scope.names [])) fp I3 fun b hb => (f3 b hb).1
  show codeAny _ _ (.compStart (.ListComp elt [⟨tg, iter, ifs, 0⟩] scope pos) 0 (.ref it) (.ref D) (compEnvC scope (cellsFrom (s3.heap.objs.size + 1) scope.names (cloFrom X.env.cells scope.names [])) s3.heap.objs.size X.env))
    (compPost (model X.prog X.w) X.A X.xe use Qf (.ref D) s3.heap.objs.size) { s3 with heap := pushCells (s3.heap.push { cls := .type "dict", data := .dict #[] }) scope.names }
  have nfp : ∀ b ∈ fp, (upd H2 D (.lst [])) b = none := fun b hb => (f3 b hb).1.1
  have kp4 : ∀ b o, s3.heap.get? b = some o → (pushCells (s3.heap.push { cls := .type "dict", data := .dict #[] }) scope.names).get? b = some o := fun b o e => pushCells_keeps _ _ _ _ (Heap.get?_push_of_some _ e)
  generalize hce : compEnvC scope (cellsFrom (s3.heap.objs.size + 1) scope.names (cloFrom X.env.cells scope.names [])) s3.heap.objs.size X.env = ce at I4 pg pt pe ⊢
  have cL : ce.locals = s3.heap.objs.size := by rw [← hce]; rfl
  generalize hH3 : upd H2 D (.lst []) = H3 at I3 I4 pg pt pe w0 nfp f3
  generalize hs4 : ({ s3 with heap := pushCells (s3.heap.push { cls := .type "dict", data := .dict #[] }) scope.names } : Shared) = s4 at I4 ⊢
  have st4 : tn 0 s4.heap := T.keep _ _ _ st3 fun b _ o e => by rw [← hs4]; exact kp4 b o e
  have fpk : ∀ {σ' : L2.St} {H' : Hp} {s' : Shared}, Inv (X.blk s3 H3 scope ce fp) [] σ' H' s' → (∀ b ∈ fp, H' b = none) → ∀ b ∈ fp, FpOk (X.blk s3 H3 scope ce fp) [] H' b := fun {σ' H' s'} I' hn b hb =>
    ⟨hn b hb, (I'.ok.exf b hb).1, I'.ok.exfs b hb, .inl hb, fun x c e => (I'.ok.exf b hb).2 x c e, fun r hr => absurd (show r ∈ ([] : List (Addr × Obj)) ++ [] from hr) (by simp)⟩
  have loop : codeAny (model X.prog X.w) X.A (.compLoop (.ListComp elt [⟨tg, iter, ifs, 0⟩] scope pos) 0 (.ref it) (.ref D) ce) (compPost (model X.prog X.w) X.A X.xe use Qf (.ref D) s3.heap.objs.size) s4 := by
    refine compLoop_any (fun n s' => ∃ i H', Inv (X.blk s3 H3 scope ce fp) [] (wipe σ (own.map (·.2))) H' s' ∧ tn i s'.heap ∧ (∀ b ∈ fp, H' b = none) ∧ W i n H') ?_ m0 ⟨0, H3, I4, st4, nfp, w0⟩
    rintro n s5 ⟨i, H5, I5, st5, n5, w5⟩
    rcases turn i n H5 w5 with ⟨hstop, qq⟩ | ⟨hgo, Nx, hNx, hstep⟩
    · refine thnF (T.done (X.blk s3 H3 scope ce fp) rfl rfl rfl hc i [] s5 _ H5 (fun _ _ => False) I5 (fpk I5 n5) st5 hstop) fun r s6 ⟨hr, I6⟩ => ?_
      subst hr
      have I7 : Inv X pins σ H5 s6 := I3.call' (ch := fp) I6.os I6.base I6.hok I6.bare fun b hb => ⟨(f3 b hb).1.2.2.2.1, (f3 b hb).1.2.1, (f3 b hb).1.2.2.2.2.1, (f3 b hb).1.2.2.2.2.2⟩
      have nC : H5 s3.heap.objs.size = none := by
        have z : H5 ce.locals = none := I6.free
        rw [cL] at z
        exact z
      obtain ⟨m, hnm, _⟩ := I6.loc
      have hnm : s6.heap.Ns ce.locals m := hnm
      rw [cL] at hnm
      exact hend D s3.heap.objs.size s6 m H5 I7 qq hnm (I3.fpOk (Nat.le_refl _) nC)
    · refine thnF (T.item (X.blk s3 H3 scope ce fp) rfl rfl rfl hc i [] s5 _ H5 (fun _ _ => False) I5 (fpk I5 n5) st5 hgo) fun r s6 ⟨u, hr, h6⟩ => ?_
      subst hr
      refine thnF h6 fun _ s7 ⟨x, H7, I7, r7, y7, st7, n7⟩ => ?_
      have I7q := I7.pinned (fpk I7 n7) (T.obj _ _ st7)
      refine thnF (pg.run _ s7 _ H7 x u _ I7q r7 (hstep x H7 y7)) fun _ s8 ⟨σ8, H8, I8, hw8, q8⟩ => ?_
      refine thnF (pt.run _ s8 σ8 H8 _ I8 ⟨hw8, q8⟩) fun b s9 ⟨H9, I9, q9⟩ => ?_
      have fin : ∀ {s' : Shared} {H' : Hp}, Inv (X.blk s3 H3 scope ce fp) ([] ++ pinsAt fp s7.heap) σ8 H' s' → Nx H' → ∃ m, m < n ∧ ∃ i H', Inv (X.blk s3 H3 scope ce fp) [] (wipe σ (own.map (·.2))) H' s' ∧ tn i s'.heap ∧ (∀ b ∈ fp, H' b = none) ∧ W i m H' := fun {s' H'} I' nx => by
        obtain ⟨m', hm, w'⟩ := hNx H' nx
        have pin' : ∀ b ∈ fp, ∀ o, s7.heap.get? b = some o → s'.heap.get? b = some o ∧ H' b = none := fun b hb o e =>
          let z := I'.pin (b, o) (List.mem_append_right _ (List.mem_append_right _ (mem_pinsAt hb e)))
          ⟨z.1, z.2.1⟩
        have lw : (wipe σ (own.map (·.2))).length = σ8.length := by rw [← hw8, wipe_length]
        refine ⟨m', hm, i + 1, H', (I'.unpinned (pins := [])).weak lw (fun j v e => ?_), T.keep _ _ _ st7 fun b hb o e => (pin' b hb o e).1, fun b hb => ?_, w'⟩
        · rw [← hw8] at e
          exact (wipe_some e).1
        · obtain ⟨o, eo, _⟩ := T.obj _ _ st7 b hb
          exact (pin' b hb o eo).2
      cases b with
      | false =>
        simp only [Bool.false_eq_true, if_false] at q9 ⊢
        exact fin I9 q9
      | true =>
        simp only [if_true] at q9 ⊢
        refine thnF (pe.run _ s9 σ8 H9 _ I9 q9) fun z s10 ⟨yv, H10, I10, r10, acc, hD10, hz10, nx⟩ => ?_
        exact app_ok (X := X.blk s3 H3 scope ce fp) I10 hD10 hz10 r10 fun s11 I11 => fin I11 nx
  exact codeAny_compStart_list loop (T.self X.A 0 _ _ _ st4 loop)
/-- as a value -/
theorem pe_lcI {X : Cx} {elt tg iter : Expr} {ifs : List Expr} {scope : Scope} {own : List (Str × Nat)} {pos : Pos} {wi : TI} {g : TG} {tt : TT} {te : TE} (hc : X.calm = true) (hN : X.N.Nodup) (hi : PI X tg iter wi) (ok : BlkOk X.N X.env.scope scope own)
    (hg : ∀ (s : Shared) (H : Hp) (C : Addr) (cl : List (Str × Addr)) (fp : List Addr), PG (X.blk s H scope (compEnvC scope cl C X.env) fp) tg g)
    (ht : ∀ (pins : List (Addr × Obj)) (σ : L2.St) (s : Shared) (H : Hp) (C : Addr) (cl : List (Str × Addr)) (fp : List Addr), Inv X pins σ H s → (∀ b ∈ fp, FpOk X pins H b) → PTs (X.blk s H scope (compEnvC scope cl C X.env) fp) ifs (tAtT (wipe σ (own.map (·.2))) (own.map (·.2)) tt))
    (he : ∀ (pins : List (Addr × Obj)) (σ : L2.St) (s : Shared) (H : Hp) (C : Addr) (cl : List (Str × Addr)) (fp : List Addr), Inv X pins σ H s → (∀ b ∈ fp, FpOk X pins H b) → PE (X.blk s H scope (compEnvC scope cl C X.env) fp) elt te)
    (hs : ∀ x, foldedSetIterable iter X.env x = pure x := by intro _; rfl) :
    PE X (.ListComp elt [⟨tg, iter, ifs, 0⟩] scope pos) (tLc wi g tt te (own.map (·.2))) := by
  refine ⟨fun pins s σ H Q I h => ?_⟩
  rw [eval_ListComp]
  refine lc_coreI hc hN I hi ok hg (ht pins σ) (he pins σ) hs h fun D C s' m H' I' q hn f => ⟨m, hn, fun hx sb => ?_⟩
  obtain ⟨a0, a1, a2, a3, a4, a5⟩ := f
  exact ⟨.ref D, H', I'.turned (t' := s'.toks) (fun b o hb e => (sb.2 b hb).trans e) a0 a1 a3 a4 a5, rfl, q⟩
end
section
variable {X : Cx} {pins : List (Addr × Obj)} {σ : L2.St} {H HZ : Hp} {s s1 : Shared}
/-- a lambda's frame, entered from a block of its def -/
theorem lam_in6 {fs ex : List Addr} {A : Around} {outer : List Env} {E : XK} {L : LamD} {bs : List Str} {us : List Value} {f c' : Addr} {h1 : Heap} {tk : Nat} (I : Inv X pins σ H s) (P : LamP X.env.scope X.N L bs) (e0 : Env0 X.prog X.w X.K X.mg X.base A outer s1 HZ) (hd : A.handled = none)
    (un : Un fs ex H HZ s.heap s1.heap) (hex : ∀ y c, X.env.cells.lookup y = some c → c ∉ ex) (hns : h1.Ns s1.heap.objs.size fun y => (bs.zip us).reverse.lookup y) (kp : ∀ b o, s1.heap.get? b = some o → h1.get? b = some o) :
    Inv (LamX.lamCx X A outer s1 HZ E L.scope f c') [] σ HZ { s1 with heap := h1, toks := tk } := by
  have fr := P.has I.ok
  have into : ∀ {y c}, (cloFrom X.env.cells L.scope.names []).lookup y = some c → X.env.cells.lookup y = some c := fun {y c} e => by
    rcases cloFrom_mem (PySem.mem_of_lookup e) with z | ⟨z1, z2⟩
    · cases z
    · obtain ⟨c1, q⟩ := fr _ z1 rfl
      have q : X.env.cells.lookup y = some c1 := q
      have : c = c1 := by rw [z2, q] <;> rfl
      rw [this, q]
  have outof : ∀ {y}, L.scope.names.lookup y = some .free → ∃ c, (cloFrom X.env.cells L.scope.names []).lookup y = some c := fun {y} z => mem_lookup (cloFrom_has (cells := X.env.cells) (acc := []) (PySem.mem_of_lookup z))
  have stays : ∀ {y : Str} {c : Addr} {v : Option Value}, X.env.cells.lookup y = some c → H c = none → s.heap.IsCell c v → h1.IsCell c v := fun {y c v} ey n ⟨o, z1, z2⟩ => by
    obtain ⟨sl, q⟩ := un.any z1 n (hex y c ey)
    exact ⟨_, kp _ _ q, z2⟩
  have none_ : ∀ b : Addr, b ∉ (LamX.lamCx X A outer s1 HZ E L.scope f c').ex := fun b z => absurd (show b ∈ ([] : List Addr) from z) (by simp)
  have notMine : ∀ {i : Nat} {y : Str}, X.N[i]? = some y → L.scope.names.lookup y ≠ some .local := fun {i y} e z => P.out y ((P.own _ (PySem.mem_of_lookup z)).2 rfl) (List.mem_of_getElem? e)
  refine ⟨⟨e0.mod, P.kind, rfl, rfl, Nat.le_refl _, fun y z c e1 e2 => I.ok.inj y z c (into e1) (into e2), fun y hy => ?_, fun y c z _ => Bool.noConfusion (show false = true from z), fun _ => hd, Around.frames_deeper e0.frames, .inr ⟨rfl, rfl⟩, fun b z => absurd z (none_ b), e0.bs, e0.bsz, fun b _ _ => none_ b,
      fun b z => absurd z (none_ b), e0.funs, e0.frf⟩,
    rfl, e0.bare, Un.kept kp, ⟨_, hns, fun i y v e1 e2 e3 => ?_⟩, fun y c e => ?_, e0.hok.fresh (Nat.le_refl _), fun y c e => ?_, fun q hq => absurd (show q ∈ ([] : List (Addr × Obj)) ++ [] from hq) (by simp), e0.hok.kept kp, I.len⟩
  · have hy : L.scope.names.lookup y = some .cell ∨ L.scope.names.lookup y = some .free := hy
    exact hy.elim (fun z => absurd rfl (P.own _ (PySem.mem_of_lookup z)).1) outof
  · have e1 : X.N[i]? = some y := e1
    have e3 : Vis L.scope y := e3
    rcases e3 with z | z | z
    · exact absurd z (notMine e1)
    · exact absurd rfl (P.own _ (PySem.mem_of_lookup z)).1
    · obtain ⟨m, hn, hl⟩ := I.loc
      have two := P.free _ (PySem.mem_of_lookup z) rfl
      obtain ⟨w1, r, q⟩ := hl i y v e1 e2 (two.elim (fun k => .inr (.inl k)) fun k => .inr (.inr k))
      obtain ⟨c2, z2⟩ := outof z
      refine ⟨w1, r, .inr ⟨.inr z, c2, z2, ?_⟩⟩
      have z1 := into z2
      rcases q with ⟨k, _⟩ | ⟨_, c3, k, kc⟩
      · have k : X.env.scope.names.lookup y = some .local := k
        rcases two with k2 | k2 <;> rw [show X.env.scope.names.lookup y = _ from k2] at k <;> cases k
      · rw [z1] at k
        cases k
        exact stays z1 (I.freeC y _ z1) kc
  · obtain ⟨v, z⟩ := I.cell y c (into e)
    exact ⟨v, stays (into e) (I.freeC y c (into e)) z⟩
  · obtain ⟨v, o, z1, z2⟩ := I.cell y c (into e)
    exact un.free c o z1 (I.freeC y c (into e)) (hex y c (into e))
theorem act6 {Y : Cx} {HY : Hp} {sY : Shared} {fs ex : List Addr} {CXg : CXT} {Eg : XK} {Ng : List Str} {qg : Str} {sg : Scope} {g f c' : Addr} {cdg dV : Value} {L : LamD} {bs : List Str} {k i : Nat} {a : Str} {pn : List (Addr × Obj)} {xe : Value → Shared → Prop} {W : WX} {tb : XK → TE} {p1 p2 : Pos}
    (I : Inv X pins σ H s) (unY : Un fs ex H HY s.heap sY.heap) (hex : ∀ y c, X.env.cells.lookup y = some c → c ∉ ex) (P : LamP X.env.scope X.N L bs) (hq : L.q = X.env.qual ++ "<lambda>") (hclo : L.clo = cloFrom X.env.cells L.scope.names []) (hb : LamB L bs)
    (tk : L2N.Takes ((cxOf CXg X.prog X.w X.K X.mg X.base Ng qg sg g cdg Y.A Y.stack sY HY Eg).tr pn xe) W) (hr : Room (k + 1) (Y.A.deeper (envOfC qg sg sY.heap.objs.size g cdg)))
    (hbody : ∀ (E : XK) (A : Around) (outer : List Env) (s : Shared) (H : Hp), Room k (A.deeper (LamX.lamEnv X L.scope s.heap.objs.size f c')) → PE (lamCxN X A outer s H E L.scope f c') L.body (tb E))
    (hN : Ng[i]? = some a) (hv : Vis sg a) (hd : (a == ("__debug__" : Str)) = false) (hcd : (a == ("__classdict__" : Str)) = false) :
    PE ((cxOf CXg X.prog X.w X.K X.mg X.base Ng qg sg g cdg Y.A Y.stack sY HY Eg).tr pn xe) (.Call (.Name a p1) [] [] p2) (fun σZ HZ Q => σZ[i]? = some (some (.ref f)) ∧ HZ f = some (FnO f c' L dV) ∧ HZ c' = some (LamX.CodeO c' L.q) ∧ DflAt L dV HZ ∧ tb (L2.WE W σZ) σ HZ Q) := by
  refine ⟨fun pinsZ sZ σZ HZ Q IZ h => ?_⟩
  obtain ⟨hs, hfo, hc, hdf, ht⟩ := h
  refine wpAny_Call_Name_kw (thn ((pe_var (pos := p1) (i := i) hN hv hd hcd).run pinsZ sZ σZ HZ (fun v H1 => v = .ref f ∧ H1 = HZ) IZ ⟨.ref f, hs, rfl, rfl⟩) fun u s1 ⟨v, H1, I1, r1, q1⟩ => ?_)
  obtain ⟨rfl, rfl⟩ := q1
  obtain rfl : u = Value.ref f := r1
  obtain ⟨⟨pm, ctv, hf1⟩, _, _⟩ := I1.hok f _ hfo
  refine PySem.W.callWith_F0 ⟨_, _, _, _, hf1⟩ ?_
  have un0 : Un (frs Y.stack) [] HY H1 sY.heap s1.heap := I1.base
  have un : Un (fs ++ frs Y.stack) ex H H1 s.heap s1.heap := (unY.mono (fun b z => List.mem_append_left _ z) fun b z => z).trans (un0.mono (fun b z => List.mem_append_right _ z) fun b z => absurd z (by simp))
  obtain ⟨⟨oc, vs, tq, hoc, hdc, hvc⟩, _, _⟩ := I1.hok c' _ hc
  have go : ∀ (us : List Value), us.length = bs.length → wpAny (model X.prog X.w) (Y.A.deeper (envOfC qg sg sY.heap.objs.size g cdg)).in1 (newFunctionEnv L.scope mainGlobals L.clo (bs.zip us) (L.q ++ ".<locals>.") (some f) (.ref c') none builtinsNs)
      (fun env s2 => s2.heap.NoLimit ∧ codeAny (model X.prog X.w) (Y.A.deeper (envOfC qg sg sY.heap.objs.size g cdg)) (.expr L.body env) (CR (L2N.CX X.prog X.w) (envOfC qg sg sY.heap.objs.size g cdg :: Y.stack) X.prog X.w H1 s1 Q (L2.WE W σZ)) s2) (fun e s' => CR (L2N.CX X.prog X.w) (envOfC qg sg sY.heap.objs.size g cdg :: Y.stack) X.prog X.w H1 s1 Q (L2.WE W σZ) (.error e) s') s1 := fun us hul => by
    refine wpAny_newFunctionEnv (fun y hy => (P.own y hy).1) (fun y hy => P.par _ (List.of_mem_zip (show (y.1, y.2) ∈ bs.zip us from hy)).1) (fun hq2 hns hsb => ⟨I1.nolimit.fresh _ hsb, ?_⟩) P.kind
    have kp : ∀ b o, s1.heap.get? b = some o → hq2.get? b = some o := fun b o e => hsb.extBut b o (Nat.ne_of_lt (Heap.lt_size e)) (Heap.get?_push_of_some _ e)
    have J := (lam_in6 (tk := s1.toks + (bs.zip us).length) (E := L2.WE W σZ) (f := f) (c' := c') I P I1.env0 hr.hd un hex hns kp).wish fun e s' => wpAny (model X.prog X.w) ((Y.A.deeper (envOfC qg sg sY.heap.objs.size g cdg)).deeper (LamX.lamEnv X L.scope s1.heap.objs.size f c')) (leaving (LamX.lamEnv X L.scope s1.heap.objs.size f c') e)
      (fun _ s'' => L2N.CX X.prog X.w (envOfC qg sg sY.heap.objs.size g cdg :: Y.stack) H1 s1 (L2.WE W σZ) e s'') (fun e' s'' => L2N.CX X.prog X.w (envOfC qg sg sY.heap.objs.size g cdg :: Y.stack) H1 s1 (L2.WE W σZ) e' s'') s'
    have run := (hbody (L2.WE W σZ) _ _ s1 H1 (hr.deeper _)).run [] _ _ H1 Q J ht
    rw [hq, hclo]
    refine PySem.W.kla_codeExpr (wpAny_mono run (fun v s' hq => ?_) fun e s' hq => hq)
    obtain ⟨w', H', J', rv, q⟩ := hq
    exact ⟨w', H', J'.os, J'.bare, J'.base, J'.hok, rv, q⟩
  have rc : codeAny (model X.prog X.w) (Y.A.deeper (envOfC qg sg sY.heap.objs.size g cdg)) (.call (.ref f) ⟨[], []⟩) (CR (L2N.CX X.prog X.w) (envOfC qg sg sY.heap.objs.size g cdg :: Y.stack) X.prog X.w H1 s1 Q (L2.WE W σZ)) s1 := by
    refine PySem.W.kla_callFunE hr.depth hf1 rfl P.co P.gen rfl ⟨c', oc, vs, tq, rfl, hoc, hdc, hvc⟩ ?_
    rcases hb with ⟨d0, b0, hb⟩ | ⟨d, x, d1, b1, hb⟩
    · rcases hdf with ⟨_, rfl⟩ | ⟨n, _⟩
      · rw [hb]
        have z := go [] (by rw [b0]; rfl)
        rw [b0] at z
        exact wpAny_pure z
      · exact absurd d0 n
    · rcases hdf with ⟨n, _⟩ | ⟨_, t, rfl, htu⟩
      · rw [d1] at n
        cases n
      · obtain ⟨its, r, ⟨ot, e1, _, n, e2⟩, _⟩ := I1.tuple (SqT.of (K := X.K) htu)
        have l1 : its.length = 1 := by
          rw [← r.length, d1]
          rfl
        match its, l1 with
        | [u], _ =>
          obtain ⟨k, k1, k2⟩ := hb pm (.ref c') ctv t u
          rw [k1]
          refine wpAny_bind (wpAny_seqItems e1 e2 ?_)
          rw [show ([u] : List Value).toArray = #[u] from rfl, k2]
          have z := go [u] (by rw [b1]; rfl)
          rw [b1] at z
          exact wpAny_pure z
  refine wpAny_call (codeAny_mono rc fun r s' hq => ?_)
  cases r with
  | error e => exact L2N.passAt tk σZ pinsZ _ s1 e s' I1 hq
  | ok fl =>
    cases fl with
    | ret u => exact I1.after hq
    | next => exact False.elim hq
    | brk => exact False.elim hq
    | cont => exact False.elim hq
/-- as tRef5, but from a block: the lambda's body is run in the def's state -/
def tRef6 (X : Cx) (k : Nat) (w0 : L2.St) (TT : TT5) (ta : TA) : TE := fun σ H Q => ta σ H fun vs H2 => ∃ (f c' : Addr) (dV : Value) (L : LamD) (bs : List Str) (t : XK → TE) (v2 v3 : V), vs = [.ref f, v2, v3] ∧ LamK X k L bs t ∧ H2 f = some (FnO f c' L dV) ∧ TT L f c' dV (fun E H' Q' => t E w0 H' Q') v2 v3 H2 Q
theorem pe_ref6 {x a : Str} {k : Nat} {st : Stmt} {ps Ng : List Str} {e1 e2 e3 : Expr} {ta : TA} {p pos : Pos} {TT : TT5} {scope : Scope} {ce : Env} {fp : List Addr} (I0 : Inv X pins σ H s) (hfp : ∀ b ∈ fp, FpOk X pins H b) (D : Df X.K X.mg x st ps) (Sg : FnScope Ng ps (defScope st)) (hlen : ps.length = 3) (hNg : Ng[0]? = some a) (hva : Vis (defScope st) a) (hg : Gl (X.blk s H scope ce fp) x)
    (hG : Gives5 (X.blk s H scope ce fp) Ng x (defScope st) (defBody st) a k TT) (hr : Room (k + 2) X.A) (ha : PA (X.blk s H scope ce fp) [e1, e2, e3] ta)
    (he : starEach [e1, e2, e3] ce = (false, eval e1 ce) :: starEach [e2, e3] ce := by rfl) (hpl : (backTo pos (starEach [e2, e3] ce)).any (·.1) = false := by rfl)
    (hdb : (x == ("__debug__" : Str)) = false := by decide) (hd : (a == ("__debug__" : Str)) = false := by decide) (hcd : (a == ("__classdict__" : Str)) = false := by decide) :
    PE (X.blk s H scope ce fp) (.Call (.Name x p) [e1, e2, e3] [] pos) (tRef6 X k σ TT ta) := by
  obtain ⟨g, fd, F, hm, hb⟩ := D.ex
  have hk := F.kp
  obtain ⟨oc, od, kV, doc, pm, an, cdv, ct, osl, rfl, lk, hcg⟩ := F.ex
  refine ⟨fun pinsY sY σY HY Q IY h => ?_⟩
  refine wpAny_Call_Name_kw (ld_glob IY hg hm ?_ hdb)
  refine PySem.W.callWith_K (h₀ := X.base) IY.ok.mod.kin hk (thn (ha.run pos pinsY sY σY HY _ IY h) fun us s2 hh => ?_) he hpl
  obtain ⟨vs, H2, I2, rv, f, c', dV, L, bs, t, v2, v3, rfl, lamk, hf, htt⟩ := hh
  refine ⟨I2.kIn, ?_⟩
  have hus : us.length = ps.length := by rw [← rv.length, hlen] <;> rfl
  have rc : codeAny (model X.prog X.w) X.A (.call (.ref g) ⟨us, []⟩) (CR CX0 (X.blk s H scope ce fp).stack X.prog X.w H2 s2 Q E0) s2 := by
    refine LamX.run_ofS (N := Ng) (ps := ps) (us := us) (vs := [.ref f, v2, v3]) lk hcg Sg hr I2.env0 (by have b := hb s2 us I2.kIn (by rw [List.append_nil]; exact hus); rw [List.append_nil] at b; exact b) rv (by rw [hlen]; rfl) fun hr' => ?_
    exact hG L g f c' dV cdv s2 H2 Q v2 v3 _ hr' (fun W pn xe p1 p2 tk => act6 (Y := X.blk s H scope ce fp) (i := 0) I0 I2.base (fun y c e hc => (hfp c hc).2.2.2.2.1 y c e rfl) lamk.p lamk.q lamk.clo lamk.b tk hr' (fun E A outer s H hr2 => lamk.body E A outer s H f c' hr2) hNg hva hd hcd) htt
  refine wpAny_call (codeAny_mono rc fun r s3 hq => ?_)
  cases r with
  | error e => exact (show False from hq).elim
  | ok fl =>
    cases fl with
    | ret u => exact I2.after hq
    | next => exact False.elim hq
    | brk => exact False.elim hq
    | cont => exact False.elim hq
def tAtE (w : L2.St) (vs : List Nat) (te : TE) : TE := fun σ H Q => L2.wipe σ vs = w ∧ te σ H Q
def tRef6w (X : Cx) (k : Nat) (vs : List Nat) (TT : TT5) (ta : TA) : TE := fun σ H Q => tRef6 X k (L2.wipe σ vs) TT ta σ H Q
theorem pe_at6 {Y : Cx} {e : Expr} {k : Nat} {w0 : L2.St} {vs : List Nat} {TT : TT5} {ta : TA} (h : PE Y e (tRef6 X k w0 TT ta)) : PE Y e (tAtE w0 vs (tRef6w X k vs TT ta)) :=
  ⟨fun pins s σ H Q I ⟨z1, z2⟩ => h.run pins s σ H Q I (by subst z1; exact z2)⟩
end
section
variable {K : PySem.W.Frag} {T : Tb} {A B : Hp} {dc : Option Addr} {C H : Hp} {σ : L2.St} {ρ : List Sl} {α : Nat → Addr} {P : Ag → Prop}
/-- the def told, in a block, of a lambda that is data -/
theorem we_ref6v {X : Cx} {k j : Nat} {vs : List Nat} {S : Str → V → Xd → Prop} {SX : SpX} {tas : TA} {te3 : TE} {L : LamD} {bs N : List Str} {sc : Scope} {wd : Str} {v3 : V} {x : Xd} (hv : noOwn ρ vs = true) (hj : ρ[j]? = some (Sl.dat (.lam L))) (lp : LamP sc N L bs) (hsc : X.env.scope = sc) (hNN : X.N = N) (lq : L.q = X.env.qual ++ "<lambda>") (lc : L.clo = cloFrom X.env.cells L.scope.names []) (lb : LamB L bs)
    (lbody : ∀ (E : XK) (A : Around) (outer : List Env) (s : Shared) (H : Hp) (f c' : Addr), Room k (A.deeper (LamX.lamEnv X L.scope s.heap.objs.size f c')) → PE (lamCxN X A outer s H E L.scope f c') L.body (tCall (spX K T SX) [] E tas))
    (h3 : Still te3 ρ v3) (hS : S wd v3 x) (h : Ub.WA K T tas (wipeS ρ vs) fun gs => gs.all Ag.isD = true ∧ SX (gs.map Ag.d) (fun _ => False) fun y => y = x) (p : P (.dat (.bl true))) : Ub.WE K T (tRef6w X k vs (TTr T S) (tCons (tVar j) (tCons (tC (.str wd)) (tCons te3 tNil)))) ρ P := fun ⦃A B dc C H σ α⦄ R Q q => by
  obtain ⟨v, hvv, z⟩ := R.dat hj
  cases z with
  | @lam f c' _ dV hf hc hd =>
    have lk : LamK X k L bs fun E => tCall (spX K T SX) [] E tas := ⟨by rw [hsc, hNN]; exact lp, lq, lc, lb, lbody⟩
    refine ⟨_, hvv, h3 R _ ⟨f, c', dV, L, bs, _, .str wd, v3, rfl, lk, R.okC.ex _ _ hf, ?_⟩⟩
    refine ⟨wd, x, fun H' => ∃ C', Rep K T A B dc C' H' σ ρ α ∧ Ex C C', rfl, hS, ⟨C, R, Evl.Ex.refl _⟩, fun H2 ⟨C2, R', e⟩ => ⟨R'.okC.ex _ _ (e _ _ hf), R'.okC.ex _ _ (e _ _ hc), hd.imp id fun ⟨n, t, z1, z2⟩ => ⟨n, t, z1, R'.okC.ex _ _ (e _ _ z2)⟩, ?_⟩, fun E Q' hE => ?_, fun H' ⟨C', R', e⟩ => q _ _ C' H' p R' e (.bl true)⟩
    · obtain ⟨F, o, _, _, back⟩ := rep_frame2 R'
      exact ⟨F, o, fun H' o' => ⟨C2, back H' o', e⟩⟩
    · refine callX_E (R.wipe vs) h (fun r v C' H' z => z.elim) fun y cls d C' H' ey R' e z => ?_
      subst ey
      obtain ⟨z1, z2⟩ := z
      subst z1
      exact hE d H' ⟨C', R.unwipe hv R' e, e⟩ (z2.imp (fun ⟨n1, n2⟩ => ⟨by rw [n1] <;> rfl, n2⟩) fun ⟨n1, a, n2, _, _, _, n3⟩ => ⟨fun w => n1 (List.map_eq_nil_iff.mp w), a, n2, n3⟩)
/-- if not f(..) as a test, where the block's state is known -/
theorem pts_not6 {Y : Cx} {e : Expr} {pos : Pos} {w0 : L2.St} {vs : List Nat} {te : TE} (h : PE Y e (tAtE w0 vs te)) (he : ∀ whole, isTrue e Y.env whole = (do let v ← whole; standAt e.pos; holding [v] (truthy v)) := by intro _; rfl) : PTs Y [.UnaryOp .Not e pos] (tAtT w0 vs (tNot (tB te))) :=
  pts_one (show PT Y (.UnaryOp .Not e pos) (tNot (tB (tAtE w0 vs te))) from pt_not (pt_val h he))
/-- the def's invariant at the block's entry, of the state without the block's own names -/
theorem inv_wiped {X : Cx} {pins : List (Addr × Obj)} {σ : L2.St} {H : Hp} {s : Shared} {vs : List Nat} (I : Inv X pins σ H s) : Inv X pins (L2.wipe σ vs) H s := I.weak (L2.wipe_length _ _) fun i v e => (wipe_some e).1
end
end Ub

namespace Ub
open PySem PySem.Spec PyProof.Rows L2
/-! ### cells that a frame left -/
def mask (cs : List Addr) (H : Hp) : Hp := fun a => if a ∈ cs then none else H a
def unm (cs : List Addr) (HZ H : Hp) : Hp := fun a => match H a with
  | some o => some o
  | none => if a ∈ cs then HZ a else none
def CellsIn (cs : List Addr) (H : Hp) : Prop := ∀ c ∈ cs, ∃ v, H c = some (CellO c v)
section
variable {P : Program} {w : World} {cs : List Addr} {H HZ H' : Hp} {h h' B : Heap} {T : Tb}
theorem mask_in {a : Addr} (h : a ∈ cs) : mask cs H a = none := if_pos h
theorem mask_out {a : Addr} (h : a ∉ cs) : mask cs H a = H a := if_neg h
theorem mask_some {a : Addr} {o : HO} (h : mask cs H a = some o) : a ∉ cs ∧ H a = some o := by
  unfold mask at h
  split at h
  · cases h
  · exact ⟨by assumption, h⟩
theorem unm_some {a : Addr} {o : HO} (e : H' a = some o) : unm cs HZ H' a = some o := by
  unfold unm
  rw [e]
theorem unm_cell {a : Addr} (m : a ∈ cs) (e : H' a = none) : unm cs HZ H' a = HZ a := by
  unfold unm
  rw [e]
  exact if_pos m
theorem unm_none {a : Addr} (m : a ∉ cs) (e : H' a = none) : unm cs HZ H' a = none := by
  unfold unm
  rw [e]
  exact if_neg m
theorem unm_ext : Ex H' (unm cs HZ H') := fun _ _ e => unm_some e
theorem cell_no_own {c y : Addr} {v : V} (h : HZ c = some (CellO c v)) (e : HZ c = some (.own y)) : False := by
  rw [h] at e
  cases e
theorem cell_no_tup {c : Addr} {v : V} {xs : List V} (h : HZ c = some (CellO c v)) (e : HZ c = some (.tup xs)) : False := by
  rw [h] at e
  cases e
theorem hok_mask (ok : HOk P w HZ h) (ci : CellsIn cs HZ) : HOk P w (mask cs HZ) h := fun a o e => by
  obtain ⟨n, e⟩ := mask_some e
  refine (ok a o e).stay (fun b u _ q => q) (fun b q => ?_) fun b xs q => ?_
  · rw [mask_out fun m => ?_]
    · exact q
    · obtain ⟨v, z⟩ := ci b m
      exact cell_no_own z q
  · rw [mask_out fun m => ?_]
    · exact q
    · obtain ⟨v, z⟩ := ci b m
      exact cell_no_tup z q
theorem cellO_ok {c : Addr} {v : V} (x : ObjOk P w HZ h c (CellO c v)) (k : ∀ o, h.get? c = some o → h'.get? c = some o) : ObjOk P w H' h' c (CellO c v) := by
  obtain ⟨p, ⟨o, e⟩, st⟩ := x
  exact ⟨st _ _ p k, ⟨o, k _ e⟩, st⟩
theorem hok_unm (ok : HOk P w HZ h) (ci : CellsIn cs HZ) (ok' : HOk P w H' h') (k : ∀ c ∈ cs, ∀ o, h.get? c = some o → h'.get? c = some o) : HOk P w (unm cs HZ H') h' := fun a o e => by
  cases q : H' a with
  | some u =>
    rw [unm_some q] at e
    cases e
    exact (ok' a _ q).stay (fun b u _ q => q) (fun b q => unm_some q) fun b xs q => unm_some q
  | none =>
    by_cases m : a ∈ cs
    · rw [unm_cell m q] at e
      obtain ⟨v, z⟩ := ci a m
      rw [z] at e
      cases e
      exact cellO_ok (ok a _ z) (k a m)
    · rw [unm_none m q] at e
      cases e
theorem un_mask {fs : List Addr} (ci : CellsIn cs HZ) (nf : ∀ b ∈ fs, HZ b = none) (u : Un fs [] (mask cs HZ) H' h h') : Un fs [] HZ (unm cs HZ H') h h' where
  keep := fun b o e n hb hx => u.keep b o e (by by_cases m : b ∈ cs; exact mask_in m; rw [mask_out m]; exact n) hb hx
  slot := fun b o e n hb hx => u.slot b o e (by by_cases m : b ∈ cs; exact mask_in m; rw [mask_out m]; exact n) hb hx
  free := fun b o e n hx => by
    have m : b ∉ cs := fun m => by
      obtain ⟨v, z⟩ := ci b m
      rw [z] at n
      cases n
    exact unm_none m (u.free b o e (by rw [mask_out m]; exact n) hx)
  there := u.there
  tups := fun b xs e => unm_some (u.tups b xs (by rw [mask_out fun m => ?_]; exact e; obtain ⟨v, z⟩ := ci b m; exact cell_no_tup z e))
  frzs := fun b o x e => unm_some (u.frzs b o x (by rw [mask_out fun m => ?_]; exact e; obtain ⟨v, z⟩ := ci b m; rw [z] at e; cases e))
  tbls := fun b ps e => by
    obtain ⟨more, q⟩ := u.tbls b ps (by rw [mask_out fun m => ?_]; exact e; obtain ⟨v, z⟩ := ci b m; rw [z] at e; cases e)
    exact ⟨more, unm_some q⟩
theorem cr_unm {outer : List Env} {s : Shared} {Q : VK} {E : XK} {r : Result} {s' : Shared} (ok : HOk P w HZ s.heap) (ci : CellsIn cs HZ) (nf : ∀ b ∈ frs outer, HZ b = none)
    (h : CR (L2N.CX P w) outer P w (mask cs HZ) s (fun v H' => (∀ c ∈ cs, H' c = none) → Q v (unm cs HZ H')) (fun c d H' => (∀ c ∈ cs, H' c = none) → E c d (unm cs HZ H')) r s') : CR (L2N.CX P w) outer P w HZ s Q E r s' := by
  have nfc : ∀ c ∈ cs, c ∉ frs outer := fun c m z => by
    obtain ⟨v, q⟩ := ci c m
    rw [nf c z] at q
    cases q
  cases r with
  | error e =>
    obtain ⟨a, B, H', cls, d, rfl, fl, hk, ub, na, os, ag, q⟩ := (show L2N.CX P w outer (mask cs HZ) s _ e s' from h)
    have kb : ∀ c ∈ cs, ∀ o, s.heap.get? c = some o → B.get? c = some o := fun c m o e => ub.keep c o e (mask_in m) (nfc c m)
    have nc : ∀ c ∈ cs, H' c = none := fun c m => by
      obtain ⟨v, z⟩ := ci c m
      obtain ⟨_, ⟨o, e⟩, _⟩ := ok c _ z
      exact ub.free c o e (mask_in m)
    refine (show L2N.CX P w outer HZ s E (.ref a) s' from ⟨a, B, unm cs HZ H', cls, d, rfl, fl, hok_unm ok ci hk kb, ?_, ?_, os, ag, q nc⟩)
    · refine ⟨fun b o e n hb => ub.keep b o e (by by_cases m : b ∈ cs; exact mask_in m; rw [mask_out m]; exact n) hb, ub.slot, fun b o e n => ?_, ub.there, fun b xs e => ?_, fun b o x e => ?_, fun b ps e => ?_⟩
      · have m : b ∉ cs := fun m => by
          obtain ⟨v, z⟩ := ci b m
          rw [z] at n
          cases n
        exact unm_none m (ub.free b o e (by rw [mask_out m]; exact n))
      · exact unm_some (ub.tups b xs (by rw [mask_out fun m => ?_]; exact e; obtain ⟨v, z⟩ := ci b m; exact cell_no_tup z e))
      · exact unm_some (ub.frzs b o x (by rw [mask_out fun m => ?_]; exact e; obtain ⟨v, z⟩ := ci b m; rw [z] at e; cases e))
      · obtain ⟨more, q⟩ := ub.tbls b ps (by rw [mask_out fun m => ?_]; exact e; obtain ⟨v, z⟩ := ci b m; rw [z] at e; cases e)
        exact ⟨more, unm_some q⟩
    · refine unm_none (fun m => ?_) na
      obtain ⟨v, z⟩ := ci a m
      obtain ⟨p, ⟨o, e⟩, _⟩ := ok a _ z
      have z2 := kb a m o e
      rw [fl.2.1] at z2
      cases z2
  | ok fl =>
    cases fl with
    | ret u =>
      obtain ⟨v, H', os, ag, un, hk, rv, q⟩ := (show CE outer P w (mask cs HZ) s _ u s' from h)
      have nc : ∀ c ∈ cs, H' c = none := fun c m => by
        obtain ⟨v, z⟩ := ci c m
        obtain ⟨_, ⟨o, e⟩, _⟩ := ok c _ z
        exact un.free c o e (mask_in m) (by simp)
      exact (show CE outer P w HZ s Q u s' from ⟨v, unm cs HZ H', os, ag, un_mask ci nf un, hok_unm ok ci hk (fun c m o e => un.keep c o e (mask_in m) (nfc c m) (by simp)), rv, q nc⟩)
    | next => exact h
    | brk => exact h
    | cont => exact h
end
/-! ### its lambda, called from anywhere -/
theorem CellsAt.len {B : Hp} : ∀ {l : List (Str × Addr)} {vs : List V}, CellsAt B l vs → vs.length = l.length
  | [], [], _ => rfl
  | _ :: _, _ :: _, h => by simp [CellsAt.len h.2]
  | [], _ :: _, h => h.elim
  | _ :: _, [], h => h.elim
theorem CellsAt.get {B : Hp} : ∀ {l : List (Str × Addr)} {vs : List V} {i : Nat} {p : Str × Addr}, CellsAt B l vs → l[i]? = some p → ∃ v, vs[i]? = some v ∧ B p.2 = some (CellO p.2 v)
  | [], [], _, _, _, e => by simp at e
  | p :: l, v :: vs, 0, _, h, e => by cases e; exact ⟨v, rfl, h.1⟩
  | p :: l, v :: vs, i + 1, q, h, e => by
    obtain ⟨u, h1, h2⟩ := CellsAt.get (i := i) h.2 (by simpa using e)
    exact ⟨u, by simpa using h1, h2⟩
  | [], _ :: _, _, _, h, _ => h.elim
  | _ :: _, [], _, _, h, _ => h.elim
theorem CellsAt.all {B : Hp} {l : List (Str × Addr)} {vs : List V} (h : CellsAt B l vs) : CellsIn (l.map (·.2)) B := fun c hc => by
  obtain ⟨p, hp, rfl⟩ := List.mem_map.mp hc
  obtain ⟨i, hi⟩ := List.getElem?_of_mem hp
  obtain ⟨v, _, z⟩ := h.get hi
  exact ⟨v, z⟩
abbrev cad (L : LamD) : List Addr := L.clo.map (·.2)
/-- what is asked of the text of a lambda that stands alone -/
structure CloP (L : LamD) (bs : List Str) : Prop where
  kind : L.scope.kind = .function
  co : L.scope.isCoroutine = false
  gen : L.scope.isGenerator = false
  own : ∀ y ∈ L.scope.names, y.2 ≠ .cell ∧ (y.2 = .local → y.1 ∈ bs)
  par : ∀ y ∈ bs, L.scope.names.lookup y = some .local
  free : ∀ y ∈ L.scope.names, y.2 = .free → y.1 ∈ L.clo.map (·.1)
  out : ∀ y ∈ bs, y ∉ L.clo.map (·.1)
abbrev cloEnv (L : LamD) (l f c' : Addr) : Env := PySem.W.envX L.q L.scope l f (.ref c') L.clo
/-- the context of its body, entered at s from the frames outer -/
def cloCx (P : Program) (w : World) (K : PySem.W.Frag) (mg : Str → Option Value) (base : Heap) (A : Around) (outer : List Env) (s : Shared) (H : Hp) (E : XK) (L : LamD) (f c' : Addr) : Cx where
  prog := P
  w := w
  K := K
  mg := mg
  base := base
  A := A.deeper (cloEnv L s.heap.objs.size f c')
  N := L.clo.map (·.1)
  s_0 := s
  H_0 := H
  env := cloEnv L s.heap.objs.size f c'
  outer := outer
  stack := cloEnv L s.heap.objs.size f c' :: outer
  ex := []
  fn := fun _ => false
  calm := true
  pn := []
  xe := fun e s' => wpAny (model P w) (A.deeper (cloEnv L s.heap.objs.size f c')) (leaving (cloEnv L s.heap.objs.size f c') e) (fun _ s'' => L2N.CX P w outer H s E e s'') (fun e' s'' => L2N.CX P w outer H s E e' s'') s'
theorem lookup_at {l : List (Str × Addr)} (nd : (l.map (·.1)).Nodup) : ∀ {i : Nat} {p : Str × Addr}, l[i]? = some p → l.lookup p.1 = some p.2 := by
  induction l with
  | nil => intro i p e; simp at e
  | cons q l ih =>
    intro i p e
    rw [List.map_cons, List.nodup_cons] at nd
    cases i with
    | zero =>
      cases e
      rw [List.lookup_cons, beq_self_eq_true]
    | succ i =>
      have e2 : l[i]? = some p := by simpa using e
      have ne : (p.1 == q.1) = false := by
        rw [beq_eq_false_iff_ne]
        intro z
        exact nd.1 (List.mem_map.mpr ⟨p, List.mem_of_getElem? e2, z⟩)
      rw [List.lookup_cons, ne]
      exact ih nd.2 e2
theorem lookup_in {l : List (Str × Addr)} {y : Str} {c : Addr} (h : l.lookup y = some c) : c ∈ l.map (·.2) := List.mem_map.mpr ⟨(y, c), PySem.mem_of_lookup h, rfl⟩
section
variable {P : Program} {w : World} {K : PySem.W.Frag} {mg : Str → Option Value} {base : Heap}
theorem env0_mask {A : Around} {outer : List Env} {s : Shared} {H : Hp} {cs : List Addr} (e0 : Env0 P w K mg base A outer s H) (ci : CellsIn cs H) : Env0 P w K mg base A outer s (mask cs H) :=
  ⟨e0.frames, e0.mod, fun b o e => ⟨(e0.bs b o e).1, by by_cases m : b ∈ cs; exact mask_in m; rw [mask_out m]; exact (e0.bs b o e).2⟩, e0.bsz, e0.funs, fun b hb => by by_cases m : b ∈ cs; exact mask_in m; rw [mask_out m]; exact e0.frf b hb, hok_mask e0.hok ci, e0.bare⟩
theorem cell_at {H : Hp} {h : Heap} {c : Addr} {v : V} (ok : HOk P w H h) (e : H c = some (CellO c v)) : ∃ u, RelV v u ∧ h.IsCell c (some u) := (ok c _ e).1
theorem cell_keep {h h' : Heap} {c : Addr} {v : Option Value} (k : ∀ b o, h.get? b = some o → h'.get? b = some o) : h.IsCell c v → h'.IsCell c v := fun ⟨o, e, d⟩ => ⟨o, k _ _ e, d⟩
theorem clo_in {A : Around} {outer : List Env} {E : XK} {L : LamD} {bs : List Str} {us : List Value} {vals : List V} {f c' : Addr} {h1 : Heap} {tk : Nat} {HZ : Hp} {s1 : Shared} (CP : CloP L bs) (CO : CloOk L.clo) (e0 : Env0 P w K mg base A outer s1 HZ) (hd : A.handled = none) (ca : CellsAt HZ L.clo vals)
    (hns : h1.Ns s1.heap.objs.size fun y => (bs.zip us).reverse.lookup y) (kp : ∀ b o, s1.heap.get? b = some o → h1.get? b = some o) :
    Inv (cloCx P w K mg base A outer s1 (mask (cad L) HZ) E L f c') [] (vals.map some) (mask (cad L) HZ) { s1 with heap := h1, toks := tk } := by
  have e1 := env0_mask e0 ca.all
  have none_ : ∀ b : Addr, b ∉ (cloCx P w K mg base A outer s1 (mask (cad L) HZ) E L f c').ex := fun b z => absurd (show b ∈ ([] : List Addr) from z) (by simp)
  have cells : ∀ {y c}, L.clo.lookup y = some c → ∃ v, HZ c = some (CellO c v) := fun {y c} e => ca.all c (lookup_in e)
  refine ⟨⟨e1.mod, CP.kind, rfl, rfl, Nat.le_refl _, CO.inj, fun y hy => ?_, fun y c z _ => Bool.noConfusion (show false = true from z), fun _ => hd, Around.frames_deeper e1.frames, .inr ⟨rfl, rfl⟩, fun b z => absurd z (none_ b), e1.bs, e1.bsz, fun b _ _ => none_ b, fun b z => absurd z (none_ b), e1.funs, e1.frf⟩,
    rfl, e1.bare, Un.kept kp, ⟨_, hns, fun i y v h1 h2 h3 => ?_⟩, fun y c e => ?_, e1.hok.fresh (Nat.le_refl _), fun y c e => mask_in (lookup_in e), fun q hq => absurd (show q ∈ ([] : List (Addr × Obj)) ++ [] from hq) (by simp), e1.hok.kept kp, by rw [List.length_map, ca.len]; exact (List.length_map ..).symm⟩
  · have hy : L.scope.names.lookup y = some .cell ∨ L.scope.names.lookup y = some .free := hy
    rcases hy with z | z
    · exact absurd rfl (CP.own _ (PySem.mem_of_lookup z)).1
    · have m := CP.free _ (PySem.mem_of_lookup z) rfl
      obtain ⟨p, hp, e⟩ := List.mem_map.mp m
      obtain ⟨i, hi⟩ := List.getElem?_of_mem hp
      have := lookup_at CO.nd hi
      rw [e] at this
      exact ⟨_, this⟩
  · have h1' : (L.clo.map (·.1))[i]? = some y := h1
    have h3 : Vis L.scope y := h3
    have ym : y ∈ L.clo.map (·.1) := List.mem_of_getElem? h1'
    rcases h3 with z | z | z
    · exact absurd ym (CP.out y ((CP.own _ (PySem.mem_of_lookup z)).2 rfl))
    · exact absurd rfl (CP.own _ (PySem.mem_of_lookup z)).1
    · rw [List.getElem?_map] at h1' h2
      obtain ⟨p, hp, rfl⟩ := Option.map_eq_some_iff.mp h1'
      obtain ⟨v', hv', cv⟩ := ca.get hp
      rw [hv'] at h2
      cases h2
      obtain ⟨u, ru, ic⟩ := cell_at e0.hok cv
      exact ⟨u, ru, .inr ⟨.inr z, p.2, lookup_at CO.nd hp, cell_keep kp ic⟩⟩
  · obtain ⟨v, z⟩ := cells (show L.clo.lookup y = some c from e)
    obtain ⟨u, _, ic⟩ := cell_at e0.hok z
    exact ⟨_, cell_keep kp ic⟩
end
end Ub

namespace Ub
open PySem PySem.Spec PyProof.Rows L2
section
variable {X : Cx} {pins : List (Addr × Obj)} {σ : L2.St} {H : Hp} {s : Shared}
theorem clo_takes {P : Program} {w : World} {K : PySem.W.Frag} {mg : Str → Option Value} {base : Heap} {A : Around} {outer : List Env} {s : Shared} {H : Hp} {E : XK} {L : LamD} {f c' : Addr} : L2N.Takes (cloCx P w K mg base A outer s H E L f c') (fun cls d _ H' => E cls d H') := L2N.takes_of rfl rfl rfl rfl
theorem clo_pass {P : Program} {w : World} {K : PySem.W.Frag} {mg : Str → Option Value} {base : Heap} {A : Around} {outer : List Env} {s : Shared} {H : Hp} {E : XK} {L : LamD} {f c' : Addr} : Passes (L2N.CX P w) (cloCx P w K mg base A outer s H E L f c') E := L2N.passes_call (X := cloCx P w K mg base A outer s H E L f c') clo_takes fun _ _ _ _ h => h
/-- what its body asks, of the heap without its cells -/
def tClo (tb : XK → TE) (L : LamD) (vals : List V) (E : XK) (H : Hp) (Q : VK) : Prop := CellsAt H L.clo vals ∧ tb (fun c d H' => (∀ c ∈ cad L, H' c = none) → E c d (unm (cad L) H H')) (vals.map some) (mask (cad L) H) fun v H' => (∀ c ∈ cad L, H' c = none) → Q v (unm (cad L) H H')
/-- work(), in the def that got it -/
theorem act7 {CXg : CXT} {Eg : XK} {Ng : List Str} {qg : Str} {sg : Scope} {g f c' : Addr} {cdg dV : Value} {L : LamD} {bs : List Str} {vals : List V} {k i : Nat} {a : Str} {pn : List (Addr × Obj)} {xe : Value → Shared → Prop} {W : WX} {tb : XK → TE} {p1 p2 : Pos}
    (P : CloP L bs) (CO : CloOk L.clo) (hb : LamB L bs)
    (tk : L2N.Takes ((cxOf CXg X.prog X.w X.K X.mg X.base Ng qg sg g cdg X.A X.stack s H Eg).tr pn xe) W) (hr : Room (k + 1) (X.A.deeper (envOfC qg sg s.heap.objs.size g cdg)))
    (hbody : ∀ (E : XK) (A : Around) (outer : List Env) (s : Shared) (H : Hp), Room k (A.deeper (cloEnv L s.heap.objs.size f c')) → PE (cloCx X.prog X.w X.K X.mg X.base A outer s H E L f c') L.body (tb E))
    (hN : Ng[i]? = some a) (hv : Vis sg a) (hd : (a == ("__debug__" : Str)) = false) (hcd : (a == ("__classdict__" : Str)) = false) :
    PE ((cxOf CXg X.prog X.w X.K X.mg X.base Ng qg sg g cdg X.A X.stack s H Eg).tr pn xe) (.Call (.Name a p1) [] [] p2) (fun σZ HZ Q => σZ[i]? = some (some (.ref f)) ∧ HZ f = some (FnO f c' L dV) ∧ HZ c' = some (LamX.CodeO c' L.q) ∧ DflAt L dV HZ ∧ tClo tb L vals (L2.WE W σZ) HZ Q) := by
  refine ⟨fun pinsZ sZ σZ HZ Q IZ h => ?_⟩
  obtain ⟨hs, hfo, hc, hdf, ca, ht⟩ := h
  refine wpAny_Call_Name_kw (thn ((pe_var (pos := p1) (i := i) hN hv hd hcd).run pinsZ sZ σZ HZ (fun v H1 => v = .ref f ∧ H1 = HZ) IZ ⟨.ref f, hs, rfl, rfl⟩) fun u s1 ⟨v, H1, I1, r1, q1⟩ => ?_)
  obtain ⟨rfl, rfl⟩ := q1
  obtain rfl : u = Value.ref f := r1
  obtain ⟨⟨pm, ctv, hf1⟩, _, _⟩ := I1.hok f _ hfo
  refine PySem.W.callWith_F0 ⟨_, _, _, _, hf1⟩ ?_
  obtain ⟨⟨oc, vs, tq, hoc, hdc, hvc⟩, _, _⟩ := I1.hok c' _ hc
  have e0 := I1.env0
  have go : ∀ (us : List Value), us.length = bs.length → wpAny (model X.prog X.w) (X.A.deeper (envOfC qg sg s.heap.objs.size g cdg)).in1 (newFunctionEnv L.scope mainGlobals L.clo (bs.zip us) (L.q ++ ".<locals>.") (some f) (.ref c') none builtinsNs)
      (fun env s2 => s2.heap.NoLimit ∧ codeAny (model X.prog X.w) (X.A.deeper (envOfC qg sg s.heap.objs.size g cdg)) (.expr L.body env) (CR (L2N.CX X.prog X.w) (envOfC qg sg s.heap.objs.size g cdg :: X.stack) X.prog X.w H1 s1 Q (L2.WE W σZ)) s2) (fun e s' => CR (L2N.CX X.prog X.w) (envOfC qg sg s.heap.objs.size g cdg :: X.stack) X.prog X.w H1 s1 Q (L2.WE W σZ) (.error e) s') s1 := fun us hul => by
    refine wpAny_newFunctionEnv (fun y hy => (P.own y hy).1) (fun y hy => P.par _ (List.of_mem_zip (show (y.1, y.2) ∈ bs.zip us from hy)).1) (fun hq2 hns hsb => ⟨I1.nolimit.fresh _ hsb, ?_⟩) P.kind
    have kp : ∀ b o, s1.heap.get? b = some o → hq2.get? b = some o := fun b o e => hsb.extBut b o (Nat.ne_of_lt (Heap.lt_size e)) (Heap.get?_push_of_some _ e)
    have J := clo_in (tk := s1.toks + (bs.zip us).length) (E := fun c d H' => (∀ c ∈ cad L, H' c = none) → L2.WE W σZ c d (unm (cad L) H1 H')) (f := f) (c' := c') P CO e0 hr.hd ca hns kp
    have run := (hbody _ _ _ s1 _ (hr.deeper _)).run [] _ _ _ _ J ht
    refine codeAny_mono (PySem.W.kla_codeExpr (R := CR (L2N.CX X.prog X.w) (envOfC qg sg s.heap.objs.size g cdg :: X.stack) X.prog X.w (mask (cad L) H1) s1 (fun v H' => (∀ c ∈ cad L, H' c = none) → Q v (unm (cad L) H1 H')) (fun c d H' => (∀ c ∈ cad L, H' c = none) → L2.WE W σZ c d (unm (cad L) H1 H'))) (wpAny_mono run (fun v s' hq => ?_) fun e s' hq => hq)) fun r s' hq => cr_unm e0.hok ca.all e0.frf hq
    obtain ⟨w', H', J', rv, q⟩ := hq
    exact ⟨w', H', J'.os, J'.bare, J'.base, J'.hok, rv, q⟩
  have rc : codeAny (model X.prog X.w) (X.A.deeper (envOfC qg sg s.heap.objs.size g cdg)) (.call (.ref f) ⟨[], []⟩) (CR (L2N.CX X.prog X.w) (envOfC qg sg s.heap.objs.size g cdg :: X.stack) X.prog X.w H1 s1 Q (L2.WE W σZ)) s1 := by
    refine PySem.W.kla_callFunE hr.depth hf1 rfl P.co P.gen rfl ⟨c', oc, vs, tq, rfl, hoc, hdc, hvc⟩ ?_
    rcases hb with ⟨d0, b0, hb⟩ | ⟨d, x, d1, b1, hb⟩
    · rcases hdf with ⟨_, rfl⟩ | ⟨n, _⟩
      · rw [hb]
        have z := go [] (by rw [b0]; rfl)
        rw [b0] at z
        exact wpAny_pure z
      · exact absurd d0 n
    · rcases hdf with ⟨n, _⟩ | ⟨_, t, rfl, htu⟩
      · rw [d1] at n
        cases n
      · obtain ⟨its, r, ⟨ot, e1, _, n, e2⟩, _⟩ := I1.tuple (SqT.of (K := X.K) htu)
        have l1 : its.length = 1 := by
          rw [← r.length, d1]
          rfl
        match its, l1 with
        | [u], _ =>
          obtain ⟨k, k1, k2⟩ := hb pm (.ref c') ctv t u
          rw [k1]
          refine wpAny_bind (wpAny_seqItems e1 e2 ?_)
          rw [show ([u] : List Value).toArray = #[u] from rfl, k2]
          have z := go [u] (by rw [b1]; rfl)
          rw [b1] at z
          exact wpAny_pure z
  refine wpAny_call (codeAny_mono rc fun r s' hq => ?_)
  cases r with
  | error e => exact L2N.passAt tk σZ pinsZ _ s1 e s' I1 hq
  | ok fl =>
    cases fl with
    | ret u => exact I1.after hq
    | next => exact False.elim hq
    | brk => exact False.elim hq
    | cont => exact False.elim hq
/-- a lambda that stands alone: its text, its body -/
structure CloK (P : Program) (w : World) (K : PySem.W.Frag) (mg : Str → Option Value) (base : Heap) (k : Nat) (L : LamD) (bs : List Str) (t : XK → TE) : Prop where
  p : CloP L bs
  b : LamB L bs
  body : ∀ (E : XK) (A : Around) (outer : List Env) (s : Shared) (H : Hp) (f c' : Addr), Room k (A.deeper (cloEnv L s.heap.objs.size f c')) → PE (cloCx P w K mg base A outer s H E L f c') L.body (t E)
def tRef7 (P : Program) (w : World) (K : PySem.W.Frag) (mg : Str → Option Value) (base : Heap) (k : Nat) (TT : TT5) (ta : TA) : TE := fun σ H Q => ta σ H fun vs H2 => ∃ (f c' : Addr) (dV : Value) (L : LamD) (bs : List Str) (vals : List V) (t : XK → TE) (v2 v3 : V), vs = [.ref f, v2, v3] ∧ CloK P w K mg base k L bs t ∧ CloOk L.clo ∧ H2 f = some (FnO f c' L dV) ∧ TT L f c' dV (tClo t L vals) v2 v3 H2 Q
theorem pe_ref7 {x a : Str} {k : Nat} {st : Stmt} {ps Ng : List Str} {e1 e2 e3 : Expr} {ta : TA} {p pos : Pos} {TT : TT5} (D : Df X.K X.mg x st ps) (Sg : FnScope Ng ps (defScope st)) (hlen : ps.length = 3) (hNg : Ng[0]? = some a) (hva : Vis (defScope st) a) (hg : Gl X x)
    (hG : Gives5 X Ng x (defScope st) (defBody st) a k TT) (hr : Room (k + 2) X.A) (ha : PA X [e1, e2, e3] ta)
    (he : starEach [e1, e2, e3] X.env = (false, eval e1 X.env) :: starEach [e2, e3] X.env := by rfl) (hpl : (backTo pos (starEach [e2, e3] X.env)).any (·.1) = false := by rfl)
    (hdb : (x == ("__debug__" : Str)) = false := by decide) (hd : (a == ("__debug__" : Str)) = false := by decide) (hcd : (a == ("__classdict__" : Str)) = false := by decide) :
    PE X (.Call (.Name x p) [e1, e2, e3] [] pos) (tRef7 X.prog X.w X.K X.mg X.base k TT ta) := by
  obtain ⟨g, fd, F, hm, hb⟩ := D.ex
  have hk := F.kp
  obtain ⟨oc, od, kV, doc, pm, an, cdv, ct, osl, rfl, lk, hcg⟩ := F.ex
  refine ⟨fun pins s σ H Q I h => ?_⟩
  refine wpAny_Call_Name_kw (ld_glob I hg hm ?_ hdb)
  refine PySem.W.callWith_K (h₀ := X.base) I.ok.mod.kin hk (thn (ha.run pos pins s σ H _ I h) fun us s2 hh => ?_) he hpl
  obtain ⟨vs, H2, I2, rv, f, c', dV, L, bs, vals, t, v2, v3, rfl, ck, co, hf, htt⟩ := hh
  refine ⟨I2.kIn, ?_⟩
  have hus : us.length = ps.length := by rw [← rv.length, hlen] <;> rfl
  have rc : codeAny (model X.prog X.w) X.A (.call (.ref g) ⟨us, []⟩) (CR CX0 X.stack X.prog X.w H2 s2 Q E0) s2 := by
    refine LamX.run_ofS (N := Ng) (ps := ps) (us := us) (vs := [.ref f, v2, v3]) lk hcg Sg hr I2.env0 (by have b := hb s2 us I2.kIn (by rw [List.append_nil]; exact hus); rw [List.append_nil] at b; exact b) rv (by rw [hlen]; rfl) fun hr' => ?_
    exact hG L g f c' dV cdv s2 H2 Q v2 v3 _ hr' (fun W pn xe p1 p2 tk => act7 (i := 0) ck.p co ck.b tk hr' (fun E A outer s H hr2 => ck.body E A outer s H f c' hr2) hNg hva hd hcd) htt
  refine wpAny_call (codeAny_mono rc fun r s3 hq => ?_)
  cases r with
  | error e => exact (show False from hq).elim
  | ok fl =>
    cases fl with
    | ret u => exact I2.after hq
    | next => exact False.elim hq
    | brk => exact False.elim hq
    | cont => exact False.elim hq
end
end Ub

namespace Ub
open PySem PySem.Spec PyProof.Rows L2
/-! ### a def whose cells outlive its frame -/
/-- the block returns; what is wanted is told at the frame's slots too -/
structure PSr (X : Cx) (st : List Stmt) (t : (V → L2.St → Hp → Prop) → L2.St → Hp → Prop) : Prop where
  run : ∀ (pins : List (Addr × Obj)) (s : Shared) (σ : L2.St) (H : Hp) (R : V → L2.St → Hp → Prop), Inv X pins σ H s → t R σ H → wpAny (model X.prog X.w) X.A (execs st X.env) (fun f s' => ∃ u v σ' H', f = Flow.ret u ∧ Inv X pins σ' H' s' ∧ RelV v u ∧ R v σ' H') X.xe s
section
variable {X : Cx} {st : Stmt} {rest : List Stmt} {t : TS} {u : (V → L2.St → Hp → Prop) → L2.St → Hp → Prop} {e : Expr} {te : TE} {pos : Pos}
theorem psr_cons (h1 : PS X st t) (h2 : PSr X rest u) : PSr X (st :: rest) (fun R σ H => t { nx := u R, rt := fun _ _ => False } σ H) := by
  refine ⟨fun pins s σ H R I h => ?_⟩
  refine wpAny_execs_cons (thn (h1.run pins s σ H { nx := u R, rt := fun _ _ => False } I h) fun f s1 q => ?_)
  cases f with
  | next =>
    obtain ⟨σ', H', I', q⟩ := q
    exact h2.run pins s1 σ' H' R I' q
  | ret v =>
    obtain ⟨_, _, _, _, _, q⟩ := q
    exact q.elim
  | brk =>
    obtain ⟨_, _, _, q⟩ := q
    exact False.elim q
  | cont =>
    obtain ⟨_, _, _, q⟩ := q
    exact False.elim q
theorem psr_ret (he : PE X e te) : PSr X [.Return (some e) pos] (fun R σ H => te σ H fun v H' => R v σ H') := by
  refine ⟨fun pins s σ H R I h => ?_⟩
  refine wpAny_execs_cons (wpAny_Return_some (thn (he.run pins s σ H _ I h) fun v s1 ⟨x, H1, I1, r1, q1⟩ => ?_))
  exact ⟨v, x, σ, H1, rfl, I1, r1, q1⟩
end
/-- the heap with the cells that are told -/
def lay (cs : List (Str × Addr)) (val : Str → Option V) (H : Hp) : Hp := fun a => match cs.find? fun p => p.2 == a with
  | some p => match val p.1 with
    | some v => some (CellO a v)
    | none => H a
  | none => H a
theorem lay_cases {cs : List (Str × Addr)} {val : Str → Option V} {H : Hp} (a : Addr) : lay cs val H a = H a ∨ ∃ p v, p ∈ cs ∧ p.2 = a ∧ val p.1 = some v ∧ lay cs val H a = some (CellO a v) := by
  unfold lay
  cases e : cs.find? fun p => p.2 == a with
  | none => exact .inl rfl
  | some p =>
    cases e2 : val p.1 with
    | none => exact .inl (by simp only [e2])
    | some v =>
      have := List.find?_some e
      exact .inr ⟨p, v, List.mem_of_find?_eq_some e, by simpa using this, e2, by simp only [e2]⟩
theorem lay_at {cs : List (Str × Addr)} {val : Str → Option V} {H : Hp} {y : Str} {c : Addr} {v : V} (nd : (cs.map (·.1)).Nodup) (inj : ∀ x y c, cs.lookup x = some c → cs.lookup y = some c → x = y) (h : cs.lookup y = some c) (hv : val y = some v) : lay cs val H c = some (CellO c v) := by
  unfold lay
  cases e : cs.find? fun p => p.2 == c with
  | none =>
    have := List.find?_eq_none.mp e (y, c) (PySem.mem_of_lookup h)
    simp at this
  | some p =>
    have hp : p.2 = c := by simpa using List.find?_some e
    obtain ⟨i, hi⟩ := List.getElem?_of_mem (List.mem_of_find?_eq_some e)
    have := lookup_at nd hi
    rw [hp] at this
    have e2 := inj _ _ _ this h
    simp only [e2, hv]
theorem lay_ne {cs : List (Str × Addr)} {val : Str → Option V} {H : Hp} {a : Addr} (h : ∀ p ∈ cs, p.2 ≠ a) : lay cs val H a = H a := by
  rcases lay_cases (cs := cs) (val := val) (H := H) a with z | ⟨p, v, m, e, _⟩
  · exact z
  · exact absurd e (h p m)
/-- which cells a def makes: no name twice, all of its own -/
def cellsB (sc : Scope) : Bool := decide (((cellsFrom 0 sc.names []).map (·.1)).Nodup) && ((cellsFrom 0 sc.names []).map (·.1)).all fun y => decide (sc.names.lookup y = some .cell)
theorem cells_names : ∀ (l : List (Str × NameKind)) (n m : Nat) (a b : List (Str × Addr)), a.map (·.1) = b.map (·.1) → (cellsFrom n l a).map (·.1) = (cellsFrom m l b).map (·.1)
  | [], _, _, _, _, h => h
  | (y, k) :: l, n, m, a, b, h => by
    unfold cellsFrom
    split
    · exact cells_names l _ _ _ _ (by simp [h])
    · exact cells_names l _ _ _ _ h
theorem cells_ok {sc : Scope} (h : cellsB sc = true) (n : Nat) : ((cellsFrom n sc.names []).map (·.1)).Nodup ∧ ∀ y ∈ (cellsFrom n sc.names []).map (·.1), sc.names.lookup y = some .cell := by
  unfold cellsB at h
  rw [cells_names sc.names 0 n [] [] rfl] at h
  obtain ⟨h1, h2⟩ := Bool.and_eq_true_iff.mp h
  exact ⟨of_decide_eq_true h1, fun y hy => of_decide_eq_true (List.all_eq_true.mp h2 y hy)⟩
def valAt (N : List Str) (σ : L2.St) (y : Str) : Option V := (σ[N.idxOf y]?).join
theorem val_ok {N : List Str} {σ : L2.St} {y : Str} {v : V} (hl : σ.length = N.length) (h : valAt N σ y = some v) : ∃ i : Nat, N[i]? = some y ∧ σ[i]? = some (some v) := by
  unfold valAt at h
  cases e : σ[N.idxOf y]? with
  | none => rw [e] at h; cases h
  | some o =>
    rw [e] at h
    have h : o = some v := h
    subst h
    have lt : N.idxOf y < N.length := by
      have := (List.getElem?_eq_some_iff.mp e).1
      omega
    refine ⟨_, ?_, e⟩
    rw [List.getElem?_eq_getElem lt, List.getElem_idxOf lt]
section
variable {P : Program} {w : World} {K : PySem.W.Frag} {mg : Str → Option Value} {base : Heap}
theorem fn_ofC {k : Nat} {f : Addr} {name qual : Str} {params : Arguments} {body : List Stmt} {scope : Scope} {dV kV doc pm cdv ct oc : Value} {an od : Option Addr}
    {osl : Array (Option Value)} {N ps : List Str} {sp : Sp} (lk : K.lookup f = some ⟨oc, od, .func (PySem.W.fnOf name qual params body scope dV kV doc pm an cdv ct), osl⟩) (hcd : PySem.W.codeIn K cdv qual = true) (S : FnScope N ps scope) (hc : cellsB scope = true)
    (len : ∀ vs H Q E, sp vs H Q E → vs.length = ps.length)
    (hbody : ∀ (A : Around) (outer : List Env) (s : Shared) (H : Hp) (vs : List V) (Q : VK) (E : XK), Room k (A.deeper (envOfC qual scope s.heap.objs.size f cdv)) → sp vs H Q E →
      ∃ t, PSr (cxOf CX0 P w K mg base N qual scope f cdv A outer s H E).nox body t ∧ t (fun v σ' H' => (∀ y c, (cellsFrom (s.heap.objs.size + 1) scope.names []).lookup y = some c → H' c = none) → (∀ x y c, (cellsFrom (s.heap.objs.size + 1) scope.names []).lookup x = some c → (cellsFrom (s.heap.objs.size + 1) scope.names []).lookup y = some c → x = y) → Q v (lay (cellsFrom (s.heap.objs.size + 1) scope.names []) (valAt N σ') H')) (start N vs) H) :
    FnOk P w K mg base CX0 (k + 1) f (PySem.W.fnOf name qual params body scope dV kV doc pm an cdv ct) ps sp := by
  refine ⟨len, fun A outer s H args us vs Q E hr e0 hb r hsp => ?_⟩
  have hl := len _ _ _ _ hsp
  have KX : K.In s.heap := e0.mod.kin.keeps fun b o e => (e0.bs b o e).1
  have lim : s.heap.NoLimit := e0.mod.nolimit.keeps fun b o e => (e0.bs b o e).1
  have hkind : ∀ y ∈ ps.zip us, scope.names.lookup y.1 = some .local ∨ (scope.names.lookup y.1 = some .cell ∧ ((cellsFrom (s.heap.objs.size + 1) scope.names []).lookup y.1).isSome = true) := fun ⟨n, v⟩ hy => by
    rcases S.par n (List.of_mem_zip hy).1 with q | q
    · exact .inl q
    · exact .inr ⟨q, PySem.W.cellsFrom_some _ _ _ (.inl q)⟩
  refine codeAny_call_function hr.depth (KX _ _ lk) rfl S.co S.gen rfl (PySem.W.codeRec_of KX hcd) (hb _ _ _ _ ?_)
  refine wpAny_newFunctionEnv_cells S.kind hkind fun env he s1 x => ?_
  subst he
  refine ⟨lim.keeps x.toInCall.keep, codeAny_func ?_⟩
  obtain ⟨t, ht, hq⟩ := hbody A outer s H vs Q E (hr.deeper _) hsp
  have I : Inv (cxOf CX0 P w K mg base N qual scope f cdv A outer s H E) [] (start N vs) H s1 := inv_start S hr.hd e0 hl r x
  refine wpAny_mono (ht.run [] s1 (start N vs) H _ (I.wish _) hq) (fun fl s' hs => ?_) fun e s' hs => hs.elim
  obtain ⟨u, v, σ', H', rfl, J, rv, q⟩ := hs
  have cab : ∀ y c, (cellsFrom (s.heap.objs.size + 1) scope.names []).lookup y = some c → s.heap.objs.size ≤ c := fun y c e => J.ok.cab y c rfl e
  have inj := J.ok.inj
  have q := q J.freeC inj
  obtain ⟨nd, kinds⟩ := cells_ok hc (s.heap.objs.size + 1)
  have mem : ∀ p ∈ cellsFrom (s.heap.objs.size + 1) scope.names [], (cellsFrom (s.heap.objs.size + 1) scope.names []).lookup p.1 = some p.2 := fun p hp => by
    obtain ⟨i, hi⟩ := List.getElem?_of_mem hp
    exact lookup_at nd hi
  have nH : ∀ b, H b ≠ none → lay (cellsFrom (s.heap.objs.size + 1) scope.names []) (valAt N σ') H' b = H' b := fun b hb => lay_ne fun p hp e => by
    have h1 := cab _ _ (mem p hp)
    rw [e] at h1
    exact hb (e0.hok.fresh h1)
  refine ⟨v, lay (cellsFrom (s.heap.objs.size + 1) scope.names []) (valAt N σ') H', J.os, J.bare, ⟨J.base.keep, J.base.slot, fun b o e n hx => ?_, J.base.there, fun b xs e => ?_, fun b o xs e => ?_, fun b ps e => ?_⟩, fun a o e => ?_, rv, q⟩
  · refine (lay_ne fun p hp z => ?_).trans (J.base.free b o e n hx)
    have h1 := cab _ _ (mem p hp)
    rw [z] at h1
    exact absurd (Nat.lt_of_lt_of_le (Heap.lt_size e) h1) (Nat.lt_irrefl _)
  · rw [nH b (by rw [e]; exact fun z => nomatch z)]
    exact J.base.tups b xs e
  · rw [nH b (by rw [e]; exact fun z => nomatch z)]
    exact J.base.frzs b o xs e
  · rw [nH b (by rw [e]; exact fun z => nomatch z)]
    exact J.base.tbls b ps e
  · rcases lay_cases (cs := cellsFrom (s.heap.objs.size + 1) scope.names []) (val := valAt N σ') (H := H') a with z | ⟨p, v', m, rfl, hv, z⟩
    · rw [z] at e
      refine (J.hok a o e).stay (fun b u _ q => q) (fun b q => ?_) fun b xs q => ?_
      · rcases lay_cases (cs := cellsFrom (s.heap.objs.size + 1) scope.names []) (val := valAt N σ') (H := H') b with y | ⟨p, v', m, rfl, hv, y⟩
        · exact y.trans q
        · rw [J.freeC _ _ (mem p m)] at q
          cases q
      · rcases lay_cases (cs := cellsFrom (s.heap.objs.size + 1) scope.names []) (val := valAt N σ') (H := H') b with y | ⟨p, v', m, rfl, hv, y⟩
        · exact y.trans q
        · rw [J.freeC _ _ (mem p m)] at q
          cases q
    · rw [z] at e
      cases e
      obtain ⟨i, hN, hσ⟩ := val_ok J.len hv
      obtain ⟨m1, hn, hl1⟩ := J.loc
      have kd := kinds p.1 (List.mem_map.mpr ⟨p, m, rfl⟩)
      obtain ⟨u1, r1, look⟩ := hl1 i p.1 v' hN hσ (.inr (.inl kd))
      rcases look with ⟨k1, _⟩ | ⟨_, c, e1, ic⟩
      · have k1 : scope.names.lookup p.1 = some .local := k1
        rw [kd] at k1
        cases k1
      · have e1 : (cellsFrom (s.heap.objs.size + 1) scope.names []).lookup p.1 = some c := e1
        rw [mem p m] at e1
        cases e1
        obtain ⟨o2, e2, d2⟩ := id ic
        exact ⟨⟨u1, r1, ic⟩, ⟨o2, e2⟩, fun h1 h2 ⟨u, ru, o3, e3, d3⟩ k => ⟨u, ru, o3, k _ e3, d3⟩⟩
end
end Ub

namespace Ub
open PySem PySem.Spec PyProof.Rows L2
section
variable {K : PySem.W.Frag} {T : Tb} {A B : Hp} {dc : Option Addr} {C H : Hp} {σ : L2.St} {ρ : List Sl} {α : Nat → Addr} {P : Ag → Prop}
/-! ### the promise of a def whose cells outlive its frame -/
def WSr (K : PySem.W.Frag) (T : Tb) (t : (V → L2.St → Hp → Prop) → L2.St → Hp → Prop) (ρ : List Sl) (R : List Sl → List Dt → Prop) : Prop := ∀ ⦃A B C H σ α⦄ (Rp : Rep K T A B none C H σ ρ α) (D : V → L2.St → Hp → Prop),
  (∀ ρ' l p vs C' H' σ' α', R ρ' l → Rep K T A B none C' H' σ' ρ' α' → B p = none → C' p = none → H' p = some (.lst vs) → DzA K C' vs l → D (.ref p) σ' H') → t D σ H
theorem wsr_cons {t : TS} {u : (V → L2.St → Hp → Prop) → L2.St → Hp → Prop} {R : List Sl → List Dt → Prop} (h : Ub.WS K T t ρ { nx := fun ρ1 => WSr K T u ρ1 R, rt := fun _ => False }) : WSr K T (fun D σ H => t { nx := u D, rt := fun _ _ => False } σ H) ρ R := fun ⦃A B C H σ α⦄ Rp D q =>
  h Rp ⟨fun p R' => p R' D q, fun p _ _ => p.elim, fun p _ => p.elim, fun p _ => p.elim, fun p _ _ => p.elim⟩
theorem wsr_own {j : Nat} {l : List Dt} {R : List Sl → List Dt → Prop} (hj : ρ[j]? = some (Sl.own l)) (p : R ρ l) : WSr K T (fun D σ H => tVar j σ H fun v H' => D v σ H') ρ R := fun ⦃A B C H σ α⦄ Rp D q => by
  obtain ⟨h1, h2, h3, h4, vs, h5, h6⟩ := Rp.ow hj
  exact ⟨_, h1, q _ _ _ _ _ _ _ _ p Rp h2 h3 h5 h6⟩
/-- a lambda of the frame, as it stands behind the frame's end -/
def Clos (cs : List (Str × Addr)) (N : List Str) (ρ : List Sl) (d d' : Dt) : Prop := ∃ (L : LamD) (ds : List Dt), d = .lam L ∧ d' = .clo L ds ∧ L.clo = cloFrom cs L.scope.names [] ∧ (∀ y ∈ L.scope.names, y.2 = .free → ∃ c, cs.lookup y.1 = some c) ∧ (L.clo.map (·.1)).Nodup ∧
  (L.clo.map fun p => ρ[N.idxOf p.1]?) = ds.map fun d => some (Sl.dat d)
def ClosA (cs : List (Str × Addr)) (N : List Str) (ρ : List Sl) : List Dt → List Dt → Prop
  | [], [] => True
  | d :: l, d' :: l' => Clos cs N ρ d d' ∧ ClosA cs N ρ l l'
  | _, _ => False
theorem ex_lay {cs : List (Str × Addr)} {val : Str → Option V} (h : ∀ p ∈ cs, H p.2 = none) : Ex H (lay cs val H) := fun a o e => by
  rw [lay_ne fun p hp z => ?_]
  · exact e
  · have := h p hp
    rw [z, e] at this
    cases this
theorem clo_cells {cs : List (Str × Addr)} {N : List Str} (Rp : Rep K T A B dc C H σ ρ α) (nd : (cs.map (·.1)).Nodup) (inj : ∀ x y c, cs.lookup x = some c → cs.lookup y = some c → x = y) (e : Ex C (lay cs (valAt N σ) C)) :
    ∀ {l : List (Str × Addr)} {ds : List Dt}, (∀ p ∈ l, cs.lookup p.1 = some p.2) → (l.map fun p => ρ[N.idxOf p.1]?) = ds.map (fun d => some (Sl.dat d)) → ∃ vals, CellsAt (lay cs (valAt N σ) C) l vals ∧ DzA K (lay cs (valAt N σ) C) vals ds
  | [], [], _, _ => ⟨[], True.intro, .nil⟩
  | p :: l, d :: ds, hl, hd => by
    rw [List.map_cons, List.map_cons, List.cons.injEq] at hd
    obtain ⟨v, h1, h2⟩ := Rp.dat hd.1
    obtain ⟨vals, c1, c2⟩ := clo_cells Rp nd inj e (fun q hq => hl q (List.mem_cons_of_mem _ hq)) hd.2
    have hv : valAt N σ p.1 = some v := by
      unfold valAt
      rw [h1] <;> rfl
    exact ⟨v :: vals, ⟨lay_at nd inj (hl p List.mem_cons_self) hv, c1⟩, .cons (h2.up e) c2⟩
  | [], _ :: _, _, h => by cases h
  | _ :: _, [], _, h => by cases h
theorem clos_dz {cs : List (Str × Addr)} {N : List Str} (Rp : Rep K T A B dc C H σ ρ α) (nd : (cs.map (·.1)).Nodup) (inj : ∀ x y c, cs.lookup x = some c → cs.lookup y = some c → x = y) (e : Ex C (lay cs (valAt N σ) C)) {v : V} {d d' : Dt} (h : Dz K C v d) (k : Clos cs N ρ d d') : Dz K (lay cs (valAt N σ) C) v d' := by
  obtain ⟨L, ds, rfl, rfl, hc, hf, hn, hd⟩ := k
  have mem : ∀ p ∈ L.clo, cs.lookup p.1 = some p.2 := fun p hp => by
    rw [hc] at hp
    rcases cloFrom_mem (n := p.1) (c := p.2) hp with z | ⟨z1, z2⟩
    · cases z
    · obtain ⟨c1, q⟩ := hf _ z1 rfl
      have q : cs.lookup p.1 = some c1 := q
      rw [z2, q] <;> rfl
  obtain ⟨vals, c1, c2⟩ := clo_cells Rp nd inj e mem hd
  cases h with
  | lam hf hc hdf =>
    refine .clo (e _ _ hf) (e _ _ hc) (hdf.imp id fun ⟨n, t, e1, e2⟩ => ⟨n, t, e1, e _ _ e2⟩) ⟨hn, fun x y c h1 h2 => ?_⟩ c1 c2
    exact inj x y c (mem _ (PySem.mem_of_lookup h1)) (mem _ (PySem.mem_of_lookup h2))
theorem clos_dza {cs : List (Str × Addr)} {N : List Str} (Rp : Rep K T A B dc C H σ ρ α) (nd : (cs.map (·.1)).Nodup) (inj : ∀ x y c, cs.lookup x = some c → cs.lookup y = some c → x = y) (e : Ex C (lay cs (valAt N σ) C)) : ∀ {vs : List V} {l l' : List Dt}, DzA K C vs l → ClosA cs N ρ l l' → DzA K (lay cs (valAt N σ) C) vs l'
  | _, _, [], .nil, _ => .nil
  | _, _, _ :: _, .cons h t, k => .cons (clos_dz Rp nd inj e h k.1) (clos_dza Rp nd inj e t k.2)
  | _, _, [], .cons _ _, k => k.elim
  | _, _, _ :: _, .nil, k => k.elim
theorem kp_ofC {P : Program} {w : World} {mg : Str → Option Value} {base : Heap} {x : Str} {st : Stmt} {N ps : List Str} {c : Addr} {k : Nat} {S : SpD} (D : DfC K mg x st ps c) (Sc : FnScope N ps (defScope st)) (hc : cellsB (defScope st) = true) (hl : ∀ ds Pr, S ds Pr → ds.length = ps.length)
    (body : ∀ (f : Addr) (A : Around) (outer : List Env) (s : Shared) (H : Hp) (E : XK), Room k (A.deeper (envOfC x (defScope st) s.heap.objs.size f (.ref c))) → ∀ ds Pr, S ds Pr →
      ∃ t R, PSr (cxOf CX0 P w K mg base N x (defScope st) f (.ref c) A outer s H E).nox (defBody st) t ∧ WSr K T t (slots N ds) R ∧ ∀ ρ' l, R ρ' l → ∃ l', ClosA (cellsFrom (s.heap.objs.size + 1) (defScope st).names []) N ρ' l l' ∧ Pr (.fr l')) : Kp P w K mg base CX0 (k + 1) x ps (spR K T S) := by
  obtain ⟨f, oc, kV, doc, pm, ct, od, an, osl, lk, hcd, hm, hk, hb⟩ := D.ex
  refine ⟨f, _, hm, hk, hb, fn_ofC lk hcd Sc hc (fun vs H Q E h => ?_) fun A outer s H vs Q E hr h => ?_⟩
  · obtain ⟨ds, A, B, Pr, _, _, hz, hS, _⟩ := h
    exact hz.len.trans (hl ds Pr hS)
  · obtain ⟨ds, A', B, Pr, oB, e, hz, hS, q⟩ := h
    obtain ⟨t, R, ht, hw, hR⟩ := body f A outer s H E hr ds Pr hS
    refine ⟨t, ht, ?_⟩
    have R0 := rep_start (n := N.length - ds.length) (α := fun _ => 0) (dc := none) oB e hz (fun d z => nomatch z)
    have es : L2.start N vs = vs.map some ++ List.replicate (N.length - ds.length) none := by
      unfold L2.start
      rw [hz.len]
    rw [es]
    refine hw R0 _ fun ρ' l p vs' C' H' σ' α' r Rp nb nc hp hz' freeC inj => ?_
    obtain ⟨nd, _⟩ := cells_ok hc (s.heap.objs.size + 1)
    obtain ⟨l', k1, k2⟩ := hR ρ' l r
    have nH : ∀ p ∈ cellsFrom (s.heap.objs.size + 1) (defScope st).names [], H' p.2 = none := fun p hp => by
      obtain ⟨i, hi⟩ := List.getElem?_of_mem hp
      exact freeC _ _ (lookup_at nd hi)
    have nC : ∀ p ∈ cellsFrom (s.heap.objs.size + 1) (defScope st).names [], C' p.2 = none := fun p hp => Rp.okC.fresh (nH p hp)
    have eH := ex_lay (val := valAt N σ') nH
    have eC := ex_lay (val := valAt N σ') nC
    have np : ∀ q ∈ cellsFrom (s.heap.objs.size + 1) (defScope st).names [], q.2 ≠ p := fun q hq z => by
      have := nH q hq
      rw [z, hp] at this
      cases this
    have hz2 := clos_dza Rp nd inj eC hz' k1
    have okOf : ∀ {X : Hp}, Ok T X H' → (∀ a o, X a = some o → (lay (cellsFrom (s.heap.objs.size + 1) (defScope st).names []) (valAt N σ') H') a = some o) → Ok T X (lay (cellsFrom (s.heap.objs.size + 1) (defScope st).names []) (valAt N σ') H') := fun o e => ⟨e, o.nt, fun q hq => TabG.keep (o.tg q hq) eH, fun q hq => LamX.TabS.ext (o.tl q hq) eH⟩
    have eCH : ∀ a o, lay (cellsFrom (s.heap.objs.size + 1) (defScope st).names []) (valAt N σ') C' a = some o → lay (cellsFrom (s.heap.objs.size + 1) (defScope st).names []) (valAt N σ') H' a = some o := fun a o z => by
      rcases lay_cases (cs := cellsFrom (s.heap.objs.size + 1) (defScope st).names []) (val := valAt N σ') (H := C') a with y | ⟨p, v, m, rfl, hv, y⟩
      · rw [y] at z
        exact eH _ _ (Rp.okC.ex _ _ z)
      · obtain ⟨i, hi⟩ := List.getElem?_of_mem m
        rw [lay_at nd inj (lookup_at nd hi) hv] at z ⊢
        exact z
    have ntC : ∀ b ps, lay (cellsFrom (s.heap.objs.size + 1) (defScope st).names []) (valAt N σ') C' b ≠ some (.tbl ps) := fun b ps z => by
      rcases lay_cases (cs := cellsFrom (s.heap.objs.size + 1) (defScope st).names []) (val := valAt N σ') (H := C') b with y | ⟨p, v, m, rfl, hv, y⟩
      · rw [y] at z
        exact Rp.okC.nt _ _ z
      · rw [y] at z
        cases z
    refine q (.fr l') (.ref p) _ _ [] [] (fun _ => 0) k2 ⟨okOf Rp.okB fun a o z => eH _ _ (Rp.okB.ex _ _ z), ⟨eCH, ntC, fun q hq => TabG.keep (Rp.okC.tg q hq) eH, fun q hq => LamX.TabS.ext (Rp.okC.tl q hq) eH⟩, Rp.eA.trans eC, fun a ha => ?_, rfl, fun _ _ h => by simp at h, fun _ _ _ _ h => by simp at h, fun _ h => nomatch h⟩ ⟨p, vs', rfl, nb, ?_, (by simp), ?_, hz2⟩
    · rcases lay_cases (cs := cellsFrom (s.heap.objs.size + 1) (defScope st).names []) (val := valAt N σ') (H := C') a with y | ⟨p, v, m, rfl, hv, y⟩
      · rw [y] at ha
        exact (Rp.new a ha).imp id (Or.imp id fun ⟨φ, z⟩ => ⟨φ, by rw [y, z]⟩)
      · exact .inr (.inr ⟨_, by rw [y]; rfl⟩)
    · rw [lay_ne np]
      exact nc
    · rw [lay_ne np]
      exact hp
/-! ### the def told of it -/
def Dt.plain : Dt → Bool
  | .obj _ _ => false | .lam _ => false | .exc _ _ _ => false | .clo _ _ => false | .lst l => plainA l | .tup l => plainA l | _ => true
where plainA : List Dt → Bool
  | [] => true
  | d :: l => d.plain && plainA l
mutual
theorem dz_mask {cs : List Addr} (ci : CellsIn cs B) : ∀ {d : Dt} {v : V}, Dz K B v d → d.plain = true → Dz K (mask cs B) v d
  | .non, _, h, _ => by cases h; exact .non
  | .bl b, _, h, _ => by cases h; exact .bl b
  | .int i, _, h, _ => by cases h; exact .int i
  | .str s, _, h, _ => by cases h; exact .str s
  | .lst l, _, h, p => by
    cases h with
    | @lst a _ _ h t =>
      refine .lst ((mask_out fun m => ?_).trans h) (dza_mask ci t (by simpa only [Dt.plain] using p))
      obtain ⟨v, z⟩ := ci a m
      rw [z] at h
      cases h
  | .tup l, _, h, p => by
    cases h with
    | @tup a _ _ h t =>
      refine .tup ?_ (dza_mask ci t (by simpa only [Dt.plain] using p))
      have keep : ∀ (b : Addr) (o : HO), (∀ v, o ≠ CellO b v) → B b = some o → mask cs B b = some o := fun b o n e => (mask_out fun m => by
        obtain ⟨v, z⟩ := ci b m
        rw [z] at e
        exact n v (Option.some.inj e).symm).trans e
      rcases h with (h | ⟨o, h⟩) | h
      · exact .inl (.inl (keep _ _ (fun v z => nomatch z) h))
      · exact .inl (.inr ⟨o, keep _ _ (fun v z => nomatch z) h⟩)
      · exact .inr h
  | .obj _ _, _, _, p => by simp [Dt.plain] at p
  | .lam _, _, _, p => by simp [Dt.plain] at p
  | .exc _ _ _, _, _, p => by simp [Dt.plain] at p
  | .clo _ _, _, _, p => by simp [Dt.plain] at p
theorem dza_mask {cs : List Addr} (ci : CellsIn cs B) : ∀ {ds : List Dt} {vs : List V}, DzA K B vs ds → Dt.plain.plainA ds = true → DzA K (mask cs B) vs ds
  | [], _, h, _ => by cases h; exact .nil
  | d :: ds, _, h, p => by
    cases h with
    | cons h t =>
      simp only [Dt.plain.plainA, Bool.and_eq_true] at p
      exact .cons (dz_mask ci h p.1) (dza_mask ci t p.2)
end
theorem codeO_cell {c : Addr} {q : Str} {v : V} (e : LamX.CodeO c q = CellO c v) : False := by
  let o : Obj := { cls := .none, data := .fields #[.none, .str q 0] }
  let h : Heap := { objs := Array.replicate (c + 1) o }
  have hg : h.get? c = some o := by
    show (match (Array.replicate (c + 1) o)[c]? with | some ⟨_, _, .freed, _⟩ => none | r => r) = some o
    rw [Array.getElem?_replicate, if_pos (Nat.lt_succ_self c)]
  have h1 : (∃ (oc : Obj) (vs : Array Value) (t : Tok), h.get? c = some oc ∧ oc.data = .fields vs ∧ vs[1]? = some (.str q t)) := ⟨o, _, 0, hg, rfl, rfl⟩
  have e2 := congrFun (HO.ext.inj e) h
  have h3 : ∃ u, RelV v u ∧ h.IsCell c (some u) := e2.mp h1
  obtain ⟨u, _, o', ho, hd⟩ := h3
  rw [hg] at ho
  cases ho
  cases hd
theorem ok_mask {cs : List Addr} (o : Ok T B H) (ci : CellsIn cs H) : Ok T (mask cs B) (mask cs H) := by
  have keep : ∀ (b : Addr) (u : HO), (∀ v, u ≠ CellO b v) → H b = some u → mask cs H b = some u := fun b u n e => (mask_out fun m => by
    obtain ⟨v, z⟩ := ci b m
    rw [z] at e
    exact n v (Option.some.inj e).symm).trans e
  refine ⟨fun a u e => ?_, fun b ps e => o.nt b ps (mask_some e).2, fun q hq => ?_, fun q hq => ?_⟩
  · obtain ⟨n, e⟩ := mask_some e
    exact (mask_out n).trans (o.ex _ _ e)
  · obtain ⟨ps, h1, h2⟩ := o.tg q hq
    exact ⟨ps, keep _ _ (fun v z => nomatch z) h1, h2⟩
  · obtain ⟨ps, h1, h2, h3⟩ := o.tl q hq
    refine ⟨ps, keep _ _ (fun v z => nomatch z) h1, h2, fun pos cv hc => ?_⟩
    obtain ⟨c, e1, e2⟩ := h3 pos cv hc
    exact ⟨c, e1, keep _ _ (fun v z => codeO_cell z) e2⟩
theorem ok_unm {F H1 : Hp} {cs : List Addr} (o : Ok T F H) (ci : CellsIn cs H) (o1 : Ok T (mask cs F) H1) (nc : ∀ c ∈ cs, H1 c = none) : Ok T F (unm cs H H1) := by
  have e1 : Ex H1 (unm cs H H1) := unm_ext
  refine ⟨fun a u e => ?_, o.nt, fun q hq => TabG.keep (o1.tg q hq) e1, fun q hq => LamX.TabS.ext (o1.tl q hq) e1⟩
  by_cases m : a ∈ cs
  · rw [unm_cell m (nc a m)]
    exact o.ex _ _ e
  · exact e1 _ _ (o1.ex _ _ ((mask_out m).trans e))
theorem cells_in {F : Hp} {cs : List Addr} (ci : CellsIn cs F) (e : Ex F H) : CellsIn cs H := fun c m => by
  obtain ⟨v, z⟩ := ci c m
  exact ⟨v, e _ _ z⟩
theorem we_ref7v {P0 : Program} {w : World} {mg : Str → Option Value} {base : Heap} {k j : Nat} {S : Str → V → Xd → Prop} {SX : SpX} {tas : TA} {te3 : TE} {L : LamD} {ds : List Dt} {bs : List Str} {wd : Str} {v3 : V} {x : Xd} (hj : ρ[j]? = some (Sl.dat (.clo L ds))) (ck : CloK P0 w K mg base k L bs (fun E => tCall (spX K T SX) [] E tas)) (pl : Dt.plain.plainA ds = true)
    (h3 : Still te3 ρ v3) (hS : S wd v3 x) (h : Ub.WA K T tas (ds.map Sl.dat) fun gs => gs.all Ag.isD = true ∧ SX (gs.map Ag.d) (fun _ => False) fun y => y = x) (p : P (.dat (.bl true))) : Ub.WE K T (tRef7 P0 w K mg base k (TTr T S) (tCons (tVar j) (tCons (tC (.str wd)) (tCons te3 tNil)))) ρ P := fun ⦃A B dc C H σ α⦄ R Q q => by
  obtain ⟨v, hv, z⟩ := R.dat hj
  cases z with
  | @clo f c' _ dV vals _ hf hc hd co ca hz =>
    refine ⟨_, hv, h3 R _ ⟨f, c', dV, L, bs, vals, _, .str wd, v3, rfl, ck, co, R.okC.ex _ _ hf, ?_⟩⟩
    obtain ⟨F, o, eB, eC, back⟩ := rep_frame2 R
    have caF := ca.up eC
    refine ⟨wd, x, fun H' => Ok T F H', rfl, hS, o, fun H1 o1 => ⟨o1.ex _ _ (eC _ _ hf), o1.ex _ _ (eC _ _ hc), hd.imp id fun ⟨n, t, z1, z2⟩ => ⟨n, t, z1, o1.ex _ _ (eC _ _ z2)⟩, F, o1, fun H' z => z⟩, fun E Q' hE => ⟨caF.up o.ex, ?_⟩, fun H' o' => q _ _ C H' p (back H' o') (Evl.Ex.refl _) (.bl true)⟩
    have ciH : CellsIn (cad L) H := (caF.up o.ex).all
    have om : Ok T (mask (cad L) F) (mask (cad L) H) := ok_mask o ciH
    have R1 : Rep K T (mask (cad L) F) (mask (cad L) F) none (mask (cad L) F) (mask (cad L) H) (vals.map some ++ List.replicate 0 none) (ds.map Sl.dat ++ List.replicate 0 Sl.un) (fun _ => 0) :=
      rep_start om (Evl.Ex.refl _) (dza_mask caF.all (hz.up eC) pl) (fun d z => nomatch z)
    rw [List.replicate_zero, List.append_nil, List.replicate_zero, List.append_nil] at R1
    refine callX_E R1 h (fun r v C' H' z => z.elim) fun y cls d C' H' ey R' e z nc => ?_
    subst ey
    obtain ⟨z1, z2⟩ := z
    subst z1
    refine hE d _ (ok_unm o ciH R'.okB nc) (z2.imp (fun ⟨n1, n2⟩ => ⟨by rw [n1] <;> rfl, n2⟩) fun ⟨n1, a, n2, _, _, _, n3⟩ => ⟨fun w => n1 (List.map_eq_nil_iff.mp w), a, n2, unm_some n3⟩)
end
end Ub

namespace Rw
open PySem PySem.Spec PyProof.Rows L2 Ub
set_option hygiene false in
local macro_rules | `(tactic| acc_peel) => `(tactic| (repeat (first | ((with_reducible show Ub.WS _ _ (tSeq _ _) _ _); (first | refine ws_seq ?_)) | ((with_reducible show Ub.WS _ _ tNext _ _); (first | refine ws_next ?_)) | ((with_reducible show Ub.WS _ _ tRetN _ _); (first | refine ws_retN ?_)) | ((with_reducible show Ub.WS _ _ (tIfS _ _ _) _ _); (first | refine ws_if ?_)) | ((with_reducible show Ub.WS _ _ (tRet (tIf _ _ _)) _ _); (first | refine ws_retIf ?_)) | ((with_reducible show Ub.WS _ _ (tAsg (tC _) (gName _)) _ _); (first | refine ws_set (we_int ?_) | refine ws_set (we_str ?_) | refine ws_set (we_bl ?_) | refine ws_set (we_non ?_))) | ((with_reducible show Ub.WS _ _ (tAsg (tVar _) (gName _)) _ _); (first | refine ws_set (we_dat rfl ?_))) | ((with_reducible show Ub.WS _ _ (tAsg (tLst tNil) (gName _)) _ _); (first | refine ws_setL (wl_lst (wa_nil ⟨rfl, by decide, ?_⟩)))) | ((with_reducible show Ub.WS _ _ (tAsg (tOp (rIxL _) (tLst _) (tCall _ _ _ _)) (gName _)) _ _); (first | refine ws_set (we_pick rfl ?_))) | ((with_reducible show Ub.WS _ _ (tAsg (tOp rCat _ _) (gName _)) _ _); (first | refine ws_set (we_l (wl_cat ?_)))) | ((with_reducible show Ub.WS _ _ (tAsg (tOp rRep _ _) (gName _)) _ _); (first | refine ws_set (we_l (wl_rep1 ?_)))) | ((with_reducible show Ub.WS _ _ (tAsg (tOp (rCatT _) _ _) (gName _)) _ _); (first | refine ws_set (we_catT ?_))) | ((with_reducible show Ub.WS _ _ (tAsg (tOp _ _ _) (gName _)) _ _); (first | refine ws_set (we_op ?_))) | ((with_reducible show Ub.WS _ _ (tAsg (tSl (rSlL _) _ _ _) (gName _)) _ _); (first | refine ws_set (we_l (wl_slice ?_)))) | ((with_reducible show Ub.WS _ _ (tAsg (tTup _) (gName _)) _ _); (first | refine ws_set (we_tup ?_))) | ((with_reducible show Ub.WS _ _ (tAsg (tUn _ _) (gName _)) _ _); (first | refine ws_set (we_neg ?_))) | ((with_reducible show Ub.WS _ _ (tAsg (tCB rMax2 _) (gName _)) _ _); (first | refine ws_set (we_tcb ?_))) | ((with_reducible show Ub.WS _ _ (tAsg (tCB rMin2 _) (gName _)) _ _); (first | refine ws_set (we_tcb ?_))) | ((with_reducible show Ub.WS _ _ (tAsg (tCB rInt1 _) (gName _)) _ _); (first | refine ws_set (we_tcb ?_))) | ((with_reducible show Ub.WS _ _ (tAsg (tCB (Evl.rLenS _) _) (gName _)) _ _); (first | refine ws_set (we_tcb ?_))) | ((with_reducible show Ub.WE _ _ (tC _) _ _); (first | refine we_int ?_ | refine we_str ?_ | refine we_bl ?_ | refine we_non ?_)) | ((with_reducible show Ub.WE _ _ (tVar _) _ _); (first | refine we_dat rfl ?_ | refine we_own rfl ?_)) | ((with_reducible show Ub.WE _ _ (tOp (rIxL _) (tLst _) (tCall _ _ _ _)) _ _); (first | refine we_pick rfl ?_)) | ((with_reducible show Ub.WE _ _ (tOp rCat _ _) _ _); (first | refine we_l (wl_cat ?_))) | ((with_reducible show Ub.WE _ _ (tOp rRep _ _) _ _); (first | refine we_l (wl_rep1 ?_))) | ((with_reducible show Ub.WE _ _ (tOp (rIxDI _) (tC _) _) _ _); (first | refine we_ixK ?_)) | ((with_reducible show Ub.WE _ _ (tOp (rCatT _) _ _) _ _); (first | refine we_catT ?_)) | ((with_reducible show Ub.WE _ _ (tLstRg (tRg1 _)) _ _); (first | refine we_l (wl_listR1 ?_))) | ((with_reducible show Ub.WE _ _ (tLstRg (tRg2 _ _)) _ _); (first | refine we_l (wl_listR2 ?_))) | ((with_reducible show Ub.WE _ _ (tOp _ _ _) _ _); (first | refine we_op ?_)) | ((with_reducible show Ub.WE _ _ (tUn _ _) _ _); (first | refine we_neg ?_)) | ((with_reducible show Ub.WE _ _ (tIf _ _ _) _ _); (first | refine we_if ?_)) | ((with_reducible show Ub.WE _ _ (tAndV _ _) _ _); (first | refine we_and ?_)) | ((with_reducible show Ub.WE _ _ (tOrV _ _) _ _); (first | refine we_or ?_)) | ((with_reducible show Ub.WE _ _ (tNotV _) _ _); (first | refine we_not ?_)) | ((with_reducible show Ub.WE _ _ (tChain _ _ _ _ _) _ _); (first | refine we_chain ?_)) | ((with_reducible show Ub.WE _ _ (tCB (Evl.rListS _) _) _ _); (first | refine we_l (wl_list ?_))) | ((with_reducible show Ub.WE _ _ (tCB (rTupOf _) (tCons _ tNil)) _ _); (first | refine we_tupOf ?_)) | ((with_reducible show Ub.WE _ _ (tCB (rIsi _) (tCons _ (tCons (tC (.ty _)) tNil))) _ _); (first | refine we_isi ?_)) | ((with_reducible show Ub.WE _ _ (tBM _ "list" (rIndex _) _ (tCons _ tNil)) _ _); (first | refine we_index ?_)) | ((with_reducible show Ub.WE _ _ (tM1 rSplitT _ _) _ _); (first | refine we_l (wl_split ?_))) | ((with_reducible show Ub.WE _ _ (tM1 rPartT _ _) _ _); (first | refine we_part ?_)) | ((with_reducible show Ub.WE _ _ (tM1 rCountT _ _) _ _); (first | refine we_count ?_)) | ((with_reducible show Ub.WR _ _ rInT _ _ _ _); (first | refine wr_inT ?_)) | ((with_reducible show Ub.WR _ _ rInTn _ _ _ _); (first | refine wr_inTn ?_)) | ((with_reducible show Ub.WE _ _ (tJoinF [] _) _ _); (first | refine we_jNil ?_)) | ((with_reducible show Ub.WE _ _ (tJoinF (_ :: _) _) _ _); (first | refine we_jCons ?_)) | ((with_reducible show Ub.WE _ _ (tCB _ _) _ _); (first | refine we_tcb ?_)) | ((with_reducible show Ub.WE _ _ (tTup _) _ _); (first | refine we_tup ?_)) | ((with_reducible show Ub.WE _ _ (tLst _) _ _); (first | refine we_l (wl_lst ?_))) | ((with_reducible show Ub.WE _ _ (tSl (rSlL _) _ _ _) _ _); (first | refine we_l (wl_slice ?_))) | ((with_reducible show Ub.WE _ _ (tSl rSlS _ _ _) _ _); (first | refine we_sliceS ?_)) | ((with_reducible show Ub.WE _ _ (tSl (rSlT _) _ _ _) _ _); (first | refine we_sliceT ?_)) | ((with_reducible show Ub.WE _ _ (tRevL _ _) _ _); (first | refine we_l (wl_rev ?_))) | ((with_reducible show Ub.WA _ _ tNil _ _); (first | refine wa_nil ?_)) | ((with_reducible show Ub.WA _ _ (tCons _ _) _ _); (first | refine wa_cons ?_)) | ((with_reducible show Ub.WO _ _ tNoPart _ _); (first | refine wo_none ?_)) | ((with_reducible show Ub.WO _ _ (tPart _) _ _); (first | refine wo_some ?_)) | ((with_reducible show Ub.WT _ _ (tB _) _ _); (first | refine wt_val ?_)) | ((with_reducible show Ub.WT _ _ (tTest _) _ _); (first | refine wt_test ?_)) | ((with_reducible show Ub.WT _ _ (tAnd _ _) _ _); (first | refine wt_and ?_)) | ((with_reducible show Ub.WT _ _ (tOr _ _) _ _); (first | refine wt_or ?_)) | ((with_reducible show Ub.WT _ _ (tNot _) _ _); (first | refine wt_not ?_)) | ((with_reducible show Ub.WT _ _ tYes _ _); (first | refine wt_yes ?_)) | ((with_reducible show Ub.WT _ _ (tTru _ _) _ _); (first | refine wt_tru ?_)) | ((with_reducible show Ub.WR _ _ rIsN _ _ _ _); (first | refine wr_isN rfl ?_)) | ((with_reducible show Ub.WR _ _ rNotN _ _ _ _); (first | refine wr_notN rfl ?_)) | ((with_reducible show Ub.WR _ _ (rI0 _) _ _ _ _); (first | refine wr_int ?_ | refine wr_cmp ?_)) | ((with_reducible show Ub.WR _ _ (rI CMul _) _ _ _ _); (first | refine wr_mulL (by omega) (by omega) ?_ | refine wr_mulR (by omega) (by omega) ?_)) | ((with_reducible show Ub.WR _ _ (rI CDiv _) _ _ _ _); (first | refine wr_fdiv (by omega) (by omega) ?_)) | ((with_reducible show Ub.WR _ _ (rI _ _) _ _ _ _); (first | refine wr_mod (by omega) ?_)) | ((with_reducible show Ub.WR _ _ rEq _ _ _ _); (first | refine wr_eqI ?_ | refine wr_eqS ?_ | refine wr_eqB ?_)) | ((with_reducible show Ub.WR _ _ rNe _ _ _ _); (first | refine wr_neI ?_ | refine wr_neS ?_ | refine wr_neB ?_)) | ((with_reducible show Ub.WR _ _ (rIxL _) _ _ _ _); (first | refine wr_ixL rfl rfl ?_)) | ((with_reducible show Ub.WR _ _ (rIxT _) _ _ _ _); (first | refine wr_h0 ?_ | refine wr_h1 ?_ | refine wr_f0 ?_ | refine wr_f1 ?_ | refine wr_l0 ?_ | refine wr_l1 ?_ | refine wr_ixT rfl rfl ?_)) | ((with_reducible show Ub.WR _ _ rAddS _ _ _ _); (first | refine wr_addS (by omega) ?_)) | ((with_reducible show Ub.WR _ _ rRepS _ _ _ _); (first | refine wr_repS (by omega) (by omega) (by omega) ?_)) | ((with_reducible show Ub.WC _ _ (Evl.rLenS _) _ _ _); (first | refine wc_lenL rfl ?_ | refine wc_lenT rfl ?_)) | ((with_reducible show Ub.WC _ _ rLenStr _ _ _); (first | refine wc_lenS (by omega) ?_)) | ((with_reducible show Ub.WC _ _ rAbs _ _ _); (first | refine wc_abs ?_)) | ((with_reducible show Ub.WC _ _ rMin2 _ _ _); (first | refine wc_min ?_)) | ((with_reducible show Ub.WC _ _ rMax2 _ _ _); (first | refine wc_max ?_)) | ((with_reducible show Ub.WC _ _ rInt1 _ _ _); (first | refine wc_intB ?_ | refine wc_intI ?_)) | ((with_reducible show Ub.WC _ _ rStrI _ _ _); (first | refine wc_strI (by assumption) ?_)) | ((with_reducible show Ub.WC _ _ rIntS _ _ _); (first | refine wc_intS (by assumption) (by assumption) ?_)) | ((with_reducible show Ub.WG _ _ (gName _) _ _ _); (first | refine wg_name ?_)) | ((with_reducible show Ub.WG _ _ (gTup _ _ _) _ _ _); (first | refine wg_tup rfl ?_)) | ((with_reducible show Ub.WGs _ _ (gCons _ _) _ _ _); (first | refine wgs_cons ?_)) | ((with_reducible show Ub.WGs _ _ gNil _ _ _); (first | refine wgs_nil ?_)) | ((with_reducible show Exists _); (first | refine ex_d ?_ | refine ex_i ?_ | refine ex_s ?_ | refine ex_b ?_ | refine ex_l ?_ | refine ex_t ?_ | refine ex_rd ?_ | refine ex_rf ?_ | refine ex_al rfl ?_ | refine ex_n1 ?_ | refine ex_l1 ?_ | refine ex_l2 ?_ | refine ex_cat rfl rfl (by first | omega | (simp; done) | (simp; omega)) ?_ | refine ex_rep rfl (by first | omega | (simp; done) | (simp; omega)) (by first | omega | (simp; done) | (simp; omega)) ?_)) | ((with_reducible show _ ∧ _); (first | refine an_d rfl ?_ | refine an_le (Nat.le_of_ble_eq_true rfl) ?_ | refine an_le (by first | omega | (simp; done) | (simp; omega)) ?_ | refine an_leI (by first | omega | (simp; done) | (simp; omega)) ?_ | refine an_ltI (by first | omega | (simp; done) | (simp; omega)) ?_ | refine an_eqI rfl ?_ | refine an_bf rfl ?_)) | ((with_reducible show Ub.WS _ _ (tDrop (tBM _ "list" rAppend (tVar _) (tCons _ tNil))) _ _); (first | refine ws_append rfl (by first | omega | (simp; done) | (simp; omega)) ?_)))))
section
variable {P : Program} {w : World} {K : PySem.W.Frag} {mg : Str → Option Value} {base : Heap} {T : Tb}
/-! ### lists of lambdas that outlive their frame, each of which must refuse -/
def noFree (sc : Scope) : Bool := sc.names.all fun y => !decide (y.2 = .free)
theorem clos_free {n : Nat} {sc : Scope} {N bs : List Str} {L : LamD} (lp : LamP sc N L bs) (nf : noFree sc = true) : ∀ y ∈ L.scope.names, y.2 = .free → ∃ c, (cellsFrom n sc.names []).lookup y.1 = some c := fun y hy e => by
  rcases lp.free y hy e with z | z
  · exact cell_has z
  · have := List.all_eq_true.mp nf _ (PySem.mem_of_lookup z)
    simp at this
theorem clos_mk {n : Nat} {sc : Scope} {N bs : List Str} {ρ : List Sl} {L : LamD} {ys : List Str} {ds : List Dt} (lp : LamP sc N L bs) (nf : noFree sc = true) (hL : L.clo = cloFrom (cellsFrom n sc.names []) L.scope.names []) (hn : L.clo.map (·.1) = ys) (nd : decide ys.Nodup = true)
    (hd : (ys.map fun y => ρ[N.idxOf y]?) = ds.map fun d => some (Sl.dat d)) : Clos (cellsFrom n sc.names []) N ρ (.lam L) (.clo L ds) := by
  refine ⟨L, ds, rfl, rfl, hL, clos_free lp nf, by rw [hn]; exact of_decide_eq_true nd, ?_⟩
  rw [← hd, ← hn, List.map_map]
  rfl
theorem clop_mk {cs : List (Str × Addr)} {sc : Scope} {N bs : List Str} {L : LamD} {ys : List Str} (lp : LamP sc N L bs) (hL : L.clo = cloFrom cs L.scope.names []) (hn : L.clo.map (·.1) = ys) (ho : (bs.all fun y => !decide (y ∈ ys)) = true) : CloP L bs := by
  refine ⟨lp.kind, lp.co, lp.gen, lp.own, lp.par, fun y hy e => ?_, fun y hy => ?_⟩
  · have := cloFrom_has (cells := cs) (acc := []) (n := y.1) (names := L.scope.names) (by rw [← e]; exact hy)
    rw [hL]
    exact List.mem_map.mpr ⟨_, this, rfl⟩
  · rw [hn]
    have := List.all_eq_true.mp ho y hy
    simpa using this
def RefClo (P : Program) (w : World) (K : PySem.W.Frag) (mg : Str → Option Value) (base : Heap) (T : Tb) (x : Xd) (d : Dt) : Prop := ∃ (L : LamD) (ds : List Dt) (bs : List Str) (SX : SpX) (tas : TA), d = .clo L ds ∧ CloK P w K mg base 7 L bs (fun E => tCall (spX K T SX) [] E tas) ∧ Dt.plain.plainA ds = true ∧
  WA K T tas (ds.map Sl.dat) fun gs => gs.all Ag.isD = true ∧ SX (gs.map Ag.d) (fun _ => False) fun y => y = x
def SWorks (P : Program) (w : World) (K : PySem.W.Frag) (mg : Str → Option Value) (base : Heap) (T : Tb) (ec : Nat → Addr) : SpD := fun ds Pr => ∃ (fs : List Fld) (h1 h2 : Hand) (x : Xd), ds = [fldsD fs, handD h1, handD h2] ∧ Small fs ∧ Ref2 ec fs h1 h2 x ∧ ∀ l : List Dt, l.length ≤ 20 → (∀ d ∈ l, RefClo P w K mg base T x d) → Pr (.fr l)
def qW : Str := (envOfC "_law_works" (defScope s_works) 0 0 .none).qual ++ "<lambda>"
theorem plain_flds {fs : List Fld} : (fldsD fs).plain = true := by
  show Dt.plain.plainA (fs.map fldD) = true
  induction fs with
  | nil => rfl
  | cons f fs ih =>
    rw [List.map_cons]
    show (Dt.plain (fldD f) && _) = true
    rw [ih] <;> rfl
theorem k_works_ {c P3 : Addr} {ec : Nat → Addr} (D : DfC K mg "_law_works" s_works P_works c) (bl : Bl mg) (TB : LamX.TabB base mg c P3) (hT : (P3, qW) ∈ T.l) (hu : ∀ r ∈ T.l, r.1 = P3 → r.2 = qW)
    (k_filled : Kp P w K mg base (L2N.CX P w) 5 "filled" P_filled (spX K T (SRef2 ec 0))) (k_led : Kp P w K mg base (L2N.CX P w) 6 "led" P_led (spX K T (SRef2 ec 1))) (k_unlike : Kp P w K mg base (L2N.CX P w) 6 "unlike" P_unlike (spX K T (SRef2 ec 0))) (k_played : Kp P w K mg base (L2N.CX P w) 7 "played" P_played (spX K T (SRefP ec 2)))
    (k_torn : Kp P w K mg base (L2N.CX P w) 7 "torn" P_torn (spX K T (SRefP ec 1))) (k_ends : Kp P w K mg base (L2N.CX P w) 7 "ends" P_ends (spX K T (SRefP ec 1))) (k_widened : Kp P w K mg base (L2N.CX P w) 7 "widened" P_widened (spX K T (SRefP ec 1))) :
    Kp P w K mg base CX0 1 "_law_works" P_works (spR K T (SWorks P w K mg base T ec)) := by
  refine kp_ofC D sc_works (by decide +kernel) (fun ds Pr h => ?_) (fun f A outer s H E hr ds Pr h => ?_)
  · obtain ⟨_, _, _, _, rfl, _⟩ := h
    rfl
  · obtain ⟨fs, h1, h2, x, rfl, sm, rf, hp⟩ := h
    refine ⟨_, fun ρ' l => ρ' = [.dat (fldsD fs), .dat (handD h1), .dat (handD h2), .own l] ∧ ∃ l', ClosA (cellsFrom (s.heap.objs.size + 1) (defScope s_works).names []) N_works ρ' l l' ∧ l'.length ≤ 20 ∧ ∀ d ∈ l', RefClo P w K mg base T x d, (psr_cons (ps_set (i := 3) sc_works.nd rfl (by first | exact Or.inl rfl | exact Or.inr rfl) (pe_lst (pa_cons (pe_lamV0 (P := P3) (sc := defScope s_works) (N := N_works) (bs := []) TB rfl rfl rfl (by decide +kernel) rfl) pa_nil)))
      (psr_cons (ps_expr (pe_bm PySem.F.plainAttrs_list PySem.F.slot_list_append PySem.F.type_list_append mt_append (pv 3) (pa_cons (pe_lamV0 (P := P3) (sc := defScope s_works) (N := N_works) (bs := []) TB rfl rfl rfl (by decide +kernel) rfl) pa_nil)))
      (psr_cons (ps_expr (pe_bm PySem.F.plainAttrs_list PySem.F.slot_list_append PySem.F.type_list_append mt_append (pv 3) (pa_cons (pe_lamV0 (P := P3) (sc := defScope s_works) (N := N_works) (bs := []) TB rfl rfl rfl (by decide +kernel) rfl) pa_nil)))
      (psr_cons (ps_expr (pe_bm PySem.F.plainAttrs_list PySem.F.slot_list_append PySem.F.type_list_append mt_append (pv 3) (pa_cons (pe_lamV0 (P := P3) (sc := defScope s_works) (N := N_works) (bs := []) TB rfl rfl rfl (by decide +kernel) rfl) pa_nil)))
      (psr_cons (ps_expr (pe_bm PySem.F.plainAttrs_list PySem.F.slot_list_append PySem.F.type_list_append mt_append (pv 3) (pa_cons (pe_lamV0 (P := P3) (sc := defScope s_works) (N := N_works) (bs := []) TB rfl rfl rfl (by decide +kernel) rfl) pa_nil)))
      (psr_cons (ps_expr (pe_bm PySem.F.plainAttrs_list PySem.F.slot_list_append PySem.F.type_list_append mt_append (pv 3) (pa_cons (pe_lamV0 (P := P3) (sc := defScope s_works) (N := N_works) (bs := []) TB rfl rfl rfl (by decide +kernel) rfl) pa_nil)))
      (psr_cons (ps_expr (pe_bm PySem.F.plainAttrs_list PySem.F.slot_list_append PySem.F.type_list_append mt_append (pv 3) (pa_cons (pe_lamV0 (P := P3) (sc := defScope s_works) (N := N_works) (bs := []) TB rfl rfl rfl (by decide +kernel) rfl) pa_nil)))
      (psr_ret (pv 3))))))))), ?_, fun ρ' l ⟨_, l', k1, k2, k3⟩ => ⟨l', k1, hp l' k2 k3⟩⟩
    refine wsr_cons ?_
    refine ws_setL (wl_lst (wa_cons (we_lam hT hu fun lp1 => wa_nil ⟨rfl, Nat.le_of_ble_eq_true rfl, ?_⟩)))
    refine wsr_cons (ws_append rfl (Nat.le_of_ble_eq_true rfl) (we_lam hT hu fun lp2 => ⟨_, rfl, ?_⟩))
    refine wsr_cons (ws_append rfl (Nat.le_of_ble_eq_true rfl) (we_lam hT hu fun lp3 => ⟨_, rfl, ?_⟩))
    refine wsr_cons (ws_append rfl (Nat.le_of_ble_eq_true rfl) (we_lam hT hu fun lp4 => ⟨_, rfl, ?_⟩))
    refine wsr_cons (ws_append rfl (Nat.le_of_ble_eq_true rfl) (we_lam hT hu fun lp5 => ⟨_, rfl, ?_⟩))
    refine wsr_cons (ws_append rfl (Nat.le_of_ble_eq_true rfl) (we_lam hT hu fun lp6 => ⟨_, rfl, ?_⟩))
    refine wsr_cons (ws_append rfl (Nat.le_of_ble_eq_true rfl) (we_lam hT hu fun lp7 => ⟨_, rfl, ?_⟩))
    refine wsr_own rfl ⟨rfl, ?_⟩
    have nf : noFree (defScope s_works) = true := by decide +kernel
    have pl : Dt.plain.plainA [handD h2, handD h1, fldsD fs] = true := by
      show (Dt.plain (handD h2) && (Dt.plain (handD h1) && (Dt.plain (fldsD fs) && true))) = true
      rw [plain_flds] <;> rfl
    refine ⟨[.clo _ [handD h2, handD h1, fldsD fs], .clo _ [handD h2, handD h1, fldsD fs], .clo _ [handD h2, handD h1, fldsD fs], .clo _ [handD h2, handD h1, fldsD fs], .clo _ [handD h2, handD h1, fldsD fs], .clo _ [handD h2, handD h1, fldsD fs], .clo _ [handD h2, handD h1, fldsD fs]],
      ⟨clos_mk lp1 nf rfl (ys := ["_law_other", "_law_one", "_law_fields_here"]) rfl (by decide) rfl, clos_mk lp2 nf rfl (ys := ["_law_other", "_law_one", "_law_fields_here"]) rfl (by decide) rfl, clos_mk lp3 nf rfl (ys := ["_law_other", "_law_one", "_law_fields_here"]) rfl (by decide) rfl, clos_mk lp4 nf rfl (ys := ["_law_other", "_law_one", "_law_fields_here"]) rfl (by decide) rfl, clos_mk lp5 nf rfl (ys := ["_law_other", "_law_one", "_law_fields_here"]) rfl (by decide) rfl, clos_mk lp6 nf rfl (ys := ["_law_other", "_law_one", "_law_fields_here"]) rfl (by decide) rfl, clos_mk lp7 nf rfl (ys := ["_law_other", "_law_one", "_law_fields_here"]) rfl (by decide) rfl, True.intro⟩, Nat.le_of_ble_eq_true rfl, fun d hd => ?_⟩
    simp only [List.mem_cons, List.not_mem_nil, or_false] at hd
    rcases hd with rfl | rfl | rfl | rfl | rfl | rfl | rfl
    · refine ⟨_, _, _, SRef2 ec 0, (tCons (tVar 2) (tCons (tVar 1) (tCons (tVar 0) tNil))), rfl, ⟨clop_mk lp1 rfl (ys := ["_law_other", "_law_one", "_law_fields_here"]) rfl (by decide), .inl ⟨rfl, rfl, fun _ _ _ => rfl⟩, fun E A outer s H f c' hr2 => pe_callA k_filled (hr2.mono (by decide)) clo_pass (pa_cons (pv 2) (pa_cons (pv 1) (pa_cons (pv 0) pa_nil)))⟩, pl, ?_⟩
      acc_peel
      exact ⟨fs, h1, h2, x, _, rfl, rfl, sm, rf, rfl⟩
    · refine ⟨_, _, _, SRef2 ec 1, (tCons (tVar 2) (tCons (tVar 1) (tCons (tVar 0) (tCons (tLst (tCons (tC (.int 99)) tNil)) tNil)))), rfl, ⟨clop_mk lp2 rfl (ys := ["_law_other", "_law_one", "_law_fields_here"]) rfl (by decide), .inl ⟨rfl, rfl, fun _ _ _ => rfl⟩, fun E A outer s H f c' hr2 => pe_callA k_led (hr2.mono (by decide)) clo_pass (pa_cons (pv 2) (pa_cons (pv 1) (pa_cons (pv 0) (pa_cons (pe_lst (pa_cons pe_int pa_nil)) pa_nil))))⟩, pl, ?_⟩
      acc_peel
      exact ⟨fs, h1, h2, x, _, rfl, rfl, sm, rf, rfl⟩
    · refine ⟨_, _, _, SRef2 ec 0, (tCons (tVar 2) (tCons (tVar 1) (tCons (tVar 0) tNil))), rfl, ⟨clop_mk lp3 rfl (ys := ["_law_other", "_law_one", "_law_fields_here"]) rfl (by decide), .inl ⟨rfl, rfl, fun _ _ _ => rfl⟩, fun E A outer s H f c' hr2 => pe_callA k_unlike (hr2.mono (by decide)) clo_pass (pa_cons (pv 2) (pa_cons (pv 1) (pa_cons (pv 0) pa_nil)))⟩, pl, ?_⟩
      acc_peel
      exact ⟨fs, h1, h2, x, _, rfl, rfl, sm, rf, rfl⟩
    · refine ⟨_, _, _, SRefP ec 2, (tCons (tVar 2) (tCons (tTup (tCons (tVar 1) (tCons (tVar 0) tNil))) (tCons (tTup (tCons (tLst (tCons (tTup tNil) tNil)) (tCons (tLst tNil) tNil))) (tCons (tLst tNil) tNil)))), rfl, ⟨clop_mk lp4 rfl (ys := ["_law_other", "_law_one", "_law_fields_here"]) rfl (by decide), .inl ⟨rfl, rfl, fun _ _ _ => rfl⟩, fun E A outer s H f c' hr2 => pe_callA k_played (hr2.mono (by decide)) clo_pass (pa_cons (pv 2) (pa_cons (pe_tup (pa_cons (pv 1) (pa_cons (pv 0) pa_nil))) (pa_cons (pe_tup (pa_cons (pe_lst (pa_cons (pe_tup pa_nil) pa_nil)) (pa_cons (pe_lst pa_nil) pa_nil))) (pa_cons (pe_lst pa_nil) pa_nil))))⟩, pl, ?_⟩
      acc_peel
      exact ⟨fs, h1, h2, x, _, rfl, rfl, sm, rf, rfl⟩
    · refine ⟨_, _, _, SRefP ec 1, (tCons (tVar 2) (tCons (tTup (tCons (tVar 1) (tCons (tVar 0) tNil))) (tCons (tTup (tCons (tLst (tCons (tTup tNil) tNil)) (tCons (tLst tNil) tNil))) tNil))), rfl, ⟨clop_mk lp5 rfl (ys := ["_law_other", "_law_one", "_law_fields_here"]) rfl (by decide), .inl ⟨rfl, rfl, fun _ _ _ => rfl⟩, fun E A outer s H f c' hr2 => pe_callA k_torn (hr2.mono (by decide)) clo_pass (pa_cons (pv 2) (pa_cons (pe_tup (pa_cons (pv 1) (pa_cons (pv 0) pa_nil))) (pa_cons (pe_tup (pa_cons (pe_lst (pa_cons (pe_tup pa_nil) pa_nil)) (pa_cons (pe_lst pa_nil) pa_nil))) pa_nil)))⟩, pl, ?_⟩
      acc_peel
      exact ⟨fs, h1, h2, x, _, rfl, rfl, sm, rf, rfl⟩
    · refine ⟨_, _, _, SRefP ec 1, (tCons (tVar 2) (tCons (tTup (tCons (tVar 1) (tCons (tVar 0) tNil))) (tCons (tTup (tCons (tLst (tCons (tTup tNil) tNil)) (tCons (tLst tNil) tNil))) tNil))), rfl, ⟨clop_mk lp6 rfl (ys := ["_law_other", "_law_one", "_law_fields_here"]) rfl (by decide), .inl ⟨rfl, rfl, fun _ _ _ => rfl⟩, fun E A outer s H f c' hr2 => pe_callA k_ends (hr2.mono (by decide)) clo_pass (pa_cons (pv 2) (pa_cons (pe_tup (pa_cons (pv 1) (pa_cons (pv 0) pa_nil))) (pa_cons (pe_tup (pa_cons (pe_lst (pa_cons (pe_tup pa_nil) pa_nil)) (pa_cons (pe_lst pa_nil) pa_nil))) pa_nil)))⟩, pl, ?_⟩
      acc_peel
      exact ⟨fs, h1, h2, x, _, rfl, rfl, sm, rf, rfl⟩
    · refine ⟨_, _, _, SRefP ec 1, (tCons (tVar 2) (tCons (tTup (tCons (tVar 1) (tCons (tVar 0) tNil))) (tCons (tTup (tCons (tLst (tCons (tTup tNil) tNil)) (tCons (tLst tNil) tNil))) tNil))), rfl, ⟨clop_mk lp7 rfl (ys := ["_law_other", "_law_one", "_law_fields_here"]) rfl (by decide), .inl ⟨rfl, rfl, fun _ _ _ => rfl⟩, fun E A outer s H f c' hr2 => pe_callA k_widened (hr2.mono (by decide)) clo_pass (pa_cons (pv 2) (pa_cons (pe_tup (pa_cons (pv 1) (pa_cons (pv 0) pa_nil))) (pa_cons (pe_tup (pa_cons (pe_lst (pa_cons (pe_tup pa_nil) pa_nil)) (pa_cons (pe_lst pa_nil) pa_nil))) pa_nil)))⟩, pl, ?_⟩
      acc_peel
      exact ⟨fs, h1, h2, x, _, rfl, rfl, sm, rf, rfl⟩
def SSingle (P : Program) (w : World) (K : PySem.W.Frag) (mg : Str → Option Value) (base : Heap) (T : Tb) (ec : Nat → Addr) : SpD := fun ds Pr => ∃ (fs : List Fld) (h : Hand) (x : Xd), ds = [fldsD fs, handD h] ∧ Small fs ∧ Ref1 ec fs h x ∧ ∀ l : List Dt, l.length ≤ 20 → (∀ d ∈ l, RefClo P w K mg base T x d) → Pr (.fr l)
def qS : Str := (envOfC "_law_single" (defScope s_single) 0 0 .none).qual ++ "<lambda>"
theorem k_single_ {c P3 : Addr} {ec : Nat → Addr} (D : DfC K mg "_law_single" s_single P_single c) (bl : Bl mg) (TB : LamX.TabB base mg c P3) (hT : (P3, qS) ∈ T.l) (hu : ∀ r ∈ T.l, r.1 = P3 → r.2 = qS)
    (k_laid : Kp P w K mg base (L2N.CX P w) 5 "laid" P_laid (spX K T (SLaidX ec))) (k_spread : Kp P w K mg base (L2N.CX P w) 5 "spread" P_spread (spX K T (SRef1 ec 1))) (k_put : Kp P w K mg base (L2N.CX P w) 7 "put" P_put (spX K T (SRef1 ec 3))) (k_look : Kp P w K mg base (L2N.CX P w) 7 "look" P_look (spX K T (SRef1 ec 2))) :
    Kp P w K mg base CX0 1 "_law_single" P_single (spR K T (SSingle P w K mg base T ec)) := by
  refine kp_ofC D sc_single (by decide +kernel) (fun ds Pr h => ?_) (fun f A outer s H E hr ds Pr h => ?_)
  · obtain ⟨_, _, _, rfl, _⟩ := h
    rfl
  · obtain ⟨fs, h, x, rfl, sm, rf, hp⟩ := h
    refine ⟨_, fun ρ' l => ρ' = [.dat (fldsD fs), .dat (handD h), .own l] ∧ ∃ l', ClosA (cellsFrom (s.heap.objs.size + 1) (defScope s_single).names []) N_single ρ' l l' ∧ l'.length ≤ 20 ∧ ∀ d ∈ l', RefClo P w K mg base T x d, (psr_cons (ps_set (i := 2) sc_single.nd rfl (by first | exact Or.inl rfl | exact Or.inr rfl) (pe_lst (pa_cons (pe_lamV0 (P := P3) (sc := defScope s_single) (N := N_single) (bs := []) TB rfl rfl rfl (by decide +kernel) rfl) pa_nil)))
      (psr_cons (ps_expr (pe_bm PySem.F.plainAttrs_list PySem.F.slot_list_append PySem.F.type_list_append mt_append (pv 2) (pa_cons (pe_lamV0 (P := P3) (sc := defScope s_single) (N := N_single) (bs := []) TB rfl rfl rfl (by decide +kernel) rfl) pa_nil)))
      (psr_cons (ps_expr (pe_bm PySem.F.plainAttrs_list PySem.F.slot_list_append PySem.F.type_list_append mt_append (pv 2) (pa_cons (pe_lamV0 (P := P3) (sc := defScope s_single) (N := N_single) (bs := []) TB rfl rfl rfl (by decide +kernel) rfl) pa_nil)))
      (psr_cons (ps_expr (pe_bm PySem.F.plainAttrs_list PySem.F.slot_list_append PySem.F.type_list_append mt_append (pv 2) (pa_cons (pe_lamV0 (P := P3) (sc := defScope s_single) (N := N_single) (bs := []) TB rfl rfl rfl (by decide +kernel) rfl) pa_nil)))
      (psr_ret (pv 2)))))), ?_, fun ρ' l ⟨_, l', k1, k2, k3⟩ => ⟨l', k1, hp l' k2 k3⟩⟩
    refine wsr_cons ?_
    refine ws_setL (wl_lst (wa_cons (we_lam hT hu fun lp1 => wa_nil ⟨rfl, Nat.le_of_ble_eq_true rfl, ?_⟩)))
    refine wsr_cons (ws_append rfl (Nat.le_of_ble_eq_true rfl) (we_lam hT hu fun lp2 => ⟨_, rfl, ?_⟩))
    refine wsr_cons (ws_append rfl (Nat.le_of_ble_eq_true rfl) (we_lam hT hu fun lp3 => ⟨_, rfl, ?_⟩))
    refine wsr_cons (ws_append rfl (Nat.le_of_ble_eq_true rfl) (we_lam hT hu fun lp4 => ⟨_, rfl, ?_⟩))
    refine wsr_own rfl ⟨rfl, ?_⟩
    have nf : noFree (defScope s_single) = true := by decide +kernel
    have pl : Dt.plain.plainA [handD h, fldsD fs] = true := by
      show (Dt.plain (handD h) && (Dt.plain (fldsD fs) && true)) = true
      rw [plain_flds] <;> rfl
    refine ⟨[.clo _ [handD h, fldsD fs], .clo _ [handD h, fldsD fs], .clo _ [handD h, fldsD fs], .clo _ [handD h, fldsD fs]],
      ⟨clos_mk lp1 nf rfl (ys := ["_law_hand_here", "_law_fields_here"]) rfl (by decide) rfl, clos_mk lp2 nf rfl (ys := ["_law_hand_here", "_law_fields_here"]) rfl (by decide) rfl, clos_mk lp3 nf rfl (ys := ["_law_hand_here", "_law_fields_here"]) rfl (by decide) rfl, clos_mk lp4 nf rfl (ys := ["_law_hand_here", "_law_fields_here"]) rfl (by decide) rfl, True.intro⟩, Nat.le_of_ble_eq_true rfl, fun d hd => ?_⟩
    simp only [List.mem_cons, List.not_mem_nil, or_false] at hd
    rcases hd with rfl | rfl | rfl | rfl
    · refine ⟨_, _, _, SLaidX ec, (tCons (tVar 1) (tCons (tVar 0) tNil)), rfl, ⟨clop_mk lp1 rfl (ys := ["_law_hand_here", "_law_fields_here"]) rfl (by decide), .inl ⟨rfl, rfl, fun _ _ _ => rfl⟩, fun E A outer s H f c' hr2 => pe_callA k_laid (hr2.mono (by decide)) clo_pass (pa_cons (pv 1) (pa_cons (pv 0) pa_nil))⟩, pl, ?_⟩
      acc_peel
      exact ⟨fs, h, rfl, .inl ⟨x, sm, rf, rfl⟩⟩
    · refine ⟨_, _, _, SRef1 ec 1, (tCons (tVar 1) (tCons (tVar 0) (tCons (tLst (tCons (tC (.int 99)) tNil)) tNil))), rfl, ⟨clop_mk lp2 rfl (ys := ["_law_hand_here", "_law_fields_here"]) rfl (by decide), .inl ⟨rfl, rfl, fun _ _ _ => rfl⟩, fun E A outer s H f c' hr2 => pe_callA k_spread (hr2.mono (by decide)) clo_pass (pa_cons (pv 1) (pa_cons (pv 0) (pa_cons (pe_lst (pa_cons pe_int pa_nil)) pa_nil)))⟩, pl, ?_⟩
      acc_peel
      exact ⟨fs, h, x, _, rfl, rfl, sm, rf, rfl⟩
    · refine ⟨_, _, _, SRef1 ec 3, (tCons (tVar 1) (tCons (tVar 0) (tCons (tLst (tCons (tC (.int 99)) tNil)) (tCons (tC (.str "A")) (tCons (tUn (rU fun i => .int (-i)) (tC (.int 1))) tNil))))), rfl, ⟨clop_mk lp3 rfl (ys := ["_law_hand_here", "_law_fields_here"]) rfl (by decide), .inl ⟨rfl, rfl, fun _ _ _ => rfl⟩, fun E A outer s H f c' hr2 => pe_callA k_put (hr2.mono (by decide)) clo_pass (pa_cons (pv 1) (pa_cons (pv 0) (pa_cons (pe_lst (pa_cons pe_int pa_nil)) (pa_cons pe_str (pa_cons (pe_un un_neg pe_int) pa_nil)))))⟩, pl, ?_⟩
      acc_peel
      exact ⟨fs, h, x, _, rfl, rfl, sm, rf, rfl⟩
    · refine ⟨_, _, _, SRef1 ec 2, (tCons (tVar 1) (tCons (tVar 0) (tCons (tLst (tCons (tC (.int 99)) tNil)) (tCons (tC (.str "A")) tNil)))), rfl, ⟨clop_mk lp4 rfl (ys := ["_law_hand_here", "_law_fields_here"]) rfl (by decide), .inl ⟨rfl, rfl, fun _ _ _ => rfl⟩, fun E A outer s H f c' hr2 => pe_callA k_look (hr2.mono (by decide)) clo_pass (pa_cons (pv 1) (pa_cons (pv 0) (pa_cons (pe_lst (pa_cons pe_int pa_nil)) (pa_cons pe_str pa_nil))))⟩, pl, ?_⟩
      acc_peel
      exact ⟨fs, h, x, _, rfl, rfl, sm, rf, rfl⟩
end
end Rw

namespace Rw
open PySem PySem.Spec PyProof.Rows L2 Ub
set_option hygiene false in
local macro_rules | `(tactic| acc_peel) => `(tactic| (repeat (first | ((with_reducible show Ub.WS _ _ (tSeq _ _) _ _); (first | refine ws_seq ?_)) | ((with_reducible show Ub.WS _ _ tNext _ _); (first | refine ws_next ?_)) | ((with_reducible show Ub.WS _ _ tRetN _ _); (first | refine ws_retN ?_)) | ((with_reducible show Ub.WS _ _ (tIfS _ _ _) _ _); (first | refine ws_if ?_)) | ((with_reducible show Ub.WS _ _ (tRet (tIf _ _ _)) _ _); (first | refine ws_retIf ?_)) | ((with_reducible show Ub.WS _ _ (tAsg (tC _) (gName _)) _ _); (first | refine ws_set (we_int ?_) | refine ws_set (we_str ?_) | refine ws_set (we_bl ?_) | refine ws_set (we_non ?_))) | ((with_reducible show Ub.WS _ _ (tAsg (tVar _) (gName _)) _ _); (first | refine ws_set (we_dat rfl ?_))) | ((with_reducible show Ub.WS _ _ (tAsg (tLst tNil) (gName _)) _ _); (first | refine ws_setL (wl_lst (wa_nil ⟨rfl, by decide, ?_⟩)))) | ((with_reducible show Ub.WS _ _ (tAsg (tOp (rIxL _) (tLst _) (tCall _ _ _ _)) (gName _)) _ _); (first | refine ws_set (we_pick rfl ?_))) | ((with_reducible show Ub.WS _ _ (tAsg (tOp rCat _ _) (gName _)) _ _); (first | refine ws_set (we_l (wl_cat ?_)))) | ((with_reducible show Ub.WS _ _ (tAsg (tOp rRep _ _) (gName _)) _ _); (first | refine ws_set (we_l (wl_rep1 ?_)))) | ((with_reducible show Ub.WS _ _ (tAsg (tOp (rCatT _) _ _) (gName _)) _ _); (first | refine ws_set (we_catT ?_))) | ((with_reducible show Ub.WS _ _ (tAsg (tOp _ _ _) (gName _)) _ _); (first | refine ws_set (we_op ?_))) | ((with_reducible show Ub.WS _ _ (tAsg (tSl (rSlL _) _ _ _) (gName _)) _ _); (first | refine ws_set (we_l (wl_slice ?_)))) | ((with_reducible show Ub.WS _ _ (tAsg (tTup _) (gName _)) _ _); (first | refine ws_set (we_tup ?_))) | ((with_reducible show Ub.WS _ _ (tAsg (tUn _ _) (gName _)) _ _); (first | refine ws_set (we_neg ?_))) | ((with_reducible show Ub.WS _ _ (tAsg (tCB rMax2 _) (gName _)) _ _); (first | refine ws_set (we_tcb ?_))) | ((with_reducible show Ub.WS _ _ (tAsg (tCB rMin2 _) (gName _)) _ _); (first | refine ws_set (we_tcb ?_))) | ((with_reducible show Ub.WS _ _ (tAsg (tCB rInt1 _) (gName _)) _ _); (first | refine ws_set (we_tcb ?_))) | ((with_reducible show Ub.WS _ _ (tAsg (tCB (Evl.rLenS _) _) (gName _)) _ _); (first | refine ws_set (we_tcb ?_))) | ((with_reducible show Ub.WE _ _ (tC _) _ _); (first | refine we_int ?_ | refine we_str ?_ | refine we_bl ?_ | refine we_non ?_)) | ((with_reducible show Ub.WE _ _ (tVar _) _ _); (first | refine we_dat rfl ?_ | refine we_own rfl ?_)) | ((with_reducible show Ub.WE _ _ (tOp (rIxL _) (tLst _) (tCall _ _ _ _)) _ _); (first | refine we_pick rfl ?_)) | ((with_reducible show Ub.WE _ _ (tOp rCat _ _) _ _); (first | refine we_l (wl_cat ?_))) | ((with_reducible show Ub.WE _ _ (tOp rRep _ _) _ _); (first | refine we_l (wl_rep1 ?_))) | ((with_reducible show Ub.WE _ _ (tOp (rIxDI _) (tC _) _) _ _); (first | refine we_ixK ?_)) | ((with_reducible show Ub.WE _ _ (tOp (rCatT _) _ _) _ _); (first | refine we_catT ?_)) | ((with_reducible show Ub.WE _ _ (tLstRg (tRg1 _)) _ _); (first | refine we_l (wl_listR1 ?_))) | ((with_reducible show Ub.WE _ _ (tLstRg (tRg2 _ _)) _ _); (first | refine we_l (wl_listR2 ?_))) | ((with_reducible show Ub.WE _ _ (tOp _ _ _) _ _); (first | refine we_op ?_)) | ((with_reducible show Ub.WE _ _ (tUn _ _) _ _); (first | refine we_neg ?_)) | ((with_reducible show Ub.WE _ _ (tIf _ _ _) _ _); (first | refine we_if ?_)) | ((with_reducible show Ub.WE _ _ (tAndV _ _) _ _); (first | refine we_and ?_)) | ((with_reducible show Ub.WE _ _ (tOrV _ _) _ _); (first | refine we_or ?_)) | ((with_reducible show Ub.WE _ _ (tNotV _) _ _); (first | refine we_not ?_)) | ((with_reducible show Ub.WE _ _ (tChain _ _ _ _ _) _ _); (first | refine we_chain ?_)) | ((with_reducible show Ub.WE _ _ (tCB (Evl.rListS _) _) _ _); (first | refine we_l (wl_list ?_))) | ((with_reducible show Ub.WE _ _ (tCB (rTupOf _) (tCons _ tNil)) _ _); (first | refine we_tupOf ?_)) | ((with_reducible show Ub.WE _ _ (tCB (rIsi _) (tCons _ (tCons (tC (.ty _)) tNil))) _ _); (first | refine we_isi ?_)) | ((with_reducible show Ub.WE _ _ (tBM _ "list" (rIndex _) _ (tCons _ tNil)) _ _); (first | refine we_index ?_)) | ((with_reducible show Ub.WE _ _ (tM1 rSplitT _ _) _ _); (first | refine we_l (wl_split ?_))) | ((with_reducible show Ub.WE _ _ (tM1 rPartT _ _) _ _); (first | refine we_part ?_)) | ((with_reducible show Ub.WE _ _ (tM1 rCountT _ _) _ _); (first | refine we_count ?_)) | ((with_reducible show Ub.WR _ _ rInT _ _ _ _); (first | refine wr_inT ?_)) | ((with_reducible show Ub.WR _ _ rInTn _ _ _ _); (first | refine wr_inTn ?_)) | ((with_reducible show Ub.WE _ _ (tJoinF [] _) _ _); (first | refine we_jNil ?_)) | ((with_reducible show Ub.WE _ _ (tJoinF (_ :: _) _) _ _); (first | refine we_jCons ?_)) | ((with_reducible show Ub.WE _ _ (tCB _ _) _ _); (first | refine we_tcb ?_)) | ((with_reducible show Ub.WE _ _ (tTup _) _ _); (first | refine we_tup ?_)) | ((with_reducible show Ub.WE _ _ (tLst _) _ _); (first | refine we_l (wl_lst ?_))) | ((with_reducible show Ub.WE _ _ (tSl (rSlL _) _ _ _) _ _); (first | refine we_l (wl_slice ?_))) | ((with_reducible show Ub.WE _ _ (tSl rSlS _ _ _) _ _); (first | refine we_sliceS ?_)) | ((with_reducible show Ub.WE _ _ (tSl (rSlT _) _ _ _) _ _); (first | refine we_sliceT ?_)) | ((with_reducible show Ub.WE _ _ (tRevL _ _) _ _); (first | refine we_l (wl_rev ?_))) | ((with_reducible show Ub.WA _ _ tNil _ _); (first | refine wa_nil ?_)) | ((with_reducible show Ub.WA _ _ (tCons _ _) _ _); (first | refine wa_cons ?_)) | ((with_reducible show Ub.WO _ _ tNoPart _ _); (first | refine wo_none ?_)) | ((with_reducible show Ub.WO _ _ (tPart _) _ _); (first | refine wo_some ?_)) | ((with_reducible show Ub.WT _ _ (tB _) _ _); (first | refine wt_val ?_)) | ((with_reducible show Ub.WT _ _ (tTest _) _ _); (first | refine wt_test ?_)) | ((with_reducible show Ub.WT _ _ (tAnd _ _) _ _); (first | refine wt_and ?_)) | ((with_reducible show Ub.WT _ _ (tOr _ _) _ _); (first | refine wt_or ?_)) | ((with_reducible show Ub.WT _ _ (tNot _) _ _); (first | refine wt_not ?_)) | ((with_reducible show Ub.WT _ _ tYes _ _); (first | refine wt_yes ?_)) | ((with_reducible show Ub.WT _ _ (tTru _ _) _ _); (first | refine wt_tru ?_)) | ((with_reducible show Ub.WR _ _ rIsN _ _ _ _); (first | refine wr_isN rfl ?_)) | ((with_reducible show Ub.WR _ _ rNotN _ _ _ _); (first | refine wr_notN rfl ?_)) | ((with_reducible show Ub.WR _ _ (rI0 _) _ _ _ _); (first | refine wr_int ?_ | refine wr_cmp ?_)) | ((with_reducible show Ub.WR _ _ (rI CMul _) _ _ _ _); (first | refine wr_mulL (by omega) (by omega) ?_ | refine wr_mulR (by omega) (by omega) ?_)) | ((with_reducible show Ub.WR _ _ (rI CDiv _) _ _ _ _); (first | refine wr_fdiv (by omega) (by omega) ?_)) | ((with_reducible show Ub.WR _ _ (rI _ _) _ _ _ _); (first | refine wr_mod (by omega) ?_)) | ((with_reducible show Ub.WR _ _ rEq _ _ _ _); (first | refine wr_eqI ?_ | refine wr_eqS ?_ | refine wr_eqB ?_)) | ((with_reducible show Ub.WR _ _ rNe _ _ _ _); (first | refine wr_neI ?_ | refine wr_neS ?_ | refine wr_neB ?_)) | ((with_reducible show Ub.WR _ _ (rIxL _) _ _ _ _); (first | refine wr_ixL rfl rfl ?_)) | ((with_reducible show Ub.WR _ _ (rIxT _) _ _ _ _); (first | refine wr_h0 ?_ | refine wr_h1 ?_ | refine wr_f0 ?_ | refine wr_f1 ?_ | refine wr_l0 ?_ | refine wr_l1 ?_ | refine wr_ixT rfl rfl ?_)) | ((with_reducible show Ub.WR _ _ rAddS _ _ _ _); (first | refine wr_addS (by omega) ?_)) | ((with_reducible show Ub.WR _ _ rRepS _ _ _ _); (first | refine wr_repS (by omega) (by omega) (by omega) ?_)) | ((with_reducible show Ub.WC _ _ (Evl.rLenS _) _ _ _); (first | refine wc_lenL rfl ?_ | refine wc_lenT rfl ?_)) | ((with_reducible show Ub.WC _ _ rLenStr _ _ _); (first | refine wc_lenS (by omega) ?_)) | ((with_reducible show Ub.WC _ _ rAbs _ _ _); (first | refine wc_abs ?_)) | ((with_reducible show Ub.WC _ _ rMin2 _ _ _); (first | refine wc_min ?_)) | ((with_reducible show Ub.WC _ _ rMax2 _ _ _); (first | refine wc_max ?_)) | ((with_reducible show Ub.WC _ _ rInt1 _ _ _); (first | refine wc_intB ?_ | refine wc_intI ?_)) | ((with_reducible show Ub.WC _ _ rStrI _ _ _); (first | refine wc_strI (by assumption) ?_)) | ((with_reducible show Ub.WC _ _ rIntS _ _ _); (first | refine wc_intS (by assumption) (by assumption) ?_)) | ((with_reducible show Ub.WG _ _ (gName _) _ _ _); (first | refine wg_name ?_)) | ((with_reducible show Ub.WG _ _ (gTup _ _ _) _ _ _); (first | refine wg_tup rfl ?_)) | ((with_reducible show Ub.WGs _ _ (gCons _ _) _ _ _); (first | refine wgs_cons ?_)) | ((with_reducible show Ub.WGs _ _ gNil _ _ _); (first | refine wgs_nil ?_)) | ((with_reducible show Exists _); (first | refine ex_d ?_ | refine ex_i ?_ | refine ex_s ?_ | refine ex_b ?_ | refine ex_l ?_ | refine ex_t ?_ | refine ex_rd ?_ | refine ex_rf ?_ | refine ex_al rfl ?_ | refine ex_n1 ?_ | refine ex_l1 ?_ | refine ex_l2 ?_ | refine ex_cat rfl rfl (by first | omega | (simp; done) | (simp; omega)) ?_ | refine ex_rep rfl (by first | omega | (simp; done) | (simp; omega)) (by first | omega | (simp; done) | (simp; omega)) ?_)) | ((with_reducible show _ ∧ _); (first | refine an_d rfl ?_ | refine an_le (Nat.le_of_ble_eq_true rfl) ?_ | refine an_le (by first | omega | (simp; done) | (simp; omega)) ?_ | refine an_leI (by first | omega | (simp; done) | (simp; omega)) ?_ | refine an_ltI (by first | omega | (simp; done) | (simp; omega)) ?_ | refine an_eqI rfl ?_ | refine an_bf rfl ?_)) | ((with_reducible show Ub.WS _ _ (tDrop (tBM _ "list" rAppend (tVar _) (tCons _ tNil))) _ _); (first | refine ws_append rfl (by first | omega | (simp; done) | (simp; omega)) ?_)))))
section
variable {P : Program} {w : World} {K : PySem.W.Frag} {mg : Str → Option Value} {base : Heap} {T : Tb}
/-! ### fields that cannot be, drawn -/
def OddG (fs : List Fld) (n : Nat) (g : Fld) : Prop := g.1.length ≤ 1000 ∧ (nameB g.1 = false ∨ sizeB g.2 = false ∨ ∃ z ∈ fs.take n, z.1 = g.1)
theorem badAt_appD {fs r : List Fld} {j : Nat} (h : j < fs.length) : badAt (fs ++ r) j = badAt fs j := by
  unfold badAt
  rw [List.getElem?_append_left h, List.take_append_of_le_length (by omega)]
theorem badAt_takeD {fs : List Fld} {n j : Nat} (h : j < n) : badAt (fs.take n) j = badAt fs j := by
  unfold badAt
  rw [List.getElem?_take_of_lt h, List.take_take, Nat.min_eq_left (by omega)]
theorem oddG_bad {fs r : List Fld} {n : Nat} {g : Fld} (hF : FieldsOk fs) (hn : n ≤ fs.length) (h : OddG fs n g) : badAt (fs.take n ++ (g :: r)) n = true ∧ ∀ j, j < n → badAt (fs.take n ++ (g :: r)) j = false := by
  have hl : (fs.take n).length = n := by rw [List.length_take]; omega
  refine ⟨?_, fun j hj => ?_⟩
  · unfold badAt
    rw [List.getElem?_append_right (by omega), hl, Nat.sub_self, List.take_append_of_le_length (by omega), List.take_of_length_le (by omega)]
    show (decide ((6 : Int) ≤ (n : Int)) || (!nameB g.1 || (decide (∃ z ∈ fs.take n, z.1 = g.1) || !sizeB g.2))) = true
    rcases h.2 with z | z | z
    · simp [z]
    · simp [z]
    · rw [decide_eq_true z]
      simp
  · rw [badAt_appD (by omega), badAt_takeD hj, badAt_ok hF]
def six : List Fld := [("qa", 1), ("qb", 1), ("qc", 1), ("qd", 1), ("qe", 1), ("qf", 1)]
theorem six_at {i c : Nat} (h : (cutS "abcdefg" none (some 6)).cps[i]? = some c) : six[i]? = some ((("q" : Str) ++ (⟨#[c]⟩ : Str)), (1 : Int)) := by
  have h7 : (cutS "abcdefg" none (some 6)).cps = #[97, 98, 99, 100, 101, 102] := by decide +kernel
  rw [h7] at h
  have hi : i < 6 := by
    have := (Array.getElem?_eq_some_iff.mp h).1
    simpa using this
  have c7 : i = 0 ∨ i = 1 ∨ i = 2 ∨ i = 3 ∨ i = 4 ∨ i = 5 := by omega
  rcases c7 with e | e | e | e | e | e <;> subst e <;> cases h <;> decide +kernel
theorem six_bad {g : Fld} {r : List Fld} : badAt (six ++ (g :: r)) 6 = true ∧ ∀ j, j < 6 → badAt (six ++ (g :: r)) j = false := by
  have h : ∀ j, j < 6 → badAt six j = false := by decide +kernel
  refine ⟨?_, fun j hj => by rw [badAt_appD (show j < 6 from hj)]; exact h j hj⟩
  unfold badAt
  rw [List.getElem?_append_right (by decide)]
  rfl
def SBad (ec : Nat → Addr) : SpD := fun ds Pr => ∃ fs : List Fld, ds = [fldsD fs] ∧ FieldsOk fs ∧ ∀ (bad : List Fld) (n : Int), Small bad → RefF ec bad (numbX ec n) → Pr (.dat (.tup [fldsD bad, .int n]))
theorem k_bad_ {ec : Nat → Addr} (D : Df K mg "_law_bad" s_bad P_bad) (bl : Bl mg) (k_off : Kp P w K mg base CX0 1 "_law_off" P_off (spRd K T SOff)) : Kp P w K mg base CX0 2 "_law_bad" P_bad (spRd K T (SBad ec)) := by
  refine kp_ofD D sc_bad (fun ds Pr h => ?_) (fun f cdv A outer s H E hr ds Pr h => ?_)
  · obtain ⟨_, rfl, _⟩ := h
    rfl
  · obtain ⟨fs, rfl, hF, hp⟩ := h
    have f1 := hF.pos
    have f6 := hF.most
    refine ⟨_, (pss_cons (ps_set (i := 2) sc_bad.nd rfl (by first | exact Or.inl rfl | exact Or.inr rfl) (pe_callA k_off (hr.mono (by decide)) pass0 (pa_cons (pv 0) (pa_cons (pe_op op_add (pe_callB (r := Evl.rLenS K) cr_lenSq (by rfl) bl.len PySem.boot_len (pa_cons (pv 1) pa_nil)) pe_int) pa_nil))))
      (pss_cons (ps_set (i := 3) sc_bad.nd rfl (by first | exact Or.inl rfl | exact Or.inr rfl) (pe_lst (pa_cons pe_str (pa_cons pe_str (pa_cons pe_str (pa_cons pe_str (pa_cons pe_str (pa_cons pe_str pa_nil))))))))
      (pss_cons (ps_set (i := 4) sc_bad.nd rfl (by first | exact Or.inl rfl | exact Or.inr rfl) (pe_lst (pa_cons (pe_tup (pa_cons (pe_ix (r := rIxL K) ix_list (pv 3) (pe_callA k_off (hr.mono (by decide)) pass0 (pa_cons (pv 0) (pa_cons pe_int pa_nil))) (fun _ _ => rfl)) (pa_cons pe_int pa_nil))) (pa_cons (pe_tup (pa_cons pe_str (pa_cons (pe_ix (r := rIxL K) ix_list (pe_lst (pa_cons pe_int (pa_cons pe_int (pa_cons pe_int (pa_cons (pe_un un_neg pe_int) (pa_cons (pe_op op_pow pe_int pe_int) pa_nil)))))) (pe_callA k_off (hr.mono (by decide)) pass0 (pa_cons (pv 0) (pa_cons pe_int pa_nil))) (fun _ _ => rfl)) pa_nil))) pa_nil))))
      (pss_cons (ps_if (pt_cmpR  op_gt (pv 2) pe_int (nomark _))
        (pss_one (ps_expr (pe_bm PySem.F.plainAttrs_list PySem.F.slot_list_append PySem.F.type_list_append mt_append (pv 4) (pa_cons (pe_tup (pa_cons (pe_ix (r := rIxT K) ix_tup (pe_ix (r := rIxL K) ix_list (pv 1) (pe_callA k_off (hr.mono (by decide)) pass0 (pa_cons (pv 0) (pa_cons (pv 2) pa_nil))) (fun _ _ => rfl)) pe_int (fun _ _ => rfl)) (pa_cons pe_int pa_nil))) pa_nil))))
        pss_nil)
      (pss_cons (ps_if (pt_cmpR  op_eq (pe_callA k_off (hr.mono (by decide)) pass0 (pa_cons (pv 0) (pa_cons pe_int pa_nil))) pe_int (nomark _))
        (pss_one (ps_ret (pe_tup (pa_cons (pe_lst pa_nil) (pa_cons pe_int pa_nil)))))
        pss_nil)
      (pss_cons (ps_if (pt_cmpR  op_eq (pe_callA k_off (hr.mono (by decide)) pass0 (pa_cons (pv 0) (pa_cons pe_int pa_nil))) pe_int (nomark _))
        (pss_one (ps_ret (pe_tup (pa_cons (pe_op op_cat (pe_lc (own := [("_law_sign", 5)]) (g := gName 5) (by rfl) sc_bad.nd (pi_str (pe_slice sl_str pe_str po_none (po_some pe_int))) (blkOk_by (own := [("_law_sign", 5)]) (N := N_bad) (sc := defScope s_bad) (by decide +kernel)) (fun _ _ _ _ _ => (pg_name (i := 5) sc_bad.nd rfl (by first | exact Or.inl rfl | exact Or.inr rfl))) (fun _ _ _ _ _ => pts_nil) (fun _ _ _ _ _ => (pe_tup (pa_cons (pe_op (r := rAddS) op_addS pe_str (pv 5)) (pa_cons pe_int pa_nil))))) (pe_op op_rep (pe_lst (pa_cons (pe_tup (pa_cons pe_str (pa_cons pe_int pa_nil))) pa_nil)) (pe_op op_add pe_int (pe_callA k_off (hr.mono (by decide)) pass0 (pa_cons (pv 0) (pa_cons pe_int pa_nil)))))) (pa_cons pe_int pa_nil)))))
        pss_nil)
      (pss_one (ps_ret (pe_tup (pa_cons (pe_op op_cat (pe_op op_cat (pe_op op_cat (pe_slice (r := rSlL K) sl_list (pv 1) po_none (po_some (pv 2))) (pe_lst (pa_cons (pe_ix (r := rIxL K) ix_list (pv 4) (pe_callA k_off (hr.mono (by decide)) pass0 (pa_cons (pv 0) (pa_cons (pe_callB (r := Evl.rLenS K) cr_lenSq (by rfl) bl.len PySem.boot_len (pa_cons (pv 4) pa_nil)) pa_nil))) (fun _ _ => rfl)) pa_nil))) (pe_slice (r := rSlL K) sl_list (pv 1) (po_some (pv 2)) po_none)) (pe_op op_rep (pe_lst (pa_cons (pe_tup (pa_cons pe_str (pa_cons pe_int pa_nil))) pa_nil)) (pe_callA k_off (hr.mono (by decide)) pass0 (pa_cons (pv 0) (pa_cons pe_int pa_nil))))) (pa_cons (pv 2) pa_nil))))))))))), ?_⟩
    acc_peel
    refine ws_set (we_callD rfl ?_)
    acc_peel
    refine ⟨_, rfl, by simp; omega, by simp; omega, fun a0 a1 a2 => ⟨_, rfl, ?_⟩⟩
    rw [List.length_map] at a2
    obtain ⟨n, rfl⟩ : ∃ n : Nat, a0 = (n : Int) := ⟨a0.toNat, by omega⟩
    acc_peel
    refine ws_set (we_l (wl_lst ?_))
    acc_peel
    refine ws_setL (wl_lst ?_)
    acc_peel
    refine we_callD rfl ?_
    acc_peel
    refine ⟨6, rfl, by decide, by decide, fun r r0 r1 => ⟨_, rfl, ?_⟩⟩
    obtain ⟨d, hd, hm⟩ := at_pick (l := List.map Ag.d [Ag.dat (Dt.str ""), Ag.dat (Dt.str "A"), Ag.dat (Dt.str "a1"), Ag.dat (Dt.str "abcdefg"), Ag.dat (Dt.str "a b"), Ag.dat (Dt.str "-")]) r0 r1
    refine wr_ixL rfl hd ?_
    obtain ⟨nm, rfl, hnm, hnl⟩ : ∃ nm : Str, d = .str nm ∧ nameB nm = false ∧ nm.length ≤ 1000 := by
      simp only [List.map_cons, List.map_nil, List.mem_cons, List.not_mem_nil, or_false] at hm
      rcases hm with rfl | rfl | rfl | rfl | rfl | rfl <;> exact ⟨_, rfl, by decide +kernel, by decide +kernel⟩
    acc_peel
    refine wr_intC (f := fun i j => i ^ j.toNat) (show CPow 10 9 from ⟨by decide, by decide, by decide⟩) ?_
    acc_peel
    refine fun d hd => ?_
    obtain ⟨z, rfl, hz⟩ : ∃ z : Int, d = .int z ∧ sizeB z = false := by
      simp only [List.map_cons, List.map_nil, List.mem_cons, List.not_mem_nil, or_false] at hd
      rcases hd with rfl | rfl | rfl | rfl | rfl <;> exact ⟨_, rfl, by decide +kernel⟩
    refine wa_nil ⟨rfl, Nat.le_of_ble_eq_true rfl, wa_nil ⟨rfl, Nat.le_of_ble_eq_true rfl, ?_⟩⟩
    have oa : OddG fs n (nm, 2) := ⟨hnl, .inl hnm⟩
    have ob : OddG fs n ("zz", z) := ⟨by show ("zz" : Str).length ≤ 1000; decide +kernel, .inr (.inl hz)⟩
    refine ws_join (fun ρ' => ∃ odds : List Fld, odds ≠ [] ∧ odds.length ≤ 3 ∧ (∀ g ∈ odds, OddG fs n g) ∧ ρ' = [.dice, .dat (fldsD fs), .dat (.int n), .un, .own (odds.map fldD), .un]) ?_ ?_
    · refine ws_sub [.dice, .dat (fldsD fs), .dat (.int n), .un, .own ([(nm, 2), (("zz" : Str), z)].map fldD), .un] (by (repeat (first | exact sub_nil | refine sub_eq ?_ | refine sub_un ?_))) ?_
      acc_peel
      refine ⟨fun h0 => ?_, fun h0 => ?_⟩
      · have h0 : (0 : Int) < (n : Int) := of_decide_eq_true h0
        acc_peel
        refine we_callD rfl ?_
        acc_peel
        refine ⟨n, rfl, by omega, by omega, fun r r0 r1 => ⟨_, rfl, ?_⟩⟩
        obtain ⟨r, rfl⟩ : ∃ n : Nat, r = (n : Int) := ⟨r.toNat, by omega⟩
        have hr : fs[r]? = some fs[r] := List.getElem?_eq_getElem (by omega)
        have hmr : fs[r] ∈ fs.take n := List.mem_iff_getElem?.mpr ⟨r, by rw [List.getElem?_take_of_lt (by omega)]; exact hr⟩
        have hnr := hF.name _ (List.mem_of_getElem? hr)
        generalize fs[r] = g at hr hmr hnr
        refine wr_ixL rfl (atI_nat (at_mp hr)) ?_
        acc_peel
        refine ⟨[(nm, 2), (("zz" : Str), z), (g.1, 1)], by simp, by simp, fun y hy => ?_, rfl⟩
        simp only [List.mem_cons, List.not_mem_nil, or_false] at hy
        rcases hy with rfl | rfl | rfl
        · exact oa
        · exact ob
        · exact ⟨Nat.le_trans hnr.2.1 (by decide), .inr (.inr ⟨g, hmr, rfl⟩)⟩
      · acc_peel
        refine ⟨[(nm, 2), (("zz" : Str), z)], by simp, by simp, fun y hy => ?_, rfl⟩
        simp only [List.mem_cons, List.not_mem_nil, or_false] at hy
        rcases hy with rfl | rfl
        · exact oa
        · exact ob
    rintro ρ' ⟨odds, o1, o2, o3, rfl⟩
    acc_peel
    refine we_callD rfl ?_
    acc_peel
    refine ⟨6, rfl, by decide, by decide, fun u u0 u1 => ⟨_, rfl, ?_⟩⟩
    acc_peel
    refine ⟨fun _ => ?_, fun _ => ?_⟩
    · refine ws_ret ?_
      acc_peel
      exact hp [] 0 ⟨fun g hg => (nomatch hg), by decide⟩ (.inl ⟨rfl, rfl⟩)
    acc_peel
    refine we_callD rfl ?_
    acc_peel
    refine ⟨6, rfl, by decide, by decide, fun u u0 u1 => ⟨_, rfl, ?_⟩⟩
    acc_peel
    refine ⟨fun _ => ?_, fun _ => ?_⟩
    · refine ws_ret ?_
      acc_peel
      refine we_l ?_
      refine wl_lcS (js := [5]) (fun i acc => acc = (six.take i).map fldD) (by simp) rfl ?_
      acc_peel
      refine ⟨rfl, fun i c acc hc hl hI => ⟨_, tg_name, ?_⟩, fun acc hI => ?_⟩
      · subst hI
        have hs := six_at hc
        refine wt_yes ⟨fun _ => ?_, fun h => (nomatch h)⟩
        acc_peel
        refine wr_addS (by show 1 + 1 ≤ 100000; decide) ?_
        acc_peel
        rw [List.take_add_one, hs, List.map_append]
        rfl
      · have h7 : (cutS "abcdefg" none (some 6)).cps.size = 6 := by decide +kernel
        rw [h7] at hI
        subst hI
        acc_peel
        refine we_callD rfl ?_
        acc_peel
        refine ⟨2, rfl, by decide, by decide, fun m m0 m1 => ⟨_, rfl, ?_⟩⟩
        acc_peel
        have e : List.map fldD (List.take 6 six) ++ List.replicate (1 + m).toNat (Ag.dat (Dt.tup (List.map Ag.d [Ag.dat (Dt.str "z"), Ag.dat (Dt.int 1)]))).d = (six ++ ((("z" : Str), (1 : Int)) :: List.replicate m.toNat (("z" : Str), (1 : Int)))).map fldD := by
          rw [show (1 + m).toNat = m.toNat + 1 by omega, List.replicate_succ]
          simp [fldD, Ag.d, six, List.replicate]
        rw [e]
        obtain ⟨b1, b2⟩ := six_bad (g := (("z" : Str), (1 : Int))) (r := List.replicate m.toNat (("z" : Str), (1 : Int)))
        have rb : ∀ y ∈ six ++ ((("z" : Str), (1 : Int)) :: List.replicate m.toNat (("z" : Str), (1 : Int))), y.1.length ≤ 1000 := fun y hy => by
          have rz : ("z" : Str).length ≤ 1000 := by decide +kernel
          rcases List.mem_append.mp hy with h | h
          · exact (show ∀ y ∈ six, y.1.length ≤ 1000 by decide +kernel) y h
          · rcases List.mem_cons.mp h with rfl | h
            · exact rz
            · rw [List.eq_of_mem_replicate h]
              exact rz
        exact hp _ 6 ⟨rb, by simp [six]; omega⟩ (.inr ⟨by simp, 6, b1, b2, rfl⟩)
    · acc_peel
      refine ws_ret ?_
      acc_peel
      refine we_callD rfl ?_
      acc_peel
      refine ⟨_, rfl, by have := List.length_pos_iff.mpr o1; simp; omega, by simp; omega, fun r r0 r1 => ⟨_, rfl, ?_⟩⟩
      rw [List.length_map] at r1
      obtain ⟨r, rfl⟩ : ∃ n : Nat, r = (n : Int) := ⟨r.toNat, by omega⟩
      have hr : odds[r]? = some odds[r] := List.getElem?_eq_getElem (by omega)
      have hg := o3 _ (List.mem_of_getElem? hr)
      generalize odds[r] = g at hr hg
      refine wr_ixL rfl (d := fldD g) (atI_nat (by rw [List.getElem?_map, hr]; rfl)) ?_
      acc_peel
      rw [cut_take, ← List.map_take]
      refine ex_cat rfl rfl (by simp; omega) ?_
      acc_peel
      rw [cut_drop, ← List.map_drop]
      refine ex_cat rfl rfl (by simp; omega) ?_
      acc_peel
      refine we_callD rfl ?_
      acc_peel
      refine ⟨2, rfl, by decide, by decide, fun m m0 m1 => ⟨_, rfl, ?_⟩⟩
      acc_peel
      have eb : List.map fldD (List.take n fs) ++ List.map Ag.d [Ag.dat (fldD g)] ++ List.map fldD (List.drop n fs) ++ List.replicate m.toNat (Ag.dat (Dt.tup (List.map Ag.d [Ag.dat (Dt.str ""), Ag.dat (Dt.int 9)]))).d = (fs.take n ++ (g :: (fs.drop n ++ List.replicate m.toNat (("" : Str), (9 : Int))))).map fldD := by
        simp [fldD, Ag.d]
      rw [eb]
      obtain ⟨b1, b2⟩ := oddG_bad (r := fs.drop n ++ List.replicate m.toNat (("" : Str), (9 : Int))) hF (show n ≤ fs.length by omega) hg
      have rb : ∀ y ∈ fs.take n ++ (g :: (fs.drop n ++ List.replicate m.toNat (("" : Str), (9 : Int)))), y.1.length ≤ 1000 := fun y hy => by
        rcases List.mem_append.mp hy with h | h
        · exact hF.small.1 y (List.mem_of_mem_take h)
        · rcases List.mem_cons.mp h with rfl | h
          · exact hg.1
          · rcases List.mem_append.mp h with h | h
            · exact hF.small.1 y (List.mem_of_mem_drop h)
            · rw [List.eq_of_mem_replicate h]
              show ("" : Str).length ≤ 1000
              decide +kernel
      exact hp _ n ⟨rb, by simp; omega⟩ (.inr ⟨by simp, n, b1, b2, rfl⟩)
end
end Rw

namespace Ub
open PySem PySem.Spec PyProof.Rows L2
def rTupOf (K : PySem.W.Frag) : List V → Hp → VK → Prop := fun xs H Q => ∃ p ys, xs = [.ref p] ∧ ((SqL K H p ys ∧ ∀ l, H l = none → Q (.ref l) (upd H l (.tup ys))) ∨ (SqT K H p ys ∧ Q (.ref p) H))
theorem cr_tupOf {X : Cx} : CallR X (.type "tuple") (rTupOf X.K) := call_tuple_of
section
variable {K : PySem.W.Frag} {T : Tb} {A B : Hp} {dc : Option Addr} {C H : Hp} {σ : L2.St} {ρ : List Sl} {α : Nat → Addr} {P : Ag → Prop} {Pl : List Dt → Prop} {ta tb tc te : TE}
theorem dza_flat {vs : List V} {l : List Dt} (h : DzA K C vs l) : ∀ n : Nat, DzA K C (List.replicate n vs).flatten (List.replicate n l).flatten
  | 0 => .nil
  | n + 1 => by
    rw [List.replicate_succ, List.replicate_succ, List.flatten_cons, List.flatten_cons]
    exact h.app (dza_flat h n)
/-- a list some times over -/
theorem wl_repG (h : WE K T ta ρ fun x => WE K T tb ρ fun y => ∃ l n, agD ρ x = some (.lst l) ∧ y = .dat (.int n) ∧ n ≤ 100000 ∧ -100000 ≤ n ∧ l.length * n.toNat ≤ 100000 ∧ Pl (List.replicate n.toNat l).flatten) : WL K T (tOp rRep ta tb) ρ Pl := fun ⦃A B dc C H σ α⦄ R Q q =>
  h R _ fun g v C1 H1 h1 R1 e1 a1 => h1 R1 _ fun g2 w C2 H2 ⟨l, n, hl, hm, hz, hz2, hz3, h2⟩ R2 e2 a2 => by
    obtain ⟨a, vs, rfl, g1, g2⟩ := ag_list R2 (a1.up e2) hl
    subst hm
    obtain rfl := ag_int a2
    exact ⟨a, n, vs, rfl, rfl, g1, by omega, by omega, sz3 (by rw [g2.len]; exact hz3), wl_new R2 (e1.trans e2) (dza_flat g2 _) h2 q⟩
/-- tuple(list) -/
theorem we_tupOf (h : WE K T te ρ fun g => ∃ l, agD ρ g = some (.lst l) ∧ P (.dat (.tup l))) : WE K T (tCB (rTupOf K) (tCons te tNil)) ρ P := fun ⦃A B dc C H σ α⦄ R Q q =>
  h R _ fun g v C1 H1 ⟨l, hl, p⟩ R1 e1 a1 => by
    obtain ⟨a, vs, rfl, g1, g2⟩ := ag_list R1 a1 hl
    refine ⟨a, vs, rfl, .inl ⟨SqL.of g1, fun t nt => ?_⟩⟩
    have e2 := R1.okC.up nt (o := .tup vs)
    exact q _ _ _ _ p (R1.new1 nt nt_tup) (e1.trans e2) (.tup (SqT.of upd_same) (g2.up e2))
end
end Ub

namespace Rw
open PySem PySem.Spec PyProof.Rows L2 Ub
set_option hygiene false in
local macro_rules | `(tactic| acc_peel) => `(tactic| (repeat (first | ((with_reducible show Ub.WS _ _ (tSeq _ _) _ _); (first | refine ws_seq ?_)) | ((with_reducible show Ub.WS _ _ tNext _ _); (first | refine ws_next ?_)) | ((with_reducible show Ub.WS _ _ tRetN _ _); (first | refine ws_retN ?_)) | ((with_reducible show Ub.WS _ _ (tIfS _ _ _) _ _); (first | refine ws_if ?_)) | ((with_reducible show Ub.WS _ _ (tRet (tIf _ _ _)) _ _); (first | refine ws_retIf ?_)) | ((with_reducible show Ub.WS _ _ (tAsg (tC _) (gName _)) _ _); (first | refine ws_set (we_int ?_) | refine ws_set (we_str ?_) | refine ws_set (we_bl ?_) | refine ws_set (we_non ?_))) | ((with_reducible show Ub.WS _ _ (tAsg (tVar _) (gName _)) _ _); (first | refine ws_set (we_dat rfl ?_))) | ((with_reducible show Ub.WS _ _ (tAsg (tLst tNil) (gName _)) _ _); (first | refine ws_setL (wl_lst (wa_nil ⟨rfl, by decide, ?_⟩)))) | ((with_reducible show Ub.WS _ _ (tAsg (tOp (rIxL _) (tLst _) (tCall _ _ _ _)) (gName _)) _ _); (first | refine ws_set (we_pick rfl ?_))) | ((with_reducible show Ub.WS _ _ (tAsg (tOp rCat _ _) (gName _)) _ _); (first | refine ws_set (we_l (wl_cat ?_)))) | ((with_reducible show Ub.WS _ _ (tAsg (tOp rRep _ _) (gName _)) _ _); (first | refine ws_set (we_l (wl_rep1 ?_)))) | ((with_reducible show Ub.WS _ _ (tAsg (tOp (rCatT _) _ _) (gName _)) _ _); (first | refine ws_set (we_catT ?_))) | ((with_reducible show Ub.WS _ _ (tAsg (tOp _ _ _) (gName _)) _ _); (first | refine ws_set (we_op ?_))) | ((with_reducible show Ub.WS _ _ (tAsg (tSl (rSlL _) _ _ _) (gName _)) _ _); (first | refine ws_set (we_l (wl_slice ?_)))) | ((with_reducible show Ub.WS _ _ (tAsg (tTup _) (gName _)) _ _); (first | refine ws_set (we_tup ?_))) | ((with_reducible show Ub.WS _ _ (tAsg (tUn _ _) (gName _)) _ _); (first | refine ws_set (we_neg ?_))) | ((with_reducible show Ub.WS _ _ (tAsg (tCB rMax2 _) (gName _)) _ _); (first | refine ws_set (we_tcb ?_))) | ((with_reducible show Ub.WS _ _ (tAsg (tCB rMin2 _) (gName _)) _ _); (first | refine ws_set (we_tcb ?_))) | ((with_reducible show Ub.WS _ _ (tAsg (tCB rInt1 _) (gName _)) _ _); (first | refine ws_set (we_tcb ?_))) | ((with_reducible show Ub.WS _ _ (tAsg (tCB (Evl.rLenS _) _) (gName _)) _ _); (first | refine ws_set (we_tcb ?_))) | ((with_reducible show Ub.WE _ _ (tC _) _ _); (first | refine we_int ?_ | refine we_str ?_ | refine we_bl ?_ | refine we_non ?_)) | ((with_reducible show Ub.WE _ _ (tVar _) _ _); (first | refine we_dat rfl ?_ | refine we_own rfl ?_)) | ((with_reducible show Ub.WE _ _ (tOp (rIxL _) (tLst _) (tCall _ _ _ _)) _ _); (first | refine we_pick rfl ?_)) | ((with_reducible show Ub.WE _ _ (tOp rCat _ _) _ _); (first | refine we_l (wl_cat ?_))) | ((with_reducible show Ub.WE _ _ (tOp rRep _ _) _ _); (first | refine we_l (wl_rep1 ?_))) | ((with_reducible show Ub.WE _ _ (tOp (rIxDI _) (tC _) _) _ _); (first | refine we_ixK ?_)) | ((with_reducible show Ub.WE _ _ (tOp (rCatT _) _ _) _ _); (first | refine we_catT ?_)) | ((with_reducible show Ub.WE _ _ (tLstRg (tRg1 _)) _ _); (first | refine we_l (wl_listR1 ?_))) | ((with_reducible show Ub.WE _ _ (tLstRg (tRg2 _ _)) _ _); (first | refine we_l (wl_listR2 ?_))) | ((with_reducible show Ub.WE _ _ (tOp _ _ _) _ _); (first | refine we_op ?_)) | ((with_reducible show Ub.WE _ _ (tUn _ _) _ _); (first | refine we_neg ?_)) | ((with_reducible show Ub.WE _ _ (tIf _ _ _) _ _); (first | refine we_if ?_)) | ((with_reducible show Ub.WE _ _ (tAndV _ _) _ _); (first | refine we_and ?_)) | ((with_reducible show Ub.WE _ _ (tOrV _ _) _ _); (first | refine we_or ?_)) | ((with_reducible show Ub.WE _ _ (tNotV _) _ _); (first | refine we_not ?_)) | ((with_reducible show Ub.WE _ _ (tChain _ _ _ _ _) _ _); (first | refine we_chain ?_)) | ((with_reducible show Ub.WE _ _ (tCB (Evl.rListS _) _) _ _); (first | refine we_l (wl_list ?_))) | ((with_reducible show Ub.WE _ _ (tCB (rTupOf _) (tCons _ tNil)) _ _); (first | refine we_tupOf ?_)) | ((with_reducible show Ub.WE _ _ (tCB (rIsi _) (tCons _ (tCons (tC (.ty _)) tNil))) _ _); (first | refine we_isi ?_)) | ((with_reducible show Ub.WE _ _ (tBM _ "list" (rIndex _) _ (tCons _ tNil)) _ _); (first | refine we_index ?_)) | ((with_reducible show Ub.WE _ _ (tM1 rSplitT _ _) _ _); (first | refine we_l (wl_split ?_))) | ((with_reducible show Ub.WE _ _ (tM1 rPartT _ _) _ _); (first | refine we_part ?_)) | ((with_reducible show Ub.WE _ _ (tM1 rCountT _ _) _ _); (first | refine we_count ?_)) | ((with_reducible show Ub.WR _ _ rInT _ _ _ _); (first | refine wr_inT ?_)) | ((with_reducible show Ub.WR _ _ rInTn _ _ _ _); (first | refine wr_inTn ?_)) | ((with_reducible show Ub.WE _ _ (tJoinF [] _) _ _); (first | refine we_jNil ?_)) | ((with_reducible show Ub.WE _ _ (tJoinF (_ :: _) _) _ _); (first | refine we_jCons ?_)) | ((with_reducible show Ub.WE _ _ (tCB _ _) _ _); (first | refine we_tcb ?_)) | ((with_reducible show Ub.WE _ _ (tTup _) _ _); (first | refine we_tup ?_)) | ((with_reducible show Ub.WE _ _ (tLst _) _ _); (first | refine we_l (wl_lst ?_))) | ((with_reducible show Ub.WE _ _ (tSl (rSlL _) _ _ _) _ _); (first | refine we_l (wl_slice ?_))) | ((with_reducible show Ub.WE _ _ (tSl rSlS _ _ _) _ _); (first | refine we_sliceS ?_)) | ((with_reducible show Ub.WE _ _ (tSl (rSlT _) _ _ _) _ _); (first | refine we_sliceT ?_)) | ((with_reducible show Ub.WE _ _ (tRevL _ _) _ _); (first | refine we_l (wl_rev ?_))) | ((with_reducible show Ub.WA _ _ tNil _ _); (first | refine wa_nil ?_)) | ((with_reducible show Ub.WA _ _ (tCons _ _) _ _); (first | refine wa_cons ?_)) | ((with_reducible show Ub.WO _ _ tNoPart _ _); (first | refine wo_none ?_)) | ((with_reducible show Ub.WO _ _ (tPart _) _ _); (first | refine wo_some ?_)) | ((with_reducible show Ub.WT _ _ (tB _) _ _); (first | refine wt_val ?_)) | ((with_reducible show Ub.WT _ _ (tTest _) _ _); (first | refine wt_test ?_)) | ((with_reducible show Ub.WT _ _ (tAnd _ _) _ _); (first | refine wt_and ?_)) | ((with_reducible show Ub.WT _ _ (tOr _ _) _ _); (first | refine wt_or ?_)) | ((with_reducible show Ub.WT _ _ (tNot _) _ _); (first | refine wt_not ?_)) | ((with_reducible show Ub.WT _ _ tYes _ _); (first | refine wt_yes ?_)) | ((with_reducible show Ub.WT _ _ (tTru _ _) _ _); (first | refine wt_tru ?_)) | ((with_reducible show Ub.WR _ _ rIsN _ _ _ _); (first | refine wr_isN rfl ?_)) | ((with_reducible show Ub.WR _ _ rNotN _ _ _ _); (first | refine wr_notN rfl ?_)) | ((with_reducible show Ub.WR _ _ (rI0 _) _ _ _ _); (first | refine wr_int ?_ | refine wr_cmp ?_)) | ((with_reducible show Ub.WR _ _ (rI CMul _) _ _ _ _); (first | refine wr_mulL (by omega) (by omega) ?_ | refine wr_mulR (by omega) (by omega) ?_)) | ((with_reducible show Ub.WR _ _ (rI CDiv _) _ _ _ _); (first | refine wr_fdiv (by omega) (by omega) ?_)) | ((with_reducible show Ub.WR _ _ (rI _ _) _ _ _ _); (first | refine wr_mod (by omega) ?_)) | ((with_reducible show Ub.WR _ _ rEq _ _ _ _); (first | refine wr_eqI ?_ | refine wr_eqS ?_ | refine wr_eqB ?_)) | ((with_reducible show Ub.WR _ _ rNe _ _ _ _); (first | refine wr_neI ?_ | refine wr_neS ?_ | refine wr_neB ?_)) | ((with_reducible show Ub.WR _ _ (rIxL _) _ _ _ _); (first | refine wr_ixL rfl rfl ?_)) | ((with_reducible show Ub.WR _ _ (rIxT _) _ _ _ _); (first | refine wr_h0 ?_ | refine wr_h1 ?_ | refine wr_f0 ?_ | refine wr_f1 ?_ | refine wr_l0 ?_ | refine wr_l1 ?_ | refine wr_ixT rfl rfl ?_)) | ((with_reducible show Ub.WR _ _ rAddS _ _ _ _); (first | refine wr_addS (by omega) ?_)) | ((with_reducible show Ub.WR _ _ rRepS _ _ _ _); (first | refine wr_repS (by omega) (by omega) (by omega) ?_)) | ((with_reducible show Ub.WC _ _ (Evl.rLenS _) _ _ _); (first | refine wc_lenL rfl ?_ | refine wc_lenT rfl ?_)) | ((with_reducible show Ub.WC _ _ rLenStr _ _ _); (first | refine wc_lenS (by omega) ?_)) | ((with_reducible show Ub.WC _ _ rAbs _ _ _); (first | refine wc_abs ?_)) | ((with_reducible show Ub.WC _ _ rMin2 _ _ _); (first | refine wc_min ?_)) | ((with_reducible show Ub.WC _ _ rMax2 _ _ _); (first | refine wc_max ?_)) | ((with_reducible show Ub.WC _ _ rInt1 _ _ _); (first | refine wc_intB ?_ | refine wc_intI ?_)) | ((with_reducible show Ub.WC _ _ rStrI _ _ _); (first | refine wc_strI (by assumption) ?_)) | ((with_reducible show Ub.WC _ _ rIntS _ _ _); (first | refine wc_intS (by assumption) (by assumption) ?_)) | ((with_reducible show Ub.WG _ _ (gName _) _ _ _); (first | refine wg_name ?_)) | ((with_reducible show Ub.WG _ _ (gTup _ _ _) _ _ _); (first | refine wg_tup rfl ?_)) | ((with_reducible show Ub.WGs _ _ (gCons _ _) _ _ _); (first | refine wgs_cons ?_)) | ((with_reducible show Ub.WGs _ _ gNil _ _ _); (first | refine wgs_nil ?_)) | ((with_reducible show Exists _); (first | refine ex_d ?_ | refine ex_i ?_ | refine ex_s ?_ | refine ex_b ?_ | refine ex_l ?_ | refine ex_t ?_ | refine ex_rd ?_ | refine ex_rf ?_ | refine ex_al rfl ?_ | refine ex_n1 ?_ | refine ex_l1 ?_ | refine ex_l2 ?_ | refine ex_cat rfl rfl (by first | omega | (simp; done) | (simp; omega)) ?_ | refine ex_rep rfl (by first | omega | (simp; done) | (simp; omega)) (by first | omega | (simp; done) | (simp; omega)) ?_)) | ((with_reducible show _ ∧ _); (first | refine an_d rfl ?_ | refine an_le (Nat.le_of_ble_eq_true rfl) ?_ | refine an_le (by first | omega | (simp; done) | (simp; omega)) ?_ | refine an_leI (by first | omega | (simp; done) | (simp; omega)) ?_ | refine an_ltI (by first | omega | (simp; done) | (simp; omega)) ?_ | refine an_eqI rfl ?_ | refine an_bf rfl ?_)) | ((with_reducible show Ub.WS _ _ (tDrop (tBM _ "list" rAppend (tVar _) (tCons _ tNil))) _ _); (first | refine ws_append rfl (by first | omega | (simp; done) | (simp; omega)) ?_)))))
section
variable {P : Program} {w : World} {K : PySem.W.Frag} {mg : Str → Option Value} {base : Heap} {T : Tb}
/-! ### a hand that cannot be, drawn -/
def SOdd : SpD := fun ds Pr => ∃ h : Hand, ds = [handD h] ∧ HandOk h ∧ ∀ (h' : Hand) (y : Str), badH h' = some y → Pr (.dat (.tup [handD h', .str y]))
def hPart (h : Hand) (k : Nat) : Dt := match k with | 0 => .str h.order | 1 => .int h.align | 2 => .int h.wide | _ => .str h.way
def oPart (wd : Str) (sz : Int) (k : Nat) : Dt := match k with | 0 => .str wd | 1 => .int sz | 2 => .int sz | _ => .str (wd ++ "x")
theorem k_odd_ (D : Df K mg "_law_odd" s_odd P_odd) (bl : Bl mg) (k_off : Kp P w K mg base CX0 1 "_law_off" P_off (spRd K T SOff)) : Kp P w K mg base CX0 2 "_law_odd" P_odd (spRd K T SOdd) := by
  refine kp_ofD D sc_odd (fun ds Pr h => ?_) (fun f cdv A outer s H E hr ds Pr h => ?_)
  · obtain ⟨_, rfl, _⟩ := h
    rfl
  · obtain ⟨h, rfl, hH, hp⟩ := h
    refine ⟨_, (pss_cons (ps_set (i := 2) sc_odd.nd rfl (by first | exact Or.inl rfl | exact Or.inr rfl) (pe_ix (r := rIxL K) ix_list (pe_lst (pa_cons pe_str (pa_cons pe_str (pa_cons pe_str (pa_cons pe_str pa_nil))))) (pe_callA k_off (hr.mono (by decide)) pass0 (pa_cons (pv 0) (pa_cons pe_int pa_nil))) (fun _ _ => rfl)))
      (pss_cons (ps_set (i := 3) sc_odd.nd rfl (by first | exact Or.inl rfl | exact Or.inr rfl) (pe_ix (r := rIxL K) ix_list (pe_lst (pa_cons pe_int (pa_cons pe_int (pa_cons pe_int (pa_cons (pe_un un_neg pe_int) pa_nil))))) (pe_callA k_off (hr.mono (by decide)) pass0 (pa_cons (pv 0) (pa_cons pe_int pa_nil))) (fun _ _ => rfl)))
      (pss_cons (ps_set (i := 4) sc_odd.nd rfl (by first | exact Or.inl rfl | exact Or.inr rfl) (pe_callA k_off (hr.mono (by decide)) pass0 (pa_cons (pv 0) (pa_cons pe_int pa_nil))))
      (pss_cons (ps_set (i := 5) sc_odd.nd rfl (by first | exact Or.inl rfl | exact Or.inr rfl) (pe_lst (pa_cons (pv 2) (pa_cons (pv 3) (pa_cons (pv 3) (pa_cons (pe_op (r := rAddS) op_addS (pv 2) pe_str) pa_nil))))))
      (pss_cons (ps_setLc (i := 6) (own := [("_law_k", 7)]) (g := gName 7) (by rfl) sc_odd.nd rfl rfl (sw_true rfl rfl rfl (by decide +kernel)) (pi_range1 (by rfl) bl.range (pa_cons pe_int pa_nil)) (blkOk_by (own := [("_law_k", 7)]) (N := N_odd) (sc := defScope s_odd) (by decide +kernel)) (fun _ _ _ _ _ => (pg_name (i := 7) sc_odd.nd rfl (by first | exact Or.inl rfl | exact Or.inr rfl))) (fun _ _ _ _ _ => pts_nil) (fun _ _ _ _ _ => (pe_ifExp (PW.pt (pw_or (pt_cmpR  op_eq (pv 7) (pv 4) (nomark _)) (pw_or1 (PW.pt (pw_and (pt_cmpR  op_gt (pv 7) (pv 4) (nomark _)) (pw_and1 (pt_cmpR  op_eq (pe_callA k_off (hr.mono (by decide)) pass0 (pa_cons (pv 0) (pa_cons pe_int pa_nil))) pe_int (nomark _)))))))) (pe_ix (r := rIxL K) ix_list (pv 5) (pv 7) (fun _ _ => rfl)) (pe_ix (r := rIxT K) ix_tup (pv 1) (pv 7) (fun _ _ => rfl)))))
      (pss_one (ps_ret (pe_tup (pa_cons (pe_callTy (r := rTupOf K) cr_tupOf (by rfl) bl.tuple (by decide +kernel) (pa_cons (pv 6) pa_nil)) (pa_cons (pe_ix (r := rIxL K) ix_list (pe_lst (pa_cons pe_str (pa_cons pe_str (pa_cons pe_str (pa_cons pe_str pa_nil))))) (pv 4) (fun _ _ => rfl)) pa_nil)))))))))), ?_⟩
    acc_peel
    refine fun d hd => ⟨_, rfl, ?_⟩
    obtain ⟨wd, rfl, hw⟩ : ∃ wd : Str, d = .str wd ∧ (inV (.str wd) [.str "great", .str "small"] = false ∧ inV (.str (wd ++ "x")) [.str "up", .str "down"] = false ∧ wd.length ≤ 1000) := by
      rcases in4 hd with rfl | rfl | rfl | rfl <;> exact ⟨_, rfl, by decide +kernel⟩
    acc_peel
    refine fun d hd => ⟨_, rfl, ?_⟩
    obtain ⟨sz, rfl, hz⟩ : ∃ sz : Int, d = .int sz ∧ sizeB sz = false := by
      rcases in4 hd with rfl | rfl | rfl | rfl <;> exact ⟨_, rfl, by decide +kernel⟩
    acc_peel
    refine ws_set (we_callD rfl ?_)
    acc_peel
    refine ⟨4, rfl, by decide, by decide, fun kk k0 k1 => ⟨_, rfl, ?_⟩⟩
    obtain ⟨kn, rfl⟩ : ∃ n : Nat, kk = (n : Int) := ⟨kk.toNat, by omega⟩
    refine ⟨_, rfl, ws_seq (ws_set (we_l (wl_lst ?_)))⟩
    acc_peel
    refine wr_addS (by show wd.length + 1 ≤ _; have := hw.2.2; omega) ?_
    acc_peel
    refine ws_set (we_l ?_)
    refine wl_lcR (js := [7]) (fun i acc => acc.length = i ∧ ∀ (j : Nat) d, acc[j]? = some d → (j < kn → d = hPart h j) ∧ (j = kn → d = oPart wd sz j) ∧ (d = hPart h j ∨ d = oPart wd sz j)) (by simp) rfl ?_
    acc_peel
    have step : ∀ {acc : List Dt} {i : Nat} {y : Dt}, (acc.length = i ∧ ∀ (j : Nat) d, acc[j]? = some d → (j < kn → d = hPart h j) ∧ (j = kn → d = oPart wd sz j) ∧ (d = hPart h j ∨ d = oPart wd sz j)) → ((i < kn → y = hPart h i) ∧ (i = kn → y = oPart wd sz i) ∧ (y = hPart h i ∨ y = oPart wd sz i)) →
        ((acc ++ [y]).length = i + 1 ∧ ∀ (j : Nat) d, (acc ++ [y])[j]? = some d → (j < kn → d = hPart h j) ∧ (j = kn → d = oPart wd sz j) ∧ (d = hPart h j ∨ d = oPart wd sz j)) := fun {acc i y} hI hy => by
      refine ⟨by simp [hI.1], fun j d hj => ?_⟩
      by_cases e : j < acc.length
      · rw [List.getElem?_append_left e] at hj
        exact hI.2 j d hj
      · have e2 : j = i := by
          have := (List.getElem?_eq_some_iff.mp hj).1
          simp at this
          omega
        subst e2
        rw [List.getElem?_append_right (by omega), ← hI.1, Nat.sub_self] at hj
        cases hj
        exact hy
    refine ⟨⟨rfl, fun j d hj => by simp at hj⟩, fun i acc hi hl hI => ⟨_, tg_name, ?_⟩, fun acc hI => ?_⟩
    · have i4 : i = 0 ∨ i = 1 ∨ i = 2 ∨ i = 3 := by
        have : i < 4 := hi
        omega
      have getO : ∀ {Pg : Ag → Prop}, Pg (.dat (oPart wd sz i)) → ∀ {ρ : List Sl}, WR K T (rIxL K) ρ (.dat (.lst [.str wd, .int sz, .int sz, .str (wd ++ "x")])) (.dat (.int (i : Int))) Pg := fun {Pg} p {ρ} => by
        refine wr_ixL rfl (d := oPart wd sz i) (atI_nat ?_) p
        rcases i4 with rfl | rfl | rfl | rfl <;> rfl
      have getH : ∀ {Pg : Ag → Prop}, Pg (.dat (hPart h i)) → ∀ {ρ : List Sl}, WR K T (rIxT K) ρ (.dat (handD h)) (.dat (.int (i : Int))) Pg := fun {Pg} p {ρ} => by
        refine wr_ixT (l := [.str h.order, .int h.align, .int h.wide, .str h.way]) rfl (d := hPart h i) (atI_nat ?_) p
        rcases i4 with rfl | rfl | rfl | rfl <;> rfl
      acc_peel
      refine ⟨fun _ => ?_, fun z => (nomatch z)⟩
      acc_peel
      refine ⟨fun hk => ?_, fun hk => ?_⟩
      · acc_peel
        refine ⟨fun hc => ?_, fun hc => ?_⟩
        · acc_peel
          refine we_callD rfl ?_
          acc_peel
          refine ⟨2, rfl, by decide, by decide, fun r r0 r1 => ⟨_, rfl, ?_⟩⟩
          have hgt : (kn : Int) < (i : Int) := by simpa using hc
          acc_peel
          refine ⟨fun _ => ?_, fun _ => ?_⟩
          · acc_peel
            exact getO ⟨_, rfl, step hI ⟨fun z => by omega, fun _ => rfl, .inr rfl⟩⟩
          · acc_peel
            exact getH ⟨_, rfl, step hI ⟨fun _ => rfl, fun z => by omega, .inl rfl⟩⟩
        · have hne : ¬ (i : Int) = (kn : Int) := by simpa using hk
          have hle : ¬ (kn : Int) < (i : Int) := by simpa using hc
          refine ⟨fun z => (nomatch z), fun _ => ?_⟩
          acc_peel
          exact getH ⟨_, rfl, step hI ⟨fun _ => rfl, fun z => by omega, .inl rfl⟩⟩
      · have he : (i : Int) = (kn : Int) := by simpa using hk
        refine ⟨fun _ => ?_, fun z => (nomatch z)⟩
        acc_peel
        exact getO ⟨_, rfl, step hI ⟨fun z => by omega, fun _ => rfl, .inr rfl⟩⟩
    · obtain ⟨al, hI⟩ := hI
      have al : acc.length = 4 := al
      acc_peel
      match acc, al with
      | [a0, a1, a2, a3], _ =>
        have q0 := hI 0 a0 rfl
        have q1 := hI 1 a1 rfl
        have q2 := hI 2 a2 rfl
        have q3 := hI 3 a3 rfl
        refine ws_ret ?_
        acc_peel
        have k4 : kn = 0 ∨ kn = 1 ∨ kn = 2 ∨ kn = 3 := by omega
        obtain ⟨o, rfl⟩ : ∃ o : Str, a0 = .str o := q0.2.2.elim (fun e => ⟨_, e⟩) fun e => ⟨_, e⟩
        obtain ⟨ag, rfl⟩ : ∃ n : Int, a1 = .int n := q1.2.2.elim (fun e => ⟨_, e⟩) fun e => ⟨_, e⟩
        obtain ⟨wi, rfl⟩ : ∃ n : Int, a2 = .int n := q2.2.2.elim (fun e => ⟨_, e⟩) fun e => ⟨_, e⟩
        obtain ⟨wy, rfl⟩ : ∃ o : Str, a3 = .str o := q3.2.2.elim (fun e => ⟨_, e⟩) fun e => ⟨_, e⟩
        obtain ⟨y, hy, hb⟩ : ∃ y : Str, [Dt.str "order", .str "align", .str "wide", .str "way"][kn]? = some (.str y) ∧ badH ⟨o, ag, wi, wy⟩ = some y := by
          have io : inV (.str h.order) [.str "great", .str "small"] = true := by rcases hH.order with e | e <;> rw [e] <;> decide +kernel
          have ia : sizeB h.align = true := sizeB_ok hH.align
          have iw : sizeB h.wide = true := sizeB_ok hH.wide
          show ∃ y, _ ∧ handBad o ag wi wy = some y
          unfold handBad
          rcases k4 with rfl | rfl | rfl | rfl
          · cases q0.2.1 rfl
            exact ⟨"order", rfl, if_pos hw.1⟩
          · cases q0.1 (by decide)
            cases q1.2.1 rfl
            refine ⟨"align", rfl, ?_⟩
            rw [io, hz] <;> rfl
          · cases q0.1 (by decide)
            cases q1.1 (by decide)
            cases q2.2.1 rfl
            refine ⟨"wide", rfl, ?_⟩
            rw [io, ia, hz] <;> rfl
          · cases q0.1 (by decide)
            cases q1.1 (by decide)
            cases q2.1 (by decide)
            cases q3.2.1 rfl
            refine ⟨"way", rfl, ?_⟩
            rw [io, ia, iw, hw.2.1] <;> rfl
        refine wr_ixL rfl (d := .str y) (atI_nat hy) ?_
        acc_peel
        exact hp ⟨o, ag, wi, wy⟩ y hb
end
end Rw

-- RAISES
namespace Rw
open PySem PySem.Spec PyProof.Rows L2 Ub
section
variable {P : Program} {w : World} {K : PySem.W.Frag} {mg : Str → Option Value} {base : Heap} {T : Tb}
/-! ### gaps -/
def gapB (i : Int) : Bool := decide (0 ≤ i) && decide (i ≤ 9)
def spCkG (T : Tb) (K : PySem.W.Frag) : Sp := fun vs H Q _ => ∃ (a g : Addr) (xs : List V) (gs : List Int) (B : Hp), vs = [.ref a, .ref g] ∧ Ok T B H ∧ SqL K B a xs ∧ SqL K B g (gs.map V.int) ∧ gs.length = xs.length ∧ (∀ z ∈ gs, gapB z = true) ∧ ∀ H', Ok T B H' → Q .non H'
/-- the expressions that is_gap and is_whole hand back -/
def retE (s : Stmt) : Expr := match defBody s with
  | [.Return (some e) _] => e
  | _ => .Constant (.int 0) 0 ⟨0, 0, 0, 0⟩
theorem gap_body_ (cn : CnG mg) (bl : Bl mg) (wF : DfQ K mg "is_whole" "number" s_is_whole (retE s_is_whole)) (i : Int) (tok : Tok) : QE P w K mg base (defScope s_is_gap) (retE s_is_gap) (fun ml => ml ("number" : Str) = some (.int i tok)) 1 (fun y => y = .bool (gapB i)) := by
  obtain ⟨tG, c_MOST_GAP⟩ := cn.MOST_GAP
  have nm : ∀ {sc : Scope} {D : Nat} {tk : Tok} {p : Pos} (h : sc.names.lookup ("number" : Str) = some .local), QE P w K mg base sc (.Name "number" p) (fun ml => ml ("number" : Str) = some (.int i tk)) D (fun y => ∃ t, y = .int i t) := fun h => (qe_loc h fun _ h => h).imp fun y e => ⟨_, e⟩
  have hw : ∀ tok2, QE P w K mg base (defScope s_is_whole) (retE s_is_whole) (fun ml => ml ("number" : Str) = some (.int i tok2)) 0 (fun y => y = .bool true) := fun tok2 =>
    qe_and (p := true) (q := true) (qe_isi (T := "int") (nm rfl) (qe_typ (by decide +kernel) bl.int rfl) bl.isinst rfl (by decide +kernel)) (qe_one (qe_not (p := false) (qe_isi (T := "bool") (nm rfl) (qe_typ (by decide +kernel) bl.bool rfl) bl.isinst rfl (by decide +kernel))))
  exact qe_and (p := true) (q := gapB i) (qe_call wF rfl (nm rfl) hw) (qe_one (qe_le_le (i := 0) (j := i) (k := 9) qe_int (nm rfl) ((qe_glo rfl c_MOST_GAP).imp fun y e => ⟨_, e⟩)))
theorem k_check_gaps_ {c P2 : Addr} (D : DfC K mg "check_gaps" s_check_gaps P_check_gaps c) (bl : Bl mg) (cn : CnG mg) (TB : GxR.TabB base mg c P2) (hT : P2 ∈ T.g) (gapF : DfQ K mg "is_gap" "number" s_is_gap (retE s_is_gap)) (wF : DfQ K mg "is_whole" "number" s_is_whole (retE s_is_whole)) :
    Kp P w K mg base CX0 4 "check_gaps" P_check_gaps (spCkG T K) := by
  have gap_body : ∀ (i : Int) (tok : Tok), QE P w K mg base (defScope s_is_gap) (retE s_is_gap) (fun ml => ml ("number" : Str) = some (.int i tok)) 1 (fun y => y = .bool (gapB i)) := fun i tok => gap_body_ cn bl wF i tok
  refine D.ok sc_check_gaps (fun vs H Q E h => ?_) (fun f A outer s H vs Q E hr h => ?_)
  · obtain ⟨_, _, _, _, _, rfl, _⟩ := h
    rfl
  · obtain ⟨a, g, xs, gs, B, rfl, o0, hA, hG, hl, hz, q⟩ := h
    refine ⟨_, (pss_one (ps_if (PW.pt (pw_or (pt_cmpR  op_ne (pe_callB (r := Evl.rLenS K) cr_lenSq (by rfl) bl.len PySem.boot_len (pa_cons (pv 1) pa_nil)) (pe_callB (r := Evl.rLenS K) cr_lenSq (by rfl) bl.len PySem.boot_len (pa_cons (pv 0) pa_nil)) (nomark _)) (pw_or1 (pt_not (pt_val (pe_allInt (K := K) rfl hr (by rfl) bl.all TB rfl (genS_by (by decide +kernel)) (pv 1) (eltI_of (D := 2) rfl hr fun i tok => qe_call gapF rfl ((qe_loc rfl fun _ h => h).imp fun y e => ⟨tok, e⟩) (fun tok2 => gap_body i tok2)) (by intro _; rfl)))))))
        (pss_one ps_never)
        pss_nil)), ?_⟩
    refine ⟨_, rfl, g, _, rfl, .inl (o0.sl hG), _, rfl, a, _, rfl, .inl (o0.sl hA), rfl, _, rfl, ?_⟩
    rw [List.length_map, hl, decide_eq_true rfl]
    refine iteF ⟨_, rfl, g, gs, rfl, o0.sl hG, o0.tg _ hT, fun H2 t2 => ?_⟩
    rw [List.all_eq_true.mpr hz]
    exact ⟨_, rfl, iteF (q H2 (o0.tabbed hT t2))⟩

end
end Rw

-- RAISES
namespace Rw
open PySem PySem.Spec PyProof.Rows L2 Ub
section
variable {P : Program} {w : World} {K : PySem.W.Frag} {mg : Str → Option Value} {base : Heap} {T : Tb}
def spSpread (T : Tb) (K : PySem.W.Frag) : Sp := fun vs H Q _ => ∃ (a t g : Addr) (fs : List Fld) (h : Hand) (gs : List Int) (B : Hp), vs = [.ref a, .ref t, .ref g] ∧ Ok T B H ∧ FieldsAt K B a fs ∧ FieldsOk fs ∧ HandAt K B t h ∧ SqL K B g (gs.map V.int) ∧ gs.length = fs.length ∧ (∀ z ∈ gs, gapB z = true) ∧
  ∀ (p l : Addr) (H' : Hp), B p = none → B l = none → l ≠ p → Ok T B H' → H' p = some (.tup [.ref l, .int (placed h.align fs gs).2]) → H' l = some (.lst ((placed h.align fs gs).1.map V.int)) → Q (.ref p) H'
theorem k_spread_ (D : Df K mg "spread" s_spread P_spread) (bl : Bl mg) (k_check_fields : Kp P w K mg base CX0 4 "check_fields" P_check_fields (spCkF T K)) (k_check_hand : Kp P w K mg base CX0 3 "check_hand" P_check_hand (spCkH T K)) (k_check_gaps : Kp P w K mg base CX0 4 "check_gaps" P_check_gaps (spCkG T K))
    (k_placed : Kp P w K mg base CX0 2 "_placed" P_placed (spPlaced T K)) : Kp P w K mg base CX0 5 "spread" P_spread (spSpread T K) := by
  refine D.ok sc_spread (fun vs H Q E h => ?_) (fun f cdv A outer s H vs Q E hr h => ?_)
  · obtain ⟨_, _, _, _, _, _, _, rfl, _⟩ := h
    rfl
  · obtain ⟨a, t, g, fs, h, gs, B, rfl, o0, hF, hO, hH, hG, gl, gz, q⟩ := h
    refine ⟨_, (pss_cons (ps_expr (pe_callA k_check_fields (hr.mono (by decide)) pass0 (pa_cons (pv 0) pa_nil)))
      (pss_cons (ps_expr (pe_callA k_check_hand (hr.mono (by decide)) pass0 (pa_cons (pv 1) pa_nil)))
      (pss_cons (ps_expr (pe_callA k_check_gaps (hr.mono (by decide)) pass0 (pa_cons (pv 0) (pa_cons (pv 2) pa_nil))))
      (pss_one (ps_ret (pe_callA k_placed (hr.mono (by decide)) pass0 (pa_cons (pv 0) (pa_cons (pv 1) (pa_cons (pv 2) pa_nil))))))))), ?_⟩
    refine ⟨_, rfl, a, fs, B, rfl, o0, hF, hO, fun H1 o1 => ?_⟩
    refine ⟨_, rfl, t, h, B, rfl, o1, hH, ?_⟩
    obtain ⟨ts, hA, tl, hT⟩ := id hF
    refine ⟨_, rfl, _, rfl, a, g, _, gs, B, rfl, o1, hA, hG, by rw [List.length_map]; omega, gz, fun H2 o2 => ?_⟩
    exact ⟨_, rfl, _, rfl, _, rfl, a, t, g, fs, h, gs, B, rfl, o2, hF, hO.most, hO.size, hH, hG, gl, q⟩
end
end Rw

namespace Rw
open PySem PySem.Spec PyProof.Rows L2 Ub
/-! ### two hands lay by the same gaps -/
/-- where both stand behind the fields of these sizes, if all lie at the same places -/
def run2 (a b : Int) : List Int → List Int → Int → Option Int
  | [], [], e => some e
  | z :: zs, g :: gs, e => if upTo (e + g) (stp a z) = upTo (e + g) (stp b z) then run2 a b zs gs (upTo (e + g) (stp a z) + z) else none
  | _, _, _ => none
theorem run2_len {a b : Int} : ∀ {zs gs : List Int} {e r : Int}, run2 a b zs gs e = some r → gs.length = zs.length
  | [], [], _, _, _ => rfl
  | [], _ :: _, _, _, h => by cases h
  | _ :: _, [], _, _, h => by cases h
  | z :: zs, g :: gs, e, r, h => by
    unfold run2 at h
    split at h
    · simp [run2_len h]
    · cases h
theorem run2_snoc {a b z g : Int} : ∀ {zs gs : List Int} {e : Int}, gs.length = zs.length → run2 a b (zs ++ [z]) (gs ++ [g]) e = (run2 a b zs gs e).bind fun r => if upTo (r + g) (stp a z) = upTo (r + g) (stp b z) then some (upTo (r + g) (stp a z) + z) else none
  | [], [], e, _ => by
    show run2 a b [z] [g] e = _
    unfold run2
    rfl
  | [], _ :: _, _, h => by cases h
  | _ :: _, [], _, h => by cases h
  | y :: zs, h' :: gs, e, h => by
    have ih := fun e => run2_snoc (a := a) (b := b) (z := z) (g := g) (zs := zs) (gs := gs) (e := e) (by simpa using h)
    show run2 a b (y :: (zs ++ [z])) (h' :: (gs ++ [g])) e = _
    unfold run2
    split
    · exact ih _
    · rfl
theorem upTo_shift {x s : Int} (h : SizeOk s) : upTo (x - 4) s = upTo x s - 4 := by
  unfold upTo
  rcases h with rfl | rfl | rfl <;> omega
theorem run2_shift {a b : Int} (ha : SizeOk a) (hb : SizeOk b) : ∀ {zs gs : List Int} {e : Int}, (∀ z ∈ zs, SizeOk z) → (run2 a b zs gs (e - 4)).isSome = (run2 a b zs gs e).isSome
  | [], [], _, _ => rfl
  | [], _ :: _, _, _ => rfl
  | _ :: _, [], _, _ => rfl
  | z :: zs, g :: gs, e, h => by
    have hz := h z List.mem_cons_self
    have ih := fun e => run2_shift ha hb (zs := zs) (gs := gs) (e := e) fun y hy => h y (List.mem_cons_of_mem _ hy)
    have s1 := upTo_shift (x := e + g) (stp_ok ha hz)
    have s2 := upTo_shift (x := e + g) (stp_ok hb hz)
    unfold run2
    rw [show e - 4 + g = e + g - 4 by omega, s1, s2]
    by_cases q : upTo (e + g) (stp a z) = upTo (e + g) (stp b z)
    · rw [if_pos q, if_pos (by rw [q])]
      rw [show upTo (e + g) (stp a z) - 4 + z = (upTo (e + g) (stp a z) + z) - 4 by omega]
      exact ih _
    · rw [if_neg q, if_neg (by omega)]
/-- a great gap may be made less -/
theorem run2_less {a b : Int} (ha : SizeOk a) (hb : SizeOk b) : ∀ {zs gs : List Int} {e : Int} {k : Nat} {v : Int}, (∀ z ∈ zs, SizeOk z) → gs[k]? = some v → (run2 a b zs gs e).isSome = true → (run2 a b zs (gs.set k (v - 4)) e).isSome = true
  | _, [], _, _, _, _, h, _ => by cases h
  | [], _ :: _, _, _, _, _, _, h => by cases h
  | z :: zs, g :: gs, e, 0, v, hz, h, r => by
    cases h
    have h0 := hz z List.mem_cons_self
    have s1 := upTo_shift (x := e + g) (stp_ok ha h0)
    have s2 := upTo_shift (x := e + g) (stp_ok hb h0)
    show (run2 a b (z :: zs) ((g - 4) :: gs) e).isSome = true
    unfold run2 at r ⊢
    rw [show e + (g - 4) = e + g - 4 by omega, s1, s2]
    by_cases q : upTo (e + g) (stp a z) = upTo (e + g) (stp b z)
    · rw [if_pos q] at r
      rw [if_pos (by rw [q])]
      rw [show upTo (e + g) (stp a z) - 4 + z = (upTo (e + g) (stp a z) + z) - 4 by omega]
      rw [run2_shift ha hb fun y hy => hz y (List.mem_cons_of_mem _ hy)]
      exact r
    · rw [if_neg q] at r
      cases r
  | z :: zs, g :: gs, e, k + 1, v, hz, h, r => by
    show (run2 a b (z :: zs) (g :: gs.set k (v - 4)) e).isSome = true
    unfold run2 at r ⊢
    split
    · rename_i q
      rw [if_pos q] at r
      exact run2_less ha hb (fun y hy => hz y (List.mem_cons_of_mem _ hy)) h r
    · rename_i q
      rw [if_neg q] at r
      cases r
/-- some gaps below four do -/
theorem run2_some {a b : Int} (ha : SizeOk a) (hb : SizeOk b) : ∀ (zs : List Int) (e : Int), (∀ z ∈ zs, SizeOk z) → ∃ gs : List Int, (∀ g ∈ gs, 0 ≤ g ∧ g ≤ 3) ∧ (run2 a b zs gs e).isSome = true
  | [], e, _ => ⟨[], by simp, rfl⟩
  | z :: zs, e, h => by
    have h0 := h z List.mem_cons_self
    have u : ∀ s, SizeOk s → upTo (e + (-e) % 4) s = e + (-e) % 4 := fun s hs => by
      unfold upTo
      rcases hs with rfl | rfl | rfl <;> omega
    obtain ⟨gs, h1, h2⟩ := run2_some ha hb zs (e + (-e) % 4 + z) fun y hy => h y (List.mem_cons_of_mem _ hy)
    refine ⟨(-e) % 4 :: gs, fun g hg => ?_, ?_⟩
    · rcases List.mem_cons.mp hg with rfl | hg
      · omega
      · exact h1 g hg
    · unfold run2
      rw [u _ (stp_ok ha h0), u _ (stp_ok hb h0), if_pos rfl]
      exact h2
/-! ### what run2 says of the places -/
theorem run2_lay {a b : Int} : ∀ (l : List (Fld × Int)), (∀ r, run2 a b (l.map fun x => x.1.2) (l.map (·.2)) 0 = some r → (layAll a l).2.2 = (layAll b l).2.2 ∧ (layAll a l).1 = r ∧ (layAll b l).1 = r) ∧
    (run2 a b (l.map fun x => x.1.2) (l.map (·.2)) 0 = none → (layAll a l).2.2 ≠ (layAll b l).2.2) := by
  intro l
  induction hl : l.length generalizing l with
  | zero =>
    have : l = [] := List.eq_nil_of_length_eq_zero hl
    subst this
    refine ⟨fun r h => ?_, fun h => ?_⟩
    · cases h
      exact ⟨rfl, rfl, rfl⟩
    · cases h
  | succ n ih =>
    have hne : l ≠ [] := fun z => by rw [z] at hl; cases hl
    obtain ⟨l', x, rfl⟩ : ∃ l' x, l = l' ++ [x] := ⟨l.dropLast, l.getLast hne, (List.dropLast_concat_getLast hne).symm⟩
    obtain ⟨h1, h2⟩ := ih l' (by simpa using hl)
    rw [List.map_append, List.map_append, show ([x].map fun x : Fld × Int => x.1.2) = [x.1.2] from rfl, show ([x].map fun x : Fld × Int => x.2) = [x.2] from rfl, run2_snoc (by simp), layAll_snoc, layAll_snoc]
    have sn : ∀ al, (layStep al (layAll al l') x).2.2 = (layAll al l').2.2 ++ [upTo ((layAll al l').1 + x.2) (stp al x.1.2)] := fun al => rfl
    have s1 : ∀ al, (layStep al (layAll al l') x).1 = upTo ((layAll al l').1 + x.2) (stp al x.1.2) + x.1.2 := fun al => rfl
    rw [sn, sn, s1, s1]
    cases q : run2 a b (l'.map fun x => x.1.2) (l'.map (·.2)) 0 with
    | none =>
      refine ⟨(fun r h => by cases h), fun _ z => h2 q ?_⟩
      exact (List.append_inj' z rfl).1
    | some r0 =>
      obtain ⟨k1, k2, k3⟩ := h1 r0 q
      rw [k1, k2, k3]
      show (∀ r, (if upTo (r0 + x.2) (stp a x.1.2) = upTo (r0 + x.2) (stp b x.1.2) then some (upTo (r0 + x.2) (stp a x.1.2) + x.1.2) else none) = some r → _) ∧ ((if upTo (r0 + x.2) (stp a x.1.2) = upTo (r0 + x.2) (stp b x.1.2) then some (upTo (r0 + x.2) (stp a x.1.2) + x.1.2) else none) = none → _)
      by_cases e : upTo (r0 + x.2) (stp a x.1.2) = upTo (r0 + x.2) (stp b x.1.2)
      · rw [if_pos e]
        refine ⟨fun r h => ?_, (fun h => by cases h)⟩
        cases h
        rw [← e]
        exact ⟨rfl, rfl, rfl⟩
      · rw [if_neg e]
        refine ⟨(fun r h => by cases h), fun _ z => e ?_⟩
        have z2 := (List.append_inj' z rfl).2
        simpa using z2
/-! ### the order: by the sum, then as lists -/
def gkey (g : List Int) : List Int := g.sum :: g
theorem gkey_lt {g h : List Int} : gkey g < gkey h ↔ g.sum < h.sum ∨ (g.sum = h.sum ∧ g < h) := List.cons_lt_cons_iff
theorem glt_irrefl (g : List Int) : ¬ g < g := List.lt_irrefl g
theorem glt_trans {g h k : List Int} (a : g < h) (b : h < k) : g < k := List.lt_trans a b
theorem glt_tri (g h : List Int) : g < h ∨ g = h ∨ h < g := by
  rcases Decidable.em (g < h) with h1 | h1
  · exact .inl h1
  · rcases Decidable.em (h < g) with h2 | h2
    · exact .inr (.inr h2)
    · exact .inr (.inl (List.le_antisymm (List.not_lt.mp h2) (List.not_lt.mp h1)))
theorem gle_trans {g h k : List Int} (a : ¬ h < g) (b : ¬ k < h) : ¬ k < g := fun c => by
  rcases glt_tri g h with e | e | e
  · exact b (glt_trans c e)
  · subst e
    exact b c
  · exact a e
theorem glt_snoc {x : Int} : ∀ {g h : List Int}, g.length = h.length → (g ++ [x] < h ++ [x] ↔ g < h)
  | [], [], _ => by simp
  | [], _ :: _, e => by cases e
  | _ :: _, [], e => by cases e
  | a :: g, b :: h, e => by
    have ih := glt_snoc (x := x) (g := g) (h := h) (by simpa using e)
    rw [List.cons_append, List.cons_append, List.cons_lt_cons_iff, List.cons_lt_cons_iff, ih]
theorem gkey_snoc {x : Int} {g h : List Int} (e : g.length = h.length) : gkey (g ++ [x]) < gkey (h ++ [x]) ↔ gkey g < gkey h := by
  rw [gkey_lt, gkey_lt, glt_snoc e, List.sum_append, List.sum_append]
  constructor
  · rintro (h1 | ⟨h1, h2⟩)
    · left; omega
    · right; exact ⟨by omega, h2⟩
  · rintro (h1 | ⟨h1, h2⟩)
    · left; omega
    · right; exact ⟨by omega, h2⟩
theorem gkey_inj {g h : List Int} (e : gkey g = gkey h) : g = h := (List.cons.inj e).2
/-! ### the least gaps -/
def gRng (m : Int) (g : List Int) : Prop := ∀ x ∈ g, 0 ≤ x ∧ x ≤ m
/-- by these gaps both lay alike -/
def Both (a b : Int) (zs g : List Int) : Prop := (run2 a b zs g 0).isSome = true
structure Least (a b m : Int) (zs g : List Int) : Prop where
  rng : gRng m g
  both : Both a b zs g
  min : ∀ h, gRng m h → Both a b zs h → ¬ gkey h < gkey g
theorem sum_set {v w : Int} : ∀ {g : List Int} {k : Nat}, g[k]? = some v → (g.set k w).sum = g.sum - v + w
  | [], _, h => by cases h
  | x :: g, 0, h => by
    cases h
    simp
    omega
  | x :: g, k + 1, h => by
    have ih := sum_set (w := w) (g := g) (k := k) h
    simp [ih]
    omega
/-- the least gaps are below four -/
theorem Least.small {a b : Int} {zs g : List Int} (ha : SizeOk a) (hb : SizeOk b) (hz : ∀ z ∈ zs, SizeOk z) (L : Least a b 9 zs g) : Least a b 3 zs g := by
  have r : gRng 3 g := fun x hx => by
    refine ⟨(L.rng x hx).1, ?_⟩
    rcases Int.lt_or_le 3 x with h | h
    · obtain ⟨k, hk, e⟩ := List.getElem_of_mem hx
      have e2 : g[k]? = some x := by rw [List.getElem?_eq_getElem hk, e]
      have b2 : Both a b zs (g.set k (x - 4)) := run2_less ha hb hz e2 L.both
      refine absurd ?_ (L.min (g.set k (x - 4)) (fun y hy => ?_) b2)
      · rw [gkey_lt, sum_set e2]
        left
        omega
      · rcases List.mem_or_eq_of_mem_set hy with z | z
        · exact L.rng y z
        · have := (L.rng x hx).2
          omega
    · exact h
  exact ⟨r, L.both, fun h hr hb2 => L.min h (fun x hx => ⟨(hr x hx).1, by have := (hr x hx).2; omega⟩) hb2⟩
theorem Least.uniq {a b m : Int} {zs g h : List Int} (L : Least a b m zs g) (M : Least a b m zs h) : g = h := by
  rcases glt_tri (gkey g) (gkey h) with e | e | e
  · exact absurd e (M.min g L.rng L.both)
  · exact gkey_inj e
  · exact absurd e (L.min h M.rng M.both)
theorem both_swap {a b : Int} : ∀ {zs g : List Int} {e : Int}, run2 a b zs g e = run2 b a zs g e
  | [], [], _ => rfl
  | [], _ :: _, _ => rfl
  | _ :: _, [], _ => rfl
  | z :: zs, g :: gs, e => by
    have ih := fun e => both_swap (a := a) (b := b) (zs := zs) (g := gs) (e := e)
    unfold run2
    by_cases q : upTo (e + g) (stp a z) = upTo (e + g) (stp b z)
    · rw [if_pos q, if_pos q.symm, q]
      exact ih _
    · rw [if_neg q, if_neg fun z => q z.symm]
theorem Least.swap {a b m : Int} {zs g : List Int} (L : Least a b m zs g) : Least b a m zs g :=
  ⟨L.rng, by unfold Both; rw [both_swap]; exact L.both, fun h hr hb => L.min h hr (by unfold Both; rw [both_swap]; exact hb)⟩
theorem both_len {a b : Int} {zs g : List Int} (h : Both a b zs g) : g.length = zs.length := by
  unfold Both at h
  cases e : run2 a b zs g 0 with
  | none => rw [e] at h; cases h
  | some r => exact run2_len e
end Rw

-- RAISES
namespace Rw
open PySem PySem.Spec PyProof.Rows L2 Ub
variable {B0 : Hp}
/-- a value of the table: a tuple of the gaps' sum and the gaps -/
def VEnt (B0 B : Hp) (x : V) (g : List Int) : Prop := ∃ t l : Addr, x = .ref t ∧ B t = some (.tup [.int g.sum, .ref l]) ∧ B l = some (.lst (g.map V.int)) ∧ B0 l = none
theorem VEnt.up {B B' : Hp} {x : V} {g : List Int} (h : VEnt B0 B x g) (e : Ex B B') : VEnt B0 B' x g := by
  obtain ⟨t, l, h1, h2, h3, h4⟩ := h
  exact ⟨t, l, h1, e _ _ h2, e _ _ h3, h4⟩
theorem int_map_inj : ∀ {g h : List Int}, g.map V.int = h.map V.int → g = h
  | [], [], _ => rfl
  | [], _ :: _, e => by cases e
  | _ :: _, [], e => by cases e
  | a :: g, b :: h, e => by
    obtain ⟨e1, e2⟩ := List.cons.inj e
    rw [V.int.inj e1, int_map_inj e2]
theorem VEnt.uniq {B : Hp} {x : V} {g h : List Int} (a : VEnt B0 B x g) (b : VEnt B0 B x h) : g = h := by
  obtain ⟨t, l, rfl, a2, a3, _⟩ := a
  obtain ⟨t', l', e, b2, b3, _⟩ := b
  cases e
  rw [a2] at b2
  have e1 := HO.tup.inj (Option.some.inj b2)
  obtain ⟨_, e2⟩ := List.cons.inj e1
  obtain ⟨e3, _⟩ := List.cons.inj e2
  cases e3
  rw [a3] at b3
  exact int_map_inj (HO.lst.inj (Option.some.inj b3))
def Snd (B0 : Hp) (a b : Int) (zs : List Int) (B : Hp) (kvs : List (Key × V)) : Prop := ∀ k x, (k, x) ∈ kvs → ∃ e g, k = Sum.inl e ∧ VEnt B0 B x g ∧ run2 a b zs g 0 = some e ∧ gRng 9 g
theorem Snd.up {a b : Int} {zs : List Int} {B B' : Hp} {kvs : List (Key × V)} (h : Snd B0 a b zs B kvs) (ex : Ex B B') : Snd B0 a b zs B' kvs := fun k x hm => by
  obtain ⟨e, g, h1, h2, h3⟩ := h k x hm
  exact ⟨e, g, h1, h2.up ex, h3⟩
structure Tbl (B0 : Hp) (a b : Int) (zs : List Int) (B : Hp) (kvs : List (Key × V)) : Prop where
  snd : Snd B0 a b zs B kvs
  cmp : ∀ g' e', run2 a b zs g' 0 = some e' → gRng 9 g' → ∃ x g, valV kvs (Sum.inl e') = some x ∧ VEnt B0 B x g ∧ ¬ gkey g' < gkey g
  len : kvs.length ≤ 10 ^ zs.length
theorem Tbl.up {a b : Int} {zs : List Int} {B B' : Hp} {kvs : List (Key × V)} (h : Tbl B0 a b zs B kvs) (ex : Ex B B') : Tbl B0 a b zs B' kvs := ⟨h.snd.up ex, fun g' e' h1 h2 => by
  obtain ⟨x, g, k1, k2, k3⟩ := h.cmp g' e' h1 h2
  exact ⟨x, g, k1, k2.up ex, k3⟩, h.len⟩
theorem valV_mem {kvs : List (Key × V)} {k : Key} {x : V} (h : valV kvs k = some x) : (k, x) ∈ kvs := by
  unfold valV at h
  cases e : kvs.find? fun kv => decide (kv.1 = k) with
  | none => rw [e] at h; cases h
  | some kv =>
    rw [e] at h
    have h1 : kv.2 = x := Option.some.inj h
    have h2 : kv.1 = k := of_decide_eq_true (List.find?_some (p := fun kv : Key × V => decide (kv.1 = k)) e)
    rw [← h1, ← h2]
    exact List.mem_of_find?_eq_some e
theorem put_mem {kvs : List (Key × V)} {k0 k : Key} {y x : V} (h : (k, x) ∈ putK kvs k0 y) : (k, x) ∈ kvs ∨ (k = k0 ∧ x = y) := by
  unfold putK at h
  split at h
  · obtain ⟨kv, h1, h2⟩ := List.mem_map.mp h
    split at h2
    · rename_i e
      cases h2
      exact .inr ⟨e, rfl⟩
    · rw [h2] at h1
      exact .inl h1
  · rcases List.mem_append.mp h with h | h
    · exact .inl h
    · have := List.mem_singleton.mp h
      cases this
      exact .inr ⟨rfl, rfl⟩
theorem put_len {kvs : List (Key × V)} {k0 : Key} {y : V} : (putK kvs k0 y).length ≤ kvs.length + 1 := by
  unfold putK
  split
  · rw [List.length_map]; omega
  · rw [List.length_append]; exact Nat.le_refl _
/-- the j-th gap behind the m-th entry is seen to -/
def DoneAt (B0 : Hp) (a b z : Int) (B : Hp) (kvs : List (Key × V)) (B' : Hp) (fk : List (Key × V)) (m : Nat) (j : Int) : Prop :=
  ∀ e g x, kvs[m]? = some (Sum.inl e, x) → VEnt B0 B x g → upTo (e + j) (stp a z) = upTo (e + j) (stp b z) → ∃ x2 g2, valV fk (Sum.inl (upTo (e + j) (stp a z) + z)) = some x2 ∧ VEnt B0 B' x2 g2 ∧ ¬ gkey (g ++ [j]) < gkey g2
theorem DoneAt.up {a b z : Int} {B B' B2 : Hp} {kvs fk : List (Key × V)} {m : Nat} {j : Int} (h : DoneAt B0 a b z B kvs B' fk m j) (ex : Ex B' B2) : DoneAt B0 a b z B kvs B2 fk m j := fun e g x h1 h2 h3 => by
  obtain ⟨x2, g2, k1, k2, k3⟩ := h e g x h1 h2 h3
  exact ⟨x2, g2, k1, k2.up ex, k3⟩
/-- a better choice is put -/
theorem DoneAt.put {a b z : Int} {B B' : Hp} {kvs fk : List (Key × V)} {m : Nat} {j k0 : Int} {y : V} {gy : List Int} (h : DoneAt B0 a b z B kvs B' fk m j) (hy : VEnt B0 B' y gy) (less : ∀ x g, valV fk (Sum.inl k0) = some x → VEnt B0 B' x g → gkey gy < gkey g) : DoneAt B0 a b z B kvs B' (putK fk (Sum.inl k0) y) m j := fun e g x h1 h2 h3 => by
  obtain ⟨x2, g2, k1, k2, k3⟩ := h e g x h1 h2 h3
  by_cases q : upTo (e + j) (stp a z) + z = k0
  · refine ⟨y, gy, by rw [valV_put, if_pos (by rw [q])], hy, fun c => k3 (glt_trans c (less x2 g2 (by rw [← q]; exact k1) k2))⟩
  · exact ⟨x2, g2, by rw [valV_put, if_neg fun c => q (Sum.inl.inj c)]; exact k1, k2, k3⟩
theorem tbl_next {a b z : Int} {zs : List Int} {B B' : Hp} {kvs fk : List (Key × V)} (t : Tbl B0 a b zs B kvs) (hs : Snd B0 a b (zs ++ [z]) B' fk) (hl : fk.length ≤ 10 * kvs.length) (hd : ∀ m, m < kvs.length → ∀ j, 0 ≤ j → j ≤ 9 → DoneAt B0 a b z B kvs B' fk m j) : Tbl B0 a b (zs ++ [z]) B' fk := by
  refine ⟨hs, fun g' e' h1 h2 => ?_, ?_⟩
  · have hlen := run2_len h1
    have hne : g' ≠ [] := fun c => by rw [c] at hlen; simp at hlen
    obtain ⟨q, j, rfl⟩ : ∃ q j, g' = q ++ [j] := ⟨g'.dropLast, g'.getLast hne, (List.dropLast_concat_getLast hne).symm⟩
    have hql : q.length = zs.length := by simpa using hlen
    rw [run2_snoc hql] at h1
    cases e : run2 a b zs q 0 with
    | none => rw [e] at h1; cases h1
    | some r =>
      rw [e] at h1
      have h1' : (if upTo (r + j) (stp a z) = upTo (r + j) (stp b z) then some (upTo (r + j) (stp a z) + z) else none) = some e' := h1
      by_cases c : upTo (r + j) (stp a z) = upTo (r + j) (stp b z)
      · rw [if_pos c] at h1'
        cases h1'
        obtain ⟨x, g, k1, k2, k3⟩ := t.cmp q r e fun y hy => h2 y (List.mem_append_left _ hy)
        obtain ⟨e2, g2, e3, k4, k5, _⟩ := t.snd _ _ (valV_mem k1)
        obtain ⟨m, hm, em⟩ := List.getElem_of_mem (valV_mem k1)
        have hj := h2 j (List.mem_append_right _ List.mem_cons_self)
        obtain ⟨x2, g3, n1, n2, n3⟩ := hd m hm j hj.1 hj.2 r g x (by rw [List.getElem?_eq_getElem hm, em]) k2 c
        refine ⟨x2, g3, n1, n2, gle_trans n3 fun c2 => k3 ?_⟩
        have hg : g = g2 := k2.uniq k4
        have hgl : g.length = zs.length := by rw [hg]; exact run2_len k5
        exact (gkey_snoc (by omega)).mp c2
      · rw [if_neg c] at h1'
        cases h1'
  · have := t.len
    rw [List.length_append]
    show _ ≤ 10 ^ (zs.length + 1)
    rw [Nat.pow_succ]
    omega
/-! ### the order of the table's values -/
def dG (g : List Int) : PyData := .tuple [.int g.sum, .list (g.map PyData.int)]
theorem dp_intsG {K : PySem.W.Frag} {H : Hp} : ∀ gs : List Int, DpAll K H (gs.map V.int) (gs.map PyData.int)
  | [] => .nil
  | g :: gs => .cons (.int g) (dp_intsG gs)
theorem VEnt.dp {K : PySem.W.Frag} {B : Hp} {x : V} {g : List Int} (h : VEnt B0 B x g) : Dp K B x (dG g) := by
  obtain ⟨t, l, rfl, h2, h3, _⟩ := h
  exact .tup (SqT.of h2) (.cons (.int _) (.cons (.lst (SqL.of h3) (dp_intsG g)) .nil))
theorem eqv_ints : ∀ g h : List Int, PyData.eqvAll (g.map PyData.int) (h.map PyData.int) = decide (g = h)
  | [], [] => by simp [PyData.eqvAll]
  | [], _ :: _ => by simp [PyData.eqvAll]
  | _ :: _, [] => by simp [PyData.eqvAll]
  | x :: g, y :: h => by
    rw [List.map_cons, List.map_cons, PyData.eqvAll, eqv_ints g h, PyData.eqv]
    by_cases e1 : x = y <;> by_cases e2 : g = h <;> simp [e1, e2]
theorem alike_ints : ∀ g h : List Int, PySem.W.alikeAll (g.map PyData.int) (h.map PyData.int) = true
  | [], [] => by simp [PySem.W.alikeAll]
  | [], _ :: _ => by simp [PySem.W.alikeAll]
  | _ :: _, [] => by simp [PySem.W.alikeAll]
  | x :: g, y :: h => by
    rw [List.map_cons, List.map_cons, PySem.W.alikeAll, alike_ints g h]
    simp [PySem.W.alike]
theorem alike_dG (g h : List Int) : PySem.W.alike (dG g) (dG h) = true := by
  unfold dG
  simp [PySem.W.alike, PySem.W.alikeAll, alike_ints]
theorem lt_dG (g h : List Int) : PySem.W.dataLt (dG g) (dG h) = decide (gkey g < gkey h) := by
  unfold dG
  rw [PySem.W.dataLt_pair (by simp [PySem.W.alike]) (by simp [PySem.W.alike, alike_ints]), PySem.W.dataLt_int, PySem.W.dataLt_list]
  show (if PyData.eqv (.int g.sum) (.int h.sum) = true then (if PyData.eqv (.list (g.map PyData.int)) (.list (h.map PyData.int)) = true then false else PySem.W.rowLt (g.map PyData.int) (h.map PyData.int)) else decide (g.sum < h.sum)) = _
  rw [PySem.W.dataLt_ints, PyData.eqv, PyData.eqv, eqv_ints]
  by_cases e1 : g.sum = h.sum
  · by_cases e2 : g = h
    · subst e2
      simp [gkey, glt_irrefl]
    · have : (gkey g < gkey h) = (g < h) := by
        rw [gkey_lt]
        simp [e1]
      simp [e1, e2, this]
  · have : (gkey g < gkey h) = (g.sum < h.sum) := by
      rw [gkey_lt]
      simp [e1]
    simp [e1, this]
theorem depth_ints : ∀ g : List Int, PyData.depthAll (g.map PyData.int) = 0
  | [] => by simp [PyData.depthAll]
  | x :: g => by simp [PyData.depthAll, PyData.depth, depth_ints g]
theorem depth_dG (g : List Int) : (dG g).depth = 2 := by
  unfold dG
  simp [PyData.depth, PyData.depthAll, depth_ints]
section
variable {P : Program} {w : World} {K : PySem.W.Frag} {mg : Str → Option Value} {base : Heap} {T : Tb}
def spBest (T : Tb) : Sp := fun vs H Q _ => ∃ (p : Addr) (z a b : Int) (zs : List Int) (kvs : List (Key × V)) (B0 B : Hp), vs = [.ref p, .int z, .int (stp a z), .int (stp b z)] ∧ Ok T B H ∧ B p = none ∧ H p = some (.dK kvs) ∧ SizeOk a ∧ SizeOk b ∧ SizeOk z ∧ zs.length ≤ 5 ∧ Ex B0 B ∧ Tbl B0 a b zs B kvs ∧
  ∀ (p' : Addr) (kvs' : List (Key × V)) (B' H' : Hp), Ex B B' → B' p' = none → Ok T B' H' → H' p' = some (.dK kvs') → Tbl B0 a b (zs ++ [z]) B' kvs' → Q (.ref p') H'
theorem k_best_behind_ (D : Df K mg "_best_behind" s_best_behind P_best_behind) (bl : Bl mg) (cn : CnG mg) (k_first_multiple : Kp P w K mg base CX0 1 "first_multiple" P_first_multiple spFirst) : Kp P w K mg base CX0 2 "_best_behind" P_best_behind (spBest T) := by
  obtain ⟨tG, c_MOST_GAP⟩ := cn.MOST_GAP
  refine D.ok sc_best_behind (fun vs H Q E h => ?_) (fun f0 cdv A outer s H vs Q E hr h => ?_)
  · obtain ⟨_, _, _, _, _, _, _, _, rfl, _⟩ := h
    rfl
  · obtain ⟨p, z, a, b, zs, kvs, B0, B, rfl, o0, nbp, hp, ha, hb, hz, hzl, e0, tb, q⟩ := h
    have sa := stp_ok ha hz
    have sb := stp_ok hb hz
    refine ⟨_, (pss_cons (ps_set (i := 4) sc_best_behind.nd rfl (by first | exact Or.inl rfl | exact Or.inr rfl) pe_dnewK)
      (pss_cons (ps_lock (ps_for PassesOwn.never rfl (pi_items (pv 0)) (pg_tup rfl (pgs_cons (pg_name (i := 5) sc_best_behind.nd rfl (by first | exact Or.inl rfl | exact Or.inr rfl)) (pgs_cons (pg_tup rfl (pgs_cons (pg_name (i := 6) sc_best_behind.nd rfl (by first | exact Or.inl rfl | exact Or.inr rfl)) (pgs_cons (pg_name (i := 7) sc_best_behind.nd rfl (by first | exact Or.inl rfl | exact Or.inr rfl)) pgs_nil))) pgs_nil)))
        (pss_one (ps_for PassesOwn.never rfl (pi_range1 (by rfl) bl.range (pa_cons (pe_op op_add (pe_glob (v := .int 9) rfl c_MOST_GAP ⟨_, rfl⟩) pe_int) pa_nil)) (pg_name (i := 8) sc_best_behind.nd rfl (by first | exact Or.inl rfl | exact Or.inr rfl))
          (pss_cons (ps_set (i := 9) sc_best_behind.nd rfl (by first | exact Or.inl rfl | exact Or.inr rfl) (pe_callA k_first_multiple (hr.mono (by decide)) pass0 (pa_cons (pe_op op_add (pv 5) (pv 8)) (pa_cons (pv 2) pa_nil))))
          (pss_cons (ps_if (pt_cmpR  op_ne (pv 9) (pe_callA k_first_multiple (hr.mono (by decide)) pass0 (pa_cons (pe_op op_add (pv 5) (pv 8)) (pa_cons (pv 3) pa_nil))) (nomark _))
            (pss_one ps_continue)
            pss_nil)
          (pss_cons (ps_set (i := 10) sc_best_behind.nd rfl (by first | exact Or.inl rfl | exact Or.inr rfl) (pe_tup (pa_cons (pe_op op_add (pv 6) (pv 8)) (pa_cons (pe_op op_cat (pv 7) (pe_lst (pa_cons (pv 8) pa_nil))) pa_nil))))
          (pss_cons (ps_set (i := 11) sc_best_behind.nd rfl (by first | exact Or.inl rfl | exact Or.inr rfl) (pe_op op_add (pv 9) (pv 1)))
          (pss_one (ps_if (PW.pt (pw_or (pt_cmp (pc_dnotin (hu_of hr) (pv 11) (pv 4))) (pw_or1 (pt_cmpR (r := rLtD K) (op_ltD hr.units) (pv 10) (pe_dget (hu_of hr) (pv 4) (pv 11) (fun _ _ => rfl)) (nomark _)))))
            (pss_one (ps_dput (hu_of hr) (pv 4) (pv 11) (pv 10) rfl))
            pss_nil))))))))))
      (pss_one (ps_ret (pv 4))))), ?_⟩
    refine fun f nf => ?_
    have pf : p ≠ f := ne_of_none hp nf
    have nBf := o0.fresh nf
    have hp1 := (upd_ne (o := .dK []) pf).trans hp
    have o1 := o0.newM nf (o := .dK [])
    have hf1 : upd H f (.dK []) f = some (.dK []) := upd_same
    generalize upd H f (.dK []) = H1 at hp1 o1 hf1
    refine ⟨p, .dK kvs, hp1, trivial, fun od => ?_⟩
    have o2 := o1.mut nbp hp1 (o := .frz od (.dK kvs)) (fun _ e => nomatch e) (fun _ e => nomatch e)
    have hf2 := (upd_ne (o := .frz od (.dK kvs)) pf.symm).trans hf1
    have hp2 : upd H1 p (.frz od (.dK kvs)) p = some (.frz od (.dK kvs)) := upd_same
    generalize upd H1 p (.frz od (.dK kvs)) = H2 at o2 hf2 hp2
    refine ⟨_, rfl, p, od, kvs, rfl, hp2, ?_⟩
    refine for_it (walk_items (d := p) (o := od) (kvs := kvs)) (fun i σ H' => ∃ (y5 y6 y7 y8 y9 y10 y11 : Option V) (B' : Hp) (fk : List (Key × V)), σ = [some (.ref p), some (.int z), some (.int (stp a z)), some (.int (stp b z)), some (.ref f), y5, y6, y7, y8, y9, y10, y11] ∧ Ex B B' ∧ Ok T B' H' ∧ B' f = none ∧ B' p = none ∧
        H' p = some (.frz od (.dK kvs)) ∧ H' f = some (.dK fk) ∧ Snd B0 a b (zs ++ [z]) B' fk ∧ fk.length ≤ 10 * i ∧ ∀ m, m < i → ∀ j, 0 ≤ j → j ≤ 9 → DoneAt B0 a b z B kvs B' fk m j)
      ⟨_, _, _, _, _, _, _, B, [], rfl, Evl.Ex.refl _, o2, nBf, nbp, hp2, hf2, (fun k x hm => by cases hm), Nat.le_refl _, fun m hm => absurd hm (Nat.not_lt_zero _)⟩ (fun i σ H' _ hh => ?_) (fun i x σ H1 H2 hi hh hy => ?_) (fun σ H' hh => ?_)
    · obtain ⟨_, _, _, _, _, _, _, _, _, _, _, _, _, _, h1, _⟩ := hh
      exact h1
    · obtain ⟨y5, y6, y7, y8, y9, y10, y11, B', fk, rfl, eB, o3, nf3, np3, hp3, hf3, sn, fl, dn⟩ := hh
      obtain ⟨t1, x1, x2, rfl, nt1, rfl, e1, e2⟩ := hy
      have hki : kvs[i]? = some kvs[i] := List.getElem?_eq_getElem hi
      dsimp only at e1 e2
      rw [hki] at e1 e2
      obtain ⟨e, g, ke, ve, re, ge⟩ := tb.snd kvs[i].1 kvs[i].2 (by have := List.getElem_mem hi; exact this)
      obtain ⟨tt, l, ve1, ve2, ve3, _⟩ := id ve
      have hkv : kvs[i]? = some (Sum.inl e, kvs[i].2) := by rw [hki, ← ke]
      obtain rfl : x1 = kV (Sum.inl e) := by
        rw [← ke]
        exact (Option.some.inj e1).symm
      obtain rfl : x2 = .ref tt := by
        rw [← ve1]
        exact (Option.some.inj e2).symm
      have t1p : p ≠ t1 := ne_of_none hp3 nt1
      have t1f : f ≠ t1 := ne_of_none hf3 nt1
      have o4 := o3.newM nt1 (o := .tup [kV (Sum.inl e), .ref tt])
      have hT := o4.st (K := K) (Evl.ex_t eB (SqT.of ve2))
      refine ⟨t1, _, rfl, SqT.of upd_same, rfl, _, _, rfl, _, _, rfl, ⟨tt, _, rfl, hT, rfl, _, _, rfl, _, _, rfl, rfl, rfl, ?_⟩⟩
      have hp4 := (upd_ne (o := .tup [kV (Sum.inl e), .ref tt]) t1p).trans hp3
      have hf4 := (upd_ne (o := .tup [kV (Sum.inl e), .ref tt]) t1f).trans hf3
      generalize upd H1 t1 (.tup [kV (Sum.inl e), .ref tt]) = H3 at o4 hp4 hf4
      refine ⟨_, _, rfl, rfl, 9 + 1, rfl, by decide, by decide, ?_⟩
      refine for_range (lo := 0) (n := (9 + 1 : Int).toNat) (fun j σ H' => ∃ (y8 y9 y10 y11 : Option V) (B2 : Hp) (fk2 : List (Key × V)), σ = [some (.ref p), some (.int z), some (.int (stp a z)), some (.int (stp b z)), some (.ref f), some (.int e), some (.int g.sum), some (.ref l), y8, y9, y10, y11] ∧ Ex B' B2 ∧ Ok T B2 H' ∧ B2 f = none ∧ B2 p = none ∧
        H' p = some (.frz od (.dK kvs)) ∧ H' f = some (.dK fk2) ∧ Snd B0 a b (zs ++ [z]) B2 fk2 ∧ fk2.length ≤ 10 * i + j ∧ (∀ m, m < i → ∀ j, 0 ≤ j → j ≤ 9 → DoneAt B0 a b z B kvs B2 fk2 m j) ∧ ∀ j' : Int, 0 ≤ j' → j' < j → DoneAt B0 a b z B kvs B2 fk2 i j')
        ⟨y8, y9, y10, y11, B', fk, rfl, Evl.Ex.refl _, o4, nf3, np3, hp4, hf4, sn, fl, dn, fun j' h1 h2 => by omega⟩ (fun j σ H' hj hh => ?_) (fun σ H' hh => ?_)
      · obtain ⟨y8, y9, y10, y11, B2, fk2, rfl, e2B, o5, nf5, np5, hp5, hf5, sn5, fl5, dn5, dj5⟩ := hh
        have hj10 : j < 10 := hj
        rw [Int.zero_add]
        refine ⟨_, rfl, _, rfl, _, _, rfl, rfl, _, rfl, e + (j : Nat), stp a z, rfl, sa, ?_⟩
        refine ⟨_, rfl, _, rfl, _, rfl, _, _, rfl, rfl, _, rfl, e + (j : Nat), stp b z, rfl, sb, rfl, _, rfl, ?_⟩
        by_cases c : upTo (e + (j : Nat)) (stp a z) = upTo (e + (j : Nat)) (stp b z)
        · rw [decide_eq_true (show V.int (upTo (e + (j : Nat)) (stp a z)) = V.int (upTo (e + (j : Nat)) (stp b z)) by rw [c])]
          refine iteF ?_
          obtain ⟨_, _, ve1', _, ve3', _⟩ := ve.up (eB.trans e2B)
          cases ve1.symm.trans ve1'
          have hl5 : B2 l = some (.lst (g.map V.int)) := (eB.trans e2B) _ _ ve3
          have zl := run2_len re
          have sz : ∀ n m : Nat, n ≤ 100 → m ≤ 100 → n + m ≤ sizeLine := fun n m h1 h2 => Nat.le_trans (show n + m ≤ 200 by omega) (by decide)
          refine ⟨_, rfl, _, rfl, _, _, rfl, rfl, _, rfl, _, rfl, by show 1 ≤ sizeLine; decide, fun q1 nq1 => ?_⟩
          have lq1 : l ≠ q1 := ne_of_none (o5.ex _ _ hl5) nq1
          have o6 := o5.newM nq1 (o := .lst [.int (j : Nat)])
          have hp6 := (upd_ne (o := .lst [.int (j : Nat)]) (ne_of_none hp5 nq1)).trans hp5
          have hf6 := (upd_ne (o := .lst [.int (j : Nat)]) (ne_of_none hf5 nq1)).trans hf5
          have hq6 : upd H' q1 (.lst [.int (j : Nat)]) q1 = some (.lst [.int (j : Nat)]) := upd_same
          generalize upd H' q1 (.lst [.int (j : Nat)]) = H6 at o6 hp6 hf6 hq6
          refine ⟨l, q1, _, _, rfl, rfl, o6.ex _ _ hl5, hq6, sz _ _ (by rw [List.length_map]; omega) (by show 1 ≤ 100; decide), fun q2 nq2 => ⟨by show 2 ≤ sizeLine; decide, fun t2 nt2 => ?_⟩⟩
          have em : g.map V.int ++ [V.int (j : Nat)] = (g ++ [(j : Int)]).map V.int := by rw [List.map_append]; rfl
          rw [em] at nt2 ⊢
          have n7 := o6.fresh nq2
          have n0 : B0 q2 = none := Evl.fresh_back (e0.trans (eB.trans e2B)) n7
          have o7 := o6.new nq2 (o := .lst ((g ++ [(j : Int)]).map V.int)) nt_lst
          have e7 : Ex B2 (upd B2 q2 (.lst ((g ++ [(j : Int)]).map V.int))) := o6.up nq2
          have r7 : upd B2 q2 (.lst ((g ++ [(j : Int)]).map V.int)) q2 = some (.lst ((g ++ [(j : Int)]).map V.int)) := upd_same
          have pq2 := ne_of_none hp6 nq2
          have fq2 := ne_of_none hf6 nq2
          have hp7 := (upd_ne (o := .lst ((g ++ [(j : Int)]).map V.int)) pq2).trans hp6
          have hf7 := (upd_ne (o := .lst ((g ++ [(j : Int)]).map V.int)) fq2).trans hf6
          have nf7 : upd B2 q2 (.lst ((g ++ [(j : Int)]).map V.int)) f = none := upd_no nf5 fq2
          have np7 : upd B2 q2 (.lst ((g ++ [(j : Int)]).map V.int)) p = none := upd_no np5 pq2
          generalize upd B2 q2 (.lst ((g ++ [(j : Int)]).map V.int)) = B7 at o7 e7 r7 nf7 np7
          generalize upd H6 q2 (.lst ((g ++ [(j : Int)]).map V.int)) = H7 at o7 hp7 hf7 nt2
          have es : g.sum + (j : Int) = (g ++ [(j : Int)]).sum := by simp
          have o8 := o7.new nt2 (o := .tup [.int (g.sum + (j : Nat)), .ref q2]) nt_tup
          have e8 : Ex B7 (upd B7 t2 (.tup [.int (g.sum + (j : Nat)), .ref q2])) := o7.up nt2
          have r8 : upd B7 t2 (.tup [.int (g.sum + (j : Nat)), .ref q2]) t2 = some (.tup [.int (g.sum + (j : Nat)), .ref q2]) := upd_same
          have pt2 := ne_of_none hp7 nt2
          have ft2 := ne_of_none hf7 nt2
          have hp8 := (upd_ne (o := .tup [.int (g.sum + (j : Nat)), .ref q2]) pt2).trans hp7
          have hf8 := (upd_ne (o := .tup [.int (g.sum + (j : Nat)), .ref q2]) ft2).trans hf7
          have nf8 : upd B7 t2 (.tup [.int (g.sum + (j : Nat)), .ref q2]) f = none := upd_no nf7 ft2
          have np8 : upd B7 t2 (.tup [.int (g.sum + (j : Nat)), .ref q2]) p = none := upd_no np7 pt2
          have w8 : VEnt B0 (upd B7 t2 (.tup [.int (g.sum + (j : Nat)), .ref q2])) (.ref t2) (g ++ [(j : Int)]) := ⟨t2, q2, rfl, by rw [← es]; exact r8, e8 _ _ r7, n0⟩
          have e58 := e7.trans e8
          generalize upd B7 t2 (.tup [.int (g.sum + (j : Nat)), .ref q2]) = B8 at o8 e8 r8 nf8 np8 w8 e58
          generalize upd H7 t2 (.tup [.int (g.sum + (j : Nat)), .ref q2]) = H8 at o8 hp8 hf8
          have run' : run2 a b (zs ++ [z]) (g ++ [(j : Int)]) 0 = some (upTo (e + (j : Nat)) (stp a z) + z) := by
            rw [run2_snoc zl, re]
            show (if upTo (e + (j : Nat)) (stp a z) = upTo (e + (j : Nat)) (stp b z) then some (upTo (e + (j : Nat)) (stp a z) + z) else none) = _
            rw [if_pos c]
          have rng' : gRng 9 (g ++ [(j : Int)]) := fun y hy => by
            rcases List.mem_append.mp hy with hy | hy
            · exact ge y hy
            · have := List.mem_singleton.mp hy
              omega
          have sn8 := sn5.up e58
          have sput : Snd B0 a b (zs ++ [z]) B8 (putK fk2 (Sum.inl (upTo (e + (j : Nat)) (stp a z) + z)) (.ref t2)) := fun k x hm => by
            rcases put_mem hm with hm | ⟨rfl, rfl⟩
            · exact sn8 k x hm
            · exact ⟨_, _, rfl, w8, run', rng'⟩
          have len8 : fk2.length < sizeLine := by
            have h1 : kvs.length ≤ 10 ^ 5 := Nat.le_trans tb.len (Nat.pow_le_pow_right (by decide) hzl)
            have h2 : fk2.length ≤ 1000010 := by omega
            exact Nat.lt_of_le_of_lt h2 (by decide)
          have here : ∀ fk3 B3, (∃ x2 g2, valV fk3 (Sum.inl (upTo (e + (j : Nat)) (stp a z) + z)) = some x2 ∧ VEnt B0 B3 x2 g2 ∧ ¬ gkey (g ++ [(j : Int)]) < gkey g2) → DoneAt B0 a b z B kvs B3 fk3 i (j : Nat) := fun fk3 B3 hx e' g' x' k1 k2 k3 => by
            rw [hkv] at k1
            cases k1
            have : g' = g := k2.uniq ve
            subst this
            exact hx
          refine ⟨_, rfl, _, rfl, _, _, rfl, rfl, ?_⟩
          have bput : (∀ x g2, valV fk2 (Sum.inl (upTo (e + (j : Nat)) (stp a z) + z)) = some x → VEnt B0 B8 x g2 → gkey (g ++ [(j : Int)]) < gkey g2) → ∃ (y8 y9 y10 y11 : Option V) (B2 : Hp) (fk3 : List (Key × V)), [some (V.ref p), some (V.int z), some (V.int (stp a z)), some (V.int (stp b z)), some (V.ref f), some (V.int e), some (V.int g.sum), some (V.ref l), some (V.int (j : Nat)), some (V.int (upTo (e + (j : Nat)) (stp a z))), some (V.ref t2), some (V.int (upTo (e + (j : Nat)) (stp a z) + z))] = [some (.ref p), some (.int z), some (.int (stp a z)), some (.int (stp b z)), some (.ref f), some (.int e), some (.int g.sum), some (.ref l), y8, y9, y10, y11] ∧ Ex B' B2 ∧ Ok T B2 (upd H8 f (.dK (putK fk2 (Sum.inl (upTo (e + (j : Nat)) (stp a z) + z)) (.ref t2)))) ∧ B2 f = none ∧ B2 p = none ∧
              upd H8 f (.dK (putK fk2 (Sum.inl (upTo (e + (j : Nat)) (stp a z) + z)) (.ref t2))) p = some (.frz od (.dK kvs)) ∧ upd H8 f (.dK (putK fk2 (Sum.inl (upTo (e + (j : Nat)) (stp a z) + z)) (.ref t2))) f = some (.dK fk3) ∧ Snd B0 a b (zs ++ [z]) B2 fk3 ∧ fk3.length ≤ 10 * i + (j + 1) ∧ (∀ m, m < i → ∀ j, 0 ≤ j → j ≤ 9 → DoneAt B0 a b z B kvs B2 fk3 m j) ∧ ∀ j' : Int, 0 ≤ j' → j' < (j + 1 : Nat) → DoneAt B0 a b z B kvs B2 fk3 i j' := fun less => by
            refine ⟨_, _, _, _, B8, _, rfl, e2B.trans e58, o8.mut nf8 hf8 (fun _ e => nomatch e) (fun _ e => nomatch e), nf8, np8, (upd_ne pf).trans hp8, upd_same, sput, by have := put_len (kvs := fk2) (k0 := Sum.inl (upTo (e + (j : Nat)) (stp a z) + z)) (y := V.ref t2); omega, fun m hm j0 h1 h2 => (((dn5 m hm j0 h1 h2).up e58).put w8 less), fun j' h1 h2 => ?_⟩
            by_cases q2' : j' < (j : Nat)
            · exact ((dj5 j' h1 q2').up e58).put w8 less
            · have : j' = (j : Nat) := by omega
              subst this
              exact here _ _ ⟨.ref t2, _, by rw [valV_put, if_pos rfl], w8, glt_irrefl _⟩
          refine ⟨_, rfl, _, rfl, f, _, rfl, DGet.k (k := Sum.inl (upTo (e + (j : Nat)) (stp a z) + z)) hf8, _, rfl, ?_⟩
          cases ev : valV fk2 (Sum.inl (upTo (e + (j : Nat)) (stp a z) + z)) with
          | none =>
            refine iteT ⟨_, rfl, _, rfl, _, rfl, f, _, rfl, DPut.k (k := Sum.inl (upTo (e + (j : Nat)) (stp a z) + z)) hf8 len8, ?_⟩
            exact bput fun x g2 h1 => by rw [ev] at h1; cases h1
          | some xo =>
            obtain ⟨eo, go, _, wo, _, _⟩ := sn8 _ _ (valV_mem ev)
            have wd := wo.dp (K := K)
            have dg : DGet H8 f (kV (Sum.inl (upTo (e + (j : Nat)) (stp a z) + z))) (some xo) := by
              have := DGet.k (k := Sum.inl (upTo (e + (j : Nat)) (stp a z) + z)) hf8
              rw [ev] at this
              exact this
            refine iteF ⟨_, rfl, _, rfl, _, rfl, f, xo, rfl, dg, dG (g ++ [(j : Int)]), dG go, Dp.up o8.ex _ _ w8.dp, Dp.up o8.ex _ _ wd, alike_dG _ _, (fun e => by cases e), by rw [depth_dG]; decide, _, rfl, ?_⟩
            rw [lt_dG]
            by_cases lt : gkey (g ++ [(j : Int)]) < gkey go
            · rw [decide_eq_true lt]
              refine iteT ⟨_, rfl, _, rfl, _, rfl, f, _, rfl, DPut.k (k := Sum.inl (upTo (e + (j : Nat)) (stp a z) + z)) hf8 len8, ?_⟩
              exact bput fun x g2 h1 h2 => by
                rw [ev] at h1
                cases h1
                rw [← wo.uniq h2]
                exact lt
            · rw [decide_eq_false lt]
              refine iteF ⟨_, _, _, _, B8, fk2, rfl, e2B.trans e58, o8, nf8, np8, hp8, hf8, sn8, by omega, fun m hm j0 h1 h2 => (dn5 m hm j0 h1 h2).up e58, fun j' h1 h2 => ?_⟩
              by_cases q2' : j' < (j : Nat)
              · exact (dj5 j' h1 q2').up e58
              · have : j' = (j : Nat) := by omega
                subst this
                exact here _ _ ⟨xo, go, ev, wo, lt⟩
        · rw [decide_eq_false (fun k => c (V.int.inj k))]
          refine iteT ⟨_, _, _, _, B2, fk2, rfl, e2B, o5, nf5, np5, hp5, hf5, sn5, by omega, dn5, fun j' h1 h2 => ?_⟩
          by_cases q2 : j' < (j : Nat)
          · exact dj5 j' h1 q2
          · have : j' = (j : Nat) := by omega
            subst this
            intro e' g' x' k1 _ k3
            rw [hkv] at k1
            cases k1
            exact absurd k3 c
      · obtain ⟨y8, y9, y10, y11, B2, fk2, rfl, e2B, o5, nf5, np5, hp5, hf5, sn5, fl5, dn5, dj5⟩ := hh
        refine ⟨_, _, _, _, _, _, _, B2, fk2, rfl, eB.trans e2B, o5, nf5, np5, hp5, hf5, sn5, by have : (9 + 1 : Int).toNat = 10 := rfl; omega, fun m hm j h1 h2 => ?_⟩
        by_cases q2 : m < i
        · exact dn5 m q2 j h1 h2
        · have : m = i := by omega
          subst this
          exact dj5 j h1 (by have : (((9 + 1 : Int).toNat : Nat) : Int) = 10 := rfl; omega)
    · obtain ⟨y5, y6, y7, y8, y9, y10, y11, B', fk, rfl, eB, o3, nf3, np3, hp3, hf3, sn, fl, dn⟩ := hh
      exact ⟨hp3, _, rfl, q f fk B' _ eB nf3 (o3.mut np3 hp3 (fun _ e => nomatch e) (fun _ e => nomatch e)) ((upd_ne pf.symm).trans hf3) (tbl_next tb sn fl dn)⟩
end
end Rw

-- RAISES
namespace Rw
open PySem PySem.Spec PyProof.Rows L2 Ub
variable {B0 : Hp}
/-- the gaps of a table, one for each entry -/
theorem snd_list {K : PySem.W.Frag} {a b : Int} {zs : List Int} {B : Hp} : ∀ {kvs : List (Key × V)}, Snd B0 a b zs B kvs → ∃ gl : List (List Int), gl.length = kvs.length ∧ DpAll K B (kvs.map (·.2)) (gl.map dG) ∧
    ∀ (i : Nat) (k : Key) (x : V) (g : List Int), kvs[i]? = some (k, x) → gl[i]? = some g → VEnt B0 B x g ∧ ∃ e, run2 a b zs g 0 = some e ∧ gRng 9 g
  | [], _ => ⟨[], rfl, .nil, fun i k x g h => by cases h⟩
  | (k, x) :: r, h => by
    obtain ⟨gl, h1, h2, h3⟩ := snd_list (K := K) (kvs := r) fun k x hm => h k x (List.mem_cons_of_mem _ hm)
    obtain ⟨e, g, _, k2, k3, k4⟩ := h k x List.mem_cons_self
    refine ⟨g :: gl, by simp [h1], .cons k2.dp h2, fun i k' x' g' a1 a2 => ?_⟩
    cases i with
    | zero =>
      cases a1
      cases a2
      exact ⟨k2, e, k3, k4⟩
    | succ i => exact h3 i k' x' g' a1 a2
theorem dG_at {gl : List (List Int)} {i : Nat} (h : i < gl.length) : (gl.map dG).getD i .none = dG (gl.getD i []) := by
  rw [List.getD_eq_getElem?_getD, List.getD_eq_getElem?_getD, List.getElem?_map, List.getElem?_eq_getElem h]
  rfl
theorem best_least {gl : List (List Int)} : ∀ k, k < gl.length → PySem.argBest (fun i j => PySem.W.dataLt ((gl.map dG).getD i .none) ((gl.map dG).getD j .none)) k ≤ k ∧
    ∀ j, j ≤ k → ¬ gkey (gl.getD j []) < gkey (gl.getD (PySem.argBest (fun i j => PySem.W.dataLt ((gl.map dG).getD i .none) ((gl.map dG).getD j .none)) k) [])
  | 0, h => ⟨Nat.le_refl _, fun j hj => by
    have : j = 0 := by omega
    subst this
    exact glt_irrefl _⟩
  | k + 1, h => by
    obtain ⟨h1, h2⟩ := best_least (gl := gl) k (by omega)
    generalize hb : PySem.argBest (fun i j => PySem.W.dataLt ((gl.map dG).getD i .none) ((gl.map dG).getD j .none)) k = m at h1 h2
    have e : PySem.argBest (fun i j => PySem.W.dataLt ((gl.map dG).getD i .none) ((gl.map dG).getD j .none)) (k + 1) = if PySem.W.dataLt ((gl.map dG).getD (k + 1) .none) ((gl.map dG).getD m .none) then k + 1 else m := by
      rw [PySem.argBest, hb]
    rw [e, dG_at h, dG_at (by omega), lt_dG]
    by_cases c : gkey (gl.getD (k + 1) []) < gkey (gl.getD m [])
    · rw [decide_eq_true c, if_pos rfl]
      refine ⟨Nat.le_refl _, fun j hj => ?_⟩
      by_cases q : j = k + 1
      · subst q
        exact glt_irrefl _
      · exact fun z => h2 j (by omega) (glt_trans z c)
    · rw [decide_eq_false c, if_neg Bool.false_ne_true]
      refine ⟨by omega, fun j hj => ?_⟩
      by_cases q : j = k + 1
      · subst q
        exact c
      · exact h2 j (by omega)
section
variable {P : Program} {w : World} {K : PySem.W.Frag} {mg : Str → Option Value} {base : Heap} {T : Tb}
def szs (fs : List Fld) : List Int := fs.map (·.2)
def spFilled (T : Tb) (K : PySem.W.Frag) : Sp := fun vs H Q _ => ∃ (af t1 t2 : Addr) (fs : List Fld) (h1 h2 : Hand) (B : Hp), vs = [.ref af, .ref t1, .ref t2] ∧ Ok T B H ∧ FieldsAt K B af fs ∧ FieldsOk fs ∧ HandAt K B t1 h1 ∧ HandAt K B t2 h2 ∧
  ∀ (l : Addr) (g : List Int) (H' : Hp), B l = none → Ok T B H' → H' l = some (.lst (g.map V.int)) → Least h1.align h2.align 9 (szs fs) g → Q (.ref l) H'
theorem k_filled_ (D : Df K mg "filled" s_filled P_filled) (bl : Bl mg) (k_check_fields : Kp P w K mg base CX0 4 "check_fields" P_check_fields (spCkF T K)) (k_check_hand : Kp P w K mg base CX0 3 "check_hand" P_check_hand (spCkH T K)) (k_step_of : Kp P w K mg base CX0 1 "step_of" P_step_of (spStepOf K))
    (k_best_behind : Kp P w K mg base CX0 2 "_best_behind" P_best_behind (spBest T)) : Kp P w K mg base CX0 5 "filled" P_filled (spFilled T K) := by
  refine D.ok sc_filled (fun vs H Q E h => ?_) (fun f0 cdv A outer s H vs Q E hr h => ?_)
  · obtain ⟨_, _, _, _, _, _, _, rfl, _⟩ := h
    rfl
  · obtain ⟨af, t1, t2, fs, h1, h2, B, rfl, o0, hF, hO, hH1, hH2, q⟩ := h
    have a1 := hH1.2.al
    have a2 := hH2.2.al
    obtain ⟨ts, hA, tl, hT⟩ := id hF
    refine ⟨_, (pss_cons (ps_expr (pe_callA k_check_fields (hr.mono (by decide)) pass0 (pa_cons (pv 0) pa_nil)))
      (pss_cons (ps_expr (pe_callA k_check_hand (hr.mono (by decide)) pass0 (pa_cons (pv 1) pa_nil)))
      (pss_cons (ps_expr (pe_callA k_check_hand (hr.mono (by decide)) pass0 (pa_cons (pv 2) pa_nil)))
      (pss_cons (ps_set (i := 3) sc_filled.nd rfl (by first | exact Or.inl rfl | exact Or.inr rfl) (pe_disp (pps_cons pe_int (pe_tup (pa_cons pe_int (pa_cons (pe_lst pa_nil) pa_nil))) pps_nil) (by rfl) (by rfl) (fun z => by cases z) (by decide)))
      (pss_cons (ps_for PassesOwn.never rfl (pi_list (pv 0)) (pg_tup rfl (pgs_cons (pg_name (i := 4) sc_filled.nd rfl (by first | exact Or.inl rfl | exact Or.inr rfl)) (pgs_cons (pg_name (i := 5) sc_filled.nd rfl (by first | exact Or.inl rfl | exact Or.inr rfl)) pgs_nil)))
        (pss_one (ps_set (i := 3) sc_filled.nd rfl (by first | exact Or.inl rfl | exact Or.inr rfl) (pe_callA k_best_behind (hr.mono (by decide)) pass0 (pa_cons (pv 3) (pa_cons (pv 5) (pa_cons (pe_callA k_step_of (hr.mono (by decide)) pass0 (pa_cons (pv 5) (pa_cons (pv 1) pa_nil))) (pa_cons (pe_callA k_step_of (hr.mono (by decide)) pass0 (pa_cons (pv 5) (pa_cons (pv 2) pa_nil))) pa_nil))))))))
      (pss_cons (ps_asg (pe_callB (r := rMinV K) (cr_minV rfl hr.units) (by rfl) bl.min (by decide +kernel) (pa_cons (pe_bm0 PySem.F.plainAttrs_dict PySem.F.slot_dict_values PySem.F.type_dict_values mt_values (pv 3)) pa_nil)) (pg_tup rfl (pgs_cons (pg_name (i := 4) sc_filled.nd rfl (by first | exact Or.inl rfl | exact Or.inr rfl)) (pgs_cons (pg_name (i := 6) sc_filled.nd rfl (by first | exact Or.inl rfl | exact Or.inr rfl)) pgs_nil))))
      (pss_one (ps_ret (pv 6))))))))), ?_⟩
    refine ⟨_, rfl, af, fs, B, rfl, o0, hF, hO, fun H1 o1 => ?_⟩
    refine ⟨_, rfl, t1, h1, B, rfl, o1, hH1, ?_⟩
    refine ⟨_, rfl, t2, h2, B, rfl, o1, hH2, ?_⟩
    refine fun p np => ⟨Nat.zero_le _, fun l nl => ⟨by show 2 ≤ sizeLine; decide, fun t nt => ?_⟩⟩
    have nB := o1.fresh np
    have o2 := o1.newM np (o := .dK [])
    have pl : p ≠ l := ne_of_none upd_same nl
    have n3 := o2.fresh nl
    have o3 := o2.new nl (o := .lst []) nt_lst
    have e3 : Ex B (upd B l (.lst [])) := o2.up nl
    have pt : p ≠ t := ne_of_none ((upd_ne pl).trans upd_same) nt
    have o4 := o3.new nt (o := .tup [.int 0, .ref l]) nt_tup
    have e4 : Ex (upd B l (.lst [])) (upd (upd B l (.lst [])) t (.tup [.int 0, .ref l])) := o3.up nt
    have r4 : upd (upd B l (.lst [])) t (.tup [.int 0, .ref l]) t = some (.tup [.int 0, .ref l]) := upd_same
    have hp4 : upd (upd (upd H1 p (.dK [])) l (.lst [])) t (.tup [.int 0, .ref l]) p = some (.dK []) := (upd_ne pt).trans ((upd_ne pl).trans upd_same)
    have np4 : upd (upd B l (.lst [])) t (.tup [.int 0, .ref l]) p = none := upd_no (upd_no nB pl) pt
    have rl4 := e4 l _ (upd_same : upd B l (.lst []) l = some (.lst []))
    have eB4 := e3.trans e4
    refine ⟨hp4, [(Sum.inl 0, .ref t)], rfl, by show 1 ≤ 15; decide, ?_⟩
    have w4 : VEnt B (upd (upd B l (.lst [])) t (.tup [.int 0, .ref l])) (.ref t) [] := ⟨t, l, rfl, r4, rl4, n3⟩
    have o5 := o4.mut np4 hp4 (o := .dK [(Sum.inl 0, .ref t)]) (fun _ e => nomatch e) (fun _ e => nomatch e)
    have tb5 : Tbl B h1.align h2.align [] (upd (upd B l (.lst [])) t (.tup [.int 0, .ref l])) [(Sum.inl 0, .ref t)] := by
      refine ⟨fun k x hm => ?_, fun g' e' h h' => ?_, Nat.le_refl _⟩
      · have := List.mem_singleton.mp hm
        cases this
        exact ⟨0, [], rfl, w4, rfl, fun x hx => by cases hx⟩
      · have hl := run2_len h
        have : g' = [] := List.eq_nil_of_length_eq_zero hl
        subst this
        cases h
        exact ⟨.ref t, [], rfl, w4, glt_irrefl _⟩
    generalize upd (upd B l (.lst [])) t (.tup [.int 0, .ref l]) = B5 at np4 eB4 o5 tb5
    have hp5 : upd (upd (upd (upd H1 p (.dK [])) l (.lst [])) t (.tup [.int 0, .ref l])) p (.dK [(Sum.inl 0, .ref t)]) p = some (.dK [(Sum.inl 0, .ref t)]) := upd_same
    have em : mergeK [] [((Sum.inl 0 : Key), V.ref t)] = [(Sum.inl 0, V.ref t)] := rfl
    rw [em]
    generalize upd (upd (upd (upd H1 p (.dK [])) l (.lst [])) t (.tup [.int 0, .ref l])) p (.dK [(Sum.inl 0, .ref t)]) = H5 at o5 hp5
    refine ⟨_, rfl, af, rfl, ⟨_, o5.sl (Evl.ex_l eB4 hA)⟩, ?_⟩
    refine for_list (K := K) (a := af) (xs := ts.map V.ref) (fun i σ H' => ∃ (y4 y5 : Option V) (pb : Addr) (kvs : List (Key × V)) (B' : Hp), σ = [some (.ref af), some (.ref t1), some (.ref t2), some (.ref pb), y4, y5, none] ∧ Ex B B' ∧ Ok T B' H' ∧ B' pb = none ∧ H' pb = some (.dK kvs) ∧ Tbl B h1.align h2.align (szs (fs.take i)) B' kvs)
      ⟨none, none, p, _, B5, rfl, eB4, o5, np4, hp5, tb5⟩ (fun i σ H' _ hh => ?_) (fun i x σ H' hx hh => ?_) (fun σ H' hh => ?_)
    · obtain ⟨_, _, _, _, B', _, e, o, _⟩ := hh
      exact o.sl (Evl.ex_l e hA)
    · obtain ⟨y4, y5, pb, kvs, B', rfl, eB, o6, npb, hpb, tb⟩ := hh
      obtain ⟨ti, hti, rfl⟩ := map_at hx
      have hif : i < fs.length := by
        have := (List.getElem?_eq_some_iff.mp hti).1
        omega
      have hg : fs[i]? = some fs[i] := List.getElem?_eq_getElem hif
      have hTi : SqT K B ti [.str fs[i].1, .int fs[i].2] := hT i ti _ hti hg
      have sz : SizeOk fs[i].2 := hO.size _ (List.getElem_mem hif)
      refine ⟨ti, _, rfl, o6.st (Evl.ex_t eB hTi), rfl, _, _, rfl, _, _, rfl, rfl, ?_⟩
      refine ⟨_, rfl, _, rfl, _, rfl, _, rfl, fs[i].2, t1, h1, rfl, o6.st (Evl.ex_t eB hH1.1), _, rfl, _, rfl, fs[i].2, t2, h2, rfl, o6.st (Evl.ex_t eB hH2.1), ?_⟩
      have e3 : szs (fs.take (i + 1)) = szs (fs.take i) ++ [fs[i].2] := by
        unfold szs
        rw [List.take_add_one, hg, List.map_append]
        rfl
      refine ⟨pb, fs[i].2, h1.align, h2.align, szs (fs.take i), kvs, B, B', rfl, o6, npb, hpb, a1, a2, sz, by unfold szs; rw [List.length_map, List.length_take]; have := hO.most; omega, eB, tb, fun p' kvs' B2 H2 e2 np' o7 hp' tb' => ?_⟩
      rw [e3]
      exact ⟨_, _, p', kvs', B2, rfl, eB.trans e2, o7, np', hp', tb'⟩
    · obtain ⟨y4, y5, pb, kvs, B', rfl, eB, o6, npb, hpb, tb⟩ := hh
      have ea : fs.take (ts.map V.ref).length = fs := List.take_of_length_le (by rw [List.length_map]; omega)
      rw [ea] at tb
      obtain ⟨gl, g1, g2, g3⟩ := snd_list (K := K) tb.snd
      have hz : ∀ z ∈ szs fs, SizeOk z := fun z hz => by
        obtain ⟨f, hf, rfl⟩ := List.mem_map.mp hz
        exact hO.size f hf
      have pos : 0 < kvs.length := by
        obtain ⟨g0, k1, k2⟩ := run2_some a1 a2 (szs fs) 0 hz
        cases e : run2 h1.align h2.align (szs fs) g0 0 with
        | none => rw [e] at k2; cases k2
        | some r =>
          obtain ⟨x, g, k3, _⟩ := tb.cmp g0 r e fun y hy => ⟨(k1 y hy).1, by have := (k1 y hy).2; omega⟩
          exact List.length_pos_of_mem (valV_mem k3)
      refine ⟨_, rfl, .inr (.inr (.inl ⟨rfl, .inl ⟨_, hpb⟩⟩)), pb, kvs, rfl, rfl, hpb, fun v nv => ?_⟩
      have pv' : pb ≠ v := ne_of_none hpb nv
      have o7 := o6.newM nv (o := ViewO v pb)
      have hpb7 := (upd_ne (o := ViewO v pb) pv').trans hpb
      have dmem : ∀ d ∈ gl.map dG, ∃ g, d = dG g := fun d hd => by
        obtain ⟨g, _, e⟩ := List.mem_map.mp hd
        exact ⟨g, e.symm⟩
      have dep : ∀ l : List (List Int), PyData.depthAll (l.map dG) ≤ 50 := fun l => by
        induction l with
        | nil => simp [PyData.depthAll]
        | cons g l ih =>
          simp only [List.map_cons, PyData.depthAll, depth_dG]
          exact Nat.max_le.mpr ⟨by decide, ih⟩
      refine ⟨v, pb, kvs, gl.map dG, rfl, upd_same, hpb7, DpAll.up o7.ex _ _ g2, ⟨fun x hx y hy => ?_, fun x hx => ?_⟩, pos, dep gl, fun k x hk => ?_⟩
      · obtain ⟨gx, rfl⟩ := dmem x hx
        obtain ⟨gy, rfl⟩ := dmem y hy
        exact alike_dG _ _
      · obtain ⟨gx, rfl⟩ := dmem x hx
        exact fun e => by cases e
      · obtain ⟨b1, b2⟩ := best_least (gl := gl) (kvs.length - 1) (by omega)
        have hm : bestOf (gl.map dG) kvs.length < gl.length := by
          unfold bestOf
          omega
        obtain ⟨w, e, k3, k4⟩ := g3 _ k x _ hk (List.getElem?_eq_getElem hm)
        obtain ⟨t, l, rfl, w2, w3, w4⟩ := w
        have hT7 := o7.st (K := K) (SqT.of w2)
        refine ⟨t, _, rfl, hT7, rfl, _, _, rfl, _, _, rfl, rfl, ?_⟩
        refine ⟨_, rfl, q l gl[bestOf (gl.map dG) kvs.length] _ w4 (o7.back eB) (o7.ex _ _ w3) ⟨k4, by unfold Both; rw [k3]; rfl, fun h' r' b' => ?_⟩⟩
        unfold Both at b'
        cases e' : run2 h1.align h2.align (szs fs) h' 0 with
        | none => rw [e'] at b'; cases b'
        | some r =>
          obtain ⟨x2, gg, n1, n2, n3⟩ := tb.cmp h' r e' r'
          obtain ⟨i, hi, ei⟩ := List.getElem_of_mem (valV_mem n1)
          have hig : i < gl.length := by omega
          obtain ⟨w5, _⟩ := g3 i (Sum.inl r) x2 gl[i] (by rw [List.getElem?_eq_getElem hi, ei]) (List.getElem?_eq_getElem hig)
          have eg : gg = gl[i] := n2.uniq w5
          have nb := b2 i (by omega)
          have d1 : gl.getD i [] = gl[i] := by rw [List.getD_eq_getElem?_getD, List.getElem?_eq_getElem hig]; rfl
          have d2 : gl.getD (bestOf (gl.map dG) kvs.length) [] = gl[bestOf (gl.map dG) kvs.length] := by rw [List.getD_eq_getElem?_getD, List.getElem?_eq_getElem hm]; rfl
          have nb2 : ¬ gkey (gl.getD i []) < gkey (gl.getD (bestOf (gl.map dG) kvs.length) []) := nb
          rw [d1, d2, ← eg] at nb2
          exact gle_trans nb2 n3
end
end Rw

namespace Rw
open PySem PySem.Spec PyProof.Rows L2 Ub
section
variable {P : Program} {w : World} {K : PySem.W.Frag} {mg : Str → Option Value} {base : Heap} {T : Tb}
def SFilled : SpD := fun ds Pr => ∃ (fs : List Fld) (h1 h2 : Hand), ds = [fldsD fs, handD h1, handD h2] ∧ FieldsOk fs ∧ HandOk h1 ∧ HandOk h2 ∧ ∀ g : List Int, Least h1.align h2.align 9 (szs fs) g → Pr (.fr (g.map Dt.int))
theorem k_filledD_ (k : Kp P w K mg base CX0 5 "filled" P_filled (spFilled T K)) : Kp P w K mg base CX0 5 "filled" P_filled (spR K T SFilled) := k.imp fun vs H Q E h => by
  obtain ⟨ds, A, B, Pr, oB, e, hz, ⟨fs, h1, h2, rfl, hF, hH1, hH2, hp⟩, q⟩ := h
  cases hz with
  | cons z1 hz =>
    cases hz with
    | cons z2 hz =>
      cases hz with
      | cons z3 hz =>
        cases hz
        obtain ⟨a, rfl, k1⟩ := dz_fields z1
        obtain ⟨t, rfl, k2⟩ := dz_hand z2 hH1
        obtain ⟨u, rfl, k3⟩ := dz_hand z3 hH2
        refine ⟨a, t, u, fs, h1, h2, B, rfl, oB, k1.up e, hF, k2.up e, k3.up e, fun l g H' nl o hl lg => ?_⟩
        exact q (.fr (g.map Dt.int)) _ A _ _ _ _ (hp g lg) (rep_nil o e fun _ z => nomatch z) ⟨l, _, rfl, nl, Evl.fresh_back e nl, (by simp), hl, DzA.ints g⟩
end
end Rw

namespace Ub
open PySem PySem.Spec PyProof.Rows L2
def tAlt (t1 t2 : TE) : TE := fun σ H Q => t1 σ H Q ∨ t2 σ H Q
theorem pe_atAlt {Y : Cx} {e : Expr} {w0 : L2.St} {vs : List Nat} {t6 t7 : TE} (h6 : PE Y e (tAtE w0 vs t6)) (h7 : PE Y e t7) : PE Y e (tAtE w0 vs (tAlt t6 t7)) :=
  ⟨fun pins s σ H Q I ⟨z1, z2⟩ => z2.elim (fun z => h6.run pins s σ H Q I ⟨z1, z⟩) fun z => h7.run pins s σ H Q I z⟩
theorem pe_ref67 {X : Cx} {pins : List (Addr × Obj)} {σ : L2.St} {s : Shared} {H : Hp} {x a : Str} {k : Nat} {st : Stmt} {ps Ng : List Str} {e1 e2 e3 : Expr} {ta : TA} {p pos : Pos} {TT : TT5} {scope : Scope} {ce : Env} {fp : List Addr} {vs : List Nat} (I0 : Inv X pins σ H s) (hfp : ∀ b ∈ fp, FpOk X pins H b) (D : Df X.K X.mg x st ps) (Sg : FnScope Ng ps (defScope st)) (hlen : ps.length = 3) (hNg : Ng[0]? = some a) (hva : Vis (defScope st) a) (hg : Gl (X.blk s H scope ce fp) x)
    (hG : Gives5 (X.blk s H scope ce fp) Ng x (defScope st) (defBody st) a k TT) (hr : Room (k + 2) X.A) (ha : PA (X.blk s H scope ce fp) [e1, e2, e3] ta)
    (he : starEach [e1, e2, e3] ce = (false, eval e1 ce) :: starEach [e2, e3] ce := by rfl) (hpl : (backTo pos (starEach [e2, e3] ce)).any (·.1) = false := by rfl)
    (hdb : (x == ("__debug__" : Str)) = false := by decide) (hd : (a == ("__debug__" : Str)) = false := by decide) (hcd : (a == ("__classdict__" : Str)) = false := by decide) :
    PE (X.blk s H scope ce fp) (.Call (.Name x p) [e1, e2, e3] [] pos) (tAtE σ vs (tAlt (tRef6w X k vs TT ta) (tRef7 X.prog X.w X.K X.mg X.base k TT ta))) :=
  pe_atAlt (pe_at6 (pe_ref6 I0 hfp D Sg hlen hNg hva hg hG hr ha he hpl hdb hd hcd)) (pe_ref7 (X := X.blk s H scope ce fp) D Sg hlen hNg hva hg hG hr ha he hpl hdb hd hcd)
section
variable {K : PySem.W.Frag} {T : Tb} {ρ : List Sl} {P : Ag → Prop} {t1 t2 : TE}
theorem we_alt1 (h : Ub.WE K T t1 ρ P) : Ub.WE K T (tAlt t1 t2) ρ P := fun ⦃A B dc C H σ α⦄ R Q q => .inl (h R Q q)
theorem we_alt2 (h : Ub.WE K T t2 ρ P) : Ub.WE K T (tAlt t1 t2) ρ P := fun ⦃A B dc C H σ α⦄ R Q q => .inr (h R Q q)
end
end Ub

namespace Rw
open PySem PySem.Spec PyProof.Rows L2 Ub
/-! ### fields compared -/
def fldP (g : Fld) : PyData := .tuple [.str g.1, .int g.2]
theorem toPs_flds : ∀ fs : List Fld, toPs (fs.map fldD) = some (fs.map fldP)
  | [] => by simp [toPs]
  | g :: fs => by
    have h := toPs_flds fs
    have e : toP (fldD g) = some (fldP g) := by simp [fldD, fldP, toP, toPs]
    simp [toPs, e, h]
theorem toP_flds (fs : List Fld) : toP (.lst (fs.map fldD)) = some (.list (fs.map fldP)) := by
  simp [toP, toPs_flds]
theorem sh_flds {fs : List Fld} (hF : FieldsOk fs) : SeqAt.shaped (.list (fs.map fldP)) = true := (Sh.list (n := 1) fun d hd => by
  obtain ⟨g, hg, rfl⟩ := List.mem_map.mp hd
  exact Sh.tuple fun e he => by
    have he : e = .str g.1 ∨ e = .int g.2 := by simpa using he
    rcases he with rfl | rfl
    · exact .str (hF.name g hg).strOk
    · exact .int).shaped (by decide)
end Rw

namespace Rw
open PySem PySem.Spec PyProof.Rows L2 Ub
set_option hygiene false in
local macro_rules | `(tactic| acc_peel) => `(tactic| (repeat (first | ((with_reducible show Ub.WS _ _ (tSeq _ _) _ _); (first | refine ws_seq ?_)) | ((with_reducible show Ub.WS _ _ tNext _ _); (first | refine ws_next ?_)) | ((with_reducible show Ub.WS _ _ tRetN _ _); (first | refine ws_retN ?_)) | ((with_reducible show Ub.WS _ _ (tIfS _ _ _) _ _); (first | refine ws_if ?_)) | ((with_reducible show Ub.WS _ _ (tRet (tIf _ _ _)) _ _); (first | refine ws_retIf ?_)) | ((with_reducible show Ub.WS _ _ (tAsg (tC _) (gName _)) _ _); (first | refine ws_set (we_int ?_) | refine ws_set (we_str ?_) | refine ws_set (we_bl ?_) | refine ws_set (we_non ?_))) | ((with_reducible show Ub.WS _ _ (tAsg (tVar _) (gName _)) _ _); (first | refine ws_set (we_dat rfl ?_))) | ((with_reducible show Ub.WS _ _ (tAsg (tLst tNil) (gName _)) _ _); (first | refine ws_setL (wl_lst (wa_nil ⟨rfl, by decide, ?_⟩)))) | ((with_reducible show Ub.WS _ _ (tAsg (tOp (rIxL _) (tLst _) (tCall _ _ _ _)) (gName _)) _ _); (first | refine ws_set (we_pick rfl ?_))) | ((with_reducible show Ub.WS _ _ (tAsg (tOp rCat _ _) (gName _)) _ _); (first | refine ws_set (we_l (wl_cat ?_)))) | ((with_reducible show Ub.WS _ _ (tAsg (tOp rRep _ _) (gName _)) _ _); (first | refine ws_set (we_l (wl_rep1 ?_)))) | ((with_reducible show Ub.WS _ _ (tAsg (tOp (rCatT _) _ _) (gName _)) _ _); (first | refine ws_set (we_catT ?_))) | ((with_reducible show Ub.WS _ _ (tAsg (tOp _ _ _) (gName _)) _ _); (first | refine ws_set (we_op ?_))) | ((with_reducible show Ub.WS _ _ (tAsg (tSl (rSlL _) _ _ _) (gName _)) _ _); (first | refine ws_set (we_l (wl_slice ?_)))) | ((with_reducible show Ub.WS _ _ (tAsg (tTup _) (gName _)) _ _); (first | refine ws_set (we_tup ?_))) | ((with_reducible show Ub.WS _ _ (tAsg (tUn _ _) (gName _)) _ _); (first | refine ws_set (we_neg ?_))) | ((with_reducible show Ub.WS _ _ (tAsg (tCB rMax2 _) (gName _)) _ _); (first | refine ws_set (we_tcb ?_))) | ((with_reducible show Ub.WS _ _ (tAsg (tCB rMin2 _) (gName _)) _ _); (first | refine ws_set (we_tcb ?_))) | ((with_reducible show Ub.WS _ _ (tAsg (tCB rInt1 _) (gName _)) _ _); (first | refine ws_set (we_tcb ?_))) | ((with_reducible show Ub.WS _ _ (tAsg (tCB (Evl.rLenS _) _) (gName _)) _ _); (first | refine ws_set (we_tcb ?_))) | ((with_reducible show Ub.WE _ _ (tC _) _ _); (first | refine we_int ?_ | refine we_str ?_ | refine we_bl ?_ | refine we_non ?_)) | ((with_reducible show Ub.WE _ _ (tVar _) _ _); (first | refine we_dat rfl ?_ | refine we_own rfl ?_)) | ((with_reducible show Ub.WE _ _ (tOp (rIxL _) (tLst _) (tCall _ _ _ _)) _ _); (first | refine we_pick rfl ?_)) | ((with_reducible show Ub.WE _ _ (tOp rCat _ _) _ _); (first | refine we_l (wl_cat ?_))) | ((with_reducible show Ub.WE _ _ (tOp rRep _ _) _ _); (first | refine we_l (wl_rep1 ?_))) | ((with_reducible show Ub.WE _ _ (tOp (rIxDI _) (tC _) _) _ _); (first | refine we_ixK ?_)) | ((with_reducible show Ub.WE _ _ (tOp (rCatT _) _ _) _ _); (first | refine we_catT ?_)) | ((with_reducible show Ub.WE _ _ (tLstRg (tRg1 _)) _ _); (first | refine we_l (wl_listR1 ?_))) | ((with_reducible show Ub.WE _ _ (tLstRg (tRg2 _ _)) _ _); (first | refine we_l (wl_listR2 ?_))) | ((with_reducible show Ub.WE _ _ (tOp _ _ _) _ _); (first | refine we_op ?_)) | ((with_reducible show Ub.WE _ _ (tUn _ _) _ _); (first | refine we_neg ?_)) | ((with_reducible show Ub.WE _ _ (tIf _ _ _) _ _); (first | refine we_if ?_)) | ((with_reducible show Ub.WE _ _ (tAndV _ _) _ _); (first | refine we_and ?_)) | ((with_reducible show Ub.WE _ _ (tOrV _ _) _ _); (first | refine we_or ?_)) | ((with_reducible show Ub.WE _ _ (tNotV _) _ _); (first | refine we_not ?_)) | ((with_reducible show Ub.WE _ _ (tChain _ _ _ _ _) _ _); (first | refine we_chain ?_)) | ((with_reducible show Ub.WE _ _ (tCB (Evl.rListS _) _) _ _); (first | refine we_l (wl_list ?_))) | ((with_reducible show Ub.WE _ _ (tCB (rTupOf _) (tCons _ tNil)) _ _); (first | refine we_tupOf ?_)) | ((with_reducible show Ub.WE _ _ (tCB (rIsi _) (tCons _ (tCons (tC (.ty _)) tNil))) _ _); (first | refine we_isi ?_)) | ((with_reducible show Ub.WE _ _ (tBM _ "list" (rIndex _) _ (tCons _ tNil)) _ _); (first | refine we_index ?_)) | ((with_reducible show Ub.WE _ _ (tM1 rSplitT _ _) _ _); (first | refine we_l (wl_split ?_))) | ((with_reducible show Ub.WE _ _ (tM1 rPartT _ _) _ _); (first | refine we_part ?_)) | ((with_reducible show Ub.WE _ _ (tM1 rCountT _ _) _ _); (first | refine we_count ?_)) | ((with_reducible show Ub.WR _ _ rInT _ _ _ _); (first | refine wr_inT ?_)) | ((with_reducible show Ub.WR _ _ rInTn _ _ _ _); (first | refine wr_inTn ?_)) | ((with_reducible show Ub.WE _ _ (tJoinF [] _) _ _); (first | refine we_jNil ?_)) | ((with_reducible show Ub.WE _ _ (tJoinF (_ :: _) _) _ _); (first | refine we_jCons ?_)) | ((with_reducible show Ub.WE _ _ (tCB _ _) _ _); (first | refine we_tcb ?_)) | ((with_reducible show Ub.WE _ _ (tTup _) _ _); (first | refine we_tup ?_)) | ((with_reducible show Ub.WE _ _ (tLst _) _ _); (first | refine we_l (wl_lst ?_))) | ((with_reducible show Ub.WE _ _ (tSl (rSlL _) _ _ _) _ _); (first | refine we_l (wl_slice ?_))) | ((with_reducible show Ub.WE _ _ (tSl rSlS _ _ _) _ _); (first | refine we_sliceS ?_)) | ((with_reducible show Ub.WE _ _ (tSl (rSlT _) _ _ _) _ _); (first | refine we_sliceT ?_)) | ((with_reducible show Ub.WE _ _ (tRevL _ _) _ _); (first | refine we_l (wl_rev ?_))) | ((with_reducible show Ub.WA _ _ tNil _ _); (first | refine wa_nil ?_)) | ((with_reducible show Ub.WA _ _ (tCons _ _) _ _); (first | refine wa_cons ?_)) | ((with_reducible show Ub.WO _ _ tNoPart _ _); (first | refine wo_none ?_)) | ((with_reducible show Ub.WO _ _ (tPart _) _ _); (first | refine wo_some ?_)) | ((with_reducible show Ub.WT _ _ (tB _) _ _); (first | refine wt_val ?_)) | ((with_reducible show Ub.WT _ _ (tTest _) _ _); (first | refine wt_test ?_)) | ((with_reducible show Ub.WT _ _ (tAnd _ _) _ _); (first | refine wt_and ?_)) | ((with_reducible show Ub.WT _ _ (tOr _ _) _ _); (first | refine wt_or ?_)) | ((with_reducible show Ub.WT _ _ (tNot _) _ _); (first | refine wt_not ?_)) | ((with_reducible show Ub.WT _ _ tYes _ _); (first | refine wt_yes ?_)) | ((with_reducible show Ub.WT _ _ (tTru _ _) _ _); (first | refine wt_tru ?_)) | ((with_reducible show Ub.WR _ _ rIsN _ _ _ _); (first | refine wr_isN rfl ?_)) | ((with_reducible show Ub.WR _ _ rNotN _ _ _ _); (first | refine wr_notN rfl ?_)) | ((with_reducible show Ub.WR _ _ (rI0 _) _ _ _ _); (first | refine wr_int ?_ | refine wr_cmp ?_)) | ((with_reducible show Ub.WR _ _ (rI CMul _) _ _ _ _); (first | refine wr_mulL (by omega) (by omega) ?_ | refine wr_mulR (by omega) (by omega) ?_)) | ((with_reducible show Ub.WR _ _ (rI CDiv _) _ _ _ _); (first | refine wr_fdiv (by omega) (by omega) ?_)) | ((with_reducible show Ub.WR _ _ (rI _ _) _ _ _ _); (first | refine wr_mod (by omega) ?_)) | ((with_reducible show Ub.WR _ _ rEq _ _ _ _); (first | refine wr_eqI ?_ | refine wr_eqS ?_ | refine wr_eqB ?_)) | ((with_reducible show Ub.WR _ _ rNe _ _ _ _); (first | refine wr_neI ?_ | refine wr_neS ?_ | refine wr_neB ?_)) | ((with_reducible show Ub.WR _ _ (rIxL _) _ _ _ _); (first | refine wr_ixL rfl rfl ?_)) | ((with_reducible show Ub.WR _ _ (rIxT _) _ _ _ _); (first | refine wr_h0 ?_ | refine wr_h1 ?_ | refine wr_f0 ?_ | refine wr_f1 ?_ | refine wr_l0 ?_ | refine wr_l1 ?_ | refine wr_ixT rfl rfl ?_)) | ((with_reducible show Ub.WR _ _ rAddS _ _ _ _); (first | refine wr_addS (by omega) ?_)) | ((with_reducible show Ub.WR _ _ rRepS _ _ _ _); (first | refine wr_repS (by omega) (by omega) (by omega) ?_)) | ((with_reducible show Ub.WC _ _ (Evl.rLenS _) _ _ _); (first | refine wc_lenL rfl ?_ | refine wc_lenT rfl ?_)) | ((with_reducible show Ub.WC _ _ rLenStr _ _ _); (first | refine wc_lenS (by omega) ?_)) | ((with_reducible show Ub.WC _ _ rAbs _ _ _); (first | refine wc_abs ?_)) | ((with_reducible show Ub.WC _ _ rMin2 _ _ _); (first | refine wc_min ?_)) | ((with_reducible show Ub.WC _ _ rMax2 _ _ _); (first | refine wc_max ?_)) | ((with_reducible show Ub.WC _ _ rInt1 _ _ _); (first | refine wc_intB ?_ | refine wc_intI ?_)) | ((with_reducible show Ub.WC _ _ rStrI _ _ _); (first | refine wc_strI (by assumption) ?_)) | ((with_reducible show Ub.WC _ _ rIntS _ _ _); (first | refine wc_intS (by assumption) (by assumption) ?_)) | ((with_reducible show Ub.WG _ _ (gName _) _ _ _); (first | refine wg_name ?_)) | ((with_reducible show Ub.WG _ _ (gTup _ _ _) _ _ _); (first | refine wg_tup rfl ?_)) | ((with_reducible show Ub.WGs _ _ (gCons _ _) _ _ _); (first | refine wgs_cons ?_)) | ((with_reducible show Ub.WGs _ _ gNil _ _ _); (first | refine wgs_nil ?_)) | ((with_reducible show Exists _); (first | refine ex_d ?_ | refine ex_i ?_ | refine ex_s ?_ | refine ex_b ?_ | refine ex_l ?_ | refine ex_t ?_ | refine ex_rd ?_ | refine ex_rf ?_ | refine ex_al rfl ?_ | refine ex_n1 ?_ | refine ex_l1 ?_ | refine ex_l2 ?_ | refine ex_cat rfl rfl (by first | omega | (simp; done) | (simp; omega)) ?_ | refine ex_rep rfl (by first | omega | (simp; done) | (simp; omega)) (by first | omega | (simp; done) | (simp; omega)) ?_)) | ((with_reducible show _ ∧ _); (first | refine an_d rfl ?_ | refine an_le (Nat.le_of_ble_eq_true rfl) ?_ | refine an_le (by first | omega | (simp; done) | (simp; omega)) ?_ | refine an_leI (by first | omega | (simp; done) | (simp; omega)) ?_ | refine an_ltI (by first | omega | (simp; done) | (simp; omega)) ?_ | refine an_eqI rfl ?_ | refine an_bf rfl ?_)) | ((with_reducible show Ub.WS _ _ (tDrop (tBM _ "list" rAppend (tVar _) (tCons _ tNil))) _ _); (first | refine ws_append rfl (by first | omega | (simp; done) | (simp; omega)) ?_)))))
section
variable {P : Program} {w : World} {K : PySem.W.Frag} {mg : Str → Option Value} {base : Heap} {T : Tb}
def ql : Str := (envOfC "law" (defScope s_law) 0 0 .none).qual ++ "<lambda>"
theorem k_law_ {c P3 f : Addr} {ec : Nat → Addr} {oc kV doc pm ct : Value} {od an : Option Addr} {osl : Array (Option Value)} (l : K.lookup f = some ⟨oc, od, .func (PySem.W.fnOf "law" "law" (defArgs s_law) (defBody s_law) (defScope s_law) .none kV doc pm an (.ref c) ct), osl⟩) (hc : PySem.W.codeIn K (.ref c) "law" = true) (bl : Bl mg)
    (TB : LamX.TabB base mg c P3) (hT : (P3, ql) ∈ T.l) (hu : ∀ r ∈ T.l, r.1 = P3 → r.2 = ql) (Dr : Df K mg "_law_refused" s_refused P_refused) (ek : Ek mg ec) (ei0 : Ei K ec 0) (ei1 : Ei K ec 1) (x0 : Ex6 K (ec 0) "number") (x1 : Ex6 K (ec 1) "why") (kis : KpX P w K mg base 1 "_law_is" P_is (spIsD T K ec)) (kal : KpX P w K mg base 1 "_law_alike" P_alike (spAlF T))
    (k_dice : Kp P w K mg base CX0 1 "_law_dice" P_dice (spDice T K)) (k_off : Kp P w K mg base CX0 1 "_law_off" P_off (spRd K T SOff)) (k_fields : Kp P w K mg base CX0 4 "_law_fields" P_fields (spRd K T SFields)) (k_hand : Kp P w K mg base CX0 2 "_law_hand" P_hand (spRd K T SHand))
    (k_laid : Kp P w K mg base CX0 5 "laid" P_laid (spR K T SLaid)) (k_filled : Kp P w K mg base CX0 5 "filled" P_filled (spR K T SFilled)) (k_bad : Kp P w K mg base CX0 2 "_law_bad" P_bad (spRd K T (SBad ec))) (k_odd : Kp P w K mg base CX0 2 "_law_odd" P_odd (spRd K T SOdd))
    (k_works : Kp P w K mg base CX0 1 "_law_works" P_works (spR K T (SWorks P w K mg base T ec))) (k_single : Kp P w K mg base CX0 1 "_law_single" P_single (spR K T (SSingle P w K mg base T ec))) (k_written : Kp P w K mg base (L2N.CX P w) 5 "written" P_written (spX K T (SRefF ec))) :
    FnOk P w K mg base CX0 10 f (PySem.W.fnOf "law" "law" (defArgs s_law) (defBody s_law) (defScope s_law) .none kV doc pm an (.ref c) ct) P_law (spLaw T K) := by
  refine okF l hc sc_law (fun vs H Q E h => ?_) (fun A outer s H vs Q E hr h => ?_)
  · obtain ⟨_, _, _, rfl, _⟩ := h
    rfl
  · obtain ⟨a, ns, B, rfl, o0, hA, hn, q⟩ := h
    have GVB : ∀ (s2 : Shared) (H2 : Hp) (sc2 : Scope) (ce : Env) (fp : List Addr), Gives5 ((cxOf CX0 P w K mg base N_law "law" (defScope s_law) f (.ref c) A outer s H E).nox.blk s2 H2 sc2 ce fp) N_refused "_law_refused" (defScope s_refused) (defBody s_refused) "_law_work" 7 (TTr T (SpecH ec)) := fun _ _ _ _ _ => k_refusedH_ ek ei0 ei1 x0 x1 kis kal
    refine ⟨_, (pss_cons (ps_set (i := 1) sc_law.nd rfl (by first | exact Or.inl rfl | exact Or.inr rfl) (pe_callA k_dice (hr.mono (by decide)) pass0 (pa_cons (pv 0) (pa_cons pe_int pa_nil))))
      (pss_cons (ps_set (i := 2) sc_law.nd rfl (by first | exact Or.inl rfl | exact Or.inr rfl) (pe_callA k_fields (hr.mono (by decide)) pass0 (pa_cons (pv 1) (pa_cons pe_int pa_nil))))
      (pss_cons (ps_par (i := 3) (j := 4) (by rfl) sc_law.nd rfl rfl (by decide) rfl rfl (pa_cons (pe_callA k_hand (hr.mono (by decide)) pass0 (pa_cons (pv 1) pa_nil)) (pa_cons (pe_callA k_hand (hr.mono (by decide)) pass0 (pa_cons (pv 1) pa_nil)) pa_nil)) (by rfl))
      (pss_cons (ps_set (i := 5) sc_law.nd rfl (by first | exact Or.inl rfl | exact Or.inr rfl) (pe_callTy (r := Evl.rListS K) cr_listSq (by rfl) bl.list (by decide +kernel) (pa_cons (pv 2) pa_nil)))
      (pss_cons (ps_if (PW.pt (pw_or (pt_not (pt_val (pe_callB (r := rIsi K) call_isi (by rfl) bl.isinst (by decide +kernel) (pa_cons (pe_callA k_laid (hr.mono (by decide)) pass0 (pa_cons (pv 5) (pa_cons (pv 3) pa_nil))) (pa_cons (pe_bltn (v := .ty "tuple") (by rfl) bl.tuple (by decide +kernel) rfl) pa_nil))))) (pw_or1 (pt_not (pt_val (pe_callB (r := rIsi K) call_isi (by rfl) bl.isinst (by decide +kernel) (pa_cons (pe_callA k_filled (hr.mono (by decide)) pass0 (pa_cons (pv 5) (pa_cons (pv 3) (pa_cons (pv 4) pa_nil)))) (pa_cons (pe_bltn (v := .ty "list") (by rfl) bl.list (by decide +kernel) rfl) pa_nil))))))))
        (pss_one (ps_ret pe_bl))
        pss_nil)
      (pss_cons (ps_asg (pe_callA k_bad (hr.mono (by decide)) pass0 (pa_cons (pv 1) (pa_cons (pv 2) pa_nil))) (pg_tup rfl (pgs_cons (pg_name (i := 6) sc_law.nd rfl (by first | exact Or.inl rfl | exact Or.inr rfl)) (pgs_cons (pg_name (i := 7) sc_law.nd rfl (by first | exact Or.inl rfl | exact Or.inr rfl)) pgs_nil))))
      (pss_cons (ps_asg (pe_callA k_odd (hr.mono (by decide)) pass0 (pa_cons (pv 1) (pa_cons (pv 3) pa_nil))) (pg_tup rfl (pgs_cons (pg_name (i := 8) sc_law.nd rfl (by first | exact Or.inl rfl | exact Or.inr rfl)) (pgs_cons (pg_name (i := 9) sc_law.nd rfl (by first | exact Or.inl rfl | exact Or.inr rfl)) pgs_nil))))
      (pss_cons (ps_asg (pe_callA k_odd (hr.mono (by decide)) pass0 (pa_cons (pv 1) (pa_cons (pv 4) pa_nil))) (pg_tup rfl (pgs_cons (pg_name (i := 10) sc_law.nd rfl (by first | exact Or.inl rfl | exact Or.inr rfl)) (pgs_cons (pg_name (i := 11) sc_law.nd rfl (by first | exact Or.inl rfl | exact Or.inr rfl)) pgs_nil))))
      (pss_cons (ps_set (i := 12) sc_law.nd rfl (by first | exact Or.inl rfl | exact Or.inr rfl) (pe_op op_cat (pe_op op_cat (pe_callA k_works (hr.mono (by decide)) pass0 (pa_cons (pv 6) (pa_cons (pv 8) (pa_cons (pv 10) pa_nil)))) (pe_callA k_single (hr.mono (by decide)) pass0 (pa_cons (pv 6) (pa_cons (pv 8) pa_nil)))) (pe_lst (pa_cons (pe_lamV0 (P := P3) (sc := defScope s_law) (N := N_law) (bs := []) TB rfl rfl rfl (by decide +kernel) rfl) pa_nil))))
      (pss_cons (ps_if (pt_cmpR (r := rNeD K) (op_neD hr.units) (pe_lcI (own := [("_law_work", 13)]) (g := gName 13) (by rfl) sc_law.nd (pi_list (pv 12)) (blkOk_by (own := [("_law_work", 13)]) (N := N_law) (sc := defScope s_law) (by decide +kernel)) (fun _ _ _ _ _ => (pg_name (i := 13) sc_law.nd rfl (by first | exact Or.inl rfl | exact Or.inr rfl))) (fun _ _ _ _ _ _ _ I0 hfp => (pts_not6 (pe_ref67 (TT := TTr T (SpecH ec)) (inv_wiped I0) hfp Dr sc_refused rfl rfl (.inl rfl) rfl (GVB _ _ _ _ _) hr (pa_cons (pv 13) (pa_cons pe_str (pa_cons (pv 7) pa_nil)))))) (fun _ _ _ _ _ _ _ I0 hfp => (pv 13))) (pe_lst pa_nil) (nomark _))
        (pss_one (ps_ret pe_bl))
        pss_nil)
      (pss_cons (ps_set (i := 12) sc_law.nd rfl (by first | exact Or.inl rfl | exact Or.inr rfl) (pe_op op_cat (pe_callA k_works (hr.mono (by decide)) pass0 (pa_cons (pv 5) (pa_cons (pv 8) (pa_cons (pv 10) pa_nil)))) (pe_callA k_single (hr.mono (by decide)) pass0 (pa_cons (pv 5) (pa_cons (pv 8) pa_nil)))))
      (pss_cons (ps_if (pt_cmpR (r := rNeD K) (op_neD hr.units) (pe_lcI (own := [("_law_work", 13)]) (g := gName 13) (by rfl) sc_law.nd (pi_list (pv 12)) (blkOk_by (own := [("_law_work", 13)]) (N := N_law) (sc := defScope s_law) (by decide +kernel)) (fun _ _ _ _ _ => (pg_name (i := 13) sc_law.nd rfl (by first | exact Or.inl rfl | exact Or.inr rfl))) (fun _ _ _ _ _ _ _ I0 hfp => (pts_not6 (pe_ref67 (TT := TTr T (SpecH ec)) (inv_wiped I0) hfp Dr sc_refused rfl rfl (.inl rfl) rfl (GVB _ _ _ _ _) hr (pa_cons (pv 13) (pa_cons pe_str (pa_cons (pv 9) pa_nil)))))) (fun _ _ _ _ _ _ _ I0 hfp => (pv 13))) (pe_lst pa_nil) (nomark _))
        (pss_one (ps_ret pe_bl))
        pss_nil)
      (pss_cons (ps_set (i := 12) sc_law.nd rfl (by first | exact Or.inl rfl | exact Or.inr rfl) (pe_callA k_works (hr.mono (by decide)) pass0 (pa_cons (pv 5) (pa_cons (pv 3) (pa_cons (pv 10) pa_nil)))))
      (pss_one (ps_ret (pe_and (pe_cmpR (r := rEqD K) (op_eqD hr.units) (pe_lcI (own := [("_law_work", 13)]) (g := gName 13) (by rfl) sc_law.nd (pi_list (pv 12)) (blkOk_by (own := [("_law_work", 13)]) (N := N_law) (sc := defScope s_law) (by decide +kernel)) (fun _ _ _ _ _ => (pg_name (i := 13) sc_law.nd rfl (by first | exact Or.inl rfl | exact Or.inr rfl))) (fun _ _ _ _ _ _ _ I0 hfp => (pts_not6 (pe_ref67 (TT := TTr T (SpecH ec)) (inv_wiped I0) hfp Dr sc_refused rfl rfl (.inl rfl) rfl (GVB _ _ _ _ _) hr (pa_cons (pv 13) (pa_cons pe_str (pa_cons (pv 11) pa_nil)))))) (fun _ _ _ _ _ _ _ I0 hfp => (pv 13))) (pe_lst pa_nil) (nomark _)) (pe_one (pe_cmpR (r := rEqD K) (op_eqD hr.units) (pv 5) (pv 2) (nomark _))))))))))))))))))), ?_⟩
    refine law_start (n := 12) o0 hA hn q rfl ?_
    acc_peel
    refine ws_set (we_l (wl_callD rfl ?_))
    acc_peel
    refine ⟨6, rfl, by decide, by decide, fun fs hF f6 => ⟨_, rfl, ?_⟩⟩
    acc_peel
    refine ws_par ?_
    acc_peel
    refine we_callD rfl ?_
    acc_peel
    refine ⟨rfl, fun h1 hH1 => ⟨_, rfl, ?_⟩⟩
    acc_peel
    refine we_callD rfl ?_
    acc_peel
    refine ⟨rfl, fun h2 hH2 => ⟨_, rfl, ?_⟩⟩
    refine wa_nil ⟨_, _, rfl, ?_⟩
    acc_peel
    refine ws_set (we_l (wl_list ?_))
    acc_peel
    refine we_call ?_
    acc_peel
    refine ⟨fs, h1, rfl, hF, hH1, _, rfl, ?_⟩
    refine ⟨_, true, rfl, rfl, (show kitB "tuple" "tuple" = some true by decide +kernel), _, rfl, fun _ => ?_, fun z => (nomatch z)⟩
    acc_peel
    refine we_l (wl_call ?_)
    acc_peel
    refine ⟨fs, h1, h2, rfl, hF, hH1, hH2, fun g lg => ⟨_, rfl, ?_⟩⟩
    refine ⟨_, true, rfl, rfl, (show kitB "list" "list" = some true by decide +kernel), _, rfl, fun z => (nomatch z), fun _ => ?_⟩
    acc_peel
    refine ws_asg (we_callD rfl ?_)
    acc_peel
    refine ⟨fs, rfl, hF, fun bad n sm rf => ⟨_, rfl, ?_⟩⟩
    acc_peel
    refine ws_asg (we_callD rfl ?_)
    acc_peel
    refine ⟨h1, rfl, hH1, fun odd why hwhy => ⟨_, rfl, ?_⟩⟩
    acc_peel
    refine ws_asg (we_callD rfl ?_)
    acc_peel
    refine ⟨h2, rfl, hH2, fun worse worst hworst => ⟨_, rfl, ?_⟩⟩
    acc_peel
    refine we_l (wl_call ?_)
    acc_peel
    refine ⟨bad, odd, worse, _, rfl, sm, .inl (.inl rf), fun w1 w1l w1r => ⟨w1, rfl, ?_⟩⟩
    acc_peel
    refine we_l (wl_call ?_)
    acc_peel
    refine ⟨bad, odd, _, rfl, sm, .inl rf, fun w2 w2l w2r => ⟨w2, rfl, ?_⟩⟩
    acc_peel
    refine we_lam hT hu fun lp => ?_
    acc_peel
    have skipS : ∀ {ρ : List Sl} {Pg : Ag → Prop}, Pg (.dat (.bl false)) → WR K T (rNeD K) ρ (.dat (.lst [])) (.dat (.lst [])) Pg := fun p => wr_neIs (ns := []) (ms := []) rfl rfl p
    have skipE : ∀ {ρ : List Sl} {Pg : Ag → Prop}, Pg (.dat (.bl true)) → WR K T (rEqD K) ρ (.dat (.lst [])) (.dat (.lst [])) Pg := fun p => wr_eqIs (ns := []) (ms := []) rfl rfl p
    refine we_l (wl_lcL (js := [13]) (fun i acc => acc = []) (by simp) rfl ?_)
    acc_peel
    refine ⟨rfl, fun i d acc hd hl hI => ⟨_, tg_name, ?_⟩, fun acc hI => ?_⟩
    · subst hI
      have hm := List.mem_of_getElem? hd
      clear hd
      rcases List.mem_append.mp hm with hm | hm
      · have hc : RefClo P w K mg base T (numbX ec n) d := (List.mem_append.mp hm).elim (w1r d) (w2r d)
        obtain ⟨L, dd, bs, SX, tas, rfl, ck, pl, hwa⟩ := hc
        exact wt_not (wt_val (we_alt2 (we_ref7v (x := numbX ec n) rfl ck pl (still_v (d := .int n) rfl rfl) (.inl ⟨rfl, n, rfl, rfl⟩) hwa ⟨_, rfl, fun z => (nomatch z), fun _ => rfl⟩)))
      · obtain rfl := List.mem_singleton.mp hm
        refine wt_not (wt_val (we_alt1 ?_))
        refine we_ref6v (S := SpecH ec) (SX := SRefF ec) (tas := tCons (tVar 6) tNil) (x := numbX ec n) rfl rfl lp rfl rfl rfl rfl (.inl ⟨rfl, rfl, fun _ _ _ => rfl⟩) (fun E A outer s H f c' hr2 => pe_callA k_written (hr2.mono (by decide)) lamN_pass (pa_cons (pv 6) pa_nil)) (still_v (d := .int n) rfl rfl) (.inl ⟨rfl, n, rfl, rfl⟩) ?_ ?_
        · acc_peel
          exact ⟨bad, _, rfl, sm, rf, rfl⟩
        · exact ⟨_, rfl, fun z => (nomatch z), fun _ => rfl⟩
    subst hI
    acc_peel
    refine skipS ?_
    acc_peel
    refine ⟨fun z => (nomatch z), fun _ => ?_⟩
    acc_peel
    refine we_l (wl_call ?_)
    acc_peel
    refine ⟨fs, odd, worse, _, rfl, hF.small, .inl (.inr ⟨hF, why, hwhy, rfl⟩), fun u1 u1l u1r => ⟨u1, rfl, ?_⟩⟩
    acc_peel
    refine we_l (wl_call ?_)
    acc_peel
    refine ⟨fs, odd, _, rfl, hF.small, .inr ⟨hF, why, hwhy, rfl⟩, fun u2 u2l u2r => ⟨u2, rfl, ?_⟩⟩
    acc_peel
    refine we_l (wl_lcL (js := [13]) (fun i acc => acc = []) (by simp) rfl ?_)
    acc_peel
    refine ⟨rfl, fun i d acc hd hl hI => ⟨_, tg_name, ?_⟩, fun acc hI => ?_⟩
    · subst hI
      have hm := List.mem_of_getElem? hd
      clear hd
      have hc : RefClo P w K mg base T (whyX ec why) d := (List.mem_append.mp hm).elim (u1r d) (u2r d)
      obtain ⟨L, dd, bs, SX, tas, rfl, ck, pl, hwa⟩ := hc
      exact wt_not (wt_val (we_alt2 (we_ref7v (x := whyX ec why) rfl ck pl (still_v (d := .str why) rfl rfl) (.inr ⟨rfl, why, rfl, rfl⟩) hwa ⟨_, rfl, fun z => (nomatch z), fun _ => rfl⟩)))
    subst hI
    acc_peel
    refine skipS ?_
    acc_peel
    refine ⟨fun z => (nomatch z), fun _ => ?_⟩
    acc_peel
    refine ws_set (we_l (wl_call ?_))
    acc_peel
    refine ⟨fs, h1, worse, _, rfl, hF.small, .inr ⟨hF, hH1, worst, hworst, rfl⟩, fun v1 v1l v1r => ⟨v1, rfl, ?_⟩⟩
    acc_peel
    refine ws_ret ?_
    acc_peel
    refine we_l (wl_lcL (js := [13]) (fun i acc => acc = []) (by simp) rfl ?_)
    acc_peel
    refine ⟨rfl, fun i d acc hd hl hI => ⟨_, tg_name, ?_⟩, fun acc hI => ?_⟩
    · subst hI
      have hc : RefClo P w K mg base T (whyX ec worst) d := v1r d (List.mem_of_getElem? hd)
      clear hd
      obtain ⟨L, dd, bs, SX, tas, rfl, ck, pl, hwa⟩ := hc
      exact wt_not (wt_val (we_alt2 (we_ref7v (x := whyX ec worst) rfl ck pl (still_v (d := .str worst) rfl rfl) (.inr ⟨rfl, worst, rfl, rfl⟩) hwa ⟨_, rfl, fun z => (nomatch z), fun _ => rfl⟩)))
    subst hI
    acc_peel
    refine skipE ?_
    acc_peel
    refine ⟨fun _ => ?_, fun z => (nomatch z)⟩
    acc_peel
    refine wr_eqD (p := .list (fs.map fldP)) (q := .list (fs.map fldP)) rfl rfl (toP_flds fs) (toP_flds fs) (sh_flds hF) (sh_flds hF) ?_
    rw [SeqAt.eqv_refl _ (SeqAt.canLay_of_shaped (sh_flds hF))]
    rfl
end
end Rw

namespace Ub
open PySem PySem.Spec PyProof.Rows L2
/-! ### the facts of the top, from a Hook's answer -/
/-- a def of the top, as a datum -/
def dd (x : Str) (st : Stmt) : He.DefD := ⟨(x, none), x, x, defArgs st, defBody st, defScope st, [], []⟩
/-- a class of the handled exception, as Bools -/
def xcB (K : PySem.W.Frag) (D : Addr) : Bool :=
  He.eqO (PySem.W.findIn K (.ref D) "__getattribute__") (some (some (.builtin "BaseException.__getattribute__"))) && (He.eqO (PySem.W.findIn K (.ref D) "__getattr__") (some none) && (decide (PySem.W.subIn K (.ref D) (.type "BaseException") = some true) && (PySem.W.hasDictIn K D &&
    (He.eqO (PySem.W.findIn K (.ref D) "__class__") (some (some (.builtin "object.__class__"))) && (He.eqO (PySem.W.specialIn K (.builtin "object.__class__") "__get__") (some (some (.builtin "getset_descriptor.__get__"))) && (decide (PySem.W.takesIn K (.builtin "object.__class__") = some true) && decide (PySem.W.mroIn K D (.type "object") = some true)))))))
theorem xcB_ok {K : PySem.W.Frag} {D : Addr} (h : xcB K D = true) : ExcC K D := by
  obtain ⟨h1, h⟩ := He.ba h
  obtain ⟨h2, h⟩ := He.ba h
  obtain ⟨h3, h⟩ := He.ba h
  obtain ⟨h4, h⟩ := He.ba h
  obtain ⟨h5, h⟩ := He.ba h
  obtain ⟨h6, h⟩ := He.ba h
  obtain ⟨h7, h8⟩ := He.ba h
  exact ⟨He.eqO_ok h1, He.eqO_ok h2, of_decide_eq_true h3, h4, He.eqO_ok h5, He.eqO_ok h6, of_decide_eq_true h7, of_decide_eq_true h8⟩
/-- which class a class is -/
def kitB2 (K : PySem.W.Frag) (xs : List Str) (i : Nat) : Bool := (List.range xs.length).all fun j => decide (PySem.W.kitOne K (.ref (He.ga K (xs.getD i ""))) (.ref (He.ga K (xs.getD j ""))) = some (decide (i = j)))
theorem kitB2_ok {K : PySem.W.Frag} {xs : List Str} {i : Nat} (h : kitB2 K xs i = true) : ∀ j, j < xs.length → PySem.W.kitOne K (.ref (He.ga K (xs.getD i ""))) (.ref (He.ga K (xs.getD j ""))) = some (decide (i = j)) := fun j hj =>
  of_decide_eq_true (List.all_eq_true.mp h j (List.mem_range.mpr hj))
section
variable {fa : List He.Fa} {fn : List He.DefD} {K : PySem.W.Frag} {mg : Str → Option Value} {h : Heap}
theorem df_of (X : K.In h) (G : h.Ns mainGlobals mg) (c : He.SaysD fa fn K) {x : Str} {st : Stmt} {ps : List Str} (hd : dd x st ∈ fn) (hg : He.Fa.glo x ∈ fa)
    (hb : ∀ (kV doc pm : Value) (an : Option Addr) (cdv ct : Value) (us : List Value), us.length = ps.length → bindArgs (PySem.W.fnOf x x (defArgs st) (defBody st) (defScope st) .none kV doc pm an cdv ct) ⟨us, []⟩ = pure (ps.zip us)) : DfC K mg x st ps (He.codeOf K (x, none)) := by
  obtain ⟨fd, F⟩ := c.defs hd
  obtain ⟨oc, od, dV, kV, doc, pm, an, cdv, ct, osl, rfl, lk, hcd, hD, hK⟩ := F.ex
  rcases hD with ⟨_, rfl⟩ | ⟨e, _⟩
  · obtain ⟨c0, rfl⟩ := He.codeIn_ref hcd
    have e := He.codeOf_eq (p := (x, none)) lk rfl
    have lk2 : K.lookup (He.ga K x) = some ⟨oc, od, .func (PySem.W.fnOf x x (defArgs st) (defBody st) (defScope st) .none kV doc pm an (.ref c0) ct), osl⟩ := lk
    rw [e]
    exact ⟨He.ga K x, oc, kV, doc, pm, ct, od, an, osl, lk2, hcd, He.glo_ok X G (c.facts hg), F.kp, .all (hb kV doc pm an _ ct)⟩
  · exact absurd rfl e
theorem dfq_of (X : K.In h) (G : h.Ns mainGlobals mg) (c : He.SaysD fa fn K) {x p : Str} {st : Stmt} {e : Expr} {rp : Pos} (hd : dd x st ∈ fn) (hg : He.Fa.glo x ∈ fa) (hbody : defBody st = [.Return (some e) rp])
    (hb : ∀ (kV doc pm : Value) (an : Option Addr) (cdv ct : Value) (us : List Value), us.length = [p].length → bindArgs (PySem.W.fnOf x x (defArgs st) (defBody st) (defScope st) .none kV doc pm an cdv ct) ⟨us, []⟩ = pure ([p].zip us))
    (h1 : (defScope st).isCoroutine = false) (h2 : (defScope st).isGenerator = false) (h3 : (defScope st).kind = .function) (h4 : ∀ y ∈ (defScope st).names, y.2 ≠ .cell) (h5 : (defScope st).names.lookup p = some .local) : DfQ K mg x p st e := by
  obtain ⟨fd, F⟩ := c.defs hd
  obtain ⟨oc, od, dV, kV, doc, pm, an, cdv, ct, osl, rfl, lk, hcd, hD, hK⟩ := F.ex
  rcases hD with ⟨_, rfl⟩ | ⟨e, _⟩
  · exact ⟨⟨He.ga K x, oc, kV, doc, pm, cdv, ct, od, an, osl, rp, lk, hcd, He.glo_ok X G (c.facts hg), F.kp, hbody, fun v => hb kV doc pm an cdv ct [v] rfl⟩, h1, h2, h3, h4, h5⟩
  · exact absurd rfl e
end
/-- a list that stands, as a stable part of its own -/
theorem ok_start {T : Tb} {K : PySem.W.Frag} {H : Hp} {a : Addr} {xs : List V} (hS : SqL K H a xs) (hg : ∀ p ∈ T.g, H p = some (.tbl #[])) (hl : ∀ r ∈ T.l, H r.1 = some (.tbl #[])) : ∃ B, Ok T B H ∧ SqL K B a xs := by
  have tg : ∀ p ∈ T.g, GxR.TabG H p := fun p hp => ⟨#[], hg p hp, trivial⟩
  have tl : ∀ p ∈ T.l, LamX.TabS H p.1 p.2 := fun p hp => ⟨#[], hl p hp, trivial, fun pos cv hc => by cases hc⟩
  rcases hS with r | r
  · refine ⟨fun b => if b = a then H a else none, ⟨fun b o e => ?_, fun b ps e => ?_, tg, tl⟩, .inl ?_⟩
    · split at e
      · rename_i hb
        rw [hb]
        exact e
      · cases e
    · split at e
      · rcases r with r | ⟨u, r⟩
        · rw [r] at e
          cases e
        · rw [r] at e
          cases e
      · cases e
    · have hB : (fun b => if b = a then H a else none : Hp) a = H a := if_pos rfl
      rcases r with r | ⟨u, r⟩
      · exact .inl (hB.trans r)
      · exact .inr ⟨u, hB.trans r⟩
  · exact ⟨fun _ => none, ⟨(fun b o e => by cases e), (fun b ps e => by cases e), tg, tl⟩, .inr r⟩
theorem tabG_of {base : Heap} {mg : Str → Option Value} {c P : Addr} (t : LamX.TabB base mg c P) : GxR.TabB base mg c P := ⟨t.code, t.bm, t.gP⟩
end Ub

namespace Ub
open PySem PySem.Spec PyProof.Rows L2
/-! ### the facts of own errors' __init__, from the top -/
def oexB (K : PySem.W.Frag) (C : Addr) : Bool :=
  (match K.lookup C with
    | some ⟨.type t, _, .cls cd, sl⟩ => decide (t = "type") && (match cd.mro, sl.toList with
      | .ref C' :: bm, [_, _, _, _, some (.builtin n), _] => decide (C' = C) && (decide (n = "ValueError.__new__") && ((!cd.hasDel) && (cd.hasDict && PySem.HandSPX.refsVE bm)))
      | _, _ => false)
    | _ => false) && (He.eqO (PySem.W.findIn K (.ref C) "__setattr__") (some (some (.builtin "object.__setattr__"))) && (decide (PySem.W.subIn K (.ref C) (.type "BaseException") = some true) && (decide (PySem.W.typeIn K (.ref C) = some (.type "type")) && PySem.W.keepIn K (.ref C))))
theorem oexB_ok {K : PySem.W.Frag} {C : Addr} (h : oexB K C = true) : OexC K C := by
  obtain ⟨h1, h2⟩ := He.ba h
  obtain ⟨h3, h4⟩ := He.ba h2
  obtain ⟨h5, h6⟩ := He.ba h4
  obtain ⟨h7, h8⟩ := He.ba h6
  refine ⟨?_, He.eqO_ok h3, of_decide_eq_true h5, of_decide_eq_true h7, h8⟩
  split at h1
  · rename_i t dd cd sl ho
    obtain ⟨g1, g2⟩ := He.ba h1
    split at g2
    · rename_i C' bm k0 k1 k2 k3 n k5 hm hs
      obtain ⟨g3, g4⟩ := He.ba g2
      obtain ⟨g5, g6⟩ := He.ba g4
      obtain ⟨g7, g8⟩ := He.ba g6
      obtain ⟨g9, g10⟩ := He.ba g8
      obtain rfl := of_decide_eq_true g1
      obtain rfl := of_decide_eq_true g3
      obtain rfl := of_decide_eq_true g5
      obtain ⟨nm, bs, mro, ns, qn, hd, sn, sub, ab, col, del⟩ := cd
      dsimp only at hm g7 g9
      have e1 : del = false := by simpa using g7
      subst hm e1 g9
      have hsl : sl = #[k0, k1, k2, k3, some (.builtin "ValueError.__new__"), k5] := by
        obtain ⟨l⟩ := sl
        simp only at hs
        rw [hs]
      subst hsl
      exact ⟨_, _, _, _, _, _, _, _, _, _, _, _, _, _, _, ho, g10⟩
    · cases g2
  · cases h1
/-- a class's __init__: the class's name, the def's text, the fields that it lays -/
structure IniD where
  cls : Str
  st : Stmt
  fns : List Str
abbrev FnC : Type := Option (Str × Str × Arguments × FuncBody × Scope × Addr × List Str × Addr)
def fiA (K : PySem.W.Frag) (x : Str) : Addr := He.fAd K (x, some "__init__")
def fnC (K : PySem.W.Frag) (x : Str) : FnC := match K.lookup (fiA K x) with
  | some ⟨_, _, .func fd, _⟩ => some (fd.name, fd.qualname, fd.params, fd.body, fd.scope, fd.globals, fd.closure.map (·.1), fd.builtins)
  | _ => none
def IniD.val (d : IniD) : FnC := some ("__init__", d.cls ++ ".__init__", defArgs d.st, .stmts (defBody d.st), defScope d.st, mainGlobals, ["__class__"], builtinsNs)
def cloA (K : PySem.W.Frag) (x : Str) : Addr := match K.lookup (fiA K x) with
  | some ⟨_, _, .func fd, _⟩ => (match fd.closure with
    | (_, c) :: _ => c
    | _ => 0)
  | _ => 0
def cdaA (K : PySem.W.Frag) (x : Str) : Addr := He.codeOf K (x, some "__init__")
def cellB (K : PySem.W.Frag) (cc C : Addr) : Bool := match K.lookup cc with
  | some ⟨_, _, .cell (some (.ref D)), _⟩ => decide (D = C)
  | _ => false
def fileB (K : PySem.W.Frag) (c : Addr) (F : Str) : Bool := match K.lookup c with
  | some ⟨_, _, .fields vs, _⟩ => (match (vs[2]? : Option Value) with
    | some (.str f _) => decide (F = f)
    | _ => false)
  | _ => false
def plainB (K : PySem.W.Frag) (x : Str) : Bool := match K.lookup (fiA K x) with
  | some ⟨_, _, .func fd, _⟩ => PySem.W.codeIn K fd.code (x ++ ".__init__") && (match fd.defaults with
    | .none => true
    | _ => false)
  | _ => false
def IniD.ok (K : PySem.W.Frag) (F : Str) (d : IniD) : Bool :=
  oexB K (He.ga K d.cls) && (cellB K (cloA K d.cls) (He.ga K d.cls) && (fileB K (cdaA K d.cls) F && (decide (PySem.W.mroIn K (He.ga K d.cls) (.ref (He.ga K d.cls)) = some true) && (He.eqO (PySem.W.nsIn K cStatics "thirdparty.any") (some none) &&
    (He.eqO (PySem.W.ks_superIn K (He.ga K d.cls) (He.ga K d.cls) "__init__") (some (some (.builtin "ValueError.__init__"))) && (decide (PySem.W.subIn K (.ref (He.ga K d.cls)) (.type "ValueError") = some true) &&
      (He.eqO (PySem.W.findIn K (.ref (He.ga K d.cls)) "__init__") (some (some (.ref (fiA K d.cls)))) && (decide (PySem.W.typeIn K (.ref (fiA K d.cls)) = some (.type "function")) && (plainB K d.cls && (xfB K (He.ga K d.cls) && d.fns.all fun f => He.eqO (PySem.W.findIn K (.ref (He.ga K d.cls)) f) (some none)))))))))))
/-- what is then known -/
structure IniF (P : Program) (K : PySem.W.Frag) (mg : Str → Option Value) (d : IniD) (C : Addr) : Prop where
  sup : ∃ cc cda, SupC P K mg C cc cda ∧ ∃ (f : Addr) (oc kV doc pm ct : Value) (od an : Option Addr) (osl : Array (Option Value)), K.lookup f = some ⟨oc, od, .func (PySem.W.ksFn "__init__" (d.cls ++ ".__init__") (defArgs d.st) (defBody d.st) (defScope d.st) .none kV doc pm an (.ref cda) ct cc), osl⟩ ∧
    PySem.W.codeIn K (.ref cda) (d.cls ++ ".__init__") = true ∧ PySem.W.findIn K (.ref C) "__init__" = some (some (.ref f)) ∧ PySem.W.typeIn K (.ref f) = some (.type "function") ∧ ∃ cl cld csl, K.lookup cc = some ⟨cl, cld, .cell (some (.ref C)), csl⟩
  xf : XfC K C
  no : ∀ f ∈ d.fns, PySem.W.findIn K (.ref C) f = some none
theorem iniF_of {P : Program} {K : PySem.W.Frag} {mg : Str → Option Value} {d : IniD} (h : d.ok K P.main.file = true) (e : fnC K d.cls = d.val) (blt : mg "super" = none) (top : (P.main.scope.names.lookup ("super" : Str)).isSome = false) : IniF P K mg d (He.ga K d.cls) := by
  obtain ⟨h1, h⟩ := He.ba h
  obtain ⟨h2, h⟩ := He.ba h
  obtain ⟨h3, h⟩ := He.ba h
  obtain ⟨h4, h⟩ := He.ba h
  obtain ⟨h5, h⟩ := He.ba h
  obtain ⟨h6, h⟩ := He.ba h
  obtain ⟨h7, h⟩ := He.ba h
  obtain ⟨h8, h⟩ := He.ba h
  obtain ⟨h9, h⟩ := He.ba h
  obtain ⟨h10, h⟩ := He.ba h
  obtain ⟨h11, h12⟩ := He.ba h
  have cell : ∃ cl cld csl, K.lookup (cloA K d.cls) = some ⟨cl, cld, .cell (some (.ref (He.ga K d.cls))), csl⟩ := by
    unfold cellB at h2
    split at h2
    · rename_i cl cld D csl q
      rw [of_decide_eq_true h2] at q
      exact ⟨_, _, _, q⟩
    · cases h2
  have code : ∃ ccl cdd vs ccs file tf, K.lookup (cdaA K d.cls) = some ⟨ccl, cdd, .fields vs, ccs⟩ ∧ vs[2]? = some (.str file tf) ∧ ((P.main.file : Str) == file) = true := by
    unfold fileB at h3
    split at h3
    · rename_i ccl cdd vs ccs q
      split at h3
      · rename_i f tf q2
        exact ⟨_, _, vs, _, f, tf, q, q2, by rw [of_decide_eq_true h3]; exact beq_self_eq_true _⟩
      · cases h3
    · cases h3
  refine ⟨⟨cloA K d.cls, cdaA K d.cls, ⟨oexB_ok h1, cell, code, of_decide_eq_true h4, blt, He.eqO_ok h5, He.eqO_ok h6, of_decide_eq_true h7, top⟩, fiA K d.cls, ?_⟩, xfB_ok h11, fun f hf => He.eqO_ok (List.all_eq_true.mp h12 f hf)⟩
  unfold fnC at e
  unfold plainB at h10
  have hcl : cloA K d.cls = cloA K d.cls := rfl
  have hcd : cdaA K d.cls = cdaA K d.cls := rfl
  unfold cloA at hcl
  unfold cdaA He.codeOf at hcd
  cases q : K.lookup (fiA K d.cls) with
  | none =>
    rw [q] at h10
    cases h10
  | some o =>
    obtain ⟨oc, od, dt, osl⟩ := o
    rw [q] at h10 e
    cases dt with
    | func fd =>
      obtain ⟨n1, n2, n3, n4, n5, n6, n7, n8, n9, n10, n11, n12, n13, n14, n15⟩ := fd
      have e2 : (some (n1, n2, n3, n4, n5, n6, n7.map (·.1), n15) : FnC) = some (("__init__" : Str), d.cls ++ (".__init__" : Str), defArgs d.st, FuncBody.stmts (defBody d.st), defScope d.st, mainGlobals, [("__class__" : Str)], builtinsNs) := e
      simp only [Option.some.injEq, Prod.mk.injEq] at e2
      obtain ⟨g1, g2, g3, g4, g5, g6, g7, g8⟩ := e2
      obtain ⟨k1, k2⟩ := He.ba h10
      have e8 : n8 = .none := by
        cases n8 with
        | none => rfl
        | _ => cases k2
      obtain ⟨c0, ec⟩ := He.codeIn_ref k1
      obtain ⟨cc, e7⟩ : ∃ cc, n7 = [(("__class__" : Str), cc)] := by
        match n7, g7 with
        | [(x, c)], g7 =>
          have : x = "__class__" := by simpa using g7
          exact ⟨c, by rw [this]⟩
      subst g1 g2 g3 g4 g5 g6 g8 e8 ec e7
      have hc1 : cloA K d.cls = cc := by
        unfold cloA
        rw [q]
      have hc2 : cdaA K d.cls = c0 := by
        have q' : K.lookup (He.fAd K (d.cls, some "__init__")) = some ⟨oc, od, .func _, osl⟩ := q
        exact He.codeOf_eq (p := (d.cls, some "__init__")) q' rfl
      rw [hc1] at cell ⊢
      rw [hc2]
      exact ⟨oc, n9, n10, n11, n14, od, n12, osl, rfl, k1, He.eqO_ok h8, of_decide_eq_true h9, cell⟩
    | _ => cases h10
/-! ### the hook: the top's facts, the inits too -/
def frS (g : Addr → Option Obj) (n : Nat) : PySem.W.Frag := He.frT g (cStatics :: He.asD g n)
abbrev AlI : Type := He.AlT × (Bool × List FnC)
section
variable (n : Nat) (fa : List He.Fa) (fn : List He.DefD) (tf : List He.Defn) (ex : PySem.W.Frag → Bool) (F : Str) (is : List IniD)
def obsI (g : Addr → Option Obj) : AlI := (He.obsT fa fn [] (frS g n), (ex (frS g n) && (He.tabsB g tf (frS g n) && is.all fun d => d.ok (frS g n) F)), is.map fun d => fnC (frS g n) d.cls)
def valI (w : World) : AlI := (He.valT fn [] w, true, is.map IniD.val)
structure SaysI (w : World) (h : Heap) (K : PySem.W.Frag) : Prop where
  x : He.SaysX fa fn [] tf ex w h K
  ini : ∀ d ∈ is, d.ok K F = true ∧ fnC K d.cls = d.val
theorem saysI_of {w : World} {h : Heap} (e : obsI n fa fn tf ex F is h.get? = valI fn is w) : SaysI fa fn tf ex F is w h (frS h.get? n) := by
  have e1 := congrArg (fun z : AlI => z.1) e
  have e2 := congrArg (fun z : AlI => z.2.1) e
  have e3 : (is.map fun d => fnC (frS h.get? n) d.cls) = is.map IniD.val := congrArg (fun z : AlI => z.2.2) e
  obtain ⟨k1, k2⟩ := He.ba (show (ex (frS h.get? n) && (He.tabsB h.get? tf (frS h.get? n) && is.all fun d => d.ok (frS h.get? n) F)) = true from e2)
  obtain ⟨k3, k4⟩ := He.ba k2
  have tab : ∀ p ∈ tf, PySem.W.codeHdIn (frS h.get? n) (He.cT (frS h.get? n) p).1 (He.cT (frS h.get? n) p).2 = true ∧ ∃ o, h.get? (He.cT (frS h.get? n) p).2 = some o ∧ He.emptyTab o = true := by
    intro p hp
    have z := List.all_eq_true.mp k3 p hp
    obtain ⟨z1, z2⟩ := He.ba z
    cases q : h.get? (He.cT (frS h.get? n) p).2 with
    | some o =>
      rw [q] at z2
      exact ⟨z1, o, rfl, z2⟩
    | none =>
      rw [q] at z2
      cases z2
  refine ⟨⟨e1, k1, fun p hp => (tab p hp).1, fun p hp => ?_, fun p hp => ?_⟩, fun d hd => ⟨List.all_eq_true.mp k4 d hd, ?_⟩⟩
  · obtain ⟨o, q, z⟩ := (tab p hp).2
    exact He.frT_none q z
  · obtain ⟨o, q, z⟩ := (tab p hp).2
    exact q.trans (congrArg some (He.emptyTab_eq z))
  · obtain ⟨i, hi⟩ := List.getElem?_of_mem hd
    have z := congrArg (fun l => l[i]?) e3
    simp only [List.getElem?_map, hi, Option.map_some] at z
    exact Option.some.inj z
def hookI : PySem.W.Hook where
  α := AlI
  obs := fun s => obsI n fa fn tf ex F is s.heap.get?
  val := fun w => valI fn is w
  says := fun w h => ∃ K : PySem.W.Frag, K.In h ∧ SaysI fa fn tf ex F is w h K
  of := fun _ _ e => ⟨_, He.frT_in, saysI_of n fa fn tf ex F is e⟩
  keeps := fun _ _ _ ⟨K, hK, c⟩ k => ⟨K, PySem.W.Frag.In.keeps hK k, ⟨⟨c.x.t, c.x.more, c.x.hd, c.x.out, fun p hp => k _ _ (c.x.empty p hp)⟩, c.ini⟩⟩
end
/-! ### what such an __init__ does -/
def Says1 (t : TE) (σ : L2.St) (H : Hp) : Prop := ∃ y : Str, y.length ≤ 2000 ∧ ∀ Q : VK, Q (.str y) H → t σ H Q
theorem says_c {σ : L2.St} {H : Hp} {y : Str} (h : y.length ≤ 2000) : Says1 (tC (.str y)) σ H := ⟨y, h, fun _ q => q⟩
theorem says_f {σ : L2.St} {H : Hp} {i : Nat} {v : V} (hv : σ[i]? = some (some v)) (hf : fmtOk v) : Says1 (tFmt (tVar i)) σ H := by
  cases v with
  | int k => exact ⟨toString k, Nat.le_trans (PyProof.Rows.int_text_len_1921 hf) (by decide), fun Q q => ⟨_, hv, .inr ⟨k, rfl, hf, q⟩⟩⟩
  | str y => exact ⟨y, Nat.le_trans (show y.length ≤ 1000 from hf) (by decide), fun Q q => ⟨_, hv, .inl ⟨y, rfl, Nat.le_trans (show y.length ≤ 1000 from hf) (by decide), q⟩⟩⟩
  | _ => exact hf.elim
theorem joins_all {σ : L2.St} {H : Hp} : ∀ (ts : List TE) (acc : Str) (Q : Str → Hp → Prop), (∀ t ∈ ts, Says1 t σ H) → acc.length + 2000 * ts.length ≤ 100000 → (∀ out, Q out H) → tJs ts acc σ H Q
  | [], acc, Q, _, _, q => q acc
  | t :: ts, acc, Q, h, hl, q => by
    obtain ⟨y, hy, ht⟩ := h t List.mem_cons_self
    have e : (acc ++ y).length = acc.length + y.length := by
      show (acc.cps ++ y.cps).size = _
      rw [Array.size_append] <;> rfl
    have hl2 : acc.length + 2000 * (ts.length + 1) ≤ 100000 := hl
    exact ht _ ⟨y, rfl, by rw [e]; exact Nat.le_trans (show acc.length + y.length ≤ 100000 by omega) (by decide), joins_all ts (acc ++ y) Q (fun t z => h t (List.mem_cons_of_mem _ z)) (by rw [e]; omega) q⟩
theorem says_text {σ : L2.St} {H : Hp} {ts : List TE} (h : ∀ t ∈ ts, Says1 t σ H) (hl : ts.length ≤ 10) : tCons (tJoinF ts Str.empty) tNil σ H fun xs H1 => (∃ y, xs = [.str y]) ∧ H1 = H :=
  joins_all ts Str.empty _ h (by show 0 + 2000 * ts.length ≤ 100000; omega) fun out => ⟨⟨out, rfl⟩, rfl⟩
end Ub

namespace Ub
open PySem PySem.Spec PyProof.Rows L2
/-! ### the top's run in parts, each a declaration of its own -/
open PySem.W PySem.Calls HandSHeadRun in
def RunP (r : OpenRow) (M : Nat) (w : World) {α : Type} (f : SharedT → α) (v : α) : Prop := ∀ os : OsState, (HandSHeadRun.endF (stepQ (denQ tabQ) r.prog w) M r.prog w os).map f = some v
section
variable {r : PySem.W.OpenRow} {M : Nat} {w : World} {α β γ : Type}
theorem RunP.pair {f : PySem.W.SharedT → α} {g : PySem.W.SharedT → β} {v : α} {u : β} (h1 : RunP r M w f v) (h2 : RunP r M w g u) : RunP r M w (fun s => (f s, g s)) (v, u) := fun os => by
  obtain ⟨s, e, e1⟩ := Option.map_eq_some_iff.mp (h1 os)
  have e2 := h2 os
  rw [e] at e2 ⊢
  simp only [Option.map_some, Option.some.injEq] at e2 ⊢
  rw [e1, e2]
theorem RunP.map {f : PySem.W.SharedT → α} {v : α} (k : α → β) (h : RunP r M w f v) : RunP r M w (fun s => k (f s)) (k v) := fun os => by
  obtain ⟨s, e, e1⟩ := Option.map_eq_some_iff.mp (h os)
  rw [e]
  simp only [Option.map_some, Option.some.injEq]
  rw [e1]
theorem RunP.and {f g : PySem.W.SharedT → Bool} (h1 : RunP r M w f true) (h2 : RunP r M w g true) : RunP r M w (fun s => f s && g s) true := (h1.pair h2).map fun p => p.1 && p.2
theorem RunP.app {f g : PySem.W.SharedT → List α} {v u : List α} (h1 : RunP r M w f v) (h2 : RunP r M w g u) : RunP r M w (fun s => f s ++ g s) (v ++ u) := (h1.pair h2).map fun p => p.1 ++ p.2
theorem RunP.const {f : PySem.W.SharedT → α} {v : α} (h : RunP r M w f v) (b : β) : RunP r M w (fun _ => b) b := h.map fun _ => b
/-- for each answer of the world's row -/
theorem RunP.row {f : PySem.W.SharedT → α} {v : α} (hf : ∀ w, RunP r M (World.withFollow w "special-get-raises" false) f v) (ht : ∀ w, RunP r M (World.withFollow w "special-get-raises" true) f v) : RunP r M w f v :=
  PySem.W.byRow2 "special-get-raises" (P := fun w => RunP r M w f v) hf ht w
end
end Ub
namespace Ub
open PySem PySem.Spec PyProof.Rows L2
/-! ### the hook over told addresses -/
section
variable (as : List Addr) (fa : List He.Fa) (fn : List He.DefD) (tf : List He.Defn) (ex : PySem.W.Frag → Bool) (F : Str) (is : List IniD)
def obsJ (g : Addr → Option Obj) : AlI := (He.obsT fa fn [] (He.frT g as), (ex (He.frT g as) && (He.tabsB g tf (He.frT g as) && is.all fun d => d.ok (He.frT g as) F)), is.map fun d => fnC (He.frT g as) d.cls)
theorem saysJ_of {w : World} {h : Heap} (e : obsJ as fa fn tf ex F is h.get? = valI fn is w) : SaysI fa fn tf ex F is w h (He.frT h.get? as) := by
  have e1 := congrArg (fun z : AlI => z.1) e
  have e2 := congrArg (fun z : AlI => z.2.1) e
  have e3 : (is.map fun d => fnC (He.frT h.get? as) d.cls) = is.map IniD.val := congrArg (fun z : AlI => z.2.2) e
  obtain ⟨k1, k2⟩ := He.ba (show (ex (He.frT h.get? as) && (He.tabsB h.get? tf (He.frT h.get? as) && is.all fun d => d.ok (He.frT h.get? as) F)) = true from e2)
  obtain ⟨k3, k4⟩ := He.ba k2
  have tab : ∀ p ∈ tf, PySem.W.codeHdIn (He.frT h.get? as) (He.cT (He.frT h.get? as) p).1 (He.cT (He.frT h.get? as) p).2 = true ∧ ∃ o, h.get? (He.cT (He.frT h.get? as) p).2 = some o ∧ He.emptyTab o = true := by
    intro p hp
    have z := List.all_eq_true.mp k3 p hp
    obtain ⟨z1, z2⟩ := He.ba z
    cases q : h.get? (He.cT (He.frT h.get? as) p).2 with
    | some o =>
      rw [q] at z2
      exact ⟨z1, o, rfl, z2⟩
    | none =>
      rw [q] at z2
      cases z2
  refine ⟨⟨e1, k1, fun p hp => (tab p hp).1, fun p hp => ?_, fun p hp => ?_⟩, fun d hd => ⟨List.all_eq_true.mp k4 d hd, ?_⟩⟩
  · obtain ⟨o, q, z⟩ := (tab p hp).2
    exact He.frT_none q z
  · obtain ⟨o, q, z⟩ := (tab p hp).2
    exact q.trans (congrArg some (He.emptyTab_eq z))
  · obtain ⟨i, hi⟩ := List.getElem?_of_mem hd
    have z := congrArg (fun l => l[i]?) e3
    simp only [List.getElem?_map, hi, Option.map_some] at z
    exact Option.some.inj z
def hookJ : PySem.W.Hook where
  α := AlI
  obs := fun s => obsJ as fa fn tf ex F is s.heap.get?
  val := fun w => valI fn is w
  says := fun w h => ∃ K : PySem.W.Frag, K.In h ∧ SaysI fa fn tf ex F is w h K
  of := fun _ _ e => ⟨_, He.frT_in, saysJ_of as fa fn tf ex F is e⟩
  keeps := fun _ _ _ ⟨K, hK, c⟩ k => ⟨K, PySem.W.Frag.In.keeps hK k, ⟨⟨c.x.t, c.x.more, c.x.hd, c.x.out, fun p hp => k _ _ (c.x.empty p hp)⟩, c.ini⟩⟩
def obJ (s : PySem.W.SharedT) : AlI := obsJ as fa fn tf ex F is (HandSHeadRun.getT s)
theorem obJ_eq (s : PySem.W.SharedT) : obJ as fa fn tf ex F is s = (hookJ as fa fn tf ex F is).obs s.abs := by
  have e : HandSHeadRun.getT s = s.abs.heap.get? := funext (HandSHeadRun.getT_eq s)
  unfold obJ
  rw [e]
  rfl
end
end Ub

namespace Rw
open PySem PySem.Spec PyProof.Rows L2 Ub
/-! ### the errors' own __init__s -/
/-- the def in the class that stands at i -/
def clsS (i : Nat) : Stmt := match topS i with
  | .ClassDef _ _ _ body _ _ _ _ _ _ _ => body.getD 0 (.Pass ⟨0, 0, 0, 0⟩)
  | s => s
section
variable {P : Program} {w : World} {K : PySem.W.Frag} {mg : Str → Option Value} {base : Heap}
abbrev i_Fields : IniD := ⟨"BadFields", clsS 2, ["number"]⟩
theorem sup_Fields : SupS ["self", "number"] (defScope (clsS 2)) := ⟨rfl, rfl, rfl, by decide +kernel, by decide +kernel, by decide +kernel, by decide +kernel, by decide +kernel, by decide +kernel⟩
theorem ini_Fields {C : Addr} (I : IniF P K mg i_Fields C) (gC : mg "BadFields" = some (.ref C)) (KB : K.In base) : IniC P w K mg base "BadFields" C ["self", "number"] ["number"] := by
  obtain ⟨cc, cda, S, f, oc, kV, doc, pm, ct, od, an, osl, lk, hcd, fi, ft, cl, cld, csl, hcell⟩ := I.sup
  have fn : FnOk P w K mg base CX0 1 f (PySem.W.ksFn "__init__" (i_Fields.cls ++ ".__init__") (defArgs i_Fields.st) (defBody i_Fields.st) (defScope i_Fields.st) .none kV doc pm an (.ref cda) ct cc) ["self", "number"] (spIni C ["number"]) := by
    refine fn_sup (k := 0) (v0 := some (.ref C)) (te := tJoinF [tC (.str "field "), tFmt (tVar 1), tC (.str " cannot be")] Str.empty) (tr := tOst K "number" (tVar 0) (tVar 1)) lk hcd sup_Fields S ⟨_, KB _ _ hcell, rfl⟩ (by rfl) (by rfl) (by rfl) (fun vs H Q E h => ?_) (fun A outer s H => pe_jn (PJ.cons pe_str (PJ.cons (pe_fmt (pv 1)) (PJ.cons pe_str (PJ.nil))))) (fun A outer s H => pss_one (ps_ost (pv 0) (pv 1))) (fun vs H Q E h => ?_) (fun L => rfl) (fun L => rfl) (fun L => rfl) (fun L => rfl) (fun L => rfl)
    · obtain ⟨a, ws, rfl, h1, _⟩ := h
      rw [List.length_cons, h1] <;> rfl
    · obtain ⟨a, ws, rfl, h1, h2, h3, h4⟩ := h
      match ws, h1, h2, h4 with
      | [v], _, h2, h4 =>
        refine ⟨a, [v], rfl, h3, says_text (fun t ht => ?_) (by decide), v, rfl, .ref a, rfl, a, C, rfl, S.ex, I.no _ (by simp), .inl ⟨h3, fun dx hn ne => h4 dx _ hn ne upd_same ?_ fun b n1 n2 => ?_⟩⟩
        · simp only [List.mem_cons, List.not_mem_nil, or_false] at ht
          rcases ht with rfl | rfl | rfl
          · exact says_c (by decide +kernel)
          · exact says_f rfl (h2 _ List.mem_cons_self)
          · exact says_c (by decide +kernel)
        · rw [upd_ne ne, upd_same] <;> rfl
        · rw [upd_ne n1, upd_ne n2]
  exact ⟨S.ex, gC, f, _, fi, ft, .all fun us hl => (match us, hl with | [_, _], _ => rfl), fn⟩
abbrev i_Hand : IniD := ⟨"BadHand", clsS 3, ["why"]⟩
theorem sup_Hand : SupS ["self", "why"] (defScope (clsS 3)) := ⟨rfl, rfl, rfl, by decide +kernel, by decide +kernel, by decide +kernel, by decide +kernel, by decide +kernel, by decide +kernel⟩
theorem ini_Hand {C : Addr} (I : IniF P K mg i_Hand C) (gC : mg "BadHand" = some (.ref C)) (KB : K.In base) : IniC P w K mg base "BadHand" C ["self", "why"] ["why"] := by
  obtain ⟨cc, cda, S, f, oc, kV, doc, pm, ct, od, an, osl, lk, hcd, fi, ft, cl, cld, csl, hcell⟩ := I.sup
  have fn : FnOk P w K mg base CX0 1 f (PySem.W.ksFn "__init__" (i_Hand.cls ++ ".__init__") (defArgs i_Hand.st) (defBody i_Hand.st) (defScope i_Hand.st) .none kV doc pm an (.ref cda) ct cc) ["self", "why"] (spIni C ["why"]) := by
    refine fn_sup (k := 0) (v0 := some (.ref C)) (te := tJoinF [tC (.str "a hand cannot have this "), tFmt (tVar 1)] Str.empty) (tr := tOst K "why" (tVar 0) (tVar 1)) lk hcd sup_Hand S ⟨_, KB _ _ hcell, rfl⟩ (by rfl) (by rfl) (by rfl) (fun vs H Q E h => ?_) (fun A outer s H => pe_jn (PJ.cons pe_str (PJ.cons (pe_fmt (pv 1)) (PJ.nil)))) (fun A outer s H => pss_one (ps_ost (pv 0) (pv 1))) (fun vs H Q E h => ?_) (fun L => rfl) (fun L => rfl) (fun L => rfl) (fun L => rfl) (fun L => rfl)
    · obtain ⟨a, ws, rfl, h1, _⟩ := h
      rw [List.length_cons, h1] <;> rfl
    · obtain ⟨a, ws, rfl, h1, h2, h3, h4⟩ := h
      match ws, h1, h2, h4 with
      | [v], _, h2, h4 =>
        refine ⟨a, [v], rfl, h3, says_text (fun t ht => ?_) (by decide), v, rfl, .ref a, rfl, a, C, rfl, S.ex, I.no _ (by simp), .inl ⟨h3, fun dx hn ne => h4 dx _ hn ne upd_same ?_ fun b n1 n2 => ?_⟩⟩
        · simp only [List.mem_cons, List.not_mem_nil, or_false] at ht
          rcases ht with rfl | rfl
          · exact says_c (by decide +kernel)
          · exact says_f rfl (h2 _ List.mem_cons_self)
        · rw [upd_ne ne, upd_same] <;> rfl
        · rw [upd_ne n1, upd_ne n2]
  exact ⟨S.ex, gC, f, _, fi, ft, .all fun us hl => (match us, hl with | [_, _], _ => rfl), fn⟩
end
end Rw

namespace Rw
open PySem PySem.Spec PyProof.Rows L2 Ub
def fnL : List He.DefD := [dd "is_whole" s_is_whole, dd "is_size" s_is_size, dd "are_small_letters" s_are_small_letters, dd "is_name" s_is_name, dd "check_fields" s_check_fields, dd "check_hand" s_check_hand, dd "laid" s_laid, dd "spread" s_spread, dd "filled" s_filled, dd "step_of" s_step_of, dd "first_multiple" s_first_multiple, dd "_placed" s_placed, dd "_best_behind" s_best_behind, dd "written" s_written, dd "put" s_put, dd "look" s_look, dd "led" s_led, dd "unlike" s_unlike, dd "_field_in" s_field_in, dd "checked_places" s_checked_places, dd "played" s_played, dd "ends" s_ends, dd "torn" s_torn, dd "widened" s_widened, dd "_law_dice" s_dice, dd "_law_off" s_off, dd "_law_alike" s_alike, dd "_law_mixed" s_mixed, dd "_law_is" s_is, dd "_law_refused" s_refused, dd "_law_names" s_names, dd "_law_fields" s_fields, dd "_law_hand" s_hand, dd "_law_works" s_works, dd "_law_single" s_single, dd "_law_bad" s_bad, dd "_law_odd" s_odd, dd "law" s_law]
def gl0L : List Str := ["is_whole", "is_size", "are_small_letters", "is_name", "check_fields", "check_hand", "laid", "spread", "filled", "step_of", "first_multiple", "_placed", "_best_behind", "written", "put", "look"]
def gl1L : List Str := ["led", "unlike", "_field_in", "checked_places", "played", "ends", "torn", "widened", "_law_dice", "_law_off", "_law_alike", "_law_mixed", "_law_is", "_law_refused", "_law_names", "_law_fields"]
def gl2L : List Str := ["_law_hand", "_law_works", "_law_single", "_law_bad", "_law_odd", "law"]
def glcL : List Str := ["SIZES", "ORDERS", "WAYS", "LIMITS", "WIDES", "BadFields", "BadHand", "BadMemory", "NoField", "BadNumber", "BadDeed", "BadText", "ShareError"]
def glL : List Str := gl0L ++ (gl1L ++ (gl2L ++ (glcL)))
def frL : List Str := ["len", "range", "abs", "min", "max", "isinstance", "list", "tuple", "int", "str", "bool", "all", "zip", "enumerate", "sorted", "sum", "set", "ValueError", "super"]
def ensL : List Str := ["BadFields", "BadHand", "BadMemory", "NoField", "BadNumber", "BadDeed", "BadText"]
def ecnL : List Str := ["BadFields", "BadHand", "BadMemory", "NoField", "BadNumber", "BadDeed", "BadText", "ShareError"]
def faL : List He.Fa := glL.map .glo ++ (frL.map .free ++ [.int "LONGEST_NAME" 6, .int "MOST_FIELDS" 6, .int "MOST_GAP" 9, .int "MOST_DEEDS" 3, .str "LETTERS" abc, .exm "BadFields" "ShareError" true, .exm "BadHand" "ShareError" true])
def tfL : List He.Defn := [("are_small_letters", none), ("law", none), ("_law_works", none), ("_law_single", none)]
def exL (K : PySem.W.Frag) : Bool := He.tupB K "SIZES" [.int 1, .int 2, .int 4] && (He.tupB K "ORDERS" [.str "great", .str "small"] && (He.tupB K "WAYS" [.str "up", .str "down"] && (dctIB K (He.ga K "LIMITS") [(1, 10), (2, 100), (4, 10000)] && (xcB K (He.ga K "BadFields") && (kitB2 K ensL 0 && (decide (PySem.W.kitOne K (.ref (He.ga K "BadFields")) (.type "ValueError") = some true) && (xcB K (He.ga K "BadHand") && (kitB2 K ensL 1 && (decide (PySem.W.kitOne K (.ref (He.ga K "BadHand")) (.type "ValueError") = some true) && (decide ((He.cT K ("are_small_letters", none)).2 ≠ (He.cT K ("law", none)).2) && (decide ((He.cT K ("are_small_letters", none)).2 ≠ (He.cT K ("_law_works", none)).2) && (decide ((He.cT K ("are_small_letters", none)).2 ≠ (He.cT K ("_law_single", none)).2) && (decide ((He.cT K ("law", none)).2 ≠ (He.cT K ("_law_works", none)).2) && (decide ((He.cT K ("law", none)).2 ≠ (He.cT K ("_law_single", none)).2) && (decide ((He.cT K ("_law_works", none)).2 ≠ (He.cT K ("_law_single", none)).2))))))))))))))))
def isL : List IniD := [i_Fields, i_Hand]
def flL : Str := PySem.Challenge.rw_endshare_k01_fields_and_hands_refused.prog.main.file
abbrev hkL (as : List Addr) : PySem.W.Hook := hookJ as faL fnL tfL exL flL isL
end Rw

namespace Rw
open PySem PySem.Spec PyProof.Rows L2 Ub
section
variable {K : PySem.W.Frag} {mg : Str → Option Value} {h : Heap}
theorem memG {x : Str} (h : x ∈ glL) : He.Fa.glo x ∈ faL := List.mem_append_left _ (List.mem_map.mpr ⟨x, h, rfl⟩)
theorem memF {x : Str} (h : x ∈ frL) : He.Fa.free x ∈ faL := List.mem_append_right _ (List.mem_append_left _ (List.mem_map.mpr ⟨x, h, rfl⟩))
theorem memR {f : He.Fa} (h : f ∈ [He.Fa.int "LONGEST_NAME" 6, He.Fa.int "MOST_FIELDS" 6, He.Fa.int "MOST_GAP" 9, He.Fa.int "MOST_DEEDS" 3, He.Fa.str "LETTERS" abc, He.Fa.exm "BadFields" "ShareError" true, He.Fa.exm "BadHand" "ShareError" true]) : f ∈ faL := List.mem_append_right _ (List.mem_append_right _ h)
theorem bl_of (X : K.In h) (G : h.Ns mainGlobals mg) (c : He.SaysD faL fnL K) : Bl mg := by
  have f : ∀ x : Str, x ∈ frL → mg x = none := fun x hx => He.free_ok X G (c.facts (memF hx))
  exact ⟨f _ (by decide), f _ (by decide), f _ (by decide), f _ (by decide), f _ (by decide), f _ (by decide), f _ (by decide), f _ (by decide), f _ (by decide), f _ (by decide), f _ (by decide), f _ (by decide), f _ (by decide), f _ (by decide), f _ (by decide), f _ (by decide), f _ (by decide)⟩
theorem glo_of (X : K.In h) (G : h.Ns mainGlobals mg) (c : He.SaysD faL fnL K) : ∀ x : Str, x ∈ glL → mg x = some (.ref (He.ga K x)) := fun x hx => He.glo_ok X G (c.facts (memG hx))
theorem cn_of (X : K.In h) (G : h.Ns mainGlobals mg) (c : He.SaysD faL fnL K) (e : exL K = true) : Cn K mg := ⟨He.str_ok X G (c.facts (memR (.tail _ (.tail _ (.tail _ (.tail _ (.head _))))))), He.int_ok X G (c.facts (memR (.head _))), He.int_ok X G (c.facts (memR (.tail _ (.head _)))), ⟨_, glo_of X G c "SIZES" (by decide), fun H => He.tupB_ok (He.ba e).1 H⟩⟩
theorem cnH_of (X : K.In h) (G : h.Ns mainGlobals mg) (c : He.SaysD faL fnL K) (e : exL K = true) : CnH K mg := ⟨⟨_, glo_of X G c "ORDERS" (by decide), fun H => He.tupB_ok (He.ba (He.ba e).2).1 H⟩, ⟨_, glo_of X G c "WAYS" (by decide), fun H => He.tupB_ok (He.ba (He.ba (He.ba e).2).2).1 H⟩⟩
theorem cnG_of (X : K.In h) (G : h.Ns mainGlobals mg) (c : He.SaysD faL fnL K) (e : exL K = true) : CnG mg := ⟨He.int_ok X G (c.facts (memR (.tail _ (.tail _ (.head _)))))⟩
abbrev ec (K : PySem.W.Frag) (i : Nat) : Addr := He.ga K (ecnL.getD i "")
theorem ek_of (X : K.In h) (G : h.Ns mainGlobals mg) (c : He.SaysD faL fnL K) : Ek mg (ec K) := by
  have g : ∀ x : Str, x ∈ glL → mg x = some (.ref (He.ga K x)) := fun x hx => He.glo_ok X G (c.facts (memG hx))
  exact ⟨g "BadFields" (by decide), g "BadHand" (by decide), g "BadMemory" (by decide), g "NoField" (by decide), g "BadNumber" (by decide), g "BadDeed" (by decide), g "BadText" (by decide), g "ShareError" (by decide), He.free_ok X G (c.facts (memF (x := "ValueError") (by decide)))⟩
theorem ei0_of (e : exL K = true) (c : He.SaysD faL fnL K) : Ei K (ec K) 0 := by
  have eq : ∀ j, j < 7 → ecnL.getD j "" = ensL.getD j "" := by decide
  refine ⟨xcB_ok (He.ba (He.ba (He.ba (He.ba (He.ba e).2).2).2).2).1, fun j hj => ?_, of_decide_eq_true (He.ba (He.ba (He.ba (He.ba (He.ba (He.ba (He.ba e).2).2).2).2).2).2).1, He.exm_ok (c.facts (memR (.tail _ (.tail _ (.tail _ (.tail _ (.tail _ (.head _))))))))⟩
  show PySem.W.kitOne K (.ref (He.ga K (ecnL.getD 0 ""))) (.ref (He.ga K (ecnL.getD j ""))) = _
  rw [eq 0 (by decide), eq j hj]
  exact kitB2_ok (He.ba (He.ba (He.ba (He.ba (He.ba (He.ba e).2).2).2).2).2).1 j hj
theorem ei1_of (e : exL K = true) (c : He.SaysD faL fnL K) : Ei K (ec K) 1 := by
  have eq : ∀ j, j < 7 → ecnL.getD j "" = ensL.getD j "" := by decide
  refine ⟨xcB_ok (He.ba (He.ba (He.ba (He.ba (He.ba (He.ba (He.ba (He.ba e).2).2).2).2).2).2).2).1, fun j hj => ?_, of_decide_eq_true (He.ba (He.ba (He.ba (He.ba (He.ba (He.ba (He.ba (He.ba (He.ba (He.ba e).2).2).2).2).2).2).2).2).2).1, He.exm_ok (c.facts (memR (.tail _ (.tail _ (.tail _ (.tail _ (.tail _ (.tail _ (.head _)))))))))⟩
  show PySem.W.kitOne K (.ref (He.ga K (ecnL.getD 1 ""))) (.ref (He.ga K (ecnL.getD j ""))) = _
  rw [eq 1 (by decide), eq j hj]
  exact kitB2_ok (He.ba (He.ba (He.ba (He.ba (He.ba (He.ba (He.ba (He.ba (He.ba e).2).2).2).2).2).2).2).2).1 j hj
theorem b_is_whole (kV doc pm : Value) (an : Option Addr) (cdv ct : Value) (us : List Value) (hl : us.length = P_is_whole.length) : bindArgs (PySem.W.fnOf "is_whole" "is_whole" (defArgs s_is_whole) (defBody s_is_whole) (defScope s_is_whole) .none kV doc pm an cdv ct) ⟨us, []⟩ = pure (P_is_whole.zip us) := match us, hl with | [_], _ => rfl
theorem D_is_whole (X : K.In h) (G : h.Ns mainGlobals mg) (c : He.SaysD faL fnL K) : DfC K mg "is_whole" s_is_whole P_is_whole (He.codeOf K ("is_whole", none)) := df_of X G c (List.mem_of_getElem? (i := 0) rfl) (memG (by decide)) b_is_whole
theorem b_is_size (kV doc pm : Value) (an : Option Addr) (cdv ct : Value) (us : List Value) (hl : us.length = P_is_size.length) : bindArgs (PySem.W.fnOf "is_size" "is_size" (defArgs s_is_size) (defBody s_is_size) (defScope s_is_size) .none kV doc pm an cdv ct) ⟨us, []⟩ = pure (P_is_size.zip us) := match us, hl with | [_], _ => rfl
theorem D_is_size (X : K.In h) (G : h.Ns mainGlobals mg) (c : He.SaysD faL fnL K) : DfC K mg "is_size" s_is_size P_is_size (He.codeOf K ("is_size", none)) := df_of X G c (List.mem_of_getElem? (i := 1) rfl) (memG (by decide)) b_is_size
theorem b_are_small_letters (kV doc pm : Value) (an : Option Addr) (cdv ct : Value) (us : List Value) (hl : us.length = P_are_small_letters.length) : bindArgs (PySem.W.fnOf "are_small_letters" "are_small_letters" (defArgs s_are_small_letters) (defBody s_are_small_letters) (defScope s_are_small_letters) .none kV doc pm an cdv ct) ⟨us, []⟩ = pure (P_are_small_letters.zip us) := match us, hl with | [_], _ => rfl
theorem D_are_small_letters (X : K.In h) (G : h.Ns mainGlobals mg) (c : He.SaysD faL fnL K) : DfC K mg "are_small_letters" s_are_small_letters P_are_small_letters (He.codeOf K ("are_small_letters", none)) := df_of X G c (List.mem_of_getElem? (i := 2) rfl) (memG (by decide)) b_are_small_letters
theorem b_is_name (kV doc pm : Value) (an : Option Addr) (cdv ct : Value) (us : List Value) (hl : us.length = P_is_name.length) : bindArgs (PySem.W.fnOf "is_name" "is_name" (defArgs s_is_name) (defBody s_is_name) (defScope s_is_name) .none kV doc pm an cdv ct) ⟨us, []⟩ = pure (P_is_name.zip us) := match us, hl with | [_], _ => rfl
theorem D_is_name (X : K.In h) (G : h.Ns mainGlobals mg) (c : He.SaysD faL fnL K) : DfC K mg "is_name" s_is_name P_is_name (He.codeOf K ("is_name", none)) := df_of X G c (List.mem_of_getElem? (i := 3) rfl) (memG (by decide)) b_is_name
theorem b_check_fields (kV doc pm : Value) (an : Option Addr) (cdv ct : Value) (us : List Value) (hl : us.length = P_check_fields.length) : bindArgs (PySem.W.fnOf "check_fields" "check_fields" (defArgs s_check_fields) (defBody s_check_fields) (defScope s_check_fields) .none kV doc pm an cdv ct) ⟨us, []⟩ = pure (P_check_fields.zip us) := match us, hl with | [_], _ => rfl
theorem D_check_fields (X : K.In h) (G : h.Ns mainGlobals mg) (c : He.SaysD faL fnL K) : DfC K mg "check_fields" s_check_fields P_check_fields (He.codeOf K ("check_fields", none)) := df_of X G c (List.mem_of_getElem? (i := 4) rfl) (memG (by decide)) b_check_fields
theorem b_check_hand (kV doc pm : Value) (an : Option Addr) (cdv ct : Value) (us : List Value) (hl : us.length = P_check_hand.length) : bindArgs (PySem.W.fnOf "check_hand" "check_hand" (defArgs s_check_hand) (defBody s_check_hand) (defScope s_check_hand) .none kV doc pm an cdv ct) ⟨us, []⟩ = pure (P_check_hand.zip us) := match us, hl with | [_], _ => rfl
theorem D_check_hand (X : K.In h) (G : h.Ns mainGlobals mg) (c : He.SaysD faL fnL K) : DfC K mg "check_hand" s_check_hand P_check_hand (He.codeOf K ("check_hand", none)) := df_of X G c (List.mem_of_getElem? (i := 5) rfl) (memG (by decide)) b_check_hand
theorem b_laid (kV doc pm : Value) (an : Option Addr) (cdv ct : Value) (us : List Value) (hl : us.length = P_laid.length) : bindArgs (PySem.W.fnOf "laid" "laid" (defArgs s_laid) (defBody s_laid) (defScope s_laid) .none kV doc pm an cdv ct) ⟨us, []⟩ = pure (P_laid.zip us) := match us, hl with | [_, _], _ => rfl
theorem D_laid (X : K.In h) (G : h.Ns mainGlobals mg) (c : He.SaysD faL fnL K) : DfC K mg "laid" s_laid P_laid (He.codeOf K ("laid", none)) := df_of X G c (List.mem_of_getElem? (i := 6) rfl) (memG (by decide)) b_laid
theorem b_spread (kV doc pm : Value) (an : Option Addr) (cdv ct : Value) (us : List Value) (hl : us.length = P_spread.length) : bindArgs (PySem.W.fnOf "spread" "spread" (defArgs s_spread) (defBody s_spread) (defScope s_spread) .none kV doc pm an cdv ct) ⟨us, []⟩ = pure (P_spread.zip us) := match us, hl with | [_, _, _], _ => rfl
theorem D_spread (X : K.In h) (G : h.Ns mainGlobals mg) (c : He.SaysD faL fnL K) : DfC K mg "spread" s_spread P_spread (He.codeOf K ("spread", none)) := df_of X G c (List.mem_of_getElem? (i := 7) rfl) (memG (by decide)) b_spread
theorem b_filled (kV doc pm : Value) (an : Option Addr) (cdv ct : Value) (us : List Value) (hl : us.length = P_filled.length) : bindArgs (PySem.W.fnOf "filled" "filled" (defArgs s_filled) (defBody s_filled) (defScope s_filled) .none kV doc pm an cdv ct) ⟨us, []⟩ = pure (P_filled.zip us) := match us, hl with | [_, _, _], _ => rfl
theorem D_filled (X : K.In h) (G : h.Ns mainGlobals mg) (c : He.SaysD faL fnL K) : DfC K mg "filled" s_filled P_filled (He.codeOf K ("filled", none)) := df_of X G c (List.mem_of_getElem? (i := 8) rfl) (memG (by decide)) b_filled
theorem b_step_of (kV doc pm : Value) (an : Option Addr) (cdv ct : Value) (us : List Value) (hl : us.length = P_step_of.length) : bindArgs (PySem.W.fnOf "step_of" "step_of" (defArgs s_step_of) (defBody s_step_of) (defScope s_step_of) .none kV doc pm an cdv ct) ⟨us, []⟩ = pure (P_step_of.zip us) := match us, hl with | [_, _], _ => rfl
theorem D_step_of (X : K.In h) (G : h.Ns mainGlobals mg) (c : He.SaysD faL fnL K) : DfC K mg "step_of" s_step_of P_step_of (He.codeOf K ("step_of", none)) := df_of X G c (List.mem_of_getElem? (i := 9) rfl) (memG (by decide)) b_step_of
theorem b_first_multiple (kV doc pm : Value) (an : Option Addr) (cdv ct : Value) (us : List Value) (hl : us.length = P_first_multiple.length) : bindArgs (PySem.W.fnOf "first_multiple" "first_multiple" (defArgs s_first_multiple) (defBody s_first_multiple) (defScope s_first_multiple) .none kV doc pm an cdv ct) ⟨us, []⟩ = pure (P_first_multiple.zip us) := match us, hl with | [_, _], _ => rfl
theorem D_first_multiple (X : K.In h) (G : h.Ns mainGlobals mg) (c : He.SaysD faL fnL K) : DfC K mg "first_multiple" s_first_multiple P_first_multiple (He.codeOf K ("first_multiple", none)) := df_of X G c (List.mem_of_getElem? (i := 10) rfl) (memG (by decide)) b_first_multiple
theorem b_placed (kV doc pm : Value) (an : Option Addr) (cdv ct : Value) (us : List Value) (hl : us.length = P_placed.length) : bindArgs (PySem.W.fnOf "_placed" "_placed" (defArgs s_placed) (defBody s_placed) (defScope s_placed) .none kV doc pm an cdv ct) ⟨us, []⟩ = pure (P_placed.zip us) := match us, hl with | [_, _, _], _ => rfl
theorem D_placed (X : K.In h) (G : h.Ns mainGlobals mg) (c : He.SaysD faL fnL K) : DfC K mg "_placed" s_placed P_placed (He.codeOf K ("_placed", none)) := df_of X G c (List.mem_of_getElem? (i := 11) rfl) (memG (by decide)) b_placed
theorem b_best_behind (kV doc pm : Value) (an : Option Addr) (cdv ct : Value) (us : List Value) (hl : us.length = P_best_behind.length) : bindArgs (PySem.W.fnOf "_best_behind" "_best_behind" (defArgs s_best_behind) (defBody s_best_behind) (defScope s_best_behind) .none kV doc pm an cdv ct) ⟨us, []⟩ = pure (P_best_behind.zip us) := match us, hl with | [_, _, _, _], _ => rfl
theorem D_best_behind (X : K.In h) (G : h.Ns mainGlobals mg) (c : He.SaysD faL fnL K) : DfC K mg "_best_behind" s_best_behind P_best_behind (He.codeOf K ("_best_behind", none)) := df_of X G c (List.mem_of_getElem? (i := 12) rfl) (memG (by decide)) b_best_behind
theorem b_written (kV doc pm : Value) (an : Option Addr) (cdv ct : Value) (us : List Value) (hl : us.length = P_written.length) : bindArgs (PySem.W.fnOf "written" "written" (defArgs s_written) (defBody s_written) (defScope s_written) .none kV doc pm an cdv ct) ⟨us, []⟩ = pure (P_written.zip us) := match us, hl with | [_], _ => rfl
theorem D_written (X : K.In h) (G : h.Ns mainGlobals mg) (c : He.SaysD faL fnL K) : DfC K mg "written" s_written P_written (He.codeOf K ("written", none)) := df_of X G c (List.mem_of_getElem? (i := 13) rfl) (memG (by decide)) b_written
theorem b_put (kV doc pm : Value) (an : Option Addr) (cdv ct : Value) (us : List Value) (hl : us.length = P_put.length) : bindArgs (PySem.W.fnOf "put" "put" (defArgs s_put) (defBody s_put) (defScope s_put) .none kV doc pm an cdv ct) ⟨us, []⟩ = pure (P_put.zip us) := match us, hl with | [_, _, _, _, _], _ => rfl
theorem D_put (X : K.In h) (G : h.Ns mainGlobals mg) (c : He.SaysD faL fnL K) : DfC K mg "put" s_put P_put (He.codeOf K ("put", none)) := df_of X G c (List.mem_of_getElem? (i := 14) rfl) (memG (by decide)) b_put
theorem b_look (kV doc pm : Value) (an : Option Addr) (cdv ct : Value) (us : List Value) (hl : us.length = P_look.length) : bindArgs (PySem.W.fnOf "look" "look" (defArgs s_look) (defBody s_look) (defScope s_look) .none kV doc pm an cdv ct) ⟨us, []⟩ = pure (P_look.zip us) := match us, hl with | [_, _, _, _], _ => rfl
theorem D_look (X : K.In h) (G : h.Ns mainGlobals mg) (c : He.SaysD faL fnL K) : DfC K mg "look" s_look P_look (He.codeOf K ("look", none)) := df_of X G c (List.mem_of_getElem? (i := 15) rfl) (memG (by decide)) b_look
theorem b_led (kV doc pm : Value) (an : Option Addr) (cdv ct : Value) (us : List Value) (hl : us.length = P_led.length) : bindArgs (PySem.W.fnOf "led" "led" (defArgs s_led) (defBody s_led) (defScope s_led) .none kV doc pm an cdv ct) ⟨us, []⟩ = pure (P_led.zip us) := match us, hl with | [_, _, _, _], _ => rfl
theorem D_led (X : K.In h) (G : h.Ns mainGlobals mg) (c : He.SaysD faL fnL K) : DfC K mg "led" s_led P_led (He.codeOf K ("led", none)) := df_of X G c (List.mem_of_getElem? (i := 16) rfl) (memG (by decide)) b_led
theorem b_unlike (kV doc pm : Value) (an : Option Addr) (cdv ct : Value) (us : List Value) (hl : us.length = P_unlike.length) : bindArgs (PySem.W.fnOf "unlike" "unlike" (defArgs s_unlike) (defBody s_unlike) (defScope s_unlike) .none kV doc pm an cdv ct) ⟨us, []⟩ = pure (P_unlike.zip us) := match us, hl with | [_, _, _], _ => rfl
theorem D_unlike (X : K.In h) (G : h.Ns mainGlobals mg) (c : He.SaysD faL fnL K) : DfC K mg "unlike" s_unlike P_unlike (He.codeOf K ("unlike", none)) := df_of X G c (List.mem_of_getElem? (i := 17) rfl) (memG (by decide)) b_unlike
theorem b_field_in (kV doc pm : Value) (an : Option Addr) (cdv ct : Value) (us : List Value) (hl : us.length = P_field_in.length) : bindArgs (PySem.W.fnOf "_field_in" "_field_in" (defArgs s_field_in) (defBody s_field_in) (defScope s_field_in) .none kV doc pm an cdv ct) ⟨us, []⟩ = pure (P_field_in.zip us) := match us, hl with | [_, _, _, _], _ => rfl
theorem D_field_in (X : K.In h) (G : h.Ns mainGlobals mg) (c : He.SaysD faL fnL K) : DfC K mg "_field_in" s_field_in P_field_in (He.codeOf K ("_field_in", none)) := df_of X G c (List.mem_of_getElem? (i := 18) rfl) (memG (by decide)) b_field_in
theorem b_checked_places (kV doc pm : Value) (an : Option Addr) (cdv ct : Value) (us : List Value) (hl : us.length = P_checked_places.length) : bindArgs (PySem.W.fnOf "checked_places" "checked_places" (defArgs s_checked_places) (defBody s_checked_places) (defScope s_checked_places) .none kV doc pm an cdv ct) ⟨us, []⟩ = pure (P_checked_places.zip us) := match us, hl with | [_, _, _], _ => rfl
theorem D_checked_places (X : K.In h) (G : h.Ns mainGlobals mg) (c : He.SaysD faL fnL K) : DfC K mg "checked_places" s_checked_places P_checked_places (He.codeOf K ("checked_places", none)) := df_of X G c (List.mem_of_getElem? (i := 19) rfl) (memG (by decide)) b_checked_places
theorem b_played (kV doc pm : Value) (an : Option Addr) (cdv ct : Value) (us : List Value) (hl : us.length = P_played.length) : bindArgs (PySem.W.fnOf "played" "played" (defArgs s_played) (defBody s_played) (defScope s_played) .none kV doc pm an cdv ct) ⟨us, []⟩ = pure (P_played.zip us) := match us, hl with | [_, _, _, _], _ => rfl
theorem D_played (X : K.In h) (G : h.Ns mainGlobals mg) (c : He.SaysD faL fnL K) : DfC K mg "played" s_played P_played (He.codeOf K ("played", none)) := df_of X G c (List.mem_of_getElem? (i := 20) rfl) (memG (by decide)) b_played
theorem b_ends (kV doc pm : Value) (an : Option Addr) (cdv ct : Value) (us : List Value) (hl : us.length = P_ends.length) : bindArgs (PySem.W.fnOf "ends" "ends" (defArgs s_ends) (defBody s_ends) (defScope s_ends) .none kV doc pm an cdv ct) ⟨us, []⟩ = pure (P_ends.zip us) := match us, hl with | [_, _, _], _ => rfl
theorem D_ends (X : K.In h) (G : h.Ns mainGlobals mg) (c : He.SaysD faL fnL K) : DfC K mg "ends" s_ends P_ends (He.codeOf K ("ends", none)) := df_of X G c (List.mem_of_getElem? (i := 21) rfl) (memG (by decide)) b_ends
theorem b_torn (kV doc pm : Value) (an : Option Addr) (cdv ct : Value) (us : List Value) (hl : us.length = P_torn.length) : bindArgs (PySem.W.fnOf "torn" "torn" (defArgs s_torn) (defBody s_torn) (defScope s_torn) .none kV doc pm an cdv ct) ⟨us, []⟩ = pure (P_torn.zip us) := match us, hl with | [_, _, _], _ => rfl
theorem D_torn (X : K.In h) (G : h.Ns mainGlobals mg) (c : He.SaysD faL fnL K) : DfC K mg "torn" s_torn P_torn (He.codeOf K ("torn", none)) := df_of X G c (List.mem_of_getElem? (i := 22) rfl) (memG (by decide)) b_torn
theorem b_widened (kV doc pm : Value) (an : Option Addr) (cdv ct : Value) (us : List Value) (hl : us.length = P_widened.length) : bindArgs (PySem.W.fnOf "widened" "widened" (defArgs s_widened) (defBody s_widened) (defScope s_widened) .none kV doc pm an cdv ct) ⟨us, []⟩ = pure (P_widened.zip us) := match us, hl with | [_, _, _], _ => rfl
theorem D_widened (X : K.In h) (G : h.Ns mainGlobals mg) (c : He.SaysD faL fnL K) : DfC K mg "widened" s_widened P_widened (He.codeOf K ("widened", none)) := df_of X G c (List.mem_of_getElem? (i := 23) rfl) (memG (by decide)) b_widened
theorem b_dice (kV doc pm : Value) (an : Option Addr) (cdv ct : Value) (us : List Value) (hl : us.length = P_dice.length) : bindArgs (PySem.W.fnOf "_law_dice" "_law_dice" (defArgs s_dice) (defBody s_dice) (defScope s_dice) .none kV doc pm an cdv ct) ⟨us, []⟩ = pure (P_dice.zip us) := match us, hl with | [_, _], _ => rfl
theorem D_dice (X : K.In h) (G : h.Ns mainGlobals mg) (c : He.SaysD faL fnL K) : DfC K mg "_law_dice" s_dice P_dice (He.codeOf K ("_law_dice", none)) := df_of X G c (List.mem_of_getElem? (i := 24) rfl) (memG (by decide)) b_dice
theorem b_off (kV doc pm : Value) (an : Option Addr) (cdv ct : Value) (us : List Value) (hl : us.length = P_off.length) : bindArgs (PySem.W.fnOf "_law_off" "_law_off" (defArgs s_off) (defBody s_off) (defScope s_off) .none kV doc pm an cdv ct) ⟨us, []⟩ = pure (P_off.zip us) := match us, hl with | [_, _], _ => rfl
theorem D_off (X : K.In h) (G : h.Ns mainGlobals mg) (c : He.SaysD faL fnL K) : DfC K mg "_law_off" s_off P_off (He.codeOf K ("_law_off", none)) := df_of X G c (List.mem_of_getElem? (i := 25) rfl) (memG (by decide)) b_off
theorem b_alike (kV doc pm : Value) (an : Option Addr) (cdv ct : Value) (us : List Value) (hl : us.length = P_alike.length) : bindArgs (PySem.W.fnOf "_law_alike" "_law_alike" (defArgs s_alike) (defBody s_alike) (defScope s_alike) .none kV doc pm an cdv ct) ⟨us, []⟩ = pure (P_alike.zip us) := match us, hl with | [_, _], _ => rfl
theorem D_alike (X : K.In h) (G : h.Ns mainGlobals mg) (c : He.SaysD faL fnL K) : DfC K mg "_law_alike" s_alike P_alike (He.codeOf K ("_law_alike", none)) := df_of X G c (List.mem_of_getElem? (i := 26) rfl) (memG (by decide)) b_alike
theorem b_mixed (kV doc pm : Value) (an : Option Addr) (cdv ct : Value) (us : List Value) (hl : us.length = P_mixed.length) : bindArgs (PySem.W.fnOf "_law_mixed" "_law_mixed" (defArgs s_mixed) (defBody s_mixed) (defScope s_mixed) .none kV doc pm an cdv ct) ⟨us, []⟩ = pure (P_mixed.zip us) := match us, hl with | [_, _], _ => rfl
theorem D_mixed (X : K.In h) (G : h.Ns mainGlobals mg) (c : He.SaysD faL fnL K) : DfC K mg "_law_mixed" s_mixed P_mixed (He.codeOf K ("_law_mixed", none)) := df_of X G c (List.mem_of_getElem? (i := 27) rfl) (memG (by decide)) b_mixed
theorem b_is (kV doc pm : Value) (an : Option Addr) (cdv ct : Value) (us : List Value) (hl : us.length = P_is.length) : bindArgs (PySem.W.fnOf "_law_is" "_law_is" (defArgs s_is) (defBody s_is) (defScope s_is) .none kV doc pm an cdv ct) ⟨us, []⟩ = pure (P_is.zip us) := match us, hl with | [_, _], _ => rfl
theorem D_is (X : K.In h) (G : h.Ns mainGlobals mg) (c : He.SaysD faL fnL K) : DfC K mg "_law_is" s_is P_is (He.codeOf K ("_law_is", none)) := df_of X G c (List.mem_of_getElem? (i := 28) rfl) (memG (by decide)) b_is
theorem b_refused (kV doc pm : Value) (an : Option Addr) (cdv ct : Value) (us : List Value) (hl : us.length = P_refused.length) : bindArgs (PySem.W.fnOf "_law_refused" "_law_refused" (defArgs s_refused) (defBody s_refused) (defScope s_refused) .none kV doc pm an cdv ct) ⟨us, []⟩ = pure (P_refused.zip us) := match us, hl with | [_, _, _], _ => rfl
theorem D_refused (X : K.In h) (G : h.Ns mainGlobals mg) (c : He.SaysD faL fnL K) : DfC K mg "_law_refused" s_refused P_refused (He.codeOf K ("_law_refused", none)) := df_of X G c (List.mem_of_getElem? (i := 29) rfl) (memG (by decide)) b_refused
theorem b_names (kV doc pm : Value) (an : Option Addr) (cdv ct : Value) (us : List Value) (hl : us.length = P_names.length) : bindArgs (PySem.W.fnOf "_law_names" "_law_names" (defArgs s_names) (defBody s_names) (defScope s_names) .none kV doc pm an cdv ct) ⟨us, []⟩ = pure (P_names.zip us) := match us, hl with | [_], _ => rfl
theorem D_names (X : K.In h) (G : h.Ns mainGlobals mg) (c : He.SaysD faL fnL K) : DfC K mg "_law_names" s_names P_names (He.codeOf K ("_law_names", none)) := df_of X G c (List.mem_of_getElem? (i := 30) rfl) (memG (by decide)) b_names
theorem b_fields (kV doc pm : Value) (an : Option Addr) (cdv ct : Value) (us : List Value) (hl : us.length = P_fields.length) : bindArgs (PySem.W.fnOf "_law_fields" "_law_fields" (defArgs s_fields) (defBody s_fields) (defScope s_fields) .none kV doc pm an cdv ct) ⟨us, []⟩ = pure (P_fields.zip us) := match us, hl with | [_, _], _ => rfl
theorem D_fields (X : K.In h) (G : h.Ns mainGlobals mg) (c : He.SaysD faL fnL K) : DfC K mg "_law_fields" s_fields P_fields (He.codeOf K ("_law_fields", none)) := df_of X G c (List.mem_of_getElem? (i := 31) rfl) (memG (by decide)) b_fields
theorem b_hand (kV doc pm : Value) (an : Option Addr) (cdv ct : Value) (us : List Value) (hl : us.length = P_hand.length) : bindArgs (PySem.W.fnOf "_law_hand" "_law_hand" (defArgs s_hand) (defBody s_hand) (defScope s_hand) .none kV doc pm an cdv ct) ⟨us, []⟩ = pure (P_hand.zip us) := match us, hl with | [_], _ => rfl
theorem D_hand (X : K.In h) (G : h.Ns mainGlobals mg) (c : He.SaysD faL fnL K) : DfC K mg "_law_hand" s_hand P_hand (He.codeOf K ("_law_hand", none)) := df_of X G c (List.mem_of_getElem? (i := 32) rfl) (memG (by decide)) b_hand
theorem b_works (kV doc pm : Value) (an : Option Addr) (cdv ct : Value) (us : List Value) (hl : us.length = P_works.length) : bindArgs (PySem.W.fnOf "_law_works" "_law_works" (defArgs s_works) (defBody s_works) (defScope s_works) .none kV doc pm an cdv ct) ⟨us, []⟩ = pure (P_works.zip us) := match us, hl with | [_, _, _], _ => rfl
theorem D_works (X : K.In h) (G : h.Ns mainGlobals mg) (c : He.SaysD faL fnL K) : DfC K mg "_law_works" s_works P_works (He.codeOf K ("_law_works", none)) := df_of X G c (List.mem_of_getElem? (i := 33) rfl) (memG (by decide)) b_works
theorem b_single (kV doc pm : Value) (an : Option Addr) (cdv ct : Value) (us : List Value) (hl : us.length = P_single.length) : bindArgs (PySem.W.fnOf "_law_single" "_law_single" (defArgs s_single) (defBody s_single) (defScope s_single) .none kV doc pm an cdv ct) ⟨us, []⟩ = pure (P_single.zip us) := match us, hl with | [_, _], _ => rfl
theorem D_single (X : K.In h) (G : h.Ns mainGlobals mg) (c : He.SaysD faL fnL K) : DfC K mg "_law_single" s_single P_single (He.codeOf K ("_law_single", none)) := df_of X G c (List.mem_of_getElem? (i := 34) rfl) (memG (by decide)) b_single
theorem b_bad (kV doc pm : Value) (an : Option Addr) (cdv ct : Value) (us : List Value) (hl : us.length = P_bad.length) : bindArgs (PySem.W.fnOf "_law_bad" "_law_bad" (defArgs s_bad) (defBody s_bad) (defScope s_bad) .none kV doc pm an cdv ct) ⟨us, []⟩ = pure (P_bad.zip us) := match us, hl with | [_, _], _ => rfl
theorem D_bad (X : K.In h) (G : h.Ns mainGlobals mg) (c : He.SaysD faL fnL K) : DfC K mg "_law_bad" s_bad P_bad (He.codeOf K ("_law_bad", none)) := df_of X G c (List.mem_of_getElem? (i := 35) rfl) (memG (by decide)) b_bad
theorem b_odd (kV doc pm : Value) (an : Option Addr) (cdv ct : Value) (us : List Value) (hl : us.length = P_odd.length) : bindArgs (PySem.W.fnOf "_law_odd" "_law_odd" (defArgs s_odd) (defBody s_odd) (defScope s_odd) .none kV doc pm an cdv ct) ⟨us, []⟩ = pure (P_odd.zip us) := match us, hl with | [_, _], _ => rfl
theorem D_odd (X : K.In h) (G : h.Ns mainGlobals mg) (c : He.SaysD faL fnL K) : DfC K mg "_law_odd" s_odd P_odd (He.codeOf K ("_law_odd", none)) := df_of X G c (List.mem_of_getElem? (i := 36) rfl) (memG (by decide)) b_odd
theorem b_law (kV doc pm : Value) (an : Option Addr) (cdv ct : Value) (us : List Value) (hl : us.length = P_law.length) : bindArgs (PySem.W.fnOf "law" "law" (defArgs s_law) (defBody s_law) (defScope s_law) .none kV doc pm an cdv ct) ⟨us, []⟩ = pure (P_law.zip us) := match us, hl with | [_], _ => rfl
theorem D_law (X : K.In h) (G : h.Ns mainGlobals mg) (c : He.SaysD faL fnL K) : DfC K mg "law" s_law P_law (He.codeOf K ("law", none)) := df_of X G c (List.mem_of_getElem? (i := 37) rfl) (memG (by decide)) b_law
theorem law_at {as : List Addr} {w : World} {fa : Addr} (Y : (hkL as).says w h) (G : h.Ns mainGlobals mg) (hmg : mg "law" = some (.ref fa)) : ∃ K : PySem.W.Frag, K.In h ∧ LamX.LawAtS PySem.Challenge.rw_endshare_k01_fields_and_hands_refused w K CX0 10 63 "_law_script" mg fa h := by
  obtain ⟨K, X, c0⟩ := Y
  have c := c0.x
  have cd := c.t.d
  have e := c.more
  have bl := bl_of X G cd
  have cn := cn_of X G cd e
  have cnH := cnH_of X G cd e
  have cnG := cnG_of X G cd e
  have ek := ek_of X G cd
  have ei0 := ei0_of e cd
  have inf0 : IniF PySem.Challenge.rw_endshare_k01_fields_and_hands_refused.prog K mg i_Fields (ec K 0) := by
    obtain ⟨h1, h2⟩ := c0.ini i_Fields (by simp [isL])
    exact iniF_of h1 h2 (He.free_ok X G (cd.facts (memF (x := "super") (by decide)))) (by decide +kernel)
  have ei1 := ei1_of e cd
  have inf1 : IniF PySem.Challenge.rw_endshare_k01_fields_and_hands_refused.prog K mg i_Hand (ec K 1) := by
    obtain ⟨h1, h2⟩ := c0.ini i_Hand (by simp [isL])
    exact iniF_of h1 h2 (He.free_ok X G (cd.facts (memF (x := "super") (by decide)))) (by decide +kernel)
  let T : Tb := ⟨[(He.cT K ("are_small_letters", none)).2], [((He.cT K ("law", none)).2, ql), ((He.cT K ("_law_works", none)).2, qW), ((He.cT K ("_law_single", none)).2, qS)], fun p hp q hq => by
    have hp2 : p ∈ [(He.cT K ("are_small_letters", none)).2] := hp
    have hq2 : q ∈ [((He.cT K ("law", none)).2, ql), ((He.cT K ("_law_works", none)).2, qW), ((He.cT K ("_law_single", none)).2, qS)] := hq
    simp only [List.mem_cons, List.not_mem_nil, or_false] at hp2 hq2
    rcases hp2 with rfl <;> rcases hq2 with rfl | rfl | rfl
    · exact of_decide_eq_true (He.ba (He.ba (He.ba (He.ba (He.ba (He.ba (He.ba (He.ba (He.ba (He.ba (He.ba e).2).2).2).2).2).2).2).2).2).2).1
    · exact of_decide_eq_true (He.ba (He.ba (He.ba (He.ba (He.ba (He.ba (He.ba (He.ba (He.ba (He.ba (He.ba (He.ba e).2).2).2).2).2).2).2).2).2).2).2).1
    · exact of_decide_eq_true (He.ba (He.ba (He.ba (He.ba (He.ba (He.ba (He.ba (He.ba (He.ba (He.ba (He.ba (He.ba (He.ba e).2).2).2).2).2).2).2).2).2).2).2).2).1⟩
  obtain ⟨f, oc, kV, doc, pm, ct, od, an, osl, lk, hcd, hm, hk, hb⟩ := (D_law X G cd).ex
  rw [hm] at hmg
  cases hmg
  refine ⟨K, X, PySem.W.fnOf "law" "law" (defArgs s_law) (defBody s_law) (defScope s_law) .none kV doc pm an (.ref (He.codeOf K ("law", none))) ct, tfL.map (He.cT K), spLaw T K, ?_, ?_, ?_, fun s u => .of_eq (b_law kV doc pm an (.ref (He.codeOf K ("law", none))) ct [u] rfl), fun H a ns hl _ hT hS => ?_, fun base KB GB TB => ?_⟩
  · intro p hp
    obtain ⟨q, hq, rfl⟩ := List.mem_map.mp hp
    exact c.empty q hq
  · intro p hp
    obtain ⟨q, hq, rfl⟩ := List.mem_map.mp hp
    exact c.out q hq
  · intro p hp
    obtain ⟨q, hq, rfl⟩ := List.mem_map.mp hp
    exact PySem.W.codeHd_of_K X (c.hd q hq)
  · obtain ⟨B, o, hB⟩ := ok_start (T := T) hS (fun p hp => by
        have hp2 : p = (He.cT K ("are_small_letters", none)).2 := List.mem_singleton.mp hp
        rw [hp2]
        exact hT _ (List.mem_map.mpr ⟨("are_small_letters", none), (.head _), rfl⟩)) (fun r hr => by
        have hr2 : r ∈ [((He.cT K ("law", none)).2, ql), ((He.cT K ("_law_works", none)).2, qW), ((He.cT K ("_law_single", none)).2, qS)] := hr
        simp only [List.mem_cons, List.not_mem_nil, or_false] at hr2
        rcases hr2 with rfl | rfl | rfl
        · exact hT _ (List.mem_map.mpr ⟨("law", none), (.tail _ (.head _)), rfl⟩)
        · exact hT _ (List.mem_map.mpr ⟨("_law_works", none), (.tail _ (.tail _ (.head _))), rfl⟩)
        · exact hT _ (List.mem_map.mpr ⟨("_law_single", none), (.tail _ (.tail _ (.tail _ (.head _)))), rfl⟩))
    exact ⟨a, ns, B, rfl, o, hB, hl, fun _ => rfl⟩
  · have t_are_small_letters := TB _ (List.mem_map.mpr ⟨("are_small_letters", none), (.head _), rfl⟩)
    have hT_are_small_letters : (He.cT K ("are_small_letters", none)).2 ∈ T.g := (.head _)
    have hTl_law : ((He.cT K ("law", none)).2, ql) ∈ T.l := (.head _)
    have hul_law : ∀ r ∈ T.l, r.1 = (He.cT K ("law", none)).2 → r.2 = ql := fun r hr h1 => by
      have hr2 : r ∈ [((He.cT K ("law", none)).2, ql), ((He.cT K ("_law_works", none)).2, qW), ((He.cT K ("_law_single", none)).2, qS)] := hr
      simp only [List.mem_cons, List.not_mem_nil, or_false] at hr2
      rcases hr2 with rfl | rfl | rfl
      · rfl
      · exact absurd h1.symm (of_decide_eq_true (He.ba (He.ba (He.ba (He.ba (He.ba (He.ba (He.ba (He.ba (He.ba (He.ba (He.ba (He.ba (He.ba (He.ba e).2).2).2).2).2).2).2).2).2).2).2).2).2).1)
      · exact absurd h1.symm (of_decide_eq_true (He.ba (He.ba (He.ba (He.ba (He.ba (He.ba (He.ba (He.ba (He.ba (He.ba (He.ba (He.ba (He.ba (He.ba (He.ba e).2).2).2).2).2).2).2).2).2).2).2).2).2).2).1)
    have hTl__law_works : ((He.cT K ("_law_works", none)).2, qW) ∈ T.l := (.tail _ (.head _))
    have hul__law_works : ∀ r ∈ T.l, r.1 = (He.cT K ("_law_works", none)).2 → r.2 = qW := fun r hr h1 => by
      have hr2 : r ∈ [((He.cT K ("law", none)).2, ql), ((He.cT K ("_law_works", none)).2, qW), ((He.cT K ("_law_single", none)).2, qS)] := hr
      simp only [List.mem_cons, List.not_mem_nil, or_false] at hr2
      rcases hr2 with rfl | rfl | rfl
      · exact absurd h1 (of_decide_eq_true (He.ba (He.ba (He.ba (He.ba (He.ba (He.ba (He.ba (He.ba (He.ba (He.ba (He.ba (He.ba (He.ba (He.ba e).2).2).2).2).2).2).2).2).2).2).2).2).2).1)
      · rfl
      · exact absurd h1.symm (of_decide_eq_true (He.ba (He.ba (He.ba (He.ba (He.ba (He.ba (He.ba (He.ba (He.ba (He.ba (He.ba (He.ba (He.ba (He.ba (He.ba e).2).2).2).2).2).2).2).2).2).2).2).2).2).2).2)
    have hTl__law_single : ((He.cT K ("_law_single", none)).2, qS) ∈ T.l := (.tail _ (.tail _ (.head _)))
    have hul__law_single : ∀ r ∈ T.l, r.1 = (He.cT K ("_law_single", none)).2 → r.2 = qS := fun r hr h1 => by
      have hr2 : r ∈ [((He.cT K ("law", none)).2, ql), ((He.cT K ("_law_works", none)).2, qW), ((He.cT K ("_law_single", none)).2, qS)] := hr
      simp only [List.mem_cons, List.not_mem_nil, or_false] at hr2
      rcases hr2 with rfl | rfl | rfl
      · exact absurd h1 (of_decide_eq_true (He.ba (He.ba (He.ba (He.ba (He.ba (He.ba (He.ba (He.ba (He.ba (He.ba (He.ba (He.ba (He.ba (He.ba (He.ba e).2).2).2).2).2).2).2).2).2).2).2).2).2).2).1)
      · exact absurd h1 (of_decide_eq_true (He.ba (He.ba (He.ba (He.ba (He.ba (He.ba (He.ba (He.ba (He.ba (He.ba (He.ba (He.ba (He.ba (He.ba (He.ba e).2).2).2).2).2).2).2).2).2).2).2).2).2).2).2)
      · rfl
    have t_law := TB _ (List.mem_map.mpr ⟨("law", none), (.tail _ (.head _)), rfl⟩)
    have t__law_works := TB _ (List.mem_map.mpr ⟨("_law_works", none), (.tail _ (.tail _ (.head _))), rfl⟩)
    have t__law_single := TB _ (List.mem_map.mpr ⟨("_law_single", none), (.tail _ (.tail _ (.tail _ (.head _)))), rfl⟩)
    have ini0 := ini_Fields (w := w) inf0 ek.g0 KB
    have ini1 := ini_Hand (w := w) inf1 ek.g1 KB
    have k_off : Kp PySem.Challenge.rw_endshare_k01_fields_and_hands_refused.prog w K mg base CX0 1 "_law_off" P_off (spRd K T SOff) := k_offD_ (k_off_ (D_off X G cd).df bl)
    have k_mixed : Kp PySem.Challenge.rw_endshare_k01_fields_and_hands_refused.prog w K mg base CX0 2 "_law_mixed" P_mixed (spRd K T SMixed) := k_mixedD_ (k_mixed_ (D_mixed X G cd).df bl (k_off_ (D_off X G cd).df bl))
    have k_names : Kp PySem.Challenge.rw_endshare_k01_fields_and_hands_refused.prog w K mg base CX0 3 "_law_names" P_names (spRd K T SNames) := k_namesD_ (D_names X G cd).df bl k_off k_mixed
    have k_fields : Kp PySem.Challenge.rw_endshare_k01_fields_and_hands_refused.prog w K mg base CX0 4 "_law_fields" P_fields (spRd K T SFields) := k_fieldsD_ (D_fields X G cd).df bl k_off k_names
    have k_hand : Kp PySem.Challenge.rw_endshare_k01_fields_and_hands_refused.prog w K mg base CX0 2 "_law_hand" P_hand (spRd K T SHand) := k_handD_ (D_hand X G cd).df bl k_off
    have k_dice : Kp PySem.Challenge.rw_endshare_k01_fields_and_hands_refused.prog w K mg base CX0 1 "_law_dice" P_dice (spDice T K) := k_dice_ (D_dice X G cd).df bl
    have k_is_whole0 : Kp PySem.Challenge.rw_endshare_k01_fields_and_hands_refused.prog w K mg base CX0 1 "is_whole" P_is_whole (spWhole) := k_is_whole_ (D_is_whole X G cd).df bl
    have k_is_whole : True := trivial
    have k_is_size : Kp PySem.Challenge.rw_endshare_k01_fields_and_hands_refused.prog w K mg base CX0 2 "is_size" P_is_size (spSize) := k_is_size_ (D_is_size X G cd).df bl cn k_is_whole0
    have k_are_small_letters : Kp PySem.Challenge.rw_endshare_k01_fields_and_hands_refused.prog w K mg base CX0 2 "are_small_letters" P_are_small_letters (spSmall T) := k_are_small_letters_ (D_are_small_letters X G cd) bl cn (tabG_of t_are_small_letters) hT_are_small_letters
    have k_is_name : Kp PySem.Challenge.rw_endshare_k01_fields_and_hands_refused.prog w K mg base CX0 3 "is_name" P_is_name (spName T) := k_is_name_ (D_is_name X G cd).df bl cn k_are_small_letters
    have k_check_fieldsG := k_check_fields_ (D_check_fields X G cd).df bl cn k_is_name k_is_size
    have k_check_handG : Kp PySem.Challenge.rw_endshare_k01_fields_and_hands_refused.prog w K mg base CX0 3 "check_hand" P_check_hand (spCkH T K) := k_check_hand_ (D_check_hand X G cd).df bl cnH k_is_size
    have k_step_of : Kp PySem.Challenge.rw_endshare_k01_fields_and_hands_refused.prog w K mg base CX0 1 "step_of" P_step_of (spStepOf K) := k_step_of_ (D_step_of X G cd).df bl
    have k_first_multiple : Kp PySem.Challenge.rw_endshare_k01_fields_and_hands_refused.prog w K mg base CX0 1 "first_multiple" P_first_multiple (spFirst) := k_first_multiple_ (D_first_multiple X G cd).df bl
    have k_placed : Kp PySem.Challenge.rw_endshare_k01_fields_and_hands_refused.prog w K mg base CX0 2 "_placed" P_placed (spPlaced T K) := k_placed_ (D_placed X G cd).df bl k_step_of k_first_multiple
    have k_laidG := k_laidD_ (k_laid_ (D_laid X G cd).df bl k_check_fieldsG k_check_handG k_placed)
    have k_best_behind : Kp PySem.Challenge.rw_endshare_k01_fields_and_hands_refused.prog w K mg base CX0 2 "_best_behind" P_best_behind (spBest T) := k_best_behind_ (D_best_behind X G cd).df bl cnG k_first_multiple
    have k_filledG := k_filledD_ (k_filled_ (D_filled X G cd).df bl k_check_fieldsG k_check_handG k_step_of k_best_behind)
    have k_check_fields := k_check_fieldsX_ (D_check_fields X G cd).df bl cn ini0 k_is_name k_is_size
    have k_check_hand : Kp PySem.Challenge.rw_endshare_k01_fields_and_hands_refused.prog w K mg base (L2N.CX PySem.Challenge.rw_endshare_k01_fields_and_hands_refused.prog w) 3 "check_hand" P_check_hand (spX K T (SCkHX (ec K))) := k_check_handX_ (D_check_hand X G cd).df bl cnH ini1 k_is_size
    have k_laidX := k_laidX_ k_check_fields k_check_hand (D_laid X G cd).df bl (k_placedD_ k_placed)
    have k_field_inR := k_field_inR_ k_laidX (D_field_in X G cd).df
    have k_putR := k_putR_ k_field_inR (D_put X G cd).df
    have k_lookR := k_lookR_ k_field_inR (D_look X G cd).df
    have k_spreadR := k_spreadR_ k_check_fields k_check_hand (D_spread X G cd).df
    have k_filledR := k_filledR_ k_check_fields k_check_hand (D_filled X G cd).df
    have k_ledR := k_ledR_ k_laidX (D_led X G cd).df
    have k_unlikeR := k_unlikeR_ k_laidX (D_unlike X G cd).df
    have k_checked_placesR := k_checked_placesR_ k_filledR (D_checked_places X G cd).df
    have k_playedR := k_playedR_ k_checked_placesR (D_played X G cd).df
    have k_endsR := k_endsR_ k_checked_placesR (D_ends X G cd).df
    have k_tornR := k_tornR_ k_checked_placesR (D_torn X G cd).df
    have k_widenedR := k_widenedR_ k_checked_placesR (D_widened X G cd).df
    have k_writtenR := k_writtenR_ k_check_fields (D_written X G cd).df
    have k_bad : Kp PySem.Challenge.rw_endshare_k01_fields_and_hands_refused.prog w K mg base CX0 2 "_law_bad" P_bad (spRd K T (SBad (ec K))) := k_bad_ (D_bad X G cd).df bl k_off
    have k_odd := k_odd_ (D_odd X G cd).df bl k_off
    have k_works := k_works_ (D_works X G cd) bl t__law_works hTl__law_works hul__law_works k_filledR k_ledR k_unlikeR k_playedR k_tornR k_endsR k_widenedR
    have k_single := k_single_ (D_single X G cd) bl t__law_single hTl__law_single hul__law_single k_laidX k_spreadR k_putR k_lookR
    have kis : KpX PySem.Challenge.rw_endshare_k01_fields_and_hands_refused.prog w K mg base 1 "_law_is" P_is (spIsD T K (ec K)) := k_isD_ (D_is X G cd).df bl ek
    have kal : KpX PySem.Challenge.rw_endshare_k01_fields_and_hands_refused.prog w K mg base 1 "_law_alike" P_alike (spAlF T) := k_alikeF_ (D_alike X G cd).df bl
    exact k_law_ lk hcd bl t_law hTl_law hul_law (D_refused X G cd).df ek ei0 ei1 ⟨inf0.xf, inf0.no _ (by simp)⟩ ⟨inf1.xf, inf1.no _ (by simp)⟩ kis kal k_dice k_off k_fields k_hand k_laidG k_filledG k_bad k_odd k_works k_single k_writtenR
end
end Rw

namespace Rw
open PySem PySem.Spec PyProof.Rows L2 Ub
def lo0 : List Str := ["cells_of", "number_in", "is_whole", "is_size", "are_small_letters", "is_name", "is_gap", "can_have", "check_fields", "check_hand", "check_gaps", "check_memory", "check_programs", "_is_deed", "laid", "spread", "filled", "step_of", "first_multiple", "_placed", "_best_behind", "written", "put", "look", "led", "unlike", "_field_in", "_figure_cells", "checked_places", "plans_of"]
def lo1 : List Str := ["_steps", "_parts", "played", "ends", "torn", "widened", "_with_wide", "_first_state", "_steps_in_all", "_has_step", "_moved", "_watched", "_all_watched", "_told", "_first_torn", "_torn_behind", "_is_torn", "_law_dice", "_law_off", "_law_alike", "_law_mixed", "_law_is", "_law_refused", "_law_names", "_law_fields", "_law_hand", "_law_works", "_law_single", "_law_bad", "_law_odd"]
def lo2 : List Str := ["LIMITS", "LETTERS", "LONGEST_NAME", "MOST_FIELDS", "MOST_DEEDS", "SIZES", "ORDERS", "WAYS", "MOST_GAP", "WIDES", "ShareError", "BadFields", "BadHand", "BadMemory", "NoField", "BadNumber", "BadDeed", "BadText", "Step", "Plan"]
def looseL : List Str := lo0 ++ (lo1 ++ (lo2))
def as0 : List Addr := [3, 2, 24, 46, 67, 88, 100, 112, 133, 154, 157, 172, 173, 174, 181, 188, 195, 202, 223, 230, 265, 272, 279, 286, 293, 300, 307, 312, 319, 326, 333, 340, 347, 403, 437]
def as1 : List Addr := [442, 449, 454, 536, 543, 548, 555, 560, 567, 574, 579, 586, 593, 600, 605, 610, 615, 23, 45, 66, 180, 187, 194, 201, 222, 229, 264, 271, 278, 285, 292, 299, 306, 311, 318]
def as2 : List Addr := [325, 332, 339, 346, 402, 436, 441, 448, 453, 535, 542, 547, 554, 559, 566, 573, 578, 585, 592, 599, 604, 609, 614, 43, 64, 42, 31, 63, 52]
def asL : List Addr := as0 ++ (as1 ++ (as2))
abbrev rwL : PySem.W.OpenRow := PySem.W.OpenLaw.row PySem.Challenge.rw_endshare_k01_fields_and_hands_refused
abbrev obL : PySem.W.SharedT → (hkL asL).α := obJ asL faL fnL tfL exL flL isL
theorem runF (w : World) : HandSHeadRun.RunEq rwL (PySem.W.view rwL.prog [89]) (hkL asL) obL 9000 looseL (World.withFollow w "special-get-raises" false) := by intro os; kernel_rfl
theorem runT (w : World) : HandSHeadRun.RunEq rwL (PySem.W.view rwL.prog [89]) (hkL asL) obL 9000 looseL (World.withFollow w "special-get-raises" true) := by intro os; kernel_rfl
theorem runL_ (w : World) : HandSHeadRun.RunEq rwL (PySem.W.view rwL.prog [89]) (hkL asL) obL 9000 looseL w :=
  PySem.W.byRow2 "special-get-raises" (P := fun w => HandSHeadRun.RunEq rwL (PySem.W.view rwL.prog [89]) (hkL asL) obL 9000 looseL w) runF runT w
end Rw
open PySem PySem.W PySem.Calls PyProof.Rows
theorem PySem.Challenge.cw_endshare_k01_fields_and_hands_refused_holds : PySem.Challenge.rw_endshare_k01_fields_and_hands_refused.Holds := by
  w_on; o_law
  refine HandSHeadRun.head_any (r := Rw.rwL) (q := PySem.W.view Rw.rwL.prog [89]) (H := Rw.hkL Rw.asL) (ob := Rw.obL) (M := 9000) (loose := Rw.looseL) (d := HandSHeadRun.topDef Rw.rwL.prog 89) (kwd := []) (Ub.obJ_eq _ _ _ _ _ _ _)
    (by kernel_rfl) (fun s => by kernel_rfl) Rw.runL_ (by kernel_rfl) (by kernel_rfl) (by kernel_rfl) (by rfl) (by first | assumption | decide +kernel) (by decide +kernel) ⟨rfl, rfl, rfl, rfl, rfl, by decide +kernel⟩ ?hw ?hc
  case hw => w_witness2
  case hc =>
    exact LamX.walk_ofTsE (l := PySem.Challenge.rw_endshare_k01_fields_and_hands_refused) (n := 63) (k := 10) (x := "_law_script") (CX := fun _ => L2.CX0) rfl (by decide) (by kernel_rfl) ⟨rfl, by decide, by decide⟩ (fun w mg fa h Y G hmg0 => by
      have hmg : mg ("law" : PySem.Str) = some (.ref fa) := by
        have e : (HandSHeadRun.topDef Rw.rwL.prog 89).name = ("law" : PySem.Str) := by kernel_rfl
        rw [← e]
        exact hmg0
      exact Rw.law_at Y G hmg) (fun _ _ _ _ _ z => z)

