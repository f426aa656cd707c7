import PyProof.Rows.All
import Wide.All
import OpenK.AllK
import Wide.FinOn
import HandS.ForMost
import HandS.EndTab
import HandS.IsInst
import HandS.Flow
import HandS.TupAny
import HandS.AnyAll
import HandS.Style
import PyProof.ReprRoads
import HandS.NoneIn
import HandS.Zip
import HandS.GenList
import PyProof.TupleOfGen
import PyProof.CollectWalk
import PyProof.CollectStr
import HandS.Conv
import HandS.Dict
import PyProof.Rows.CountFlat
import KE.SortData
import PyProof.TupleOfSeq
import HandS.ExcValue
import PyProof.Rows.InDataRows
import PyProof.Draws
import PyProof.EnumMake
import PySem.Challenge.RW_oncestream_k19_barriers_and_channels
import HandS.Small
import KE.KExcLine
import HandS.ExcInit
import HandS.ExcField
import HandS.Nested
import HandS.FStr
import KE.KExcIs
import HandS.WordsExc
import PyProof.Rows.ReprOcc
import PyProof.Rows.RegFStrParts
import PyProof.P3Eq
import KE.RegKSuper
set_option Elab.async false
set_option linter.all false
set_option maxRecDepth 100000
set_option maxHeartbeats 2000000
/-! Dl0: a def's promise where no recursion guard is held (so that repr of data shows it whole). -/
namespace Dl
open PySem PySem.Spec PyProof.Rows L2
structure FnG (P : Program) (w : World) (K : PySem.W.Frag) (mg : Str → Option Value) (base : Heap) (k : Nat) (f : Addr) (fd : FuncData) (ps : List Str) (sp : Sp) : Prop where
  many : ∀ vs H Q E, sp vs H Q E → vs.length = ps.length
  goes : ∀ (A : Around) (out : List Env) (s : Shared) (H : Hp) (args : Args) (us : List Value) (vs : List V) (Q : VK) (E : XK), A.guards = some [] → Room k A → Env0 P w K mg base A out s H → BindsTo s fd args (ps.zip us) → Vals vs us → sp vs H Q E →
    codeAny (model P w) A (.call (.ref f) args) (CR CX0 out P w H s Q E) s
section
variable {P : Program} {w : World} {K : PySem.W.Frag} {mg : Str → Option Value} {base : Heap}
theorem FnG.up {j k : Nat} {f : Addr} {fd : FuncData} {ps : List Str} {sp : Sp} (h : FnG P w K mg base j f fd ps sp) (hj : j ≤ k) : FnG P w K mg base k f fd ps sp :=
  ⟨h.many, fun A out s H args us vs Q E g r => h.goes A out s H args us vs Q E g (r.mono hj)⟩
theorem FnG.ofOk {k : Nat} {f : Addr} {fd : FuncData} {ps : List Str} {sp : Sp} (h : FnOk P w K mg base CX0 k f fd ps sp) : FnG P w K mg base k f fd ps sp :=
  ⟨h.len, fun A out s H args us vs Q E _ r => h.run A out s H args us vs Q E r⟩
/-- a def of the text, by its body -/
theorem fnG_at {x qual : Str} {st : Stmt} {f : Addr} {N ps : List Str} {k : Nat} {sp : Sp} {oc : Value} {od : Option Addr} {kV doc pm : Value} {an : Option Addr} {cdv ct : Value} {osl : Array (Option Value)}
    (lk : K.lookup f = some ⟨oc, od, .func (PySem.W.fnOf x qual (defArgs st) (defBody st) (defScope st) .none kV doc pm an cdv ct), osl⟩) (hcd : PySem.W.codeIn K cdv qual = true) (Sc : FnScope N ps (defScope st)) (hlen : ∀ vs H Q E, sp vs H Q E → vs.length = ps.length)
    (body : ∀ (A : Around) (out : List Env) (s : Shared) (H : Hp) (vs : List V) (Q : VK) (E : XK), A.guards = some [] → Room k (A.deeper (envOfC qual (defScope st) s.heap.objs.size f cdv)) → sp vs H Q E →
      ∃ t, PSs (cxOf CX0 P w K mg base N qual (defScope st) f cdv A out s H E).nox (defBody st) t ∧ t { nx := fun _ H' => Q .non H', rt := Q } (start N vs) H) : FnG P w K mg base (k + 1) f (PySem.W.fnOf x qual (defArgs st) (defBody st) (defScope st) .none kV doc pm an cdv ct) ps sp := by
  constructor
  · exact hlen
  intro A out s H args us vs Q E g hr e0 hb rv hsp
  have hn := hlen _ _ _ _ hsp
  have inK : K.In s.heap := e0.mod.kin.keeps (fun b o z => (e0.bs b o z).1)
  have noL : s.heap.NoLimit := e0.mod.nolimit.keeps (fun b o z => (e0.bs b o z).1)
  have kinds : ∀ y ∈ ps.zip us, (defScope st).names.lookup y.1 = some .local ∨ ((defScope st).names.lookup y.1 = some .cell ∧ ((cellsFrom (s.heap.objs.size + 1) (defScope st).names []).lookup y.1).isSome = true) := by
    rintro ⟨m, u⟩ hy
    cases Sc.par m (List.of_mem_zip hy).1 with
    | inl z => exact Or.inl z
    | inr z => exact Or.inr ⟨z, PySem.W.cellsFrom_some _ _ _ (Or.inl z)⟩
  apply codeAny_call_function hr.depth (inK _ _ lk) rfl Sc.co Sc.gen rfl (PySem.W.codeRec_of inK hcd)
  apply hb
  apply wpAny_newFunctionEnv_cells Sc.kind kinds
  rintro env rfl s1 ic
  refine ⟨noL.keeps ic.toInCall.keep, codeAny_func ?_⟩
  obtain ⟨t, pt, qt⟩ := body A out s H vs Q E g (hr.deeper _) hsp
  have J := inv_start (CX := CX0) (E := E) Sc hr.hd e0 hn rv ic
  have run := pt.nox.run [] s1 (start N vs) H _ J qt
  refine wpAny_mono run ?_ (fun _ _ z => z)
  intro fl s' z
  have ends : ∀ (σ' : L2.St) (H' : Hp) (v : V) (u : Value), Inv (cxOf CX0 P w K mg base N qual (defScope st) f cdv A out s H E) [] σ' H' s' → RelV v u → Q v H' → CE out P w H s Q u s' :=
    fun _ H' v _ I rr qq => ⟨v, H', I.os, I.bare, I.base, I.hok, rr, qq⟩
  match fl, z with
  | .ret u, ⟨v, σ', H', I, rr, qq⟩ => exact ends σ' H' v u I rr qq
  | .next, ⟨σ', H', I, qq⟩ => exact ends σ' H' .non .none I rfl qq
  | .brk, ⟨_, _, _, qq⟩ => exact qq.elim
  | .cont, ⟨_, _, _, qq⟩ => exact qq.elim
end
section
variable {P : Program} {w : World} {K : PySem.W.Frag} {mg : Str → Option Value} {base : Heap}
theorem fnG_of {x qual : Str} {st : Stmt} {f : Addr} {fd : FuncData} {N ps : List Str} {k : Nat} {sp : Sp} (Fn : Fun K x qual st f fd) (Sc : FnScope N ps (defScope st)) (hlen : ∀ vs H Q E, sp vs H Q E → vs.length = ps.length)
    (body : ∀ (cdv : Value) (A : Around) (out : List Env) (s : Shared) (H : Hp) (vs : List V) (Q : VK) (E : XK), A.guards = some [] → Room k (A.deeper (envOfC qual (defScope st) s.heap.objs.size f cdv)) → sp vs H Q E →
      ∃ t, PSs (cxOf CX0 P w K mg base N qual (defScope st) f cdv A out s H E).nox (defBody st) t ∧ t { nx := fun _ H' => Q .non H', rt := Q } (start N vs) H) : FnG P w K mg base (k + 1) f fd ps sp := by
  obtain ⟨oc, od, kV, doc, pm, an, cdv, ct, osl, rfl, lk, hcd⟩ := Fn.ex
  exact fnG_at lk hcd Sc hlen (body cdv)
end
section
variable {X : Cx} {k : Nat} {f : Addr} {fd : FuncData} {ps : List Str} {sp : Sp} {x : Str} {p pos : Pos} {e : Expr} {es : List Expr} {t : TA}
theorem goG {pins : List (Addr × Obj)} {σ : L2.St} {H : Hp} {s : Shared} {Q : VK} {us : List Value} {vs : List V} (Fn : FnG X.prog X.w X.K X.mg X.base k f fd ps sp) (g : X.A.guards = some []) (hr : Room k X.A) (hb : Binds X.K fd ps [])
    (I : Inv X pins σ H s) (rv : Vals vs us) (h : sp vs H Q E0) : wpAny (model X.prog X.w) X.A (call (.ref f) us) (EP X pins σ Q) X.xe s := by
  have hl : (us ++ []).length = ps.length := by
    rw [List.append_nil, ← rv.length]
    exact Fn.many _ _ _ _ h
  have bd := hb s us I.kIn hl
  rw [List.append_nil] at bd
  apply wpAny_call
  refine codeAny_mono (Fn.goes X.A X.stack s H ⟨us, []⟩ us vs Q E0 g hr I.env0 bd rv h) ?_
  intro r s' z
  match r, z with
  | .ok (.ret u), z => exact I.after z
  | .ok .next, z => exact z.elim
  | .ok .brk, z => exact z.elim
  | .ok .cont, z => exact z.elim
  | .error _, z => exact z.elim
def tGo (sp : Sp) (t : TA) : TE := fun σ H Q => t σ H fun vs H1 => sp vs H1 Q E0
theorem pe_go (Fn : FnG X.prog X.w X.K X.mg X.base k f fd ps sp) (g : X.A.guards = some []) (hr : Room k X.A) (hg : Gl X x) (hm : X.mg x = some (.ref f)) (hk : PySem.W.keepIn X.K (.ref f) = true) (hb : Binds X.K fd ps [])
    (ha : PA X (e :: es) t) (hdb : (x == ("__debug__" : Str)) = false := by decide) (he : starEach (e :: es) X.env = (false, eval e X.env) :: starEach es X.env := by rfl) (hpl : (backTo pos (starEach es X.env)).any (·.1) = false := by rfl) :
    PE X (.Call (.Name x p) (e :: es) [] pos) (tGo sp t) := by
  constructor
  intro pins s σ H Q I h
  apply wpAny_Call_Name_kw (ld_glob I hg hm ?_ hdb)
  apply PySem.W.callWith_K (h₀ := X.base) I.ok.mod.kin hk _ he hpl
  refine thn (ha.run pos pins s σ H _ I h) ?_
  rintro us s1 ⟨vs, H1, I1, r1, q1⟩
  exact ⟨I1.kIn, goG Fn g hr hb I1 r1 q1⟩
theorem pe_go0 (Fn : FnG X.prog X.w X.K X.mg X.base k f fd ps sp) (g : X.A.guards = some []) (hr : Room k X.A) (hg : Gl X x) (hm : X.mg x = some (.ref f)) (hk : PySem.W.keepIn X.K (.ref f) = true) (hb : Binds X.K fd ps [])
    (hdb : (x == ("__debug__" : Str)) = false := by decide) : PE X (.Call (.Name x p) [] [] pos) (tGo sp tNil) := by
  constructor
  intro pins s σ H Q I h
  apply wpAny_Call_Name_kw (ld_glob I hg hm ?_ hdb)
  exact PySem.W.callWith_K0 I.kIn hk (goG (us := []) Fn g hr hb I .nil h)
end
end Dl

set_option Elab.async false
set_option linter.all false
set_option maxRecDepth 100000
set_option maxHeartbeats 2000000
/-! Dl: a data layer over the hand layer. A def's body is read as a program over data (PyData) and a few mutable slots. -/
namespace Dl
open PySem PySem.Spec PyProof.Rows L2
abbrev D := PyData

/-! ### heaps -/
def Sub (F H : Hp) : Prop := ∀ a o, F a = some o → H a = some o
theorem Sub.refl (H : Hp) : Sub H H := fun _ _ h => h
theorem Sub.trans {F H H' : Hp} (a : Sub F H) (b : Sub H H') : Sub F H' := fun x o h => b x o (a x o h)
theorem Sub.new {H : Hp} {p : Addr} {o : HO} (h : H p = none) : Sub H (upd H p o) := fun a u e => by
  rw [upd_ne (ne_of_none e h)]; exact e
theorem Sub.isNone {F H : Hp} (s : Sub F H) {p : Addr} (h : H p = none) : F p = none := by
  cases e : F p with
  | none => rfl
  | some o => rw [s p o e] at h; cases h
theorem Sub.upd2 {F H : Hp} (s : Sub F H) {p : Addr} {o : HO} : Sub (upd F p o) (upd H p o) := fun a u e => by
  by_cases h : a = p
  · subst h; rw [upd_same] at e ⊢; exact e
  · rw [upd_ne h] at e ⊢; exact s a u e
theorem Sub.updR {F H : Hp} (s : Sub F H) {p : Addr} {o : HO} (h : F p = none) : Sub F (upd H p o) := fun a u e => by
  rw [upd_ne (ne_of_none e h)]; exact s a u e

theorem sub_rd {H H' : Hp} {a : Addr} {u : HO} (e : Sub H H') (h : Rd H a u) : Rd H' a u := by
  rcases h with h | ⟨o, h⟩
  · exact Or.inl (e a _ h)
  · exact Or.inr ⟨o, e a _ h⟩
theorem sub_l {K : PySem.W.Frag} {H H' : Hp} {a : Addr} {xs : List V} (e : Sub H H') (h : SqL K H a xs) : SqL K H' a xs := by
  rcases h with h | h
  · exact Or.inl (sub_rd e h)
  · exact Or.inr h
theorem sub_t {K : PySem.W.Frag} {H H' : Hp} {a : Addr} {xs : List V} (e : Sub H H') (h : SqT K H a xs) : SqT K H' a xs := by
  rcases h with h | h
  · exact Or.inl (sub_rd e h)
  · exact Or.inr h

/-! ### what stands for what -/
def dKey : Key → D
  | .inl i => .int i
  | .inr x => .str x
mutual
def Rep (K : PySem.W.Frag) (F : Hp) : D → V → Prop
  | .none, v => v = .non
  | .bool b, v => v = .bl b
  | .int i, v => v = .int i
  | .str x, v => v = .str x
  | .list ds, v => ∃ a vs, v = .ref a ∧ F a = some (.lst vs) ∧ RepL K F ds vs
  | .tuple ds, v => ∃ a vs, v = .ref a ∧ SqT K F a vs ∧ RepL K F ds vs
  | .dict kvs, v => ∃ a es, v = .ref a ∧ F a = some (.dK es) ∧ RepE K F kvs es
def RepL (K : PySem.W.Frag) (F : Hp) : List D → List V → Prop
  | [], vs => vs = []
  | d :: ds, vs => ∃ v r, vs = v :: r ∧ Rep K F d v ∧ RepL K F ds r
def RepE (K : PySem.W.Frag) (F : Hp) : List (D × D) → List (Key × V) → Prop
  | [], es => es = []
  | (k, d) :: r, es => ∃ key v es', es = (key, v) :: es' ∧ k = dKey key ∧ Rep K F d v ∧ RepE K F r es'
end
section
variable {K : PySem.W.Frag} {F F' H : Hp}
mutual
theorem Rep.mono (e : Sub F F') : ∀ {d : D} {v : V}, Rep K F d v → Rep K F' d v
  | .none, _, h => h
  | .bool _, _, h => h
  | .int _, _, h => h
  | .str _, _, h => h
  | .list ds, _, ⟨a, vs, h1, h2, h3⟩ => ⟨a, vs, h1, e a _ h2, RepL.mono e h3⟩
  | .tuple ds, _, ⟨a, vs, h1, h2, h3⟩ => ⟨a, vs, h1, sub_t e h2, RepL.mono e h3⟩
  | .dict kvs, _, ⟨a, es, h1, h2, h3⟩ => ⟨a, es, h1, e a _ h2, RepE.mono e h3⟩
theorem RepL.mono (e : Sub F F') : ∀ {ds : List D} {vs : List V}, RepL K F ds vs → RepL K F' ds vs
  | [], _, h => h
  | d :: ds, _, ⟨v, r, h1, h2, h3⟩ => ⟨v, r, h1, Rep.mono e h2, RepL.mono e h3⟩
theorem RepE.mono (e : Sub F F') : ∀ {ds : List (D × D)} {es : List (Key × V)}, RepE K F ds es → RepE K F' ds es
  | [], _, h => h
  | (k, d) :: ds, _, ⟨key, v, r, h1, h2, h3, h4⟩ => ⟨key, v, r, h1, h2, Rep.mono e h3, RepE.mono e h4⟩
end
theorem RepL.length : ∀ {ds : List D} {vs : List V}, RepL K F ds vs → vs.length = ds.length
  | [], _, h => by rw [show _ = [] from h]; rfl
  | d :: ds, _, ⟨v, r, h1, h2, h3⟩ => by rw [h1, List.length_cons, List.length_cons, RepL.length h3]
theorem RepL.get : ∀ {ds : List D} {vs : List V} {i : Nat} {d : D}, RepL K F ds vs → ds[i]? = some d → ∃ v, vs[i]? = some v ∧ Rep K F d v
  | [], _, _, _, _, e => by simp at e
  | d :: ds, _, 0, _, ⟨v, r, h1, h2, h3⟩, e => by
    simp at e; subst e; subst h1; exact ⟨v, rfl, h2⟩
  | d :: ds, _, i + 1, _, ⟨v, r, h1, h2, h3⟩, e => by
    subst h1
    obtain ⟨u, hu, hr⟩ := RepL.get (i := i) h3 (by simpa using e)
    exact ⟨u, by simpa using hu, hr⟩
theorem RepL.append : ∀ {ds es : List D} {vs us : List V}, RepL K F ds vs → RepL K F es us → RepL K F (ds ++ es) (vs ++ us)
  | [], _, _, _, h, h' => by rw [show _ = [] from h]; exact h'
  | d :: ds, _, _, _, ⟨v, r, h1, h2, h3⟩, h' => by
    subst h1; exact ⟨v, r ++ _, rfl, h2, RepL.append h3 h'⟩
theorem RepL.take : ∀ {ds : List D} {vs : List V} (n : Nat), RepL K F ds vs → RepL K F (ds.take n) (vs.take n)
  | _, _, 0, _ => rfl
  | [], _, n + 1, h => by rw [show _ = [] from h]; rfl
  | d :: ds, _, n + 1, ⟨v, r, h1, h2, h3⟩ => by subst h1; exact ⟨v, r.take n, rfl, h2, RepL.take n h3⟩
theorem RepL.drop : ∀ {ds : List D} {vs : List V} (n : Nat), RepL K F ds vs → RepL K F (ds.drop n) (vs.drop n)
  | _, _, 0, h => h
  | [], _, n + 1, h => by rw [show _ = [] from h]; rfl
  | d :: ds, _, n + 1, ⟨v, r, h1, h2, h3⟩ => by subst h1; exact RepL.drop n h3
theorem RepL.map {α : Type} {f : α → D} {g : α → V} (h : ∀ x, Rep K F (f x) (g x)) : ∀ l : List α, RepL K F (l.map f) (l.map g)
  | [] => rfl
  | x :: l => ⟨g x, l.map g, rfl, h x, RepL.map h l⟩
/- data without dicts, as the library's own -/
mutual
def noDict : D → Bool
  | .list ds => noDicts ds
  | .tuple ds => noDicts ds
  | .dict _ => false
  | _ => true
def noDicts : List D → Bool
  | [] => true
  | d :: ds => noDict d && noDicts ds
end
mutual
theorem Rep.dp (e : Sub F H) : ∀ {d : D} {v : V}, noDict d = true → Rep K F d v → Dp K H v d
  | .none, _, _, h => by rw [show _ = V.non from h]; exact .non
  | .bool b, _, _, h => by rw [show _ = V.bl b from h]; exact .bl b
  | .int i, _, _, h => by rw [show _ = V.int i from h]; exact .int i
  | .str x, _, _, h => by rw [show _ = V.str x from h]; exact .str x
  | .list ds, _, n, ⟨a, vs, h1, h2, h3⟩ => by subst h1; exact .lst (.inl (.inl (e _ _ h2))) (RepL.dp e n h3)
  | .tuple ds, _, n, ⟨a, vs, h1, h2, h3⟩ => by subst h1; exact .tup (sub_t e h2) (RepL.dp e n h3)
  | .dict kvs, _, n, _ => by cases n
theorem RepL.dp (e : Sub F H) : ∀ {ds : List D} {vs : List V}, noDicts ds = true → RepL K F ds vs → DpAll K H vs ds
  | [], _, _, h => by rw [show _ = [] from h]; exact .nil
  | d :: ds, _, n, ⟨v, r, h1, h2, h3⟩ => by
    subst h1
    have n' : (noDict d && noDicts ds) = true := n
    rw [Bool.and_eq_true] at n'
    exact .cons (Rep.dp e n'.1 h2) (RepL.dp e n'.2 h3)
end
end

/-! ### states -/
structure Src where
  cells : List Int
  left : Int
  mixed : Int
  turn : Int
inductive Cl where
  | un
  | im (d : D)
  | ow (ds : List D)
  | sr
structure S where
  src : Src
  env : List Cl
abbrev M (α : Type) := S → Option (α × S)
@[reducible] def M.pure {α : Type} (a : α) : M α := fun s => some (a, s)
@[reducible] def M.bind {α β : Type} (m : M α) (f : α → M β) : M β := fun s => (m s).bind fun r => f r.1 r.2
instance : Monad M where
  pure := M.pure
  bind := M.bind
theorem M.bind_some {α β : Type} {m : M α} {f : α → M β} {s : S} {r : β × S} (h : (m >>= f) s = some r) : ∃ a s1, m s = some (a, s1) ∧ f a s1 = some r := by
  have h' : (m s).bind (fun r => f r.1 r.2) = some r := h
  cases e : m s with
  | none => rw [e] at h'; cases h'
  | some p => rw [e] at h'; exact ⟨p.1, p.2, rfl, h'⟩
def M.lift {α : Type} (o : Option α) : M α := fun s => o.map fun a => (a, s)
theorem M.lift_some {α : Type} {o : Option α} {s : S} {r : α × S} (h : M.lift o s = some r) : o = some r.1 ∧ r.2 = s := by
  unfold M.lift at h
  cases o with
  | none => cases h
  | some a => cases h; exact ⟨rfl, rfl⟩

def srcV (c : Addr) (s : Src) : List (Key × V) := [(.inr "cells", .ref c), (.inr "left", .int s.left), (.inr "mixed", .int s.mixed), (.inr "turn", .int s.turn)]
structure SrcOk (H F : Hp) (p : Addr × Addr) (s : Src) : Prop where
  d : H p.1 = some (.dK (srcV p.2 s))
  c : H p.2 = some (.lst (s.cells.map V.int))
  fd : F p.1 = none
  fc : F p.2 = none
def ClOk (K : PySem.W.Frag) (w : Option (Addr × Addr)) (G H F : Hp) (v : Option V) : Cl → Prop
  | .un => True
  | .im d => ∃ x, v = some x ∧ Rep K F d x
  | .ow ds => ∃ a vs, v = some (.ref a) ∧ H a = some (.lst vs) ∧ F a = none ∧ G a = none ∧ RepL K F ds vs ∧ ∀ p, w = some p → a ≠ p.2
  | .sr => ∃ p, w = some p ∧ v = some (.ref p.1)
def Cl.own : Cl → Bool
  | .ow _ => true
  | _ => false
/-- G: what must stay as it is; F: what is read as data (F0: at the entry); w: the source -/
structure Core (T : List Addr) (K : PySem.W.Frag) (w : Option (Addr × Addr)) (G F0 H F : Hp) (r : Src) : Prop where
  sub : Sub F H
  keep : Sub G H
  exF : Sub F0 F
  new : ∀ a o, F a = some o → F0 a = some o ∨ G a = none
  src : ∀ p, w = some p → SrcOk H F p r ∧ G p.1 = none ∧ G p.2 = none
  tab : ∀ P ∈ T, GxR.TabG H P ∧ F P = none ∧ G P = none
structure Rel (T : List Addr) (K : PySem.W.Frag) (w : Option (Addr × Addr)) (G F0 : Hp) (σ : L2.St) (H F : Hp) (s : S) : Prop extends Core T K w G F0 H F s.src where
  cl : ∀ (i : Nat) c, s.env[i]? = some c → ∃ v, σ[i]? = some v ∧ ClOk K w G H F v c
  len : σ.length = s.env.length
  dis : ∀ (i j : Nat) c c' a, i ≠ j → s.env[i]? = some c → s.env[j]? = some c' → c.own = true → c'.own = true → σ[i]? = some (some (.ref a)) → σ[j]? ≠ some (some (.ref a))

section
variable {T : List Addr} {K : PySem.W.Frag} {w : Option (Addr × Addr)} {G F0 H F : Hp} {σ : L2.St} {s : S}
theorem ClOk.mono {v : Option V} {c : Cl} {H' F' : Hp} (h : ClOk K w G H F v c) (hH : ∀ a vs, v = some (.ref a) → H a = some (.lst vs) → F a = none → H' a = some (.lst vs) ∧ F' a = none) (hF : Sub F F') : ClOk K w G H' F' v c := by
  cases c with
  | un => exact h
  | im d => obtain ⟨x, h1, h2⟩ := h; exact ⟨x, h1, h2.mono hF⟩
  | ow ds => obtain ⟨a, vs, h1, h2, h3, h4, h5, h6⟩ := h; exact ⟨a, vs, h1, (hH a vs h1 h2 h3).1, (hH a vs h1 h2 h3).2, h4, h5.mono hF, h6⟩
  | sr => exact h
theorem Core.newF {r : Src} (c : Core T K w G F0 H F r) {p : Addr} {o : HO} (hp : H p = none) : Core T K w G F0 (upd H p o) (upd F p o) r where
  sub := c.sub.upd2
  keep := c.keep.trans (Sub.new hp)
  exF := c.exF.trans (Sub.new (c.sub.isNone hp))
  new := fun a u h => by
    by_cases e : a = p
    · subst e; exact .inr (c.keep.isNone hp)
    · rw [upd_ne e] at h; exact c.new a u h
  src := fun q hq => by
    obtain ⟨⟨d, e, fd, fc⟩, h1, h2⟩ := c.src q hq
    have n1 : q.1 ≠ p := ne_of_none d hp
    have n2 : q.2 ≠ p := ne_of_none e hp
    exact ⟨⟨by rw [upd_ne n1]; exact d, by rw [upd_ne n2]; exact e, by rw [upd_ne n1]; exact fd, by rw [upd_ne n2]; exact fc⟩, h1, h2⟩
  tab := fun P hP => by
    obtain ⟨⟨ps, h1, h2⟩, h3, h4⟩ := c.tab P hP
    have n1 : P ≠ p := ne_of_none h1 hp
    exact ⟨⟨ps, by rw [upd_ne n1]; exact h1, h2⟩, by rw [upd_ne n1]; exact h3, h4⟩
/-- a new frozen object -/
theorem Rel.newF (r : Rel T K w G F0 σ H F s) {p : Addr} {o : HO} (hp : H p = none) : Rel T K w G F0 σ (upd H p o) (upd F p o) s where
  toCore := r.toCore.newF hp
  cl := fun i c h => by
    obtain ⟨v, h1, h2⟩ := r.cl i c h
    refine ⟨v, h1, h2.mono (fun a vs _ e1 e2 => ?_) (Sub.new (r.sub.isNone hp))⟩
    have ne : a ≠ p := ne_of_none e1 hp
    rw [upd_ne ne, upd_ne ne]; exact ⟨e1, e2⟩
  len := r.len
  dis := r.dis
/-- a new object that nobody reads -/
theorem Rel.newH (r : Rel T K w G F0 σ H F s) {p : Addr} {o : HO} (hp : H p = none) : Rel T K w G F0 σ (upd H p o) F s where
  sub := r.sub.updR (r.sub.isNone hp)
  keep := r.keep.trans (Sub.new hp)
  exF := r.exF
  new := r.new
  src := fun q hq => by
    obtain ⟨⟨d, e, fd, fc⟩, h1, h2⟩ := r.src q hq
    have n1 : q.1 ≠ p := ne_of_none d hp
    have n2 : q.2 ≠ p := ne_of_none e hp
    exact ⟨⟨by rw [upd_ne n1]; exact d, by rw [upd_ne n2]; exact e, fd, fc⟩, h1, h2⟩
  tab := fun P hP => by
    obtain ⟨⟨ps, h1, h2⟩, h3, h4⟩ := r.tab P hP
    have n1 : P ≠ p := ne_of_none h1 hp
    exact ⟨⟨ps, by rw [upd_ne n1]; exact h1, h2⟩, h3, h4⟩
  cl := fun i c h => by
    obtain ⟨v, h1, h2⟩ := r.cl i c h
    refine ⟨v, h1, h2.mono (fun a vs _ e1 e2 => ?_) (Sub.refl F)⟩
    have ne : a ≠ p := ne_of_none e1 hp
    rw [upd_ne ne]; exact ⟨e1, e2⟩
  len := r.len
  dis := r.dis
end

/-! ### judgements -/
inductive Out where
  | nx
  | rt (d : D)
  | bk
  | ct
def DE (T : List Addr) (X : Cx) (e : Expr) (f : M D) : Prop := ∃ t, PE X e t ∧ ∀ w G F0 σ H F s d s', Rel T X.K w G F0 σ H F s → f s = some (d, s') →
  ∀ Q : VK, (∀ v H' F', Rel T X.K w G F0 σ H' F' s' → Sub F F' → Rep X.K F' d v → Q v H') → t σ H Q
def DA (T : List Addr) (X : Cx) (es : List Expr) (f : M (List D)) : Prop := ∃ t, PA X es t ∧ ∀ w G F0 σ H F s ds s', Rel T X.K w G F0 σ H F s → f s = some (ds, s') →
  ∀ Q : List V → Hp → Prop, (∀ vs H' F', Rel T X.K w G F0 σ H' F' s' → Sub F F' → RepL X.K F' ds vs → Q vs H') → t σ H Q
def DT (T : List Addr) (X : Cx) (e : Expr) (f : M Bool) : Prop := ∃ t, PT X e t ∧ ∀ w G F0 σ H F s b s', Rel T X.K w G F0 σ H F s → f s = some (b, s') →
  ∀ Q : Bool → Hp → Prop, (∀ H' F', Rel T X.K w G F0 σ H' F' s' → Sub F F' → Q b H') → t σ H Q
def DW (T : List Addr) (X : Cx) (e : Expr) (f : M Bool) : Prop := ∃ t, PW X e t ∧ ∀ w G F0 σ H F s b s', Rel T X.K w G F0 σ H F s → f s = some (b, s') →
  ∀ Q : Bool → Hp → Prop, (∀ H' F', Rel T X.K w G F0 σ H' F' s' → Sub F F' → Q b H') → t σ H Q
/-- a new list -/
def DN (T : List Addr) (X : Cx) (e : Expr) (f : M (List D)) : Prop := ∃ t, PE X e t ∧ ∀ w G F0 σ H F s ds s', Rel T X.K w G F0 σ H F s → f s = some (ds, s') →
  ∀ Q : VK, (∀ p vs H1 F', H1 p = none → Rel T X.K w G F0 σ H1 F' s' → Sub F F' → RepL X.K F' ds vs → Q (.ref p) (upd H1 p (.lst vs))) → t σ H Q
/-- what stands behind a statement -/
def After (T : List Addr) (K : PySem.W.Frag) (w : Option (Addr × Addr)) (G F0 F : Hp) (s' : S) (E : Ends) : Out → Prop
  | .nx => ∀ σ' H' F', Rel T K w G F0 σ' H' F' s' → Sub F F' → E.nx σ' H'
  | .bk => ∀ σ' H' F', Rel T K w G F0 σ' H' F' s' → Sub F F' → E.bk σ' H'
  | .ct => ∀ σ' H' F', Rel T K w G F0 σ' H' F' s' → Sub F F' → E.ct σ' H'
  | .rt d => ∀ v H' F', Core T K w G F0 H' F' s'.src → Sub F F' → Rep K F' d v → E.rt v H'
theorem After.up {T : List Addr} {K : PySem.W.Frag} {w : Option (Addr × Addr)} {G F0 F F1 : Hp} {s' : S} {E : Ends} {o : Out} (h : After T K w G F0 F s' E o) (e : Sub F F1) : After T K w G F0 F1 s' E o := by
  cases o with
  | nx => exact fun σ' H' F' r q => h σ' H' F' r (e.trans q)
  | bk => exact fun σ' H' F' r q => h σ' H' F' r (e.trans q)
  | ct => exact fun σ' H' F' r q => h σ' H' F' r (e.trans q)
  | rt d => exact fun v H' F' r q => h v H' F' r (e.trans q)
def DS (T : List Addr) (X : Cx) (st : Stmt) (g : M Out) : Prop := ∃ t, PS X st t ∧ ∀ w G F0 σ H F s o s', Rel T X.K w G F0 σ H F s → g s = some (o, s') →
  ∀ E : Ends, After T X.K w G F0 F s' E o → t E σ H
def DSs (T : List Addr) (X : Cx) (ss : List Stmt) (g : M Out) : Prop := ∃ t, PSs X ss t ∧ ∀ w G F0 σ H F s o s', Rel T X.K w G F0 σ H F s → g s = some (o, s') →
  ∀ E : Ends, After T X.K w G F0 F s' E o → t E σ H

/-! ### names, constants -/
def fVar (i : Nat) : M D := fun s => match s.env[i]? with
  | some (.im d) => some (d, s)
  | _ => none
def fC (d : D) : M D := fun s => some (d, s)
section
variable {T : List Addr} {X : Cx}
theorem de_var {i : Nat} {x : Str} {pos : Pos} (hN : X.N[i]? = some x) (hv : Vis X.env.scope x) (hd : (x == ("__debug__" : Str)) = false := by decide) (hcd : (x == ("__classdict__" : Str)) = false := by decide) : DE T X (.Name x pos) (fVar i) := by
  refine ⟨_, pe_var hN hv hd hcd, fun w G F0 σ H F s d s' r h Q q => ?_⟩
  unfold fVar at h
  split at h
  · rename_i d' hi
    cases h
    obtain ⟨v, h1, x', h2, h3⟩ := r.cl i _ hi
    subst h2
    exact ⟨x', h1, q x' H F r (Sub.refl F) h3⟩
  · cases h
theorem de_int {i j pos} : DE T X (.Constant (.int i) j pos) (fC (.int i)) := ⟨_, pe_int, fun w G F0 σ H F s d s' r h Q q => by cases h; exact q _ H F r (Sub.refl F) rfl⟩
theorem de_bl {b j pos} : DE T X (.Constant (.bool b) j pos) (fC (.bool b)) := ⟨_, pe_bl, fun w G F0 σ H F s d s' r h Q q => by cases h; exact q _ H F r (Sub.refl F) rfl⟩
theorem de_non {j pos} : DE T X (.Constant .none j pos) (fC .none) := ⟨_, pe_non, fun w G F0 σ H F s d s' r h Q q => by cases h; exact q _ H F r (Sub.refl F) rfl⟩
theorem de_str {x j pos} : DE T X (.Constant (.str x) j pos) (fC (.str x)) := ⟨_, pe_str, fun w G F0 σ H F s d s' r h Q q => by cases h; exact q _ H F r (Sub.refl F) rfl⟩
/-- a module's constant: an int, a text -/
theorem de_globI {x : Str} {i : Int} {t : Tok} {pos : Pos} (hg : Gl X x) (hm : X.mg x = some (.int i t)) (hd : (x == ("__debug__" : Str)) = false := by decide) : DE T X (.Name x pos) (fC (.int i)) :=
  ⟨_, pe_glob (v := .int i) hg hm ⟨_, rfl⟩ hd, fun w G F0 σ H F s d s' r h Q q => by cases h; exact q _ H F r (Sub.refl F) rfl⟩
theorem de_globS {x z : Str} {t : Tok} {pos : Pos} (hg : Gl X x) (hm : X.mg x = some (.str z t)) (hd : (x == ("__debug__" : Str)) = false := by decide) : DE T X (.Name x pos) (fC (.str z)) :=
  ⟨_, pe_glob (v := .str z) hg hm ⟨_, rfl⟩ hd, fun w G F0 σ H F s d s' r h Q q => by cases h; exact q _ H F r (Sub.refl F) rfl⟩

/-! ### argument lists, displays -/
theorem da_nil : DA T X [] (pure []) := ⟨_, pa_nil, fun w G F0 σ H F s d s' r h Q q => by cases h; exact q _ H F r (Sub.refl F) rfl⟩
def fCons (f : M D) (g : M (List D)) : M (List D) := do let d ← f; let ds ← g; pure (d :: ds)
theorem da_cons {e : Expr} {es : List Expr} {f : M D} {g : M (List D)} (ha : DE T X e f) (hr : DA T X es g) (hs : starEach (e :: es) X.env = (false, eval e X.env) :: starEach es X.env := by rfl) : DA T X (e :: es) (fCons f g) := by
  obtain ⟨ta, pa, a⟩ := ha
  obtain ⟨tr, pr, b⟩ := hr
  refine ⟨_, pa_cons pa pr hs, fun w G F0 σ H F s ds s' r h Q q => ?_⟩
  obtain ⟨d, s1, h1, h2⟩ := M.bind_some h
  obtain ⟨es', s2, h3, h4⟩ := M.bind_some h2
  cases h4
  refine a w G F0 σ H F s d s1 r h1 _ fun v H1 F1 r1 e1 p1 => ?_
  refine b w G F0 σ H1 F1 s1 es' s' r1 h3 _ fun vs H2 F2 r2 e2 p2 => ?_
  exact q (v :: vs) H2 F2 r2 (e1.trans e2) ⟨v, vs, rfl, p1.mono e2, p2⟩
def fTup (g : M (List D)) : M D := do let ds ← g; if ds.length ≤ 16777216 then pure (.tuple ds) else fun _ => none
theorem ite_some {α : Type} {c : Prop} [Decidable c] {a : M α} {s : S} {r : α × S} (h : (if c then a else fun _ => none) s = some r) : c ∧ a s = some r := by
  by_cases e : c
  · rw [if_pos e] at h; exact ⟨e, h⟩
  · rw [if_neg e] at h; cases h
theorem sizeL {n : Nat} (h : n ≤ 16777216) : n ≤ sizeLine := by rw [sizeLine_eq]; exact h
theorem de_tup {es : List Expr} {x1} {pos : Pos} {g : M (List D)} (ha : DA T X es g) : DE T X (.Tuple es x1 pos) (fTup g) := by
  obtain ⟨ta, pa, a⟩ := ha
  refine ⟨_, pe_tup pa, fun w G F0 σ H F s d s' r h Q q => ?_⟩
  obtain ⟨ds, s1, h1, h2⟩ := M.bind_some h
  obtain ⟨hl, h2⟩ := ite_some h2
  cases h2
  refine a w G F0 σ H F s ds s' r h1 _ fun vs H1 F1 r1 e1 p1 => ⟨sizeL (by rw [p1.length]; exact hl), fun p hp => ?_⟩
  exact q _ _ _ (r1.newF hp) (e1.trans (Sub.new (r1.sub.isNone hp))) ⟨p, vs, rfl, .inl (.inl upd_same), p1.mono (Sub.new (r1.sub.isNone hp))⟩
def fLst (g : M (List D)) : M (List D) := do let ds ← g; if ds.length ≤ 16777216 then pure ds else fun _ => none
theorem dn_lst {es : List Expr} {pos : Pos} {g : M (List D)} (ha : DA T X es g) : DN T X (.List es pos) (fLst g) := by
  obtain ⟨ta, pa, a⟩ := ha
  refine ⟨_, pe_lst pa, fun w G F0 σ H F s d s' r h Q q => ?_⟩
  obtain ⟨ds, s1, h1, h2⟩ := M.bind_some h
  obtain ⟨hl, h2⟩ := ite_some h2
  cases h2
  refine a w G F0 σ H F s d s' r h1 _ fun vs H1 F1 r1 e1 p1 => ⟨sizeL (by rw [p1.length]; exact hl), fun p hp => ?_⟩
  exact q p vs H1 F1 hp r1 e1 p1
/-- a new list as a value: frozen -/
def fFr (g : M (List D)) : M D := do let ds ← g; pure (.list ds)
theorem de_new {e : Expr} {g : M (List D)} (ha : DN T X e g) : DE T X e (fFr g) := by
  obtain ⟨ta, pa, a⟩ := ha
  refine ⟨_, pa, fun w G F0 σ H F s d s' r h Q q => ?_⟩
  obtain ⟨ds, s1, h1, h2⟩ := M.bind_some h
  cases h2
  refine a w G F0 σ H F s ds s' r h1 _ fun p vs H1 F1 hp r1 e1 p1 => ?_
  exact q _ _ _ (r1.newF hp) (e1.trans (Sub.new (r1.sub.isNone hp))) ⟨p, vs, rfl, upd_same, p1.mono (Sub.new (r1.sub.isNone hp))⟩
end
end Dl

set_option Elab.async false
set_option linter.all false
set_option maxRecDepth 100000
set_option maxHeartbeats 2000000
namespace Dl
open PySem PySem.Spec PyProof.Rows L2
/-! ### slots -/
def setC (i : Nat) (c : Cl) : M Unit := fun s => if i < s.env.length then some ((), { s with env := s.env.set i c }) else none
section
variable {T : List Addr} {K : PySem.W.Frag} {w : Option (Addr × Addr)} {G F0 H F : Hp} {σ : L2.St} {s : S}
theorem get_set {α : Type} {l : List α} {i j : Nat} {a b : α} (h : (l.set i a)[j]? = some b) : (i = j ∧ a = b ∧ i < l.length) ∨ (i ≠ j ∧ l[j]? = some b) := by
  by_cases e : i = j
  · subst e
    by_cases hl : i < l.length
    · rw [List.getElem?_set_self hl] at h; cases h; exact .inl ⟨rfl, rfl, hl⟩
    · rw [List.getElem?_eq_none (by rw [List.length_set]; omega)] at h; cases h
  · rw [List.getElem?_set_ne e] at h; exact .inr ⟨e, h⟩
/-- a slot is stored: a cell that holds there, and is no other own list -/
theorem Rel.setC (r : Rel T K w G F0 σ H F s) {i : Nat} {x : V} {c : Cl} (hi : i < s.env.length) (hc : ClOk K w G H F (some x) c)
    (hd : c.own = true → ∀ (j : Nat) c' a, i ≠ j → s.env[j]? = some c' → c'.own = true → x = .ref a → σ[j]? ≠ some (some (.ref a))) :
    Rel T K w G F0 (σ.set i (some x)) H F { s with env := s.env.set i c } where
  toCore := r.toCore
  cl := fun j c' h => by
    rcases get_set h with ⟨rfl, rfl, hl⟩ | ⟨ne, h⟩
    · exact ⟨some x, List.getElem?_set_self (by rw [r.len]; exact hl), hc⟩
    · obtain ⟨v, h1, h2⟩ := r.cl j c' h
      exact ⟨v, by rw [List.getElem?_set_ne ne]; exact h1, h2⟩
  len := by rw [List.length_set, List.length_set]; exact r.len
  dis := fun j k c1 c2 a ne h1 h2 o1 o2 s1 s2 => by
    rcases get_set h1 with ⟨rfl, rfl, hl⟩ | ⟨n1, h1⟩
    · rcases get_set h2 with ⟨rfl, rfl, hl⟩ | ⟨n2, h2⟩
      · exact ne rfl
      · rw [List.getElem?_set_self (by rw [r.len]; exact hl)] at s1
        rw [List.getElem?_set_ne n2] at s2
        exact hd o1 k c2 a n2 h2 o2 (Option.some.inj (Option.some.inj s1)) s2
    · rcases get_set h2 with ⟨rfl, rfl, hl⟩ | ⟨n2, h2⟩
      · rw [List.getElem?_set_self (by rw [r.len]; exact hl)] at s2
        rw [List.getElem?_set_ne n1] at s1
        exact hd o2 j c1 a n1 h1 o1 (Option.some.inj (Option.some.inj s2)) s1
      · rw [List.getElem?_set_ne n1] at s1
        rw [List.getElem?_set_ne n2] at s2
        exact r.dis j k c1 c2 a ne h1 h2 o1 o2 s1 s2
theorem Rel.setIm (r : Rel T K w G F0 σ H F s) {i : Nat} {x : V} {d : D} (hi : i < s.env.length) (hx : Rep K F d x) : Rel T K w G F0 (σ.set i (some x)) H F { s with env := s.env.set i (.im d) } :=
  r.setC hi ⟨x, rfl, hx⟩ fun h => by cases h
theorem Rel.wipeC (r : Rel T K w G F0 σ H F s) {i : Nat} : Rel T K w G F0 (σ.set i none) H F { s with env := s.env.set i .un } where
  toCore := r.toCore
  cl := fun j c' h => by
    rcases get_set h with ⟨rfl, rfl, hl⟩ | ⟨ne, h⟩
    · exact ⟨none, List.getElem?_set_self (by rw [r.len]; exact hl), trivial⟩
    · obtain ⟨v, h1, h2⟩ := r.cl j c' h
      exact ⟨v, by rw [List.getElem?_set_ne ne]; exact h1, h2⟩
  len := by rw [List.length_set, List.length_set]; exact r.len
  dis := fun j k c1 c2 a ne h1 h2 o1 o2 s1 s2 => by
    rcases get_set h1 with ⟨rfl, rfl, hl⟩ | ⟨n1, h1⟩
    · cases o1
    · rcases get_set h2 with ⟨rfl, rfl, hl⟩ | ⟨n2, h2⟩
      · cases o2
      · rw [List.getElem?_set_ne n1] at s1
        rw [List.getElem?_set_ne n2] at s2
        exact r.dis j k c1 c2 a ne h1 h2 o1 o2 s1 s2
theorem setC_some {i : Nat} {c : Cl} {s : S} {r : Unit × S} (h : Dl.setC i c s = some r) : i < s.env.length ∧ r.2 = { s with env := s.env.set i c } := by
  unfold Dl.setC at h
  by_cases e : i < s.env.length
  · rw [if_pos e] at h; cases h; exact ⟨e, rfl⟩
  · rw [if_neg e] at h; cases h
/-- a new list of one's own -/
theorem Rel.setOw (r : Rel T K w G F0 σ H F s) {i : Nat} {p : Addr} {vs : List V} {ds : List D} (hi : i < s.env.length) (hp : H p = none) (hv : RepL K F ds vs) :
    Rel T K w G F0 (σ.set i (some (.ref p))) (upd H p (.lst vs)) F { s with env := s.env.set i (.ow ds) } := by
  refine (r.newH hp).setC hi ⟨p, vs, rfl, upd_same, r.sub.isNone hp, r.keep.isNone hp, hv, fun q hq e => ?_⟩ fun _ j c' a ne hj ho hx hs => ?_
  · rw [e, (r.src q hq).1.c] at hp; cases hp
  · obtain ⟨v, h1, h2⟩ := r.cl j c' hj
    cases c' with
    | ow es =>
      obtain ⟨b, us, e1, e2, _⟩ := h2
      rw [h1, e1] at hs
      cases hs
      cases hx
      rw [hp] at e2; cases e2
    | un => cases ho
    | im d => cases ho
    | sr => cases ho
end

/-! ### statements -/
section
variable {T : List Addr} {X : Cx}
def gSet (i : Nat) (f : M D) : M Out := do let d ← f; setC i (.im d); pure .nx
theorem ds_set {i : Nat} {x : Str} {e : Expr} {f : M D} {pos pos' : Pos} (hN : X.N.Nodup) (hi : X.N[i]? = some x) (hx : Loc X.env.scope x) (he : DE T X e f) (hs : swapsWith e (some (.Name x pos')) pos.line X.env = pure false := by rfl)
    (hf : X.fn x = true ∨ X.env.scope.names.lookup x = some .local := by first | exact .inl rfl | exact .inr rfl | assumption) : DS T X (.Assign [.Name x pos'] e pos) (gSet i f) := by
  obtain ⟨t, pe, h⟩ := he
  refine ⟨_, ps_set hN hi hx pe hs hf, fun w G F0 σ H F s o s' r g E a => ?_⟩
  obtain ⟨d, s1, g1, g2⟩ := M.bind_some g
  obtain ⟨_, s2, g3, g4⟩ := M.bind_some g2
  obtain ⟨hl, g5⟩ := setC_some g3
  dsimp only at g5
  subst g5
  cases g4
  refine h w G F0 σ H F s d s1 r g1 _ fun v H1 F1 r1 e1 p1 => ?_
  exact a _ _ F1 (r1.setIm hl p1) e1
def gOwn (i : Nat) (f : M (List D)) : M Out := do let d ← f; setC i (.ow d); pure .nx
theorem ds_own {i : Nat} {x : Str} {e : Expr} {f : M (List D)} {pos pos' : Pos} (hN : X.N.Nodup) (hi : X.N[i]? = some x) (hx : Loc X.env.scope x) (he : DN T X e f) (hs : swapsWith e (some (.Name x pos')) pos.line X.env = pure false := by rfl)
    (hf : X.fn x = true ∨ X.env.scope.names.lookup x = some .local := by first | exact .inl rfl | exact .inr rfl | assumption) : DS T X (.Assign [.Name x pos'] e pos) (gOwn i f) := by
  obtain ⟨t, pe, h⟩ := he
  refine ⟨_, ps_set hN hi hx pe hs hf, fun w G F0 σ H F s o s' r g E a => ?_⟩
  obtain ⟨d, s1, g1, g2⟩ := M.bind_some g
  obtain ⟨_, s2, g3, g4⟩ := M.bind_some g2
  obtain ⟨hl, g5⟩ := setC_some g3
  dsimp only at g5
  subst g5
  cases g4
  refine h w G F0 σ H F s d s1 r g1 _ fun p vs H1 F1 hp r1 e1 p1 => ?_
  exact a _ _ F1 (r1.setOw hl hp p1) e1
def gRet (f : M D) : M Out := do let d ← f; pure (.rt d)
theorem ds_ret {e : Expr} {f : M D} {pos : Pos} (he : DE T X e f) : DS T X (.Return (some e) pos) (gRet f) := by
  obtain ⟨t, pe, h⟩ := he
  refine ⟨_, ps_ret pe, fun w G F0 σ H F s o s' r g E a => ?_⟩
  obtain ⟨d, s1, g1, g2⟩ := M.bind_some g
  cases g2
  exact h w G F0 σ H F s d _ r g1 _ fun v H1 F1 r1 e1 p1 => a v H1 F1 r1.toCore e1 p1
theorem ds_retN {pos : Pos} : DS T X (.Return none pos) (pure (.rt .none)) :=
  ⟨_, ps_retN, fun w G F0 σ H F s o s' r g E a => by cases g; exact a .non H F r.toCore (Sub.refl F) rfl⟩
def gIf (f : M Bool) (g h : M Out) : M Out := do let b ← f; if b = true then g else h
theorem ds_if {c : Expr} {a b : List Stmt} {pos : Pos} {f : M Bool} {g h : M Out} (hc : DT T X c f) (ha : DSs T X a g) (hb : DSs T X b h) : DS T X (.If c a b pos) (gIf f g h) := by
  obtain ⟨tc, pc, c1⟩ := hc
  obtain ⟨ta, pa, a1⟩ := ha
  obtain ⟨tb, pb, b1⟩ := hb
  refine ⟨_, ps_if pc pa pb, fun w G F0 σ H F s o s' r e E af => ?_⟩
  obtain ⟨k, s1, g1, g2⟩ := M.bind_some e
  refine c1 w G F0 σ H F s k s1 r g1 _ fun H1 F1 r1 e1 => ?_
  by_cases hk : k = true
  · rw [if_pos hk] at g2
    rw [if_pos hk]
    exact a1 w G F0 σ H1 F1 s1 o s' r1 g2 E (af.up e1)
  · rw [if_neg hk] at g2
    rw [if_neg hk]
    exact b1 w G F0 σ H1 F1 s1 o s' r1 g2 E (af.up e1)
def gDrop (f : M D) : M Out := do let _ ← f; pure .nx
theorem ds_expr {e : Expr} {f : M D} {pos : Pos} (he : DE T X e f) (hs : swapsWith e none pos.line X.env = pure false := by rfl) : DS T X (.Expr e pos) (gDrop f) := by
  obtain ⟨t, pe, h⟩ := he
  refine ⟨_, ps_expr pe hs, fun w G F0 σ H F s o s' r g E a => ?_⟩
  obtain ⟨d, s1, g1, g2⟩ := M.bind_some g
  cases g2
  exact h w G F0 σ H F s d _ r g1 _ fun v H1 F1 r1 e1 _ => a σ H1 F1 r1 e1
theorem ds_pass {pos : Pos} : DS T X (.Pass pos) (pure .nx) := ⟨_, ps_pass, fun w G F0 σ H F s o s' r g E a => by cases g; exact a σ H F r (Sub.refl F)⟩
theorem ds_break {pos : Pos} : DS T X (.Break pos) (pure .bk) := ⟨_, ps_break, fun w G F0 σ H F s o s' r g E a => by cases g; exact a σ H F r (Sub.refl F)⟩
theorem ds_continue {pos : Pos} : DS T X (.Continue pos) (pure .ct) := ⟨_, ps_continue, fun w G F0 σ H F s o s' r g E a => by cases g; exact a σ H F r (Sub.refl F)⟩
theorem dss_nil : DSs T X [] (pure .nx) := ⟨_, pss_nil, fun w G F0 σ H F s o s' r g E a => by cases g; exact a σ H F r (Sub.refl F)⟩
theorem dss_one {st : Stmt} {g : M Out} (h : DS T X st g) : DSs T X [st] g := by
  obtain ⟨t, p, q⟩ := h
  exact ⟨_, pss_one p, q⟩
def gSeq (g h : M Out) : M Out := do
  let o ← g
  match o with
  | .nx => h
  | o => pure o
theorem dss_cons {st : Stmt} {rest : List Stmt} {g h : M Out} (h1 : DS T X st g) (h2 : DSs T X rest h) : DSs T X (st :: rest) (gSeq g h) := by
  obtain ⟨t, p, a⟩ := h1
  obtain ⟨u, q, b⟩ := h2
  refine ⟨_, pss_cons p q, fun w G F0 σ H F s o s' r e E af => ?_⟩
  obtain ⟨k, s1, g1, g2⟩ := M.bind_some e
  refine a w G F0 σ H F s k s1 r g1 { E with nx := u E } ?_
  cases k with
  | nx => exact fun σ1 H1 F1 r1 e1 => b w G F0 σ1 H1 F1 s1 o s' r1 g2 E (af.up e1)
  | rt d => cases g2; exact af
  | bk => cases g2; exact af
  | ct => cases g2; exact af
end

/-! ### defs -/
/-- what a def over data leaves: all that was tracked but the tables and U -/
structure Fin (T U : List Addr) (H F H' F' : Hp) : Prop where
  keep : ∀ a o, a ∉ T → a ∉ U → H a = some o → H' a = some o
  exF : Sub F F'
  sub : Sub F' H'
  new : ∀ a o, F' a = some o → F a = some o ∨ H a = none
  tab : ∀ P ∈ T, GxR.TabG H' P ∧ F' P = none
structure Pre (T : List Addr) (H F : Hp) : Prop where
  sub : Sub F H
  tab : ∀ P ∈ T, GxR.TabG H P ∧ F P = none
/-- a def over data: f of the arguments' data -/
def spD (T : List Addr) (K : PySem.W.Frag) (n : Nat) (φ : List D → Option D) : Sp := fun vs H Q _ => ∃ F ds d, ds.length = n ∧ Pre T H F ∧ RepL K F ds vs ∧ φ ds = some d ∧ ∀ v H' F', Fin T [] H F H' F' → Rep K F' d v → Q v H'
/-- a def that draws: the first argument is the source -/
def spS (T : List Addr) (K : PySem.W.Frag) (n : Nat) (φ : Src → List D → Option (D × Src)) : Sp := fun vs H Q _ => ∃ F ds d p src src' us, vs = .ref p.1 :: us ∧ ds.length = n ∧ Pre T H F ∧ SrcOk H F p src ∧ RepL K F ds us ∧ φ src ds = some (d, src') ∧
  ∀ v H' F', Fin T [p.1, p.2] H F H' F' → SrcOk H' F' p src' → Rep K F' d v → Q v H'
def runB (n : Nat) (g : M Out) (ds : List D) : Option D := match g ⟨⟨[], 0, 0, 0⟩, ds.map Cl.im ++ List.replicate (n - ds.length) .un⟩ with
  | some (.rt d, _) => some d
  | some (.nx, _) => some .none
  | _ => none
section
variable {T : List Addr} {K : PySem.W.Frag} {w : Option (Addr × Addr)} {G F0 H F H' F' : Hp} {σ : L2.St} {s : S}
theorem tab_ne {P a : Addr} {o : HO} (h : GxR.TabG H P) (e : H a = some o) (hk : ∀ ps, o ≠ .tbl ps) : a ≠ P := fun z => by
  obtain ⟨ps, h1, _⟩ := h
  rw [z, h1] at e
  exact hk ps (Option.some.inj e).symm
theorem notin_tab (ht : ∀ P ∈ T, GxR.TabG H P) {a : Addr} {o : HO} (e : H a = some o) (hk : ∀ ps, o ≠ .tbl ps) : a ∉ T := fun z => tab_ne (ht a z) e hk rfl
theorem Rel.pre (r : Rel T K w G F0 σ H F s) : Pre T H F := ⟨r.sub, fun P hP => ⟨(r.tab P hP).1, (r.tab P hP).2.1⟩⟩
/-- behind a call of a def over data -/
theorem Rel.fin (r : Rel T K w G F0 σ H F s) (f : Fin T [] H F H' F') : Rel T K w G F0 σ H' F' s := by
  have ht : ∀ P ∈ T, GxR.TabG H P := fun P hP => (r.tab P hP).1
  have un : ∀ {a : Addr}, a ∉ ([] : List Addr) := fun {a} => by simp
  have nf : ∀ {a : Addr} {o : HO}, H a = some o → F a = none → F' a = none := fun {a o} h1 h2 => by
    cases e : F' a with
    | none => rfl
    | some u =>
      rcases f.new a u e with h | h
      · rw [h2] at h; cases h
      · rw [h1] at h; cases h
  refine ⟨⟨f.sub, fun a o h => ?_, r.exF.trans f.exF, fun a o h => ?_, fun q hq => ?_, fun P hP => ⟨(f.tab P hP).1, (f.tab P hP).2, (r.tab P hP).2.2⟩⟩, fun i c h => ?_, r.len, r.dis⟩
  · refine f.keep a o (fun z => ?_) un (r.keep a o h)
    rw [(r.tab a z).2.2] at h; cases h
  · rcases f.new a o h with h | h
    · exact r.new a o h
    · exact .inr (r.keep.isNone h)
  · obtain ⟨⟨d, c, fd, fc⟩, h1, h2⟩ := r.src q hq
    exact ⟨⟨f.keep _ _ (notin_tab ht d fun ps z => nomatch z) un d, f.keep _ _ (notin_tab ht c fun ps z => nomatch z) un c, nf d fd, nf c fc⟩, h1, h2⟩
  · obtain ⟨v, h1, h2⟩ := r.cl i c h
    exact ⟨v, h1, h2.mono (fun a vs _ e1 e2 => ⟨f.keep _ _ (notin_tab ht e1 fun ps z => nomatch z) un e1, nf e1 e2⟩) f.exF⟩
/-- behind a call of a def that draws -/
theorem Rel.finS (r : Rel T K w G F0 σ H F s) {p : Addr × Addr} {src : Src} (hw : w = some p) (f : Fin T [p.1, p.2] H F H' F') (so : SrcOk H' F' p src) : Rel T K w G F0 σ H' F' { s with src := src } := by
  have ht : ∀ P ∈ T, GxR.TabG H P := fun P hP => (r.tab P hP).1
  obtain ⟨⟨sd, sc, sfd, sfc⟩, g1, g2⟩ := r.src p hw
  have nf : ∀ {a : Addr} {o : HO}, H a = some o → F a = none → F' a = none := fun {a o} h1 h2 => by
    cases e : F' a with
    | none => rfl
    | some u =>
      rcases f.new a u e with h | h
      · rw [h2] at h; cases h
      · rw [h1] at h; cases h
  have nu : ∀ {a : Addr}, a ≠ p.1 → a ≠ p.2 → a ∉ ([p.1, p.2] : List Addr) := fun {a} h1 h2 z => by
    rcases List.mem_cons.mp z with z | z
    · exact h1 z
    · rcases List.mem_cons.mp z with z | z
      · exact h2 z
      · cases z
  refine ⟨⟨f.sub, fun a o h => ?_, r.exF.trans f.exF, fun a o h => ?_, fun q hq => ?_, fun P hP => ⟨(f.tab P hP).1, (f.tab P hP).2, (r.tab P hP).2.2⟩⟩, fun i c h => ?_, r.len, r.dis⟩
  · refine f.keep a o (fun z => ?_) (nu (fun z => ?_) fun z => ?_) (r.keep a o h)
    · rw [(r.tab a z).2.2] at h; cases h
    · rw [z, g1] at h; cases h
    · rw [z, g2] at h; cases h
  · rcases f.new a o h with h | h
    · exact r.new a o h
    · exact .inr (r.keep.isNone h)
  · rw [hw] at hq; cases hq
    exact ⟨so, g1, g2⟩
  · obtain ⟨v, h1, h2⟩ := r.cl i c h
    refine ⟨v, h1, ?_⟩
    cases c with
    | un => exact h2
    | im d => obtain ⟨x, e1, e2⟩ := h2; exact ⟨x, e1, e2.mono f.exF⟩
    | ow ds =>
      obtain ⟨a, vs, e1, e2, e3, e4, e5, e6⟩ := h2
      refine ⟨a, vs, e1, f.keep _ _ (notin_tab ht e2 fun ps z => nomatch z) (nu (fun z => ?_) (e6 p hw)) e2, nf e2 e3, e4, e5.mono f.exF, e6⟩
      rw [z, sd] at e2; cases e2
    | sr => exact h2

/-- the state at a body's begin -/
theorem start_get {N : List Str} {vs : List V} {i : Nat} {x : V} (h : vs[i]? = some x) : (start N vs)[i]? = some (some x) := by
  unfold L2.start
  obtain ⟨hl, _⟩ := List.getElem?_eq_some_iff.mp h
  rw [List.getElem?_append_left (by rw [List.length_map]; exact hl), List.getElem?_map, h]; rfl
theorem start_len {N : List Str} {vs : List V} (h : vs.length ≤ N.length) : (start N vs).length = N.length := by
  unfold L2.start
  rw [List.length_append, List.length_map, List.length_replicate]; omega
def envB (n : Nat) (ds : List D) : List Cl := ds.map Cl.im ++ List.replicate (n - ds.length) .un
theorem envB_len {n : Nat} {ds : List D} (h : ds.length ≤ n) : (envB n ds).length = n := by
  unfold envB; rw [List.length_append, List.length_map, List.length_replicate]; omega
theorem envB_get {n : Nat} {ds : List D} {i : Nat} {c : Cl} (h : (envB n ds)[i]? = some c) : (∃ d, ds[i]? = some d ∧ c = .im d) ∨ c = .un := by
  unfold envB at h
  by_cases hi : i < ds.length
  · rw [List.getElem?_append_left (by rw [List.length_map]; exact hi), List.getElem?_map] at h
    rw [List.getElem?_eq_getElem hi] at h
    cases h; exact .inl ⟨_, List.getElem?_eq_getElem hi, rfl⟩
  · rw [List.getElem?_append_right (by rw [List.length_map]; omega), List.getElem?_replicate] at h
    split at h
    · cases h; exact .inr rfl
    · cases h
def gd (T U : List Addr) (H : Hp) : Hp := fun a => if a ∈ T ∨ a ∈ U then none else H a
theorem gd_some {T U : List Addr} {H : Hp} {a : Addr} {o : HO} (h : gd T U H a = some o) : a ∉ T ∧ a ∉ U ∧ H a = some o := by
  unfold gd at h
  by_cases e : a ∈ T ∨ a ∈ U
  · rw [if_pos e] at h; cases h
  · rw [if_neg e] at h; exact ⟨fun z => e (.inl z), fun z => e (.inr z), h⟩
theorem gd_none {T U : List Addr} {H : Hp} {a : Addr} (h : a ∈ T ∨ a ∈ U) : gd T U H a = none := by unfold gd; rw [if_pos h]
theorem gd_none' {T U : List Addr} {H : Hp} {a : Addr} (h : gd T U H a = none) (hT : a ∉ T) (hU : a ∉ U) : H a = none := by
  unfold gd at h
  rwa [if_neg (fun z => z.elim hT hU)] at h
theorem rel_start {N : List Str} {ds : List D} {vs : List V} (p : Pre T H F) (hr : RepL K F ds vs) (hn : ds.length ≤ N.length) : Rel T K none (gd T [] H) F (start N vs) H F ⟨⟨[], 0, 0, 0⟩, envB N.length ds⟩ where
  sub := p.sub
  keep := fun a o h => (gd_some h).2.2
  exF := Sub.refl F
  new := fun a o h => .inl h
  src := fun q hq => by cases hq
  tab := fun P hP => ⟨(p.tab P hP).1, (p.tab P hP).2, gd_none (.inl hP)⟩
  cl := fun i c h => by
    have hi : i < N.length := by
      obtain ⟨hl, _⟩ := List.getElem?_eq_some_iff.mp h
      rwa [envB_len hn] at hl
    rcases envB_get h with ⟨d, hd, rfl⟩ | rfl
    · obtain ⟨v, hv, rv⟩ := hr.get hd
      exact ⟨_, start_get hv, v, rfl, rv⟩
    · exact ⟨_, List.getElem?_eq_getElem (by rw [start_len (by rw [hr.length]; exact hn)]; exact hi), trivial⟩
  len := by rw [start_len (by rw [hr.length]; exact hn), envB_len hn]
  dis := fun i j c c' a _ h _ ho => by
    rcases envB_get h with ⟨d, _, rfl⟩ | rfl <;> cases ho
/-- what a core says to a caller -/
theorem fin_of {r : Src} {H0 : Hp} (hp : Pre T H0 F0) (c : Core T K none (gd T [] H0) F0 H F r) : Fin T [] H0 F0 H F where
  keep := fun a o h1 h2 h => c.keep a o (by unfold gd; rw [if_neg (fun z => z.elim h1 h2)]; exact h)
  exF := c.exF
  sub := c.sub
  new := fun a o h => by
    rcases c.new a o h with h1 | h1
    · exact .inl h1
    · refine .inr (gd_none' h1 (fun z => ?_) (by simp))
      rw [(c.tab a z).2.1] at h; cases h
  tab := fun P hP => ⟨(c.tab P hP).1, (c.tab P hP).2.1⟩
theorem finS_of {r : Src} {H0 : Hp} {p : Addr × Addr} (hp : Pre T H0 F0) (c : Core T K (some p) (gd T [p.1, p.2] H0) F0 H F r) : Fin T [p.1, p.2] H0 F0 H F where
  keep := fun a o h1 h2 h => c.keep a o (by unfold gd; rw [if_neg (fun z => z.elim h1 h2)]; exact h)
  exF := c.exF
  sub := c.sub
  new := fun a o h => by
    rcases c.new a o h with h1 | h1
    · exact .inl h1
    · refine .inr (gd_none' h1 (fun z => ?_) fun z => ?_)
      · rw [(c.tab a z).2.1] at h; cases h
      · obtain ⟨⟨_, _, fd, fc⟩, _, _⟩ := c.src p rfl
        rcases List.mem_cons.mp z with z | z
        · rw [z, fd] at h; cases h
        · rcases List.mem_cons.mp z with z | z
          · rw [z, fc] at h; cases h
          · cases z
  tab := fun P hP => ⟨(c.tab P hP).1, (c.tab P hP).2.1⟩
theorem rel_startS {N : List Str} {ds : List D} {vs : List V} {p : Addr × Addr} {src : Src} (pr : Pre T H F) (so : SrcOk H F p src) (hr : RepL K F ds vs) (hn : ds.length + 1 ≤ N.length) :
    Rel T K (some p) (gd T [p.1, p.2] H) F (start N (.ref p.1 :: vs)) H F ⟨src, .sr :: envB (N.length - 1) ds⟩ where
  sub := pr.sub
  keep := fun a o h => (gd_some h).2.2
  exF := Sub.refl F
  new := fun a o h => .inl h
  src := fun q hq => by cases hq; exact ⟨so, gd_none (.inr (by simp)), gd_none (.inr (by simp))⟩
  tab := fun P hP => ⟨(pr.tab P hP).1, (pr.tab P hP).2, gd_none (.inl hP)⟩
  cl := fun i c h => by
    have hi : i < N.length := by
      obtain ⟨hl, _⟩ := List.getElem?_eq_some_iff.mp h
      rw [List.length_cons, envB_len (by omega)] at hl; omega
    have hl : (start N (.ref p.1 :: vs)).length = N.length := start_len (by rw [List.length_cons, hr.length]; exact hn)
    cases i with
    | zero =>
      simp at h
      subst h
      exact ⟨_, start_get rfl, p, rfl, rfl⟩
    | succ i =>
      rw [List.getElem?_cons_succ] at h
      rcases envB_get h with ⟨d, hd, rfl⟩ | rfl
      · obtain ⟨v, hv, rv⟩ := hr.get hd
        exact ⟨_, start_get (by rw [List.getElem?_cons_succ]; exact hv), v, rfl, rv⟩
      · exact ⟨_, List.getElem?_eq_getElem (by rw [hl]; exact hi), trivial⟩
  len := by rw [start_len (by rw [List.length_cons, hr.length]; exact hn), List.length_cons, envB_len (by omega)]; omega
  dis := fun i j c c' a _ h _ ho => by
    cases i with
    | zero => simp at h; subst h; cases ho
    | succ i =>
      rw [List.getElem?_cons_succ] at h
      rcases envB_get h with ⟨d, _, rfl⟩ | rfl <;> cases ho
end

section
variable {P : Program} {w : World} {T : List Addr} {K : PySem.W.Frag} {mg : Str → Option Value} {base : Heap}
/-- a def over data, by its body -/
theorem spD_len {n : Nat} {φ : List D → Option D} {ps : List Str} (hn : ps.length = n) : ∀ vs H Q E, spD T K n φ vs H Q E → vs.length = ps.length := by
  rintro vs H Q E ⟨F, ds, d, h1, _, h2, _⟩
  rw [h2.length, h1, hn]
theorem spD_body {X : Cx} {ss : List Stmt} {N : List Str} {n : Nat} {φ : List D → Option D} {g : M Out} {H : Hp} {vs : List V} {Q : VK} {E : XK} (hN : n ≤ N.length)
    (hφ : ∀ ds d, ds.length = n → φ ds = some d → runB N.length g ds = some d) (hX : X.K = K) (b : DSs T X ss g) (h : spD T K n φ vs H Q E) : ∃ t, PSs X ss t ∧ t { nx := fun _ H' => Q .non H', rt := Q } (start N vs) H := by
  subst hX
  obtain ⟨F, ds, d, h1, hp, h2, h3, q⟩ := h
  obtain ⟨t, pt, ht⟩ := b
  refine ⟨t, pt, ?_⟩
  have e := hφ ds d h1 h3
  unfold runB at e
  have rs : Rel T X.K none (gd T [] H) F (start N vs) H F ⟨⟨[], 0, 0, 0⟩, envB N.length ds⟩ := rel_start hp h2 (by omega)
  split at e
  · rename_i d' s' eg
    cases e
    exact ht none _ F _ H F _ _ s' rs eg _ fun v H' F' c _ rv => q v H' F' (fin_of hp c) rv
  · rename_i s' eg
    cases e
    exact ht none _ F _ H F _ _ s' rs eg _ fun σ' H' F' r _ => q .non H' F' (fin_of hp r.toCore) rfl
  · cases e
def runS (n : Nat) (g : M Out) (src : Src) (ds : List D) : Option (D × Src) := match g ⟨src, .sr :: envB (n - 1) ds⟩ with
  | some (.rt d, s) => some (d, s.src)
  | some (.nx, s) => some (.none, s.src)
  | _ => none
theorem spS_len {n : Nat} {φ : Src → List D → Option (D × Src)} {ps : List Str} (hn : ps.length = n + 1) : ∀ vs H Q E, spS T K n φ vs H Q E → vs.length = ps.length := by
  rintro vs H Q E ⟨F, ds, d, p, src, src', us, rfl, h1, _, _, h2, _⟩
  rw [List.length_cons, h2.length, h1, hn]
theorem spS_body {X : Cx} {ss : List Stmt} {N : List Str} {n : Nat} {φ : Src → List D → Option (D × Src)} {g : M Out} {H : Hp} {vs : List V} {Q : VK} {E : XK} (hN : n + 1 ≤ N.length)
    (hφ : ∀ src ds d, ds.length = n → φ src ds = some d → runS N.length g src ds = some d) (hX : X.K = K) (b : DSs T X ss g) (h : spS T K n φ vs H Q E) : ∃ t, PSs X ss t ∧ t { nx := fun _ H' => Q .non H', rt := Q } (start N vs) H := by
  subst hX
  obtain ⟨F, ds, d, p, src, src', us, rfl, h1, hp, so, h2, h3, q⟩ := h
  obtain ⟨t, pt, ht⟩ := b
  refine ⟨t, pt, ?_⟩
  have e := hφ src ds (d, src') h1 h3
  unfold runS at e
  have rs : Rel T X.K (some p) (gd T [p.1, p.2] H) F (start N (.ref p.1 :: us)) H F ⟨src, .sr :: envB (N.length - 1) ds⟩ := rel_startS hp so h2 (by omega)
  split at e
  · rename_i d' s' eg
    cases e
    exact ht _ _ F _ H F _ _ s' rs eg _ fun v H' F' c _ rv => q v H' F' (finS_of hp c) (c.src p rfl).1 rv
  · rename_i s' eg
    cases e
    exact ht _ _ F _ H F _ _ s' rs eg _ fun σ' H' F' r _ => q .non H' F' (finS_of hp r.toCore) (r.src p rfl).1 rfl
  · cases e
theorem fnD_of {x qual : Str} {st : Stmt} {f : Addr} {fd : FuncData} {N ps : List Str} {k n : Nat} {g : M Out} (F : Fun K x qual st f fd) (Sc : FnScope N ps (defScope st)) (hn : ps.length = n) (hN : n ≤ N.length)
    (body : ∀ (cdv : Value) (A : Around) (outer : List Env) (s : Shared) (H : Hp) (E : XK), A.guards = some [] → Room k (A.deeper (envOfC qual (defScope st) s.heap.objs.size f cdv)) →
      DSs T (cxOf CX0 P w K mg base N qual (defScope st) f cdv A outer s H E).nox (defBody st) g) : FnG P w K mg base (k + 1) f fd ps (spD T K n (runB N.length g)) :=
  fnG_of F Sc (spD_len hn) fun cdv A out s H vs Q E g hr h => spD_body hN (fun ds d _ e => e) rfl (body cdv A out s H E g hr) h
theorem fnS_of {x qual : Str} {st : Stmt} {f : Addr} {fd : FuncData} {N ps : List Str} {k n : Nat} {g : M Out} (F : Fun K x qual st f fd) (Sc : FnScope N ps (defScope st)) (hn : ps.length = n + 1) (hN : n + 1 ≤ N.length)
    (body : ∀ (cdv : Value) (A : Around) (outer : List Env) (s : Shared) (H : Hp) (E : XK), A.guards = some [] → Room k (A.deeper (envOfC qual (defScope st) s.heap.objs.size f cdv)) →
      DSs T (cxOf CX0 P w K mg base N qual (defScope st) f cdv A outer s H E).nox (defBody st) g) : FnG P w K mg base (k + 1) f fd ps (spS T K n (runS N.length g)) :=
  fnG_of F Sc (spS_len hn) fun cdv A out s H vs Q E g hr h => spS_body hN (fun _ ds d _ e => e) rfl (body cdv A out s H E g hr) h
end

/-! ### calls of defs -/
def fCall (n : Nat) (φ : List D → Option D) (g : M (List D)) : M D := do let ds ← g; if ds.length = n then M.lift (φ ds) else fun _ => none
def M.drawn (φ : Src → Option (D × Src)) : M D := fun s => match φ s.src with
  | some (d, r) => some (d, { s with src := r })
  | none => none
def fCallS (i n : Nat) (φ : Src → List D → Option (D × Src)) (g : M (List D)) : M D := fun s => match s.env[i]? with
  | some .sr => (do let ds ← g; if ds.length = n then M.drawn (fun r => φ r ds) else fun _ => none : M D) s
  | _ => none
section
variable {T : List Addr} {X : Cx} {k n : Nat} {f : Addr} {fd : FuncData} {ps : List Str} {x : Str} {p pos : Pos} {e : Expr} {es : List Expr}
theorem de_call {φ : List D → Option D} {g : M (List D)} (Fn : FnG X.prog X.w X.K X.mg X.base k f fd ps (spD T X.K n φ)) (hgd : X.A.guards = some []) (hr : Room k X.A) (hg : Gl X x) (hm : X.mg x = some (.ref f)) (hk : PySem.W.keepIn X.K (.ref f) = true) (hb : Binds X.K fd ps [])
    (ha : DA T X (e :: es) g) (hdb : (x == ("__debug__" : Str)) = false := by decide) (he : starEach (e :: es) X.env = (false, eval e X.env) :: starEach es X.env := by rfl) (hpl : (backTo pos (starEach es X.env)).any (·.1) = false := by rfl) :
    DE T X (.Call (.Name x p) (e :: es) [] pos) (fCall n φ g) := by
  obtain ⟨ta, pa, a⟩ := ha
  refine ⟨_, pe_go Fn hgd hr hg hm hk hb pa hdb he hpl, fun w G F0 σ H F s d s' r h Q q => ?_⟩
  obtain ⟨ds, s1, h1, h2⟩ := M.bind_some h
  obtain ⟨hl, h2⟩ := ite_some h2
  obtain ⟨h3, h4⟩ := M.lift_some h2
  dsimp only at h3 h4
  subst h4
  refine a w G F0 σ H F s ds _ r h1 _ fun vs H1 F1 r1 e1 p1 => ⟨F1, ds, d, hl, r1.pre, p1, h3, fun v H' F' fn rv => ?_⟩
  exact q v H' F' (r1.fin fn) (e1.trans fn.exF) rv
theorem de_call0 {φ : List D → Option D} (Fn : FnG X.prog X.w X.K X.mg X.base k f fd ps (spD T X.K 0 φ)) (hgd : X.A.guards = some []) (hr : Room k X.A) (hg : Gl X x) (hm : X.mg x = some (.ref f)) (hk : PySem.W.keepIn X.K (.ref f) = true) (hb : Binds X.K fd ps [])
    (hdb : (x == ("__debug__" : Str)) = false := by decide) : DE T X (.Call (.Name x p) [] [] pos) (fCall 0 φ (pure [])) := by
  refine ⟨_, pe_go0 Fn hgd hr hg hm hk hb hdb, fun w G F0 σ H F s d s' r h Q q => ?_⟩
  obtain ⟨ds, s1, h1, h2⟩ := M.bind_some h
  cases h1
  obtain ⟨hl, h2⟩ := ite_some h2
  obtain ⟨h3, h4⟩ := M.lift_some h2
  dsimp only at h3 h4
  subst h4
  refine ⟨F, [], d, rfl, r.pre, rfl, h3, fun v H' F' fn rv => ?_⟩
  exact q v H' F' (r.fin fn) fn.exF rv
theorem de_callS {φ : Src → List D → Option (D × Src)} {g : M (List D)} {i : Nat} {y : Str} {py : Pos} (Fn : FnG X.prog X.w X.K X.mg X.base k f fd ps (spS T X.K n φ)) (hgd : X.A.guards = some []) (hr : Room k X.A) (hg : Gl X x) (hm : X.mg x = some (.ref f)) (hk : PySem.W.keepIn X.K (.ref f) = true) (hb : Binds X.K fd ps [])
    (hN : X.N[i]? = some y) (hv : Vis X.env.scope y) (ha : DA T X es g) (hyd : (y == ("__debug__" : Str)) = false := by decide) (hycd : (y == ("__classdict__" : Str)) = false := by decide)
    (hdb : (x == ("__debug__" : Str)) = false := by decide) (he : starEach (.Name y py :: es) X.env = (false, eval (.Name y py) X.env) :: starEach es X.env := by rfl) (hpl : (backTo pos (starEach es X.env)).any (·.1) = false := by rfl) :
    DE T X (.Call (.Name x p) (.Name y py :: es) [] pos) (fCallS i n φ g) := by
  obtain ⟨ta, pa, a⟩ := ha
  refine ⟨_, pe_go Fn hgd hr hg hm hk hb (pa_cons (pe_var hN hv hyd hycd) pa he) hdb he hpl, fun w G F0 σ H F s d s' r h Q q => ?_⟩
  unfold fCallS at h
  split at h
  · rename_i hi
    obtain ⟨ds, s1, h1, h2⟩ := M.bind_some h
    obtain ⟨hl, h2⟩ := ite_some h2
    unfold M.drawn at h2
    split at h2
    · rename_i d2 r2 h3
      cases h2
      obtain ⟨v0, e0, q0, hw, rfl⟩ := r.cl i _ hi
      refine ⟨.ref q0.1, e0, a w G F0 σ H F s ds s1 r h1 _ fun vs H1 F1 r1 e1 p1 => ⟨F1, ds, d, q0, s1.src, r2, vs, rfl, hl, r1.pre, (r1.src q0 hw).1, p1, h3, fun v H' F' fn so rv => ?_⟩⟩
      exact q v H' F' (r1.finS hw fn so) (e1.trans fn.exF) rv
    · cases h2
  · cases h
end
end Dl

set_option Elab.async false
set_option linter.all false
set_option maxRecDepth 100000
set_option maxHeartbeats 2000000
namespace Dl
open PySem PySem.Spec PyProof.Rows L2
/-! ### operations on data: they may lay new objects, and change none -/
inductive Grow : Hp → Hp → Hp → Hp → Prop
  | refl (F H : Hp) : Grow F H F H
  | step {F H F' H' : Hp} (p : Addr) (o : HO) : Grow F H F' H' → H' p = none → Grow F H (upd F' p o) (upd H' p o)
theorem Grow.one {F H : Hp} {p : Addr} {o : HO} (h : H p = none) : Grow F H (upd F p o) (upd H p o) := .step p o (.refl F H) h
theorem Grow.sub {F H F' H' : Hp} (s : Sub F H) (g : Grow F H F' H') : Sub F' H' ∧ Sub F F' := by
  induction g with
  | refl => exact ⟨s, Sub.refl _⟩
  | step p o g h ih => exact ⟨ih.1.upd2, ih.2.trans (Sub.new (ih.1.isNone h))⟩
theorem Rel.grow {T : List Addr} {K : PySem.W.Frag} {w : Option (Addr × Addr)} {G F0 H F H' F' : Hp} {σ : L2.St} {s : S} (r : Rel T K w G F0 σ H F s) (g : Grow F H F' H') : Rel T K w G F0 σ H' F' s := by
  induction g with
  | refl => exact r
  | step p o g h ih => exact ih.newF h
def rD1 (K : PySem.W.Frag) (φ : D → Option D) : V → Hp → VK → Prop := fun x H Q => ∃ F d z, Sub F H ∧ Rep K F d x ∧ φ d = some z ∧ ∀ v H' F', Grow F H F' H' → Rep K F' z v → Q v H'
def rD2 (K : PySem.W.Frag) (φ : D → D → Option D) : R2 := fun x y H Q => ∃ F d e z, Sub F H ∧ Rep K F d x ∧ Rep K F e y ∧ φ d e = some z ∧ ∀ v H' F', Grow F H F' H' → Rep K F' z v → Q v H'
def rDn (K : PySem.W.Frag) (φ : List D → Option D) : List V → Hp → VK → Prop := fun xs H Q => ∃ F ds z, Sub F H ∧ RepL K F ds xs ∧ φ ds = some z ∧ ∀ v H' F', Grow F H F' H' → Rep K F' z v → Q v H'
/-- a call that gives a new list -/
def rDl (K : PySem.W.Frag) (φ : List D → Option (List D)) : List V → Hp → VK → Prop := fun xs H Q => ∃ F ds z, Sub F H ∧ RepL K F ds xs ∧ φ ds = some z ∧ ∀ p vs H' F', Grow F H F' H' → H' p = none → RepL K F' z vs → Q (.ref p) (upd H' p (.lst vs))
def fUn (φ : D → Option D) (f : M D) : M D := do let d ← f; M.lift (φ d)
def fBin (φ : D → D → Option D) (f g : M D) : M D := do let d ← f; let e ← g; M.lift (φ d e)
def fFn (φ : List D → Option D) (g : M (List D)) : M D := do let ds ← g; M.lift (φ ds)
def fFl (φ : List D → Option (List D)) (g : M (List D)) : M (List D) := do let ds ← g; M.lift (φ ds)
section
variable {T : List Addr} {X : Cx} {a b c : Expr} {f g : M D} {pos : Pos}
theorem de_un {op : UnaryOp} {φ : D → Option D} (ho : UnR X (unaryOp op) (rD1 X.K φ)) (ha : DE T X a f) : DE T X (.UnaryOp op a pos) (fUn φ f) := by
  obtain ⟨ta, pa, ra⟩ := ha
  refine ⟨_, pe_un ho pa, fun w G F0 σ H F s d s' r h Q q => ?_⟩
  obtain ⟨d1, s1, h1, h2⟩ := M.bind_some h
  obtain ⟨h3, h4⟩ := M.lift_some h2
  dsimp only at h3 h4
  subst h4
  refine ra w G F0 σ H F s d1 _ r h1 _ fun v H1 F1 r1 e1 p1 => ⟨F1, d1, d, r1.sub, p1, h3, fun u H' F' gr rv => ?_⟩
  exact q u H' F' (r1.grow gr) (e1.trans (gr.sub r1.sub).2) rv
theorem bin_run {K : PySem.W.Frag} {φ : D → D → Option D} {ta tb : TE} {w : Option (Addr × Addr)} {G F0 H F : Hp} {σ : L2.St} {s s' : S} {d : D} {f g : M D}
    (ra : ∀ w G F0 σ H F s d s', Rel T K w G F0 σ H F s → f s = some (d, s') → ∀ Q : VK, (∀ v H' F', Rel T K w G F0 σ H' F' s' → Sub F F' → Rep K F' d v → Q v H') → ta σ H Q)
    (rb : ∀ w G F0 σ H F s d s', Rel T K w G F0 σ H F s → g s = some (d, s') → ∀ Q : VK, (∀ v H' F', Rel T K w G F0 σ H' F' s' → Sub F F' → Rep K F' d v → Q v H') → tb σ H Q)
    (r : Rel T K w G F0 σ H F s) (h : fBin φ f g s = some (d, s')) {Q : VK} (q : ∀ v H' F', Rel T K w G F0 σ H' F' s' → Sub F F' → Rep K F' d v → Q v H') : tOp (rD2 K φ) ta tb σ H Q := by
  obtain ⟨d1, s1, h1, h2⟩ := M.bind_some h
  obtain ⟨d2, s2, h5, h6⟩ := M.bind_some h2
  obtain ⟨h3, h4⟩ := M.lift_some h6
  dsimp only at h3 h4
  subst h4
  refine ra w G F0 σ H F s d1 s1 r h1 _ fun v H1 F1 r1 e1 p1 => ?_
  refine rb w G F0 σ H1 F1 s1 d2 _ r1 h5 _ fun u H2 F2 r2 e2 p2 => ⟨F2, d1, d2, d, r2.sub, p1.mono e2, p2, h3, fun z H' F' gr rv => ?_⟩
  exact q z H' F' (r2.grow gr) (e1.trans (e2.trans (gr.sub r2.sub).2)) rv
theorem de_bin {op : Operator} {φ : D → D → Option D} (ho : OpR X (binaryOp op) (rD2 X.K φ)) (ha : DE T X a f) (hb : DE T X b g) : DE T X (.BinOp a op b pos) (fBin φ f g) := by
  obtain ⟨ta, pa, ra⟩ := ha
  obtain ⟨tb, pb, rb⟩ := hb
  exact ⟨_, pe_op ho pa pb, fun w G F0 σ H F s d s' r h Q q => bin_run ra rb r h q⟩
theorem de_cmp {op : CmpOp} {φ : D → D → Option D} (ho : OpR X (compareOp op) (rD2 X.K φ)) (ha : DE T X a f) (hb : DE T X b g) (hm : behindInMarks op b = false := by first | exact nomark _ | rfl) : DE T X (.Compare a [op] [b] pos) (fBin φ f g) := by
  obtain ⟨ta, pa, ra⟩ := ha
  obtain ⟨tb, pb, rb⟩ := hb
  exact ⟨_, pe_cmpR ho pa pb hm, fun w G F0 σ H F s d s' r h Q q => bin_run ra rb r h q⟩
def fBool (f : M D) : M Bool := do
  let d ← f
  match d with
  | .bool b => pure b
  | _ => fun _ => none
theorem fBool_some {f : M D} {s s' : S} {b : Bool} (h : fBool f s = some (b, s')) : f s = some (.bool b, s') := by
  obtain ⟨d, s1, h1, h2⟩ := M.bind_some h
  cases d with
  | bool k => cases h2; exact h1
  | _ => cases h2
theorem dt_cmp {op : CmpOp} {φ : D → D → Option D} (ho : OpR X (compareOp op) (rD2 X.K φ)) (ha : DE T X a f) (hb : DE T X b g) (hm : behindInMarks op b = false := by first | exact nomark _ | rfl) : DT T X (.Compare a [op] [b] pos) (fBool (fBin φ f g)) := by
  obtain ⟨ta, pa, ra⟩ := ha
  obtain ⟨tb, pb, rb⟩ := hb
  refine ⟨_, pt_cmpR ho pa pb hm, fun w G F0 σ H F s k s' r h Q q => ?_⟩
  exact bin_run ra rb r (fBool_some h) fun v H' F' r' e' rv => ⟨k, rv, q H' F' r' e'⟩
/-- a test by its value, a bool -/
theorem dt_val (ha : DE T X a f) (he : ∀ whole, isTrue a X.env whole = (do let v ← whole; standAt a.pos; holding [v] (truthy v)) := by intro _; rfl) : DT T X a (fBool f) := by
  obtain ⟨ta, pa, ra⟩ := ha
  refine ⟨_, pt_val pa he, fun w G F0 σ H F s k s' r h Q q => ?_⟩
  exact ra w G F0 σ H F s _ s' r (fBool_some h) _ fun v H' F' r' e' rv => ⟨k, rv, q H' F' r' e'⟩
/-- a test by truth -/
def truth : D → Option Bool
  | .none => some false
  | .bool b => some b
  | .int i => some (i != 0)
  | .str x => if x.length ≤ 16777216 then some (x.length != 0) else none
  | .list ds => some (!ds.isEmpty)
  | .tuple ds => some (!ds.isEmpty)
  | .dict _ => none
def fTruth (f : M D) : M Bool := do let d ← f; M.lift (truth d)
theorem truV {K : PySem.W.Frag} {F H : Hp} {d : D} {v : V} {k : Bool} (e : Sub F H) (r : Rep K F d v) (h : truth d = some k) : TruV K v H k := by
  have em : ∀ {ds : List D} {vs : List V}, RepL K F ds vs → (!ds.isEmpty) = (!vs.isEmpty) := fun {ds vs} r => by
    cases ds with
    | nil => rw [show vs = [] from r]; rfl
    | cons d ds => obtain ⟨v, r1, rfl, _⟩ := r; rfl
  cases d with
  | none => cases h; rw [show v = .non from r]; first | rfl | exact ⟨rfl⟩
  | bool b => cases h; rw [show v = .bl k from r]; first | rfl | exact ⟨rfl⟩
  | int i => cases h; rw [show v = .int i from r]; first | rfl | exact ⟨rfl⟩
  | str x =>
    rw [show v = .str x from r]
    by_cases hx : x.length ≤ 16777216
    · have h' : (if x.length ≤ 16777216 then some (x.length != 0) else none) = some k := h
      rw [if_pos hx] at h'
      refine ⟨sizeL hx, ?_⟩
      rw [← Option.some.inj h']
      cases e0 : x.length <;> simp <;> omega
    · have h' : (if x.length ≤ 16777216 then some (x.length != 0) else none) = some k := h
      rw [if_neg hx] at h'; cases h'
  | list ds =>
    obtain ⟨p, vs, rfl, h2, h3⟩ := r
    cases h
    exact .inl ⟨vs, .inl (.inl (e _ _ h2)), em h3⟩
  | tuple ds =>
    obtain ⟨p, vs, rfl, h2, h3⟩ := r
    cases h
    exact .inr (.inl ⟨vs, sub_t e h2, em h3⟩)
  | dict es => cases h
theorem dt_truth (ha : DE T X a f) (he : ∀ whole, isTrue a X.env whole = (do let v ← whole; standAt a.pos; holding [v] (truthy v)) := by intro _; rfl) : DT T X a (fTruth f) := by
  obtain ⟨ta, pa, ra⟩ := ha
  refine ⟨_, pt_truth pa he, fun w G F0 σ H F s k s' r h Q q => ?_⟩
  obtain ⟨d1, s1, h1, h2⟩ := M.bind_some h
  obtain ⟨h3, h4⟩ := M.lift_some h2
  dsimp only at h3 h4
  subst h4
  exact ra w G F0 σ H F s d1 _ r h1 _ fun v H' F' r' e' rv => ⟨k, truV r'.sub rv h3, q H' F' r' e'⟩
def fNot (f : M Bool) : M Bool := do let b ← f; pure (!b)
theorem dt_not {f : M Bool} (ha : DT T X a f) : DT T X (.UnaryOp .Not a pos) (fNot f) := by
  obtain ⟨ta, pa, ra⟩ := ha
  refine ⟨_, pt_not pa, fun w G F0 σ H F s k s' r h Q q => ?_⟩
  obtain ⟨d1, s1, h1, h2⟩ := M.bind_some h
  cases h2
  exact ra w G F0 σ H F s d1 _ r h1 _ fun H' F' r' e' => q H' F' r' e'
def fAnd (f g : M Bool) : M Bool := do let b ← f; if b = true then g else pure false
def fOr (f g : M Bool) : M Bool := do let b ← f; if b = true then pure true else g
theorem dw_and1 {f : M Bool} (ha : DT T X a f) : DW T X (.BoolOp .And [a] pos) f := by
  obtain ⟨ta, pa, ra⟩ := ha
  exact ⟨_, pw_and1 pa, ra⟩
theorem dw_or1 {f : M Bool} (ha : DT T X a f) : DW T X (.BoolOp .Or [a] pos) f := by
  obtain ⟨ta, pa, ra⟩ := ha
  exact ⟨_, pw_or1 pa, ra⟩
theorem dw_and {f g : M Bool} {rest : List Expr} (ha : DT T X a f) (hb : DW T X (.BoolOp .And (b :: rest) pos) g) : DW T X (.BoolOp .And (a :: b :: rest) pos) (fAnd f g) := by
  obtain ⟨ta, pa, ra⟩ := ha
  obtain ⟨tb, pb, rb⟩ := hb
  refine ⟨_, pw_and pa pb, fun w G F0 σ H F s k s' r h Q q => ?_⟩
  obtain ⟨b1, s1, h1, h2⟩ := M.bind_some h
  refine ra w G F0 σ H F s b1 _ r h1 _ fun H1 F1 r1 e1 => ?_
  by_cases hb : b1 = true
  · rw [if_pos hb] at h2 ⊢
    exact rb w G F0 σ H1 F1 s1 k s' r1 h2 _ fun H' F' r' e' => q H' F' r' (e1.trans e')
  · rw [if_neg hb] at h2 ⊢
    cases h2; exact q H1 F1 r1 e1
theorem dw_or {f g : M Bool} {rest : List Expr} (ha : DT T X a f) (hb : DW T X (.BoolOp .Or (b :: rest) pos) g) : DW T X (.BoolOp .Or (a :: b :: rest) pos) (fOr f g) := by
  obtain ⟨ta, pa, ra⟩ := ha
  obtain ⟨tb, pb, rb⟩ := hb
  refine ⟨_, pw_or pa pb, fun w G F0 σ H F s k s' r h Q q => ?_⟩
  obtain ⟨b1, s1, h1, h2⟩ := M.bind_some h
  refine ra w G F0 σ H F s b1 _ r h1 _ fun H1 F1 r1 e1 => ?_
  by_cases hb : b1 = true
  · rw [if_pos hb] at h2 ⊢
    cases h2; exact q H1 F1 r1 e1
  · rw [if_neg hb] at h2 ⊢
    exact rb w G F0 σ H1 F1 s1 k s' r1 h2 _ fun H' F' r' e' => q H' F' r' (e1.trans e')
theorem dt_w {f : M Bool} (h : DW T X a f) : DT T X a f := by
  obtain ⟨t, p, q⟩ := h
  exact ⟨t, p.pt, q⟩
/-! the same as values -/
def fAndV (f g : M D) : M D := do
  let d ← f
  match d with
  | .bool true => g
  | .bool false => pure (.bool false)
  | _ => fun _ => none
def fOrV (f g : M D) : M D := do
  let d ← f
  match d with
  | .bool true => pure (.bool true)
  | .bool false => g
  | _ => fun _ => none
def fNotV (f : M D) : M D := do
  let d ← f
  match d with
  | .bool b => pure (.bool (!b))
  | _ => fun _ => none
theorem de_one {op} (h : DE T X a f) : DE T X (.BoolOp op [a] pos) f := by
  obtain ⟨t, p, q⟩ := h
  exact ⟨t, pe_one p, q⟩
theorem de_and {rest : List Expr} (ha : DE T X a f) (hb : DE T X (.BoolOp .And (b :: rest) pos) g) : DE T X (.BoolOp .And (a :: b :: rest) pos) (fAndV f g) := by
  obtain ⟨ta, pa, ra⟩ := ha
  obtain ⟨tb, pb, rb⟩ := hb
  refine ⟨_, pe_and pa pb, fun w G F0 σ H F s d s' r h Q q => ?_⟩
  obtain ⟨d1, s1, h1, h2⟩ := M.bind_some h
  refine ra w G F0 σ H F s d1 _ r h1 _ fun v H1 F1 r1 e1 p1 => ?_
  cases d1 with
  | bool k =>
    refine ⟨k, p1, ?_⟩
    cases k with
    | true => exact iteT (rb w G F0 σ H1 F1 s1 d s' r1 h2 _ fun u H' F' r' e' => q u H' F' r' (e1.trans e'))
    | false => cases h2; exact iteF (q _ H1 F1 r1 e1 rfl)
  | _ => cases h2
theorem de_or {rest : List Expr} (ha : DE T X a f) (hb : DE T X (.BoolOp .Or (b :: rest) pos) g) : DE T X (.BoolOp .Or (a :: b :: rest) pos) (fOrV f g) := by
  obtain ⟨ta, pa, ra⟩ := ha
  obtain ⟨tb, pb, rb⟩ := hb
  refine ⟨_, pe_or pa pb, fun w G F0 σ H F s d s' r h Q q => ?_⟩
  obtain ⟨d1, s1, h1, h2⟩ := M.bind_some h
  refine ra w G F0 σ H F s d1 _ r h1 _ fun v H1 F1 r1 e1 p1 => ?_
  cases d1 with
  | bool k =>
    refine ⟨k, p1, ?_⟩
    cases k with
    | true => cases h2; exact iteT (q _ H1 F1 r1 e1 rfl)
    | false => exact iteF (rb w G F0 σ H1 F1 s1 d s' r1 h2 _ fun u H' F' r' e' => q u H' F' r' (e1.trans e'))
  | _ => cases h2
theorem de_not (ha : DE T X a f) : DE T X (.UnaryOp .Not a pos) (fNotV f) := by
  obtain ⟨ta, pa, ra⟩ := ha
  refine ⟨_, pe_not pa, fun w G F0 σ H F s d s' r h Q q => ?_⟩
  obtain ⟨d1, s1, h1, h2⟩ := M.bind_some h
  refine ra w G F0 σ H F s d1 _ r h1 _ fun v H1 F1 r1 e1 p1 => ?_
  cases d1 with
  | bool k => cases h2; exact ⟨k, p1, q _ H1 F1 r1 e1 rfl⟩
  | _ => cases h2
def fIfE (t : M Bool) (f g : M D) : M D := do let b ← t; if b = true then f else g
theorem de_if {t : M Bool} (hc : DT T X c t) (ha : DE T X a f) (hb : DE T X b g) : DE T X (.IfExp c a b pos) (fIfE t f g) := by
  obtain ⟨tc, pc, rc⟩ := hc
  obtain ⟨ta, pa, ra⟩ := ha
  obtain ⟨tb, pb, rb⟩ := hb
  refine ⟨_, pe_ifExp pc pa pb, fun w G F0 σ H F s d s' r h Q q => ?_⟩
  obtain ⟨k, s1, h1, h2⟩ := M.bind_some h
  refine rc w G F0 σ H F s k _ r h1 _ fun H1 F1 r1 e1 => ?_
  by_cases hk : k = true
  · rw [if_pos hk] at h2 ⊢
    exact ra w G F0 σ H1 F1 s1 d s' r1 h2 _ fun u H' F' r' e' => q u H' F' r' (e1.trans e')
  · rw [if_neg hk] at h2 ⊢
    exact rb w G F0 σ H1 F1 s1 d s' r1 h2 _ fun u H' F' r' e' => q u H' F' r' (e1.trans e')
/-! ### built-ins by name -/
variable {x : Str} {p : Pos} {e : Expr} {es : List Expr} {id Ty : String} {fs : M (List D)}
theorem fn_run {K : PySem.W.Frag} {φ : List D → Option D} {ta : TA} {w : Option (Addr × Addr)} {G F0 H F : Hp} {σ : L2.St} {s s' : S} {d : D}
    (ra : ∀ w G F0 σ H F s ds s', Rel T K w G F0 σ H F s → fs s = some (ds, s') → ∀ Q : List V → Hp → Prop, (∀ vs H' F', Rel T K w G F0 σ H' F' s' → Sub F F' → RepL K F' ds vs → Q vs H') → ta σ H Q)
    (r : Rel T K w G F0 σ H F s) (h : fFn φ fs s = some (d, s')) {Q : VK} (q : ∀ v H' F', Rel T K w G F0 σ H' F' s' → Sub F F' → Rep K F' d v → Q v H') : tCB (rDn K φ) ta σ H Q := by
  obtain ⟨ds, s1, h1, h2⟩ := M.bind_some h
  obtain ⟨h3, h4⟩ := M.lift_some h2
  dsimp only at h3 h4
  subst h4
  exact ra w G F0 σ H F s ds _ r h1 _ fun vs H1 F1 r1 e1 p1 => ⟨F1, ds, d, r1.sub, p1, h3, fun u H' F' gr rv => q u H' F' (r1.grow gr) (e1.trans (gr.sub r1.sub).2) rv⟩
theorem de_callB {φ : List D → Option D} (hc : CallR X (.builtin id) (rDn X.K φ)) (hg : Gl X x) (hm : X.mg x = none) (hv : bootBuiltins x = some (.builtin id)) (ha : DA T X (e :: es) fs) (hn : x ≠ "__name__" := by decide) (hdb : (x == ("__debug__" : Str)) = false := by decide)
    (he : starEach (e :: es) X.env = (false, eval e X.env) :: starEach es X.env := by rfl) (hpl : (backTo pos (starEach es X.env)).any (·.1) = false := by rfl) : DE T X (.Call (.Name x p) (e :: es) [] pos) (fFn φ fs) := by
  obtain ⟨ta, pa, ra⟩ := ha
  exact ⟨_, pe_callB hc hg hm hv pa hn hdb he hpl, fun w G F0 σ H F s d s' r h Q q => fn_run ra r h q⟩
theorem de_callTy {φ : List D → Option D} (hc : CallR X (.type Ty) (rDn X.K φ)) (hg : Gl X x) (hm : X.mg x = none) (hv : bootBuiltins x = some (.type Ty)) (ha : DA T X (e :: es) fs) (hn : x ≠ "__name__" := by decide) (hdb : (x == ("__debug__" : Str)) = false := by decide)
    (he : starEach (e :: es) X.env = (false, eval e X.env) :: starEach es X.env := by rfl) (hpl : (backTo pos (starEach es X.env)).any (·.1) = false := by rfl) : DE T X (.Call (.Name x p) (e :: es) [] pos) (fFn φ fs) := by
  obtain ⟨ta, pa, ra⟩ := ha
  exact ⟨_, pe_callTy hc hg hm hv pa hn hdb he hpl, fun w G F0 σ H F s d s' r h Q q => fn_run ra r h q⟩
theorem fl_run {K : PySem.W.Frag} {φ : List D → Option (List D)} {ta : TA} {w : Option (Addr × Addr)} {G F0 H F : Hp} {σ : L2.St} {s s' : S} {d : List D}
    (ra : ∀ w G F0 σ H F s ds s', Rel T K w G F0 σ H F s → fs s = some (ds, s') → ∀ Q : List V → Hp → Prop, (∀ vs H' F', Rel T K w G F0 σ H' F' s' → Sub F F' → RepL K F' ds vs → Q vs H') → ta σ H Q)
    (r : Rel T K w G F0 σ H F s) (h : fFl φ fs s = some (d, s')) {Q : VK} (q : ∀ p vs H1 F', H1 p = none → Rel T K w G F0 σ H1 F' s' → Sub F F' → RepL K F' d vs → Q (.ref p) (upd H1 p (.lst vs))) : tCB (rDl K φ) ta σ H Q := by
  obtain ⟨ds, s1, h1, h2⟩ := M.bind_some h
  obtain ⟨h3, h4⟩ := M.lift_some h2
  dsimp only at h3 h4
  subst h4
  exact ra w G F0 σ H F s ds _ r h1 _ fun vs H1 F1 r1 e1 p1 => ⟨F1, ds, d, r1.sub, p1, h3, fun u vs' H' F' gr hu rv => q u vs' H' F' hu (r1.grow gr) (e1.trans (gr.sub r1.sub).2) rv⟩
theorem dn_callB {φ : List D → Option (List D)} (hc : CallR X (.builtin id) (rDl X.K φ)) (hg : Gl X x) (hm : X.mg x = none) (hv : bootBuiltins x = some (.builtin id)) (ha : DA T X (e :: es) fs) (hn : x ≠ "__name__" := by decide) (hdb : (x == ("__debug__" : Str)) = false := by decide)
    (he : starEach (e :: es) X.env = (false, eval e X.env) :: starEach es X.env := by rfl) (hpl : (backTo pos (starEach es X.env)).any (·.1) = false := by rfl) : DN T X (.Call (.Name x p) (e :: es) [] pos) (fFl φ fs) := by
  obtain ⟨ta, pa, ra⟩ := ha
  exact ⟨_, pe_callB hc hg hm hv pa hn hdb he hpl, fun w G F0 σ H F s d s' r h Q q => fl_run ra r h q⟩
theorem dn_callTy {φ : List D → Option (List D)} (hc : CallR X (.type Ty) (rDl X.K φ)) (hg : Gl X x) (hm : X.mg x = none) (hv : bootBuiltins x = some (.type Ty)) (ha : DA T X (e :: es) fs) (hn : x ≠ "__name__" := by decide) (hdb : (x == ("__debug__" : Str)) = false := by decide)
    (he : starEach (e :: es) X.env = (false, eval e X.env) :: starEach es X.env := by rfl) (hpl : (backTo pos (starEach es X.env)).any (·.1) = false := by rfl) : DN T X (.Call (.Name x p) (e :: es) [] pos) (fFl φ fs) := by
  obtain ⟨ta, pa, ra⟩ := ha
  exact ⟨_, pe_callTy hc hg hm hv pa hn hdb he hpl, fun w G F0 σ H F s d s' r h Q q => fl_run ra r h q⟩
end
end Dl

set_option Elab.async false
set_option linter.all false
set_option maxRecDepth 100000
set_option maxHeartbeats 2000000
namespace Dl
open PySem PySem.Spec PyProof.Rows L2
section
variable {X : Cx}
/-! ### arithmetic -/
theorem strOf {K : PySem.W.Frag} {F : Hp} {x : Str} {v : V} (h : Rep K F (.str x) v) : v = .str x := h
def φAdd : D → D → Option D
  | .int i, .int j => some (.int (i + j))
  | .str x, .str y => if x.length + y.length ≤ 16777216 then some (.str (x ++ y)) else none
  | .tuple xs, .tuple ys => if xs.length + ys.length ≤ 16777216 then some (.tuple (xs ++ ys)) else none
  | .list xs, .list ys => if xs.length + ys.length ≤ 16777216 then some (.list (xs ++ ys)) else none
  | _, _ => none
theorem op_addD : OpR X (binaryOp .Add) (rD2 X.K φAdd) := by
  intro pins s σ H x y v u Q I rx ry h
  obtain ⟨F, d, e, z, hs, hx, hy, hz, q⟩ := h
  cases d with
  | int i =>
    cases e with
    | int j =>
      rw [show x = .int i from hx] at rx
      rw [show y = .int j from hy] at ry
      cases hz
      exact op_add pins s σ H _ _ v u Q I rx ry ⟨i, j, rfl, rfl, q _ _ _ (.refl F H) rfl⟩
    | _ => cases hz
  | str i =>
    cases e with
    | str j =>
      rw [show x = .str i from hx] at rx
      rw [show y = .str j from hy] at ry
      have hz' : (if i.length + j.length ≤ 16777216 then some (PyData.str (i ++ j)) else none) = some z := hz
      by_cases hl : i.length + j.length ≤ 16777216
      · rw [if_pos hl] at hz'
        cases hz'
        exact op_add_str pins s σ H _ _ v u Q I rx ry ⟨i, j, rfl, rfl, sizeL hl, q _ _ _ (.refl F H) rfl⟩
      · rw [if_neg hl] at hz'; cases hz'
    | _ => cases hz
  | tuple ds =>
    cases e with
    | tuple es =>
      obtain ⟨a, vs, rfl, h1, h2⟩ := hx
      obtain ⟨b, us, rfl, h3, h4⟩ := hy
      have hz' : (if ds.length + es.length ≤ 16777216 then some (PyData.tuple (ds ++ es)) else none) = some z := hz
      by_cases hl : ds.length + es.length ≤ 16777216
      · rw [if_pos hl] at hz'
        cases hz'
        refine op_catA pins s σ H _ _ v u Q I rx ry ⟨a, b, vs, us, rfl, rfl, sub_t hs h1, sub_t hs h3, sizeL (by rw [h2.length, h4.length]; exact hl), fun e0 => ?_, fun _ e0 => ?_, fun _ _ p hp => ?_⟩
        · subst e0
          have : ds = [] := by cases ds with | nil => rfl | cons _ _ => obtain ⟨_, _, z, _⟩ := h2; cases z
          subst this
          exact q _ _ _ (.refl F H) ⟨b, us, rfl, h3, h4⟩
        · subst e0
          have : es = [] := by cases es with | nil => rfl | cons _ _ => obtain ⟨_, _, z, _⟩ := h4; cases z
          subst this
          refine q _ _ _ (.refl F H) ⟨a, vs, rfl, h1, ?_⟩
          rw [List.append_nil]; exact h2
        · exact q _ _ _ (.one hp) ⟨p, vs ++ us, rfl, .inl (.inl upd_same), (h2.mono (Sub.new (hs.isNone hp))).append (h4.mono (Sub.new (hs.isNone hp)))⟩
      · rw [if_neg hl] at hz'; cases hz'
    | _ => cases hz
  | list ds =>
    cases e with
    | list es =>
      obtain ⟨a, vs, rfl, h1, h2⟩ := hx
      obtain ⟨b, us, rfl, h3, h4⟩ := hy
      have hz' : (if ds.length + es.length ≤ 16777216 then some (PyData.list (ds ++ es)) else none) = some z := hz
      by_cases hl : ds.length + es.length ≤ 16777216
      · rw [if_pos hl] at hz'
        cases hz'
        refine op_cat pins s σ H _ _ v u Q I rx ry ⟨a, b, vs, us, rfl, rfl, hs _ _ h1, hs _ _ h3, sizeL (by rw [h2.length, h4.length]; exact hl), fun p hp => ?_⟩
        exact q _ _ _ (.one hp) ⟨p, vs ++ us, rfl, upd_same, (h2.mono (Sub.new (hs.isNone hp))).append (h4.mono (Sub.new (hs.isNone hp)))⟩
      · rw [if_neg hl] at hz'; cases hz'
    | _ => cases hz
  | _ => cases hz
/-- ints -/
def φI (C : Int → Int → Bool) (g : Int → Int → D) : D → D → Option D
  | .int i, .int j => if C i j = true then some (g i j) else none
  | _, _ => none
def vOf : D → V
  | .int i => .int i
  | .bool b => .bl b
  | _ => .non
theorem op_ints {f : Value → Value → Sem Value} {C' : Int → Int → Prop} {C : Int → Int → Bool} {g : Int → Int → D} (ho : OpR X f (rI C' fun i j => vOf (g i j))) (hC : ∀ i j, C i j = true → C' i j) (hg : ∀ i j, (∃ k, g i j = .int k) ∨ ∃ b, g i j = .bool b) : OpR X f (rD2 X.K (φI C g)) := by
  intro pins s σ H x y v u Q I rx ry h
  obtain ⟨F, d, e, z, hs, hx, hy, hz, q⟩ := h
  cases d with
  | int i =>
    cases e with
    | int j =>
      rw [show x = .int i from hx] at rx
      rw [show y = .int j from hy] at ry
      have hz' : (if C i j = true then some (g i j) else none) = some z := hz
      by_cases hc : C i j = true
      · rw [if_pos hc] at hz'
        cases hz'
        refine ho pins s σ H _ _ v u Q I rx ry ⟨i, j, rfl, rfl, hC i j hc, q _ _ _ (.refl F H) ?_⟩
        show Rep X.K F (g i j) (vOf (g i j))
        rcases hg i j with ⟨k, e⟩ | ⟨b, e⟩
        · rw [e]; rfl
        · rw [e]; rfl
      · rw [if_neg hc] at hz'; cases hz'
    | _ => cases hz
  | _ => cases hz
theorem op_i0 {f : Value → Value → Sem Value} {g : Int → Int → D} (ho : OpR X f (rI0 fun i j => vOf (g i j))) (hg : ∀ i j, (∃ k, g i j = .int k) ∨ ∃ b, g i j = .bool b) : OpR X f (rD2 X.K (φI (fun _ _ => true) g)) :=
  op_ints (C' := fun _ _ => True) (fun pins s σ H x y v u Q I rx ry ⟨i, j, e1, e2, _, q⟩ => ho pins s σ H x y v u Q I rx ry ⟨i, j, e1, e2, q⟩) (fun _ _ _ => trivial) hg
def small64 (i : Int) : Bool := decide (-(2 ^ 64) < i ∧ i < 2 ^ 64)
abbrev φSub := φI (fun _ _ => true) fun i j => .int (i - j)
abbrev φMul := φI (fun i j => small64 i || small64 j) fun i j => .int (i * j)
abbrev φDiv := φI (fun i j => decide (j ≠ 0 ∧ j.natAbs < 1073741824)) fun i j => .int (i.fdiv j)
abbrev φMod := φI (fun _ j => decide (j ≠ 0)) fun i j => .int (i.fmod j)
abbrev φPow := φI (fun i j => decide (0 ≤ j ∧ j ≤ 1000000 ∧ i.natAbs < 2 ^ 64)) fun i j => .int (i ^ j.toNat)
theorem op_subD : OpR X (binaryOp .Sub) (rD2 X.K φSub) := op_i0 op_sub fun _ _ => .inl ⟨_, rfl⟩
theorem op_mulD : OpR X (binaryOp .Mult) (rD2 X.K φMul) := op_ints op_mul (fun i j h => by
  unfold small64 at h
  rw [Bool.or_eq_true, decide_eq_true_eq, decide_eq_true_eq] at h
  exact h) fun _ _ => .inl ⟨_, rfl⟩
theorem op_divD : OpR X (binaryOp .FloorDiv) (rD2 X.K φDiv) := op_ints op_fdivN (fun i j h => show j ≠ 0 ∧ j.natAbs < 1073741824 from of_decide_eq_true h) fun _ _ => .inl ⟨_, rfl⟩
theorem op_modD : OpR X (binaryOp .Mod) (rD2 X.K φMod) := op_ints op_modN (fun i j h => of_decide_eq_true h) fun _ _ => .inl ⟨_, rfl⟩
theorem op_powD : OpR X (binaryOp .Pow) (rD2 X.K φPow) := op_ints op_pow (fun i j h => show 0 ≤ j ∧ j ≤ 1000000 ∧ i.natAbs < 2 ^ 64 from of_decide_eq_true h) fun _ _ => .inl ⟨_, rfl⟩
abbrev φLt := φI (fun _ _ => true) fun i j => .bool (decide (i < j))
abbrev φLe := φI (fun _ _ => true) fun i j => .bool (decide (i ≤ j))
abbrev φGt := φI (fun _ _ => true) fun i j => .bool (decide (j < i))
abbrev φGe := φI (fun _ _ => true) fun i j => .bool (decide (j ≤ i))
theorem op_ltD : OpR X (compareOp .Lt) (rD2 X.K φLt) := op_i0 op_lt fun _ _ => .inr ⟨_, rfl⟩
theorem op_leD : OpR X (compareOp .LtE) (rD2 X.K φLe) := op_i0 op_le fun _ _ => .inr ⟨_, rfl⟩
theorem op_gtD : OpR X (compareOp .Gt) (rD2 X.K φGt) := op_i0 op_gt fun _ _ => .inr ⟨_, rfl⟩
theorem op_geD : OpR X (compareOp .GtE) (rD2 X.K φGe) := op_i0 op_ge fun _ _ => .inr ⟨_, rfl⟩
def φNeg : D → Option D
  | .int i => some (.int (-i))
  | _ => none
theorem un_negD : UnR X (unaryOp .USub) (rD1 X.K φNeg) := by
  intro pins s σ H x v Q I rx h
  obtain ⟨F, d, z, hs, hx, hz, q⟩ := h
  cases d with
  | int i =>
    rw [show x = .int i from hx] at rx
    cases hz
    exact un_neg pins s σ H _ v Q I rx ⟨i, rfl, q _ _ _ (.refl F H) rfl⟩
  | _ => cases hz
/-! ### == and != -/
def flatD : D → Bool
  | .none => true
  | .bool _ => true
  | .int _ => true
  | .str _ => true
  | _ => false
def okEq (d e : D) : Bool := SeqAt.shaped d && SeqAt.shaped e
mutual
theorem canLay_noDict : ∀ (d : D), d.canLay0 = true → noDict d = true
  | .none, _ => rfl
  | .bool _, _ => rfl
  | .int _, _ => rfl
  | .str _, _ => rfl
  | .list ds, h => canLays_noDict ds (by simpa [PyData.canLay0] using h)
  | .tuple ds, h => canLays_noDict ds (by simpa [PyData.canLay0] using h)
  | .dict _, h => by simp [PyData.canLay0] at h
theorem canLays_noDict : ∀ (ds : List D), PyData.canLayAll0 ds = true → noDicts ds = true
  | [], _ => rfl
  | d :: ds, h => by
    have h' : d.canLay0 = true ∧ PyData.canLayAll0 ds = true := by simpa [PyData.canLayAll0] using h
    show (noDict d && noDicts ds) = true
    rw [Bool.and_eq_true]
    exact ⟨canLay_noDict d h'.1, canLays_noDict ds h'.2⟩
end
def φEq (d e : D) : Option D := if okEq d e = true then some (.bool (PyData.eqv d e)) else none
def φNe (d e : D) : Option D := if okEq d e = true then some (.bool (!PyData.eqv d e)) else none
theorem op_eqD' (hu : X.A.units + 64 < cLine) : OpR X (compareOp .Eq) (rD2 X.K φEq) := by
  intro pins s σ H x y v u Q I rx ry h
  obtain ⟨F, d, e, z, hs, hx, hy, hz, q⟩ := h
  unfold φEq at hz
  by_cases hk : okEq d e = true
  · rw [if_pos hk] at hz
    cases hz
    unfold okEq at hk
    rw [Bool.and_eq_true] at hk
    exact op_eqD hu pins s σ H x y v u Q I rx ry ⟨d, e, hx.dp hs (canLay_noDict _ (SeqAt.canLay_of_shaped hk.1)), hy.dp hs (canLay_noDict _ (SeqAt.canLay_of_shaped hk.2)), hk.1, hk.2, q _ _ _ (.refl F H) rfl⟩
  · rw [if_neg hk] at hz; cases hz
theorem op_neD' (hu : X.A.units + 64 < cLine) : OpR X (compareOp .NotEq) (rD2 X.K φNe) := by
  intro pins s σ H x y v u Q I rx ry h
  obtain ⟨F, d, e, z, hs, hx, hy, hz, q⟩ := h
  unfold φNe at hz
  by_cases hk : okEq d e = true
  · rw [if_pos hk] at hz
    cases hz
    unfold okEq at hk
    rw [Bool.and_eq_true] at hk
    exact op_neD hu pins s σ H x y v u Q I rx ry ⟨d, e, hx.dp hs (canLay_noDict _ (SeqAt.canLay_of_shaped hk.1)), hy.dp hs (canLay_noDict _ (SeqAt.canLay_of_shaped hk.2)), hk.1, hk.2, q _ _ _ (.refl F H) rfl⟩
  · rw [if_neg hk] at hz; cases hz
/-! ### is -/
def isNon : D → Bool
  | .none => true
  | _ => false
theorem repNon {K : PySem.W.Frag} {F : Hp} {d : D} {v : V} (r : Rep K F d v) : decide (v = .non) = isNon d := by
  cases d with
  | none => cases (show v = .non from r); rfl
  | bool b => cases (show v = .bl b from r); rfl
  | int b => cases (show v = .int b from r); rfl
  | str b => cases (show v = .str b from r); rfl
  | list ds => obtain ⟨a, _, rfl, _⟩ := r; rfl
  | tuple ds => obtain ⟨a, _, rfl, _⟩ := r; rfl
  | dict ds => obtain ⟨a, _, rfl, _⟩ := r; rfl
def φIs : D → D → Option D
  | d, .none => some (.bool (isNon d))
  | .bool a, .bool b => some (.bool (a == b))
  | _, _ => none
def φIsNot : D → D → Option D
  | d, .none => some (.bool (!isNon d))
  | .bool a, .bool b => some (.bool (!(a == b)))
  | _, _ => none
theorem op_isD : OpR X (compareOp .Is) (rD2 X.K φIs) := by
  intro pins s σ H x y v u Q I rx ry h
  obtain ⟨F, d, e, z, hs, hx, hy, hz, q⟩ := h
  cases e with
  | none =>
    have hz' : some (PyData.bool (isNon d)) = some z := by cases d <;> exact hz
    cases hz'
    refine op_isN pins s σ H x y v u Q I rx ry ⟨hy, q _ _ _ (.refl F H) ?_⟩
    show V.bl _ = V.bl _
    rw [repNon hx]
  | bool b =>
    cases d with
    | bool a =>
      cases hz
      refine op_isBl pins s σ H x y v u Q I rx ry ⟨a, b, hx, hy, q _ _ _ (.refl F H) ?_⟩
      show V.bl _ = V.bl _
      cases a <;> cases b <;> rfl
    | _ => cases hz
  | _ => cases d <;> cases hz
theorem op_isNotD : OpR X (compareOp .IsNot) (rD2 X.K φIsNot) := by
  intro pins s σ H x y v u Q I rx ry h
  obtain ⟨F, d, e, z, hs, hx, hy, hz, q⟩ := h
  cases e with
  | none =>
    have hz' : some (PyData.bool (!isNon d)) = some z := by cases d <;> exact hz
    cases hz'
    refine op_notN pins s σ H x y v u Q I rx ry ⟨hy, q _ _ _ (.refl F H) ?_⟩
    show V.bl _ = V.bl _
    rw [repNon hx]
  | bool b =>
    cases d with
    | bool a =>
      cases hz
      refine op_notBl pins s σ H x y v u Q I rx ry ⟨a, b, hx, hy, q _ _ _ (.refl F H) ?_⟩
      show V.bl _ = V.bl _
      cases a <;> cases b <;> rfl
    | _ => cases hz
  | _ => cases d <;> cases hz
/-! ### in -/
theorem flatV_of {K : PySem.W.Frag} {F : Hp} : ∀ {d : D} {v : V}, flatD d = true → Rep K F d v → flatV v = true
  | .none, _, _, h => by rw [show _ = V.non from h]; rfl
  | .bool b, _, _, h => by rw [show _ = V.bl b from h]; rfl
  | .int i, _, _, h => by rw [show _ = V.int i from h]; rfl
  | .str x, _, _, h => by rw [show _ = V.str x from h]; rfl
  | .list _, _, h, _ => by cases h
  | .tuple _, _, h, _ => by cases h
  | .dict _, _, h, _ => by cases h
theorem eqV_of {K : PySem.W.Frag} {F : Hp} {d e : D} {x y : V} (hd : flatD d = true) (he : flatD e = true) (rd : Rep K F d x) (re : Rep K F e y) : eqV y x = PyData.eqv e d := by
  cases d <;> first | cases hd | skip
  all_goals (cases e <;> first | cases he | skip)
  all_goals (first | (rw [show x = _ from rd, show y = _ from re]) | skip)
  all_goals (simp [eqV, PyData.eqv])
theorem inV_of {K : PySem.W.Frag} {F : Hp} {d : D} {x : V} (hd : flatD d = true) (rd : Rep K F d x) : ∀ {ds : List D} {vs : List V}, ds.all flatD = true → RepL K F ds vs → vs.all flatV = true ∧ inV x vs = ds.any fun e => PyData.eqv e d
  | [], _, _, h => by rw [show _ = [] from h]; exact ⟨rfl, rfl⟩
  | e :: ds, _, ha, ⟨v, r, h1, h2, h3⟩ => by
    subst h1
    rw [List.all_cons, Bool.and_eq_true] at ha
    obtain ⟨i1, i2⟩ := inV_of hd rd ha.2 h3
    refine ⟨by rw [List.all_cons, flatV_of ha.1 h2, i1]; rfl, ?_⟩
    show (eqV v x || inV x r) = _
    rw [i2, eqV_of hd ha.1 rd h2]; rfl
def oneSign : Str → Option Nat
  | ⟨⟨[c]⟩⟩ => some c
  | _ => none
theorem oneSign_some {x : Str} {c : Nat} (h : oneSign x = some c) : x = ⟨#[c]⟩ := by
  unfold oneSign at h
  split at h
  · cases h; rfl
  · cases h
def φIn (neg : Bool) : D → D → Option D
  | d, .list es => if flatD d && es.all flatD then some (.bool (if neg then !(es.any fun e => PyData.eqv e d) else es.any fun e => PyData.eqv e d)) else none
  | d, .tuple es => if flatD d && es.all flatD then some (.bool (if neg then !(es.any fun e => PyData.eqv e d) else es.any fun e => PyData.eqv e d)) else none
  | .str x, .str y => (oneSign x).map fun c => .bool (if neg then !decide (c ∈ y.cps.toList) else decide (c ∈ y.cps.toList))
  | _, _ => none
theorem in_seq {f : Value → Value → Sem Value} {neg : Bool} (ho : OpR X f (rIn X.K neg)) {pins : List (Addr × Obj)} {s : Shared} {σ : L2.St} {H F : Hp} {x : V} {v u : Value} {Q : VK} {p : Addr} {d : D} {es : List D} {vs : List V} (I : Inv X pins σ H s) (rx : RelV x v) (ry : RelV (.ref p) u)
    (hx : Rep X.K F d x) (hq : SqL X.K H p vs ∨ SqT X.K H p vs) (hv : RepL X.K F es vs) (hk : (flatD d && es.all flatD) = true)
    (q : Q (.bl (if neg then !(es.any fun e => PyData.eqv e d) else es.any fun e => PyData.eqv e d)) H) : wpAny (model X.prog X.w) X.A (f v u) (EP X pins σ Q) X.xe s := by
  rw [Bool.and_eq_true] at hk
  obtain ⟨i1, i2⟩ := inV_of hk.1 hx hk.2 hv
  refine ho pins s σ H _ _ v u Q I rx ry ⟨p, vs, rfl, hq, flatV_of hk.1 hx, i1, ?_⟩
  rw [i2]; exact q
theorem op_inG {f : Value → Value → Sem Value} {neg : Bool} (ho : OpR X f (rIn X.K neg)) (hs : OpR X f (fun x y H Q => ∃ (c : Nat) (z : Str), x = .str ⟨#[c]⟩ ∧ y = .str z ∧ Q (.bl (if neg then !decide (c ∈ z.cps.toList) else decide (c ∈ z.cps.toList))) H)) : OpR X f (rD2 X.K (φIn neg)) := by
  intro pins s σ H x y v u Q I rx ry h
  obtain ⟨F, d, e, z, sb, hx, hy, hz, q⟩ := h
  cases e with
  | list es =>
    obtain ⟨p, vs, rfl, h1, h2⟩ := hy
    have hz' : (if flatD d && es.all flatD then some (PyData.bool (if neg then !(es.any fun e => PyData.eqv e d) else es.any fun e => PyData.eqv e d)) else none) = some z := by cases d <;> exact hz
    by_cases hk : (flatD d && es.all flatD) = true
    · rw [if_pos hk] at hz'
      cases hz'
      exact in_seq ho I rx ry hx (.inl (.inl (.inl (sb _ _ h1)))) h2 hk (q _ _ _ (.refl F H) rfl)
    · rw [if_neg hk] at hz'; cases hz'
  | tuple es =>
    obtain ⟨p, vs, rfl, h1, h2⟩ := hy
    have hz' : (if flatD d && es.all flatD then some (PyData.bool (if neg then !(es.any fun e => PyData.eqv e d) else es.any fun e => PyData.eqv e d)) else none) = some z := by cases d <;> exact hz
    by_cases hk : (flatD d && es.all flatD) = true
    · rw [if_pos hk] at hz'
      cases hz'
      exact in_seq ho I rx ry hx (.inr (sub_t sb h1)) h2 hk (q _ _ _ (.refl F H) rfl)
    · rw [if_neg hk] at hz'; cases hz'
  | str y' =>
    cases d with
    | str x' =>
      have hz' : (oneSign x').map (fun c => PyData.bool (if neg then !decide (c ∈ y'.cps.toList) else decide (c ∈ y'.cps.toList))) = some z := hz
      cases hc : oneSign x' with
      | none => rw [hc] at hz'; cases hz'
      | some c =>
        rw [hc] at hz'
        cases hz'
        exact hs pins s σ H x y v u Q I rx ry ⟨c, y', by rw [show x = .str x' from hx, oneSign_some hc], hy, q _ _ _ (.refl F H) rfl⟩
    | _ => cases hz
  | _ => cases d <;> cases hz
theorem op_inD : OpR X (compareOp .In) (rD2 X.K (φIn false)) := op_inG op_in_seq fun pins s σ H x y v u Q I rx ry ⟨c, z, e1, e2, q⟩ => op_in_sign pins s σ H x y v u Q I rx ry ⟨c, z, e1, e2, q⟩
theorem op_notInD : OpR X (compareOp .NotIn) (rD2 X.K (φIn true)) := op_inG op_notIn_seq fun pins s σ H x y v u Q I rx ry ⟨c, z, e1, e2, q⟩ => op_notIn_sign pins s σ H x y v u Q I rx ry ⟨c, z, e1, e2, q⟩
end
end Dl

set_option Elab.async false
set_option linter.all false
set_option maxRecDepth 100000
set_option maxHeartbeats 2000000
namespace Dl
open PySem PySem.Spec PyProof.Rows L2
/-! ### what is walked -/
def Yld (K : PySem.W.Frag) (F : Hp) (J : It) (ds : List D) : Prop := ∀ F' H', Sub F F' → Sub F' H' → ∀ i : Nat, (ds.length ≤ i → J.stop i H') ∧
  ∀ d, ds[i]? = some d → J.go i H' ∧ ∀ x H'', J.yld i H' x H'' → ∃ F'', Grow F' H' F'' H'' ∧ Rep K F'' d x
theorem Yld.up {K : PySem.W.Frag} {F F1 : Hp} {J : It} {ds : List D} (h : Yld K F J ds) (e : Sub F F1) : Yld K F1 J ds := fun F' H' a b => h F' H' (e.trans a) b
def DI (T : List Addr) (X : Cx) (tg iter : Expr) (f : M (List D)) : Prop := ∃ wi, PI X tg iter wi ∧ ∀ w G F0 σ H F s ds s', Rel T X.K w G F0 σ H F s → f s = some (ds, s') →
  ∀ R : It → Hp → Prop, (∀ J H' F', Rel T X.K w G F0 σ H' F' s' → Sub F F' → Yld X.K F' J ds → R J H') → wi σ H R
def Same (vs : List Nat) (σ σ' : L2.St) : Prop := σ'.length = σ.length ∧ ∀ i : Nat, i ∉ vs → σ'[i]? = σ[i]?
theorem Same.refl {vs : List Nat} {σ : L2.St} : Same vs σ σ := ⟨rfl, fun _ _ => rfl⟩
theorem Same.trans {v1 v2 : List Nat} {σ σ1 σ2 : L2.St} (a : Same v1 σ σ1) (b : Same v2 σ1 σ2) : Same (v1 ++ v2) σ σ2 := ⟨b.1.trans a.1, fun i h => by
  rw [List.mem_append] at h
  exact (b.2 i fun z => h (.inr z)).trans (a.2 i fun z => h (.inl z))⟩
theorem Same.set {σ : L2.St} {i : Nat} {x : Option V} : Same [i] σ (σ.set i x) := ⟨List.length_set, fun j h => List.getElem?_set_ne (fun e => h (by rw [e]; exact List.mem_singleton_self _))⟩
def DG (T : List Addr) (X : Cx) (tg : Expr) (vs : List Nat) (g : D → M Unit) : Prop := ∃ t, PG X tg t ∧ ∀ w G F0 σ H F s d v u s', Rel T X.K w G F0 σ H F s → Rep X.K F d v → g d s = some (u, s') →
  ∀ Q : L2.St → Hp → Prop, (∀ σ' H' F', Rel T X.K w G F0 σ' H' F' s' → Sub F F' → Same vs σ σ' → Q σ' H') → t v σ H Q
def DGs (T : List Addr) (X : Cx) (tg : List Expr) (vs : List Nat) (g : List D → M Unit) : Prop := ∃ t, PGs X tg t ∧ ∀ w G F0 σ H F s ds xs u s', Rel T X.K w G F0 σ H F s → RepL X.K F ds xs → g ds s = some (u, s') →
  ∀ Q : L2.St → Hp → Prop, (∀ σ' H' F', Rel T X.K w G F0 σ' H' F' s' → Sub F F' → Same vs σ σ' → Q σ' H') → t xs σ H Q
theorem pi_or {X : Cx} {tg iter : Expr} {w1 w2 : TI} (h1 : PI X tg iter w1) (h2 : PI X tg iter w2) : PI X tg iter (fun σ H R => w1 σ H R ∨ w2 σ H R) :=
  ⟨fun pins s σ H R I h => h.elim (h1.run pins s σ H R I) (h2.run pins s σ H R I)⟩
theorem pg_or {X : Cx} {tg : Expr} {t1 t2 : TG} (h1 : PG X tg t1) (h2 : PG X tg t2) : PG X tg (fun v σ H Q => t1 v σ H Q ∨ t2 v σ H Q) :=
  ⟨fun pins s σ H v u Q I r h => h.elim (h1.run pins s σ H v u Q I r) (h2.run pins s σ H v u Q I r)⟩
section
variable {K : PySem.W.Frag} {F : Hp}
theorem yld_list {a : Addr} {vs : List V} {ds : List D} (h : F a = some (.lst vs)) (r : RepL K F ds vs) : Yld K F (Itl K a) ds := fun F' H' e e' i => by
  have hs : SqL K H' a vs := .inl (.inl (e' _ _ (e _ _ h)))
  refine ⟨fun hl => ⟨vs, hs, by rw [r.length]; exact hl⟩, fun d hd => ?_⟩
  obtain ⟨v, hv, rv⟩ := r.get hd
  refine ⟨⟨vs, v, hs, hv⟩, fun x H'' hy => ?_⟩
  obtain ⟨rfl, hy⟩ := hy
  have e1 := hy vs hs
  rw [hv] at e1
  cases e1
  exact ⟨F', .refl _ _, rv.mono e⟩
theorem yld_tup {a : Addr} {vs : List V} {ds : List D} (h : SqT K F a vs) (r : RepL K F ds vs) : Yld K F (Itt K a) ds := fun F' H' e e' i => by
  have hs : SqT K H' a vs := sub_t (e.trans e') h
  refine ⟨fun hl => ⟨vs, hs, by rw [r.length]; exact hl⟩, fun d hd => ?_⟩
  obtain ⟨v, hv, rv⟩ := r.get hd
  refine ⟨⟨vs, v, hs, hv⟩, fun x H'' hy => ?_⟩
  obtain ⟨rfl, hy⟩ := hy
  have e1 := hy vs hs
  rw [hv] at e1
  cases e1
  exact ⟨F', .refl _ _, rv.mono e⟩
def signsOf (x : Str) : List D := x.cps.toList.map fun c => .str ⟨#[c]⟩
theorem yld_str {x : Str} : Yld K F (Its x) (signsOf x) := fun F' H' e e' i => by
  refine ⟨fun hl => ?_, fun d hd => ?_⟩
  · show x.cps.size ≤ i
    unfold signsOf at hl
    simpa using hl
  · unfold signsOf at hd
    rw [List.getElem?_map] at hd
    cases hc : x.cps.toList[i]? with
    | none => rw [hc] at hd; cases hd
    | some c =>
      rw [hc] at hd
      cases hd
      have hi : i < x.cps.size := by
        obtain ⟨hl, _⟩ := List.getElem?_eq_some_iff.mp hc
        simpa using hl
      refine ⟨hi, fun y H'' hy => ?_⟩
      obtain ⟨rfl, c', h1, rfl⟩ := hy
      have e1 : x.cps.toList[i]? = some c' := by rw [Array.getElem?_toList]; exact h1
      rw [hc] at e1
      cases e1
      exact ⟨F', .refl _ _, rfl⟩
def rangeD (lo : Int) (n : Nat) : List D := (List.range n).map fun (i : Nat) => .int (lo + (i : Int))
theorem yld_range {lo : Int} {n : Nat} : Yld K F (Itr lo n) (rangeD lo n) := fun F' H' e e' i => by
  refine ⟨fun hl => ?_, fun d hd => ?_⟩
  · show n ≤ i
    unfold rangeD at hl
    simpa using hl
  · unfold rangeD at hd
    rw [List.getElem?_map] at hd
    cases hc : (List.range n)[i]? with
    | none => rw [hc] at hd; cases hd
    | some c =>
      rw [hc] at hd
      cases hd
      obtain ⟨hl, ec⟩ := List.getElem?_eq_some_iff.mp hc
      rw [List.getElem_range] at ec
      subst ec
      refine ⟨show i < n by simpa using hl, fun y H'' hy => ?_⟩
      obtain ⟨rfl, rfl⟩ := hy
      exact ⟨F', .refl _ _, rfl⟩
end
def itemsOf : D → Option (List D)
  | .list ds => some ds
  | .tuple ds => some ds
  | .str x => some (signsOf x)
  | _ => none
def fSeq (f : M D) : M (List D) := do let d ← f; M.lift (itemsOf d)
section
variable {T : List Addr} {X : Cx} {tg iter e e2 : Expr} {f f2 : M D}
theorem di_seq (h : DE T X e f) : DI T X tg e (fSeq f) := by
  obtain ⟨te, pe, re⟩ := h
  refine ⟨_, pi_or (pi_list pe) (pi_or (pi_tup pe) (pi_str pe)), fun w G F0 σ H F s ds s' r h R q => ?_⟩
  obtain ⟨d, s1, h1, h2⟩ := M.bind_some h
  obtain ⟨h3, h4⟩ := M.lift_some h2
  dsimp only at h3 h4
  subst h4
  cases d with
  | list es =>
    cases h3
    exact .inl (re w G F0 σ H F s _ _ r h1 _ fun v H1 F1 r1 e1 ⟨a, vs, ev, p1, p2⟩ => ⟨a, ev, ⟨vs, .inl (.inl (r1.sub _ _ p1))⟩, q _ H1 F1 r1 e1 (yld_list p1 p2)⟩)
  | tuple es =>
    cases h3
    exact .inr (.inl (re w G F0 σ H F s _ _ r h1 _ fun v H1 F1 r1 e1 ⟨a, vs, ev, p1, p2⟩ => ⟨a, ev, ⟨vs, sub_t r1.sub p1⟩, q _ H1 F1 r1 e1 (yld_tup p1 p2)⟩))
  | str x =>
    cases h3
    exact .inr (.inr (re w G F0 σ H F s _ _ r h1 _ fun v H1 F1 r1 e1 p1 => ⟨x, p1, q _ H1 F1 r1 e1 yld_str⟩))
  | _ => cases h3
def small62 (i : Int) : Bool := decide (-(2 ^ 62) ≤ i ∧ i < 2 ^ 62)
def range1 : D → Option (List D)
  | .int j => if small62 j = true then some (rangeD 0 j.toNat) else none
  | _ => none
def range2 : D → D → Option (List D)
  | .int i, .int j => if small62 i && small62 j then some (rangeD i (j - i).toNat) else none
  | _, _ => none
def fRange1 (f : M D) : M (List D) := do let d ← f; M.lift (range1 d)
def fRange2 (f g : M D) : M (List D) := do let d ← f; let e ← g; M.lift (range2 d e)
theorem di_range1 {p pos : Pos} (hg : Gl X "range") (hm : X.mg "range" = none) (ha : DE T X e f) (hs : starEach [e] X.env = [(false, eval e X.env)] := by rfl) (hs' : starEach (e :: []) X.env = (false, eval e X.env) :: starEach [] X.env := by rfl) :
    DI T X tg (.Call (.Name "range" p) [e] [] pos) (fRange1 f) := by
  obtain ⟨ta, pa, ra⟩ := ha
  refine ⟨_, pi_range1 hg hm (pa_cons pa pa_nil hs') hs, fun w G F0 σ H F s ds s' r h R q => ?_⟩
  obtain ⟨d, s1, h1, h2⟩ := M.bind_some h
  obtain ⟨h3, h4⟩ := M.lift_some h2
  dsimp only at h3 h4
  subst h4
  cases d with
  | int j =>
    have h5 : (if small62 j = true then some (rangeD 0 j.toNat) else none) = some ds := h3
    by_cases hj : small62 j = true
    · rw [if_pos hj] at h5
      cases h5
      have hj' := of_decide_eq_true hj
      exact ra w G F0 σ H F s _ _ r h1 _ fun v H1 F1 r1 e1 p1 => ⟨j, by rw [show v = .int j from p1], hj'.1, hj'.2, q _ H1 F1 r1 e1 yld_range⟩
    · rw [if_neg hj] at h5; cases h5
  | _ => cases h3
theorem di_range2 {p pos : Pos} (hg : Gl X "range") (hm : X.mg "range" = none) (ha : DE T X e f) (hb : DE T X e2 f2) (hs : starEach [e, e2] X.env = [(false, eval e X.env), (false, eval e2 X.env)] := by rfl) (hs2 : starEach [e2] X.env = [(false, eval e2 X.env)] := by rfl)
    (hs' : starEach (e :: [e2]) X.env = (false, eval e X.env) :: starEach [e2] X.env := by rfl) (hs2' : starEach (e2 :: []) X.env = (false, eval e2 X.env) :: starEach [] X.env := by rfl) :
    DI T X tg (.Call (.Name "range" p) [e, e2] [] pos) (fRange2 f f2) := by
  obtain ⟨ta, pa, ra⟩ := ha
  obtain ⟨tb, pb, rb⟩ := hb
  refine ⟨_, pi_range2 hg hm (pa_cons pa (pa_cons pb pa_nil hs2') hs') hs hs2, fun w G F0 σ H F s ds s' r h R q => ?_⟩
  obtain ⟨d, s1, h1, h2⟩ := M.bind_some h
  obtain ⟨d2, s2, h6, h7⟩ := M.bind_some h2
  obtain ⟨h3, h4⟩ := M.lift_some h7
  dsimp only at h3 h4
  subst h4
  cases d with
  | int i =>
    cases d2 with
    | int j =>
      have h5 : (if small62 i && small62 j then some (rangeD i (j - i).toNat) else none) = some ds := h3
      by_cases hj : (small62 i && small62 j) = true
      · rw [if_pos hj] at h5
        cases h5
        rw [Bool.and_eq_true] at hj
        have hi' := of_decide_eq_true hj.1
        have hj' := of_decide_eq_true hj.2
        refine ra w G F0 σ H F s _ _ r h1 _ fun v H1 F1 r1 e1 p1 => rb w G F0 σ H1 F1 s1 _ _ r1 h6 _ fun u H2 F2 r2 e2 p2 => ?_
        exact ⟨i, j, by rw [show v = .int i from p1, show u = .int j from p2], ⟨hi'.1, hi'.2, hj'.1, hj'.2⟩, q _ H2 F2 r2 (e1.trans e2) yld_range⟩
      · rw [if_neg hj] at h5; cases h5
    | _ => cases h3
  | _ => cases h3
/-- enumerate of a list; zip of two lists, of two tuples: the pairs are new tuples -/
def enumD (ds : List D) : List D := (ds.zipIdx).map fun (p : D × Nat) => .tuple [.int (p.2 : Int), p.1]
def enumOf : D → Option (List D)
  | .list ds => some (enumD ds)
  | _ => none
def fEnum (f : M D) : M (List D) := do let d ← f; M.lift (enumOf d)
theorem yld_enum {K : PySem.W.Frag} {F : Hp} {a : Addr} {vs : List V} {ds : List D} (h : F a = some (.lst vs)) (r : RepL K F ds vs) : Yld K F (Ite K a) (enumD ds) := fun F' H' e e' i => by
  have hs : SqL K H' a vs := .inl (.inl (e' _ _ (e _ _ h)))
  refine ⟨fun hl => ⟨vs, hs, ?_⟩, fun d hd => ?_⟩
  · unfold enumD at hl
    rw [List.length_map, List.length_zipIdx] at hl
    rw [r.length]; exact hl
  · unfold enumD at hd
    rw [List.getElem?_map, List.getElem?_zipIdx] at hd
    cases hc : ds[i]? with
    | none => rw [hc] at hd; cases hd
    | some c =>
      rw [hc] at hd
      cases hd
      obtain ⟨v, hv, rv⟩ := r.get hc
      refine ⟨⟨vs, v, hs, hv⟩, fun x H'' hy => ?_⟩
      obtain ⟨T, x1, rfl, hT, rfl, hx⟩ := hy
      have e1 := hx vs hs
      rw [hv] at e1
      cases e1
      have fT := e'.isNone hT
      refine ⟨_, .one hT, T, _, rfl, .inl (.inl upd_same), _, _, rfl, ?_, _, _, rfl, rv.mono (e.trans (Sub.new fT)), rfl⟩
      show V.int _ = V.int _
      rw [Nat.zero_add]
theorem di_enum {p pos tpos : Pos} {elts : List Expr} {kk : Nat} (hg : Gl X "enumerate") (hm : X.mg "enumerate" = none) (ha : DE T X e f) (hs : starEach [e] X.env = [(false, eval e X.env)] := by rfl) (hs' : starEach (e :: []) X.env = (false, eval e X.env) :: starEach [] X.env := by rfl) :
    DI T X (.Tuple elts kk tpos) (.Call (.Name "enumerate" p) [e] [] pos) (fEnum f) := by
  obtain ⟨ta, pa, ra⟩ := ha
  refine ⟨_, pi_enum hg hm (pa_cons pa pa_nil hs') hs, fun w G F0 σ H F s ds s' r h R q => ?_⟩
  obtain ⟨d, s1, h1, h2⟩ := M.bind_some h
  obtain ⟨h3, h4⟩ := M.lift_some h2
  dsimp only at h3 h4
  subst h4
  cases d with
  | list es =>
    cases h3
    exact ra w G F0 σ H F s _ _ r h1 _ fun v H1 F1 r1 e1 ⟨a, vs, ev, p1, p2⟩ => ⟨a, vs, by rw [ev], .inl (.inl (r1.sub _ _ p1)), q _ H1 F1 r1 e1 (yld_enum p1 p2)⟩
  | _ => cases h3
def zipD (ds es : List D) : List D := (ds.zip es).map fun (p : D × D) => .tuple [p.1, p.2]
def zipOf : D → D → Option (List D)
  | .list ds, .list es => some (zipD ds es)
  | .tuple ds, .tuple es => some (zipD ds es)
  | _, _ => none
def fZip (f g : M D) : M (List D) := do let d ← f; let e ← g; M.lift (zipOf d e)
theorem yld_zip {K : PySem.W.Frag} {F : Hp} {J : It} {P Q : Hp → List V → Prop} {vs us : List V} {ds es : List D} (r1 : RepL K F ds vs) (r2 : RepL K F es us)
    (hP : ∀ H', Sub F H' → P H' vs) (hQ : ∀ H', Sub F H' → Q H' us)
    (hgo : ∀ i H, J.go i H ↔ ∃ (xs ys : List V) (x y : V), P H xs ∧ Q H ys ∧ xs[i]? = some x ∧ ys[i]? = some y)
    (hyld : ∀ i H v H', J.yld i H v H' → ∃ T x y, v = .ref T ∧ H T = none ∧ H' = upd H T (.tup [x, y]) ∧ (∀ xs, P H xs → xs[i]? = some x) ∧ ∀ ys, Q H ys → ys[i]? = some y)
    (hst : ∀ i H, (∃ xs ys : List V, P H xs ∧ Q H ys ∧ (xs.length ≤ i ∨ ys.length ≤ i)) → J.stop i H) : Yld K F J (zipD ds es) := fun F' H' e e' i => by
  have hs1 := hP H' (e.trans e')
  have hs2 := hQ H' (e.trans e')
  refine ⟨fun hl => hst i H' ⟨vs, us, hs1, hs2, ?_⟩, fun d hd => ?_⟩
  · unfold zipD at hl
    rw [List.length_map, List.length_zip] at hl
    rw [r1.length, r2.length]; omega
  · unfold zipD at hd
    rw [List.getElem?_map] at hd
    cases hc : (ds.zip es)[i]? with
    | none => rw [hc] at hd; cases hd
    | some c =>
      rw [hc] at hd
      cases hd
      obtain ⟨hd1, hd2⟩ := List.getElem?_zip_eq_some.mp hc
      obtain ⟨v, hv, rv⟩ := r1.get hd1
      obtain ⟨u, hu, ru⟩ := r2.get hd2
      refine ⟨(hgo i H').mpr ⟨vs, us, v, u, hs1, hs2, hv, hu⟩, fun x H'' hy => ?_⟩
      obtain ⟨T, x1, x2, rfl, hT, rfl, hx1, hx2⟩ := hyld i H' x H'' hy
      have e1 := hx1 vs hs1
      rw [hv] at e1
      cases e1
      have e2 := hx2 us hs2
      rw [hu] at e2
      cases e2
      have fT := e'.isNone hT
      exact ⟨_, .one hT, T, _, rfl, .inl (.inl upd_same), _, _, rfl, rv.mono (e.trans (Sub.new fT)), _, _, rfl, ru.mono (e.trans (Sub.new fT)), rfl⟩
theorem di_zip {p pos tpos : Pos} {elts : List Expr} {kk : Nat} (hg : Gl X "zip") (hm : X.mg "zip" = none) (ha : DE T X e f) (hb : DE T X e2 f2) (hs : starEach [e, e2] X.env = (false, eval e X.env) :: starEach [e2] X.env := by rfl) (hpl : (backTo pos (starEach [e2] X.env)).any (·.1) = false := by rfl)
    (hs2' : starEach (e2 :: []) X.env = (false, eval e2 X.env) :: starEach [] X.env := by rfl) : DI T X (.Tuple elts kk tpos) (.Call (.Name "zip" p) [e, e2] [] pos) (fZip f f2) := by
  obtain ⟨ta, pa, ra⟩ := ha
  obtain ⟨tb, pb, rb⟩ := hb
  refine ⟨_, RZ.pi_zipA hg hm (pa_cons pa (pa_cons pb pa_nil hs2') hs) hs hpl, fun w G F0 σ H F s ds s' r h R q => ?_⟩
  obtain ⟨d, s1, h1, h2⟩ := M.bind_some h
  obtain ⟨d2, s2, h6, h7⟩ := M.bind_some h2
  obtain ⟨h3, h4⟩ := M.lift_some h7
  dsimp only at h3 h4
  subst h4
  cases d with
  | list es =>
    cases d2 with
    | list es' =>
      cases h3
      refine ra w G F0 σ H F s _ _ r h1 _ fun v H1 F1 r1 e1 ⟨a, vs, ev, p1, p2⟩ => rb w G F0 σ H1 F1 s1 _ _ r1 h6 _ fun u H2 F2 r2 e2 ⟨b, us, eu, p3, p4⟩ => ?_
      refine ⟨a, b, vs, us, by rw [ev, eu], .inl ⟨.inl (.inl (r2.sub _ _ (e2 _ _ p1))), .inl (.inl (r2.sub _ _ p3)), q _ H2 F2 r2 (e1.trans e2) ?_⟩⟩
      exact yld_zip (P := fun H xs => SqL X.K H a xs) (Q := fun H xs => SqL X.K H b xs) (p2.mono e2) p4 (fun H' e => .inl (.inl (e _ _ (e2 _ _ p1)))) (fun H' e => .inl (.inl (e _ _ p3))) (fun i H => Iff.rfl) (fun i H v H' hy => hy) fun i H hst => hst
    | _ => cases h3
  | tuple es =>
    cases d2 with
    | tuple es' =>
      cases h3
      refine ra w G F0 σ H F s _ _ r h1 _ fun v H1 F1 r1 e1 ⟨a, vs, ev, p1, p2⟩ => rb w G F0 σ H1 F1 s1 _ _ r1 h6 _ fun u H2 F2 r2 e2 ⟨b, us, eu, p3, p4⟩ => ?_
      refine ⟨a, b, vs, us, by rw [ev, eu], .inr ⟨sub_t (e2.trans r2.sub) p1, sub_t r2.sub p3, q _ H2 F2 r2 (e1.trans e2) ?_⟩⟩
      exact yld_zip (P := fun H xs => SqT X.K H a xs) (Q := fun H xs => SqT X.K H b xs) (p2.mono e2) p4 (fun H' e => sub_t (e2.trans e) p1) (fun H' e => sub_t e p3) (fun i H => Iff.rfl) (fun i H v H' hy => hy) fun i H hst => hst
    | _ => cases h3
  | _ => cases h3
end
/-! ### targets -/
def gName' (i : Nat) : D → M Unit := fun d => setC i (.im d)
def gCons' (g : D → M Unit) (h : List D → M Unit) : List D → M Unit
  | d :: ds => do g d; h ds
  | [] => fun _ => none
def gNil' : List D → M Unit
  | [] => pure ()
  | _ :: _ => fun _ => none
def gTup' (n : Nat) (g : List D → M Unit) : D → M Unit
  | .tuple ds => if ds.length = n then g ds else fun _ => none
  | .list ds => if ds.length = n then g ds else fun _ => none
  | _ => fun _ => none
section
variable {T : List Addr} {X : Cx}
theorem dg_name {i : Nat} {x : Str} {pos : Pos} (hN : X.N.Nodup) (hi : X.N[i]? = some x) (hx : Loc X.env.scope x) (hf : X.fn x = true ∨ X.env.scope.names.lookup x = some .local := by first | exact .inl rfl | exact .inr rfl | assumption) : DG T X (.Name x pos) [i] (gName' i) := by
  refine ⟨_, pg_name hN hi hx hf, fun w G F0 σ H F s d v u s' r rv h Q q => ?_⟩
  obtain ⟨hl, e⟩ := setC_some h
  dsimp only at e
  subst e
  exact q _ H F (r.setIm hl rv) (Sub.refl F) Same.set
theorem dgs_nil : DGs T X [] [] gNil' := ⟨_, pgs_nil, fun w G F0 σ H F s ds vs u s' r rv h Q q => by
  cases ds with
  | nil => cases h; exact ⟨rv, q σ H F r (Sub.refl F) Same.refl⟩
  | cons _ _ => cases h⟩
theorem dgs_cons {e : Expr} {es : List Expr} {v1 v2 : List Nat} {g : D → M Unit} {h : List D → M Unit} (h1 : DG T X e v1 g) (h2 : DGs T X es v2 h)
    (ha : (assignEach (e :: es) X.env).map (·.2) = assign e X.env :: (assignEach es X.env).map (·.2) := by rfl) : DGs T X (e :: es) (v1 ++ v2) (gCons' g h) := by
  obtain ⟨t, p, a⟩ := h1
  obtain ⟨u, q, b⟩ := h2
  refine ⟨_, pgs_cons p q ha, fun w G F0 σ H F s ds vs z s' r rv k Q qq => ?_⟩
  cases ds with
  | nil => cases k
  | cons d ds =>
    obtain ⟨v, r', rfl, r1, r2⟩ := rv
    obtain ⟨_, s1, k1, k2⟩ := M.bind_some k
    refine ⟨v, r', rfl, a w G F0 σ H F s d v _ s1 r r1 k1 _ fun σ1 H1 F1 q1 e1 t1 => ?_⟩
    exact b w G F0 σ1 H1 F1 s1 ds r' _ s' q1 (r2.mono e1) k2 _ fun σ2 H2 F2 q2 e2 t2 => qq σ2 H2 F2 q2 (e1.trans e2) (t1.trans t2)
theorem dg_tup {es : List Expr} {k n : Nat} {vl : List Nat} {g : List D → M Unit} {pos : Pos} (hc : X.calm = true) (h : DGs T X es vl g) (hn : (assignEach es X.env).length = n := by rfl) (hst : (assignEach es X.env).findIdx? (·.1) = none := by rfl) : DG T X (.Tuple es k pos) vl (gTup' n g) := by
  obtain ⟨t, p, a⟩ := h
  refine ⟨_, pg_or (pg_tup hc p hn hst) (pg_unl hc p hn hst), fun w G F0 σ H F s d v u s' r rv k Q q => ?_⟩
  cases d with
  | tuple ds =>
    obtain ⟨b, vs, rfl, r1, r2⟩ := rv
    obtain ⟨hl, k2⟩ := ite_some k
    exact .inl ⟨b, vs, rfl, sub_t r.sub r1, by rw [r2.length]; exact hl, a w G F0 σ H F s ds vs u s' r r2 k2 Q q⟩
  | list ds =>
    obtain ⟨b, vs, rfl, r1, r2⟩ := rv
    obtain ⟨hl, k2⟩ := ite_some k
    exact .inr ⟨b, vs, rfl, .inl (.inl (r.sub _ _ r1)), by rw [r2.length]; exact hl, a w G F0 σ H F s ds vs u s' r r2 k2 Q q⟩
  | _ => cases k
def gAsg (f : M D) (g : D → M Unit) : M Out := do let d ← f; g d; pure .nx
theorem ds_asg {tg e : Expr} {vl : List Nat} {f : M D} {g : D → M Unit} {pos : Pos} (he : DE T X e f) (hg : DG T X tg vl g) (hs : swapsWithSole [tg] e pos.line X.env = pure false := by rfl) (hw : swappedStores [tg] e X.env = pure none := by rfl)
    (h1 : (assignEach [tg] X.env).map (·.2) = [assign tg X.env] := by rfl) : DS T X (.Assign [tg] e pos) (gAsg f g) := by
  obtain ⟨te, pe, re⟩ := he
  obtain ⟨tg', pg, rg⟩ := hg
  refine ⟨_, ps_asg pe pg hs hw h1, fun w G F0 σ H F s o s' r h E a => ?_⟩
  obtain ⟨d, s1, k1, k2⟩ := M.bind_some h
  obtain ⟨u, s2, k3, k4⟩ := M.bind_some k2
  cases k4
  refine re w G F0 σ H F s d s1 r k1 _ fun v H1 F1 r1 e1 p1 => ?_
  exact rg w G F0 σ H1 F1 s1 d v u _ r1 p1 k3 _ fun σ2 H2 F2 r2 e2 _ => a σ2 H2 F2 r2 (e1.trans e2)
/-! ### loops -/
def forD (b : D → M Out) : List D → M Out
  | [] => pure .nx
  | d :: ds => do
    let o ← b d
    match o with
    | .nx => forD b ds
    | .ct => forD b ds
    | .bk => pure .nx
    | .rt v => pure (.rt v)
def gBody (g : D → M Unit) (b : M Out) : D → M Out := fun d => do g d; b
def gFor (f : M (List D)) (g : D → M Unit) (b : M Out) : M Out := do let ds ← f; forD (gBody g b) ds
theorem ds_for {tg iter : Expr} {vl : List Nat} {body : List Stmt} {f : M (List D)} {g : D → M Unit} {b : M Out} {pos : Pos} (hp : PassesOwn (model X.prog X.w) X.A X.env X.xe) (hc : X.calm = true) (hi : DI T X tg iter f) (hg : DG T X tg vl g) (hb : DSs T X body b)
    (hs : ∀ x, foldedSetIterable iter X.env x = pure x := by intro _; rfl) : DS T X (.For tg iter body [] pos) (gFor f g b) := by
  obtain ⟨wi, pi, ri⟩ := hi
  obtain ⟨tg', pg, rg⟩ := hg
  obtain ⟨tb, pb, rb⟩ := hb
  refine ⟨_, ps_for hp hc pi pg pb hs, fun w G F0 σ H F s o s' r h E a => ?_⟩
  obtain ⟨ds, s1, k1, k2⟩ := M.bind_some h
  refine ri w G F0 σ H F s ds s1 r k1 _ fun J H1 F1 r1 e1 hy => ?_
  refine ⟨fun i m σ2 H2 => m = ds.length - i ∧ i ≤ ds.length ∧ ∃ F2 s2, Rel T X.K w G F0 σ2 H2 F2 s2 ∧ Sub F1 F2 ∧ forD (gBody g b) (ds.drop i) s2 = some (o, s'), ⟨_, rfl, Nat.zero_le _, F1, s1, r1, Sub.refl _, k2⟩, fun i m σ2 H2 hW => ?_⟩
  obtain ⟨rfl, hle, F2, s2, r2, e2, k3⟩ := hW
  have hy2 := hy F2 H2 e2 r2.sub i
  by_cases hlt : i < ds.length
  · rw [List.drop_eq_getElem_cons hlt] at k3
    obtain ⟨o1, s3, k4, k5⟩ := M.bind_some k3
    obtain ⟨u, s4, k6, k7⟩ := M.bind_some k4
    obtain ⟨hgo, hyl⟩ := hy2.2 _ (List.getElem?_eq_getElem hlt)
    refine .inr ⟨hgo, fun σ' H' => ∃ F2 s2, Rel T X.K w G F0 σ' H' F2 s2 ∧ Sub F1 F2 ∧ forD (gBody g b) (ds.drop (i + 1)) s2 = some (o, s'), fun σ' H' hN => ⟨ds.length - (i + 1), by omega, rfl, hlt, hN⟩, fun x H' hx => ?_⟩
    obtain ⟨F3, gr, rv⟩ := hyl x H' hx
    have e3 := (gr.sub r2.sub).2
    refine rg w G F0 σ2 H' F3 s2 _ x u s4 (r2.grow gr) rv k6 _ fun σ4 H4 F4 r4 e4 _ => ?_
    refine rb w G F0 σ4 H4 F4 s4 o1 s3 r4 k7 _ ?_
    have ee : Sub F1 F4 := e2.trans (e3.trans e4)
    cases o1 with
    | nx => exact fun σ5 H5 F5 r5 e5 => ⟨F5, s3, r5, ee.trans e5, k5⟩
    | ct => exact fun σ5 H5 F5 r5 e5 => ⟨F5, s3, r5, ee.trans e5, k5⟩
    | bk => cases k5; exact fun σ5 H5 F5 r5 e5 => a σ5 H5 F5 r5 (e1.trans (ee.trans e5))
    | rt d => cases k5; exact fun v H5 F5 r5 e5 rv => a v H5 F5 r5 (e1.trans (ee.trans e5)) rv
  · have e0 : i = ds.length := by omega
    subst e0
    rw [List.drop_length] at k3
    cases k3
    exact .inl ⟨hy2.1 (Nat.le_refl _), a σ2 H2 F2 r2 (e1.trans e2)⟩
def whileD (c : M Bool) (b : M Out) : Nat → M Out
  | 0 => fun _ => none
  | n + 1 => do
    let k ← c
    if k = true then do
      let o ← b
      match o with
      | .nx => whileD c b n
      | .ct => whileD c b n
      | .bk => pure .nx
      | .rt v => pure (.rt v)
    else pure .nx
theorem ds_while {c : Expr} {body : List Stmt} {f : M Bool} {b : M Out} {pos : Pos} {n : Nat} (hp : PassesOwn (model X.prog X.w) X.A X.env X.xe) (hc : DT T X c f) (hb : DSs T X body b) : DS T X (.While c body [] pos) (whileD f b n) := by
  obtain ⟨tc, pc, rc⟩ := hc
  obtain ⟨tb, pb, rb⟩ := hb
  refine ⟨_, ps_while hp pc pb, fun w G F0 σ H F s o s' r h E a => ?_⟩
  refine ⟨fun m σ2 H2 => ∃ F2 s2, Rel T X.K w G F0 σ2 H2 F2 s2 ∧ Sub F F2 ∧ whileD f b m s2 = some (o, s'), ⟨n, F, s, r, Sub.refl _, h⟩, fun m σ2 H2 hW => ?_⟩
  obtain ⟨F2, s2, r2, e2, k1⟩ := hW
  cases m with
  | zero => cases k1
  | succ m =>
    obtain ⟨k, s3, k2, k3⟩ := M.bind_some k1
    refine rc w G F0 σ2 H2 F2 s2 k s3 r2 k2 _ fun H3 F3 r3 e3 => ?_
    by_cases hk : k = true
    · rw [if_pos hk] at k3 ⊢
      obtain ⟨o1, s4, k4, k5⟩ := M.bind_some k3
      refine ⟨fun σ' H' => ∃ F2 s2, Rel T X.K w G F0 σ' H' F2 s2 ∧ Sub F F2 ∧ whileD f b m s2 = some (o, s'), fun σ' H' hN => ⟨m, Nat.lt_succ_self m, hN⟩, rb w G F0 σ2 H3 F3 s3 o1 s4 r3 k4 _ ?_⟩
      have ee : Sub F F3 := e2.trans e3
      cases o1 with
      | nx => exact fun σ5 H5 F5 r5 e5 => ⟨F5, s4, r5, ee.trans e5, k5⟩
      | ct => exact fun σ5 H5 F5 r5 e5 => ⟨F5, s4, r5, ee.trans e5, k5⟩
      | bk => cases k5; exact fun σ5 H5 F5 r5 e5 => a σ5 H5 F5 r5 (ee.trans e5)
      | rt d => cases k5; exact fun v H5 F5 r5 e5 rv => a v H5 F5 r5 (ee.trans e5) rv
    · rw [if_neg hk] at k3 ⊢
      cases k3
      exact a σ2 H3 F3 r3 (e2.trans e3)
end
end Dl

set_option Elab.async false
set_option linter.all false
set_option maxRecDepth 100000
set_option maxHeartbeats 2000000
namespace Dl
open PySem PySem.Spec PyProof.Rows L2
/-! ### list comprehensions -/
def unE (vs : List Nat) (l : List Cl) : List Cl := match vs with
  | [] => l
  | v :: vs => (unE vs l).set v .un
def backE (vs : List Nat) (l0 l : List Cl) : List Cl := match vs with
  | [] => l
  | v :: vs => (backE vs l0 l).set v (match l0[v]? with | some (.im d) => .im d | _ => .un)
theorem unE_len (l : List Cl) : ∀ vs : List Nat, (unE vs l).length = l.length
  | [] => rfl
  | v :: vs => by unfold unE; rw [List.length_set, unE_len l vs]
theorem backE_len (l0 l : List Cl) : ∀ vs : List Nat, (backE vs l0 l).length = l.length
  | [] => rfl
  | v :: vs => by unfold backE; rw [List.length_set, backE_len l0 l vs]
theorem unE_get {l : List Cl} {i : Nat} {c : Cl} : ∀ {vs : List Nat}, (unE vs l)[i]? = some c → (c = .un ∧ i ∈ vs) ∨ (i ∉ vs ∧ l[i]? = some c)
  | [], h => .inr ⟨by simp, h⟩
  | v :: vs, h => by
    unfold unE at h
    rcases get_set h with ⟨rfl, rfl, _⟩ | ⟨ne, h⟩
    · exact .inl ⟨rfl, List.mem_cons_self⟩
    · rcases unE_get h with ⟨e, m⟩ | ⟨m, e⟩
      · exact .inl ⟨e, List.mem_cons_of_mem _ m⟩
      · refine .inr ⟨fun z => ?_, e⟩
        rcases List.mem_cons.mp z with z | z
        · exact ne z.symm
        · exact m z
theorem backE_get {l0 l : List Cl} {i : Nat} {c : Cl} : ∀ {vs : List Nat}, (backE vs l0 l)[i]? = some c → (i ∈ vs ∧ (c = .un ∨ ∃ d, c = .im d ∧ l0[i]? = some (.im d))) ∨ (i ∉ vs ∧ l[i]? = some c)
  | [], h => .inr ⟨by simp, h⟩
  | v :: vs, h => by
    unfold backE at h
    rcases get_set h with ⟨rfl, e, _⟩ | ⟨ne, h⟩
    · refine .inl ⟨List.mem_cons_self, ?_⟩
      split at e
      · rename_i d h0
        exact .inr ⟨d, e.symm, h0⟩
      · exact .inl e.symm
    · rcases backE_get h with ⟨m, e⟩ | ⟨m, e⟩
      · exact .inl ⟨List.mem_cons_of_mem _ m, e⟩
      · refine .inr ⟨fun z => ?_, e⟩
        rcases List.mem_cons.mp z with z | z
        · exact ne z.symm
        · exact m z
theorem wipe_get {σ : L2.St} {i : Nat} : ∀ {vs : List Nat}, i ∉ vs → (wipe σ vs)[i]? = σ[i]?
  | [], _ => rfl
  | v :: vs, h => by
    unfold wipe
    rw [List.getElem?_set_ne (fun (e : v = i) => h (by rw [e]; exact List.mem_cons_self)), wipe_get fun z => h (List.mem_cons_of_mem _ z)]
section
variable {T : List Addr} {K : PySem.W.Frag} {w : Option (Addr × Addr)} {G F0 H F H1 F1 : Hp} {σ σ2 : L2.St} {s s1 : S}
/-- slots forgotten -/
theorem Rel.un (r : Rel T K w G F0 σ H F s) (vs : List Nat) (hs : ∀ i, i ∉ vs → σ2[i]? = σ[i]?) (hl : σ2.length = σ.length) : Rel T K w G F0 σ2 H F { s with env := unE vs s.env } where
  toCore := r.toCore
  cl := fun i c h => by
    rcases unE_get h with ⟨rfl, m⟩ | ⟨m, h⟩
    · have hi : i < σ2.length := by
        obtain ⟨hl', _⟩ := List.getElem?_eq_some_iff.mp h
        rw [hl, r.len, ← unE_len s.env vs]
        exact hl'
      exact ⟨_, List.getElem?_eq_getElem hi, trivial⟩
    · obtain ⟨v, h1, h2⟩ := r.cl i c h
      exact ⟨v, by rw [hs i m]; exact h1, h2⟩
  len := by rw [hl, r.len, unE_len]
  dis := fun i j c c' a ne h1 h2 o1 o2 s1 s2 => by
    rcases unE_get h1 with ⟨rfl, m⟩ | ⟨m1, h1⟩
    · cases o1
    · rcases unE_get h2 with ⟨rfl, m⟩ | ⟨m2, h2⟩
      · cases o2
      · rw [hs i m1] at s1
        rw [hs j m2] at s2
        exact r.dis i j c c' a ne h1 h2 o1 o2 s1 s2
/-- and taken up again -/
theorem Rel.back (r0 : Rel T K w G F0 σ H1 F1 s1) (e : Sub F1 F) (vs : List Nat) (hs : ∀ i, i ∉ vs → σ2[i]? = σ[i]?) (hl : σ2.length = σ.length) (r : Rel T K w G F0 σ2 H F s) : Rel T K w G F0 σ H F { s with env := backE vs s1.env s.env } where
  toCore := r.toCore
  cl := fun i c h => by
    rcases backE_get h with ⟨m, rfl | ⟨d, rfl, h0⟩⟩ | ⟨m, h⟩
    · have hi : i < σ.length := by
        obtain ⟨hl', _⟩ := List.getElem?_eq_some_iff.mp h
        rw [← hl, r.len, ← backE_len s1.env s.env vs]
        exact hl'
      exact ⟨_, List.getElem?_eq_getElem hi, trivial⟩
    · obtain ⟨v, h1, x, h2, h3⟩ := r0.cl i _ h0
      exact ⟨v, h1, x, h2, h3.mono e⟩
    · obtain ⟨v, h1, h2⟩ := r.cl i c h
      exact ⟨v, by rw [← hs i m]; exact h1, h2⟩
  len := by rw [← hl, r.len, backE_len]
  dis := fun i j c c' a ne h1 h2 o1 o2 s1' s2' => by
    rcases backE_get h1 with ⟨m, rfl | ⟨d, rfl, h0⟩⟩ | ⟨m1, h1⟩
    · cases o1
    · cases o1
    · rcases backE_get h2 with ⟨m, rfl | ⟨d, rfl, h0⟩⟩ | ⟨m2, h2⟩
      · cases o2
      · cases o2
      · rw [← hs i m1] at s1'
        rw [← hs j m2] at s2'
        exact r.dis i j c c' a ne h1 h2 o1 o2 s1' s2'
/-- a new object that is watched -/
theorem Rel.newG (r : Rel T K w G F0 σ H F s) {p : Addr} {o : HO} (hp : H p = none) : Rel T K w (upd G p o) F0 σ (upd H p o) F s := by
  have q := r.newH (o := o) hp
  refine ⟨⟨q.sub, r.keep.upd2, q.exF, fun a u h => ?_, fun z hz => ?_, fun P hP => ?_⟩, fun i c h => ?_, q.len, q.dis⟩
  · rcases q.new a u h with h' | h'
    · exact .inl h'
    · refine .inr ?_
      rw [upd_ne (fun e => ?_)]
      · exact h'
      · rw [e, r.sub.isNone hp] at h; cases h
  · obtain ⟨h1, h2, h3⟩ := q.src z hz
    have n1 : z.1 ≠ p := ne_of_none (r.src z hz).1.d hp
    have n2 : z.2 ≠ p := ne_of_none (r.src z hz).1.c hp
    exact ⟨h1, by rw [upd_ne n1]; exact h2, by rw [upd_ne n2]; exact h3⟩
  · obtain ⟨⟨ps, h1, h2⟩, h3, h4⟩ := r.tab P hP
    obtain ⟨g1, g2, g3⟩ := q.tab P hP
    exact ⟨g1, g2, by rw [upd_ne (ne_of_none h1 hp)]; exact g3⟩
  · obtain ⟨v, h1, h2⟩ := q.cl i c h
    refine ⟨v, h1, ?_⟩
    cases c with
    | un => trivial
    | im d => exact h2
    | ow ds =>
      obtain ⟨a, vs, e1, e2, e3, e4, e5⟩ := h2
      refine ⟨a, vs, e1, e2, e3, ?_, e5⟩
      obtain ⟨v', h1', h2'⟩ := r.cl i _ h
      obtain ⟨a', vs', e1', e2', _⟩ := h2'
      rw [h1] at h1'
      cases h1'
      rw [e1] at e1'
      cases e1'
      rw [upd_ne (ne_of_none e2' hp)]; exact e4
    | sr => exact h2
/-- the watched object changes -/
theorem Rel.poke {p : Addr} {o o' : HO} (r : Rel T K w (upd G p o) F0 σ H F s) (h0 : F0 p = none) : Rel T K w (upd G p o') F0 σ (upd H p o') F s := by
  have fp : F p = none := by
    cases e : F p with
    | none => rfl
    | some u =>
      rcases r.new p u e with h | h
      · rw [h0] at h; cases h
      · rw [upd_same] at h; cases h
  have ge : ∀ {a : Addr}, upd G p o a = none → a ≠ p ∧ upd G p o' a = none := fun {a} h => by
    have ne : a ≠ p := fun e => by rw [e, upd_same] at h; cases h
    rw [upd_ne ne] at h ⊢
    exact ⟨ne, h⟩
  refine ⟨⟨r.sub.updR fp, fun a u h => ?_, r.exF, fun a u h => ?_, fun z hz => ?_, fun P hP => ?_⟩, fun i c h => ?_, r.len, r.dis⟩
  · by_cases e : a = p
    · subst e; rw [upd_same] at h ⊢; exact h
    · rw [upd_ne e] at h ⊢
      exact r.keep a u (by rw [upd_ne e]; exact h)
  · exact (r.new a u h).imp id fun h' => (ge h').2
  · obtain ⟨⟨d, c, fd, fc⟩, h2, h3⟩ := r.src z hz
    exact ⟨⟨by rw [upd_ne (ge h2).1]; exact d, by rw [upd_ne (ge h3).1]; exact c, fd, fc⟩, (ge h2).2, (ge h3).2⟩
  · obtain ⟨⟨ps, h1, h2⟩, h3, h4⟩ := r.tab P hP
    exact ⟨⟨ps, by rw [upd_ne (ge h4).1]; exact h1, h2⟩, h3, (ge h4).2⟩
  · obtain ⟨v, h1, h2⟩ := r.cl i c h
    refine ⟨v, h1, ?_⟩
    cases c with
    | un => trivial
    | im d => exact h2
    | ow ds =>
      obtain ⟨a, vs, e1, e2, e3, e4, e5⟩ := h2
      exact ⟨a, vs, e1, by rw [upd_ne (ge e4).1]; exact e2, e3, (ge e4).2, e5⟩
    | sr => exact h2
def era (H : Hp) (p : Addr) : Hp := fun a => if a = p then none else H a
theorem era_ne {H : Hp} {p a : Addr} (h : a ≠ p) : era H p a = H a := by unfold era; rw [if_neg h]
theorem era_same {H : Hp} {p : Addr} : era H p p = none := by unfold era; rw [if_pos rfl]
theorem era_upd {H : Hp} {p : Addr} {o : HO} (h : H p = some o) : upd (era H p) p o = H := by
  funext a
  by_cases e : a = p
  · subst e; rw [upd_same, h]
  · rw [upd_ne e, era_ne e]
/-- the watched object is handed over -/
theorem Rel.erase {p : Addr} {o : HO} (r : Rel T K w (upd G p o) F0 σ H F s) (h0 : F0 p = none) (g0 : G p = none) : Rel T K w G F0 σ (era H p) F s := by
  have fp : F p = none := by
    cases e : F p with
    | none => rfl
    | some u =>
      rcases r.new p u e with h | h
      · rw [h0] at h; cases h
      · rw [upd_same] at h; cases h
  have ge : ∀ {a : Addr}, upd G p o a = none → a ≠ p ∧ G a = none := fun {a} h => by
    have ne : a ≠ p := fun e => by rw [e, upd_same] at h; cases h
    rw [upd_ne ne] at h
    exact ⟨ne, h⟩
  refine ⟨⟨fun a u h => ?_, fun a u h => ?_, r.exF, fun a u h => ?_, fun z hz => ?_, fun P hP => ?_⟩, fun i c h => ?_, r.len, r.dis⟩
  · rw [era_ne (ne_of_none h fp)]; exact r.sub a u h
  · have ne : a ≠ p := ne_of_none h g0
    rw [era_ne ne]
    exact r.keep a u (by rw [upd_ne ne]; exact h)
  · exact (r.new a u h).imp id fun h' => (ge h').2
  · obtain ⟨⟨d, c, fd, fc⟩, h2, h3⟩ := r.src z hz
    exact ⟨⟨by rw [era_ne (ge h2).1]; exact d, by rw [era_ne (ge h3).1]; exact c, fd, fc⟩, (ge h2).2, (ge h3).2⟩
  · obtain ⟨⟨ps, h1, h2⟩, h3, h4⟩ := r.tab P hP
    exact ⟨⟨ps, by rw [era_ne (ge h4).1]; exact h1, h2⟩, h3, (ge h4).2⟩
  · obtain ⟨v, h1, h2⟩ := r.cl i c h
    refine ⟨v, h1, ?_⟩
    cases c with
    | un => trivial
    | im d => exact h2
    | ow ds =>
      obtain ⟨a, vs, e1, e2, e3, e4, e5⟩ := h2
      exact ⟨a, vs, e1, by rw [era_ne (ge e4).1]; exact e2, e3, (ge e4).2, e5⟩
    | sr => exact h2
end
/-! a family of contexts: one reading for all -/
def Fam (X : Cx) (scope : Scope) := Shared × Hp × Addr × List (Str × Addr) × List Addr
abbrev blk (X : Cx) (scope : Scope) (p : Shared × Hp × Addr × List (Str × Addr) × List Addr) : Cx := X.blk p.1 p.2.1 scope (compEnvC scope p.2.2.2.1 p.2.2.1 X.env) p.2.2.2.2
section
variable {T : List Addr} {X : Cx} {scope : Scope}
theorem fam_e {e : Expr} {f : M D} (h : ∀ (s : Shared) (H : Hp) (C : Addr) (cl : List (Str × Addr)) (fp : List Addr), DE T (X.blk s H scope (compEnvC scope cl C X.env) fp) e f) :
    ∃ t, (∀ (s : Shared) (H : Hp) (C : Addr) (cl : List (Str × Addr)) (fp : List Addr), PE (X.blk s H scope (compEnvC scope cl C X.env) fp) e t) ∧ ∀ w G F0 σ H F s d s', Rel T X.K w G F0 σ H F s → f s = some (d, s') →
      ∀ Q : VK, (∀ v H' F', Rel T X.K w G F0 σ H' F' s' → Sub F F' → Rep X.K F' d v → Q v H') → t σ H Q := by
  refine ⟨fun σ H Q => ∀ s0 H0 C cl fp, (Classical.choose (h s0 H0 C cl fp)) σ H Q, fun s H C cl fp => ⟨fun pins s1 σ H1 Q I hh => (Classical.choose_spec (h s H C cl fp)).1.run pins s1 σ H1 Q I (hh s H C cl fp)⟩, fun w G F0 σ H F s d s' r k Q q s0 H0 C cl fp => ?_⟩
  exact (Classical.choose_spec (h s0 H0 C cl fp)).2 w G F0 σ H F s d s' r k Q q
theorem fam_t {e : Expr} {f : M Bool} (h : ∀ (s : Shared) (H : Hp) (C : Addr) (cl : List (Str × Addr)) (fp : List Addr), DT T (X.blk s H scope (compEnvC scope cl C X.env) fp) e f) :
    ∃ t, (∀ (s : Shared) (H : Hp) (C : Addr) (cl : List (Str × Addr)) (fp : List Addr), PT (X.blk s H scope (compEnvC scope cl C X.env) fp) e t) ∧ ∀ w G F0 σ H F s b s', Rel T X.K w G F0 σ H F s → f s = some (b, s') →
      ∀ Q : Bool → Hp → Prop, (∀ H' F', Rel T X.K w G F0 σ H' F' s' → Sub F F' → Q b H') → t σ H Q := by
  refine ⟨fun σ H Q => ∀ s0 H0 C cl fp, (Classical.choose (h s0 H0 C cl fp)) σ H Q, fun s H C cl fp => ⟨fun pins s1 σ H1 Q I hh => (Classical.choose_spec (h s H C cl fp)).1.run pins s1 σ H1 Q I (hh s H C cl fp)⟩, fun w G F0 σ H F s d s' r k Q q s0 H0 C cl fp => ?_⟩
  exact (Classical.choose_spec (h s0 H0 C cl fp)).2 w G F0 σ H F s d s' r k Q q
theorem fam_g {e : Expr} {vl : List Nat} {g : D → M Unit} (h : ∀ (s : Shared) (H : Hp) (C : Addr) (cl : List (Str × Addr)) (fp : List Addr), DG T (X.blk s H scope (compEnvC scope cl C X.env) fp) e vl g) :
    ∃ t, (∀ (s : Shared) (H : Hp) (C : Addr) (cl : List (Str × Addr)) (fp : List Addr), PG (X.blk s H scope (compEnvC scope cl C X.env) fp) e t) ∧ ∀ w G F0 σ H F s d v u s', Rel T X.K w G F0 σ H F s → Rep X.K F d v → g d s = some (u, s') →
      ∀ Q : L2.St → Hp → Prop, (∀ σ' H' F', Rel T X.K w G F0 σ' H' F' s' → Sub F F' → Same vl σ σ' → Q σ' H') → t v σ H Q := by
  refine ⟨fun v σ H Q => ∀ s0 H0 C cl fp, (Classical.choose (h s0 H0 C cl fp)) v σ H Q, fun s H C cl fp => ⟨fun pins s1 σ H1 v u Q I r hh => (Classical.choose_spec (h s H C cl fp)).1.run pins s1 σ H1 v u Q I r (hh s H C cl fp)⟩, fun w G F0 σ H F s d v u s' r rv k Q q s0 H0 C cl fp => ?_⟩
  exact (Classical.choose_spec (h s0 H0 C cl fp)).2 w G F0 σ H F s d v u s' r rv k Q q
end
end Dl

set_option Elab.async false
set_option linter.all false
set_option maxRecDepth 100000
set_option maxHeartbeats 2000000
namespace Dl
open PySem PySem.Spec PyProof.Rows L2
def unM (vs : List Nat) : M Unit := fun s => some ((), { s with env := unE vs s.env })
def lcGo (vs : List Nat) (g : D → M Unit) (t : M Bool) (f : M D) : List D → List D → M (List D)
  | acc, [] => pure acc
  | acc, d :: ds => do
    unM vs
    g d
    let b ← t
    if b = true then do
      let y ← f
      if acc.length < 16777216 then lcGo vs g t f (acc ++ [y]) ds else fun _ => none
    else lcGo vs g t f acc ds
def getE : M (List Cl) := fun s => some (s.env, s)
def backM (vs : List Nat) (l0 : List Cl) : M Unit := fun s => some ((), { s with env := backE vs l0 (unE vs s.env) })
def fLc (vs : List Nat) (fi : M (List D)) (g : D → M Unit) (t : M Bool) (f : M D) : M (List D) := do
  let ds ← fi
  let l0 ← getE
  let r ← lcGo vs g t f [] ds
  backM vs l0
  pure r
theorem wipe_ext {σ σ2 : L2.St} : ∀ {vs : List Nat}, Same vs σ σ2 → wipe σ2 vs = wipe σ vs := by
  intro vs h
  apply List.ext_getElem?
  intro i
  by_cases hi : i ∈ vs
  · have hw : ∀ (σ : L2.St) (vs : List Nat), i ∈ vs → (wipe σ vs)[i]? = if i < σ.length then some none else none := by
      intro σ vs
      induction vs with
      | nil => intro h; cases h
      | cons v vs ih =>
        intro h
        unfold wipe
        by_cases e : v = i
        · subst e
          by_cases hl : v < σ.length
          · rw [List.getElem?_set_self (by rw [wipe_length]; exact hl), if_pos hl]
          · rw [List.getElem?_eq_none (by rw [List.length_set, wipe_length]; omega), if_neg hl]
        · rw [List.getElem?_set_ne e]
          rcases List.mem_cons.mp h with z | z
          · exact absurd z.symm e
          · exact ih z
    rw [hw σ2 vs hi, hw σ vs hi, h.1]
  · rw [wipe_get hi, wipe_get hi, h.2 i hi]
theorem unE_unE (vs : List Nat) (l : List Cl) : unE vs (unE vs l) = unE vs l := by
  apply List.ext_getElem?
  intro i
  have hw : ∀ (vs : List Nat) (l : List Cl), (unE vs l)[i]? = if i ∈ vs then (if i < l.length then some .un else none) else l[i]? := by
    intro vs l
    induction vs with
    | nil => simp [unE]
    | cons v vs ih =>
      unfold unE
      by_cases e : v = i
      · subst e
        rw [if_pos List.mem_cons_self]
        by_cases hl : v < l.length
        · rw [List.getElem?_set_self (by rw [unE_len]; exact hl), if_pos hl]
        · rw [List.getElem?_eq_none (by rw [List.length_set, unE_len]; omega), if_neg hl]
      · rw [List.getElem?_set_ne e, ih]
        by_cases hm : i ∈ vs
        · rw [if_pos hm, if_pos (List.mem_cons_of_mem _ hm)]
        · rw [if_neg hm, if_neg (fun z => (List.mem_cons.mp z).elim (fun z => e z.symm) hm)]
  rw [hw, hw vs l, unE_len]
  by_cases hm : i ∈ vs
  · rw [if_pos hm, if_pos hm]
  · rw [if_neg hm, if_neg hm]
section
variable {T : List Addr} {X : Cx}
theorem lc_run {wi : TI} {tg : TG} {tt : TT} {te : TE} {vs vl : List Nat} {fi : M (List D)} {g : D → M Unit} {t : M Bool} {f : M D} (hv : ∀ i ∈ vl, i ∈ vs)
    (ri : ∀ w G F0 σ H F s ds s', Rel T X.K w G F0 σ H F s → fi s = some (ds, s') → ∀ R : It → Hp → Prop, (∀ J H' F', Rel T X.K w G F0 σ H' F' s' → Sub F F' → Yld X.K F' J ds → R J H') → wi σ H R)
    (rg : ∀ w G F0 σ H F s d v u s', Rel T X.K w G F0 σ H F s → Rep X.K F d v → g d s = some (u, s') → ∀ Q : L2.St → Hp → Prop, (∀ σ' H' F', Rel T X.K w G F0 σ' H' F' s' → Sub F F' → Same vl σ σ' → Q σ' H') → tg v σ H Q)
    (rt : ∀ w G F0 σ H F s b s', Rel T X.K w G F0 σ H F s → t s = some (b, s') → ∀ Q : Bool → Hp → Prop, (∀ H' F', Rel T X.K w G F0 σ H' F' s' → Sub F F' → Q b H') → tt σ H Q)
    (re : ∀ w G F0 σ H F s d s', Rel T X.K w G F0 σ H F s → f s = some (d, s') → ∀ Q : VK, (∀ v H' F', Rel T X.K w G F0 σ H' F' s' → Sub F F' → Rep X.K F' d v → Q v H') → te σ H Q)
    {w : Option (Addr × Addr)} {G F0 H F : Hp} {σ : L2.St} {s s' : S} {r : List D} (h : Rel T X.K w G F0 σ H F s) (k : fLc vs fi g t f s = some (r, s')) {Q : VK}
    (q : ∀ p us H1 F', H1 p = none → Rel T X.K w G F0 σ H1 F' s' → Sub F F' → RepL X.K F' r us → Q (.ref p) (upd H1 p (.lst us))) : tLc wi tg tt te vs σ H Q := by
  obtain ⟨ds, s1, k1, k'⟩ := M.bind_some k
  obtain ⟨l0, s1', ke, k''⟩ := M.bind_some k'
  cases ke
  obtain ⟨r2, s2, k2, k3⟩ := M.bind_some k''
  obtain ⟨u0, s2', kb, kp⟩ := M.bind_some k3
  cases kb
  cases kp
  refine ri w G F0 σ H F s ds s1 h k1 _ fun J H1 F1 r1 e1 hy D hD => ?_
  have fD : F1 D = none := r1.sub.isNone hD
  have f0D : F0 D = none := r1.exF.isNone fD
  have gD : G D = none := r1.keep.isNone hD
  have hw : ∀ i, i ∉ vs → (wipe σ vs)[i]? = σ[i]? := fun i hi => wipe_get hi
  refine ⟨fun i m H2 => m = ds.length - i ∧ i ≤ ds.length ∧ ∃ F2 s2' acc us, Rel T X.K w (upd G D (.lst us)) F0 (wipe σ vs) H2 F2 { s2' with env := unE vs s2'.env } ∧ Sub F1 F2 ∧ RepL X.K F2 acc us ∧ lcGo vs g t f acc (ds.drop i) s2' = some (r, s2),
    ⟨_, rfl, Nat.zero_le _, F1, s1, [], [], (r1.newG hD).un vs hw (wipe_length σ vs), Sub.refl _, rfl, k2⟩, fun i m H2 hW => ?_⟩
  obtain ⟨rfl, hle, F2, s3, acc, us, r3, e3, ra, k4⟩ := hW
  have hy2 := hy F2 H2 e3 r3.sub i
  by_cases hlt : i < ds.length
  · rw [List.drop_eq_getElem_cons hlt] at k4
    obtain ⟨_, s4, k5, k6⟩ := M.bind_some k4
    cases k5
    obtain ⟨u, s5, k7, k8⟩ := M.bind_some k6
    obtain ⟨b, s6, k9, k10⟩ := M.bind_some k8
    obtain ⟨hgo, hyl⟩ := hy2.2 _ (List.getElem?_eq_getElem hlt)
    refine .inr ⟨hgo, fun H' => ∃ F2 s2' acc us, Rel T X.K w (upd G D (.lst us)) F0 (wipe σ vs) H' F2 { s2' with env := unE vs s2'.env } ∧ Sub F1 F2 ∧ RepL X.K F2 acc us ∧ lcGo vs g t f acc (ds.drop (i + 1)) s2' = some (r, s2), fun H' hN => ⟨ds.length - (i + 1), by omega, rfl, hlt, hN⟩, fun x H' hx => ?_⟩
    obtain ⟨F4, gr, rv⟩ := hyl x H' hx
    have e4 := (gr.sub r3.sub).2
    refine rg w _ F0 (wipe σ vs) H' F4 _ _ x u s5 (r3.grow gr) rv k7 _ fun σ5 H5 F5 r5 e5 sm => ?_
    have sm' : Same vs (wipe σ vs) σ5 := ⟨sm.1, fun j hj => sm.2 j fun z => hj (hv j z)⟩
    have hww : wipe σ5 vs = wipe σ vs := by
      rw [wipe_ext sm']
      exact wipe_ext ⟨wipe_length σ vs, hw⟩
    have hback : ∀ j, j ∉ vs → (wipe σ vs)[j]? = σ5[j]? := fun j hj => (sm'.2 j hj).symm
    refine ⟨hww, rt w _ F0 σ5 H5 F5 s5 b s6 r5 k9 _ fun H6 F6 r6 e6 => ?_⟩
    have ee : Sub F1 F6 := e3.trans (e4.trans (e5.trans e6))
    by_cases hb : b = true
    · rw [if_pos hb] at k10 ⊢
      obtain ⟨y, s7, k11, k12⟩ := M.bind_some k10
      obtain ⟨hl, k12⟩ := ite_some k12
      refine re w _ F0 σ5 H6 F6 s6 y s7 r6 k11 _ fun v H7 F7 r7 e7 p7 => ?_
      have hDk : H7 D = some (.lst us) := r7.keep D _ upd_same
      have ra7 : RepL X.K F7 acc us := ra.mono (e4.trans (e5.trans (e6.trans e7)))
      refine ⟨us, hDk, by rw [ra7.length, sizeLine_eq]; exact hl, F7, s7, acc ++ [y], us ++ [v], ?_, ee.trans e7, ra7.append ⟨v, [], rfl, p7, rfl⟩, k12⟩
      exact (r7.poke f0D).un vs hback (by rw [sm'.1])
    · rw [if_neg hb] at k10 ⊢
      exact ⟨F6, s6, acc, us, r6.un vs hback (by rw [sm'.1]), ee, ra.mono (e4.trans (e5.trans e6)), k10⟩
  · have e0 : i = ds.length := by omega
    subst e0
    rw [List.drop_length] at k4
    cases k4
    have hDk : H2 D = some (.lst us) := r3.keep D _ upd_same
    refine .inl ⟨hy2.1 (Nat.le_refl _), ?_⟩
    have r4 := r3.erase f0D gD
    have r5 := Rel.back r1 e3 vs hw (wipe_length σ vs) r4
    have := q D us (era H2 D) F2 era_same r5 (e1.trans e3) ra
    rw [era_upd hDk] at this
    exact this
theorem fam_ts0 {scope : Scope} : ∃ t, (∀ (s : Shared) (H : Hp) (C : Addr) (cl : List (Str × Addr)) (fp : List Addr), PTs (X.blk s H scope (compEnvC scope cl C X.env) fp) [] t) ∧ ∀ w G F0 σ H F s b s', Rel T X.K w G F0 σ H F s → (pure true : M Bool) s = some (b, s') →
      ∀ Q : Bool → Hp → Prop, (∀ H' F', Rel T X.K w G F0 σ H' F' s' → Sub F F' → Q b H') → t σ H Q :=
  ⟨tYes, fun _ _ _ _ _ => pts_nil, fun w G F0 σ H F s b s' r h Q q => by cases h; exact q H F r (Sub.refl F)⟩
theorem fam_ts1 {scope : Scope} {e : Expr} {f : M Bool} (h : ∀ (s : Shared) (H : Hp) (C : Addr) (cl : List (Str × Addr)) (fp : List Addr), DT T (X.blk s H scope (compEnvC scope cl C X.env) fp) e f) :
    ∃ t, (∀ (s : Shared) (H : Hp) (C : Addr) (cl : List (Str × Addr)) (fp : List Addr), PTs (X.blk s H scope (compEnvC scope cl C X.env) fp) [e] t) ∧ ∀ w G F0 σ H F s b s', Rel T X.K w G F0 σ H F s → f s = some (b, s') →
      ∀ Q : Bool → Hp → Prop, (∀ H' F', Rel T X.K w G F0 σ H' F' s' → Sub F F' → Q b H') → t σ H Q := by
  obtain ⟨t, p, q⟩ := fam_t h
  exact ⟨t, fun s H C cl fp => pts_one (p s H C cl fp), q⟩
/-- the tests of a comprehension -/
def Ts (T : List Addr) (X : Cx) (scope : Scope) (ifs : List Expr) (f : M Bool) : Prop := ∃ t, (∀ (s : Shared) (H : Hp) (C : Addr) (cl : List (Str × Addr)) (fp : List Addr), PTs (X.blk s H scope (compEnvC scope cl C X.env) fp) ifs t) ∧ ∀ w G F0 σ H F s b s', Rel T X.K w G F0 σ H F s → f s = some (b, s') →
      ∀ Q : Bool → Hp → Prop, (∀ H' F', Rel T X.K w G F0 σ H' F' s' → Sub F F' → Q b H') → t σ H Q
variable {elt tg iter : Expr} {ifs : List Expr} {scope : Scope} {own : List (Str × Nat)} {pos : Pos} {vl : List Nat} {fi : M (List D)} {g : D → M Unit} {t : M Bool} {f : M D}
theorem dn_lc (hc : X.calm = true) (hN : X.N.Nodup) (hi : DI T X tg iter fi) (ok : BlkOk X.N X.env.scope scope own) (hv : ∀ i ∈ vl, i ∈ own.map (·.2))
    (hg : ∀ (s : Shared) (H : Hp) (C : Addr) (cl : List (Str × Addr)) (fp : List Addr), DG T (X.blk s H scope (compEnvC scope cl C X.env) fp) tg vl g) (ht : Ts T X scope ifs t)
    (he : ∀ (s : Shared) (H : Hp) (C : Addr) (cl : List (Str × Addr)) (fp : List Addr), DE T (X.blk s H scope (compEnvC scope cl C X.env) fp) elt f) (hs : ∀ x, foldedSetIterable iter X.env x = pure x := by intro _; rfl) :
    DN T X (.ListComp elt [⟨tg, iter, ifs, 0⟩] scope pos) (fLc (own.map (·.2)) fi g t f) := by
  obtain ⟨wi, pi, ri⟩ := hi
  obtain ⟨tg', pg, rg⟩ := fam_g hg
  obtain ⟨tt, pt, rt⟩ := ht
  obtain ⟨te, pe, re⟩ := fam_e he
  exact ⟨_, pe_lc hc hN pi ok pg pt pe hs, fun w G F0 σ H F s ds s' r h Q q => lc_run hv ri rg rt re r h q⟩
theorem ds_ownLc {i : Nat} {y : Str} {py spos : Pos} (hc : X.calm = true) (hN : X.N.Nodup) (hy : X.N[i]? = some y) (hyl : X.env.scope.names.lookup y = some .local)
    (hsw : swapsWith (.ListComp elt [⟨tg, iter, ifs, 0⟩] scope pos) (some (.Name y py)) spos.line X.env = pure true) (hi : DI T X tg iter fi) (ok : BlkOk X.N X.env.scope scope own) (hv : ∀ i ∈ vl, i ∈ own.map (·.2))
    (hg : ∀ (s : Shared) (H : Hp) (C : Addr) (cl : List (Str × Addr)) (fp : List Addr), DG T (X.blk s H scope (compEnvC scope cl C X.env) fp) tg vl g) (ht : Ts T X scope ifs t)
    (he : ∀ (s : Shared) (H : Hp) (C : Addr) (cl : List (Str × Addr)) (fp : List Addr), DE T (X.blk s H scope (compEnvC scope cl C X.env) fp) elt f) (hs : ∀ x, foldedSetIterable iter X.env x = pure x := by intro _; rfl) :
    DS T X (.Assign [.Name y py] (.ListComp elt [⟨tg, iter, ifs, 0⟩] scope pos) spos) (gOwn i (fLc (own.map (·.2)) fi g t f)) := by
  obtain ⟨wi, pi, ri⟩ := hi
  obtain ⟨tg', pg, rg⟩ := fam_g hg
  obtain ⟨tt, pt, rt⟩ := ht
  obtain ⟨te, pe, re⟩ := fam_e he
  refine ⟨_, ps_setLc hc hN hy hyl hsw pi ok pg pt pe hs, fun w G F0 σ H F s o s' r h E a => ?_⟩
  obtain ⟨ds, s1, k1, k2⟩ := M.bind_some h
  obtain ⟨_, s2, k3, k4⟩ := M.bind_some k2
  obtain ⟨hl, k5⟩ := setC_some k3
  dsimp only at k5
  subst k5
  cases k4
  refine lc_run hv ri rg rt re r k1 fun p us H1 F1 hp r1 e1 p1 => ?_
  exact a _ _ F1 (r1.setOw hl hp p1) e1
theorem ds_setLc {i : Nat} {y : Str} {py spos : Pos} (hc : X.calm = true) (hN : X.N.Nodup) (hy : X.N[i]? = some y) (hyl : X.env.scope.names.lookup y = some .local)
    (hsw : swapsWith (.ListComp elt [⟨tg, iter, ifs, 0⟩] scope pos) (some (.Name y py)) spos.line X.env = pure true) (hi : DI T X tg iter fi) (ok : BlkOk X.N X.env.scope scope own) (hv : ∀ i ∈ vl, i ∈ own.map (·.2))
    (hg : ∀ (s : Shared) (H : Hp) (C : Addr) (cl : List (Str × Addr)) (fp : List Addr), DG T (X.blk s H scope (compEnvC scope cl C X.env) fp) tg vl g) (ht : Ts T X scope ifs t)
    (he : ∀ (s : Shared) (H : Hp) (C : Addr) (cl : List (Str × Addr)) (fp : List Addr), DE T (X.blk s H scope (compEnvC scope cl C X.env) fp) elt f) (hs : ∀ x, foldedSetIterable iter X.env x = pure x := by intro _; rfl) :
    DS T X (.Assign [.Name y py] (.ListComp elt [⟨tg, iter, ifs, 0⟩] scope pos) spos) (gSet i (fFr (fLc (own.map (·.2)) fi g t f))) := by
  obtain ⟨wi, pi, ri⟩ := hi
  obtain ⟨tg', pg, rg⟩ := fam_g hg
  obtain ⟨tt, pt, rt⟩ := ht
  obtain ⟨te, pe, re⟩ := fam_e he
  refine ⟨_, ps_setLc hc hN hy hyl hsw pi ok pg pt pe hs, fun w G F0 σ H F s o s' r h E a => ?_⟩
  obtain ⟨d, s1, k1, k2⟩ := M.bind_some h
  obtain ⟨ds, s3, k6, k7⟩ := M.bind_some k1
  cases k7
  obtain ⟨_, s2, k3, k4⟩ := M.bind_some k2
  obtain ⟨hl, k5⟩ := setC_some k3
  dsimp only at k5
  subst k5
  cases k4
  refine lc_run hv ri rg rt re r k6 fun p us H1 F1 hp r1 e1 p1 => ?_
  exact a _ _ _ ((r1.newF hp).setIm hl ⟨p, us, rfl, upd_same, p1.mono (Sub.new (r1.sub.isNone hp))⟩) (e1.trans (Sub.new (r1.sub.isNone hp)))
end
end Dl

set_option Elab.async false
set_option linter.all false
set_option maxRecDepth 100000
set_option maxHeartbeats 2000000
namespace Dl
open PySem PySem.Spec PyProof.Rows L2
section
variable {T : List Addr} {X : Cx} {a b : Expr} {f g : M D} {pos : Pos}
/-! ### items, slices -/
def φIx : D → D → Option D
  | .list ds, .int i => atI ds i
  | .tuple ds, .int i => atI ds i
  | .str x, .int i => if x.length ≤ 16777216 then (atI x.cps.toList i).map fun c => .str ⟨#[c]⟩ else none
  | _, _ => none
theorem atI_rep {K : PySem.W.Frag} {F : Hp} {ds : List D} {vs : List V} {i : Int} {d : D} (r : RepL K F ds vs) (h : atI ds i = some d) : ∃ v, atI vs i = some v ∧ Rep K F d v := by
  unfold atI at h ⊢
  rw [r.length]
  cases e : ixN ds.length i with
  | none => rw [e] at h; cases h
  | some j =>
    rw [e] at h
    exact r.get h
theorem ix_D : IxR X (rD2 X.K φIx) := by
  intro value slice pins s σ H x y v u Q I rx ry h hs
  obtain ⟨F, d, e, z, sb, hx, hy, hz, q⟩ := h
  cases e with
  | int i =>
    cases (show y = .int i from hy)
    cases d with
    | list ds =>
      obtain ⟨p, vs, rfl, h1, h2⟩ := hx
      obtain ⟨w, e1, e2⟩ := atI_rep h2 hz
      exact ix_list value slice pins s σ H _ _ v u Q I rx ry ⟨p, vs, i, w, rfl, rfl, .inl (.inl (sb _ _ h1)), e1, q _ _ _ (.refl F H) e2⟩ hs
    | tuple ds =>
      obtain ⟨p, vs, rfl, h1, h2⟩ := hx
      obtain ⟨w, e1, e2⟩ := atI_rep h2 hz
      exact ix_tup value slice pins s σ H _ _ v u Q I rx ry ⟨p, vs, i, w, rfl, rfl, sub_t sb h1, e1, q _ _ _ (.refl F H) e2⟩ hs
    | str x' =>
      cases (show x = .str x' from hx)
      have hz' : (if x'.length ≤ 16777216 then (atI x'.cps.toList i).map (fun c => PyData.str ⟨#[c]⟩) else none) = some z := hz
      by_cases hl : x'.length ≤ 16777216
      · rw [if_pos hl] at hz'
        cases hc : atI x'.cps.toList i with
        | none => rw [hc] at hz'; cases hz'
        | some c =>
          rw [hc] at hz'
          cases hz'
          exact ix_str value slice pins s σ H _ _ v u Q I rx ry ⟨x', i, c, rfl, rfl, sizeL hl, hc, q _ _ _ (.refl F H) rfl⟩ hs
      · rw [if_neg hl] at hz'; cases hz'
    | _ => cases hz
  | _ => cases d <;> cases hz
theorem de_ix (ha : DE T X a f) (hb : DE T X b g) (hs : PlainIx b := by exact fun _ _ => rfl) : DE T X (.Subscript a b pos) (fBin φIx f g) := by
  obtain ⟨ta, pa, ra⟩ := ha
  obtain ⟨tb, pb, rb⟩ := hb
  exact ⟨_, pe_ix ix_D pa pb hs, fun w G F0 σ H F s d s' r h Q q => bin_run ra rb r h q⟩
def DO (T : List Addr) (X : Cx) (e : Option Expr) (f : M (Option Int)) : Prop := ∃ t, PO X e t ∧ ∀ w G F0 σ H F s o s', Rel T X.K w G F0 σ H F s → f s = some (o, s') →
  ∀ Q : Option Int → Hp → Prop, (∀ H' F', Rel T X.K w G F0 σ H' F' s' → Sub F F' → Q o H') → t σ H Q
theorem do_none : DO T X none (pure none) := ⟨_, po_none, fun w G F0 σ H F s o s' r h Q q => by cases h; exact q H F r (Sub.refl F)⟩
def fPart (f : M D) : M (Option Int) := do
  let d ← f
  match d with
  | .int i => pure (some i)
  | _ => fun _ => none
theorem do_some (h : DE T X a f) : DO T X (some a) (fPart f) := by
  obtain ⟨ta, pa, ra⟩ := h
  refine ⟨_, po_some pa, fun w G F0 σ H F s o s' r h Q q => ?_⟩
  obtain ⟨d, s1, h1, h2⟩ := M.bind_some h
  cases d with
  | int i =>
    cases h2
    exact ra w G F0 σ H F s _ _ r h1 _ fun v H1 F1 r1 e1 p1 => ⟨i, p1, q H1 F1 r1 e1⟩
  | _ => cases h2
def cutD (ds : List D) (lo hi : Option Int) : List D := (ds.drop (HT.sIx ds.length 0 lo)).take (HT.sIx ds.length ds.length hi - HT.sIx ds.length 0 lo)
def φSl : D → Option Int → Option Int → Option D
  | .list ds, lo, hi => some (.list (cutD ds lo hi))
  | .tuple ds, lo, hi => some (.tuple (cutD ds lo hi))
  | .str x, lo, hi => if x.length ≤ 16777216 then some (.str (cutS x lo hi)) else none
  | _, _, _ => none
def rD3 (K : PySem.W.Frag) : V → Option Int → Option Int → Hp → VK → Prop := fun x lo hi H Q => ∃ F d z, Sub F H ∧ Rep K F d x ∧ φSl d lo hi = some z ∧ ∀ v H' F', Grow F H F' H' → Rep K F' z v → Q v H'
theorem cut_rep {K : PySem.W.Frag} {F : Hp} {ds : List D} {vs : List V} {lo hi : Option Int} (r : RepL K F ds vs) : RepL K F (cutD ds lo hi) (cutV vs lo hi) := by
  unfold cutD cutV
  rw [r.length]
  exact (r.drop _).take _
theorem sl_D : SlR X (rD3 X.K) := by
  intro pins s σ H x v vl vu lo hi sl Q I rx hs pl pu h
  obtain ⟨F, d, z, sb, hx, hz, q⟩ := h
  cases d with
  | list ds =>
    obtain ⟨p, vs, rfl, h1, h2⟩ := hx
    cases hz
    exact sl_list pins s σ H _ v vl vu lo hi sl Q I rx hs pl pu ⟨p, vs, rfl, .inl (.inl (sb _ _ h1)), fun l hl => q _ _ _ (.one hl) ⟨l, _, rfl, upd_same, (cut_rep h2).mono (Sub.new (sb.isNone hl))⟩⟩
  | tuple ds =>
    obtain ⟨p, vs, rfl, h1, h2⟩ := hx
    cases hz
    refine sl_tupA pins s σ H _ v vl vu lo hi sl Q I rx hs pl pu ⟨p, vs, rfl, sub_t sb h1, fun hw => ?_, fun _ l hl => q _ _ _ (.one hl) ⟨l, _, rfl, .inl (.inl upd_same), (cut_rep h2).mono (Sub.new (sb.isNone hl))⟩⟩
    refine q _ _ _ (.refl F H) ⟨p, vs, rfl, h1, ?_⟩
    have e : cutD ds lo hi = ds := by
      rw [h2.length] at hw
      unfold cutD
      rw [hw.1, hw.2, List.drop_zero, Nat.sub_zero, List.take_length]
    rw [e]; exact h2
  | str x' =>
    cases (show x = .str x' from hx)
    have hz' : (if x'.length ≤ 16777216 then some (PyData.str (cutS x' lo hi)) else none) = some z := hz
    by_cases hl : x'.length ≤ 16777216
    · rw [if_pos hl] at hz'
      cases hz'
      exact sl_str pins s σ H _ v vl vu lo hi sl Q I rx hs pl pu ⟨x', rfl, sizeL hl, q _ _ _ (.refl F H) rfl⟩
    · rw [if_neg hl] at hz'; cases hz'
  | _ => cases hz
def fSl (f : M D) (lo hi : M (Option Int)) : M D := do let d ← f; let l ← lo; let h ← hi; M.lift (φSl d l h)
theorem de_slice {lo hi : Option Expr} {fl fh : M (Option Int)} {p2 : Pos} (ha : DE T X a f) (hl : DO T X lo fl) (hh : DO T X hi fh) : DE T X (.Subscript a (.Slice lo hi none p2) pos) (fSl f fl fh) := by
  obtain ⟨ta, pa, ra⟩ := ha
  obtain ⟨tl, pl, rl⟩ := hl
  obtain ⟨th, ph, rh⟩ := hh
  refine ⟨_, pe_slice sl_D pa pl ph, fun w G F0 σ H F s d s' r h Q q => ?_⟩
  obtain ⟨d1, s1, k1, k2⟩ := M.bind_some h
  obtain ⟨l, s2, k3, k4⟩ := M.bind_some k2
  obtain ⟨u, s3, k5, k6⟩ := M.bind_some k4
  obtain ⟨k7, k8⟩ := M.lift_some k6
  dsimp only at k7 k8
  subst k8
  refine ra w G F0 σ H F s d1 s1 r k1 _ fun v H1 F1 r1 e1 p1 => rl w G F0 σ H1 F1 s1 l s2 r1 k3 _ fun H2 F2 r2 e2 => rh w G F0 σ H2 F2 s2 u _ r2 k5 _ fun H3 F3 r3 e3 => ?_
  exact ⟨F3, d1, d, r3.sub, p1.mono (e2.trans e3), k7, fun z H' F' gr rv => q z H' F' (r3.grow gr) (e1.trans (e2.trans (e3.trans (gr.sub r3.sub).2))) rv⟩
/-! ### built-ins -/
def φLen : List D → Option D
  | [.str x] => if x.length ≤ 16777216 then some (.int (x.length : Int)) else none
  | [.list ds] => some (.int (ds.length : Int))
  | [.tuple ds] => some (.int (ds.length : Int))
  | _ => none
theorem rep1 {K : PySem.W.Frag} {F : Hp} {d : D} {vs : List V} (r : RepL K F [d] vs) : ∃ v, vs = [v] ∧ Rep K F d v := by
  obtain ⟨v, r', rfl, h1, h2⟩ := r
  exact ⟨v, by rw [show r' = [] from h2], h1⟩
theorem rep2 {K : PySem.W.Frag} {F : Hp} {d e : D} {vs : List V} (r : RepL K F [d, e] vs) : ∃ v u, vs = [v, u] ∧ Rep K F d v ∧ Rep K F e u := by
  obtain ⟨v, r', rfl, h1, h2⟩ := r
  obtain ⟨u, rfl, h3⟩ := rep1 h2
  exact ⟨v, u, rfl, h1, h3⟩
theorem call_lenD : CallR X (.builtin "len") (rDn X.K φLen) := by
  intro pins s σ H xs us Q I r h
  obtain ⟨F, ds, z, sb, hx, hz, q⟩ := h
  unfold φLen at hz
  split at hz
  · rename_i x
    obtain ⟨v, rfl, hv⟩ := rep1 hx
    cases (show v = .str x from hv)
    by_cases hl : x.length ≤ 16777216
    · rw [if_pos hl] at hz
      cases hz
      exact call_len pins s σ H _ us Q I r ⟨_, _, rfl, ⟨sizeL hl, rfl⟩, q _ _ _ (.refl F H) rfl⟩
    · rw [if_neg hl] at hz; cases hz
  · rename_i es
    obtain ⟨v, rfl, p, vs, rfl, h1, h2⟩ := rep1 hx
    cases hz
    exact call_len pins s σ H _ us Q I r ⟨_, es.length, rfl, .inl ⟨vs, .inl (.inl (sb _ _ h1)), h2.length.symm⟩, q _ _ _ (.refl F H) rfl⟩
  · rename_i es
    obtain ⟨v, rfl, p, vs, rfl, h1, h2⟩ := rep1 hx
    cases hz
    exact call_len pins s σ H _ us Q I r ⟨_, es.length, rfl, .inr ⟨vs, sub_t sb h1, h2.length.symm⟩, q _ _ _ (.refl F H) rfl⟩
  · cases hz
def φAbs : List D → Option D
  | [.int i] => some (.int (if i < 0 then -i else i))
  | _ => none
theorem call_absD : CallR X (.builtin "abs") (rDn X.K φAbs) := by
  intro pins s σ H xs us Q I r h
  obtain ⟨F, ds, z, sb, hx, hz, q⟩ := h
  unfold φAbs at hz
  split at hz
  · rename_i i
    obtain ⟨v, rfl, hv⟩ := rep1 hx
    cases (show v = .int i from hv)
    cases hz
    exact call_abs pins s σ H _ us Q I r ⟨i, rfl, q _ _ _ (.refl F H) rfl⟩
  · cases hz
def φInt : List D → Option D
  | [.int i] => some (.int i)
  | [.bool b] => some (.int (if b = true then 1 else 0))
  | _ => none
theorem call_intD : CallR X (.type "int") (rDn X.K φInt) := by
  intro pins s σ H xs us Q I r h
  obtain ⟨F, ds, z, sb, hx, hz, q⟩ := h
  unfold φInt at hz
  split at hz
  · rename_i i
    obtain ⟨v, rfl, hv⟩ := rep1 hx
    cases (show v = .int i from hv)
    cases hz
    exact call_int1 pins s σ H _ us Q I r (.inl ⟨i, rfl, q _ _ _ (.refl F H) rfl⟩)
  · rename_i i
    obtain ⟨v, rfl, hv⟩ := rep1 hx
    cases (show v = .bl i from hv)
    cases hz
    exact call_int1 pins s σ H _ us Q I r (.inr ⟨i, rfl, q _ _ _ (.refl F H) rfl⟩)
  · cases hz
def φTuple : List D → Option D
  | [.list ds] => some (.tuple ds)
  | [.tuple ds] => some (.tuple ds)
  | _ => none
theorem call_tupleD : CallR X (.type "tuple") (rDn X.K φTuple) := by
  intro pins s σ H xs us Q I r h
  obtain ⟨F, ds, z, sb, hx, hz, q⟩ := h
  unfold φTuple at hz
  split at hz
  · rename_i es
    obtain ⟨v, rfl, p, vs, rfl, h1, h2⟩ := rep1 hx
    cases hz
    exact call_tuple_of pins s σ H _ us Q I r ⟨p, vs, rfl, .inl ⟨.inl (.inl (sb _ _ h1)), fun l hl => q _ _ _ (.one hl) ⟨l, vs, rfl, .inl (.inl upd_same), h2.mono (Sub.new (sb.isNone hl))⟩⟩⟩
  · rename_i es
    obtain ⟨v, rfl, p, vs, rfl, h1, h2⟩ := rep1 hx
    cases hz
    exact call_tuple_of pins s σ H _ us Q I r ⟨p, vs, rfl, .inr ⟨sub_t sb h1, q _ _ _ (.refl F H) ⟨p, vs, rfl, h1, h2⟩⟩⟩
  · cases hz
def φList : List D → Option (List D)
  | [.list ds] => some ds
  | [.tuple ds] => some ds
  | _ => none
theorem call_listD : CallR X (.type "list") (rDl X.K φList) := by
  intro pins s σ H xs us Q I r h
  obtain ⟨F, ds, z, sb, hx, hz, q⟩ := h
  unfold φList at hz
  split at hz
  · rename_i es
    obtain ⟨v, rfl, p, vs, rfl, h1, h2⟩ := rep1 hx
    cases hz
    exact call_list_of pins s σ H _ us Q I r ⟨p, vs, rfl, .inl (.inl (.inl (sb _ _ h1))), fun l hl => q l vs H F (.refl F H) hl h2⟩
  · rename_i es
    obtain ⟨v, rfl, p, vs, rfl, h1, h2⟩ := rep1 hx
    cases hz
    exact call_list_of pins s σ H _ us Q I r ⟨p, vs, rfl, .inr (sub_t sb h1), fun l hl => q l vs H F (.refl F H) hl h2⟩
  · cases hz
/-- all, any of a list of bools -/
def boolsOf : List D → Option (List Bool)
  | [] => some []
  | .bool b :: ds => (boolsOf ds).map fun r => b :: r
  | _ => none
theorem boolsOf_rep {K : PySem.W.Frag} {F : Hp} : ∀ {ds : List D} {bs : List Bool} {vs : List V}, boolsOf ds = some bs → RepL K F ds vs → vs = bs.map V.bl
  | [], _, _, h, r => by cases h; exact r
  | d :: ds, bs, _, h, ⟨v, r', e, h1, h2⟩ => by
    cases d with
    | bool b =>
      have h' : (boolsOf ds).map (fun r => b :: r) = some bs := h
      cases hb : boolsOf ds with
      | none => rw [hb] at h'; cases h'
      | some c =>
        rw [hb] at h'
        cases h'
        rw [e, boolsOf_rep hb h2, show v = .bl b from h1]; rfl
    | _ => cases h
def φAll : List D → Option D
  | [.list ds] => (boolsOf ds).map fun bs => .bool (bs.all id)
  | _ => none
def φAny : List D → Option D
  | [.list ds] => (boolsOf ds).map fun bs => .bool (bs.any id)
  | _ => none
theorem call_allD (hc : X.calm = true) : CallR X (.builtin "all") (rDn X.K φAll) := by
  intro pins s σ H xs us Q I r h
  obtain ⟨F, ds, z, sb, hx, hz, q⟩ := h
  unfold φAll at hz
  split at hz
  · rename_i es
    obtain ⟨v, rfl, p, vs, rfl, h1, h2⟩ := rep1 hx
    cases hb : boolsOf es with
    | none => rw [hb] at hz; cases hz
    | some bs =>
      rw [hb] at hz
      cases hz
      have e := boolsOf_rep hb h2
      subst e
      exact cr_all hc pins s σ H _ us Q I r ⟨p, bs, rfl, .inl (.inl (sb _ _ h1)), q _ _ _ (.refl F H) rfl⟩
  · cases hz
theorem call_anyD (hc : X.calm = true) : CallR X (.builtin "any") (rDn X.K φAny) := by
  intro pins s σ H xs us Q I r h
  obtain ⟨F, ds, z, sb, hx, hz, q⟩ := h
  unfold φAny at hz
  split at hz
  · rename_i es
    obtain ⟨v, rfl, p, vs, rfl, h1, h2⟩ := rep1 hx
    cases hb : boolsOf es with
    | none => rw [hb] at hz; cases hz
    | some bs =>
      rw [hb] at hz
      cases hz
      have e := boolsOf_rep hb h2
      subst e
      exact cr_any hc pins s σ H _ us Q I r ⟨p, bs, rfl, .inl (.inl (sb _ _ h1)), q _ _ _ (.refl F H) rfl⟩
  · cases hz
/-! ### isinstance -/
def tyN : D → String
  | .none => "NoneType"
  | .bool _ => "bool"
  | .int _ => "int"
  | .str _ => "str"
  | .list _ => "list"
  | .tuple _ => "tuple"
  | .dict _ => "dict"
def isB (a b : String) : Bool := a == b || (a == "bool" && b == "int")
theorem kit_all : ∀ a ∈ ["NoneType", "bool", "int", "str", "list", "tuple", "dict"], ∀ b ∈ ["bool", "int", "str", "list", "tuple", "dict"], kitB a b = some (isB a b) := by decide +kernel
theorem tyX_of {K : PySem.W.Frag} {F H : Hp} {d : D} {v : V} (sb : Sub F H) (r : Rep K F d v) : TyX K H v (.type (tyN d)) := by
  cases d with
  | none => cases (show v = .non from r); exact .base .non
  | bool b => cases (show v = .bl b from r); exact .base (.bl b)
  | int b => cases (show v = .int b from r); exact .base (.int b)
  | str b => cases (show v = .str b from r); exact .base (.str b)
  | list ds => obtain ⟨p, vs, rfl, h1, _⟩ := r; exact .base (.lst (sb _ _ h1))
  | tuple ds =>
    obtain ⟨p, vs, rfl, h1, _⟩ := r
    rcases h1 with (h1 | ⟨o, h1⟩) | ⟨o, its, n, h1, h2, _⟩
    · exact .base (.tup (sb _ _ h1))
    · exact .fTuple (sb _ _ h1)
    · exact .kTuple h1 h2
  | dict ds => obtain ⟨p, vs, rfl, h1, _⟩ := r; exact .base (.dK (sb _ _ h1))
theorem tyN_mem (d : D) : tyN d ∈ ["NoneType", "bool", "int", "str", "list", "tuple", "dict"] := by cases d <;> simp [tyN]
def fIsi (n : String) (f : M D) : M D := do let d ← f; pure (.bool (isB (tyN d) n))
theorem de_isi {x : Str} {p p2 : Pos} {n : String} (hm2 : n ∈ ["bool", "int", "str", "list", "tuple", "dict"]) (hg : Gl X "isinstance") (hm : X.mg "isinstance" = none) (hgx : Gl X x) (hmx : X.mg x = none) (hvx : bootBuiltins x = some (.type n)) (ha : DE T X a f)
    (hn : x ≠ "__name__" := by decide) (hd : (x == ("__debug__" : Str)) = false := by decide)
    (he : starEach [a, .Name x p2] X.env = (false, eval a X.env) :: starEach [.Name x p2] X.env := by rfl) (hpl : (backTo pos (starEach [.Name x p2] X.env)).any (·.1) = false := by rfl) (he2 : starEach [.Name x p2] X.env = (false, eval (.Name x p2) X.env) :: starEach [] X.env := by rfl) :
    DE T X (.Call (.Name "isinstance" p) [a, .Name x p2] [] pos) (fIsi n f) := by
  obtain ⟨ta, pa, ra⟩ := ha
  refine ⟨_, pe_callB call_isi hg hm boot_isinstance (pa_cons pa (pa_cons (pe_bltn (v := .ty n) hgx hmx hvx rfl hn hd) pa_nil he2) he) (by decide) (by decide) he hpl, fun w G F0 σ H F s d s' r h Q q => ?_⟩
  obtain ⟨d1, s1, k1, k2⟩ := M.bind_some h
  cases k2
  refine ra w G F0 σ H F s d1 _ r k1 _ fun v H1 F1 r1 e1 p1 => ⟨v, .ty n, _, _, isB (tyN d1) n, rfl, .ty n, tyX_of r1.sub p1, kit_ty (kit_all _ (tyN_mem d1) _ hm2), q _ H1 F1 r1 e1 rfl⟩
/-! ### lists of one's own -/
def getO (i : Nat) : M (List D) := fun s => match s.env[i]? with
  | some (.ow ds) => some (ds, s)
  | _ => none
theorem getO_some {i : Nat} {s : S} {r : List D × S} (h : getO i s = some r) : s.env[i]? = some (.ow r.1) ∧ r.2 = s := by
  unfold getO at h
  split at h
  · rename_i ds e; cases h; exact ⟨e, rfl⟩
  · cases h
theorem Rel.mutOw {K : PySem.W.Frag} {w : Option (Addr × Addr)} {G F0 H F : Hp} {σ : L2.St} {s : S} (r : Rel T K w G F0 σ H F s) {i : Nat} {p : Addr} {ds ds' : List D} {vs' : List V} (hi : s.env[i]? = some (.ow ds)) (hp : σ[i]? = some (some (.ref p))) (hv : RepL K F ds' vs') :
    Rel T K w G F0 σ (upd H p (.lst vs')) F { s with env := s.env.set i (.ow ds') } := by
  obtain ⟨v, h1, a, vs, rfl, h2, h3, h4, h5, h6⟩ := r.cl i _ hi
  rw [hp] at h1
  cases h1
  have hl : i < s.env.length := by
    obtain ⟨hl, _⟩ := List.getElem?_eq_some_iff.mp hi
    exact hl
  refine ⟨⟨r.sub.updR h3, fun b o h => ?_, r.exF, r.new, fun q hq => ?_, fun P hP => ?_⟩, fun j c h => ?_, ?_, fun j k c c' b ne e1 e2 o1 o2 s1 s2 => ?_⟩
  · rw [upd_ne (ne_of_none h h4)]; exact r.keep b o h
  · obtain ⟨⟨d, c, fd, fc⟩, g1, g2⟩ := r.src q hq
    refine ⟨⟨?_, ?_, fd, fc⟩, g1, g2⟩
    · rw [upd_ne (ne_of d h2 (by intro z; cases z))]; exact d
    · rw [upd_ne (fun e => h6 q hq e.symm)]; exact c
  · obtain ⟨⟨ps, g1, g2⟩, g3, g4⟩ := r.tab P hP
    exact ⟨⟨ps, by rw [upd_ne (ne_of g1 h2 (by intro z; cases z))]; exact g1, g2⟩, g3, g4⟩
  · rcases get_set h with ⟨rfl, rfl, _⟩ | ⟨ne, h⟩
    · exact ⟨_, hp, p, vs', rfl, upd_same, h3, h4, hv, h6⟩
    · obtain ⟨u, g1, g2⟩ := r.cl j c h
      refine ⟨u, g1, ?_⟩
      cases c with
      | un => trivial
      | im d => exact g2
      | ow es =>
        obtain ⟨b, us, rfl, k2, k3⟩ := g2
        have nb : b ≠ p := fun e => r.dis i j _ _ p ne hi h rfl rfl hp (by rw [g1, e])
        exact ⟨b, us, rfl, by rw [upd_ne nb]; exact k2, k3⟩
      | sr => exact g2
  · rw [List.length_set]; exact r.len
  · have oc : ∀ {j : Nat} {c : Cl}, (s.env.set i (.ow ds'))[j]? = some c → c.own = true → ∃ c0, s.env[j]? = some c0 ∧ c0.own = true := fun {j c} e o => by
      rcases get_set e with ⟨rfl, rfl, _⟩ | ⟨_, e⟩
      · exact ⟨_, hi, rfl⟩
      · exact ⟨_, e, o⟩
    obtain ⟨c1, e1', o1'⟩ := oc e1 o1
    obtain ⟨c2, e2', o2'⟩ := oc e2 o2
    exact r.dis j k c1 c2 b ne e1' e2' o1' o2' s1 s2
def fAppend (i : Nat) (f : M D) : M D := do
  let _ ← getO i
  let d ← f
  let ds ← getO i
  if ds.length < 16777216 then do
    setC i (.ow (ds ++ [d]))
    pure .none
  else fun _ => none
theorem de_append {i : Nat} {x : Str} {px apos cpos : Pos} (hN : X.N[i]? = some x) (hv : Vis X.env.scope x) (ha : DE T X a f) (hd : (x == ("__debug__" : Str)) = false := by decide) (hcd : (x == ("__classdict__" : Str)) = false := by decide)
    (hbase : attributeBase (.Name x px) "append" X.env (eval (.Name x px) X.env) = eval (.Name x px) X.env := by rfl)
    (hfew : ((backTo cpos (starEach [a] X.env)).all (fun x => !x.1) && (backToKw cpos (keywordEach [] X.env)).all (fun x => x.1.isSome) && decide (([a] : List Expr).length + ([] : List Keyword).length + (if ([] : List Keyword).isEmpty then 0 else 1) < 30)) = true := by rfl)
    (hline : (apos.endLine == cpos.line) = true := by rfl) (hs : starEach [a] X.env = (false, eval a X.env) :: starEach [] X.env := by rfl) (hplain : (backTo cpos (starEach [] X.env)).any (·.1) = false := by rfl) :
    DE T X (.Call (.Attribute (.Name x px) "append" apos) [a] [] cpos) (fAppend i f) := by
  obtain ⟨ta, pa, ra⟩ := ha
  refine ⟨_, pe_bm PySem.F.plainAttrs_list PySem.F.slot_list_append PySem.F.type_list_append mt_append (pe_var hN hv hd hcd) (pa_cons pa pa_nil hs) hbase hfew hline hs hplain, fun w G F0 σ H F s d s' r h Q q => ?_⟩
  obtain ⟨ds0, s0, k0, k0'⟩ := M.bind_some h
  obtain ⟨g5, g6⟩ := getO_some k0
  dsimp only at g5 g6
  subst g6
  obtain ⟨d1, s1, k1, k2⟩ := M.bind_some k0'
  obtain ⟨ds, s2, k3, k4⟩ := M.bind_some k2
  obtain ⟨k5, k6⟩ := getO_some k3
  dsimp only at k5 k6
  subst k6
  obtain ⟨hl, k4⟩ := ite_some k4
  obtain ⟨_, s3, k7, k8⟩ := M.bind_some k4
  obtain ⟨hi, k9⟩ := setC_some k7
  dsimp only at k9
  subst k9
  cases k8
  obtain ⟨v, h1, p, vs, rfl, h2, h3, h4, h5, h6⟩ := r.cl i _ g5
  refine ⟨.ref p, h1, .inl ⟨rfl, vs, .inl (.inl h2)⟩, ra w G F0 σ H F _ d1 s2 r k1 _ fun u H1 F1 r1 e1 p1 => ?_⟩
  obtain ⟨v', h1', p', vs', rfl, h2', h3', h4', h5', h6'⟩ := r1.cl i _ k5
  rw [h1] at h1'
  cases h1'
  refine ⟨p, vs', u, rfl, rfl, h2', by rw [h5'.length, sizeLine_eq]; exact hl, ?_⟩
  exact q _ _ F1 (r1.mutOw k5 h1 (h5'.append ⟨u, [], rfl, p1, rfl⟩)) e1 rfl
/-- x.pop() -/
def fPop (i : Nat) : M D := do
  let ds ← getO i
  match ds.getLast? with
  | some d => do
    setC i (.ow ds.dropLast)
    pure d
  | none => fun _ => none
theorem RepL.last {K : PySem.W.Frag} {F : Hp} {ds : List D} {vs : List V} {d : D} (r : RepL K F ds vs) (h : ds.getLast? = some d) : ∃ v, vs[vs.length - 1]? = some v ∧ Rep K F d v := by
  rw [List.getLast?_eq_getElem?] at h
  rw [r.length]
  exact r.get h
theorem RepL.dropLast {K : PySem.W.Frag} {F : Hp} {ds : List D} {vs : List V} (r : RepL K F ds vs) : RepL K F ds.dropLast vs.dropLast := by
  rw [List.dropLast_eq_take, List.dropLast_eq_take, r.length]
  exact r.take _
theorem de_pop {i : Nat} {x : Str} {px apos cpos : Pos} (hN : X.N[i]? = some x) (hv : Vis X.env.scope x) (hd : (x == ("__debug__" : Str)) = false := by decide) (hcd : (x == ("__classdict__" : Str)) = false := by decide)
    (hbase : attributeBase (.Name x px) "pop" X.env (eval (.Name x px) X.env) = eval (.Name x px) X.env := by rfl) (hline : (apos.endLine == cpos.line) = true := by rfl) :
    DE T X (.Call (.Attribute (.Name x px) "pop" apos) [] [] cpos) (fPop i) := by
  refine ⟨_, pe_bm0 PySem.F.plainAttrs_list PySem.F.slot_list_pop PySem.F.type_list_pop mt_pop (pe_var hN hv hd hcd) hbase hline, fun w G F0 σ H F s d s' r h Q q => ?_⟩
  obtain ⟨ds, s1, k1, k2⟩ := M.bind_some h
  obtain ⟨k3, k4⟩ := getO_some k1
  dsimp only at k3 k4
  subst k4
  obtain ⟨v, h1, p, vs, rfl, h2, h3, h4, h5, h6⟩ := r.cl i _ k3
  cases hl : ds.getLast? with
  | none => rw [hl] at k2; cases k2
  | some d0 =>
    rw [hl] at k2
    obtain ⟨_, s3, k7, k8⟩ := M.bind_some k2
    obtain ⟨hi, k9⟩ := setC_some k7
    dsimp only at k9
    subst k9
    cases k8
    obtain ⟨u, e1, e2⟩ := h5.last hl
    refine ⟨.ref p, h1, .inl ⟨rfl, vs, .inl (.inl h2)⟩, p, vs, u, rfl, rfl, h2, e1, ?_⟩
    exact q _ _ F (r.mutOw k3 h1 h5.dropLast) (Sub.refl F) e2
/-- x.pop(e) -/
def small63 (i : Int) : Bool := decide (-(2 ^ 63) ≤ i ∧ i < 2 ^ 63)
def popIt (d : D) (ds : List D) : Option (D × List D) := match d with
  | .int j => if small63 j = true then (seqIndex? j ds.length).bind fun k => (ds[k]?).map fun y => (y, ds.eraseIdx k) else none
  | _ => none
def fPopAt (i : Nat) (f : M D) : M D := do
  let _ ← getO i
  let d ← f
  let ds ← getO i
  let r ← M.lift (popIt d ds)
  setC i (.ow r.2)
  pure r.1
theorem popIt_some {d : D} {ds : List D} {r : D × List D} (h : popIt d ds = some r) : ∃ j k, d = .int j ∧ small63 j = true ∧ seqIndex? j ds.length = some k ∧ ds[k]? = some r.1 ∧ r.2 = ds.eraseIdx k := by
  cases d with
  | int j =>
    have h' : (if small63 j = true then (seqIndex? j ds.length).bind fun k => (ds[k]?).map fun y => (y, ds.eraseIdx k) else none) = some r := h
    by_cases hs : small63 j = true
    · rw [if_pos hs] at h'
      cases hk : seqIndex? j ds.length with
      | none => rw [hk] at h'; cases h'
      | some k =>
        rw [hk] at h'
        cases hy : ds[k]? with
        | none =>
          have h2 : (ds[k]?).map (fun y => (y, ds.eraseIdx k)) = some r := h'
          rw [hy] at h2; cases h2
        | some y =>
          have h2 : (ds[k]?).map (fun y => (y, ds.eraseIdx k)) = some r := h'
          rw [hy] at h2; cases h2
          exact ⟨j, k, rfl, hs, hk, hy, rfl⟩
    · rw [if_neg hs] at h'; cases h'
  | _ => cases h
theorem RepL.erase {K : PySem.W.Frag} {F : Hp} : ∀ {ds : List D} {vs : List V} (k : Nat), RepL K F ds vs → RepL K F (ds.eraseIdx k) (vs.eraseIdx k)
  | [], _, _, h => by rw [show _ = [] from h]; rfl
  | d :: ds, _, 0, ⟨v, r, e, h1, h2⟩ => by subst e; exact h2
  | d :: ds, _, k + 1, ⟨v, r, e, h1, h2⟩ => by subst e; exact ⟨v, r.eraseIdx k, rfl, h1, RepL.erase k h2⟩
theorem de_popAt {i : Nat} {x : Str} {px apos cpos : Pos} (hN : X.N[i]? = some x) (hv : Vis X.env.scope x) (ha : DE T X a f) (hd : (x == ("__debug__" : Str)) = false := by decide) (hcd : (x == ("__classdict__" : Str)) = false := by decide)
    (hbase : attributeBase (.Name x px) "pop" X.env (eval (.Name x px) X.env) = eval (.Name x px) X.env := by rfl)
    (hfew : ((backTo cpos (starEach [a] X.env)).all (fun x => !x.1) && (backToKw cpos (keywordEach [] X.env)).all (fun x => x.1.isSome) && decide (([a] : List Expr).length + ([] : List Keyword).length + (if ([] : List Keyword).isEmpty then 0 else 1) < 30)) = true := by rfl)
    (hline : (apos.endLine == cpos.line) = true := by rfl) (hs : starEach [a] X.env = (false, eval a X.env) :: starEach [] X.env := by rfl) (hplain : (backTo cpos (starEach [] X.env)).any (·.1) = false := by rfl) :
    DE T X (.Call (.Attribute (.Name x px) "pop" apos) [a] [] cpos) (fPopAt i f) := by
  obtain ⟨ta, pa, ra⟩ := ha
  refine ⟨_, pe_bm PySem.F.plainAttrs_list PySem.F.slot_list_pop PySem.F.type_list_pop mt_popAt (pe_var hN hv hd hcd) (pa_cons pa pa_nil hs) hbase hfew hline hs hplain, fun w G F0 σ H F s d s' r h Q q => ?_⟩
  obtain ⟨ds0, s0, k0, k0'⟩ := M.bind_some h
  obtain ⟨g5, g6⟩ := getO_some k0
  dsimp only at g5 g6
  subst g6
  obtain ⟨d1, s1, k1, k2⟩ := M.bind_some k0'
  obtain ⟨ds, s2, k3, k4⟩ := M.bind_some k2
  obtain ⟨k5, k6⟩ := getO_some k3
  dsimp only at k5 k6
  subst k6
  obtain ⟨z, s3, k7, k8⟩ := M.bind_some k4
  obtain ⟨k9, k10⟩ := M.lift_some k7
  dsimp only at k9 k10
  subst k10
  obtain ⟨j, k, rfl, hl, hk, hy, e⟩ := popIt_some k9
  obtain ⟨z1, z2⟩ := z
  dsimp only at hy e k8
  subst e
  obtain ⟨_, s4, k11, k12⟩ := M.bind_some k8
  obtain ⟨hi, k13⟩ := setC_some k11
  dsimp only at k13
  subst k13
  cases k12
  have hl' := of_decide_eq_true hl
  obtain ⟨v, h1, p, vs, rfl, h2, h3, h4, h5, h6⟩ := r.cl i _ g5
  refine ⟨.ref p, h1, .inl ⟨rfl, vs, .inl (.inl h2)⟩, ra w G F0 σ H F _ _ _ r k1 _ fun u H1 F1 r1 e1 p1 => ?_⟩
  cases (show u = .int j from p1)
  obtain ⟨v', h1', p', vs', rfl, h2', h3', h4', h5', h6'⟩ := r1.cl i _ k5
  rw [h1] at h1'
  cases h1'
  obtain ⟨z, e2, e3⟩ := h5'.get hy
  refine ⟨p, vs', j, k, z, rfl, rfl, h2', hl'.1, hl'.2, by rw [h5'.length]; exact hk, e2, ?_⟩
  exact q _ _ F1 (r1.mutOw k5 h1 (h5'.erase k)) e1 e3
/-- len of one's own list; as a test; an item; handed on (frozen) -/
def fLenO (i : Nat) : M D := do let ds ← getO i; pure (.int (ds.length : Int))
theorem de_lenO {i : Nat} {x : Str} {p px : Pos} (hN : X.N[i]? = some x) (hv : Vis X.env.scope x) (hg : Gl X "len") (hm : X.mg "len" = none) (hd : (x == ("__debug__" : Str)) = false := by decide) (hcd : (x == ("__classdict__" : Str)) = false := by decide)
    (he : starEach [.Name x px] X.env = (false, eval (.Name x px) X.env) :: starEach [] X.env := by rfl) (hpl : (backTo pos (starEach [] X.env)).any (·.1) = false := by rfl) : DE T X (.Call (.Name "len" p) [.Name x px] [] pos) (fLenO i) := by
  refine ⟨_, pe_callB call_len hg hm boot_len (pa_cons (pe_var hN hv hd hcd) pa_nil he) (by decide) (by decide) he hpl, fun w G F0 σ H F s d s' r h Q q => ?_⟩
  obtain ⟨ds, s1, k1, k2⟩ := M.bind_some h
  obtain ⟨k3, k4⟩ := getO_some k1
  dsimp only at k3 k4
  subst k4
  cases k2
  obtain ⟨v, h1, p, vs, rfl, h2, h3, h4, h5, h6⟩ := r.cl i _ k3
  exact ⟨.ref p, h1, _, ds.length, rfl, .inl ⟨vs, .inl (.inl h2), h5.length.symm⟩, q _ H F r (Sub.refl F) rfl⟩
def fTruthO (i : Nat) : M Bool := do let ds ← getO i; pure (!ds.isEmpty)
theorem dt_own {i : Nat} {x : Str} {px : Pos} (hN : X.N[i]? = some x) (hv : Vis X.env.scope x) (hd : (x == ("__debug__" : Str)) = false := by decide) (hcd : (x == ("__classdict__" : Str)) = false := by decide)
    (he : ∀ whole, isTrue (.Name x px) X.env whole = (do let v ← whole; standAt (Expr.Name x px).pos; holding [v] (truthy v)) := by intro _; rfl) : DT T X (.Name x px) (fTruthO i) := by
  refine ⟨_, pt_truth (pe_var hN hv hd hcd) he, fun w G F0 σ H F s k s' r h Q q => ?_⟩
  obtain ⟨ds, s1, k1, k2⟩ := M.bind_some h
  obtain ⟨k3, k4⟩ := getO_some k1
  dsimp only at k3 k4
  subst k4
  cases k2
  obtain ⟨v, h1, p, vs, rfl, h2, h3, h4, h5, h6⟩ := r.cl i _ k3
  refine ⟨.ref p, h1, _, .inl ⟨vs, .inl (.inl h2), ?_⟩, q H F r (Sub.refl F)⟩
  cases ds with
  | nil => rw [show vs = [] from h5]; rfl
  | cons d ds => obtain ⟨v, r1, rfl, _⟩ := h5; rfl
def fIxO (i : Nat) (f : M D) : M D := do
  let _ ← getO i
  let d ← f
  let ds ← getO i
  match d with
  | .int j => M.lift (atI ds j)
  | _ => fun _ => none
theorem de_ixO {i : Nat} {x : Str} {px : Pos} (hN : X.N[i]? = some x) (hv : Vis X.env.scope x) (ha : DE T X a f) (hs : PlainIx a := by exact fun _ _ => rfl) (hd : (x == ("__debug__" : Str)) = false := by decide) (hcd : (x == ("__classdict__" : Str)) = false := by decide) :
    DE T X (.Subscript (.Name x px) a pos) (fIxO i f) := by
  obtain ⟨ta, pa, ra⟩ := ha
  refine ⟨_, pe_ix ix_list (pe_var hN hv hd hcd) pa hs, fun w G F0 σ H F s d s' r h Q q => ?_⟩
  obtain ⟨ds0, s0, k0, k0'⟩ := M.bind_some h
  obtain ⟨g5, g6⟩ := getO_some k0
  dsimp only at g5 g6
  subst g6
  obtain ⟨d1, s1, k1, k2⟩ := M.bind_some k0'
  obtain ⟨ds, s2, k3, k4⟩ := M.bind_some k2
  obtain ⟨k5, k6⟩ := getO_some k3
  dsimp only at k5 k6
  subst k6
  cases d1 with
  | int j =>
    obtain ⟨k7, k8⟩ := M.lift_some k4
    dsimp only at k7 k8
    subst k8
    obtain ⟨v, h1, p, vs, rfl, h2, h3, h4, h5, h6⟩ := r.cl i _ g5
    refine ⟨.ref p, h1, ra w G F0 σ H F _ _ _ r k1 _ fun u H1 F1 r1 e1 p1 => ?_⟩
    obtain ⟨v', h1', p', vs', rfl, h2', h3', h4', h5', h6'⟩ := r1.cl i _ k5
    rw [h1] at h1'
    cases h1'
    obtain ⟨z, e2, e3⟩ := atI_rep h5' k7
    exact ⟨p, vs', j, z, rfl, p1, .inl (.inl h2'), e2, q _ _ F1 r1 e1 e3⟩
  | _ => cases k4
/-- one's own list handed on: from here on it stands -/
def fGive (i : Nat) : M D := do
  let ds ← getO i
  setC i (.im (.list ds))
  pure (.list ds)
theorem Rel.give {K : PySem.W.Frag} {w : Option (Addr × Addr)} {G F0 H F : Hp} {σ : L2.St} {s : S} (r : Rel T K w G F0 σ H F s) {i : Nat} {p : Addr} {vs : List V} {ds : List D} (hi : s.env[i]? = some (.ow ds)) (hp : σ[i]? = some (some (.ref p))) (hH : H p = some (.lst vs)) (hv : RepL K F ds vs) :
    Rel T K w G F0 σ H (upd F p (.lst vs)) { s with env := s.env.set i (.im (.list ds)) } := by
  obtain ⟨v, h1, a, us, rfl, h2, h3, h4, h5, h6⟩ := r.cl i _ hi
  rw [hp] at h1
  cases h1
  have sF : Sub F (upd F p (.lst vs)) := Sub.new h3
  refine ⟨⟨fun a o h => ?_, r.keep, r.exF.trans sF, fun a o h => ?_, fun q hq => ?_, fun P hP => ?_⟩, fun j c h => ?_, ?_, fun j k c c' b ne e1 e2 o1 o2 s1 s2 => ?_⟩
  · by_cases e : a = p
    · subst e; rw [upd_same] at h; cases h; exact hH
    · rw [upd_ne e] at h; exact r.sub a o h
  · by_cases e : a = p
    · subst e; exact .inr h4
    · rw [upd_ne e] at h; exact r.new a o h
  · obtain ⟨⟨d, c, fd, fc⟩, g1, g2⟩ := r.src q hq
    have n1 : q.1 ≠ p := ne_of d h2 (by intro z; cases z)
    have n2 : q.2 ≠ p := fun e => h6 q hq e.symm
    exact ⟨⟨d, c, by rw [upd_ne n1]; exact fd, by rw [upd_ne n2]; exact fc⟩, g1, g2⟩
  · obtain ⟨⟨ps, g1, g2⟩, g3, g4⟩ := r.tab P hP
    have n1 : P ≠ p := ne_of g1 h2 (by intro z; cases z)
    exact ⟨⟨ps, g1, g2⟩, by rw [upd_ne n1]; exact g3, g4⟩
  · rcases get_set h with ⟨rfl, rfl, _⟩ | ⟨ne, h⟩
    · exact ⟨_, hp, .ref p, rfl, p, vs, rfl, upd_same, hv.mono sF⟩
    · obtain ⟨u, g1, g2⟩ := r.cl j c h
      refine ⟨u, g1, ?_⟩
      cases c with
      | un => trivial
      | im d => obtain ⟨x, e1, e2⟩ := g2; exact ⟨x, e1, e2.mono sF⟩
      | ow es =>
        obtain ⟨b, ws, rfl, k2, k3, k4, k5, k6⟩ := g2
        have nb : b ≠ p := fun e => r.dis i j _ _ p ne hi h rfl rfl hp (by rw [g1, e])
        exact ⟨b, ws, rfl, k2, by rw [upd_ne nb]; exact k3, k4, k5.mono sF, k6⟩
      | sr => exact g2
  · rw [List.length_set]; exact r.len
  · rcases get_set e1 with ⟨rfl, rfl, _⟩ | ⟨_, e1⟩
    · cases o1
    · rcases get_set e2 with ⟨rfl, rfl, _⟩ | ⟨_, e2⟩
      · cases o2
      · exact r.dis j k c c' b ne e1 e2 o1 o2 s1 s2
theorem de_give {i : Nat} {x : Str} {pos : Pos} (hN : X.N[i]? = some x) (hv : Vis X.env.scope x) (hd : (x == ("__debug__" : Str)) = false := by decide) (hcd : (x == ("__classdict__" : Str)) = false := by decide) : DE T X (.Name x pos) (fGive i) := by
  refine ⟨_, pe_var hN hv hd hcd, fun w G F0 σ H F s d s' r h Q q => ?_⟩
  obtain ⟨ds, s1, k1, k2⟩ := M.bind_some h
  obtain ⟨k3, k4⟩ := getO_some k1
  dsimp only at k3 k4
  subst k4
  obtain ⟨_, s3, k7, k8⟩ := M.bind_some k2
  obtain ⟨hi, k9⟩ := setC_some k7
  dsimp only at k9
  subst k9
  cases k8
  obtain ⟨v, h1, p, vs, rfl, h2, h3, h4, h5, h6⟩ := r.cl i _ k3
  exact ⟨.ref p, h1, q _ H _ (r.give k3 h1 h2 h5) (Sub.new h3) ⟨p, vs, rfl, upd_same, h5.mono (Sub.new h3)⟩⟩
end
end Dl

set_option Elab.async false
set_option linter.all false
set_option maxRecDepth 100000
set_option maxHeartbeats 2000000
namespace Dl
open PySem PySem.Spec PyProof.Rows L2
section
variable {T : List Addr} {X : Cx} {a b c : Expr} {f g h : M D} {pos : Pos}
/-! ### a < b < c -/
def fChain (φ φ' : D → D → Option D) (f g h : M D) : M D := do
  let d ← f
  let e ← g
  let k ← M.lift (φ d e)
  match k with
  | .bool true => do
    let z ← h
    M.lift (φ' e z)
  | .bool false => pure (.bool false)
  | _ => fun _ => none
theorem chain_run {K : PySem.W.Frag} {φ φ' : D → D → Option D} {ta tb tc : TE} {w : Option (Addr × Addr)} {G F0 H F : Hp} {σ : L2.St} {s s' : S} {d : D}
    (ra : ∀ w G F0 σ H F s d s', Rel T K w G F0 σ H F s → f s = some (d, s') → ∀ Q : VK, (∀ v H' F', Rel T K w G F0 σ H' F' s' → Sub F F' → Rep K F' d v → Q v H') → ta σ H Q)
    (rb : ∀ w G F0 σ H F s d s', Rel T K w G F0 σ H F s → g s = some (d, s') → ∀ Q : VK, (∀ v H' F', Rel T K w G F0 σ H' F' s' → Sub F F' → Rep K F' d v → Q v H') → tb σ H Q)
    (rc : ∀ w G F0 σ H F s d s', Rel T K w G F0 σ H F s → h s = some (d, s') → ∀ Q : VK, (∀ v H' F', Rel T K w G F0 σ H' F' s' → Sub F F' → Rep K F' d v → Q v H') → tc σ H Q)
    (r : Rel T K w G F0 σ H F s) (k : fChain φ φ' f g h s = some (d, s')) {Q : VK} (q : ∀ v H' F', Rel T K w G F0 σ H' F' s' → Sub F F' → Rep K F' d v → Q v H') : tChain (rD2 K φ) (rD2 K φ') ta tb tc σ H Q := by
  obtain ⟨d1, s1, h1, h2⟩ := M.bind_some k
  obtain ⟨d2, s2, h3, h4⟩ := M.bind_some h2
  obtain ⟨k1, s3, h5, h6⟩ := M.bind_some h4
  obtain ⟨h7, h8⟩ := M.lift_some h5
  dsimp only at h7 h8
  subst h8
  refine ra w G F0 σ H F s d1 s1 r h1 _ fun v H1 F1 r1 e1 p1 => ?_
  refine rb w G F0 σ H1 F1 s1 d2 _ r1 h3 _ fun u H2 F2 r2 e2 p2 => ⟨F2, d1, d2, k1, r2.sub, p1.mono e2, p2, h7, fun z H3 F3 gr rv => ?_⟩
  have e3 := (gr.sub r2.sub).2
  have r3 := r2.grow gr
  cases k1 with
  | bool t =>
    refine ⟨t, rv, ?_⟩
    cases t with
    | true =>
      obtain ⟨d3, s4, h9, h10⟩ := M.bind_some h6
      obtain ⟨h11, h12⟩ := M.lift_some h10
      dsimp only at h11 h12
      subst h12
      refine iteT (rc w G F0 σ H3 F3 _ d3 _ r3 h9 _ fun x H4 F4 r4 e4 p4 => ⟨F4, d2, d3, d, r4.sub, p2.mono (e3.trans e4), p4, h11, fun z5 H5 F5 gr5 rv5 => ?_⟩)
      exact q z5 H5 F5 (r4.grow gr5) (e1.trans (e2.trans (e3.trans (e4.trans (gr5.sub r4.sub).2)))) rv5
    | false =>
      cases h6
      exact iteF (q _ H3 F3 r3 (e1.trans (e2.trans e3)) rfl)
  | _ => cases h6
theorem de_chain {op op' : CmpOp} {φ φ' : D → D → Option D} (ho : OpR X (compareOp op) (rD2 X.K φ)) (ho' : OpR X (compareOp op') (rD2 X.K φ')) (ha : DE T X a f) (hb : DE T X b g) (hc : DE T X c h)
    (hm : lastMarks [op, op'] [b, c] = false := by with_unfolding_all rfl) : DE T X (.Compare a [op, op'] [b, c] pos) (fChain φ φ' f g h) := by
  obtain ⟨ta, pa, ra⟩ := ha
  obtain ⟨tb, pb, rb⟩ := hb
  obtain ⟨tc, pc, rc⟩ := hc
  exact ⟨_, pe_chain ho ho' pa pb pc hm, fun w G F0 σ H F s d s' r k Q q => chain_run ra rb rc r k q⟩
theorem dt_chain {op op' : CmpOp} {φ φ' : D → D → Option D} (ho : OpR X (compareOp op) (rD2 X.K φ)) (ho' : OpR X (compareOp op') (rD2 X.K φ')) (ha : DE T X a f) (hb : DE T X b g) (hc : DE T X c h)
    (hm : lastMarks [op, op'] [b, c] = false := by with_unfolding_all rfl) : DT T X (.Compare a [op, op'] [b, c] pos) (fBool (fChain φ φ' f g h)) := by
  obtain ⟨ta, pa, ra⟩ := ha
  obtain ⟨tb, pb, rb⟩ := hb
  obtain ⟨tc, pc, rc⟩ := hc
  refine ⟨_, pt_chain ho ho' pa pb pc hm, fun w G F0 σ H F s k s' r e Q q => ?_⟩
  exact chain_run ra rb rc r (fBool_some e) fun v H' F' r' e' rv => ⟨k, rv, q H' F' r' e'⟩
/-! ### a, b = e, f -/
def gPar (i j : Nat) (f g : M D) : M Out := do
  let d ← f
  let e ← g
  setC i (.im d)
  setC j (.im e)
  pure .nx
theorem ds_par {i j : Nat} {x y : Str} {px py pt : Pos} {kt k2 pt2} (hc : X.calm = true) (hN : X.N.Nodup) (hi : X.N[i]? = some x) (hj : X.N[j]? = some y) (hij : i ≠ j)
    (hx : X.env.scope.names.lookup x = some .local) (hy : X.env.scope.names.lookup y = some .local) (ha : DE T X a f) (hb : DE T X b g)
    (hw : swappedStores [.Tuple [.Name x px, .Name y py] kt pt] (.Tuple [a, b] k2 pt2) X.env = pure (some [x, y]))
    (hs : swapsWithSole [.Tuple [.Name x px, .Name y py] kt pt] (.Tuple [a, b] k2 pt2) pos.line X.env = pure false := by rfl)
    (s1 : starEach (a :: [b]) X.env = (false, eval a X.env) :: starEach [b] X.env := by rfl) (s2 : starEach (b :: []) X.env = (false, eval b X.env) :: starEach [] X.env := by rfl) :
    DS T X (.Assign [.Tuple [.Name x px, .Name y py] kt pt] (.Tuple [a, b] k2 pt2) pos) (gPar i j f g) := by
  obtain ⟨ta, pa, ra⟩ := ha
  obtain ⟨tb, pb, rb⟩ := hb
  refine ⟨_, ps_par hc hN hi hj hij hx hy (pa_cons pa (pa_cons pb pa_nil s2) s1) hw hs, fun w G F0 σ H F s o s' r h E af => ?_⟩
  obtain ⟨d, z1, k1, k2⟩ := M.bind_some h
  obtain ⟨e, z2, k3, k4⟩ := M.bind_some k2
  obtain ⟨_, z3, k5, k6⟩ := M.bind_some k4
  obtain ⟨_, z4, k7, k8⟩ := M.bind_some k6
  obtain ⟨l1, m1⟩ := setC_some k5
  obtain ⟨l2, m2⟩ := setC_some k7
  dsimp only at m1 m2
  subst m1
  subst m2
  cases k8
  refine ra w G F0 σ H F s d z1 r k1 _ fun v H1 F1 r1 e1 p1 => rb w G F0 σ H1 F1 z1 e z2 r1 k3 _ fun u H2 F2 r2 e2 p2 => ⟨v, u, rfl, ?_⟩
  exact af _ _ F2 ((r2.setIm l1 (p1.mono e2)).setIm l2 p2) (e1.trans e2)
/-! ### repr -/
end
/-- the table of modules stands in the base -/
def SysB (base : Heap) : Prop := ∃ o, base.get? sysModules = some o
theorem Inv.noSys {X : Cx} {pins : List (Addr × Obj)} {σ : L2.St} {H : Hp} {s : Shared} (hsb : SysB X.base) (I : Inv X pins σ H s) {a : Addr} {o : HO} (h : H a = some o) : sysModules ≠ a := fun e => by
  subst e
  obtain ⟨o', hg⟩ := hsb
  rw [(I.bs _ _ hg).2] at h
  cases h
/- what the heap holds for data, as the library reads it -/
mutual
theorem Rep.reads {X : Cx} {pins : List (Addr × Obj)} {σ : L2.St} {F H : Hp} {s : Shared} (hsb : SysB X.base) (I : Inv X pins σ H s) (sb : Sub F H) : ∀ (d : D) (v : V) (u : Value), Rep X.K F d v → RelV v u → ∃ as, Reads s.heap u d as ∧ sysModules ∉ as
  | .none, v, u, h, r => by
    cases (show v = .non from h)
    cases r
    exact ⟨_, Reads.none, by simp⟩
  | .bool b, v, u, h, r => by
    cases (show v = .bl b from h)
    cases r
    exact ⟨_, Reads.bool b, by simp⟩
  | .int i, v, u, h, r => by
    cases (show v = .int i from h)
    obtain ⟨t, rfl⟩ := r
    exact ⟨_, Reads.int i t, by simp⟩
  | .str x, v, u, h, r => by
    cases (show v = .str x from h)
    obtain ⟨t, rfl⟩ := r
    exact ⟨_, Reads.str x t, by simp⟩
  | .list ds, v, u, ⟨a, vs, e, h1, h2⟩, r => by
    subst e
    cases (show u = Value.ref a from r)
    have hH := sb _ _ h1
    obtain ⟨hz, its, n, rv, ho⟩ := (show ObjOk X.prog X.w H s.heap a (.lst vs) from I.hok a _ hH)
    obtain ⟨as, hr, hn⟩ := RepL.reads hsb I sb ds vs its h2 rv
    refine ⟨_, Reads.list ho rfl rfl (by simpa using hr), fun z => ?_⟩
    rcases List.mem_cons.mp z with z | z
    · exact Inv.noSys hsb I hH z
    · exact hn z
  | .tuple ds, v, u, ⟨a, vs, e, h1, h2⟩, r => by
    subst e
    cases (show u = Value.ref a from r)
    obtain ⟨its, rv, ⟨o, ho, hc, n, hd⟩, _⟩ := I.tuple (sub_t sb h1)
    obtain ⟨as, hr, hn⟩ := RepL.reads hsb I sb ds vs its h2 rv
    exact ⟨_, Reads.tuple ho hc hd hr, hn⟩
  | .dict kvs, v, u, ⟨a, es, e, h1, h2⟩, r => by
    subst e
    cases (show u = Value.ref a from r)
    have hH := sb _ _ h1
    obtain ⟨hz, hsm, vs, rv, o, els, ep, ho, hx, hd, hk, hp, hn⟩ := (show ObjOk X.prog X.w H s.heap a (.dK es) from I.hok a _ hH)
    obtain ⟨as, bs, q1, q2, n1, n2⟩ := RepE.reads hsb I sb kvs es vs els.toList h2 rv hp
    refine ⟨_, Reads.dict ho hx.1 hd q1 q2, fun z => ?_⟩
    rcases List.mem_cons.mp z with z | z
    · exact Inv.noSys hsb I hH z
    · exact (List.mem_append.mp z).elim n1 n2
theorem RepL.reads {X : Cx} {pins : List (Addr × Obj)} {σ : L2.St} {F H : Hp} {s : Shared} (hsb : SysB X.base) (I : Inv X pins σ H s) (sb : Sub F H) : ∀ (ds : List D) (vs : List V) (us : List Value), RepL X.K F ds vs → Vals vs us → ∃ as, ReadsAll s.heap us ds as ∧ sysModules ∉ as
  | [], vs, us, h, r => by
    cases (show vs = [] from h)
    cases r
    exact ⟨_, ReadsAll.nil, by simp⟩
  | d :: ds, vs, us, ⟨v, r', e, h1, h2⟩, r => by
    subst e
    cases r with
    | cons r1 r2 =>
      obtain ⟨as, q1, n1⟩ := Rep.reads hsb I sb d _ _ h1 r1
      obtain ⟨bs, q2, n2⟩ := RepL.reads hsb I sb ds _ _ h2 r2
      exact ⟨_, ReadsAll.cons q1 q2, fun z => (List.mem_append.mp z).elim n1 n2⟩
theorem RepE.reads {X : Cx} {pins : List (Addr × Obj)} {σ : L2.St} {F H : Hp} {s : Shared} (hsb : SysB X.base) (I : Inv X pins σ H s) (sb : Sub F H) : ∀ (kvs : List (D × D)) (es : List (Key × V)) (vs : List (Key × Value)) (els : List DictEntry), RepE X.K F kvs es → KV es vs →
    Pairs (mixKind X.prog X.w) els vs → ∃ as bs, ReadsAll s.heap (els.map (·.key)) (kvs.map (·.1)) as ∧ ReadsAll s.heap (els.map (·.val)) (kvs.map (·.2)) bs ∧ sysModules ∉ as ∧ sysModules ∉ bs
  | [], es, vs, els, h, r, p => by
    cases (show es = [] from h)
    cases r
    cases p
    exact ⟨_, _, ReadsAll.nil, ReadsAll.nil, by simp, by simp⟩
  | (k, d) :: kvs, es, vs, els, ⟨key, v, es', e, e2, h1, h2⟩, r, p => by
    subst e
    subst e2
    cases r with
    | cons r1 r2 =>
      cases p with
      | @cons el _ els' _ p1 p2 p3 =>
        obtain ⟨as, q1, n1⟩ := Rep.reads hsb I sb d _ _ h1 r1.2
        obtain ⟨as', bs', q2, q3, n2, n3⟩ := RepE.reads hsb I sb kvs es' _ els' h2 r2 p3
        have hk : ∃ cs, Reads s.heap el.key (dKey key) cs ∧ sysModules ∉ cs := by
          have p1' : keyIs _ el.key = true := p1
          rw [← r1.1] at p1'
          rcases keyIs_shape p1' with ⟨i, t, e1, e2⟩ | ⟨x, t, e1, e2⟩
          · dsimp only at e1
            rw [e1, e2]; exact ⟨_, Reads.int i t, by simp⟩
          · dsimp only at e1
            rw [e1, e2]; exact ⟨_, Reads.str x t, by simp⟩
        obtain ⟨cs, q4, n4⟩ := hk
        exact ⟨_, _, ReadsAll.cons q4 q2, ReadsAll.cons (show Reads s.heap el.val d as by rw [p2]; exact q1) q3, fun z => (List.mem_append.mp z).elim n4 n2, fun z => (List.mem_append.mp z).elim n1 n3⟩
end
section
variable {X : Cx}
def φRepr : List D → Option D
  | [d] => if d.showable = true ∧ d.depth ≤ 64 ∧ d.shown.length ≤ sizeLine then some (.str d.shown) else none
  | _ => none
theorem call_reprD (hg : X.A.guards = some []) (hU : X.A.units + 70 < cLine) (hsb : SysB X.base) : CallR X (.builtin "repr") (rDn X.K φRepr) := by
  intro pins s σ H xs us Q I r h
  obtain ⟨F, ds, z, sb, hx, hz, q⟩ := h
  unfold φRepr at hz
  split at hz
  · rename_i d
    split at hz
    · rename_i hc
      obtain ⟨c1, c2, c3⟩ := hc
      cases hz
      obtain ⟨v, rfl, hv⟩ := rep1 hx
      cases r with
      | cons r1 r2 =>
        cases r2
        obtain ⟨as, R, hn⟩ := Rep.reads hsb I sb d v _ hv r1
        have fin : ∀ t s', Inv X pins σ H s' → EP X pins σ Q (.str d.shown t) s' := fun t s' I' => ⟨.str d.shown, H, I', ⟨t, rfl⟩, q _ _ _ (.refl F H) rfl⟩
        cases R with
        | none => exact PySem.P.repr_of_none (fin _ _ (I.tok _))
        | bool b => exact PySem.P.repr_of_bool (fin _ _ (I.tok _))
        | int i t => exact PySem.P.repr_of_int (by simpa [PyData.showable] using c1) (fin _ _ (I.tok _))
        | str x t => exact PySem.P.repr_of_str (fin _ _ (I.tok _)) c3
        | list a1 a2 a3 a4 => exact repr_of_reads' (.list a1 a2 a3 a4) c1 (fun _ => hn) hg (by omega) (fun _ _ e => e) (fun h' u tk hk => fin _ _ (I.kept hk)) c3
        | tuple a1 a2 a3 a4 => exact repr_of_reads' (.tuple a1 a2 a3 a4) c1 (fun _ => hn) hg (by omega) (fun _ _ e => e) (fun h' u tk hk => fin _ _ (I.kept hk)) c3
        | dict a1 a2 a3 a4 a5 => exact repr_of_reads' (.dict a1 a2 a3 a4 a5) c1 (fun _ => hn) hg (by omega) (fun _ _ e => e) (fun h' u tk hk => fin _ _ (I.kept hk)) c3
    · cases hz
  · cases hz
end
end Dl

set_option Elab.async false
set_option linter.all false
set_option maxRecDepth 100000
set_option maxHeartbeats 2000000
namespace Dl
open PySem PySem.Spec PyProof.Rows L2 GenW
/-! ### generator expressions: the body's context -/
abbrev gb (X : Cx) (A : Around) (s : Shared) (H : Hp) (cenv : Env) (fp : List Addr) : Cx :=
  { X with A := A.deeper cenv, s_0 := s, H_0 := H, env := cenv, outer := X.stack, stack := cenv :: X.stack, ex := fp, fn := fun _ => false, pn := [], xe := fun _ _ => False }
theorem over_genLoop {A : Around} {elt : Expr} {cs : List Comprehension} {scope : Scope} {pos : Pos} {it acc : Value} {env : Env} : A.over (.compLoop (.GeneratorExp elt cs scope pos) 0 it acc env) [] = A.deeper env := by
  first
    | rfl
    | (obtain ⟨h0, d0, f0, g0, u0⟩ := A; simp [Around.over, Around.deeper, marksOver, frameCount, unitsOf, envsOf, guardsOf, pushEnvs, pushGuards, Code.envs, Code.env?, Code.isFrame, Code.guards, Code.isGuard, Code.weight, Code.frames, Code.isCreation, Code.isCaller, Code.cUnits])
theorem over_genStart {A : Around} {elt : Expr} {cs : List Comprehension} {scope : Scope} {pos : Pos} {it acc : Value} {env : Env} : A.over (.compStart (.GeneratorExp elt cs scope pos) 0 it acc env) [] = A.deeper env := by
  first
    | rfl
    | (obtain ⟨h0, d0, f0, g0, u0⟩ := A; simp [Around.over, Around.deeper, marksOver, frameCount, unitsOf, envsOf, guardsOf, pushEnvs, pushGuards, Code.envs, Code.env?, Code.isFrame, Code.guards, Code.isGuard, Code.weight, Code.frames, Code.isCreation, Code.isCaller, Code.cUnits])
section
variable {X : Cx} {pins : List (Addr × Obj)} {σ : L2.St} {H : Hp} {s : Shared}
theorem gen_begin {scope : Scope} {own : List (Str × Nat)} {fp : List Addr} {A : Around} {code : Value} {h' : Heap} {g' : Array GenState} {t' : Nat} {m : Str → Option Value} (I : Inv X pins σ H s) (ok : BlkOk X.N X.env.scope scope own) (hN : X.N.Nodup) (hfp : ∀ b ∈ fp, FpOk X pins H b ∧ b < s.heap.objs.size)
    (hcell : ∀ y ∈ scope.names, y.2 ≠ .cell) (hA : A.frames = some X.stack) (hh : A.handled = none) (hn : h'.Ns s.heap.objs.size m) (kp : ∀ b o, s.heap.get? b = some o → h'.get? b = some o) (hg : AllBare g') :
    Inv (gb X A s H (genEnv scope (cloFrom X.env.cells scope.names []) s.heap.objs.size code builtinsNs X.env) fp) [] (wipe σ (own.map (·.2))) H { s with heap := h', gens := g', toks := t' } := by
  have caught : ∀ y ∈ scope.names, y.2 = .free → ∃ c, X.env.cells.lookup y.1 = some c := fun y hy e => by
    rcases ok.free y hy e with kk | kk
    · exact I.ok.has _ (.inl kk)
    · exact I.ok.has _ (.inr kk)
  have inClo : ∀ {y c}, (y, c) ∈ cloFrom X.env.cells scope.names [] → X.env.cells.lookup y = some c ∧ c < s.heap.objs.size := fun {y c} hm => by
    rcases cloFrom_mem hm with z0 | ⟨h1, rfl⟩
    · cases z0
    · obtain ⟨c0, hc⟩ := caught _ h1 rfl
      rw [hc]
      obtain ⟨v0, z⟩ := I.cell _ _ hc
      exact ⟨rfl, z.lt⟩
  have cl : ∀ {y c}, (cloFrom X.env.cells scope.names []).lookup y = some c → X.env.cells.lookup y = some c ∧ c < s.heap.objs.size := fun e => inClo (PySem.mem_of_lookup e)
  have look : ∀ {y}, scope.names.lookup y = some .free → ∃ c, (cloFrom X.env.cells scope.names []).lookup y = some c ∧ X.env.cells.lookup y = some c := fun {y} hl => by
    obtain ⟨c', e'⟩ := mem_lookup (cloFrom_has (cells := X.env.cells) (acc := []) (PySem.mem_of_lookup hl))
    exact ⟨c', e', (cl e').1⟩
  refine ⟨⟨I.ok.mod, ok.kind, I.ok.glob, rfl, Nat.le_refl _, fun y z c e1 e2 => ?_, fun y hy => ?_, fun y c z e => (Bool.false_ne_true z).elim, fun _ => hh, Around.frames_deeper hA, .inr ⟨rfl, rfl⟩, fun b hb => ⟨?_, fun y c e z => ?_⟩, I.bs, Nat.le_trans I.ok.bsz I.sz, fun b o e hb => ?_, fun b hb z => ?_, I.stack, I.stkFree⟩,
    rfl, hg, Un.kept kp, ⟨m, hn, fun i nm val e1 e2 e3 => ?_⟩, fun y c e => ?_, ?_, fun y c e => ?_, fun p hp => absurd (show p ∈ ([] : List (Addr × Obj)) ++ [] from hp) (by simp), I.hok.kept kp, by rw [wipe_length]; exact I.len⟩
  · exact I.ok.inj y z c (cl e1).1 (cl e2).1
  · have hy' : scope.names.lookup y = some .cell ∨ scope.names.lookup y = some .free := hy
    rcases hy' with hy | hy
    · exact absurd rfl (hcell _ (PySem.mem_of_lookup hy))
    · obtain ⟨c, h1, _⟩ := look hy
      exact ⟨c, h1⟩
  · exact Nat.ne_of_lt (hfp b hb).2
  · exact (hfp b hb).1.2.2.2.2.1 y c (cl e).1 z
  · rcases (hfp b hb).1.2.2.2.1 with z1 | z1
    · exact I.ok.noex b o e z1
    · exact absurd (Nat.lt_of_lt_of_le (Heap.lt_size e) (Nat.le_trans I.ok.bsz z1)) (Nat.lt_irrefl _)
  · rcases List.mem_cons.mp (I.stkSub b z) with z1 | z1
    · exact (hfp b hb).1.2.1 z1
    · exact (hfp b hb).1.2.2.1 z1
  · obtain ⟨e2', nIn⟩ := wipe_some e2
    have notOwn : ∀ k, scope.names.lookup nm = some k → k = .local ∨ k = .cell → False := fun k e hh => by
      rcases ok.own _ (PySem.mem_of_lookup e) hh with mm | mm
      · obtain ⟨p, hp, hpn⟩ := List.mem_map.mp mm
        have e3 := ok.ix p hp
        have : p.1 = nm := hpn
        rw [this] at e3
        exact nIn (List.mem_map.mpr ⟨p, hp, nodup_ix hN e3 e1⟩ : _)
      · exact mm (List.mem_of_getElem? e1)
    have isFree : scope.names.lookup nm = some .free := by
      have e3 : scope.names.lookup nm = some .local ∨ scope.names.lookup nm = some .cell ∨ scope.names.lookup nm = some .free := e3
      rcases e3 with e3 | e3 | e3
      · exact (notOwn _ e3 (.inl rfl)).elim
      · exact (notOwn _ e3 (.inr rfl)).elim
      · exact e3
    obtain ⟨m', hn', hl⟩ := I.loc
    have seenX : Vis X.env.scope nm := (ok.free _ (PySem.mem_of_lookup isFree) rfl).elim (fun k => .inr (.inl k)) (fun k => .inr (.inr k))
    obtain ⟨u0, r0, q0⟩ := hl i nm val e1 e2' seenX
    refine ⟨u0, r0, .inr ⟨.inr isFree, ?_⟩⟩
    obtain ⟨c, h1, h2⟩ := look isFree
    rcases q0 with ⟨kl, _⟩ | ⟨_, c', e', z⟩
    · have kl : X.env.scope.names.lookup nm = some .local := kl
      rcases ok.free _ (PySem.mem_of_lookup isFree) rfl with k' | k' <;> rw [show X.env.scope.names.lookup nm = _ from k'] at kl <;> cases kl
    · rw [h2] at e'; cases e'
      exact ⟨c, h1, z.keeps kp⟩
  · obtain ⟨w, z⟩ := I.cell y c (cl e).1
    exact ⟨w, z.keeps kp⟩
  · exact I.hok.fresh (Nat.le_refl _)
  · exact I.freeC y c (cl e).1
/-- what its consumer may do while it sleeps -/
structure Wk (Sp : List Addr) (s s' : Shared) : Prop where
  os : s'.os = s.os
  bare : AllBare s'.gens
  keep : ∀ b o, b ∉ Sp → s.heap.get? b = some o → s'.heap.get? b = some o
  there : ∀ b ∈ Sp, ∃ o, s'.heap.get? b = some o ∧ ∀ v, o.data ≠ .cell v
/-- the consumer's own objects: young, untracked -/
structure SpOk (X : Cx) (H : Hp) (b : Addr) : Prop where
  young : X.s_0.heap.objs.size ≤ b
  loc : b ≠ X.env.locals
  cell : ∀ x c, X.env.cells.lookup x = some c → c ≠ b
  fs : b ∉ X.fs
  free : H b = none
theorem gen_wake {Sp : List Addr} {s' : Shared} (hpn : X.pn = []) (I : Inv X [] σ H s) (hS : ∀ b ∈ Sp, SpOk X H b) (wk : Wk Sp s s') : Inv X (pinsAt Sp s'.heap) σ H s' := by
  obtain ⟨hh, g, d, t, o⟩ := s'
  have ho : o = s.os := wk.os
  subst ho
  have nS : ∀ b u, H b = some u → b ∉ Sp := fun b u e hb => by rw [(hS b hb).free] at e; cases e
  have J : Inv X [] σ H { s with heap := hh, gens := g, drawn := d, toks := t } := by
    refine I.step (g' := g) (t' := t) (d' := d) (ch := Sp) (fun b hb => ⟨.inr (hS b hb).young, (hS b hb).loc, (hS b hb).cell, fun p hp => ?_⟩)
      (fun b ob _ _ hc q _ => wk.keep b ob hc q) (fun b ob _ _ hc q _ => ⟨ob.slots, wk.keep b ob hc q⟩) (fun _ _ _ _ n => n) (fun b ob hc q => ⟨ob, wk.keep b ob hc q⟩)
      (fun _ _ q => q) (fun _ _ _ q => q) (fun b ps q => ⟨#[], by rw [q]; simp⟩) (fun m hm => ?_) (fun b u q => ?_) wk.bare
    · rw [hpn] at hp; cases hp
    · obtain ⟨ob, es, ep, ho, r0⟩ := hm
      exact ⟨ob, es, ep, wk.keep _ ob (fun z => (hS _ z).loc rfl) ho, r0⟩
    · refine (I.hok b u q).stay (fun c v hc y => wk.keep c v ?_ y) (fun _ y => y) fun _ _ y => y
      rcases hc with y | y
      · rw [y]; exact nS b u q
      · exact nS c _ y
  refine J.pins_of fun p hp => ?_
  obtain ⟨hb, e⟩ := of_pinsAt hp
  obtain ⟨o, e', nc⟩ := wk.there _ hb
  have e2 : hh.get? p.1 = some o := e'
  have e3 : hh.get? p.1 = some p.2 := e
  rw [e2] at e3
  cases e3
  exact ⟨e2, (hS _ hb).free, (hS _ hb).loc, (hS _ hb).fs, nc⟩
end
end Dl

set_option Elab.async false
set_option linter.all false
set_option maxRecDepth 100000
set_option maxHeartbeats 2000000
namespace Dl
open PySem PySem.Spec PyProof.Rows L2 GenW
/-- what a generator expression's body has left when its consumer goes on -/
structure Bk (X : Cx) (Sp fp : List Addr) (H4 : Hp) (s4 : Shared) (H : Hp) (s0 s : Shared) : Prop where
  os : s.os = s4.os
  bare : AllBare s.gens
  un : Un (frs X.stack) fp H4 H s4.heap s.heap
  hok : HOk X.prog X.w H s.heap
  sp : ∀ b ∈ Sp, s.heap.get? b = s0.heap.get? b ∧ H b = none
/-- the consumer: what holds of its own objects behind ys (CI), where it stops (Stp), where it goes on (Go), what it wants at the end (En) -/
structure Cons where
  Sp : List Addr
  CI : List V → Shared → Prop
  Stp : List V → V → Hp → Prop
  Go : List V → V → Prop
  En : List V → Hp → Prop
def GPY (X : Cx) (fp : List Addr) (H4 : Hp) (s4 : Shared) (C : Cons) : Protocol := fun n s0 v s kap =>
  ∃ ys y H, RelV y v ∧ Bk X C.Sp fp H4 s4 H s0 s ∧ C.CI ys s ∧ (C.Stp ys y H ∨ (C.Go ys y ∧ ∀ s', Wk C.Sp s s' → C.CI (ys ++ [y]) s' → kap (.send .none) s'))
def GPR (X : Cx) (fp : List Addr) (H4 : Hp) (s4 : Shared) (C : Cons) : GenEnd := fun n s0 r s =>
  r = .ok .next ∧ ∃ ys H, Bk X C.Sp fp H4 s4 H s0 s ∧ C.CI ys s ∧ C.En ys H
/-- the turns -/
def Turns (J : It) (g : TG) (tt : TT) (te : TE) (vs : List Nat) (σw : L2.St) (C : Cons) (W : List V → Nat → Nat → Hp → Prop) : Prop :=
  ∀ ys i m H, W ys i m H → (J.stop i H ∧ C.En ys H) ∨ (J.go i H ∧ ∀ x H', J.yld i H x H' → g x σw H' fun σ2 H2 => wipe σ2 vs = σw ∧ tt σ2 H2 fun b H3 =>
    if b = true then te σ2 H3 fun y H5 => C.Stp ys y H5 ∨ (C.Go ys y ∧ ∃ m', m' < m ∧ W (ys ++ [y]) (i + 1) m' H5) else ∃ m', m' < m ∧ W ys (i + 1) m' H3)
theorem thnS {α : Type} {t : Sem α} {Q Q' : α → Shared → Prop} {M : Model} {A : Around} {E : Value → Shared → Prop} {s : Shared} (h : wpAny M A t Q (fun _ _ => False) s) (hQ : ∀ a s, Q a s → Q' a s) : wpAny M A t Q' E s :=
  wpAny_mono h hQ fun _ _ z => z.elim
section
variable {X : Cx}
theorem gen_seg {elt tg iter : Expr} {ifs : List Expr} {scope : Scope} {pos : Pos} {it : Addr} {fp : List Addr} {tn : Nat → Heap → Prop} {J : It} {g : TG} {tt : TT} {te : TE} {vs : List Nat} {σw : L2.St} {cenv : Env} {A : Around} {H4 : Hp} {s4 : Shared} {C : Cons} {W : List V → Nat → Nat → Hp → Prop}
    (hc : X.calm = true) (Tn : Turn X.prog X.w X.K tg J fp it tn) (pg : PG (gb X A s4 H4 cenv fp) tg g) (pt : PTs (gb X A s4 H4 cenv fp) ifs tt) (pe : PE (gb X A s4 H4 cenv fp) elt te) (hco : cenv.scope.isCoroutine = false)
    (hCI : ∀ ys s s', (∀ b ∈ C.Sp, s'.heap.get? b = s.heap.get? b) → C.CI ys s → C.CI ys s') (hS : ∀ H b, b ∈ C.Sp → H b = none → SpOk (gb X A s4 H4 cenv fp) H b) (hSf : ∀ b ∈ fp, b ∉ C.Sp) (turn : Turns J g tt te vs σw C W) :
    ∀ (m n : Nat) (ys : List V) (i : Nat) (s0 s : Shared) (H : Hp) (pins : List (Addr × Obj)), m < n → W ys i m H → Inv (gb X A s4 H4 cenv fp) pins σw H s → (∀ b ∈ C.Sp, ∃ o, s0.heap.get? b = some o ∧ (b, o) ∈ pins) → (∀ p ∈ pins, p.1 ∈ C.Sp) → tn i s.heap → (∀ b ∈ fp, H b = none) → C.CI ys s0 →
      Seg (model X.prog X.w) A (GPR X fp H4 s4 C) (GPY X fp H4 s4 C) n s0 (.compLoop (.GeneratorExp elt [⟨tg, iter, ifs, 0⟩] scope pos) 0 (.ref it) .none cenv)
        ((model X.prog X.w).den (.compLoop (.GeneratorExp elt [⟨tg, iter, ifs, 0⟩] scope pos) 0 (.ref it) .none cenv)) [] s := by
  have stat : ∀ {σ' : L2.St} {H' : Hp} {s' : Shared} {pins : List (Addr × Obj)}, Inv (gb X A s4 H4 cenv fp) pins σ' H' s' → (∀ p ∈ pins, p.1 ∈ C.Sp) → (∀ b ∈ fp, H' b = none) → ∀ b ∈ fp, FpOk (gb X A s4 H4 cenv fp) pins H' b := fun {σ' H' s' pins} I' hp hn b hb =>
    ⟨hn b hb, (I'.ok.exf b hb).1, I'.ok.exfs b hb, .inl hb, fun x c e => (I'.ok.exf b hb).2 x c e, fun p hpp e => hSf b hb (e ▸ hp p (by simpa using hpp))⟩
  have back : ∀ {σ' : L2.St} {H' : Hp} {s0 s' : Shared} {pins more : List (Addr × Obj)}, Inv (gb X A s4 H4 cenv fp) (pins ++ more) σ' H' s' → (∀ b ∈ C.Sp, ∃ o, s0.heap.get? b = some o ∧ (b, o) ∈ pins) → Bk X C.Sp fp H4 s4 H' s0 s' := fun {σ' H' s0 s' pins more} I' hp =>
    ⟨I'.os, I'.bare, I'.base, I'.hok, fun b hb => by
      obtain ⟨o, e, hm⟩ := hp b hb
      have q := I'.pin (b, o) (List.mem_append_right _ (List.mem_append_left _ hm))
      exact ⟨by rw [e]; exact q.1, q.2.1⟩⟩
  intro m
  induction m using Nat.strongRecOn with
  | ind m ih =>
    intro n ys i s0 s H pins hmn hW I hp hpS st nf ci
    show Seg _ A _ _ _ s0 _ ((compTurn (.GeneratorExp elt [⟨tg, iter, ifs, 0⟩] scope pos) 0 (.ref it) .none cenv).onRaise (leaving cenv)) [] s
    rw [compTurn_gen, Sem.onRaise_eq_wrap]
    refine seg_bind_wrap (wpAny_standAt ?_)
    rcases turn ys i m H hW with ⟨stop, en⟩ | ⟨go, step⟩
    · refine seg_bind_wrap ?_
      rw [over_genLoop]
      refine thnS (Tn.done (gb X A s4 H4 cenv fp) rfl rfl rfl hc i pins s _ H (fun _ _ => False) I (stat I hpS nf) st stop) fun r s1 ⟨hr, I1⟩ => ?_
      subst hr
      have B : Bk X C.Sp fp H4 s4 H s0 s1 := back (more := []) (by rw [List.append_nil]; exact I1) hp
      exact seg_end (.ok .next) ⟨rfl, ys, H, B, hCI ys s0 s1 (fun b hb => (B.sp b hb).1) ci, en⟩
    · refine seg_bind_wrap ?_
      rw [over_genLoop]
      refine thnS (Tn.item (gb X A s4 H4 cenv fp) rfl rfl rfl hc i pins s _ H (fun _ _ => False) I (stat I hpS nf) st go) fun r s1 ⟨u, hr, h1⟩ => ?_
      subst hr
      refine seg_bind_wrap ?_
      rw [over_genLoop]
      refine thnS h1 fun _ s2 ⟨x, H2, I2, r2, y2, st2, n2⟩ => ?_
      have I2' := I2.pinned (stat I2 hpS n2) (Tn.obj _ _ st2)
      refine seg_bind_wrap ?_
      rw [over_genLoop]
      refine thnS (pg.run _ s2 _ H2 x u _ I2' r2 (step x H2 y2)) fun _ s3 ⟨σ3, H3, I3, hw3, q3⟩ => ?_
      refine seg_bind_wrap ?_
      rw [over_genLoop]
      refine thnS (pt.run _ s3 σ3 H3 _ I3 q3) fun b s5 ⟨H5, I5, q5⟩ => ?_
      have fin : ∀ {s' : Shared} {H' : Hp}, Inv (gb X A s4 H4 cenv fp) (pins ++ pinsAt fp s2.heap) σ3 H' s' → Inv (gb X A s4 H4 cenv fp) pins σw H' s' ∧ tn (i + 1) s'.heap ∧ ∀ b ∈ fp, H' b = none := fun {s' H'} I' => by
        have keepF : ∀ b ∈ fp, ∀ o, s2.heap.get? b = some o → s'.heap.get? b = some o ∧ H' b = none := fun b hb o e =>
          let z := I'.pin (b, o) (List.mem_append_right _ (List.mem_append_right _ (mem_pinsAt hb e)))
          ⟨z.1, z.2.1⟩
        have hl : σw.length = σ3.length := by rw [← hw3, wipe_length]
        refine ⟨I'.unpinned.weak hl (fun j v e => by rw [← hw3] at e; exact (wipe_some e).1), Tn.keep _ _ _ st2 fun b hb o e => (keepF b hb o e).1, fun b hb => ?_⟩
        obtain ⟨o, e, _⟩ := Tn.obj _ _ st2 b hb
        exact (keepF b hb o e).2
      cases b with
      | false =>
        simp only [Bool.false_eq_true, if_false] at q5 ⊢
        obtain ⟨m', hm', hW'⟩ := q5
        obtain ⟨I6, st6, n6⟩ := fin I5
        exact seg_again rfl (ih m' hm' n ys (i + 1) s0 _ H5 pins (by omega) hW' I6 hp hpS st6 n6 ci)
      | true =>
        simp only [if_true] at q5 ⊢
        have hy : ∀ v, yieldOut cenv v = yieldValue v := fun v => by simp only [yieldOut, hco, Bool.false_eq_true, if_false]
        simp only [hy]
        rw [Sem.bind_eq_wrap', Sem.bind_eq_wrap', Sem.wrap_wrap, Sem.wrap_wrap]
        refine seg_wrap ?_
        rw [over_genLoop]
        refine thnS (pe.run _ s5 σ3 H5 _ I5 q5) fun v s6 ⟨y, H6, I6, r6, q6⟩ => ?_
        have B := back I6 hp
        have ci6 := hCI ys s0 s6 (fun b hb => (B.sp b hb).1) ci
        obtain ⟨I7, st7, n7⟩ := fin I6
        obtain ⟨n, rfl⟩ : ∃ k, n = k + 1 := ⟨n - 1, by omega⟩
        refine seg_at (seg_yield rfl rfl rfl ⟨ys, y, H6, r6, B, ci6, q6.imp id fun ⟨hgo, m', hm', hW'⟩ => ⟨hgo, fun s7 wk ci7 => ?_⟩⟩)
        refine seg_again rfl (ih m' hm' n (ys ++ [y]) (i + 1) s7 s7 H6 (pinsAt C.Sp s7.heap) (by omega) hW' (gen_wake rfl (I7.pins_of fun p z => by cases z) (fun b hb => hS H6 b hb (B.sp b hb).2) wk) (fun b hb => ?_) (fun p hpp => (of_pinsAt hpp).1)
          (Tn.keep _ _ _ st7 fun b hb o e => wk.keep b o (hSf b hb) e) n7 ci7)
        obtain ⟨o, e, _⟩ := wk.there b hb
        exact ⟨o, e, mem_pinsAt hb e⟩
end
end Dl

set_option Elab.async false
set_option linter.all false
set_option maxRecDepth 100000
set_option maxHeartbeats 2000000
namespace Dl
open PySem PySem.Spec PyProof.Rows L2 GenW
section
variable {X : Cx}
/-- it begins -/
theorem gen_seg0 {R : GenEnd} {Y : Protocol} {elt tg iter : Expr} {ifs : List Expr} {scope : Scope} {pos : Pos} {it : Addr} {fp : List Addr} {tn : Nat → Heap → Prop} {J : It} {cenv : Env} {A : Around} {n : Nat} {s0 s : Shared} (Tn : Turn X.prog X.w X.K tg J fp it tn) (st : tn 0 s.heap)
    (loop : Seg (model X.prog X.w) A R Y n s0 (.compLoop (.GeneratorExp elt [⟨tg, iter, ifs, 0⟩] scope pos) 0 (.ref it) .none cenv) ((model X.prog X.w).den (.compLoop (.GeneratorExp elt [⟨tg, iter, ifs, 0⟩] scope pos) 0 (.ref it) .none cenv)) [] s) :
    Seg (model X.prog X.w) A R Y n s0 (.compStart (.GeneratorExp elt [⟨tg, iter, ifs, 0⟩] scope pos) 0 (.ref it) .none cenv) ((model X.prog X.w).den (.compStart (.GeneratorExp elt [⟨tg, iter, ifs, 0⟩] scope pos) 0 (.ref it) .none cenv)) [] s := by
  show Seg _ A _ _ _ s0 _ ((compStart (.GeneratorExp elt [⟨tg, iter, ifs, 0⟩] scope pos) 0 (.ref it) .none cenv).onRaise (leaving cenv)) [] s
  unfold compStart
  rw [Sem.onRaise_eq_wrap]
  show Seg _ A _ _ _ s0 _ ((ask >>= _).wrap _ _ _ _) [] s
  refine seg_bind_wrap (wpAny_askSetting ?_)
  split
  · exact seg_again rfl loop
  · first
      | exact seg_bind_wrap (wpAny_rule (seg_bind_wrap (wpAny_standAt (seg_bind_wrap (Tn.self _ 0 s _ _ st (seg_again rfl loop))))))
      | (refine seg_bind_wrap (wpAny_rule ?_)
         show Seg _ A _ _ _ s0 _ ((standAt iter.pos >>= _).wrap _ _ _ _) [] s
         exact seg_bind_wrap (wpAny_standAt (seg_bind_wrap (Tn.self _ 0 s _ _ st (seg_again rfl loop)))))
/-- the generator sleeps (or has not begun), its consumer's list of what came is in CI -/
structure Slp (X : Cx) (fp : List Addr) (H4 : Hp) (s4 : Shared) (C : Cons) (Ap : Around) (a : Addr) (g n : Nat) (s : Shared) : Prop where
  gen : s.heap.IsGen a g
  lim : s.heap.NoLimit
  sp : ∀ b ∈ C.Sp, ∃ o, s.heap.get? b = some o ∧ ∀ v, o.data ≠ .cell v
  go : ∃ gs, s.gens[g]? = some gs ∧ gs.Goes (model X.prog X.w) Ap.in1 (GPR X fp H4 s4 C) (GPY X fp H4 s4 C) n (.send .none) (s.setGen g .running)
theorem Bk.toInv {pins : List (Addr × Obj)} {σ : L2.St} {Sp fp : List Addr} {H4 H : Hp} {s4 s0 s : Shared} (I : Inv X pins σ H4 s4) (hfp : ∀ b ∈ fp, FpOk X pins H4 b) (B : Bk X Sp fp H4 s4 H s0 s) : Inv X pins σ H s :=
  I.call' (ch := fp) B.os B.un B.hok B.bare fun b hb => ⟨(hfp b hb).2.2.2.1, (hfp b hb).2.1, (hfp b hb).2.2.2.2.1, (hfp b hb).2.2.2.2.2⟩
theorem bare_set {s : Shared} {g : Nat} {x : GenState} (h : AllBare s.gens) (hx : x.bare = true) : AllBare (s.setGen g x).gens := allBare_setGen h hx
theorem gen_next {pins : List (Addr × Obj)} {σ : L2.St} {fp : List Addr} {H4 : Hp} {s4 : Shared} {C : Cons} {Ap : Around} {a : Addr} {g n : Nat} {s : Shared} {Q : Option Value → Shared → Prop} {E : Value → Shared → Prop} (hh : Ap.handled = none) (hd : Ap.depth < recursionLimit)
    (I : Inv X pins σ H4 s4) (hfp : ∀ b ∈ fp, FpOk X pins H4 b) (hCI : ∀ ys s s', (∀ b ∈ C.Sp, s'.heap.get? b = s.heap.get? b) → C.CI ys s → C.CI ys s') (hCg : ∀ ys s, C.CI ys s → s.heap.IsGen a g) (hyg : ∀ b ∈ C.Sp, s4.heap.objs.size ≤ b)
    (S : Slp X fp H4 s4 C Ap a g n s)
    (hnext : ∀ ys y H v s1, RelV y v → Inv X pins σ H s1 → (∀ b ∈ C.Sp, H b = none) → C.CI ys s1 → (C.Stp ys y H ∨ (C.Go ys y ∧ ∀ s', s'.gens = s1.gens → Wk C.Sp s1 s' → C.CI (ys ++ [y]) s' → ∃ k, n = k + 1 ∧ Slp X fp H4 s4 C Ap a g k s')) → Q (some v) s1)
    (hend : ∀ ys H s1, Inv X pins σ H s1 → (∀ b ∈ C.Sp, H b = none) → C.CI ys s1 → C.En ys H → Q none s1) : wpAny (model X.prog X.w) Ap (pyNext (.ref a)) Q E s := by
  obtain ⟨gs, hgs, hgo⟩ := S.go
  have hgl : g < s.gens.size := (Array.getElem?_eq_some_iff.mp hgs).1
  refine wpAny_gsz (n := g + 1) hgl (wpAny_pyNext_genexpQ (P := fun _ s0 s1 => ∃ ys H, Bk X C.Sp fp H4 s4 H s0 s1 ∧ C.CI ys s1 ∧ C.En ys H) (Y := GPY X fp H4 s4 C) hh S.lim hd S.gen hgs hgo (fun v s1 gs' hb hv => ?_) (fun s1 hp h' hk => ?_))
  · intro hsz
    obtain ⟨ys, y, H, rv, B, ci, q⟩ := hv
    have hsz1 : g < s1.gens.size := by
      have q0 : (s1.setGen g gs').gens.size = s1.gens.size := setGen_size _ _ _
      have hsz' : g + 1 ≤ (s1.setGen g gs').gens.size := hsz
      omega
    have B1 : Bk X C.Sp fp H4 s4 H s (s1.setGen g gs') := ⟨B.os, bare_set B.bare hb, B.un, B.hok, B.sp⟩
    have ci1 : C.CI ys (s1.setGen g gs') := hCI ys s1 _ (fun _ _ => rfl) ci
    have I1 := B1.toInv I hfp
    refine hnext ys y H v _ rv I1 (fun b hb => (B.sp b hb).2) ci1 (q.imp id fun ⟨hgo', kap⟩ => ⟨hgo', ?_⟩)
    intro s' eg wk ci'
    have hb' : AllBare s'.gens := wk.bare
    have z := kap (s'.setGen g .running) ⟨wk.os, bare_set hb' rfl, wk.keep, wk.there⟩ (hCI _ s' _ (fun _ _ => rfl) ci')
    cases n with
    | zero => exact z.elim
    | succ k =>
      refine ⟨k, rfl, hCg _ _ ci', ?_, wk.there, gs', by rw [eg]; exact setGen_at hsz1, z⟩
      obtain ⟨mc, hns, hnn⟩ := I1.nolimit
      have hlt : cStatics < s4.heap.objs.size := let ⟨_, hn, _⟩ := I.nolimit; hn.lt
      exact ⟨mc, hns.at' fun o e => wk.keep _ o (fun z => absurd (Nat.lt_of_lt_of_le hlt (hyg _ z)) (Nat.lt_irrefl _)) e, hnn⟩
  · intro hsz
    obtain ⟨ys, H, B, ci, en⟩ := hp
    have eq : ∀ b ∈ C.Sp, h'.get? b = s1.heap.get? b := fun b hb => by
      obtain ⟨o, e, _⟩ := S.sp b hb
      have e1 := (B.sp b hb).1
      have e2 : s1.heap.get? b = some o := e1.trans e
      rw [e2]
      exact hk b o e2
    have B1 : Bk X C.Sp fp H4 s4 H s { s1.setGen g .finished with heap := h' } := ⟨B.os, bare_set B.bare rfl, B.un.trans (Un.kept hk), B.hok.kept hk, fun b hb => ⟨(eq b hb).trans (B.sp b hb).1, (B.sp b hb).2⟩⟩
    exact hend ys H _ (B1.toInv I hfp) (fun b hb => (B.sp b hb).2) (hCI ys s1 _ eq ci) en
end
end Dl

set_option Elab.async false
set_option linter.all false
set_option maxRecDepth 100000
set_option maxHeartbeats 2000000
namespace Dl
open PySem PySem.Spec PyProof.Rows L2 GenW
/-- what a consumer must bring -/
structure Cons.Ok (C : Cons) (s4 : Shared) (a : Addr) (gi : Nat) : Prop where
  ci : ∀ ys s s', (∀ b ∈ C.Sp, s'.heap.get? b = s.heap.get? b) → C.CI ys s → C.CI ys s'
  gen : ∀ ys s, C.CI ys s → s.heap.IsGen a gi
  young : ∀ b ∈ C.Sp, s4.heap.objs.size < b
/-- a generator expression's value, not begun; s4, H4: where its body begins -/
structure GRdy (X : Cx) (pins : List (Addr × Obj)) (σ : L2.St) (J : It) (g : TG) (tt : TT) (te : TE) (vs : List Nat) (H4 : Hp) (s4 : Shared) (fp : List Addr) (a : Addr) (gi : Nat) (s5 : Shared) : Prop where
  inv : Inv X pins σ H4 s4
  fpo : ∀ b ∈ fp, FpOk X pins H4 b
  os : s5.os = s4.os
  bare : AllBare s5.gens
  keep : ∀ b o, s4.heap.get? b = some o → s5.heap.get? b = some o
  gen : s5.heap.IsGen a gi
  at_ : s4.heap.objs.size < a
  sz : a < s5.heap.objs.size
  go : ∀ (C : Cons) (W : List V → Nat → Nat → Hp → Prop) (m : Nat), C.Ok s4 a gi → W [] 0 m H4 → Turns J g tt te vs (wipe σ vs) C W → ∀ s', Wk C.Sp s5 s' → s'.gens = s5.gens → C.CI [] s' → ∃ n, Slp X fp H4 s4 C X.A.in4 a gi n s'
section
variable {X : Cx} {pins : List (Addr × Obj)} {σ : L2.St} {H : Hp} {s : Shared}
theorem gen_rdy {elt tg iter : Expr} {ifs : List Expr} {scope : Scope} {own : List (Str × Nat)} {pos : Pos} {it a : Addr} {gi : Nat} {fp : List Addr} {tn : Nat → Heap → Prop} {J : It} {g : TG} {tt : TT} {te : TE} {code : Value} {H4 : Hp} {s4 s5 : Shared} {m : Str → Option Value}
    (hc : X.calm = true) (hN : X.N.Nodup) (hh : X.A.handled = none) (ok : BlkOk X.N X.env.scope scope own) (hcell : ∀ y ∈ scope.names, y.2 ≠ .cell) (hco : scope.isCoroutine = false) (Tn : Turn X.prog X.w X.K tg J fp it tn)
    (pg : PG (gb X X.A.in4.in1 s4 H4 (genEnv scope (cloFrom X.env.cells scope.names []) s4.heap.objs.size code builtinsNs X.env) fp) tg g) (pt : PTs (gb X X.A.in4.in1 s4 H4 (genEnv scope (cloFrom X.env.cells scope.names []) s4.heap.objs.size code builtinsNs X.env) fp) ifs tt)
    (pe : PE (gb X X.A.in4.in1 s4 H4 (genEnv scope (cloFrom X.env.cells scope.names []) s4.heap.objs.size code builtinsNs X.env) fp) elt te)
    (I : Inv X pins σ H4 s4) (st : tn 0 s4.heap) (hf : ∀ b ∈ fp, FpOk X pins H4 b) (hos : s5.os = s4.os) (hb : AllBare s5.gens) (hk : ∀ b o, s4.heap.get? b = some o → s5.heap.get? b = some o) (hn : s5.heap.Ns s4.heap.objs.size m)
    (hgen : s5.heap.IsGen a gi) (ha : s4.heap.objs.size < a) (hsz : a < s5.heap.objs.size) (hgs : s5.gens[gi]? = some (.fresh (.compStart (.GeneratorExp elt [⟨tg, iter, ifs, 0⟩] scope pos) 0 (.ref it) .none (genEnv scope (cloFrom X.env.cells scope.names []) s4.heap.objs.size code builtinsNs X.env)))) :
    GRdy X pins σ J g tt te (own.map (·.2)) H4 s4 fp a gi s5 := by
  refine ⟨I, hf, hos, hb, hk, hgen, ha, hsz, fun C W m0 cok hW turn s' wk eg ci => ?_⟩
  have hlt : ∀ b ∈ fp, b < s4.heap.objs.size := fun b hb => by
    obtain ⟨o, e, _⟩ := Tn.obj _ _ st b hb
    exact Heap.lt_size e
  have clo : ∀ {y c}, (cloFrom X.env.cells scope.names []).lookup y = some c → c < s4.heap.objs.size := fun {y c} e => by
    rcases cloFrom_mem (PySem.mem_of_lookup e) with z | ⟨h1, rfl⟩
    · cases z
    · obtain ⟨c0, h2⟩ : ∃ c, X.env.cells.lookup y = some c := by
        rcases ok.free _ h1 rfl with z | z
        · exact I.ok.has _ (.inl z)
        · exact I.ok.has _ (.inr z)
      rw [h2]
      obtain ⟨v, z⟩ := I.cell _ _ h2
      exact z.lt
  have I0 : ∀ {s5 : Shared}, s5.os = s4.os → AllBare s5.gens → (∀ b o, s4.heap.get? b = some o → s5.heap.get? b = some o) → s5.heap.Ns s4.heap.objs.size m →
      Inv (gb X X.A.in4.in1 s4 H4 (genEnv scope (cloFrom X.env.cells scope.names []) s4.heap.objs.size code builtinsNs X.env) fp) [] (wipe σ (own.map (·.2))) H4 s5 := fun {s5} h1 h2 h3 h4 => by
    obtain ⟨hp, gg, dd, tk, oo⟩ := s5
    have e : oo = s4.os := h1
    subst e
    have q := gen_begin (A := X.A.in4.in1) (code := code) (t' := tk) I ok hN (fun b hb => ⟨hf b hb, hlt b hb⟩) hcell (by exact I.ok.frames) hh h4 h3 h2
    exact ⟨q.ok, q.os, q.bare, q.base, q.loc, q.cell, q.free, q.freeC, q.pin, q.hok, q.len⟩
  have hS : ∀ H b, b ∈ C.Sp → H b = none → SpOk (gb X X.A.in4.in1 s4 H4 (genEnv scope (cloFrom X.env.cells scope.names []) s4.heap.objs.size code builtinsNs X.env) fp) H b := fun H b hb hn =>
    ⟨Nat.le_of_lt (cok.young b hb), Nat.ne_of_gt (cok.young b hb), fun x c e z => absurd (Nat.lt_of_lt_of_le (clo e) (Nat.le_of_lt (cok.young b hb))) (by rw [z]; exact Nat.lt_irrefl _), fun z => by
      obtain ⟨_, o, ho, _⟩ := I.stack.mem z
      exact absurd (Nat.lt_trans (Heap.lt_size ho) (cok.young b hb)) (Nat.lt_irrefl _), hn⟩
  have hSf : ∀ b ∈ fp, b ∉ C.Sp := fun b hb z => absurd (Nat.lt_trans (hlt b hb) (cok.young b z)) (Nat.lt_irrefl _)
  have hH : ∀ b ∈ C.Sp, H4 b = none := fun b hb => I.hok.fresh (Nat.le_of_lt (cok.young b hb))
  have I5 := I0 hos hb hk hn
  have lim5 : s5.heap.NoLimit := I5.nolimit
  have lim : s'.heap.NoLimit := by
    obtain ⟨mc, hns, hnn⟩ := lim5
    have hl : cStatics < s4.heap.objs.size := let ⟨_, hn, _⟩ := I.nolimit; hn.lt
    exact ⟨mc, hns.at' fun o e => wk.keep _ o (fun z => absurd (Nat.lt_trans hl (cok.young _ z)) (Nat.lt_irrefl _)) e, hnn⟩
  refine ⟨m0 + 1, cok.gen _ _ ci, lim, wk.there, _, by rw [eg]; exact hgs, ?_⟩
  refine ⟨rfl, ?_⟩
  have wk' : Wk C.Sp s5 (s'.setGen gi .running) := ⟨wk.os, bare_set wk.bare rfl, wk.keep, wk.there⟩
  have I6 := gen_wake rfl I5 (fun b hb => hS H4 b hb (hH b hb)) wk'
  have st6 : tn 0 (s'.setGen gi .running).heap := Tn.keep _ _ _ st fun b hb o e => wk.keep b o (hSf b hb) (hk b o e)
  refine gen_seg0 Tn st6 (gen_seg hc Tn pg pt pe hco cok.ci hS hSf turn m0 (m0 + 1) [] 0 _ _ H4 _ (Nat.lt_succ_self _) hW I6 (fun b hb => ?_) (fun p hp => (of_pinsAt hp).1) st6 (fun b hb => (hf b hb).1) (cok.ci _ s' _ (fun _ _ => rfl) ci))
  obtain ⟨o, e, _⟩ := wk.there b hb
  exact ⟨o, e, mem_pinsAt hb e⟩
end
end Dl

set_option Elab.async false
set_option linter.all false
set_option maxRecDepth 100000
set_option maxHeartbeats 2000000
namespace Dl
open PySem PySem.Spec PyProof.Rows L2 GenW
section
variable {X : Cx} {pins : List (Addr × Obj)} {σ : L2.St} {H : Hp} {s : Shared}
/-- a generator expression is made -/
theorem gen_make {c P : Addr} {elt tg iter : Expr} {ifs : List Expr} {scope : Scope} {own : List (Str × Nat)} {gpos : Pos} {wi : TI} {g : TG} {tt : TT} {te : TE} {R : It → Hp → Prop} {Q' : Value → Shared → Prop}
    (hc : X.calm = true) (hN : X.N.Nodup) (hd : X.A.depth < recursionLimit) (TB : GxR.TabB X.base X.mg c P) (hcode : X.env.code = .ref c) (ok : BlkOk X.N X.env.scope scope own) (hcell : ∀ y ∈ scope.names, y.2 ≠ .cell) (hco : scope.isCoroutine = false)
    (hdot : scope.names.lookup (".0" : Str) = some NameKind.local) (hi : PI X tg iter wi)
    (pg : ∀ (s : Shared) (H : Hp) (C : Addr) (code : Value) (fp : List Addr), PG (gb X X.A.in4.in1 s H (genEnv scope (cloFrom X.env.cells scope.names []) C code builtinsNs X.env) fp) tg g)
    (pt : ∀ (s : Shared) (H : Hp) (C : Addr) (code : Value) (fp : List Addr), PTs (gb X X.A.in4.in1 s H (genEnv scope (cloFrom X.env.cells scope.names []) C code builtinsNs X.env) fp) ifs tt)
    (pe : ∀ (s : Shared) (H : Hp) (C : Addr) (code : Value) (fp : List Addr), PE (gb X X.A.in4.in1 s H (genEnv scope (cloFrom X.env.cells scope.names []) C code builtinsNs X.env) fp) elt te)
    (hs : ∀ v, genFold iter X.env v = pure v) (I : Inv X pins σ H s) (h : wi σ H fun J H1 => GxR.TabG H1 P ∧ ∀ H2, GxR.Tabbed P H1 H2 → R J H2)
    (hQ : ∀ J H4 s4 fp a gi s5, R J H4 → GRdy X pins σ J g tt te (own.map (·.2)) H4 s4 fp a gi s5 → Q' (.ref a) s5) :
    wpAny (model X.prog X.w) X.A (eval (.GeneratorExp elt [⟨tg, iter, ifs, 0⟩] scope gpos) X.env) Q' X.xe s := by
  have hfree : ∀ y ∈ scope.names, y.2 = .free → ∃ c, X.env.cells.lookup y.1 = some c := fun y hy e => (ok.free y hy e).elim (fun z => I.ok.has _ (.inl z)) fun z => I.ok.has _ (.inr z)
  refine wpAny_GeneratorExp_make hco (closure_ok hfree) hcell hdot ok.kind hd ?_ hs
  refine thn (hi.run pins s σ H _ I h) fun xv s1 hx => thn hx fun itv s2 h2 => ?_
  obtain ⟨it, fp, tn, J, H1, rfl, I1, Tn, st, hf, ⟨ps, hP, htr⟩, hR⟩ := h2
  refine ⟨I1.nolimit, ?_⟩
  have hPs : s2.heap.get? P = some { cls := .none, data := .fields ps } := I1.hok P _ hP
  have cd : PySem.W.CodeHd s2.heap c P := TB.code.keeps fun b u e => I1.bk b u e
  -- behind the code's making: the table may have grown
  have rest : ∀ (cv : Value) (h3 : Heap) (tk : Nat) (more : Array Value), Heap.ExtBut P s2.heap h3 → s2.heap.objs.size ≤ h3.objs.size → h3.get? P = some { cls := .none, data := .fields (ps ++ more) } → TriplesOk (ps ++ more).toList →
      wpAny (model X.prog X.w) X.A (builtinsFor X.env.globals X.env.builtins) (fun bi s4 => ∀ h', h'.Ns s4.heap.objs.size (fun y => if y = ".0" then some (.ref it) else none) → Heap.SameBut s4.heap.objs.size (s4.heap.push { cls := .type "frame", data := .dict #[] }) h' →
        Q' (.ref h'.objs.size) { s4 with gens := s4.gens.push (.fresh (.compStart (.GeneratorExp elt [⟨tg, iter, ifs, 0⟩] scope gpos) 0 (.ref it) .none (genEnv scope (cloFrom X.env.cells scope.names []) s4.heap.objs.size cv bi X.env))), toks := s4.toks + 1 + 1 + 1, heap := h'.push { cls := .type "generator", data := .fields #[.int s4.gens.size 0, .str "<genexpr>" (s4.toks + 1), .str (X.env.qual ++ "<genexpr>") (s4.toks + 1 + 1)] } }) X.xe { s2 with heap := h3, toks := tk } := by
    intro cv h3 tk more hx hge hP3 htr3
    have I4 : Inv X pins σ (upd H1 P (.tbl (ps ++ more))) { s2 with heap := h3, toks := tk } := GxR.inv_tab (g' := s2.gens) (d' := s2.drawn) I1 hP (fun b o hb e => hx b o hb e) hP3 I1.bare
    have hTab : GxR.Tabbed P H1 (upd H1 P (.tbl (ps ++ more))) := ⟨⟨ps ++ more, upd_same, htr3⟩, fun b hb => upd_ne hb⟩
    obtain ⟨bm, ob, e1, e2, e3, e4, e5, e6, e7, e8⟩ := TB.bm
    refine wpAny_builtinsFor (m := X.mg) (by rw [I4.ok.glob]; exact I4.mod.glob.keeps I4.bk) e1 e2 (I4.bk _ _ e5) e6 e7 e8 ?_
    intro h' hn' hs'
    have nP : ∀ b ∈ fp, b ≠ P := fun b hb z => by
      have q := (hf b hb).1
      rw [z, hP] at q
      cases q
    have hf4 : ∀ b ∈ fp, FpOk X pins (upd H1 P (.tbl (ps ++ more))) b := fun b hb => ⟨by rw [upd_ne (nP b hb)]; exact (hf b hb).1, (hf b hb).2⟩
    have st4 : tn 0 h3 := Tn.keep _ _ _ st fun b hb o e => hx b o (nP b hb) e
    have hsz : h'.objs.size = h3.objs.size + 1 := by rw [hs'.1, Heap.size_push]
    have kp : ∀ b o, h3.get? b = some o → h'.get? b = some o := fun b o e => hs'.extBut b o (Nat.ne_of_lt (Heap.lt_size e)) (Heap.get?_push_of_some _ e)
    refine hQ J _ { s2 with heap := h3, toks := tk } fp h'.objs.size s2.gens.size _ (hR _ hTab) ?_
    refine gen_rdy (code := cv) (m := fun y => if y = ".0" then some (.ref it) else none) hc hN (I1.ok.hd hc) ok hcell hco Tn (pg _ _ _ _ _) (pt _ _ _ _ _) (pe _ _ _ _ _) I4 st4 hf4 rfl (I1.bare.push rfl) (fun b o e => Heap.get?_push_of_some _ (kp b o e)) (hn'.push _) ⟨_, _, _, Heap.get?_push_size _ rfl, rfl, rfl, rfl⟩ ?_ ?_ (Array.getElem?_push_size ..)
    · show h3.objs.size < h'.objs.size
      omega
    · show h'.objs.size < (h'.push _).objs.size
      rw [Heap.size_push]
      exact Nat.lt_succ_self _
  cases hcm : codeAmong gpos ps.toList with
  | none =>
    refine wpAny_genexprCodeX hcode (cd.code hPs htr) (cd.tab hPs) hcm fun c' h' tk hx hge hlt hco' _ htab' _ => ?_
    obtain ⟨_, _, _, _, _, _, _, _, _, _, _, _, _, _, _, _, _, _, _, ht, _⟩ := hco'
    exact rest _ h' tk _ hx (Nat.le_trans hge (Nat.le_of_lt hlt)) htab'.2 ht
  | some cv =>
    refine wpAny_genexprCode_hit hcode (cd.code hPs htr) hcm ?_
    exact rest cv s2.heap s2.toks #[] (Heap.ExtBut.refl _ _) (Nat.le_refl _) (by rw [Array.append_empty]; exact hPs) (by rw [Array.append_empty]; exact htr)
end
end Dl

set_option Elab.async false
set_option linter.all false
set_option maxRecDepth 100000
set_option maxHeartbeats 2000000
namespace Dl
open PySem PySem.Spec PyProof.Rows L2 GenW
theorem gen_obj {h : Heap} {a : Addr} {g : Nat} (x : h.IsGen a g) : ∃ o, h.get? a = some o ∧ ∀ v, o.data ≠ .cell v := by
  obtain ⟨o, nm, qn, ho, hc, hd, _⟩ := x
  exact ⟨o, ho, fun v z => by rw [hd] at z; cases z⟩
theorem gen_eq {h h' : Heap} {a : Addr} {g : Nat} (x : h.IsGen a g) (e : h'.get? a = h.get? a) : h'.IsGen a g := by
  obtain ⟨o, nm, qn, ho, r⟩ := x
  exact ⟨o, nm, qn, e.trans ho, r⟩
/-- all(..): stops at the first False -/
def consAll (a : Addr) (gi : Nat) (Q : VK) : Cons := { Sp := [a], CI := fun _ s => s.heap.IsGen a gi, Stp := fun _ y H => y = .bl false ∧ Q (.bl false) H, Go := fun _ y => y = .bl true, En := fun _ H => Q (.bl true) H }
def consAny (a : Addr) (gi : Nat) (Q : VK) : Cons := { Sp := [a], CI := fun _ s => s.heap.IsGen a gi, Stp := fun _ y H => y = .bl true ∧ Q (.bl true) H, Go := fun _ y => y = .bl false, En := fun _ H => Q (.bl false) H }
theorem wk_same {a : Addr} {gi : Nat} {s : Shared} (hb : AllBare s.gens) (x : s.heap.IsGen a gi) : Wk [a] s s := ⟨rfl, hb, fun _ _ _ e => e, fun b h => by rw [List.mem_singleton.mp h]; exact gen_obj x⟩
section
variable {X : Cx} {pins : List (Addr × Obj)} {σ : L2.St}
theorem all_loop {Q : VK} {H4 : Hp} {s4 : Shared} {fp : List Addr} {a : Addr} {gi : Nat} {R : Result → Shared → Prop} (hh : X.A.handled = none) (hd : X.A.depth < recursionLimit) (I : Inv X pins σ H4 s4) (hfp : ∀ b ∈ fp, FpOk X pins H4 b) (ha : s4.heap.objs.size < a)
    (hR : ∀ v s', EP X pins σ Q v s' → R (.ok (.ret v)) s') : ∀ (n : Nat) (s : Shared), Slp X fp H4 s4 (consAll a gi Q) X.A.in4 a gi n s → codeAny (model X.prog X.w) X.A (.builtin "all.loop" ⟨[.ref a], []⟩) R s := by
  intro n
  induction n with
  | zero =>
    intro s S
    refine codeAny_builtin F.entry_all_loop ?_
    rw [Around.under_plainId F.plain_all_loop _]
    show wpAny _ X.A.in1 (pyNext (.ref a) >>= _) _ _ s
    refine wpAny_bind (wpAny_of_in1 (wpAny_of_in1 (wpAny_of_in1 (gen_next (Ap := X.A.in4) hh hd I hfp (fun _ _ _ e x => gen_eq x (e a (by simp [consAll]))) (fun _ _ x => x) (fun b h => by rw [List.mem_singleton.mp h]; exact Nat.le_of_lt ha) S (fun ys y H v s1 rv I1 hn ci q => ?_) fun ys H s1 I1 hn ci en => ?_))))
    · rcases q with ⟨rfl, hq⟩ | ⟨_, hk⟩
      · obtain rfl : v = Value.bool false := rv
        refine wpAny_bind (wpAny_holding (wpAny_truthy_bool ?_))
        refine wpAny_bind (wpAny_letGo ?_)
        simp only [Bool.false_eq_true, if_false]
        exact wpAny_bind (wpAny_rule (wpAny_pure (hR _ _ ⟨.bl false, H, I1, rfl, hq⟩)))
      · obtain ⟨k, e, _⟩ := hk s1 rfl (wk_same I1.bare ci) ci
        cases e
    · exact wpAny_bind (wpAny_rule (wpAny_pure (hR _ _ ⟨.bl true, H, I1, rfl, en⟩)))
  | succ n ih =>
    intro s S
    refine codeAny_builtin F.entry_all_loop ?_
    rw [Around.under_plainId F.plain_all_loop _]
    show wpAny _ X.A.in1 (pyNext (.ref a) >>= _) _ _ s
    refine wpAny_bind (wpAny_of_in1 (wpAny_of_in1 (wpAny_of_in1 (gen_next (Ap := X.A.in4) hh hd I hfp (fun _ _ _ e x => gen_eq x (e a (by simp [consAll]))) (fun _ _ x => x) (fun b h => by rw [List.mem_singleton.mp h]; exact Nat.le_of_lt ha) S (fun ys y H v s1 rv I1 hn ci q => ?_) fun ys H s1 I1 hn ci en => ?_))))
    · rcases q with ⟨rfl, hq⟩ | ⟨hgo, hk⟩
      · obtain rfl : v = Value.bool false := rv
        refine wpAny_bind (wpAny_holding (wpAny_truthy_bool ?_))
        refine wpAny_bind (wpAny_letGo ?_)
        simp only [Bool.false_eq_true, if_false]
        exact wpAny_bind (wpAny_rule (wpAny_pure (hR _ _ ⟨.bl false, H, I1, rfl, hq⟩)))
      · have e : y = .bl true := hgo
        subst e
        obtain rfl : v = Value.bool true := rv
        obtain ⟨k, e, S'⟩ := hk s1 rfl (wk_same I1.bare ci) ci
        cases e
        refine wpAny_bind (wpAny_holding (wpAny_truthy_bool ?_))
        refine wpAny_bind (wpAny_letGo ?_)
        simp only [if_true]
        exact wpAny_pure ⟨plainId_quiet F.plain_all_loop _, ih s1 S'⟩
    · exact wpAny_bind (wpAny_rule (wpAny_pure (hR _ _ ⟨.bl true, H, I1, rfl, en⟩)))
theorem any_loop {Q : VK} {H4 : Hp} {s4 : Shared} {fp : List Addr} {a : Addr} {gi : Nat} {R : Result → Shared → Prop} (hh : X.A.handled = none) (hd : X.A.depth < recursionLimit) (I : Inv X pins σ H4 s4) (hfp : ∀ b ∈ fp, FpOk X pins H4 b) (ha : s4.heap.objs.size < a)
    (hR : ∀ v s', EP X pins σ Q v s' → R (.ok (.ret v)) s') : ∀ (n : Nat) (s : Shared), Slp X fp H4 s4 (consAny a gi Q) X.A.in4 a gi n s → codeAny (model X.prog X.w) X.A (.builtin "any.loop" ⟨[.ref a], []⟩) R s := by
  intro n
  induction n with
  | zero =>
    intro s S
    refine codeAny_builtin F.entry_any_loop ?_
    rw [Around.under_plainId F.plain_any_loop _]
    show wpAny _ X.A.in1 (pyNext (.ref a) >>= _) _ _ s
    refine wpAny_bind (wpAny_of_in1 (wpAny_of_in1 (wpAny_of_in1 (gen_next (Ap := X.A.in4) hh hd I hfp (fun _ _ _ e x => gen_eq x (e a (by simp [consAny]))) (fun _ _ x => x) (fun b h => by rw [List.mem_singleton.mp h]; exact Nat.le_of_lt ha) S (fun ys y H v s1 rv I1 hn ci q => ?_) fun ys H s1 I1 hn ci en => ?_))))
    · rcases q with ⟨rfl, hq⟩ | ⟨_, hk⟩
      · obtain rfl : v = Value.bool true := rv
        refine wpAny_bind (wpAny_holding (wpAny_truthy_bool ?_))
        refine wpAny_bind (wpAny_letGo ?_)
        simp only [if_true]
        exact wpAny_bind (wpAny_rule (wpAny_pure (hR _ _ ⟨.bl true, H, I1, rfl, hq⟩)))
      · obtain ⟨k, e, _⟩ := hk s1 rfl (wk_same I1.bare ci) ci
        cases e
    · exact wpAny_bind (wpAny_rule (wpAny_pure (hR _ _ ⟨.bl false, H, I1, rfl, en⟩)))
  | succ n ih =>
    intro s S
    refine codeAny_builtin F.entry_any_loop ?_
    rw [Around.under_plainId F.plain_any_loop _]
    show wpAny _ X.A.in1 (pyNext (.ref a) >>= _) _ _ s
    refine wpAny_bind (wpAny_of_in1 (wpAny_of_in1 (wpAny_of_in1 (gen_next (Ap := X.A.in4) hh hd I hfp (fun _ _ _ e x => gen_eq x (e a (by simp [consAny]))) (fun _ _ x => x) (fun b h => by rw [List.mem_singleton.mp h]; exact Nat.le_of_lt ha) S (fun ys y H v s1 rv I1 hn ci q => ?_) fun ys H s1 I1 hn ci en => ?_))))
    · rcases q with ⟨rfl, hq⟩ | ⟨hgo, hk⟩
      · obtain rfl : v = Value.bool true := rv
        refine wpAny_bind (wpAny_holding (wpAny_truthy_bool ?_))
        refine wpAny_bind (wpAny_letGo ?_)
        simp only [if_true]
        exact wpAny_bind (wpAny_rule (wpAny_pure (hR _ _ ⟨.bl true, H, I1, rfl, hq⟩)))
      · have e : y = .bl false := hgo
        subst e
        obtain rfl : v = Value.bool false := rv
        obtain ⟨k, e, S'⟩ := hk s1 rfl (wk_same I1.bare ci) ci
        cases e
        refine wpAny_bind (wpAny_holding (wpAny_truthy_bool ?_))
        refine wpAny_bind (wpAny_letGo ?_)
        simp only [Bool.false_eq_true, if_false]
        exact wpAny_pure ⟨plainId_quiet F.plain_any_loop _, ih s1 S'⟩
    · exact wpAny_bind (wpAny_rule (wpAny_pure (hR _ _ ⟨.bl false, H, I1, rfl, en⟩)))
/-- all(g), any(g) of a generator that has not begun -/
theorem call_all_gen {J : It} {g : TG} {tt : TT} {te : TE} {vs : List Nat} {Q : VK} {H4 : Hp} {s4 s5 : Shared} {fp : List Addr} {a : Addr} {gi m : Nat} {W : List V → Nat → Nat → Hp → Prop} (hh : X.A.handled = none) (hd : X.A.depth < recursionLimit) (r : GRdy X pins σ J g tt te vs H4 s4 fp a gi s5)
    (hW : W [] 0 m H4) (turn : Turns J g tt te vs (wipe σ vs) (consAll a gi Q) W) : wpAny (model X.prog X.w) X.A (call (.builtin "all") [.ref a]) (EP X pins σ Q) X.xe s5 := by
  refine call_function_tree F.kind_all F.plain_all F.entry_all (F.args_all1 _) ?_
  unfold Builtin.«all»
  refine wpAny_bind (m := oneArg "all" _) (wpAny_pure ?_)
  refine wpAny_bind (wpAny_pyIter_gen r.gen ?_)
  obtain ⟨n, S⟩ := r.go (consAll a gi Q) W m ⟨fun _ _ _ e x => gen_eq x (e a (by simp [consAll])), fun _ _ x => x, fun b h => by rw [List.mem_singleton.mp h]; exact r.at_⟩ hW turn s5 (wk_same r.bare r.gen) rfl r.gen
  exact wpAny_pure ⟨plainId_quiet F.plain_all_loop _, all_loop hh hd r.inv r.fpo r.at_ (fun v s' h => h) n s5 S⟩
theorem call_any_gen {J : It} {g : TG} {tt : TT} {te : TE} {vs : List Nat} {Q : VK} {H4 : Hp} {s4 s5 : Shared} {fp : List Addr} {a : Addr} {gi m : Nat} {W : List V → Nat → Nat → Hp → Prop} (hh : X.A.handled = none) (hd : X.A.depth < recursionLimit) (r : GRdy X pins σ J g tt te vs H4 s4 fp a gi s5)
    (hW : W [] 0 m H4) (turn : Turns J g tt te vs (wipe σ vs) (consAny a gi Q) W) : wpAny (model X.prog X.w) X.A (call (.builtin "any") [.ref a]) (EP X pins σ Q) X.xe s5 := by
  refine call_function_tree F.kind_any F.plain_any F.entry_any (F.args_any1 _) ?_
  unfold Builtin.«any»
  refine wpAny_bind (m := oneArg "any" _) (wpAny_pure ?_)
  refine wpAny_bind (wpAny_pyIter_gen r.gen ?_)
  obtain ⟨n, S⟩ := r.go (consAny a gi Q) W m ⟨fun _ _ _ e x => gen_eq x (e a (by simp [consAny])), fun _ _ x => x, fun b h => by rw [List.mem_singleton.mp h]; exact r.at_⟩ hW turn s5 (wk_same r.bare r.gen) rfl r.gen
  exact wpAny_pure ⟨plainId_quiet F.plain_any_loop _, any_loop hh hd r.inv r.fpo r.at_ (fun v s' h => h) n s5 S⟩
end
end Dl

set_option Elab.async false
set_option linter.all false
set_option maxRecDepth 100000
set_option maxHeartbeats 2000000
namespace Dl
open PySem PySem.Spec PyProof.Rows L2 GenW
open PySem.AutoSeq1 (wpAny_loadPart')
/-- tuple(..): all is laid into the list at S -/
def consTup (a : Addr) (gi : Nat) (S : Addr) (En : List V → Hp → Prop) : Cons :=
  { Sp := [a, S], CI := fun ys s => s.heap.IsGen a gi ∧ ys.length ≤ sizeLine ∧ ∃ (acc : Array Value) (c : Nat), s.heap.get? S = some (lstObj acc c) ∧ Vals ys acc.toList, Stp := fun _ _ _ => False, Go := fun ys _ => ys.length < sizeLine, En := En }
theorem consTup_ok {s4 : Shared} {a : Addr} {gi : Nat} {S : Addr} {En : List V → Hp → Prop} (ha : s4.heap.objs.size < a) (hS : s4.heap.objs.size < S) : (consTup a gi S En).Ok s4 a gi where
  ci := fun ys s s' e ⟨x, hl, acc, c, h, r⟩ => ⟨gen_eq x (e a (by simp [consTup])), hl, acc, c, (e S (by simp [consTup])).trans h, r⟩
  gen := fun _ _ h => h.1
  young := fun b hb => by
    rcases List.mem_cons.mp hb with e | hb
    · rw [e]; exact ha
    · rw [List.mem_singleton.mp hb]; exact hS
section
variable {X : Cx} {pins : List (Addr × Obj)} {σ : L2.St}
theorem ext_loop {En : List V → Hp → Prop} {H4 : Hp} {s4 : Shared} {fp : List Addr} {a S : Addr} {gi : Nat} {R : Result → Shared → Prop} {res : Value} (hh : X.A.handled = none) (hd : X.A.depth < recursionLimit) (I : Inv X pins σ H4 s4) (hfp : ∀ b ∈ fp, FpOk X pins H4 b) (ha : s4.heap.objs.size < a) (hS : s4.heap.objs.size < S) (hSa : S ≠ a)
    (hend : ∀ s' acc c H ys, s'.heap.get? S = some (lstObj acc c) → Vals ys acc.toList → ys.length ≤ sizeLine → Inv X pins σ H s' → H S = none → En ys H → R (.ok (.ret res)) s') :
    ∀ (n : Nat) (s : Shared), Slp X fp H4 s4 (consTup a gi S En) X.A.in4 a gi n s → codeAny (model X.prog X.w) X.A.in1.in1 (.builtin "list.extend.loop" ⟨[.ref S, .ref a, res], []⟩) R s := by
  intro n
  induction n using Nat.strongRecOn with
  | ind n ih =>
    intro s Sl
    have ok := consTup_ok (gi := gi) (En := En) ha hS
    refine codeAny_builtin F.entry_extend_loop ?_
    rw [Around.under_plainId F.plain_extend_loop _]
    show wpAny _ X.A.in1.in1.in1 (pyNext (.ref a) >>= _) _ _ s
    refine wpAny_bind (wpAny_of_in1 (gen_next (Ap := X.A.in4) hh hd I hfp ok.ci ok.gen (fun b h => Nat.le_of_lt (ok.young b h)) Sl (fun ys y H v s1 rv I1 hn ci q => ?_) fun ys H s1 I1 hn ci en => ?_))
    · rcases q with q | ⟨hgo, hk⟩
      · exact q.elim
      · obtain ⟨xg, hl, acc, c, hS1, r⟩ := ci
        have hgo' : ys.length < sizeLine := hgo
        have hz : acc.size < sizeLine := by rw [← Array.length_toList, ← r.length]; exact hgo'
        show wpAny _ X.A.in1.in1.in1 (updateSeq S (·.push v) >>= _) _ _ _
        refine wpAny_bind ?_
        refine wpAny_updateSeq hS1 rfl (wpAny_pure ⟨plainId_quiet F.plain_extend_loop _, ?_⟩) (Nat.le_of_lt hz) (by show (acc.push v).size ≤ sizeLine + 1; rw [Array.size_push]; omega)
        have oth : ∀ b o, b ≠ S → s1.heap.get? b = some o → (s1.heap.update S (Obj.mapSeq (·.push v))).get? b = some o := fun b o hb e => (Heap.get?_update_other _ _ (Ne.symm hb)).trans e
        have hS2 := Heap.get?_update_self (Obj.mapSeq (·.push v)) hS1 rfl
        obtain ⟨oa, ea, na⟩ := gen_obj xg
        obtain ⟨k, e, Sl'⟩ := hk { s1 with heap := s1.heap.update S (Obj.mapSeq (·.push v)) } rfl ⟨rfl, I1.bare, fun b o hb e => oth b o (fun z => hb (by rw [z]; simp [consTup])) e, fun b hb => by
            rcases List.mem_cons.mp hb with z | z
            · rw [z]; exact ⟨oa, oth _ _ (Ne.symm hSa) ea, na⟩
            · rw [List.mem_singleton.mp z]; exact ⟨_, hS2, fun v z => by cases z⟩⟩
          ⟨by obtain ⟨o, nm, qn, ho, r⟩ := xg; exact ⟨o, nm, qn, oth _ _ (Ne.symm hSa) ho, r⟩, by rw [List.length_append]; exact hgo', acc.push v, _, hS2, by rw [Array.toList_push]; exact r.append (.cons rv .nil)⟩
        exact ih k (by omega) _ Sl'
    · obtain ⟨xg, hl, acc, c, hS1, r⟩ := ci
      exact wpAny_pure (hend s1 acc c H ys hS1 r hl I1 (hn S (by simp [consTup])) en)
/-- list(g)'s items -/
theorem collect_gen {J : It} {g : TG} {tt : TT} {te : TE} {vs : List Nat} {En : List V → Hp → Prop} {H4 : Hp} {s4 s5 : Shared} {fp : List Addr} {a : Addr} {gi m : Nat} {W : List V → Nat → Nat → Hp → Prop} {Q : List Value → Shared → Prop} {E : Value → Shared → Prop} (hh : X.A.handled = none) (hd : X.A.depth < recursionLimit) (r : GRdy X pins σ J g tt te vs H4 s4 fp a gi s5)
    (hW : W [] 0 m H4) (turn : ∀ S, Turns J g tt te vs (wipe σ vs) (consTup a gi S En) W) (hQ : ∀ s' us H ys, Vals ys us → ys.length ≤ sizeLine → Inv X pins σ H s' → En ys H → Q us s') : wpAny (model X.prog X.w) X.A.in1.in1 (collect (.ref a)) Q E s5 := by
  have hne : s5.heap.objs.size ≠ a := Nat.ne_of_gt r.sz
  have hS4 : s4.heap.objs.size < s5.heap.objs.size := Nat.lt_trans r.at_ r.sz
  unfold collect
  refine wpAny_bind (wpAny_runValue (codeAny_builtin F.entry_proto_collect ?_))
  rw [Around.under_plainId F.plain_proto_collect _]
  show wpAny _ X.A.in1.in1.in1 (newList [] >>= fun l => again (.builtin "list.__iadd__" ⟨[l, .ref a], []⟩)) _ _ s5
  refine wpAny_bind (wpAny_newObj_type ?_)
  refine wpAny_pure ⟨plainId_quiet F.plain_list_iadd _, codeAny_builtin F.entry_list_iadd ?_⟩
  rw [Around.under_plainId F.plain_list_iadd _]
  generalize hl0 : ({ cls := .type "list", data := .seq ([] : List Value).toArray } : Obj) = l0
  have k1 : ∀ b o, s5.heap.get? b = some o → (s5.heap.push l0).get? b = some o := fun b o e => Heap.get?_push_of_some _ e
  have g1 : (s5.heap.push l0).IsGen a gi := r.gen.keeps k1
  show wpAny _ X.A.in1.in1.in1 (Builtin.List.listExtendWith (.ref s5.heap.objs.size) (.ref a) (.ref s5.heap.objs.size)) _ _ _
  unfold Builtin.List.listExtendWith
  refine wpAny_bind (wpAny_typeOf (Heap.IsGen.typeIs (s := { s5 with heap := _ }) g1) ?_)
  have n1 : Builtin.List.listSameRef (.ref s5.heap.objs.size) (.ref a) = false := by simp [Builtin.List.listSameRef, hne]
  have n2 : (Value.type "generator" == Value.type "list" || Value.type "generator" == Value.type "tuple") = false := by decide
  simp only [n1, Bool.or_eq_false_iff.mp n2, Bool.or_false, Bool.false_eq_true, if_false]
  refine wpAny_bind (wpAny_pyIter_gen (s := { s5 with heap := _ }) g1 ?_)
  refine wpAny_bind (wpAny_holding ?_)
  unfold Builtin.List.listLengthHint
  refine wpAny_bind (wpAny_specialOf (Heap.IsGen.typeIs (s := { s5 with heap := _ }) g1) F.gen_no_len ?_)
  show wpAny _ X.A.in1.in1.in1 (specialOf (Value.ref a) (Str.ofString "__length_hint__") >>= _) _ _ _
  refine wpAny_bind (wpAny_specialOf (Heap.IsGen.typeIs (s := { s5 with heap := _ }) g1) F.gen_no_hint ?_)
  refine wpAny_pure ?_
  show wpAny _ X.A.in1.in1.in1 (rule "list.extend.makes-room" >>= fun _ => Builtin.List.listTouch (.ref s5.heap.objs.size) >>= fun _ => again (.builtin "list.extend.loop" ⟨[.ref s5.heap.objs.size, .ref a, .ref s5.heap.objs.size], []⟩)) _ _ _
  refine wpAny_bind (wpAny_rule ?_)
  have h1 : (s5.heap.push l0).get? s5.heap.objs.size = some l0 := Heap.get?_push_size _ (by rw [← hl0]; rfl)
  subst hl0
  refine wpAny_bind ?_
  show wpAny _ X.A.in1.in1.in1 (updateSeq s5.heap.objs.size (·.push .none) >>= fun _ => updateSeq s5.heap.objs.size (·.pop)) _ _ _
  refine wpAny_bind (wpAny_updateSeq h1 rfl ?_)
  have h2 := Heap.get?_update_self (Obj.mapSeq (·.push Value.none)) h1 rfl
  refine wpAny_updateSeq (hz := by seq_fits) h2 rfl ?_
  have h3 := Heap.get?_update_self (Obj.mapSeq (·.pop)) h2 rfl
  generalize hs6 : (Heap.update (Heap.update (s5.heap.push _) s5.heap.objs.size (Obj.mapSeq (·.push Value.none))) s5.heap.objs.size (Obj.mapSeq (·.pop))) = h6 at h3
  have k6 : ∀ b o, s5.heap.get? b = some o → h6.get? b = some o := fun b o e => by
    have hb : s5.heap.objs.size ≠ b := Nat.ne_of_gt (Heap.lt_size e)
    rw [← hs6]
    exact (Heap.get?_update_other _ _ hb).trans ((Heap.get?_update_other _ _ hb).trans (k1 b o e))
  obtain ⟨oa, ea, na⟩ := gen_obj r.gen
  obtain ⟨n, Sl⟩ := r.go (consTup a gi s5.heap.objs.size En) W m (consTup_ok r.at_ hS4) hW (turn _) { s5 with heap := h6 } ⟨rfl, r.bare, fun b o _ e => k6 b o e, fun b hb => by
      rcases List.mem_cons.mp hb with z | z
      · rw [z]; exact ⟨oa, k6 _ _ ea, na⟩
      · rw [List.mem_singleton.mp z]; exact ⟨_, h3, fun v z => by cases z⟩⟩ rfl
    ⟨r.gen.keeps k6, Nat.zero_le _, _, _, h3, .nil⟩
  refine wpAny_pure ⟨plainId_quiet F.plain_extend_loop _, ext_loop hh hd r.inv r.fpo r.at_ hS4 hne (fun s' acc c H ys e1 e2 e3 e4 e5 e6 => ?_) n _ Sl⟩
  show wpAny _ X.A.in1.in1 (load s5.heap.objs.size >>= _) _ _ s'
  refine wpAny_bind (wpAny_load e1 ?_)
  exact wpAny_pure (hQ s' acc.toList H ys e2 e3 e4 e6)
end
end Dl

set_option Elab.async false
set_option linter.all false
set_option maxRecDepth 100000
set_option maxHeartbeats 2000000
namespace Dl
open PySem PySem.Spec PyProof.Rows L2 GenW
open PySem.AutoSeq1 (wpAny_loadPart')
section
variable {X : Cx} {pins : List (Addr × Obj)} {σ : L2.St}
theorem tup_gen {J : It} {g : TG} {tt : TT} {te : TE} {vs : List Nat} {Q : VK} {H4 : Hp} {s4 s5 : Shared} {fp : List Addr} {a : Addr} {gi m : Nat} {W : List V → Nat → Nat → Hp → Prop} (hh : X.A.handled = none) (hd : X.A.depth < recursionLimit) (r : GRdy X pins σ J g tt te vs H4 s4 fp a gi s5)
    (hW : W [] 0 m H4) (turn : ∀ S, Turns J g tt te vs (wipe σ vs) (consTup a gi S fun ys H => ∀ p, H p = none → Q (.ref p) (upd H p (.tup ys))) W) : wpAny (model X.prog X.w) X.A (call (.type "tuple") [.ref a]) (EP X pins σ Q) X.xe s5 := by
  refine callType_codes (Q₁ := fun obj s1 => s1.TypeIs obj "tuple" ∧ EP X pins σ Q obj s1) F.called_tuple (F.typeCall_tuple_1 _) F.entry_object_init ?_ fun obj s1 h1 => ?_
  · refine codeAny_of_tree ?_
    show wpAny _ X.A.in1.in1 (do checkBuiltinCall "tuple.__new__" ⟨[.type "tuple", .ref a], []⟩; again (.builtin "tuple.__new__" ⟨[.type "tuple", .ref a], []⟩)) _ _ s5
    refine wpAny_bind (wpAny_of_eq (F.newCall_tuple_1 _) (wpAny_pure ⟨plainId_quiet F.plain_tuple_new _, codeAny_builtin F.entry_tuple_new ?_⟩))
    rw [Around.under_plainId F.plain_tuple_new _]
    have hsub := sub_tuple_self
    have hinit := init_tuple_lookup
    have hmh := madeHere_tuple
    have hTI := r.gen.typeIs (s := s5)
    wp_walk using wpAny_typeOf hTI, collect_gen hh hd r hW turn
    intro s' us H ys rv hl I en
    show wpAny _ _ (Builtin.Tuple.tupleExact us.toArray >>= fun v => ret v) _ _ _
    unfold Builtin.Tuple.tupleExact
    refine wpAny_bind (wpAny_newObj_type ?_ (by show us.toArray.size ≤ sizeLine; rw [List.size_toArray, ← rv.length]; exact hl))
    refine wpAny_pure ?_
    have J1 : Inv X pins σ (upd H s'.heap.objs.size (.tup ys)) { s' with heap := s'.heap.push { cls := .type "tuple", data := .seq us.toArray } } :=
      I.laid (t' := s'.toks) (fun b o e => Heap.get?_push_of_some _ e) (Nat.le_refl _) ⟨hl, us, rv, IsTup.new _ _⟩
    exact ⟨⟨_, Heap.get?_push_size _ rfl, rfl⟩, .ref s'.heap.objs.size, _, J1, rfl, en _ (I.hok.fresh (Nat.le_refl _))⟩
  · exact ⟨h1.1, F.args_object_init_2 obj _, object_init_meets F.called_tuple.init.lookup F.called_tuple.made (by decide) X.prog X.w X.A.in1 _ s1 ⟨h1.1, rfl, h1.2⟩⟩
end
end Dl

set_option Elab.async false
set_option linter.all false
set_option maxRecDepth 100000
set_option maxHeartbeats 2000000
namespace Dl
open PySem PySem.Spec PyProof.Rows L2 GenW
section
variable {T : List Addr} {K : PySem.W.Frag} {w : Option (Addr × Addr)} {G F0 H F H2 : Hp} {σ : L2.St} {s : S} {P : Addr}
theorem Rel.tabbed (r : Rel T K w G F0 σ H F s) (hP : P ∈ T) (t : GxR.Tabbed P H H2) : Rel T K w G F0 σ H2 F s := by
  obtain ⟨⟨ps, hp, hps⟩, fP, gP⟩ := r.tab P hP
  have at_ : ∀ {a : Addr} {o : HO}, H a = some o → (∀ q, o ≠ .tbl q) → H2 a = some o := fun {a o} e n => by
    rw [t.2 a (fun z => by rw [z, hp] at e; exact n ps (Option.some.inj e).symm)]
    exact e
  refine ⟨⟨fun a o e => ?_, fun a o e => ?_, r.exF, r.new, fun p hw => ?_, fun Q hQ => ?_⟩, fun i c h => ?_, r.len, r.dis⟩
  · rw [t.2 a (ne_of_none e fP)]; exact r.sub a o e
  · rw [t.2 a (ne_of_none e gP)]; exact r.keep a o e
  · obtain ⟨⟨d, c, f1, f2⟩, g1, g2⟩ := r.src p hw
    exact ⟨⟨at_ d (fun q z => by cases z), at_ c (fun q z => by cases z), f1, f2⟩, g1, g2⟩
  · obtain ⟨h1, h2, h3⟩ := r.tab Q hQ
    refine ⟨?_, h2, h3⟩
    by_cases e : Q = P
    · rw [e]; exact t.1
    · obtain ⟨qs, q1, q2⟩ := h1
      exact ⟨qs, by rw [t.2 Q e]; exact q1, q2⟩
  · obtain ⟨v, h1, h2⟩ := r.cl i c h
    refine ⟨v, h1, ?_⟩
    cases c with
    | un => trivial
    | im d => exact h2
    | ow ds =>
      obtain ⟨a, vs, e1, e2, e3⟩ := h2
      exact ⟨a, vs, e1, at_ e2 (fun q z => by cases z), e3⟩
    | sr => exact h2
end
/-! ### readings of all(..), any(..), tuple(..) over a generator expression -/
def tAllG (P : Addr) (wi : TI) (g : TG) (tt : TT) (te : TE) (vs : List Nat) : TE := fun σ H Q => wi σ H fun J H1 => GxR.TabG H1 P ∧ ∀ H2, GxR.Tabbed P H1 H2 → ∃ W m, W [] 0 m H2 ∧ Turns J g tt te vs (wipe σ vs) (consAll 0 0 Q) W
def tAnyG (P : Addr) (wi : TI) (g : TG) (tt : TT) (te : TE) (vs : List Nat) : TE := fun σ H Q => wi σ H fun J H1 => GxR.TabG H1 P ∧ ∀ H2, GxR.Tabbed P H1 H2 → ∃ W m, W [] 0 m H2 ∧ Turns J g tt te vs (wipe σ vs) (consAny 0 0 Q) W
def tTupG (P : Addr) (wi : TI) (g : TG) (tt : TT) (te : TE) (vs : List Nat) : TE := fun σ H Q => wi σ H fun J H1 => GxR.TabG H1 P ∧ ∀ H2, GxR.Tabbed P H1 H2 → ∃ W m, W [] 0 m H2 ∧ Turns J g tt te vs (wipe σ vs) (consTup 0 0 0 fun ys H => ∀ p, H p = none → Q (.ref p) (upd H p (.tup ys))) W
section
variable {X : Cx} {c P : Addr} {elt tg iter : Expr} {ifs : List Expr} {scope : Scope} {own : List (Str × Nat)} {gpos p pos : Pos} {wi : TI} {g : TG} {tt : TT} {te : TE} {nm : Str}
/-- a generator expression's premises -/
structure GenOk (X : Cx) (c P : Addr) (tg iter : Expr) (scope : Scope) (own : List (Str × Nat)) : Prop where
  calm : X.calm = true
  nd : X.N.Nodup
  dp : X.A.depth < recursionLimit
  tab : GxR.TabB X.base X.mg c P
  code : X.env.code = .ref c
  blk : BlkOk X.N X.env.scope scope own
  cell : ∀ y ∈ scope.names, y.2 ≠ .cell
  co : scope.isCoroutine = false
  dot : scope.names.lookup (".0" : Str) = some NameKind.local
  fold : ∀ v, genFold iter X.env v = pure v
/-- the body's contexts -/
abbrev gbx (X : Cx) (scope : Scope) (s : Shared) (H : Hp) (C : Addr) (code : Value) (fp : List Addr) : Cx := gb X X.A.in4.in1 s H (genEnv scope (cloFrom X.env.cells scope.names []) C code builtinsNs X.env) fp
theorem pe_allG (ok : GenOk X c P tg iter scope own) (hg : Gl X nm) (hm : X.mg nm = none) (hb : bootBuiltins nm = some (.builtin "all")) (hi : PI X tg iter wi)
    (pg : ∀ s H C code fp, PG (gbx X scope s H C code fp) tg g) (pt : ∀ s H C code fp, PTs (gbx X scope s H C code fp) ifs tt) (pe : ∀ s H C code fp, PE (gbx X scope s H C code fp) elt te) (hnm : nm ≠ "__name__" := by decide) (hdb : (nm == ("__debug__" : Str)) = false := by decide)
    (he : starEach [.GeneratorExp elt [⟨tg, iter, ifs, 0⟩] scope gpos] X.env = (false, eval (.GeneratorExp elt [⟨tg, iter, ifs, 0⟩] scope gpos) X.env) :: starEach [] X.env := by rfl) :
    PE X (.Call (.Name nm p) [.GeneratorExp elt [⟨tg, iter, ifs, 0⟩] scope gpos] [] pos) (tAllG P wi g tt te (own.map (·.2))) := by
  refine ⟨fun pins s σ H Q I h => ?_⟩
  refine wpAny_Call_Name_kw (ld_blt I hg hm hb ?_ hnm hdb)
  refine PyProof.Rows.callWith_builtin1 ?_ he (by rfl)
  rw [he]
  show wpAny _ _ (spliced ((false, eval (.GeneratorExp elt [⟨tg, iter, ifs, 0⟩] scope gpos) X.env) :: backTo pos (starEach [] X.env))) _ _ s
  refine Calls.spliced_cons (gen_make ok.calm ok.nd ok.dp ok.tab ok.code ok.blk ok.cell ok.co ok.dot hi pg pt pe ok.fold I h fun J H4 s4 fp a gi s5 hR hG => ?_)
  obtain ⟨W, m, hW, turn⟩ := hR
  exact Calls.spliced_nil (call_all_gen (I.ok.hd ok.calm) ok.dp hG hW turn)
theorem pe_anyG (ok : GenOk X c P tg iter scope own) (hg : Gl X nm) (hm : X.mg nm = none) (hb : bootBuiltins nm = some (.builtin "any")) (hi : PI X tg iter wi)
    (pg : ∀ s H C code fp, PG (gbx X scope s H C code fp) tg g) (pt : ∀ s H C code fp, PTs (gbx X scope s H C code fp) ifs tt) (pe : ∀ s H C code fp, PE (gbx X scope s H C code fp) elt te) (hnm : nm ≠ "__name__" := by decide) (hdb : (nm == ("__debug__" : Str)) = false := by decide)
    (he : starEach [.GeneratorExp elt [⟨tg, iter, ifs, 0⟩] scope gpos] X.env = (false, eval (.GeneratorExp elt [⟨tg, iter, ifs, 0⟩] scope gpos) X.env) :: starEach [] X.env := by rfl) :
    PE X (.Call (.Name nm p) [.GeneratorExp elt [⟨tg, iter, ifs, 0⟩] scope gpos] [] pos) (tAnyG P wi g tt te (own.map (·.2))) := by
  refine ⟨fun pins s σ H Q I h => ?_⟩
  refine wpAny_Call_Name_kw (ld_blt I hg hm hb ?_ hnm hdb)
  refine PyProof.Rows.callWith_builtin1 ?_ he (by rfl)
  rw [he]
  show wpAny _ _ (spliced ((false, eval (.GeneratorExp elt [⟨tg, iter, ifs, 0⟩] scope gpos) X.env) :: backTo pos (starEach [] X.env))) _ _ s
  refine Calls.spliced_cons (gen_make ok.calm ok.nd ok.dp ok.tab ok.code ok.blk ok.cell ok.co ok.dot hi pg pt pe ok.fold I h fun J H4 s4 fp a gi s5 hR hG => ?_)
  obtain ⟨W, m, hW, turn⟩ := hR
  exact Calls.spliced_nil (call_any_gen (I.ok.hd ok.calm) ok.dp hG hW turn)
theorem pe_tupG (ok : GenOk X c P tg iter scope own) (hg : Gl X nm) (hm : X.mg nm = none) (hb : bootBuiltins nm = some (.type "tuple")) (hi : PI X tg iter wi)
    (pg : ∀ s H C code fp, PG (gbx X scope s H C code fp) tg g) (pt : ∀ s H C code fp, PTs (gbx X scope s H C code fp) ifs tt) (pe : ∀ s H C code fp, PE (gbx X scope s H C code fp) elt te) (hnm : nm ≠ "__name__" := by decide) (hdb : (nm == ("__debug__" : Str)) = false := by decide)
    (he : starEach [.GeneratorExp elt [⟨tg, iter, ifs, 0⟩] scope gpos] X.env = (false, eval (.GeneratorExp elt [⟨tg, iter, ifs, 0⟩] scope gpos) X.env) :: starEach [] X.env := by rfl) :
    PE X (.Call (.Name nm p) [.GeneratorExp elt [⟨tg, iter, ifs, 0⟩] scope gpos] [] pos) (tTupG P wi g tt te (own.map (·.2))) := by
  refine ⟨fun pins s σ H Q I h => ?_⟩
  refine wpAny_Call_Name_kw (ld_blt I hg hm hb ?_ hnm hdb)
  refine PyProof.Rows.callWith_type1 ?_ he rfl
  rw [he]
  show wpAny _ _ (spliced ((false, eval (.GeneratorExp elt [⟨tg, iter, ifs, 0⟩] scope gpos) X.env) :: backTo pos (starEach [] X.env))) _ _ s
  refine Calls.spliced_cons (gen_make ok.calm ok.nd ok.dp ok.tab ok.code ok.blk ok.cell ok.co ok.dot hi pg pt pe ok.fold I h fun J H4 s4 fp a gi s5 hR hG => ?_)
  obtain ⟨W, m, hW, turn⟩ := hR
  exact Calls.spliced_nil (tup_gen (I.ok.hd ok.calm) ok.dp hG hW fun S => turn)
end
end Dl

set_option Elab.async false
set_option linter.all false
set_option maxRecDepth 100000
set_option maxHeartbeats 2000000
namespace Dl
open PySem PySem.Spec PyProof.Rows L2 GenW
section
variable {T : List Addr} {X : Cx} {scope : Scope}
theorem fan_e {e : Expr} {f : M D} (h : ∀ s H C code fp, DE T (gbx X scope s H C code fp) e f) :
    ∃ t, (∀ s H C code fp, PE (gbx X scope s H C code fp) e t) ∧ ∀ w G F0 σ H F s d s', Rel T X.K w G F0 σ H F s → f s = some (d, s') →
      ∀ Q : VK, (∀ v H' F', Rel T X.K w G F0 σ H' F' s' → Sub F F' → Rep X.K F' d v → Q v H') → t σ H Q := by
  refine ⟨fun σ H Q => ∀ s0 H0 C cd fp, (Classical.choose (h s0 H0 C cd fp)) σ H Q, fun s H C cd fp => ⟨fun pins s1 σ H1 Q I hh => (Classical.choose_spec (h s H C cd fp)).1.run pins s1 σ H1 Q I (hh s H C cd fp)⟩, fun w G F0 σ H F s d s' r k Q q s0 H0 C cd fp => ?_⟩
  exact (Classical.choose_spec (h s0 H0 C cd fp)).2 w G F0 σ H F s d s' r k Q q
theorem fan_t {e : Expr} {f : M Bool} (h : ∀ s H C code fp, DT T (gbx X scope s H C code fp) e f) :
    ∃ t, (∀ s H C code fp, PT (gbx X scope s H C code fp) e t) ∧ ∀ w G F0 σ H F s b s', Rel T X.K w G F0 σ H F s → f s = some (b, s') →
      ∀ Q : Bool → Hp → Prop, (∀ H' F', Rel T X.K w G F0 σ H' F' s' → Sub F F' → Q b H') → t σ H Q := by
  refine ⟨fun σ H Q => ∀ s0 H0 C cd fp, (Classical.choose (h s0 H0 C cd fp)) σ H Q, fun s H C cd fp => ⟨fun pins s1 σ H1 Q I hh => (Classical.choose_spec (h s H C cd fp)).1.run pins s1 σ H1 Q I (hh s H C cd fp)⟩, fun w G F0 σ H F s d s' r k Q q s0 H0 C cd fp => ?_⟩
  exact (Classical.choose_spec (h s0 H0 C cd fp)).2 w G F0 σ H F s d s' r k Q q
theorem fan_g {e : Expr} {vl : List Nat} {g : D → M Unit} (h : ∀ s H C code fp, DG T (gbx X scope s H C code fp) e vl g) :
    ∃ t, (∀ s H C code fp, PG (gbx X scope s H C code fp) e t) ∧ ∀ w G F0 σ H F s d v u s', Rel T X.K w G F0 σ H F s → Rep X.K F d v → g d s = some (u, s') →
      ∀ Q : L2.St → Hp → Prop, (∀ σ' H' F', Rel T X.K w G F0 σ' H' F' s' → Sub F F' → Same vl σ σ' → Q σ' H') → t v σ H Q := by
  refine ⟨fun v σ H Q => ∀ s0 H0 C cd fp, (Classical.choose (h s0 H0 C cd fp)) v σ H Q, fun s H C cd fp => ⟨fun pins s1 σ H1 v u Q I r hh => (Classical.choose_spec (h s H C cd fp)).1.run pins s1 σ H1 v u Q I r (hh s H C cd fp)⟩, fun w G F0 σ H F s d v u s' r rv k Q q s0 H0 C cd fp => ?_⟩
  exact (Classical.choose_spec (h s0 H0 C cd fp)).2 w G F0 σ H F s d v u s' r rv k Q q
/-- the tests of a generator expression -/
def Tg (T : List Addr) (X : Cx) (scope : Scope) (ifs : List Expr) (f : M Bool) : Prop := ∃ t, (∀ s H C code fp, PTs (gbx X scope s H C code fp) ifs t) ∧ ∀ w G F0 σ H F s b s', Rel T X.K w G F0 σ H F s → f s = some (b, s') →
      ∀ Q : Bool → Hp → Prop, (∀ H' F', Rel T X.K w G F0 σ H' F' s' → Sub F F' → Q b H') → t σ H Q
theorem tg_nil : Tg T X scope [] (pure true) := ⟨tYes, fun _ _ _ _ _ => pts_nil, fun w G F0 σ H F s b s' r h Q q => by cases h; exact q H F r (Sub.refl F)⟩
theorem tg_one {e : Expr} {f : M Bool} (h : ∀ s H C code fp, DT T (gbx X scope s H C code fp) e f) : Tg T X scope [e] f := by
  obtain ⟨t, p, q⟩ := fan_t h
  exact ⟨t, fun s H C cd fp => pts_one (p s H C cd fp), q⟩
end
/-- the walk of all (go := true), any (go := false): stops at the first that is otherwise -/
def gaGo (go : Bool) (vs : List Nat) (g : D → M Unit) (t : M Bool) (f : M D) : List D → M Bool
  | [] => pure go
  | d :: ds => do
    unM vs
    g d
    let b ← t
    if b = true then do
      let y ← f
      match y with
      | .bool z => if z = go then gaGo go vs g t f ds else pure z
      | _ => fun _ => none
    else gaGo go vs g t f ds
def fGa (go : Bool) (vs : List Nat) (fi : M (List D)) (g : D → M Unit) (t : M Bool) (f : M D) : M D := do
  let ds ← fi
  let l0 ← getE
  let r ← gaGo go vs g t f ds
  backM vs l0
  pure (.bool r)
section
variable {T : List Addr} {X : Cx}
/-- one turn, however it is consumed -/
theorem ga_turns {J : It} {tg : TG} {tt : TT} {te : TE} {vs vl : List Nat} {g : D → M Unit} {t : M Bool} {f : M D} {go : Bool} (hv : ∀ i ∈ vl, i ∈ vs)
    (rg : ∀ w G F0 σ H F s d v u s', Rel T X.K w G F0 σ H F s → Rep X.K F d v → g d s = some (u, s') → ∀ Q : L2.St → Hp → Prop, (∀ σ' H' F', Rel T X.K w G F0 σ' H' F' s' → Sub F F' → Same vl σ σ' → Q σ' H') → tg v σ H Q)
    (rt : ∀ w G F0 σ H F s b s', Rel T X.K w G F0 σ H F s → t s = some (b, s') → ∀ Q : Bool → Hp → Prop, (∀ H' F', Rel T X.K w G F0 σ H' F' s' → Sub F F' → Q b H') → tt σ H Q)
    (re : ∀ w G F0 σ H F s d s', Rel T X.K w G F0 σ H F s → f s = some (d, s') → ∀ Q : VK, (∀ v H' F', Rel T X.K w G F0 σ H' F' s' → Sub F F' → Rep X.K F' d v → Q v H') → te σ H Q)
    {w : Option (Addr × Addr)} {G F0 H1 F1 : Hp} {σ : L2.St} {s1 s2 : S} {ds : List D} {r : Bool} (r1 : Rel T X.K w G F0 σ H1 F1 s1) (hy : Yld X.K F1 J ds) (k2 : gaGo go vs g t f ds s1 = some (r, s2)) {C : Cons}
    (hgo : ∀ ys, C.Go ys (.bl go)) (hfin : ∀ ys H F, Rel T X.K w G F0 (wipe σ vs) H F { s2 with env := unE vs s2.env } → Sub F1 F → r = go → C.En ys H)
    (hstp : ∀ ys H F, Rel T X.K w G F0 (wipe σ vs) H F { s2 with env := unE vs s2.env } → Sub F1 F → r = (!go) → C.Stp ys (.bl r) H) :
    ∃ W m, W [] 0 m H1 ∧ Turns J tg tt te vs (wipe σ vs) C W := by
  have hw : ∀ i, i ∉ vs → (wipe σ vs)[i]? = σ[i]? := fun i hi => wipe_get hi
  refine ⟨fun _ i m H2 => m = ds.length - i ∧ i ≤ ds.length ∧ ∃ F2 s2', Rel T X.K w G F0 (wipe σ vs) H2 F2 { s2' with env := unE vs s2'.env } ∧ Sub F1 F2 ∧ gaGo go vs g t f (ds.drop i) s2' = some (r, s2), _,
    ⟨rfl, Nat.zero_le _, F1, s1, r1.un vs hw (wipe_length σ vs), Sub.refl _, k2⟩, fun ys i m H2 hW => ?_⟩
  obtain ⟨rfl, hle, F2, s3, r3, e3, k4⟩ := hW
  have hy2 := hy F2 H2 e3 r3.sub i
  by_cases hlt : i < ds.length
  · rw [List.drop_eq_getElem_cons hlt] at k4
    obtain ⟨_, s4, k5, k6⟩ := M.bind_some k4
    cases k5
    obtain ⟨u, s5, k7, k8⟩ := M.bind_some k6
    obtain ⟨b, s6, k9, k10⟩ := M.bind_some k8
    obtain ⟨hgo', hyl⟩ := hy2.2 _ (List.getElem?_eq_getElem hlt)
    refine .inr ⟨hgo', fun x H' hx => ?_⟩
    obtain ⟨F4, gr, rv⟩ := hyl x H' hx
    have e4 := (gr.sub r3.sub).2
    refine rg w _ F0 (wipe σ vs) H' F4 _ _ x u s5 (r3.grow gr) rv k7 _ fun σ5 H5 F5 r5 e5 sm => ?_
    have sm' : Same vs (wipe σ vs) σ5 := ⟨sm.1, fun j hj => sm.2 j fun z => hj (hv j z)⟩
    have hww : wipe σ5 vs = wipe σ vs := by
      rw [wipe_ext sm']
      exact wipe_ext ⟨wipe_length σ vs, hw⟩
    have hback : ∀ j, j ∉ vs → (wipe σ vs)[j]? = σ5[j]? := fun j hj => (sm'.2 j hj).symm
    refine ⟨hww, rt w _ F0 σ5 H5 F5 s5 b s6 r5 k9 _ fun H6 F6 r6 e6 => ?_⟩
    have ee : Sub F1 F6 := e3.trans (e4.trans (e5.trans e6))
    by_cases hb : b = true
    · rw [if_pos hb] at k10 ⊢
      obtain ⟨y, s7, k11, k12⟩ := M.bind_some k10
      refine re w _ F0 σ5 H6 F6 s6 y s7 r6 k11 _ fun v H7 F7 r7 e7 p7 => ?_
      cases y with
      | bool z =>
        cases (show v = .bl z from p7)
        have k13 : (if z = go then gaGo go vs g t f (ds.drop (i + 1)) else pure z) s7 = some (r, s2) := k12
        have r8 := r7.un vs hback (by rw [sm'.1])
        by_cases hz : z = go
        · rw [if_pos hz] at k13
          rw [hz]
          exact .inr ⟨hgo ys, _, by omega, rfl, hlt, F7, s7, r8, ee.trans e7, k13⟩
        · rw [if_neg hz] at k13
          cases k13
          refine .inl (hstp ys H7 F7 r8 (ee.trans e7) ?_)
          cases go <;> cases r <;> first | rfl | exact (hz rfl).elim
      | _ => cases k12
    · rw [if_neg hb] at k10 ⊢
      exact ⟨_, by omega, rfl, hlt, F6, s6, r6.un vs hback (by rw [sm'.1]), ee, k10⟩
  · have e0 : i = ds.length := by omega
    subst e0
    rw [List.drop_length] at k4
    cases k4
    exact .inl ⟨hy2.1 (Nat.le_refl _), hfin ys H2 F2 r3 e3 rfl⟩
variable {c P : Addr} {elt tg iter : Expr} {ifs : List Expr} {scope : Scope} {own : List (Str × Nat)} {gpos p pos : Pos} {nm : Str} {vl : List Nat} {fi : M (List D)} {g : D → M Unit} {t : M Bool} {f : M D}
theorem de_allG (hP : P ∈ T) (ok : GenOk X c P tg iter scope own) (hb : Gl X nm) (hm : X.mg nm = none) (hv : bootBuiltins nm = some (.builtin "all")) (hi : DI T X tg iter fi) (hl : ∀ i ∈ vl, i ∈ own.map (·.2))
    (hg : ∀ s H C code fp, DG T (gbx X scope s H C code fp) tg vl g) (ht : Tg T X scope ifs t) (he : ∀ s H C code fp, DE T (gbx X scope s H C code fp) elt f) (hnm : nm ≠ "__name__" := by decide) (hdb : (nm == ("__debug__" : Str)) = false := by decide)
    (hst : starEach [.GeneratorExp elt [⟨tg, iter, ifs, 0⟩] scope gpos] X.env = (false, eval (.GeneratorExp elt [⟨tg, iter, ifs, 0⟩] scope gpos) X.env) :: starEach [] X.env := by rfl) :
    DE T X (.Call (.Name nm p) [.GeneratorExp elt [⟨tg, iter, ifs, 0⟩] scope gpos] [] pos) (fGa true (own.map (·.2)) fi g t f) := by
  obtain ⟨wi, pi, ri⟩ := hi
  obtain ⟨tg', pg, rg⟩ := fan_g hg
  obtain ⟨tt, pt, rt⟩ := ht
  obtain ⟨te, pe, re⟩ := fan_e he
  refine ⟨_, pe_allG ok hb hm hv pi pg pt pe hnm hdb hst, fun w G F0 σ H F s d s' r k Q q => ?_⟩
  obtain ⟨ds, s1, k1, k'⟩ := M.bind_some k
  obtain ⟨l0, s1', ke, k''⟩ := M.bind_some k'
  cases ke
  obtain ⟨b, s2, k2, k3⟩ := M.bind_some k''
  obtain ⟨u0, s2', kb, kp⟩ := M.bind_some k3
  cases kb
  cases kp
  refine ri w G F0 σ H F s ds s1 r k1 _ fun J H1 F1 r1 e1 hy => ⟨(r1.tab P hP).1, fun H2 hT => ?_⟩
  have r2 := r1.tabbed hP hT
  have hw : ∀ i, i ∉ own.map (·.2) → (wipe σ (own.map (·.2)))[i]? = σ[i]? := fun i hi => wipe_get hi
  refine ga_turns hl rg rt re r2 hy k2 (fun _ => rfl) (fun ys H3 F3 r3 e3 er => ?_) fun ys H3 F3 r3 e3 er => ?_
  · subst er
    exact q (.bl true) H3 F3 (Rel.back r2 e3 _ hw (wipe_length σ _) r3) (e1.trans e3) rfl
  · cases b with
    | true => cases er
    | false => exact ⟨rfl, q (.bl false) H3 F3 (Rel.back r2 e3 _ hw (wipe_length σ _) r3) (e1.trans e3) rfl⟩
theorem de_anyG (hP : P ∈ T) (ok : GenOk X c P tg iter scope own) (hb : Gl X nm) (hm : X.mg nm = none) (hv : bootBuiltins nm = some (.builtin "any")) (hi : DI T X tg iter fi) (hl : ∀ i ∈ vl, i ∈ own.map (·.2))
    (hg : ∀ s H C code fp, DG T (gbx X scope s H C code fp) tg vl g) (ht : Tg T X scope ifs t) (he : ∀ s H C code fp, DE T (gbx X scope s H C code fp) elt f) (hnm : nm ≠ "__name__" := by decide) (hdb : (nm == ("__debug__" : Str)) = false := by decide)
    (hst : starEach [.GeneratorExp elt [⟨tg, iter, ifs, 0⟩] scope gpos] X.env = (false, eval (.GeneratorExp elt [⟨tg, iter, ifs, 0⟩] scope gpos) X.env) :: starEach [] X.env := by rfl) :
    DE T X (.Call (.Name nm p) [.GeneratorExp elt [⟨tg, iter, ifs, 0⟩] scope gpos] [] pos) (fGa false (own.map (·.2)) fi g t f) := by
  obtain ⟨wi, pi, ri⟩ := hi
  obtain ⟨tg', pg, rg⟩ := fan_g hg
  obtain ⟨tt, pt, rt⟩ := ht
  obtain ⟨te, pe, re⟩ := fan_e he
  refine ⟨_, pe_anyG ok hb hm hv pi pg pt pe hnm hdb hst, fun w G F0 σ H F s d s' r k Q q => ?_⟩
  obtain ⟨ds, s1, k1, k'⟩ := M.bind_some k
  obtain ⟨l0, s1', ke, k''⟩ := M.bind_some k'
  cases ke
  obtain ⟨b, s2, k2, k3⟩ := M.bind_some k''
  obtain ⟨u0, s2', kb, kp⟩ := M.bind_some k3
  cases kb
  cases kp
  refine ri w G F0 σ H F s ds s1 r k1 _ fun J H1 F1 r1 e1 hy => ⟨(r1.tab P hP).1, fun H2 hT => ?_⟩
  have r2 := r1.tabbed hP hT
  have hw : ∀ i, i ∉ own.map (·.2) → (wipe σ (own.map (·.2)))[i]? = σ[i]? := fun i hi => wipe_get hi
  refine ga_turns hl rg rt re r2 hy k2 (fun _ => rfl) (fun ys H3 F3 r3 e3 er => ?_) fun ys H3 F3 r3 e3 er => ?_
  · subst er
    exact q (.bl false) H3 F3 (Rel.back r2 e3 _ hw (wipe_length σ _) r3) (e1.trans e3) rfl
  · cases b with
    | false => cases er
    | true => exact ⟨rfl, q (.bl true) H3 F3 (Rel.back r2 e3 _ hw (wipe_length σ _) r3) (e1.trans e3) rfl⟩
/-- tuple(..): as a list comprehension's walk -/
def fTg (vs : List Nat) (fi : M (List D)) (g : D → M Unit) (t : M Bool) (f : M D) : M D := do
  let ds ← fi
  let l0 ← getE
  let r ← lcGo vs g t f [] ds
  backM vs l0
  pure (.tuple r)
theorem de_tupG (hP : P ∈ T) (ok : GenOk X c P tg iter scope own) (hb : Gl X nm) (hm : X.mg nm = none) (hv : bootBuiltins nm = some (.type "tuple")) (hi : DI T X tg iter fi) (hl : ∀ i ∈ vl, i ∈ own.map (·.2))
    (hg : ∀ s H C code fp, DG T (gbx X scope s H C code fp) tg vl g) (ht : Tg T X scope ifs t) (he : ∀ s H C code fp, DE T (gbx X scope s H C code fp) elt f) (hnm : nm ≠ "__name__" := by decide) (hdb : (nm == ("__debug__" : Str)) = false := by decide)
    (hst : starEach [.GeneratorExp elt [⟨tg, iter, ifs, 0⟩] scope gpos] X.env = (false, eval (.GeneratorExp elt [⟨tg, iter, ifs, 0⟩] scope gpos) X.env) :: starEach [] X.env := by rfl) :
    DE T X (.Call (.Name nm p) [.GeneratorExp elt [⟨tg, iter, ifs, 0⟩] scope gpos] [] pos) (fTg (own.map (·.2)) fi g t f) := by
  obtain ⟨wi, pi, ri⟩ := hi
  obtain ⟨tg', pg, rg⟩ := fan_g hg
  obtain ⟨tt, pt, rt⟩ := ht
  obtain ⟨te, pe, re⟩ := fan_e he
  refine ⟨_, pe_tupG ok hb hm hv pi pg pt pe hnm hdb hst, fun w G F0 σ H F s d s' r k Q q => ?_⟩
  obtain ⟨ds, s1, k1, k'⟩ := M.bind_some k
  obtain ⟨l0, s1', ke, k''⟩ := M.bind_some k'
  cases ke
  obtain ⟨rs, s2, k2, k3⟩ := M.bind_some k''
  obtain ⟨u0, s2', kb, kp⟩ := M.bind_some k3
  cases kb
  cases kp
  refine ri w G F0 σ H F s ds s1 r k1 _ fun J H1 F1 r1 e1 hy => ⟨(r1.tab P hP).1, fun H2 hT => ?_⟩
  have r2 := r1.tabbed hP hT
  generalize hvs : own.map (·.2) = vs at hl k2 q ⊢
  have hw : ∀ i, i ∉ vs → (wipe σ vs)[i]? = σ[i]? := fun i hi => wipe_get hi
  refine ⟨fun ys i m H3 => m = ds.length - i ∧ i ≤ ds.length ∧ ∃ F3 s3 acc, Rel T X.K w G F0 (wipe σ vs) H3 F3 { s3 with env := unE vs s3.env } ∧ Sub F1 F3 ∧ RepL X.K F3 acc ys ∧ lcGo vs g t f acc (ds.drop i) s3 = some (rs, s2), _,
    ⟨rfl, Nat.zero_le _, F1, s1, [], r2.un vs hw (wipe_length σ vs), Sub.refl _, rfl, k2⟩, fun ys i m H3 hW => ?_⟩
  obtain ⟨rfl, hle, F3, s3, acc, r3, e3, ra, k4⟩ := hW
  have hy2 := hy F3 H3 e3 r3.sub i
  by_cases hlt : i < ds.length
  · rw [List.drop_eq_getElem_cons hlt] at k4
    obtain ⟨_, s4, k5, k6⟩ := M.bind_some k4
    cases k5
    obtain ⟨u, s5, k7, k8⟩ := M.bind_some k6
    obtain ⟨b, s6, k9, k10⟩ := M.bind_some k8
    obtain ⟨hgo', hyl⟩ := hy2.2 _ (List.getElem?_eq_getElem hlt)
    refine .inr ⟨hgo', fun x H' hx => ?_⟩
    obtain ⟨F4, gr, rv⟩ := hyl x H' hx
    have e4 := (gr.sub r3.sub).2
    refine rg w _ F0 (wipe σ vs) H' F4 _ _ x u s5 (r3.grow gr) rv k7 _ fun σ5 H5 F5 r5 e5 sm => ?_
    have sm' : Same vs (wipe σ vs) σ5 := ⟨sm.1, fun j hj => sm.2 j fun z => hj (hl j z)⟩
    have hww : wipe σ5 vs = wipe σ vs := by
      rw [wipe_ext sm']
      exact wipe_ext ⟨wipe_length σ vs, hw⟩
    have hback : ∀ j, j ∉ vs → (wipe σ vs)[j]? = σ5[j]? := fun j hj => (sm'.2 j hj).symm
    refine ⟨hww, rt w _ F0 σ5 H5 F5 s5 b s6 r5 k9 _ fun H6 F6 r6 e6 => ?_⟩
    have ee : Sub F1 F6 := e3.trans (e4.trans (e5.trans e6))
    by_cases hb : b = true
    · rw [if_pos hb] at k10 ⊢
      obtain ⟨y, s7, k11, k12⟩ := M.bind_some k10
      obtain ⟨hlen, k12⟩ := ite_some k12
      refine re w _ F0 σ5 H6 F6 s6 y s7 r6 k11 _ fun v H7 F7 r7 e7 p7 => ?_
      have ra7 : RepL X.K F7 acc ys := ra.mono (e4.trans (e5.trans (e6.trans e7)))
      exact .inr ⟨by show ys.length < sizeLine; rw [ra7.length, sizeLine_eq]; exact hlen, _, by omega, rfl, hlt, F7, s7, acc ++ [y], r7.un vs hback (by rw [sm'.1]), ee.trans e7, ra7.append ⟨v, [], rfl, p7, rfl⟩, k12⟩
    · rw [if_neg hb] at k10 ⊢
      exact ⟨_, by omega, rfl, hlt, F6, s6, acc, r6.un vs hback (by rw [sm'.1]), ee, ra.mono (e4.trans (e5.trans e6)), k10⟩
  · have e0 : i = ds.length := by omega
    subst e0
    rw [List.drop_length] at k4
    cases k4
    refine .inl ⟨hy2.1 (Nat.le_refl _), fun p hp => ?_⟩
    have r4 := Rel.back r2 e3 vs hw (wipe_length σ vs) r3
    exact q _ _ _ (r4.newF hp) ((e1.trans e3).trans (Sub.new (r4.sub.isNone hp))) ⟨p, ys, rfl, .inl (.inl upd_same), ra.mono (Sub.new (r4.sub.isNone hp))⟩
end
end Dl

set_option Elab.async false
set_option linter.all false
set_option maxRecDepth 100000
set_option maxHeartbeats 2000000
namespace Dl
open PySem PySem.Spec PyProof.Rows L2
/-! ### a law's end, with tables, where no guard is held -/
/-- what is tracked at the law's begin: the tables, and the script's list where the head's fragment lacks it -/
def lawH (T : List Addr) (a : Addr) (o : Obj) (xs : List V) (there : Bool) : Hp := fun b => if b ∈ T then some (.tbl #[]) else if b = a then (if there = true then none else some (.frz o (.lst xs))) else none
section
variable {T : List Addr} {a : Addr} {o : Obj} {xs : List V} {th : Bool} {b : Addr}
theorem lawH_tab (h : b ∈ T) : lawH T a o xs th b = some (.tbl #[]) := if_pos h
theorem lawH_cases {u : HO} (e : lawH T a o xs th b = some u) : (b ∈ T ∧ u = .tbl #[]) ∨ (b = a ∧ th = false ∧ u = .frz o (.lst xs)) := by
  unfold lawH at e
  by_cases h : b ∈ T
  · rw [if_pos h] at e; cases e; exact .inl ⟨h, rfl⟩
  · rw [if_neg h] at e
    by_cases h2 : b = a
    · rw [if_pos h2] at e
      cases th with
      | true => rw [if_pos rfl] at e; cases e
      | false => rw [if_neg Bool.false_ne_true] at e; cases e; exact .inr ⟨h2, rfl, rfl⟩
    · rw [if_neg h2] at e; cases e
end
structure LawFacts (K : PySem.W.Frag) (mg mb : Str → Option Value) (a : Addr) (cs : List (Addr × Addr)) (s1 : Shared) (vs : List Value) (ns : List Int) : Prop where
  kin : K.In s1.heap
  ns_ : s1.heap.Ns mainGlobals mg
  nb : s1.heap.Ns builtinsNs mb
  blt : ∀ x : Str, x ≠ "__name__" → mb x = bootBuiltins x
  lim : s1.heap.NoLimit
  gens : s1.gens = #[]
  tab : ∀ p ∈ cs, s1.heap.get? p.2 = some { cls := .none, data := .fields #[] }
  noK : ∀ p ∈ cs, K.lookup p.2 = none
  code : ∀ p ∈ cs, PySem.W.CodeHd s1.heap p.1 p.2
  bm : ∃ (bm : Addr) (ob : Obj), mg "__builtins__" = some (.ref bm) ∧ bm ≠ builtinsNs ∧ s1.heap.get? bm = some ob ∧ ob.cls = .type "module" ∧ ob.dict = some builtinsNs ∧ ob.data = .plain
  sys : ∃ m, s1.heap.Ns sysModules m
  lst : s1.heap.get? a = some { cls := .type "list", data := .seq vs.toArray }
  nums : IntsAre vs ns
  few : ns.length ≤ sizeLine
theorem law_callG {P : Program} {w : World} {K : PySem.W.Frag} {mg mb : Str → Option Value} {k : Nat} {fa a : Addr} {cs : List (Addr × Addr)} {fd : FuncData} {x : Str} {sp : Sp} {s1 : Shared} {vs : List Value} {ns : List Int}
    (L : LawFacts K mg mb a cs s1 vs ns) (hr : Room k callerA)
    (F : ∀ base : Heap, K.In base → base.Ns mainGlobals mg → (∀ p ∈ cs, GxR.TabB base mg p.1 p.2) → SysB base → FnG P w K mg base k fa fd [x] sp) (hbind : ∀ (s : Shared) (u : Value), BindsTo s fd ⟨[u], []⟩ [(x, u)])
    (hsp : ∀ H : Hp, (∀ p ∈ cs, H p.2 = some (.tbl #[])) → SqL K H a (ns.map V.int) → sp [.ref a] H (fun v _ => v = .bl true) fun _ _ _ => False) :
    codeAny (model P w) callerA (.call (.ref fa) ⟨[.ref a], []⟩) (fun r s' => r = .ok (.ret (.bool true)) ∧ OldK s1.heap s'.heap ∧ s'.os = s1.os ∧ AllBare s'.gens) s1 := by
  have rv := vals_ints L.nums
  have tabT : ∀ {b : Addr}, b ∈ cs.map (·.2) → s1.heap.get? b = some { cls := .none, data := .fields #[] } := fun {b} hb => by
    obtain ⟨p, hp, e⟩ := List.mem_map.mp hb
    rw [← e]; exact L.tab p hp
  have inT : ∀ {p : Addr × Addr}, p ∈ cs → p.2 ∈ cs.map (·.2) := fun {p} hp => List.mem_map.mpr ⟨p, hp, rfl⟩
  have aT : a ∉ cs.map (·.2) := fun z => by
    have q := tabT z
    rw [L.lst] at q
    exact nomatch congrArg Obj.data (Option.some.inj q)
  generalize hH : lawH (cs.map (·.2)) a { cls := .type "list", data := .seq vs.toArray } (ns.map V.int) (K.lookup a).isSome = H
  have cas : ∀ {b : Addr} {u : HO}, H b = some u → (b ∈ cs.map (·.2) ∧ u = .tbl #[]) ∨ (b = a ∧ (K.lookup a).isSome = false ∧ u = .frz { cls := .type "list", data := .seq vs.toArray } (.lst (ns.map V.int))) := fun {b u} e => by rw [← hH] at e; exact lawH_cases e
  have tbH : ∀ p ∈ cs, H p.2 = some (.tbl #[]) := fun p hp => by rw [← hH]; exact lawH_tab (inT hp)
  have sqH : SqL K H a (ns.map V.int) := by
    cases hk : K.lookup a with
    | some o =>
      have e := L.kin a o hk
      rw [L.lst] at e
      cases e
      exact .inr ⟨_, vs.toArray, _, hk, rfl, rfl, rfl, by rw [List.size_toArray, L.nums.length]; exact L.few, by simpa using rv⟩
    | none =>
      refine .inl (.inr ⟨{ cls := .type "list", data := .seq vs.toArray }, ?_⟩)
      rw [← hH, hk]
      unfold lawH
      rw [if_neg aT, if_pos rfl]
      rfl
  have okH : HOk P w H s1.heap := fun b u e => by
    rcases cas e with ⟨h1, rfl⟩ | ⟨rfl, _, rfl⟩
    · exact tabT h1
    · exact ⟨L.lst, by rw [List.length_map]; exact L.few, vs, _, rv, L.lst⟩
  -- what is neither a table nor the list stands in the base
  have untr : ∀ {b : Addr} {o : Obj}, s1.heap.get? b = some o → (∀ ws n, o.data ≠ .seq ws n) → o.data ≠ .fields #[] → H b = none := fun {b o} e h1 h2 => by
    cases q : H b with
    | none => rfl
    | some u =>
      rcases cas q with ⟨hb, _⟩ | ⟨hb, _⟩
      · rw [tabT hb] at e; cases e; exact (h2 rfl).elim
      · rw [hb, L.lst] at e; cases e; exact (h1 _ _ rfl).elim
  have based : ∀ {b : Addr} {o : Obj}, s1.heap.get? b = some o → (∀ ws n, o.data ≠ .seq ws n) → o.data ≠ .fields #[] → (hidT s1.heap H).get? b = some o := fun {b o} e h1 h2 => hidT_get e (untr e h1 h2)
  have dictB : ∀ {b : Addr} {o : Obj} {es : Array DictEntry} {ep : Nat}, s1.heap.get? b = some o → o.data = .dict es ep → (hidT s1.heap H).get? b = some o := fun {b o es ep} e d =>
    based e (fun ws n z => by rw [d] at z; cases z) fun z => by rw [d] at z; cases z
  have nsB : ∀ {b : Addr} {m : Str → Option Value}, s1.heap.Ns b m → (hidT s1.heap H).Ns b m := fun {b m} ⟨o, es, ep, e, d, r⟩ => ⟨o, es, ep, dictB e d, d, r⟩
  have kinB : K.In (hidT s1.heap H) := fun b o e => by
    refine hidT_get (L.kin b o e) ?_
    cases q : H b with
    | none => rfl
    | some u =>
      rcases cas q with ⟨hb, _⟩ | ⟨hb, hk, _⟩
      · obtain ⟨p, hp, ep⟩ := List.mem_map.mp hb
        rw [← ep, L.noK p hp] at e; cases e
      · rw [hb] at e; rw [e] at hk; cases hk
  have modB : L2.Mod K mg (hidT s1.heap H) := ⟨kinB, nsB L.ns_, ⟨mb, nsB L.nb, L.blt⟩, let ⟨mc, h1, h2⟩ := L.lim; ⟨mc, nsB h1, h2⟩⟩
  have tabB : ∀ p ∈ cs, GxR.TabB (hidT s1.heap H) mg p.1 p.2 := fun p hp => by
    refine ⟨?_, ?_, fun z => ?_⟩
    · obtain ⟨ob, us, fl, tf, fg, tg, iF, tx, tt, e1, r1, r2, r3, r⟩ := L.code p hp
      exact ⟨ob, us, fl, tf, fg, tg, iF, tx, tt, based e1 (fun ws n z => by rw [r2] at z; cases z) (fun z => by rw [r2] at z; cases z; simp at r3), r1, r2, r3, r⟩
    · obtain ⟨bm, ob, b1, b2, b3, b4, b5, b6⟩ := L.bm
      have nG : bm ≠ mainGlobals := fun q => by
        obtain ⟨ob', es, ep, e, hd, _⟩ := L.ns_
        rw [q, e] at b3; cases b3; rw [hd] at b6; cases b6
      have nP : bm ≠ p.2 := fun q => by
        rw [q, L.tab p hp] at b3; cases b3; cases b6
      exact ⟨bm, ob, b1, b2, nG, nP, based b3 (fun ws n z => by rw [b6] at z; cases z) (fun z => by rw [b6] at z; cases z), b4, b5, b6⟩
    · obtain ⟨ob, es, ep, e, hd, _⟩ := L.ns_
      rw [z, L.tab p hp] at e; cases e; cases hd
  have sysB : SysB (hidT s1.heap H) := by
    obtain ⟨m, ob, es, ep, e, hd, _⟩ := L.sys
    exact ⟨ob, dictB e hd⟩
  have e0 : Env0 P w K mg (hidT s1.heap H) callerA [] s1 H := ⟨rfl, modB, fun b o e => of_hidT e, Nat.le_of_eq (hidT_size _ _), trivial, fun b hb => (by cases hb), okH, AllBare.of_eq L.gens⟩
  refine codeAny_mono ((F _ kinB (nsB L.ns_) tabB sysB).goes callerA [] s1 H ⟨[.ref a], []⟩ [.ref a] [.ref a] _ _ rfl hr e0 (hbind s1 (.ref a)) (.cons rfl .nil) (hsp H tbH sqH)) fun r s' h => ?_
  cases r with
  | error e => exact False.elim h
  | ok fl =>
    cases fl with
    | next => exact False.elim h
    | brk => exact False.elim h
    | cont => exact False.elim h
    | ret u =>
      obtain ⟨v, H', os, bare, un, ok', r', q⟩ := h
      cases (show v = .bl true from q)
      obtain rfl : u = Value.bool true := r'
      have kept : ∀ b o, b ∉ cs.map (·.2) → s1.heap.get? b = some o → s'.heap.get? b = some o := fun b o nb e => by
        cases q : H b with
        | none => exact un.keep b o e q (by intro z; cases z) (by simp)
        | some u =>
          rcases cas q with ⟨hb, _⟩ | ⟨hb, hk, hu⟩
          · exact absurd hb nb
          · rw [hu] at q
            have q2 := un.frzs b _ _ q
            obtain ⟨e1, _⟩ := ok' b _ q2
            rw [hb, L.lst] at e; cases e
            rw [hb] at e1 ⊢
            exact e1
      refine ⟨rfl, ⟨fun b o e => ?_, fun b o e => ?_⟩, os, bare⟩
      · by_cases hb : b ∈ cs.map (·.2)
        · obtain ⟨p, hp, ep⟩ := List.mem_map.mp hb
          obtain ⟨more, z⟩ := un.tbls p.2 #[] (tbH p hp)
          have hm : s'.heap.get? p.2 = some { cls := .none, data := .fields (#[] ++ more) } := ok' p.2 _ z
          rw [← ep] at e ⊢
          rw [L.tab p hp] at e; cases e
          exact .inr (.inl ⟨((L.code p hp).tab (L.tab p hp)).isCodeTable, rfl, #[], more, rfl, hm⟩)
        · exact .inl (kept b o hb e)
      · by_cases hb : b ∈ cs.map (·.2)
        · obtain ⟨p, hp, ep⟩ := List.mem_map.mp hb
          obtain ⟨more, z⟩ := un.tbls p.2 #[] (tbH p hp)
          rw [← ep]
          exact ⟨_, ok' p.2 _ z⟩
        · exact ⟨o, kept b o hb e⟩
end Dl

set_option Elab.async false
set_option linter.all false
set_option maxRecDepth 100000
set_option maxHeartbeats 2000000
namespace Dl
open PySem PySem.Spec PyProof.Rows L2
/-- what is shown of the law's def at the head's heap h -/
def LawAtG (l : PySem.W.OpenLaw) (w : World) (K : PySem.W.Frag) (k n : Nat) (x : Str) (mg : Str → Option Value) (fa : Addr) (h : Heap) : Prop :=
  ∃ (fd : FuncData) (cs : List (Addr × Addr)) (sp : Sp), (∀ p ∈ cs, h.get? p.2 = some { cls := .none, data := .fields #[] }) ∧ (∀ p ∈ cs, K.lookup p.2 = none) ∧ (∀ p ∈ cs, PySem.W.CodeHd h p.1 p.2) ∧ (∀ (s : Shared) (u : Value), BindsTo s fd ⟨[u], []⟩ [(x, u)]) ∧
    (∀ (H : Hp) (a : Addr) (zs : List Int), zs.length ≤ n → (∀ z ∈ zs, Builtin.Int.intBits z ≤ 1048576) → (∀ p ∈ cs, H p.2 = some (.tbl #[])) → SqL K H a (zs.map V.int) → sp [.ref a] H (fun v _ => v = .bl true) fun _ _ _ => False) ∧
    ∀ base : Heap, K.In base → base.Ns mainGlobals mg → (∀ p ∈ cs, GxR.TabB base mg p.1 p.2) → SysB base → FnG l.prog w K mg base k fa fd [x] sp
theorem walk_ofG {l : PySem.W.OpenLaw} {n k : Nat} {q : Program} {loose : List Str} {XP : (Str → Option Value) → Heap → Prop} {YP : World → Heap → Prop} {d : DefRec} {K : Params → PySem.W.Frag} {x : Str}
    (hn : l.most = some n) (hn2 : n ≤ sizeLine) (hdf : d.params.defaults = []) (hr : Room k callerA) (hsee : importsNone q = true) (hY : ∀ (w : World) (h : Heap), YP w h → (K w.params).In h)
    (F : ∀ (w : World) (mg : Str → Option Value) (fa : Addr) (h : Heap), YP w h → (K w.params).In h → h.Ns mainGlobals mg → (∀ (y : Str) (e : DefRec) (c P : Addr), (recsOf q).find? (fun e => e.name == y) = some e → PySem.W.tabIn (K w.params) y = some (c, P) → PySem.W.CodeHd h c P ∧ h.get? P = some { cls := .none, data := .fields #[] }) → mg d.name = some (.ref fa) → LawAtG l w (K w.params) k n x mg fa h) :
    PySem.W.WalkO q loose XP YP l.row.toRowW d [] (fun f vs => PySem.call f vs) := by
  refine Att.attach_callB hn hdf fun w s0 s1 mg mb fa o pm cd doc a vs zs Gr Y ho hd hcd hmg hobj hi hlen hbits hg => ?_
  obtain ⟨fd, cs, sp, hT, nT, C, hb, hsp, hF⟩ := F w mg fa _ Y (hY w _ Y) Gr.T.g (fun y e c P h1 h2 => PySem.W.tab_of Gr.T (hY w _ Y) h1 h2) hmg
  exact law_callG ⟨hY w _ Y, Gr.T.g, Gr.T.b, Gr.T.builtins, Gr.T.nolimit, hg, hT, nT, C, Gr.T.bmain, let ⟨m, h, _⟩ := (Gr.T.seer hsee).mods; ⟨m, h⟩, hobj, hi, Nat.le_trans hlen hn2⟩ hr hF hb fun H hH hS => hsp H a zs hlen hbits hH hS
end Dl

set_option Elab.async false
set_option linter.all false
set_option maxRecDepth 100000
set_option maxHeartbeats 2000000
namespace Dl
open PySem PySem.Spec PyProof.Rows L2
/-! ### names -/
inductive At : List Str → Nat → Str → Prop
  | z {x l} : At (x :: l) 0 x
  | s {y l i x} : At l i x → At (y :: l) (i + 1) x
theorem At.get {l : List Str} {i : Nat} {x : Str} (h : At l i x) : l[i]? = some x := by
  induction h with
  | z => rfl
  | s _ ih => exact ih
/-- a def that others call -/
structure Df (T : List Addr) (P : Program) (w : World) (K : PySem.W.Frag) (mg : Str → Option Value) (base : Heap) (x : Str) (k n : Nat) (φ : List D → Option D) : Prop where
  ex : ∃ f fd ps, FnG P w K mg base k f fd ps (spD T K n φ) ∧ mg x = some (.ref f) ∧ PySem.W.keepIn K (.ref f) = true ∧ Binds K fd ps []
structure DfS (T : List Addr) (P : Program) (w : World) (K : PySem.W.Frag) (mg : Str → Option Value) (base : Heap) (x : Str) (k n : Nat) (φ : Src → List D → Option (D × Src)) : Prop where
  ex : ∃ f fd ps, FnG P w K mg base k f fd ps (spS T K n φ) ∧ mg x = some (.ref f) ∧ PySem.W.keepIn K (.ref f) = true ∧ Binds K fd ps []
section
variable {T : List Addr} {X : Cx} {x : Str} {k n : Nat} {p pos : Pos} {e : Expr} {es : List Expr} {g : M (List D)}
theorem de_callD {φ : List D → Option D} (d : Df T X.prog X.w X.K X.mg X.base x k n φ) (hgd : X.A.guards = some []) (hr : Room k X.A) (hg : Gl X x) (ha : DA T X (e :: es) g)
    (hdb : (x == ("__debug__" : Str)) = false := by decide) (he : starEach (e :: es) X.env = (false, eval e X.env) :: starEach es X.env := by rfl) (hpl : (backTo pos (starEach es X.env)).any (·.1) = false := by rfl) :
    DE T X (.Call (.Name x p) (e :: es) [] pos) (fCall n φ g) := by
  obtain ⟨f, fd, ps, F, hm, hk, hb⟩ := d.ex
  exact de_call F hgd hr hg hm hk hb ha hdb he hpl
theorem de_callD0 {φ : List D → Option D} (d : Df T X.prog X.w X.K X.mg X.base x k 0 φ) (hgd : X.A.guards = some []) (hr : Room k X.A) (hg : Gl X x)
    (hdb : (x == ("__debug__" : Str)) = false := by decide) : DE T X (.Call (.Name x p) [] [] pos) (fCall 0 φ (pure [])) := by
  obtain ⟨f, fd, ps, F, hm, hk, hb⟩ := d.ex
  exact de_call0 F hgd hr hg hm hk hb hdb
theorem de_callDS {φ : Src → List D → Option (D × Src)} {i : Nat} {y : Str} {py : Pos} (d : DfS T X.prog X.w X.K X.mg X.base x k n φ) (hgd : X.A.guards = some []) (hr : Room k X.A) (hg : Gl X x)
    (hN : At X.N i y) (hv : Vis X.env.scope y) (ha : DA T X es g) (hyd : (y == ("__debug__" : Str)) = false := by decide) (hycd : (y == ("__classdict__" : Str)) = false := by decide)
    (hdb : (x == ("__debug__" : Str)) = false := by decide) (he : starEach (.Name y py :: es) X.env = (false, eval (.Name y py) X.env) :: starEach es X.env := by rfl) (hpl : (backTo pos (starEach es X.env)).any (·.1) = false := by rfl) :
    DE T X (.Call (.Name x p) (.Name y py :: es) [] pos) (fCallS i n φ g) := by
  obtain ⟨f, fd, ps, F, hm, hk, hb⟩ := d.ex
  exact de_callS F hgd hr hg hm hk hb hN.get hv ha hyd hycd hdb he hpl
theorem de_varA {i : Nat} (h : At X.N i x) (hv : Vis X.env.scope x) (hd : (x == ("__debug__" : Str)) = false := by decide) (hcd : (x == ("__classdict__" : Str)) = false := by decide) : DE T X (.Name x pos) (fVar i) := de_var h.get hv hd hcd
theorem ds_setA {i : Nat} {f : M D} {pos' : Pos} (hN : X.N.Nodup) (hi : At X.N i x) (hx : Loc X.env.scope x) (he : DE T X e f) (hs : swapsWith e (some (.Name x pos')) pos.line X.env = pure false := by rfl)
    (hf : X.fn x = true ∨ X.env.scope.names.lookup x = some .local := by first | exact .inl rfl | exact .inr rfl | assumption) : DS T X (.Assign [.Name x pos'] e pos) (gSet i f) := ds_set (pos' := pos') hN hi.get hx he hs hf
theorem dg_nameA {i : Nat} (hN : X.N.Nodup) (hi : At X.N i x) (hx : Loc X.env.scope x) (hf : X.fn x = true ∨ X.env.scope.names.lookup x = some .local := by first | exact .inl rfl | exact .inr rfl | assumption) : DG T X (.Name x pos) [i] (gName' i) := dg_name hN hi.get hx hf
end
theorem room_gen {k : Nat} {A : Around} (r : Room (k + 1) A) (env : Env) : Room k (A.in4.in1.deeper env) := ⟨r.hd, by
  have := r.dp
  show A.depth + 1 + 3 * k + 5 < _
  omega, by
  have := r.un
  show A.units + 1 + 1 + 1 + 1 + 1 + 3 + 16 * k + 200 < _
  omega⟩
theorem units64 {k : Nat} {A : Around} (r : Room k A) : A.units + 64 < cLine := r.units
theorem units70 {k : Nat} {A : Around} (r : Room k A) : A.units + 70 < cLine := by have := r.un; omega
/-! ### derivations by the text -/
end Dl

set_option Elab.async false
set_option linter.all false
set_option maxRecDepth 100000
set_option maxHeartbeats 2000000
namespace Dl
open PySem PySem.Spec PyProof.Rows L2
/-- a block's premises, by computing -/
def blkB (N : List Str) (sc scope : Scope) (own : List (Str × Nat)) : Bool :=
  decide (scope.kind = .function) && (scope.names.all fun y => scope.names.lookup y.1 == some y.2) && (own.all fun p => N[p.2]? == some p.1) &&
  (scope.names.all fun y => y.2 != .free || (sc.names.lookup y.1 == some .cell || sc.names.lookup y.1 == some .free)) &&
  (scope.names.all fun y => !(y.2 == .local || y.2 == .cell) || ((own.map (·.1)).contains y.1 || !N.contains y.1))
theorem blk_of {N : List Str} {sc scope : Scope} {own : List (Str × Nat)} (h : blkB N sc scope own = true) : BlkOk N sc scope own := by
  unfold blkB at h
  simp only [Bool.and_eq_true, List.all_eq_true, beq_iff_eq, decide_eq_true_eq] at h
  obtain ⟨⟨⟨⟨h1, h2⟩, h3⟩, h4⟩, h5⟩ := h
  refine ⟨h1, h2, h3, fun y hy e => ?_, fun y hy e => ?_⟩
  · have q := h4 y hy
    simp only [e, bne_self_eq_false, Bool.false_or, Bool.or_eq_true, beq_iff_eq] at q
    exact q
  · have q := h5 y hy
    have q2 : (y.2 == NameKind.local || y.2 == NameKind.cell) = true := by
      rcases e with e | e <;> simp [e]
    rw [q2] at q
    simp only [Bool.not_true, Bool.false_or, Bool.or_eq_true, Bool.not_eq_true'] at q
    rcases q with q | q
    · exact .inl (by simpa using q)
    · exact .inr (by simpa using q)
end Dl

set_option Elab.async false
set_option linter.all false
set_option maxRecDepth 100000
set_option maxHeartbeats 2000000
namespace Dl
open PySem PySem.Spec PyProof.Rows L2
/-- a def of the text, its code object at c -/
structure FunC (K : PySem.W.Frag) (x qual : Str) (st : Stmt) (f c : Addr) : Prop where
  ex : ∃ (oc : Value) (od : Option Addr) (kV doc pm : Value) (an : Option Addr) (ct : Value) (osl : Array (Option Value)),
    K.lookup f = some ⟨oc, od, .func (PySem.W.fnOf x qual (defArgs st) (defBody st) (defScope st) .none kV doc pm an (.ref c) ct), osl⟩
  cd : PySem.W.codeIn K (.ref c) qual = true
  kp : PySem.W.keepIn K (.ref f) = true
section
variable {T : List Addr} {P : Program} {w : World} {K : PySem.W.Frag} {mg : Str → Option Value} {base : Heap} {x qual : Str} {st : Stmt} {f c : Addr} {N ps : List Str} {k n : Nat} {g : M Out}
theorem df_of (F : FunC K x qual st f c) (hm : mg x = some (.ref f)) (Sc : FnScope N ps (defScope st)) (hn : ps.length = n) (hN : n ≤ N.length)
    (hb : ∀ (kV doc pm : Value) (an : Option Addr) (ct : Value) (us : List Value), us.length = ps.length → bindArgs (PySem.W.fnOf x qual (defArgs st) (defBody st) (defScope st) .none kV doc pm an (.ref c) ct) ⟨us, []⟩ = pure (ps.zip us))
    (body : ∀ (A : Around) (out : List Env) (s : Shared) (H : Hp) (E : XK), A.guards = some [] → Room k (A.deeper (envOfC qual (defScope st) s.heap.objs.size f (.ref c))) →
      DSs T (cxOf CX0 P w K mg base N qual (defScope st) f (.ref c) A out s H E).nox (defBody st) g) : Df T P w K mg base x (k + 1) n (runB N.length g) := by
  obtain ⟨oc, od, kV, doc, pm, an, ct, osl, lk⟩ := F.ex
  exact ⟨f, _, ps, fnG_at lk F.cd Sc (spD_len hn) fun A out s H vs Q E gd hr h => spD_body hN (fun _ _ _ e => e) rfl (body A out s H E gd hr) h, hm, F.kp, Binds.all fun us hl => hb kV doc pm an ct us hl⟩
theorem dfS_of (F : FunC K x qual st f c) (hm : mg x = some (.ref f)) (Sc : FnScope N ps (defScope st)) (hn : ps.length = n + 1) (hN : n + 1 ≤ N.length)
    (hb : ∀ (kV doc pm : Value) (an : Option Addr) (ct : Value) (us : List Value), us.length = ps.length → bindArgs (PySem.W.fnOf x qual (defArgs st) (defBody st) (defScope st) .none kV doc pm an (.ref c) ct) ⟨us, []⟩ = pure (ps.zip us))
    (body : ∀ (A : Around) (out : List Env) (s : Shared) (H : Hp) (E : XK), A.guards = some [] → Room k (A.deeper (envOfC qual (defScope st) s.heap.objs.size f (.ref c))) →
      DSs T (cxOf CX0 P w K mg base N qual (defScope st) f (.ref c) A out s H E).nox (defBody st) g) : DfS T P w K mg base x (k + 1) n (runS N.length g) := by
  obtain ⟨oc, od, kV, doc, pm, an, ct, osl, lk⟩ := F.ex
  exact ⟨f, _, ps, fnG_at lk F.cd Sc (spS_len hn) fun A out s H vs Q E gd hr h => spS_body hN (fun _ _ _ _ e => e) rfl (body A out s H E gd hr) h, hm, F.kp, Binds.all fun us hl => hb kV doc pm an ct us hl⟩
theorem Df.up {φ : List D → Option D} {j : Nat} (d : Df T P w K mg base x j n φ) (h : j ≤ k) : Df T P w K mg base x k n φ := by
  obtain ⟨f, fd, ps, F, r⟩ := d.ex
  exact ⟨f, fd, ps, F.up h, r⟩
end
end Dl

set_option Elab.async false
set_option linter.all false
set_option maxRecDepth 100000
set_option maxHeartbeats 2000000
namespace Dl
open PySem PySem.Spec PyProof.Rows L2
def signsV (x : Str) : List V := x.cps.toList.map fun c => V.str ⟨#[c]⟩
theorem signs_vals {x : Str} {acc : Array Value} (h : ItemsOf (SignAt x) acc x.cps.size) : Vals (signsV x) acc.toList := by
  refine vals_of_at (by simp [signsV, h.1]) fun j v u e1 e2 => ?_
  obtain ⟨c, t, hc, rfl⟩ := h.2 j u (by simpa using e2)
  unfold signsV at e1
  rw [List.getElem?_map, Array.getElem?_toList, hc] at e1
  cases e1
  exact ⟨t, rfl⟩
section
variable {X : Cx}
/-- list(text) -/
theorem call_list_text (hcal : X.calm = true) : CallR X (.type "list") (fun xs H Q => ∃ x : Str, xs = [.str x] ∧ x.cps.size ≤ sizeLine ∧ ∀ p, H p = none → Q (.ref p) (upd H p (.lst (signsV x)))) := by
  intro pins s σ H xs us Q I r h
  obtain ⟨x, rfl, hz, q⟩ := h
  obtain ⟨u, rfl, t, rfl⟩ := r.one
  have hh : X.A.handled = none := I.ok.hd hcal
  refine callType_codes (Q₁ := fun obj s1 => obj = .ref s.heap.objs.size ∧ s1 = { s with heap := s.heap.push { cls := .type "list", data := .seq #[] } }) F.called_list (F.typeCall_list_1 _) F.entry_list_init (code_list_new _ ⟨rfl, rfl⟩) fun obj s1 e1 => ?_
  obtain ⟨rfl, rfl⟩ := e1
  have o1 : (s.heap.push { cls := .type "list", data := .seq #[] }).get? s.heap.objs.size = some { cls := .type "list", data := .seq #[] } := Heap.get?_push_size _ rfl
  refine ⟨⟨_, o1, rfl⟩, F.args_list_init_2 _ _, ?_⟩
  show wpAny _ X.A.in1.in1 (do let old ← Builtin.List.listItems (.ref s.heap.objs.size); Builtin.List.listUpdate (.ref s.heap.objs.size) (fun _ => #[]); letGo old.toList.reverse; Builtin.List.listExtendWith (.ref s.heap.objs.size) (.str x t) .none) _ _ _
  refine wpAny_bind ?_
  unfold Builtin.List.listItems
  refine wpAny_bind (wpAny_seqItems o1 rfl (wpAny_pure ?_))
  show wpAny _ X.A.in1.in1 (updateSeq s.heap.objs.size (fun _ => #[]) >>= fun _ => letGo (#[] : Array Value).toList.reverse >>= fun _ => Builtin.List.listExtendWith (.ref s.heap.objs.size) (.str x t) .none) _ _ _
  refine wpAny_bind (wpAny_updateSeq o1 rfl ?_)
  have o2 := Heap.get?_update_self (Obj.mapSeq (fun _ => (#[] : Array Value))) o1 rfl
  have k2 : ∀ b o, s.heap.get? b = some o → ((s.heap.push { cls := .type "list", data := .seq #[] }).update s.heap.objs.size (Obj.mapSeq (fun _ => (#[] : Array Value)))).get? b = some o := fun b o e =>
    (Heap.get?_update_other _ _ (Nat.ne_of_gt (Heap.lt_size e))).trans (Heap.get?_push_of_some _ e)
  generalize hG : (s.heap.push { cls := .type "list", data := .seq #[] }).update s.heap.objs.size (Obj.mapSeq (fun _ => (#[] : Array Value))) = h2 at o2 k2 ⊢
  have z2 : s.heap.objs.size < h2.objs.size := Heap.lt_size o2
  refine wpAny_bind (wpAny_letGo ?_)
  unfold Builtin.List.listExtendWith
  refine wpAny_bind (wpAny_typeOf (T := "str") (v := .str x t) rfl ?_)
  have n1 : Builtin.List.listSameRef (.ref s.heap.objs.size) (.str x t) = false := rfl
  have n2 : (Value.type "str" == Value.type "list" || Value.type "str" == Value.type "tuple") = false := by decide
  simp only [n1, Bool.or_eq_false_iff.mp n2, Bool.or_false, Bool.false_eq_true, if_false]
  refine wpAny_bind (wpAny_pyIter_str fun o St W hst => ?_)
  refine wpAny_bind (wpAny_holding ?_)
  unfold Builtin.List.listLengthHint
  refine wpAny_bind (wpAny_specialOf (T := "str") (v := .str x t) rfl F.str_len ?_)
  wp_delta
  refine wpAny_bind (wpAny_isInstance (T := "str") (v := .str x t) (b := true) rfl (by rw [isSubtype_type]; kernel_rfl) ?_)
  show wpAny _ X.A.in1.in1 (typeOf (Value.str x t) >>= _) _ _ _
  refine wpAny_bind (wpAny_typeOf (T := "str") (v := .str x t) rfl ?_)
  refine wpAny_pure ?_
  rw [if_neg (by decide)]
  have hS : s.heap.objs.size ∉ [h2.objs.size] := fun hm => absurd (List.mem_singleton.mp hm) (Nat.ne_of_lt z2)
  refine wpAny_pure ⟨plainId_quiet F.plain_extend_loop _, codeAny_extend_loopS (W X.A.in1.in1 hh).toS hz _ hS _ x.cps.size 0 _ _ _ rfl (Nat.zero_le _) hst (Heap.get?_push_of_some _ o2) (ItemsOf.nil _) fun s' acc' c' hm hS' hacc => ?_⟩
  have kp : ∀ b ob, s.heap.get? b = some ob → s'.heap.get? b = some ob := fun b ob e => hm.heap b ob (fun hb => by
    have hlt := Heap.lt_size e
    rcases List.mem_cons.mp hb with z | z
    · exact absurd hlt (z ▸ Nat.lt_irrefl _)
    · rw [List.mem_singleton.mp z] at hlt
      exact absurd (Nat.lt_trans hlt z2) (Nat.lt_irrefl _)) (Heap.get?_push_of_some _ (k2 b ob e))
  obtain ⟨hp, gg, dd, tk, oo⟩ := s'
  have e1 : gg = s.gens := hm.gens
  have e2 : dd = s.drawn := hm.drawn
  have e3 : oo = s.os := hm.os
  subst e1 e2 e3
  have rv := signs_vals hacc
  have J1 : Inv X pins σ (upd H s.heap.objs.size (.lst (signsV x))) { s with heap := hp, toks := tk } := I.laid kp (Nat.le_refl _) ⟨by rw [rv.length, Array.length_toList, hacc.1]; exact hz, acc'.toList, c', rv, hS'⟩
  exact ⟨rfl, .ref s.heap.objs.size, _, J1, rfl, q _ (I.hok.fresh (Nat.le_refl _))⟩
end
end Dl

set_option Elab.async false
set_option linter.all false
set_option maxRecDepth 100000
set_option maxHeartbeats 2000000
namespace Dl
open PySem PySem.Spec PyProof.Rows L2
section
variable {T : List Addr} {X : Cx}
/-- list(x) of a list, a tuple, a text -/
def φListA : List D → Option (List D)
  | [.str x] => if x.length ≤ 16777216 then some (signsOf x) else none
  | ds => φList ds
theorem rep_signs {K : PySem.W.Frag} {F : Hp} {x : Str} : RepL K F (signsOf x) (signsV x) := by
  unfold signsOf signsV
  exact RepL.map (f := fun c => PyData.str ⟨#[c]⟩) (g := fun c => V.str ⟨#[c]⟩) (fun _ => rfl) _
theorem call_listA (hc : X.calm = true) : CallR X (.type "list") (rDl X.K φListA) := by
  intro pins s σ H xs us Q I r h
  obtain ⟨F, ds, z, sb, hx, hz, q⟩ := h
  unfold φListA at hz
  split at hz
  · rename_i x
    obtain ⟨v, rfl, hv⟩ := rep1 hx
    cases (show v = .str x from hv)
    by_cases hl : x.length ≤ 16777216
    · rw [if_pos hl] at hz
      cases hz
      exact call_list_text hc pins s σ H _ us Q I r ⟨x, rfl, sizeL hl, fun p hp => q p _ H F (.refl F H) hp rep_signs⟩
    · rw [if_neg hl] at hz; cases hz
  · exact call_listD pins s σ H xs us Q I r ⟨F, ds, z, sb, hx, hz, q⟩
end
/-! ### dict displays, the keys written texts -/
theorem upd_era {H : Hp} {p : Addr} {o : HO} : upd (era H p) p o = upd H p o := by
  funext a
  by_cases e : a = p
  · subst e; rw [upd_same, upd_same]
  · rw [upd_ne e, upd_ne e, era_ne e]
theorem merge_new : ∀ (more acc : List (Key × V)), (more.map (·.1)).Nodup → (∀ k ∈ more.map (·.1), k ∉ acc.map (·.1)) → mergeK acc more = acc ++ more
  | [], acc, _, _ => by simp [mergeK]
  | (k, v) :: r, acc, nd, ap => by
    have h1 : putK acc k v = acc ++ [(k, v)] := by
      unfold putK
      rw [if_neg]
      intro z
      obtain ⟨y, hy, e⟩ := List.any_eq_true.mp z
      exact ap k (by simp) (List.mem_map.mpr ⟨y, hy, of_decide_eq_true e⟩)
    have nd' := List.nodup_cons.mp (by simpa using nd : (k :: r.map (·.1)).Nodup)
    have ih := merge_new r (acc ++ [(k, v)]) nd'.2 fun k' hk' => by
      rw [List.map_append, List.mem_append]
      rintro (z | z)
      · exact ap k' (by simp only [List.map_cons, List.mem_cons]; exact .inr hk') z
      · have : k' = k := by simpa using z
        subst this
        exact nd'.1 hk'
    have : mergeK acc ((k, v) :: r) = mergeK (putK acc k v) r := rfl
    rw [this, h1, ih, List.append_assoc]
    rfl
section
variable {T : List Addr} {X : Cx}
def RepP (K : PySem.W.Frag) (F : Hp) : List (Str × D) → List (V × V) → Prop
  | [], ps => ps = []
  | (k, d) :: r, ps => ∃ v ps', ps = (.str k, v) :: ps' ∧ Rep K F d v ∧ RepP K F r ps'
theorem RepP.mono {K : PySem.W.Frag} {F F' : Hp} (e : Sub F F') : ∀ {kds : List (Str × D)} {ps : List (V × V)}, RepP K F kds ps → RepP K F' kds ps
  | [], _, h => h
  | (k, d) :: r, _, ⟨v, ps', h1, h2, h3⟩ => ⟨v, ps', h1, h2.mono e, RepP.mono e h3⟩
theorem RepP.es {K : PySem.W.Frag} {F : Hp} : ∀ {kds : List (Str × D)} {ps : List (V × V)}, RepP K F kds ps → ∃ es : List (Key × V), ps = es.map (fun kv => (kV kv.1, kv.2)) ∧ es.map (·.1) = kds.map (fun p => Sum.inr p.1) ∧ RepE K F (kds.map fun p => (.str p.1, p.2)) es
  | [], _, h => ⟨[], h, rfl, rfl⟩
  | (k, d) :: r, _, ⟨v, ps', h1, h2, h3⟩ => by
    obtain ⟨es, e1, e2, e3⟩ := RepP.es h3
    exact ⟨(.inr k, v) :: es, by rw [h1, e1]; rfl, by simp [e2], .inr k, v, es, rfl, rfl, h2, e3⟩
def DKs (T : List Addr) (X : Cx) (pos : Pos) (keys : List (Option Expr)) (values : List Expr) (g : M (List (Str × D))) : Prop := ∃ trs, PPs X pos keys values trs ∧ ∀ w G F0 σ H F s kds s', Rel T X.K w G F0 σ H F s → g s = some (kds, s') →
  ∀ Q : List (V × V) → Hp → Prop, (∀ ps H' F', Rel T X.K w G F0 σ H' F' s' → Sub F F' → RepP X.K F' kds ps → Q ps H') → tPairs trs σ H Q
theorem dks_nil {pos : Pos} : DKs T X pos [] [] (pure []) := ⟨[], pps_nil, fun w G F0 σ H F s kds s' r h Q q => by cases h; exact q [] H F r (Sub.refl F) rfl⟩
def fKey (k : Str) (f : M D) (g : M (List (Str × D))) : M (List (Str × D)) := do
  let d ← f
  let r ← g
  pure ((k, d) :: r)
theorem dks_cons {pos p : Pos} {k : Str} {j : Nat} {v : Expr} {ks : List (Option Expr)} {vs : List Expr} {f : M D} {g : M (List (Str × D))} (hv : DE T X v f) (hr : DKs T X pos ks vs g) :
    DKs T X pos (some (.Constant (.str k) j p) :: ks) (v :: vs) (fKey k f g) := by
  obtain ⟨tv, pv, rv⟩ := hv
  obtain ⟨trs, pr, rr⟩ := hr
  refine ⟨_, pps_cons pe_str pv pr, fun w G F0 σ H F s kds s' r h Q q => ?_⟩
  obtain ⟨d, s1, h1, h2⟩ := M.bind_some h
  obtain ⟨kd, s2, h3, h4⟩ := M.bind_some h2
  cases h4
  refine rv w G F0 σ H F s d s1 r h1 _ fun x H1 F1 r1 e1 p1 => rr w G F0 σ H1 F1 s1 kd s' r1 h3 _ fun ps H2 F2 r2 e2 p2 => ?_
  exact q _ H2 F2 r2 (e1.trans e2) ⟨x, ps, rfl, p1.mono e2, p2⟩
def fDict (g : M (List (Str × D))) : M D := do
  let kds ← g
  if (kds.map (·.1)).Nodup ∧ kds.length ≤ 15 then pure (.dict (kds.map fun p => (.str p.1, p.2))) else fun _ => none
theorem de_dict {pos : Pos} {keys : List (Option Expr)} {values : List Expr} {g : M (List (Str × D))} (h : DKs T X pos keys values g) (ha : keys.all (·.isSome) = true := by rfl) (hl : keys.length = values.length := by rfl) (h0 : keys ≠ [] := by simp) (h15 : keys.length ≤ 15 := by decide) :
    DE T X (.Dict keys values pos) (fDict g) := by
  obtain ⟨trs, pp, rr⟩ := h
  refine ⟨_, pe_disp pp ha hl h0 h15, fun w G F0 σ H F s d s' r k Q q p hp => ?_⟩
  obtain ⟨kds, s1, k1, k2⟩ := M.bind_some k
  obtain ⟨⟨hnd, hn⟩, k2⟩ := ite_some k2
  cases k2
  have fp : F p = none := r.sub.isNone hp
  have f0 : F0 p = none := r.exF.isNone fp
  have gp : G p = none := r.keep.isNone hp
  refine rr w (upd G p (.dK [])) F0 σ (upd H p (.dK [])) F s kds s' (r.newG hp) k1 _ fun ps H2 F2 r2 e2 p2 => ?_
  obtain ⟨es, e1, ek, re⟩ := p2.es
  have hl2 : es.length = kds.length := by
    have := congrArg List.length ek
    simpa using this
  refine ⟨r2.keep p _ upd_same, es, e1, by rw [hl2]; exact hn, ?_⟩
  have r3 := r2.erase f0 gp
  have hm : mergeK [] es = es := by
    have hk : (es.map (·.1)).Nodup := by
      rw [ek, show kds.map (fun p => (Sum.inr p.1 : Key)) = (kds.map (·.1)).map Sum.inr by simp [List.map_map]]
      exact List.Pairwise.map Sum.inr (fun a b h e => h (Sum.inr.inj e)) hnd
    have := merge_new es [] hk (fun k _ => by simp)
    simpa using this
  rw [hm, ← upd_era]
  have r4 := r3.newF (o := .dK es) (p := p) era_same
  exact q _ _ _ r4 (e2.trans (Sub.new (r3.sub.isNone era_same))) ⟨p, es, rfl, upd_same, re.mono (Sub.new (r3.sub.isNone era_same))⟩
theorem de_dict0 {pos : Pos} : DE T X (.Dict [] [] pos) (fC (.dict [])) := by
  refine ⟨_, pe_dnewK, fun w G F0 σ H F s d s' r h Q q p hp => ?_⟩
  cases h
  exact q _ _ _ (r.newF hp) (Sub.new (r.sub.isNone hp)) ⟨p, [], rfl, upd_same, rfl⟩
end
end Dl

set_option Elab.async false
set_option linter.all false
set_option maxRecDepth 100000
set_option maxHeartbeats 2000000
namespace Dl
open PySem PySem.Spec PyProof.Rows L2
/-! ### texts in lists: join, count -/
def textsOf : List D → Option (List Str)
  | [] => some []
  | .str x :: r => (textsOf r).map (x :: ·)
  | _ => none
theorem textsOf_eq : ∀ {ds : List D} {ys : List Str}, textsOf ds = some ys → ds = ys.map PyData.str
  | [], ys, h => by cases h; rfl
  | .str x :: r, ys, h => by
    have h' : (textsOf r).map (x :: ·) = some ys := h
    obtain ⟨zs, hz, e⟩ := Option.map_eq_some_iff.mp h'
    rw [← e, textsOf_eq hz]; rfl
theorem texts_vals {K : PySem.W.Frag} {F : Hp} : ∀ {ys : List Str} {vs : List V}, RepL K F (ys.map PyData.str) vs → vs = ys.map V.str
  | [], vs, h => h
  | y :: ys, vs, ⟨v, r, h1, h2, h3⟩ => by rw [h1, show v = .str y from h2, texts_vals h3]; rfl
section
variable {T : List Addr} {X : Cx} {a b : Expr} {f g : M D}
def φJoin : D → D → Option D
  | .str a, .list ds => match textsOf ds with
    | some ys => if (ys.map (·.length)).sum + ys.length * a.length ≤ 16777216 then some (.str (Txt.join a ys)) else none
    | none => none
  | _, _ => none
theorem de_join {apos pos : Pos} (ha : DE T X a f) (hb : DE T X b g) (hs : starEach [b] X.env = [(false, eval b X.env)] := by rfl) (hbase : attributeBase a "join" X.env (eval a X.env) = eval a X.env := by rfl) (hline : (apos.endLine == pos.line) = true := by rfl) :
    DE T X (.Call (.Attribute a "join" apos) [b] [] pos) (fBin φJoin f g) := by
  obtain ⟨ta, pa, ra⟩ := ha
  obtain ⟨tb, pb, rb⟩ := hb
  refine ⟨_, pe_join pa pb hs hbase hline, fun w G F0 σ H F s d s' r h Q q => ?_⟩
  obtain ⟨d1, s1, h1, h2⟩ := M.bind_some h
  obtain ⟨d2, s2, h3, h4⟩ := M.bind_some h2
  obtain ⟨h5, h6⟩ := M.lift_some h4
  dsimp only at h5 h6
  subst h6
  refine ra w G F0 σ H F s d1 s1 r h1 _ fun v H1 F1 r1 e1 p1 => ?_
  cases d1 with
  | str x =>
    cases d2 with
    | list ds =>
      have h7 : (match textsOf ds with | some ys => if (ys.map (·.length)).sum + ys.length * x.length ≤ 16777216 then some (.str (Txt.join x ys)) else none | none => none) = some d := h5
      cases hy : textsOf ds with
      | none => rw [hy] at h7; cases h7
      | some ys =>
        rw [hy] at h7
        by_cases hz : (ys.map (·.length)).sum + ys.length * x.length ≤ 16777216
        · have h8 : (if (ys.map (·.length)).sum + ys.length * x.length ≤ 16777216 then some (PyData.str (Txt.join x ys)) else none) = some d := h7
          rw [if_pos hz] at h8
          cases h8
          refine ⟨⟨x, p1⟩, rb w G F0 σ H1 F1 s1 _ _ r1 h3 _ fun u H2 F2 r2 e2 p2 => ?_⟩
          obtain ⟨p, vs, e, k1, k2⟩ := p2
          rw [textsOf_eq hy] at k2
          refine ⟨x, p, ys, p1, by rw [e], .inl (.inl (.inl ?_)), hz, q _ H2 F2 r2 (e1.trans e2) rfl⟩
          rw [← texts_vals k2]
          exact r2.sub _ _ k1
        · have h8 : (if (ys.map (·.length)).sum + ys.length * x.length ≤ 16777216 then some (PyData.str (Txt.join x ys)) else none) = some d := h7
          rw [if_neg hz] at h8
          cases h8
    | _ => cases h5
  | _ => cases h5
def φCount : D → D → Option D
  | .list ds, .str k => match textsOf ds with
    | some ys => some (.int (countIn (.str k) (ys.map PyData.str)))
    | none => none
  | _, _ => none
theorem mt_countS : MtR X "list.count" (fun x xs H Q => ∃ (p : Addr) (ys : List Str) (k : Str), x = .ref p ∧ xs = [.str k] ∧ SqL X.K H p (ys.map V.str) ∧ Q (.int (countIn (.str k) (ys.map PyData.str))) H) := by
  intro pins s σ H x xs v us Q I rx rxs h
  obtain ⟨p, ys, k, rfl, rfl, hs, q⟩ := h
  cases rx
  obtain ⟨u, rfl, t, rfl⟩ := rxs.one
  obtain ⟨its, rv, ⟨o, n, ho, hc, hdn, hd⟩, hlen⟩ := I.list hs
  exact count_list_strs ⟨o, ho, hc, n, hd⟩ (strs_of_vals rv) ⟨.int _, H, I.tok _, ⟨s.toks, rfl⟩, q⟩
theorem de_count {apos cpos : Pos} (ha : DE T X a f) (hb : DE T X b g) (hbase : attributeBase a "count" X.env (eval a X.env) = eval a X.env := by rfl)
    (hfew : ((backTo cpos (starEach [b] X.env)).all (fun x => !x.1) && (backToKw cpos (keywordEach [] X.env)).all (fun x => x.1.isSome) && decide ([b].length + ([] : List Keyword).length + (if ([] : List Keyword).isEmpty then 0 else 1) < 30)) = true := by rfl)
    (hline : (apos.endLine == cpos.line) = true := by rfl) (hs : starEach [b] X.env = (false, eval b X.env) :: starEach [] X.env := by rfl) (hplain : (backTo cpos (starEach [] X.env)).any (·.1) = false := by rfl) :
    DE T X (.Call (.Attribute a "count" apos) [b] [] cpos) (fBin φCount f g) := by
  obtain ⟨ta, pa, ra⟩ := ha
  obtain ⟨tb, pb, rb⟩ := hb
  refine ⟨_, pe_bm PySem.F.plainAttrs_list PySem.F.slot_list_count PySem.F.type_list_count mt_countS pa (pa_cons pb pa_nil hs) hbase hfew hline hs hplain, fun w G F0 σ H F s d s' r h Q q => ?_⟩
  obtain ⟨d1, s1, h1, h2⟩ := M.bind_some h
  obtain ⟨d2, s2, h3, h4⟩ := M.bind_some h2
  obtain ⟨h5, h6⟩ := M.lift_some h4
  dsimp only at h5 h6
  subst h6
  refine ra w G F0 σ H F s d1 s1 r h1 _ fun v H1 F1 r1 e1 p1 => ?_
  cases d1 with
  | list ds =>
    cases d2 with
    | str k =>
      have h7 : (match textsOf ds with | some ys => some (.int (countIn (.str k) (ys.map PyData.str))) | none => none) = some d := h5
      cases hy : textsOf ds with
      | none => rw [hy] at h7; cases h7
      | some ys =>
        rw [hy] at h7
        cases h7
        obtain ⟨p, vs, rfl, k1, k2⟩ := p1
        rw [textsOf_eq hy] at k2
        have hv := texts_vals k2
        subst hv
        refine ⟨.inl ⟨rfl, _, .inl (.inl (r1.sub _ _ k1))⟩, rb w G F0 σ H1 F1 s1 _ _ r1 h3 _ fun u H2 F2 r2 e2 p2 => ?_⟩
        exact ⟨p, ys, k, rfl, by rw [show u = .str k from p2], .inl (.inl (r2.sub _ _ (e2 _ _ k1))), q _ H2 F2 r2 (e1.trans e2) rfl⟩
    | _ => cases h5
  | _ => cases h5
end
end Dl

set_option Elab.async false
set_option linter.all false
set_option maxRecDepth 100000
set_option maxHeartbeats 2000000
namespace Dl
open PySem PySem.Spec PyProof.Rows L2
/-! ### a def that calls itself: by levels -/
section
variable {T : List Addr} {P : Program} {w : World} {K : PySem.W.Frag} {mg : Str → Option Value} {base : Heap} {x qual : Str} {st : Stmt} {f c : Addr} {ps : List Str} {k n j : Nat}
theorem df_none (F : FunC K x qual st f c) (hm : mg x = some (.ref f)) (hn : ps.length = n)
    (hb : ∀ (kV doc pm : Value) (an : Option Addr) (ct : Value) (us : List Value), us.length = ps.length → bindArgs (PySem.W.fnOf x qual (defArgs st) (defBody st) (defScope st) .none kV doc pm an (.ref c) ct) ⟨us, []⟩ = pure (ps.zip us)) :
    Df T P w K mg base x k n (fun _ => none) := by
  obtain ⟨oc, od, kV, doc, pm, an, ct, osl, lk⟩ := F.ex
  refine ⟨f, _, ps, ⟨spD_len hn, fun A out s H args us vs Q E g r e0 hbd rv h => ?_⟩, hm, F.kp, Binds.all fun us hl => hb kV doc pm an ct us hl⟩
  obtain ⟨_, _, _, _, _, _, z, _⟩ := h
  cases z
theorem dfS_none (F : FunC K x qual st f c) (hm : mg x = some (.ref f)) (hn : ps.length = n + 1)
    (hb : ∀ (kV doc pm : Value) (an : Option Addr) (ct : Value) (us : List Value), us.length = ps.length → bindArgs (PySem.W.fnOf x qual (defArgs st) (defBody st) (defScope st) .none kV doc pm an (.ref c) ct) ⟨us, []⟩ = pure (ps.zip us)) :
    DfS T P w K mg base x k n (fun _ _ => none) := by
  obtain ⟨oc, od, kV, doc, pm, an, ct, osl, lk⟩ := F.ex
  refine ⟨f, _, ps, ⟨spS_len hn, fun A out s H args us vs Q E g r e0 hbd rv h => ?_⟩, hm, F.kp, Binds.all fun us hl => hb kV doc pm an ct us hl⟩
  obtain ⟨_, _, _, _, _, _, _, _, _, _, _, _, z, _⟩ := h
  cases z
theorem DfS.up {φ : Src → List D → Option (D × Src)} (d : DfS T P w K mg base x j n φ) (h : j ≤ k) : DfS T P w K mg base x k n φ := by
  obtain ⟨f, fd, ps, F, r⟩ := d.ex
  exact ⟨f, fd, ps, F.up h, r⟩
end
end Dl

set_option Elab.async false
set_option linter.all false
set_option maxRecDepth 100000
set_option maxHeartbeats 2000000
/-! Dl31: sorted(..) of a list or a tuple of alike data. -/
namespace Dl
open PySem PySem.Spec PyProof.Rows PySem.Calls L2
section
variable {prog : Program} {w : World} {A : Around} {E : Value → Shared → Prop} {s : Shared} {β : Type}
/-- sorted(xs) over a list's or a tuple's items -/
theorem sorted_seq {R : Value → β → Prop} {enc : β → PyData} {bs : List β} {l : Addr} {o : Obj} {n : Nat} {T : String} {vs : List Value} {Q : Value → Shared → Prop} (hT : T = "list" ∨ T = "tuple") (ho : s.heap.get? l = some o) (hc : o.cls = .type T) (hd : o.data = .seq vs.toArray n)
    (hL : bs.length ≤ sizeLine) (e : PySem.W.EachIs R vs bs) (er : PySem.W.EachIs (fun v b => ∃ as, Reads s.heap v (enc b) as) vs bs) (hal : PySem.W.AllAlike (bs.map enc)) (hk : PySem.W.Sortable (bs.map enc)) (hu : ∀ b, b ∈ bs → A.units + 2 + (enc b).depth < cLine)
    (h : ∀ h1 : Heap, (∀ b o', s.heap.get? b = some o' → h1.get? b = some o') → ∀ d, d = h1.objs.size → ∀ out c h', (∀ b o', s.heap.get? b = some o' → h'.get? b = some o') → h'.get? d = some (seqObj "list" (List.toArray out) c) → out.length = bs.length → PySem.W.EachIs R out (bs.mergeSort (PySem.W.dataLe false enc)) → Q (.ref d) { s with heap := h' }) :
    wpAny (model prog w) A (call (.builtin "sorted") [.ref l]) Q E s := by
  have hlen : vs.length = bs.length := e.length
  have hL' : vs.length ≤ sizeLine := by rw [hlen]; exact hL
  refine call_function_entry_kw kind_sorted plain_sorted entry_sorted (args_sorted1 _) ?_
  unfold Builtin.«sorted»
  refine wpAny_bind (m := checkCount "sorted" 1 1 _) (wpAny_pure ?_)
  refine wpAny_bind (wpAny_collect_seq l hT ho hc hd (fun h1 k1 => ?_) (by rw [List.size_toArray]; exact hL'))
  rw [List.toList_toArray]
  refine wpAny_bind (wpAny_newList ?_ hL')
  have hoL : (h1.push (seqObj "list" vs.toArray 0)).get? h1.objs.size = some (seqObj "list" vs.toArray 0) := Heap.get?_push_size _ rfl
  show wpAny _ _ _ _ _ { s with heap := h1.push (seqObj "list" vs.toArray 0) }
  have old : ∀ b o', s.heap.get? b = some o' → (PySem.W.sortingHeap (h1.push (seqObj "list" vs.toArray 0)) h1.objs.size vs).get? b = some o' := fun b o' q =>
    PySem.W.sortingHeap_old (Nat.ne_of_lt (Heap.lt_size (k1 b o' q))) (Heap.get?_push_of_some _ (k1 b o' q))
  have er' : PySem.W.EachIs (fun v b => ∃ as, Reads (PySem.W.sortingHeap (h1.push (seqObj "list" vs.toArray 0)) h1.objs.size vs) v (enc b) as) vs bs := er.mono fun _ _ ⟨as, r⟩ => ⟨as, PyProof.Rows.Reads.keeps old r⟩
  have S : PySem.W.SortsAt prog w A.in1.in1 { s with heap := PySem.W.sortingHeap (h1.push (seqObj "list" vs.toArray 0)) h1.objs.size vs } (PySem.W.dataKind (PySem.W.sortingHeap (h1.push (seqObj "list" vs.toArray 0)) h1.objs.size vs) (bs.map enc)) vs :=
    PySem.W.SortsAt.data (s := { s with heap := PySem.W.sortingHeap (h1.push (seqObj "list" vs.toArray 0)) h1.objs.size vs }) (PySem.W.each_map (R := fun v d => ∃ as, Reads (PySem.W.sortingHeap (h1.push (seqObj "list" vs.toArray 0)) h1.objs.size vs) v d as) enc er') hal hk (PySem.W.bound_map (A := A.in1.in1) hu)
  have fin := h h1 k1 h1.objs.size rfl (PySem.W.sortVals (PySem.W.dataKind (PySem.W.sortingHeap (h1.push (seqObj "list" vs.toArray 0)) h1.objs.size vs) (bs.map enc)) false vs vs)
  obtain ⟨c, hcc⟩ := PyProof.Rows.sortedHeap_at (h := h1.push (seqObj "list" vs.toArray 0)) (vs := vs) (out := (PySem.W.sortVals (PySem.W.dataKind (PySem.W.sortingHeap (h1.push (seqObj "list" vs.toArray 0)) h1.objs.size vs) (bs.map enc)) false vs vs).toArray) hoL
  refine wpAny_bind (wpAny_holding (wpAny_call_entry_kw slot_list_sort ⟨_, hoL, rfl⟩ entry_list_sort ?body (args_list_sort _)))
  case body =>
    refine PySem.W.list_sort_vals (s := { s with heap := h1.push (seqObj "list" vs.toArray 0) }) hoL S hL' ?_
    refine ⟨_, rfl, wpAny_pure ⟨_, rfl, ?_⟩⟩
    refine fin c _ (fun b o' q => ?_) hcc (by rw [PySem.W.sortVals_length false rfl]; exact hlen) (PySem.W.sortVals_data false e er' hal)
    rw [PyProof.Rows.sortedHeap_old (Nat.ne_of_lt (Heap.lt_size (k1 b o' q))) (by rw [Heap.size_push]; exact Nat.lt_succ_of_lt (Heap.lt_size (k1 b o' q)))]
    exact Heap.get?_push_of_some _ (k1 b o' q)
end
/-- the order of alike data -/
abbrev leD : D → D → Bool := PySem.W.dataLe false (fun d => d)
def okSort (ds : List D) : Bool := (ds.all fun d => ds.all fun e => PySem.W.alike d e) && ((ds.all fun d => match d with | .tuple (_ :: _) => true | _ => false) || (ds.all fun d => match d with | .tuple _ => false | .none => false | _ => true)) && (ds.all fun d => decide (d.depth ≤ 60)) && decide (ds.length ≤ 16777216)
def sortD (ds : List D) : List D := ds.mergeSort leD
def φSort : List D → Option (List D)
  | [.list ds] => if okSort ds = true then some (sortD ds) else none
  | [.tuple ds] => if okSort ds = true then some (sortD ds) else none
  | _ => none
theorem okSort_alike {ds : List D} (h : okSort ds = true) : PySem.W.AllAlike ds ∧ PySem.W.Sortable ds ∧ (∀ d ∈ ds, d.depth ≤ 60) ∧ ds.length ≤ 16777216 := by
  unfold okSort at h
  simp only [Bool.and_eq_true, Bool.or_eq_true, List.all_eq_true, decide_eq_true_eq] at h
  obtain ⟨⟨⟨h1, h2⟩, h3⟩, h4⟩ := h
  refine ⟨h1, ?_, h3, h4⟩
  rcases h2 with h2 | h2
  · refine .inl fun d hd => ?_
    have := h2 d hd
    split at this
    · exact ⟨_, _, rfl⟩
    · cases this
  · refine .inr fun d hd => ?_
    have := h2 d hd
    split at this
    · cases this
    · cases this
    · rename_i n1 n2
      exact ⟨n2, n1⟩
section
variable {X : Cx}
theorem zip_each {K : PySem.W.Frag} {F : Hp} : ∀ {ds : List D} {vs : List V} {us : List Value}, RepL K F ds vs → Vals vs us → PySem.W.EachIs (fun u (p : V × D) => RelV p.1 u ∧ Rep K F p.2 p.1) us (vs.zip ds)
  | [], _, _, h, r => by
    cases (show _ = [] from h)
    cases r
    exact .nil
  | d :: ds, _, _, ⟨v, r', e, h1, h2⟩, r => by
    subst e
    cases r with
    | cons r1 r2 => exact .cons ⟨r1, h1⟩ (zip_each h2 r2)
theorem each_back {K : PySem.W.Frag} {F : Hp} : ∀ {ps : List (V × D)} {us : List Value}, PySem.W.EachIs (fun u (p : V × D) => RelV p.1 u ∧ Rep K F p.2 p.1) us ps → RepL K F (ps.map (·.2)) (ps.map (·.1)) ∧ Vals (ps.map (·.1)) us
  | [], _, h => by cases h; exact ⟨rfl, .nil⟩
  | p :: ps, _, h => by
    cases h with
    | cons h1 h2 =>
      obtain ⟨a, b⟩ := each_back h2
      exact ⟨⟨_, _, rfl, h1.2, a⟩, .cons h1.1 b⟩
theorem zip_snd {K : PySem.W.Frag} {F : Hp} : ∀ {ds : List D} {vs : List V}, RepL K F ds vs → (vs.zip ds).map (·.2) = ds
  | [], _, h => by cases (show _ = [] from h); rfl
  | d :: ds, _, ⟨v, r', e, h1, h2⟩ => by
    subst e
    rw [List.zip_cons_cons, List.map_cons, zip_snd h2]
theorem sort_go (hU : X.A.units + 70 < cLine) (hsb : SysB X.base) {pins : List (Addr × Obj)} {σ : L2.St} {H F : Hp} {s : Shared} (I : Inv X pins σ H s) (sb : Sub F H) {p : Addr} {o : Obj} {n : Nat} {T : String} {ds : List D} {vs : List V} {its : List Value} {Q : VK}
    (hT : T = "list" ∨ T = "tuple") (ho : s.heap.get? p = some o) (hc : o.cls = .type T) (hd : o.data = .seq its.toArray n) (hr : RepL X.K F ds vs) (rv : Vals vs its) (hok : okSort ds = true)
    (q : ∀ d us, H d = none → RepL X.K F (sortD ds) us → Q (.ref d) (upd H d (.lst us))) : wpAny (model X.prog X.w) X.A (call (.builtin "sorted") [.ref p]) (EP X pins σ Q) X.xe s := by
  obtain ⟨h1, h2, h3, h4⟩ := okSort_alike hok
  have e := zip_each hr rv
  have hs := zip_snd hr
  have hlen : (vs.zip ds).length = ds.length := by rw [← hs, List.length_map, hs]
  refine sorted_seq (R := fun u (p : V × D) => RelV p.1 u ∧ Rep X.K F p.2 p.1) (enc := fun p => p.2) (bs := vs.zip ds) hT ho hc hd (by rw [hlen]; exact sizeL h4) e (e.mono fun u p hp => ?_) (by rw [hs]; exact h1) (by rw [hs]; exact h2) (fun b hb => ?_) fun hp1 k1 d ed out c h' k' hd' hl eo => ?_
  · obtain ⟨as, r, _⟩ := Rep.reads hsb I sb p.2 p.1 u hp.2 hp.1
    exact ⟨as, r⟩
  · have hm : b.2 ∈ ds := by rw [← hs]; exact List.mem_map.mpr ⟨b, hb, rfl⟩
    have := h3 _ hm
    omega
  · have hn : H d = none := by rw [ed]; exact (I.hok.kept k1).fresh (Nat.le_refl _)
    have hg : s.heap.get? d = none := by
      cases z : s.heap.get? d with
      | none => rfl
      | some o' =>
        have z2 := Heap.lt_size (k1 _ _ z)
        rw [ed] at z2
        exact absurd z2 (Nat.lt_irrefl _)
    obtain ⟨b1, b2⟩ := each_back eo
    have em : ((vs.zip ds).mergeSort (PySem.W.dataLe false fun p => p.2)).map (·.2) = sortD ds := by
      unfold sortD
      have hm := List.map_mergeSort (r := PySem.W.dataLe false fun p : V × D => p.2) (s := leD) (f := fun p : V × D => p.2) (l := vs.zip ds) (fun a _ b _ => rfl)
      rw [hm, hs]
    rw [em] at b1
    refine ⟨.ref d, upd H d (.lst (((vs.zip ds).mergeSort (PySem.W.dataLe false fun p => p.2)).map (·.1))), I.laidN (t' := s.toks) k' hg hn ⟨?_, out, c, b2, hd'⟩, rfl, q d _ hn b1⟩
    rw [List.length_map, List.length_mergeSort, hlen]
    exact sizeL h4
theorem call_sortedA (hU : X.A.units + 70 < cLine) (hsb : SysB X.base) : CallR X (.builtin "sorted") (rDl X.K φSort) := by
  intro pins s σ H xs us Q I r h
  obtain ⟨F, ds, z, sb, hx, hz, q⟩ := h
  unfold φSort at hz
  split at hz
  · rename_i es
    split at hz
    · rename_i hok
      cases hz
      obtain ⟨v, rfl, p, vs, rfl, h1, h2⟩ := rep1 hx
      obtain ⟨u, rfl, ru⟩ := vals1 r
      obtain rfl : u = Value.ref p := ru
      obtain ⟨hz, its, n, rv, ho⟩ := (show ObjOk X.prog X.w H s.heap p (.lst vs) from I.hok p _ (sb _ _ h1))
      exact sort_go hU hsb I sb (.inl rfl) ho rfl rfl h2 rv hok fun d us hn hr => q d us H F (.refl F H) hn hr
    · cases hz
  · rename_i es
    split at hz
    · rename_i hok
      cases hz
      obtain ⟨v, rfl, p, vs, rfl, h1, h2⟩ := rep1 hx
      obtain ⟨u, rfl, ru⟩ := vals1 r
      obtain rfl : u = Value.ref p := ru
      obtain ⟨its, rv, ⟨o, ho, hc, n, hd⟩, _⟩ := I.tuple (sub_t sb h1)
      exact sort_go hU hsb I sb (.inr rfl) ho hc hd h2 rv hok fun d us hn hr => q d us H F (.refl F H) hn hr
    · cases hz
  · cases hz
end
end Dl

set_option Elab.async false
set_option linter.all false
set_option maxRecDepth 100000
set_option maxHeartbeats 2000000
/-! Dl32: in, not in over lists and tuples of any data without dicts. -/
namespace Dl
open PySem PySem.Spec PyProof.Rows L2
def φInA (neg : Bool) : D → D → Option D
  | d, .list es => if SeqAt.shaped d && SeqAt.shaped (.list es) then some (.bool (if neg then !(es.any fun e => PyData.eqv e d) else es.any fun e => PyData.eqv e d)) else none
  | d, .tuple es => if SeqAt.shaped d && SeqAt.shaped (.tuple es) then some (.bool (if neg then !(es.any fun e => PyData.eqv e d) else es.any fun e => PyData.eqv e d)) else none
  | _, _ => none
section
variable {X : Cx}
theorem in_goA {f : Value → Value → Sem Value} {neg : Bool} (hsb : SysB X.base)
    (hl : ∀ {s : Shared} {c x : Value} {xs : List PyData} {d : PyData} {as bs : List Addr} {Q : Value → Shared → Prop}, Reads s.heap c (.list xs) as → Reads s.heap x d bs → SeqAt.shaped (.list xs) = true → SeqAt.shaped d = true → Q (.bool (if neg then !(xs.any fun e => PyData.eqv e d) else xs.any fun e => PyData.eqv e d)) s → wpAny (model X.prog X.w) X.A (f x c) Q X.xe s)
    (ht : ∀ {s : Shared} {c x : Value} {xs : List PyData} {d : PyData} {as bs : List Addr} {Q : Value → Shared → Prop}, Reads s.heap c (.tuple xs) as → Reads s.heap x d bs → SeqAt.shaped (.tuple xs) = true → SeqAt.shaped d = true → Q (.bool (if neg then !(xs.any fun e => PyData.eqv e d) else xs.any fun e => PyData.eqv e d)) s → wpAny (model X.prog X.w) X.A (f x c) Q X.xe s) :
    OpR X f (rD2 X.K (φInA neg)) := by
  intro pins s σ H x y v u Q I rx ry h
  obtain ⟨F, d, e, z, sb, hx, hy, hz, q⟩ := h
  obtain ⟨as, r1, _⟩ := Rep.reads hsb I sb d x v hx rx
  obtain ⟨bs, r2, _⟩ := Rep.reads hsb I sb e y u hy ry
  unfold φInA at hz
  split at hz
  · split at hz
    · rename_i hk
      rw [Bool.and_eq_true] at hk
      cases hz
      exact hl r2 r1 hk.2 hk.1 ⟨.bl _, H, I, rfl, q (.bl _) H F (.refl F H) rfl⟩
    · cases hz
  · split at hz
    · rename_i hk
      rw [Bool.and_eq_true] at hk
      cases hz
      exact ht r2 r1 hk.2 hk.1 ⟨.bl _, H, I, rfl, q (.bl _) H F (.refl F H) rfl⟩
    · cases hz
  · cases hz
theorem op_inA (hu : X.A.units + 70 < cLine) (hsb : SysB X.base) : OpR X (compareOp .In) (rD2 X.K (φInA false)) :=
  in_goA hsb (fun rc rx h1 h2 q => SeqAt.in_list_reads rc rx (SeqAt.canLay_of_shaped h1) (SeqAt.canLay_of_shaped h2) (PyProof.Rows.room_in_shaped h2 (by omega)) q) (fun rc rx h1 h2 q => SeqAt.in_tuple_reads rc rx (SeqAt.canLay_of_shaped h1) (SeqAt.canLay_of_shaped h2) (PyProof.Rows.room_in_shaped h2 (by omega)) q)
theorem op_notInA (hu : X.A.units + 70 < cLine) (hsb : SysB X.base) : OpR X (compareOp .NotIn) (rD2 X.K (φInA true)) :=
  in_goA hsb (fun rc rx h1 h2 q => SeqAt.notIn_list_reads rc rx (SeqAt.canLay_of_shaped h1) (SeqAt.canLay_of_shaped h2) (PyProof.Rows.room_in_shaped h2 (by omega)) q) (fun rc rx h1 h2 q => SeqAt.notIn_tuple_reads rc rx (SeqAt.canLay_of_shaped h1) (SeqAt.canLay_of_shaped h2) (PyProof.Rows.room_in_shaped h2 (by omega)) q)
end
end Dl

set_option Elab.async false
set_option linter.all false
set_option maxRecDepth 100000
set_option maxHeartbeats 2000000
/-! Dl33: enumerate of a tuple. -/
namespace Dl
open PySem PySem.Spec PyProof.Rows L2
theorem drawsTup {prog : Program} {w : World} {A : Around} (hh : A.handled = none) (it l : Addr) (hne : l ≠ it) (its : Array Value) : Draws prog w A it [it, l] its.size (fun i v => its[i]? = some v) (fun i h => h.IsTupleIter it l i ∧ h.IsTuple l its) where
  live := fun i h st => by
    obtain ⟨⟨o, ho, _⟩, _⟩ := st
    exact ⟨o, ho⟩
  frame := fun i h h' st hk => by
    obtain ⟨⟨o, ho, h1⟩, o2, ho2, h2⟩ := st
    exact ⟨⟨o, hk it (by simp) o ho, h1⟩, o2, hk l (by simp) o2 ho2, h2⟩
  item := fun i s Q E hi st hQ => RZ.nextOf_tuple_item st.1 st.2 (x := its[i]) (by simp [hi]) fun h' hit' sb => by
    obtain ⟨o2, ho2, h2⟩ := st.2
    exact hQ _ h' s.toks (by simp [hi]) ⟨hit', o2, (sb.2 l hne).trans ho2, h2⟩ sb
  done := fun s Q E st hE => RZ.nextOf_tuple_end hh st.1 st.2 (by simp) hE
theorem meets_enumT (l : Addr) (its : Array Value) : Meets (Builtin.«enumerate.__new__» ⟨[.type "enumerate", .ref l], []⟩) (fun _ R s => s.heap.IsTuple l its ∧
    R (.ok (.ret (.ref (s.heap.push { cls := .type "tuple_iterator", data := .fields #[.ref l, .int 0 0] }).objs.size)))
      { s with heap := (s.heap.push { cls := .type "tuple_iterator", data := .fields #[.ref l, .int 0 0] }).push { cls := .type "enumerate", data := .fields #[.none, .bool false, .ref s.heap.objs.size, rawInt 0, .none, .none] } }) :=
  .of_wp fun prog w A R s h => by
    obtain ⟨hp, g, d, tk, os⟩ := s
    obtain ⟨hL, h⟩ := h
    have hsub := sub_enumerate
    have hT : Shared.TypeIs ⟨hp, g, d, tk, os⟩ (.ref l) "tuple" := hL.typeIs
    obtain ⟨ol, hl, hc, nl, hd⟩ := id hL
    wp_walk using AutoSeq1.wpAny_loadPart' hl, wpAny_typeOf hT
    refine wpAny_stack_any fun st => wpAny_pure ?_
    split
    · rename_i c _ _ _ _ _
      cases (c == Value.type "enumerate") <;> (wp_walk using AutoSeq1.wpAny_loadPart' hl, wpAny_pyIter_tuple hL; exact ⟨_, rfl, h⟩)
    · wp_walk using AutoSeq1.wpAny_loadPart' hl, wpAny_pyIter_tuple hL
      exact ⟨_, rfl, h⟩
section
variable {prog : Program} {w : World} {A : Around} {E : Value → Shared → Prop} {s : Shared}
theorem call_enumT {l : Addr} {its : Array Value} {Q : Value → Shared → Prop} (hL : s.heap.IsTuple l its)
    (h : ∀ h', IsEnum h' (s.heap.objs.size + 1) s.heap.objs.size 0 .none → h'.IsTupleIter s.heap.objs.size l 0 → h'.objs.size = s.heap.objs.size + 2 → (∀ b o, s.heap.get? b = some o → h'.get? b = some o) → Q (.ref (s.heap.objs.size + 1)) { s with heap := h' }) :
    wpAny (model prog w) A (call (.type "enumerate") [.ref l]) Q E s := by
  refine callType_new F.called_enumerate (by decide) (F.typeCall_enumerate_1 _) (F.newCall_enumerate_1 _) (fun obj => F.args_object_init_2 obj _) F.entry_enumerate_new (meets_enumT l its) ⟨hL, ?_⟩
  have hz : (s.heap.push { cls := .type "tuple_iterator", data := .fields #[.ref l, .int 0 0] }).objs.size = s.heap.objs.size + 1 := by rw [Heap.size_push]
  show _ ∧ _
  rw [hz]
  have he : IsEnum ((s.heap.push { cls := .type "tuple_iterator", data := .fields #[.ref l, .int 0 0] }).push { cls := .type "enumerate", data := .fields #[.none, .bool false, .ref s.heap.objs.size, rawInt 0, .none, .none] }) (s.heap.objs.size + 1) s.heap.objs.size 0 .none := by
    unfold IsEnum
    rw [← hz]
    exact Heap.get?_push_size _ rfl
  exact ⟨⟨_, he, rfl⟩, h _ he ⟨_, Heap.get?_push_of_some _ (Heap.get?_push_size _ rfl), rfl, rfl⟩ (by rw [Heap.size_push, hz]) fun b o x => Heap.get?_push_of_some _ (Heap.get?_push_of_some _ x)⟩
end
end Dl

set_option Elab.async false
set_option linter.all false
set_option maxRecDepth 100000
set_option maxHeartbeats 2000000
/-! Dl34: for .. in enumerate(..) over a list or a tuple. -/
namespace Dl
open PySem PySem.Spec PyProof.Rows L2
def ItT (K : PySem.W.Frag) (a : Addr) : It :=
  ⟨fun i H => ∃ (xs : List V) (x : V), SqT K H a xs ∧ xs[i]? = some x, fun i H v H' => ∃ T x, v = .ref T ∧ H T = none ∧ H' = upd H T (.tup [.int (i : Nat), x]) ∧ ∀ xs, SqT K H a xs → xs[i]? = some x, fun i H => ∃ xs : List V, SqT K H a xs ∧ xs.length ≤ i⟩
theorem turn_enT {P : Program} {w : World} {K : PySem.W.Frag} {elts : List Expr} {kk : Nat} {tpos : Pos} (a e it : Addr) : Turn P w K (.Tuple elts kk tpos) (ItT K a) [e, it] e (fun i h => (∃ old, IsEnum h e it ((i : Nat) : Int) old) ∧ h.IsTupleIter it a i ∧ e ≠ it) where
  mem := List.mem_cons_self
  obj := fun i h st b hb => by
    obtain ⟨⟨old, he⟩, ⟨o, ho, hc, hd⟩, _⟩ := st
    rcases List.mem_cons.mp hb with z | z
    · rw [z]
      exact ⟨_, he, fun v q => nomatch q⟩
    · exact ⟨o, by rw [List.mem_singleton.mp z]; exact ho, fun v q => by rw [hd] at q; cases q⟩
  keep := fun i h h' st k => by
    obtain ⟨⟨old, he⟩, ⟨o, ho, h1⟩, hne⟩ := st
    exact ⟨⟨old, k e (by simp) _ he⟩, ⟨o, k it (by simp) o ho, h1⟩, hne⟩
  item := by
    rintro X rfl rfl rfl hc i pins s σ H E I hf ⟨⟨old, he⟩, hit, hne⟩ ⟨xs, x, hq, hx⟩
    obtain ⟨its, rv, hT0, hz⟩ := I.tuple hq
    have hT : s.heap.IsTuple a its.toArray := hT0
    obtain ⟨u, hu, ru⟩ := rv.get hx
    have hel : e < s.heap.objs.size := Heap.lt_size he
    have hil : it < s.heap.objs.size := by
      obtain ⟨_, q, _⟩ := hit
      exact Heap.lt_size q
    have cls2 : ∀ {b : Addr} {o1 o2 : Obj}, s.heap.get? b = some o1 → s.heap.get? b = some o2 → o1 = o2 := fun {b o1 o2} e1 e2 => Option.some.inj (e1.symm.trans e2)
    have nai : a ≠ it := by
      rintro rfl
      obtain ⟨o1, e1, c1, _⟩ := hit
      obtain ⟨o2, e2, c2, _⟩ := hT
      rw [cls2 e1 e2, c2] at c1
      exact absurd c1 (by decide)
    have nae : e ≠ a := by
      rintro rfl
      obtain ⟨o2, e2, c2, _⟩ := hT
      have c1 := congrArg Obj.cls (cls2 he e2)
      rw [c2] at c1
      exact absurd (Value.type.inj c1) (by decide)
    have hi : i < its.toArray.size := by
      have h := (List.getElem?_eq_some_iff.mp hu).1
      simpa using h
    refine wpAny_pyNext_enum_itemD (drawsTup (A := X.A.in1) (by exact I.ok.hd hc) it a nai its.toArray) he ⟨hit, hT⟩ hi hne (by simp [hne, nae]) fun y h' tk hy ho hst hnew hsz hk => ?_
    have ey : u = y := by
      have h1 : its.toArray[i]? = some u := by simpa using hu
      rw [h1] at hy
      exact Option.some.inj hy
    subst ey
    refine ⟨_, rfl, wpAny_letOwnedTupleGo_enum (s := { s with heap := h', toks := tk + 1 }) ho fun h'' he' sb => ?_⟩
    have hT2 : h''.get? s.heap.objs.size = some { cls := .type "tuple", data := .seq #[.int i tk, u] } := (sb.2 _ (Nat.ne_of_gt hel)).trans hnew
    have new : ObjOk X.prog X.w (upd H s.heap.objs.size (.tup [.int (i : Nat), x])) h'' s.heap.objs.size (.tup [.int (i : Nat), x]) := ⟨sizeL (by simp), [.int i tk, u], .cons ⟨_, rfl⟩ (.cons ru .nil), ⟨_, hT2, rfl, _, rfl⟩⟩
    have I1 : Inv X pins σ (upd H s.heap.objs.size (.tup [.int (i : Nat), x])) { s with heap := h'', toks := tk + 1 } :=
      I.turnedNew (ch := [e, it]) (fun b ob hb q => by
        have n1 : b ≠ e := fun z => hb (by simp [z])
        have n2 : b ≠ it := fun z => hb (by simp [z])
        exact (sb.2 b n1).trans (hk b ob n1 n2 q)) hf (Nat.le_refl _) new
    refine ⟨.ref s.heap.objs.size, _, I1, rfl, ⟨_, x, rfl, I.hok.fresh (Nat.le_refl _), rfl, fun ys hy => by rw [I.tuple_inj hy hq]; exact hx⟩, ⟨⟨u, ?_⟩, ?_, hne⟩, fun b hb => ?_⟩
    · rw [show ((i + 1 : Nat) : Int) = (i : Int) + 1 by omega]
      exact he'
    · obtain ⟨o, h1, h2⟩ := hst.1
      exact ⟨o, (sb.2 it (Ne.symm hne)).trans h1, h2⟩
    · have hb' : b < s.heap.objs.size := by
        rcases List.mem_cons.mp hb with z | z
        · rw [z]; exact hel
        · rw [List.mem_singleton.mp z]; exact hil
      rw [upd_ne (Nat.ne_of_lt hb')]
      exact (hf b hb).1
  done := by
    rintro X rfl rfl rfl hc i pins s σ H E I hf ⟨⟨old, he⟩, hit, hne⟩ ⟨xs, hq, hx⟩
    obtain ⟨its, rv, hT0, hz⟩ := I.tuple hq
    have hT : s.heap.IsTuple a its.toArray := hT0
    obtain ⟨f0, f1, f2, f3, f4, f5⟩ := hf it (by simp)
    have hl := rv.length
    have hT' : s.TypeIs (.ref e) "enumerate" := ⟨_, he, rfl⟩
    unfold pyNext
    refine wpAny_bind (wpAny_attempt (wpAny_callSpecial?_slot (name := Str.ofString "__next__") hT' F.slot_enumerate_next (wpAny_call_entry F.slot_enumerate_next hT' F.entry_enumerate_next (show wpAny _ _ (field (.ref e) 2 >>= _) _ _ _ from ?_) (F.args_enumerate_next_1 _))))
    refine wpAny_bind (wpAny_field he rfl (x := .ref it) rfl (wpAny_bind (RZ.nextOf_tuple_end (by exact I.ok.hd hc) hit hT (by simp; omega) fun h' x eb hx' => ?_)))
    obtain ⟨o, ho, hcl⟩ := hx'
    exact wpAny_bind (wpAny_isInstance (T := "StopIteration") (b := true) ⟨o, ho, hcl⟩ isSubtype_stop (wpAny_pure ⟨rfl, I.turned (t' := s.toks) (fun b o hb q => eb b o hb q) f0 f1 f3 f4 f5⟩))
  self := fun A i s Q E st h => by
    obtain ⟨⟨old, he⟩, _⟩ := st
    exact wpAny_pyIter_enum he h
def iEnT (K : PySem.W.Frag) (ta : TA) : TI := fun σ H R => ta σ H fun vs H1 => ∃ a xs, vs = [.ref a] ∧ SqT K H1 a xs ∧ R (ItT K a) H1
theorem pi_enT {X : Cx} {e : Expr} {ta : TA} {p pos tpos : Pos} {elts : List Expr} {kk : Nat} (hg : Gl X "enumerate") (hm : X.mg "enumerate" = none) (ha : PA X [e] ta) (hs : starEach [e] X.env = [(false, eval e X.env)] := by rfl) :
    PI X (.Tuple elts kk tpos) (.Call (.Name "enumerate" p) [e] [] pos) (iEnT X.K ta) := by
  refine ⟨fun pins s σ H R I h => Call_ (ld_blt I hg hm boot_enumerate (PyProof.Rows.callWith_type1 (thn (ha.run pos pins s σ H _ I h) fun us s1 hh => ?_) hs rfl))⟩
  obtain ⟨vs, H1, I1, r1, a, xs, rfl, hq, q⟩ := hh
  obtain ⟨u, rfl, ru⟩ := vals1 r1
  obtain rfl : u = Value.ref a := ru
  obtain ⟨its, rv, hT, hz⟩ := I1.tuple hq
  refine call_enumT (its := its.toArray) hT fun h' he hit hsz hk => wpAny_pyIter_enum he ⟨s1.heap.objs.size + 1, [s1.heap.objs.size + 1, s1.heap.objs.size], _, _, H1, rfl, I1.kept (t' := s1.toks) hk, turn_enT a (s1.heap.objs.size + 1) s1.heap.objs.size, ⟨⟨.none, he⟩, hit, Nat.succ_ne_self _⟩, fun b hb => ?_, q⟩
  have hle : s1.heap.objs.size ≤ b := by
    rcases List.mem_cons.mp hb with z | z
    · rw [z]; exact Nat.le_succ _
    · rw [List.mem_singleton.mp z]; exact Nat.le_refl _
  exact I1.fpOk hle (I1.hok.fresh hle)
theorem yld_enT {K : PySem.W.Frag} {F : Hp} {a : Addr} {vs : List V} {ds : List D} (h : SqT K F a vs) (r : RepL K F ds vs) : Yld K F (ItT K a) (enumD ds) := fun F' H' e e' i => by
  have hs : SqT K H' a vs := sub_t (e.trans e') h
  refine ⟨fun hl => ⟨vs, hs, ?_⟩, fun d hd => ?_⟩
  · unfold enumD at hl
    rw [List.length_map, List.length_zipIdx] at hl
    rw [r.length]; exact hl
  · unfold enumD at hd
    rw [List.getElem?_map, List.getElem?_zipIdx] at hd
    cases hc : ds[i]? with
    | none => rw [hc] at hd; cases hd
    | some c =>
      rw [hc] at hd
      cases hd
      obtain ⟨v, hv, rv⟩ := r.get hc
      refine ⟨⟨vs, v, hs, hv⟩, fun x H'' hy => ?_⟩
      obtain ⟨T, x1, rfl, hT, rfl, hx⟩ := hy
      have e1 := hx vs hs
      rw [hv] at e1
      cases e1
      have fT := e'.isNone hT
      refine ⟨_, .one hT, T, _, rfl, .inl (.inl upd_same), _, _, rfl, ?_, _, _, rfl, rv.mono (e.trans (Sub.new fT)), rfl⟩
      show V.int _ = V.int _
      rw [Nat.zero_add]
def enumOfA : D → Option (List D)
  | .list ds => some (enumD ds)
  | .tuple ds => some (enumD ds)
  | _ => none
def fEnumA (f : M D) : M (List D) := do let d ← f; M.lift (enumOfA d)
theorem di_enumA {T : List Addr} {X : Cx} {e : Expr} {f : M D} {p pos tpos : Pos} {elts : List Expr} {kk : Nat} (hg : Gl X "enumerate") (hm : X.mg "enumerate" = none) (ha : DE T X e f) (hs : starEach [e] X.env = [(false, eval e X.env)] := by rfl) (hs' : starEach (e :: []) X.env = (false, eval e X.env) :: starEach [] X.env := by rfl) :
    DI T X (.Tuple elts kk tpos) (.Call (.Name "enumerate" p) [e] [] pos) (fEnumA f) := by
  obtain ⟨ta, pa, ra⟩ := ha
  refine ⟨_, pi_or (pi_enum hg hm (pa_cons pa pa_nil hs') hs) (pi_enT hg hm (pa_cons pa pa_nil hs') hs), fun w G F0 σ H F s ds s' r h R q => ?_⟩
  obtain ⟨d, s1, h1, h2⟩ := M.bind_some h
  obtain ⟨h3, h4⟩ := M.lift_some h2
  dsimp only at h3 h4
  subst h4
  cases d with
  | list es =>
    cases h3
    exact .inl (ra w G F0 σ H F s _ _ r h1 _ fun v H1 F1 r1 e1 ⟨a, vs, ev, p1, p2⟩ => ⟨a, vs, by rw [ev], .inl (.inl (r1.sub _ _ p1)), q _ H1 F1 r1 e1 (yld_enum p1 p2)⟩)
  | tuple es =>
    cases h3
    exact .inr (ra w G F0 σ H F s _ _ r h1 _ fun v H1 F1 r1 e1 ⟨a, vs, ev, p1, p2⟩ => ⟨a, vs, by rw [ev], sub_t r1.sub p1, q _ H1 F1 r1 e1 (yld_enT p1 p2)⟩)
  | _ => cases h3
/-- a statement that is not reached -/
theorem ds_no {T : List Addr} {X : Cx} {st : Stmt} : DS T X st (fun _ => none) := ⟨_, ps_never, fun w G F0 σ H F s o s' r h => by cases h⟩
end Dl

set_option Elab.async false
set_option linter.all false
set_option maxRecDepth 100000
namespace Dl
open PySem PySem.Spec PyProof.Rows L2
def top (i : Nat) : Stmt := PySem.Challenge.pw_oncestream_k19_barriers_and_channels.main.body.getD i (.Pass ⟨0, 0, 0, 0⟩)
end Dl

set_option Elab.async false
set_option linter.all false
set_option maxRecDepth 100000
set_option maxHeartbeats 400000
namespace Dl
open PySem PySem.Spec PyProof.Rows L2
/-- the draw's cells: the last one is taken while less than two is left -/
def pickGo : List Int → Int → List Int × Int
  | [], l => ([], l)
  | c :: r, l => if l < 2 then pickGo r c else ((c :: r).reverse, l)
def pickCells (cs : List Int) (l : Int) : List Int × Int := pickGo cs.reverse l
def pickS (s : Src) (m : Int) : Int × Src :=
  if m < 2 then (0, s) else
  let p := pickCells s.cells s.left
  if p.2 > 1 then (p.2.fmod m, { s with cells := p.1, left := p.2.fdiv m }) else
  let t := s.turn + 1
  let a := (s.mixed + t * 104729).fmod 998244353
  let b := (a * a + t * 17).fmod 2147483647
  ((b.fdiv 16).fmod m, { s with cells := p.1, left := p.2, turn := t })
abbrev φ__law_pick : Src → List D → Option (D × Src)
  | s, [.int m] => if m < 1073741824 then some (.int (pickS s m).1, (pickS s m).2) else none
  | _, _ => none
theorem nd_is_held : (["waiting", "channel"] : List Str).Nodup := by decide
def g_is_held : { g : M Out // ∀ {T : List Addr} {P : Program} {w : World} {K : PySem.W.Frag} {mg : Str → Option Value} {base : Heap} (hsb : SysB base) (f : Addr) (cdv : Value) (A : Around) (out : List Env) (s : Shared) (H : Hp) (E : XK), A.guards = some [] → Room 0 (A.deeper (envOfC "is_held" (defScope (top 5)) s.heap.objs.size f cdv)) →
    DSs T (cxOf CX0 P w K mg base ["waiting", "channel"] "is_held" (defScope (top 5)) f cdv A out s H E).nox (defBody (top 5)) g } := ⟨_, fun {T P w K mg base} hsb f cdv A out s H E hgd hr =>
  (dss_one (ds_ret (de_and (de_cmp op_isNotD (de_var (i := 0) rfl (by first | exact Or.inl rfl | exact Or.inr (Or.inl rfl) | exact Or.inr (Or.inr rfl))) de_non) (de_one (de_cmp (op_inA (units70 hr) hsb) (de_var (i := 1) rfl (by first | exact Or.inl rfl | exact Or.inr (Or.inl rfl) | exact Or.inr (Or.inr rfl))) (de_ix (de_var (i := 0) rfl (by first | exact Or.inl rfl | exact Or.inr (Or.inl rfl) | exact Or.inr (Or.inr rfl))) de_int))))))⟩
abbrev φ_is_held : List D → Option D := runB 2 g_is_held.1
theorem d_is_held {T : List Addr} {P : Program} {w : World} {K : PySem.W.Frag} {mg : Str → Option Value} {base : Heap} {f c : Addr} (hsb : SysB base) (F : FunC K "is_held" "is_held" (top 5) f c) (hm : mg "is_held" = some (.ref f)) : Df T P w K mg base "is_held" 1 2 φ_is_held :=
  df_of (ps := ["waiting", "channel"]) (N := ["waiting", "channel"]) (g := g_is_held.1) F hm ⟨rfl, rfl, rfl, nd_is_held, rfl, by decide +kernel, by decide +kernel⟩ rfl (by decide) (fun _ _ _ _ _ us hl => match us, hl with | [_, _], _ => rfl) fun A out s H E hgd hr => g_is_held.2 hsb f (.ref c) A out s H E hgd hr
theorem nd_come : (["waiting", "channels", "channel", "n", "here"] : List Str).Nodup := by decide
def g_come : { g : M Out // ∀ {T : List Addr} {P : Program} {w : World} {K : PySem.W.Frag} {mg : Str → Option Value} {base : Heap} (hsb : SysB base) (hn_tuple : mg "tuple" = none) (hn_sorted : mg "sorted" = none) (hn_len : mg "len" = none) (hd_is_held : Df T P w K mg base "is_held" 1 2 (φ_is_held)) (f : Addr) (cdv : Value) (A : Around) (out : List Env) (s : Shared) (H : Hp) (E : XK), A.guards = some [] → Room 1 (A.deeper (envOfC "come" (defScope (top 6)) s.heap.objs.size f cdv)) →
    DSs T (cxOf CX0 P w K mg base ["waiting", "channels", "channel", "n", "here"] "come" (defScope (top 6)) f cdv A out s H E).nox (defBody (top 6)) g } := ⟨_, fun {T P w K mg base} hsb hn_tuple hn_sorted hn_len hd_is_held f cdv A out s H E hgd hr =>
  (dss_cons (ds_if (dt_w (dw_or (dt_val (de_callD hd_is_held hgd (hr.mono (by decide)) rfl (da_cons (de_var (i := 0) rfl (by first | exact Or.inl rfl | exact Or.inr (Or.inl rfl) | exact Or.inr (Or.inr rfl))) (da_cons (de_var (i := 2) rfl (by first | exact Or.inl rfl | exact Or.inr (Or.inl rfl) | exact Or.inr (Or.inr rfl))) da_nil)))) (dw_or1 (dt_w (dw_and (dt_cmp op_isNotD (de_var (i := 0) rfl (by first | exact Or.inl rfl | exact Or.inr (Or.inl rfl) | exact Or.inr (Or.inr rfl))) de_non) (dw_and1 (dt_cmp (op_neD' (units64 hr)) (de_ix (de_var (i := 0) rfl (by first | exact Or.inl rfl | exact Or.inr (Or.inl rfl) | exact Or.inr (Or.inr rfl))) de_int) (de_var (i := 3) rfl (by first | exact Or.inl rfl | exact Or.inr (Or.inl rfl) | exact Or.inr (Or.inr rfl)))))))))) (dss_one ds_no) dss_nil) (dss_cons (ds_set (i := 4) nd_come rfl (by first | exact Or.inl rfl | exact Or.inr rfl) (de_if (dt_cmp op_isD (de_var (i := 0) rfl (by first | exact Or.inl rfl | exact Or.inr (Or.inl rfl) | exact Or.inr (Or.inr rfl))) de_non) (de_tup (da_cons (de_var (i := 2) rfl (by first | exact Or.inl rfl | exact Or.inr (Or.inl rfl) | exact Or.inr (Or.inr rfl))) da_nil)) (de_callTy call_tupleD rfl hn_tuple rfl (da_cons (de_new (dn_callB (call_sortedA (units70 hr) hsb) rfl hn_sorted rfl (da_cons (de_bin op_addD (de_ix (de_var (i := 0) rfl (by first | exact Or.inl rfl | exact Or.inr (Or.inl rfl) | exact Or.inr (Or.inr rfl))) de_int) (de_tup (da_cons (de_var (i := 2) rfl (by first | exact Or.inl rfl | exact Or.inr (Or.inl rfl) | exact Or.inr (Or.inr rfl))) da_nil))) da_nil))) da_nil)))) (dss_one (ds_ret (de_if (dt_cmp (op_eqD' (units64 hr)) (de_callB call_lenD rfl hn_len rfl (da_cons (de_var (i := 4) rfl (by first | exact Or.inl rfl | exact Or.inr (Or.inl rfl) | exact Or.inr (Or.inr rfl))) da_nil)) (de_callB call_lenD rfl hn_len rfl (da_cons (de_var (i := 1) rfl (by first | exact Or.inl rfl | exact Or.inr (Or.inl rfl) | exact Or.inr (Or.inr rfl))) da_nil))) (de_tup (da_cons de_non (da_cons de_bl da_nil))) (de_tup (da_cons (de_tup (da_cons (de_var (i := 3) rfl (by first | exact Or.inl rfl | exact Or.inr (Or.inl rfl) | exact Or.inr (Or.inr rfl))) (da_cons (de_var (i := 4) rfl (by first | exact Or.inl rfl | exact Or.inr (Or.inl rfl) | exact Or.inr (Or.inr rfl))) da_nil))) (da_cons de_bl da_nil))))))))⟩
abbrev φ_come : List D → Option D := runB 5 g_come.1
theorem d_come {T : List Addr} {P : Program} {w : World} {K : PySem.W.Frag} {mg : Str → Option Value} {base : Heap} {f c : Addr} (hsb : SysB base) (hn_tuple : mg "tuple" = none) (hn_sorted : mg "sorted" = none) (hn_len : mg "len" = none) (hd_is_held : Df T P w K mg base "is_held" 1 2 (φ_is_held)) (F : FunC K "come" "come" (top 6) f c) (hm : mg "come" = some (.ref f)) : Df T P w K mg base "come" 2 4 φ_come :=
  df_of (ps := ["waiting", "channels", "channel", "n"]) (N := ["waiting", "channels", "channel", "n", "here"]) (g := g_come.1) F hm ⟨rfl, rfl, rfl, nd_come, rfl, by decide +kernel, by decide +kernel⟩ rfl (by decide) (fun _ _ _ _ _ us hl => match us, hl with | [_, _, _, _], _ => rfl) fun A out s H E hgd hr => g_come.2 hsb hn_tuple hn_sorted hn_len hd_is_held f (.ref c) A out s H E hgd hr
theorem nd_free_channels : (["waiting", "channels", "channel"] : List Str).Nodup := by decide
def g_free_channels : { g : M Out // ∀ {T : List Addr} {P : Program} {w : World} {K : PySem.W.Frag} {mg : Str → Option Value} {base : Heap} (hd_is_held : Df T P w K mg base "is_held" 1 2 (φ_is_held)) (f : Addr) (cdv : Value) (A : Around) (out : List Env) (s : Shared) (H : Hp) (E : XK), A.guards = some [] → Room 1 (A.deeper (envOfC "free_channels" (defScope (top 7)) s.heap.objs.size f cdv)) →
    DSs T (cxOf CX0 P w K mg base ["waiting", "channels", "channel"] "free_channels" (defScope (top 7)) f cdv A out s H E).nox (defBody (top 7)) g } := ⟨_, fun {T P w K mg base} hd_is_held f cdv A out s H E hgd hr =>
  (dss_one (ds_ret (de_new (dn_lc (own := [("channel", 2)]) rfl nd_free_channels (di_seq (de_var (i := 1) rfl (by first | exact Or.inl rfl | exact Or.inr (Or.inl rfl) | exact Or.inr (Or.inr rfl)))) (blk_of (N := ["waiting", "channels", "channel"]) (sc := defScope (top 7)) (by decide +kernel)) (by decide) (fun s H C cl fp => (dg_name (i := 2) nd_free_channels rfl (by first | exact Or.inl rfl | exact Or.inr rfl))) (fam_ts1 fun s H C cl fp => (dt_not (dt_val (de_callD hd_is_held hgd (hr.mono (by decide)) rfl (da_cons (de_var (i := 0) rfl (by first | exact Or.inl rfl | exact Or.inr (Or.inl rfl) | exact Or.inr (Or.inr rfl))) (da_cons (de_var (i := 2) rfl (by first | exact Or.inl rfl | exact Or.inr (Or.inl rfl) | exact Or.inr (Or.inr rfl))) da_nil)))))) (fun s H C cl fp => (de_var (i := 2) rfl (by first | exact Or.inl rfl | exact Or.inr (Or.inl rfl) | exact Or.inr (Or.inr rfl))))))))⟩
abbrev φ_free_channels : List D → Option D := runB 3 g_free_channels.1
theorem d_free_channels {T : List Addr} {P : Program} {w : World} {K : PySem.W.Frag} {mg : Str → Option Value} {base : Heap} {f c : Addr} (hd_is_held : Df T P w K mg base "is_held" 1 2 (φ_is_held)) (F : FunC K "free_channels" "free_channels" (top 7) f c) (hm : mg "free_channels" = some (.ref f)) : Df T P w K mg base "free_channels" 2 2 φ_free_channels :=
  df_of (ps := ["waiting", "channels"]) (N := ["waiting", "channels", "channel"]) (g := g_free_channels.1) F hm ⟨rfl, rfl, rfl, nd_free_channels, rfl, by decide +kernel, by decide +kernel⟩ rfl (by decide) (fun _ _ _ _ _ us hl => match us, hl with | [_, _], _ => rfl) fun A out s H E hgd hr => g_free_channels.2 hd_is_held f (.ref c) A out s H E hgd hr
theorem nd_numbers_left : (["waiting", "channels"] : List Str).Nodup := by decide
def g_numbers_left : { g : M Out // ∀ {T : List Addr} {P : Program} {w : World} {K : PySem.W.Frag} {mg : Str → Option Value} {base : Heap} (hd_free_channels : Df T P w K mg base "free_channels" 2 2 (φ_free_channels)) (f : Addr) (cdv : Value) (A : Around) (out : List Env) (s : Shared) (H : Hp) (E : XK), A.guards = some [] → Room 2 (A.deeper (envOfC "numbers_left" (defScope (top 8)) s.heap.objs.size f cdv)) →
    DSs T (cxOf CX0 P w K mg base ["waiting", "channels"] "numbers_left" (defScope (top 8)) f cdv A out s H E).nox (defBody (top 8)) g } := ⟨_, fun {T P w K mg base} hd_free_channels f cdv A out s H E hgd hr =>
  (dss_one (ds_ret (de_if (dt_cmp op_isD (de_var (i := 0) rfl (by first | exact Or.inl rfl | exact Or.inr (Or.inl rfl) | exact Or.inr (Or.inr rfl))) de_non) (de_new (dn_lst da_nil)) (de_callD hd_free_channels hgd (hr.mono (by decide)) rfl (da_cons (de_var (i := 0) rfl (by first | exact Or.inl rfl | exact Or.inr (Or.inl rfl) | exact Or.inr (Or.inr rfl))) (da_cons (de_var (i := 1) rfl (by first | exact Or.inl rfl | exact Or.inr (Or.inl rfl) | exact Or.inr (Or.inr rfl))) da_nil))))))⟩
abbrev φ_numbers_left : List D → Option D := runB 2 g_numbers_left.1
theorem d_numbers_left {T : List Addr} {P : Program} {w : World} {K : PySem.W.Frag} {mg : Str → Option Value} {base : Heap} {f c : Addr} (hd_free_channels : Df T P w K mg base "free_channels" 2 2 (φ_free_channels)) (F : FunC K "numbers_left" "numbers_left" (top 8) f c) (hm : mg "numbers_left" = some (.ref f)) : Df T P w K mg base "numbers_left" 3 2 φ_numbers_left :=
  df_of (ps := ["waiting", "channels"]) (N := ["waiting", "channels"]) (g := g_numbers_left.1) F hm ⟨rfl, rfl, rfl, nd_numbers_left, rfl, by decide +kernel, by decide +kernel⟩ rfl (by decide) (fun _ _ _ _ _ us hl => match us, hl with | [_, _], _ => rfl) fun A out s H E hgd hr => g_numbers_left.2 hd_free_channels f (.ref c) A out s H E hgd hr
theorem nd__place_of : (["things", "n", "places", "place", "thing"] : List Str).Nodup := by decide
def g__place_of : { g : M Out // ∀ {T : List Addr} {P : Program} {w : World} {K : PySem.W.Frag} {mg : Str → Option Value} {base : Heap} (hn_enumerate : mg "enumerate" = none) (hn_len : mg "len" = none) (f : Addr) (cdv : Value) (A : Around) (out : List Env) (s : Shared) (H : Hp) (E : XK), A.guards = some [] → Room 0 (A.deeper (envOfC "_place_of" (defScope (top 9)) s.heap.objs.size f cdv)) →
    DSs T (cxOf CX0 P w K mg base ["things", "n", "places", "place", "thing"] "_place_of" (defScope (top 9)) f cdv A out s H E).nox (defBody (top 9)) g } := ⟨_, fun {T P w K mg base} hn_enumerate hn_len f cdv A out s H E hgd hr =>
  (dss_cons (ds_setLc (i := 2) (own := [("place", 3), ("thing", 4)]) rfl nd__place_of rfl rfl (sw_true rfl rfl rfl rfl) (di_enumA rfl hn_enumerate (de_var (i := 0) rfl (by first | exact Or.inl rfl | exact Or.inr (Or.inl rfl) | exact Or.inr (Or.inr rfl)))) (blk_of (N := ["things", "n", "places", "place", "thing"]) (sc := defScope (top 9)) (by decide +kernel)) (by decide) (fun s H C cl fp => (dg_tup (n := 2) rfl (dgs_cons (dg_name (i := 3) nd__place_of rfl (by first | exact Or.inl rfl | exact Or.inr rfl)) (dgs_cons (dg_name (i := 4) nd__place_of rfl (by first | exact Or.inl rfl | exact Or.inr rfl)) dgs_nil)))) (fam_ts1 fun s H C cl fp => (dt_cmp (op_eqD' (units64 hr)) (de_var (i := 4) rfl (by first | exact Or.inl rfl | exact Or.inr (Or.inl rfl) | exact Or.inr (Or.inr rfl))) (de_tup (da_cons de_str (da_cons (de_var (i := 1) rfl (by first | exact Or.inl rfl | exact Or.inr (Or.inl rfl) | exact Or.inr (Or.inr rfl))) da_nil))))) (fun s H C cl fp => (de_var (i := 3) rfl (by first | exact Or.inl rfl | exact Or.inr (Or.inl rfl) | exact Or.inr (Or.inr rfl))))) (dss_one (ds_ret (de_if (dt_cmp op_gtD (de_callB call_lenD rfl hn_len rfl (da_cons (de_var (i := 2) rfl (by first | exact Or.inl rfl | exact Or.inr (Or.inl rfl) | exact Or.inr (Or.inr rfl))) da_nil)) de_int) (de_ix (de_var (i := 2) rfl (by first | exact Or.inl rfl | exact Or.inr (Or.inl rfl) | exact Or.inr (Or.inr rfl))) de_int) (de_callB call_lenD rfl hn_len rfl (da_cons (de_var (i := 0) rfl (by first | exact Or.inl rfl | exact Or.inr (Or.inl rfl) | exact Or.inr (Or.inr rfl))) da_nil))))))⟩
abbrev φ__place_of : List D → Option D := runB 5 g__place_of.1
theorem d__place_of {T : List Addr} {P : Program} {w : World} {K : PySem.W.Frag} {mg : Str → Option Value} {base : Heap} {f c : Addr} (hn_enumerate : mg "enumerate" = none) (hn_len : mg "len" = none) (F : FunC K "_place_of" "_place_of" (top 9) f c) (hm : mg "_place_of" = some (.ref f)) : Df T P w K mg base "_place_of" 1 2 φ__place_of :=
  df_of (ps := ["things", "n"]) (N := ["things", "n", "places", "place", "thing"]) (g := g__place_of.1) F hm ⟨rfl, rfl, rfl, nd__place_of, rfl, by decide +kernel, by decide +kernel⟩ rfl (by decide) (fun _ _ _ _ _ us hl => match us, hl with | [_, _], _ => rfl) fun A out s H E hgd hr => g__place_of.2 hn_enumerate hn_len f (.ref c) A out s H E hgd hr
theorem nd_before : (["things", "n"] : List Str).Nodup := by decide
def g_before : { g : M Out // ∀ {T : List Addr} {P : Program} {w : World} {K : PySem.W.Frag} {mg : Str → Option Value} {base : Heap} (hd__place_of : Df T P w K mg base "_place_of" 1 2 (φ__place_of)) (f : Addr) (cdv : Value) (A : Around) (out : List Env) (s : Shared) (H : Hp) (E : XK), A.guards = some [] → Room 1 (A.deeper (envOfC "before" (defScope (top 10)) s.heap.objs.size f cdv)) →
    DSs T (cxOf CX0 P w K mg base ["things", "n"] "before" (defScope (top 10)) f cdv A out s H E).nox (defBody (top 10)) g } := ⟨_, fun {T P w K mg base} hd__place_of f cdv A out s H E hgd hr =>
  (dss_one (ds_ret (de_slice (de_var (i := 0) rfl (by first | exact Or.inl rfl | exact Or.inr (Or.inl rfl) | exact Or.inr (Or.inr rfl))) do_none (do_some (de_callD hd__place_of hgd (hr.mono (by decide)) rfl (da_cons (de_var (i := 0) rfl (by first | exact Or.inl rfl | exact Or.inr (Or.inl rfl) | exact Or.inr (Or.inr rfl))) (da_cons (de_var (i := 1) rfl (by first | exact Or.inl rfl | exact Or.inr (Or.inl rfl) | exact Or.inr (Or.inr rfl))) da_nil)))))))⟩
abbrev φ_before : List D → Option D := runB 2 g_before.1
theorem d_before {T : List Addr} {P : Program} {w : World} {K : PySem.W.Frag} {mg : Str → Option Value} {base : Heap} {f c : Addr} (hd__place_of : Df T P w K mg base "_place_of" 1 2 (φ__place_of)) (F : FunC K "before" "before" (top 10) f c) (hm : mg "before" = some (.ref f)) : Df T P w K mg base "before" 2 2 φ_before :=
  df_of (ps := ["things", "n"]) (N := ["things", "n"]) (g := g_before.1) F hm ⟨rfl, rfl, rfl, nd_before, rfl, by decide +kernel, by decide +kernel⟩ rfl (by decide) (fun _ _ _ _ _ us hl => match us, hl with | [_, _], _ => rfl) fun A out s H E hgd hr => g_before.2 hd__place_of f (.ref c) A out s H E hgd hr
theorem nd_behind : (["things", "n"] : List Str).Nodup := by decide
def g_behind : { g : M Out // ∀ {T : List Addr} {P : Program} {w : World} {K : PySem.W.Frag} {mg : Str → Option Value} {base : Heap} (hd__place_of : Df T P w K mg base "_place_of" 1 2 (φ__place_of)) (f : Addr) (cdv : Value) (A : Around) (out : List Env) (s : Shared) (H : Hp) (E : XK), A.guards = some [] → Room 1 (A.deeper (envOfC "behind" (defScope (top 11)) s.heap.objs.size f cdv)) →
    DSs T (cxOf CX0 P w K mg base ["things", "n"] "behind" (defScope (top 11)) f cdv A out s H E).nox (defBody (top 11)) g } := ⟨_, fun {T P w K mg base} hd__place_of f cdv A out s H E hgd hr =>
  (dss_one (ds_ret (de_slice (de_var (i := 0) rfl (by first | exact Or.inl rfl | exact Or.inr (Or.inl rfl) | exact Or.inr (Or.inr rfl))) (do_some (de_bin op_addD (de_callD hd__place_of hgd (hr.mono (by decide)) rfl (da_cons (de_var (i := 0) rfl (by first | exact Or.inl rfl | exact Or.inr (Or.inl rfl) | exact Or.inr (Or.inr rfl))) (da_cons (de_var (i := 1) rfl (by first | exact Or.inl rfl | exact Or.inr (Or.inl rfl) | exact Or.inr (Or.inr rfl))) da_nil))) de_int)) do_none)))⟩
abbrev φ_behind : List D → Option D := runB 2 g_behind.1
theorem d_behind {T : List Addr} {P : Program} {w : World} {K : PySem.W.Frag} {mg : Str → Option Value} {base : Heap} {f c : Addr} (hd__place_of : Df T P w K mg base "_place_of" 1 2 (φ__place_of)) (F : FunC K "behind" "behind" (top 11) f c) (hm : mg "behind" = some (.ref f)) : Df T P w K mg base "behind" 2 2 φ_behind :=
  df_of (ps := ["things", "n"]) (N := ["things", "n"]) (g := g_behind.1) F hm ⟨rfl, rfl, rfl, nd_behind, rfl, by decide +kernel, by decide +kernel⟩ rfl (by decide) (fun _ _ _ _ _ us hl => match us, hl with | [_, _], _ => rfl) fun A out s H E hgd hr => g_behind.2 hd__place_of f (.ref c) A out s H E hgd hr
theorem nd_numbers_in : (["things", "thing"] : List Str).Nodup := by decide
def g_numbers_in : { g : M Out // ∀ {T : List Addr} {P : Program} {w : World} {K : PySem.W.Frag} {mg : Str → Option Value} {base : Heap} (hn_tuple : mg "tuple" = none) (f : Addr) (cdv : Value) (A : Around) (out : List Env) (s : Shared) (H : Hp) (E : XK), A.guards = some [] → Room 0 (A.deeper (envOfC "numbers_in" (defScope (top 12)) s.heap.objs.size f cdv)) →
    DSs T (cxOf CX0 P w K mg base ["things", "thing"] "numbers_in" (defScope (top 12)) f cdv A out s H E).nox (defBody (top 12)) g } := ⟨_, fun {T P w K mg base} hn_tuple f cdv A out s H E hgd hr =>
  (dss_one (ds_ret (de_callTy call_tupleD rfl hn_tuple rfl (da_cons (de_new (dn_lc (own := [("thing", 1)]) rfl nd_numbers_in (di_seq (de_var (i := 0) rfl (by first | exact Or.inl rfl | exact Or.inr (Or.inl rfl) | exact Or.inr (Or.inr rfl)))) (blk_of (N := ["things", "thing"]) (sc := defScope (top 12)) (by decide +kernel)) (by decide) (fun s H C cl fp => (dg_name (i := 1) nd_numbers_in rfl (by first | exact Or.inl rfl | exact Or.inr rfl))) (fam_ts1 fun s H C cl fp => (dt_cmp (op_eqD' (units64 hr)) (de_ix (de_var (i := 1) rfl (by first | exact Or.inl rfl | exact Or.inr (Or.inl rfl) | exact Or.inr (Or.inr rfl))) de_int) de_str)) (fun s H C cl fp => (de_ix (de_var (i := 1) rfl (by first | exact Or.inl rfl | exact Or.inr (Or.inl rfl) | exact Or.inr (Or.inr rfl))) de_int)))) da_nil))))⟩
abbrev φ_numbers_in : List D → Option D := runB 2 g_numbers_in.1
theorem d_numbers_in {T : List Addr} {P : Program} {w : World} {K : PySem.W.Frag} {mg : Str → Option Value} {base : Heap} {f c : Addr} (hn_tuple : mg "tuple" = none) (F : FunC K "numbers_in" "numbers_in" (top 12) f c) (hm : mg "numbers_in" = some (.ref f)) : Df T P w K mg base "numbers_in" 1 1 φ_numbers_in :=
  df_of (ps := ["things"]) (N := ["things", "thing"]) (g := g_numbers_in.1) F hm ⟨rfl, rfl, rfl, nd_numbers_in, rfl, by decide +kernel, by decide +kernel⟩ rfl (by decide) (fun _ _ _ _ _ us hl => match us, hl with | [_], _ => rfl) fun A out s H E hgd hr => g_numbers_in.2 hn_tuple f (.ref c) A out s H E hgd hr
theorem nd_judge_channel : (["things", "mark", "number", "place", "word", "told"] : List Str).Nodup := by decide
def g_judge_channel : { g : M Out // ∀ {T : List Addr} {P : Program} {w : World} {K : PySem.W.Frag} {mg : Str → Option Value} {base : Heap} (hn_enumerate : mg "enumerate" = none) (f : Addr) (cdv : Value) (A : Around) (out : List Env) (s : Shared) (H : Hp) (E : XK), A.guards = some [] → Room 0 (A.deeper (envOfC "judge_channel" (defScope (top 13)) s.heap.objs.size f cdv)) →
    DSs T (cxOf CX0 P w K mg base ["things", "mark", "number", "place", "word", "told"] "judge_channel" (defScope (top 13)) f cdv A out s H E).nox (defBody (top 13)) g } := ⟨_, fun {T P w K mg base} hn_enumerate f cdv A out s H E hgd hr =>
  (dss_cons (ds_set (i := 2) nd_judge_channel rfl (by first | exact Or.inl rfl | exact Or.inr rfl) de_int) (dss_cons (ds_for PassesOwn.never rfl (di_enumA rfl hn_enumerate (de_var (i := 0) rfl (by first | exact Or.inl rfl | exact Or.inr (Or.inl rfl) | exact Or.inr (Or.inr rfl)))) (dg_tup (n := 2) rfl (dgs_cons (dg_name (i := 3) nd_judge_channel rfl (by first | exact Or.inl rfl | exact Or.inr rfl)) (dgs_cons (dg_tup (n := 2) rfl (dgs_cons (dg_name (i := 4) nd_judge_channel rfl (by first | exact Or.inl rfl | exact Or.inr rfl)) (dgs_cons (dg_name (i := 5) nd_judge_channel rfl (by first | exact Or.inl rfl | exact Or.inr rfl)) dgs_nil))) dgs_nil))) (dss_one (ds_if (dt_cmp (op_eqD' (units64 hr)) (de_var (i := 4) rfl (by first | exact Or.inl rfl | exact Or.inr (Or.inl rfl) | exact Or.inr (Or.inr rfl))) de_str) (dss_cons (ds_if (dt_cmp op_leD (de_var (i := 5) rfl (by first | exact Or.inl rfl | exact Or.inr (Or.inl rfl) | exact Or.inr (Or.inr rfl))) (de_var (i := 2) rfl (by first | exact Or.inl rfl | exact Or.inr (Or.inl rfl) | exact Or.inr (Or.inr rfl)))) (dss_one (ds_ret (de_tup (da_cons de_str (da_cons (de_var (i := 3) rfl (by first | exact Or.inl rfl | exact Or.inr (Or.inl rfl) | exact Or.inr (Or.inr rfl))) da_nil))))) dss_nil) (dss_one (ds_set (i := 2) nd_judge_channel rfl (by first | exact Or.inl rfl | exact Or.inr rfl) (de_var (i := 5) rfl (by first | exact Or.inl rfl | exact Or.inr (Or.inl rfl) | exact Or.inr (Or.inr rfl)))))) (dss_cons (ds_if (dt_cmp op_ltD (de_if (dt_cmp (op_eqD' (units64 hr)) (de_var (i := 4) rfl (by first | exact Or.inl rfl | exact Or.inr (Or.inl rfl) | exact Or.inr (Or.inr rfl))) de_str) (de_ix (de_var (i := 5) rfl (by first | exact Or.inl rfl | exact Or.inr (Or.inl rfl) | exact Or.inr (Or.inr rfl))) de_int) (de_var (i := 5) rfl (by first | exact Or.inl rfl | exact Or.inr (Or.inl rfl) | exact Or.inr (Or.inr rfl)))) (de_var (i := 1) rfl (by first | exact Or.inl rfl | exact Or.inr (Or.inl rfl) | exact Or.inr (Or.inr rfl)))) (dss_one (ds_ret (de_tup (da_cons (de_var (i := 4) rfl (by first | exact Or.inl rfl | exact Or.inr (Or.inl rfl) | exact Or.inr (Or.inr rfl))) (da_cons (de_var (i := 3) rfl (by first | exact Or.inl rfl | exact Or.inr (Or.inl rfl) | exact Or.inr (Or.inr rfl))) da_nil))))) dss_nil) (dss_one (ds_set (i := 1) nd_judge_channel rfl (by first | exact Or.inl rfl | exact Or.inr rfl) (de_if (dt_cmp (op_eqD' (units64 hr)) (de_var (i := 4) rfl (by first | exact Or.inl rfl | exact Or.inr (Or.inl rfl) | exact Or.inr (Or.inr rfl))) de_str) (de_var (i := 5) rfl (by first | exact Or.inl rfl | exact Or.inr (Or.inl rfl) | exact Or.inr (Or.inr rfl))) (de_var (i := 1) rfl (by first | exact Or.inl rfl | exact Or.inr (Or.inl rfl) | exact Or.inr (Or.inr rfl)))))))))) (dss_one (ds_ret de_non))))⟩
abbrev φ_judge_channel : List D → Option D := runB 6 g_judge_channel.1
theorem d_judge_channel {T : List Addr} {P : Program} {w : World} {K : PySem.W.Frag} {mg : Str → Option Value} {base : Heap} {f c : Addr} (hn_enumerate : mg "enumerate" = none) (F : FunC K "judge_channel" "judge_channel" (top 13) f c) (hm : mg "judge_channel" = some (.ref f)) : Df T P w K mg base "judge_channel" 1 2 φ_judge_channel :=
  df_of (ps := ["things", "mark"]) (N := ["things", "mark", "number", "place", "word", "told"]) (g := g_judge_channel.1) F hm ⟨rfl, rfl, rfl, nd_judge_channel, rfl, by decide +kernel, by decide +kernel⟩ rfl (by decide) (fun _ _ _ _ _ us hl => match us, hl with | [_, _], _ => rfl) fun A out s H E hgd hr => g_judge_channel.2 hn_enumerate f (.ref c) A out s H E hgd hr
theorem nd__law_any_order : (["_law_source", "_law_things", "_law_others", "_law_lap"] : List Str).Nodup := by decide
def g__law_any_order : { g : M Out // ∀ {T : List Addr} {P : Program} {w : World} {K : PySem.W.Frag} {mg : Str → Option Value} {base : Heap} (hn_list : mg "list" = none) (hn_range : mg "range" = none) (hn_len : mg "len" = none) (hd__law_pick : DfS T P w K mg base "_law_pick" 1 1 (φ__law_pick)) (f : Addr) (cdv : Value) (A : Around) (out : List Env) (s : Shared) (H : Hp) (E : XK), A.guards = some [] → Room 1 (A.deeper (envOfC "_law_any_order" (defScope (top 17)) s.heap.objs.size f cdv)) →
    DSs T (cxOf CX0 P w K mg base ["_law_source", "_law_things", "_law_others", "_law_lap"] "_law_any_order" (defScope (top 17)) f cdv A out s H E).nox (defBody (top 17)) g } := ⟨_, fun {T P w K mg base} hn_list hn_range hn_len hd__law_pick f cdv A out s H E hgd hr =>
  (dss_cons (ds_own (i := 2) nd__law_any_order rfl (by first | exact Or.inl rfl | exact Or.inr rfl) (dn_callTy (call_listA rfl) rfl hn_list rfl (da_cons (de_var (i := 1) rfl (by first | exact Or.inl rfl | exact Or.inr (Or.inl rfl) | exact Or.inr (Or.inr rfl))) da_nil))) (dss_one (ds_ret (de_new (dn_lc (own := [("_law_lap", 3)]) rfl nd__law_any_order (di_range1 rfl hn_range (de_lenO (i := 2) rfl (by first | exact Or.inl rfl | exact Or.inr (Or.inl rfl) | exact Or.inr (Or.inr rfl)) rfl hn_len)) (blk_of (N := ["_law_source", "_law_things", "_law_others", "_law_lap"]) (sc := defScope (top 17)) (by decide +kernel)) (by decide) (fun s H C cl fp => (dg_name (i := 3) nd__law_any_order rfl (by first | exact Or.inl rfl | exact Or.inr rfl))) fam_ts0 (fun s H C cl fp => (de_popAt (i := 2) rfl (by first | exact Or.inl rfl | exact Or.inr (Or.inl rfl) | exact Or.inr (Or.inr rfl)) (de_callDS (i := 0) hd__law_pick hgd (hr.mono (by decide)) rfl At.z (by first | exact Or.inl rfl | exact Or.inr (Or.inl rfl) | exact Or.inr (Or.inr rfl)) (da_cons (de_lenO (i := 2) rfl (by first | exact Or.inl rfl | exact Or.inr (Or.inl rfl) | exact Or.inr (Or.inr rfl)) rfl hn_len) da_nil)))))))))⟩
abbrev φ__law_any_order : Src → List D → Option (D × Src) := runS 4 g__law_any_order.1
theorem d__law_any_order {T : List Addr} {P : Program} {w : World} {K : PySem.W.Frag} {mg : Str → Option Value} {base : Heap} {f c : Addr} (hn_list : mg "list" = none) (hn_range : mg "range" = none) (hn_len : mg "len" = none) (hd__law_pick : DfS T P w K mg base "_law_pick" 1 1 (φ__law_pick)) (F : FunC K "_law_any_order" "_law_any_order" (top 17) f c) (hm : mg "_law_any_order" = some (.ref f)) : DfS T P w K mg base "_law_any_order" 2 1 φ__law_any_order :=
  dfS_of (ps := ["_law_source", "_law_things"]) (N := ["_law_source", "_law_things", "_law_others", "_law_lap"]) (g := g__law_any_order.1) F hm ⟨rfl, rfl, rfl, nd__law_any_order, rfl, by decide +kernel, by decide +kernel⟩ rfl (by decide) (fun _ _ _ _ _ us hl => match us, hl with | [_, _], _ => rfl) fun A out s H E hgd hr => g__law_any_order.2 hn_list hn_range hn_len hd__law_pick f (.ref c) A out s H E hgd hr
theorem nd__law_draw_value : (["_law_source", "_law_kind"] : List Str).Nodup := by decide
def g__law_draw_value : { g : M Out // ∀ {T : List Addr} {P : Program} {w : World} {K : PySem.W.Frag} {mg : Str → Option Value} {base : Heap} (hd__law_pick : DfS T P w K mg base "_law_pick" 1 1 (φ__law_pick)) (f : Addr) (cdv : Value) (A : Around) (out : List Env) (s : Shared) (H : Hp) (E : XK), A.guards = some [] → Room 1 (A.deeper (envOfC "_law_draw_value" (defScope (top 18)) s.heap.objs.size f cdv)) →
    DSs T (cxOf CX0 P w K mg base ["_law_source", "_law_kind"] "_law_draw_value" (defScope (top 18)) f cdv A out s H E).nox (defBody (top 18)) g } := ⟨_, fun {T P w K mg base} hd__law_pick f cdv A out s H E hgd hr =>
  (dss_cons (ds_if (dt_cmp (op_eqD' (units64 hr)) (de_callDS (i := 0) hd__law_pick hgd (hr.mono (by decide)) rfl At.z (by first | exact Or.inl rfl | exact Or.inr (Or.inl rfl) | exact Or.inr (Or.inr rfl)) (da_cons de_int da_nil)) de_int) (dss_one (ds_ret de_non)) dss_nil) (dss_cons (ds_if (dt_cmp (op_eqD' (units64 hr)) (de_var (i := 1) rfl (by first | exact Or.inl rfl | exact Or.inr (Or.inl rfl) | exact Or.inr (Or.inr rfl))) de_str) (dss_one (ds_ret (de_ix (de_new (dn_lst (da_cons de_int (da_cons de_int (da_cons de_int (da_cons de_int (da_cons de_int (da_cons (de_bin op_subD de_int de_int) (da_cons de_int (da_cons (de_bin op_powD de_int de_int) da_nil)))))))))) (de_callDS (i := 0) hd__law_pick hgd (hr.mono (by decide)) rfl At.z (by first | exact Or.inl rfl | exact Or.inr (Or.inl rfl) | exact Or.inr (Or.inr rfl)) (da_cons de_int da_nil))))) dss_nil) (dss_one (ds_ret (de_ix (de_new (dn_lst (da_cons de_str (da_cons de_str (da_cons de_str (da_cons de_str (da_cons de_str (da_cons de_str da_nil)))))))) (de_callDS (i := 0) hd__law_pick hgd (hr.mono (by decide)) rfl At.z (by first | exact Or.inl rfl | exact Or.inr (Or.inl rfl) | exact Or.inr (Or.inr rfl)) (da_cons de_int da_nil)))))))⟩
abbrev φ__law_draw_value : Src → List D → Option (D × Src) := runS 2 g__law_draw_value.1
theorem d__law_draw_value {T : List Addr} {P : Program} {w : World} {K : PySem.W.Frag} {mg : Str → Option Value} {base : Heap} {f c : Addr} (hd__law_pick : DfS T P w K mg base "_law_pick" 1 1 (φ__law_pick)) (F : FunC K "_law_draw_value" "_law_draw_value" (top 18) f c) (hm : mg "_law_draw_value" = some (.ref f)) : DfS T P w K mg base "_law_draw_value" 2 1 φ__law_draw_value :=
  dfS_of (ps := ["_law_source", "_law_kind"]) (N := ["_law_source", "_law_kind"]) (g := g__law_draw_value.1) F hm ⟨rfl, rfl, rfl, nd__law_draw_value, rfl, by decide +kernel, by decide +kernel⟩ rfl (by decide) (fun _ _ _ _ _ us hl => match us, hl with | [_, _], _ => rfl) fun A out s H E hgd hr => g__law_draw_value.2 hd__law_pick f (.ref c) A out s H E hgd hr
theorem nd__law_draw_things : (["_law_source", "_law_mark", "_law_numbers", "_law_many", "_law_found", "_law_n", "_law_lap", "_law_road", "_law_values"] : List Str).Nodup := by decide
def g__law_draw_things : { g : M Out // ∀ {T : List Addr} {P : Program} {w : World} {K : PySem.W.Frag} {mg : Str → Option Value} {base : Heap} (hn_range : mg "range" = none) (hn_tuple : mg "tuple" = none) (hd__law_pick : DfS T P w K mg base "_law_pick" 1 1 (φ__law_pick)) (hd__law_draw_value : DfS T P w K mg base "_law_draw_value" 2 1 (φ__law_draw_value)) (f : Addr) (cdv : Value) (A : Around) (out : List Env) (s : Shared) (H : Hp) (E : XK), A.guards = some [] → Room 2 (A.deeper (envOfC "_law_draw_things" (defScope (top 19)) s.heap.objs.size f cdv)) →
    DSs T (cxOf CX0 P w K mg base ["_law_source", "_law_mark", "_law_numbers", "_law_many", "_law_found", "_law_n", "_law_lap", "_law_road", "_law_values"] "_law_draw_things" (defScope (top 19)) f cdv A out s H E).nox (defBody (top 19)) g } := ⟨_, fun {T P w K mg base} hn_range hn_tuple hd__law_pick hd__law_draw_value f cdv A out s H E hgd hr =>
  (dss_cons (ds_own (i := 4) nd__law_draw_things rfl (by first | exact Or.inl rfl | exact Or.inr rfl) (dn_lst da_nil)) (dss_cons (ds_for PassesOwn.never rfl (di_seq (de_bin op_addD (de_var (i := 2) rfl (by first | exact Or.inl rfl | exact Or.inr (Or.inl rfl) | exact Or.inr (Or.inr rfl))) (de_new (dn_lst (da_cons de_non da_nil))))) (dg_name (i := 5) nd__law_draw_things rfl (by first | exact Or.inl rfl | exact Or.inr rfl)) (dss_cons (ds_for PassesOwn.never rfl (di_range1 rfl hn_range (de_callDS (i := 0) hd__law_pick hgd (hr.mono (by decide)) rfl At.z (by first | exact Or.inl rfl | exact Or.inr (Or.inl rfl) | exact Or.inr (Or.inr rfl)) (da_cons (de_bin op_addD (de_var (i := 3) rfl (by first | exact Or.inl rfl | exact Or.inr (Or.inl rfl) | exact Or.inr (Or.inr rfl))) de_int) da_nil))) (dg_name (i := 6) nd__law_draw_things rfl (by first | exact Or.inl rfl | exact Or.inr rfl)) (dss_cons (ds_set (i := 7) nd__law_draw_things rfl (by first | exact Or.inl rfl | exact Or.inr rfl) (de_callDS (i := 0) hd__law_pick hgd (hr.mono (by decide)) rfl At.z (by first | exact Or.inl rfl | exact Or.inr (Or.inl rfl) | exact Or.inr (Or.inr rfl)) (da_cons de_int da_nil))) (dss_one (ds_if (dt_cmp (op_eqD' (units64 hr)) (de_var (i := 7) rfl (by first | exact Or.inl rfl | exact Or.inr (Or.inl rfl) | exact Or.inr (Or.inr rfl))) de_int) (dss_cons (ds_set (i := 1) nd__law_draw_things rfl (by first | exact Or.inl rfl | exact Or.inr rfl) (de_bin op_addD (de_var (i := 1) rfl (by first | exact Or.inl rfl | exact Or.inr (Or.inl rfl) | exact Or.inr (Or.inr rfl))) (de_ix (de_new (dn_lst (da_cons de_int (da_cons de_int (da_cons de_int (da_cons de_int da_nil)))))) (de_callDS (i := 0) hd__law_pick hgd (hr.mono (by decide)) rfl At.z (by first | exact Or.inl rfl | exact Or.inr (Or.inl rfl) | exact Or.inr (Or.inr rfl)) (da_cons de_int da_nil))))) (dss_one (ds_expr (de_append (i := 4) rfl (by first | exact Or.inl rfl | exact Or.inr (Or.inl rfl) | exact Or.inr (Or.inr rfl)) (de_tup (da_cons de_str (da_cons (de_var (i := 1) rfl (by first | exact Or.inl rfl | exact Or.inr (Or.inl rfl) | exact Or.inr (Or.inr rfl))) da_nil))))))) (dss_cons (ds_set (i := 8) nd__law_draw_things rfl (by first | exact Or.inl rfl | exact Or.inr rfl) (de_tup (da_cons (de_callDS (i := 0) hd__law_draw_value hgd (hr.mono (by decide)) rfl At.z (by first | exact Or.inl rfl | exact Or.inr (Or.inl rfl) | exact Or.inr (Or.inr rfl)) (da_cons de_str da_nil)) (da_cons (de_callDS (i := 0) hd__law_draw_value hgd (hr.mono (by decide)) rfl At.z (by first | exact Or.inl rfl | exact Or.inr (Or.inl rfl) | exact Or.inr (Or.inr rfl)) (da_cons de_str da_nil)) da_nil)))) (dss_one (ds_expr (de_append (i := 4) rfl (by first | exact Or.inl rfl | exact Or.inr (Or.inl rfl) | exact Or.inr (Or.inr rfl)) (de_tup (da_cons de_str (da_cons (de_tup (da_cons (de_bin op_addD (de_var (i := 1) rfl (by first | exact Or.inl rfl | exact Or.inr (Or.inl rfl) | exact Or.inr (Or.inr rfl))) (de_callDS (i := 0) hd__law_pick hgd (hr.mono (by decide)) rfl At.z (by first | exact Or.inl rfl | exact Or.inr (Or.inl rfl) | exact Or.inr (Or.inr rfl)) (da_cons de_int da_nil))) (da_cons (de_ix (de_new (dn_lst (da_cons de_int (da_cons de_int (da_cons (de_bin op_subD de_int de_int) da_nil))))) (de_callDS (i := 0) hd__law_pick hgd (hr.mono (by decide)) rfl At.z (by first | exact Or.inl rfl | exact Or.inr (Or.inl rfl) | exact Or.inr (Or.inr rfl)) (da_cons de_int da_nil))) (da_cons (de_var (i := 8) rfl (by first | exact Or.inl rfl | exact Or.inr (Or.inl rfl) | exact Or.inr (Or.inr rfl))) da_nil)))) da_nil))))))))))) (dss_one (ds_if (dt_cmp op_isNotD (de_var (i := 5) rfl (by first | exact Or.inl rfl | exact Or.inr (Or.inl rfl) | exact Or.inr (Or.inr rfl))) de_non) (dss_one (ds_expr (de_append (i := 4) rfl (by first | exact Or.inl rfl | exact Or.inr (Or.inl rfl) | exact Or.inr (Or.inr rfl)) (de_tup (da_cons de_str (da_cons (de_var (i := 5) rfl (by first | exact Or.inl rfl | exact Or.inr (Or.inl rfl) | exact Or.inr (Or.inr rfl))) da_nil)))))) dss_nil)))) (dss_one (ds_ret (de_callTy call_tupleD rfl hn_tuple rfl (da_cons (de_give (i := 4) rfl (by first | exact Or.inl rfl | exact Or.inr (Or.inl rfl) | exact Or.inr (Or.inr rfl))) da_nil))))))⟩
abbrev φ__law_draw_things : Src → List D → Option (D × Src) := runS 9 g__law_draw_things.1
theorem d__law_draw_things {T : List Addr} {P : Program} {w : World} {K : PySem.W.Frag} {mg : Str → Option Value} {base : Heap} {f c : Addr} (hn_range : mg "range" = none) (hn_tuple : mg "tuple" = none) (hd__law_pick : DfS T P w K mg base "_law_pick" 1 1 (φ__law_pick)) (hd__law_draw_value : DfS T P w K mg base "_law_draw_value" 2 1 (φ__law_draw_value)) (F : FunC K "_law_draw_things" "_law_draw_things" (top 19) f c) (hm : mg "_law_draw_things" = some (.ref f)) : DfS T P w K mg base "_law_draw_things" 3 3 φ__law_draw_things :=
  dfS_of (ps := ["_law_source", "_law_mark", "_law_numbers", "_law_many"]) (N := ["_law_source", "_law_mark", "_law_numbers", "_law_many", "_law_found", "_law_n", "_law_lap", "_law_road", "_law_values"]) (g := g__law_draw_things.1) F hm ⟨rfl, rfl, rfl, nd__law_draw_things, rfl, by decide +kernel, by decide +kernel⟩ rfl (by decide) (fun _ _ _ _ _ us hl => match us, hl with | [_, _, _, _], _ => rfl) fun A out s H E hgd hr => g__law_draw_things.2 hn_range hn_tuple hd__law_pick hd__law_draw_value f (.ref c) A out s H E hgd hr
theorem nd__law_fault : (["_law_things", "_law_mark", "_law_last", "_law_k", "_law_thing", "_law_word", "_law_told"] : List Str).Nodup := by decide
def g__law_fault : { g : M Out // ∀ {T : List Addr} {P : Program} {w : World} {K : PySem.W.Frag} {mg : Str → Option Value} {base : Heap} (hn_enumerate : mg "enumerate" = none) (f : Addr) (cdv : Value) (A : Around) (out : List Env) (s : Shared) (H : Hp) (E : XK), A.guards = some [] → Room 0 (A.deeper (envOfC "_law_fault" (defScope (top 22)) s.heap.objs.size f cdv)) →
    DSs T (cxOf CX0 P w K mg base ["_law_things", "_law_mark", "_law_last", "_law_k", "_law_thing", "_law_word", "_law_told"] "_law_fault" (defScope (top 22)) f cdv A out s H E).nox (defBody (top 22)) g } := ⟨_, fun {T P w K mg base} hn_enumerate f cdv A out s H E hgd hr =>
  (dss_cons (ds_set (i := 2) nd__law_fault rfl (by first | exact Or.inl rfl | exact Or.inr rfl) de_int) (dss_cons (ds_for PassesOwn.never rfl (di_enumA rfl hn_enumerate (de_var (i := 0) rfl (by first | exact Or.inl rfl | exact Or.inr (Or.inl rfl) | exact Or.inr (Or.inr rfl)))) (dg_tup (n := 2) rfl (dgs_cons (dg_name (i := 3) nd__law_fault rfl (by first | exact Or.inl rfl | exact Or.inr rfl)) (dgs_cons (dg_name (i := 4) nd__law_fault rfl (by first | exact Or.inl rfl | exact Or.inr rfl)) dgs_nil))) (dss_cons (ds_asg (de_var (i := 4) rfl (by first | exact Or.inl rfl | exact Or.inr (Or.inl rfl) | exact Or.inr (Or.inr rfl))) (dg_tup (n := 2) rfl (dgs_cons (dg_name (i := 5) nd__law_fault rfl (by first | exact Or.inl rfl | exact Or.inr rfl)) (dgs_cons (dg_name (i := 6) nd__law_fault rfl (by first | exact Or.inl rfl | exact Or.inr rfl)) dgs_nil)))) (dss_cons (ds_if (dt_w (dw_or (dt_w (dw_and (dt_cmp (op_eqD' (units64 hr)) (de_var (i := 5) rfl (by first | exact Or.inl rfl | exact Or.inr (Or.inl rfl) | exact Or.inr (Or.inr rfl))) de_str) (dw_and1 (dt_cmp op_ltD (de_ix (de_var (i := 6) rfl (by first | exact Or.inl rfl | exact Or.inr (Or.inl rfl) | exact Or.inr (Or.inr rfl))) de_int) (de_var (i := 1) rfl (by first | exact Or.inl rfl | exact Or.inr (Or.inl rfl) | exact Or.inr (Or.inr rfl))))))) (dw_or (dt_w (dw_and (dt_cmp (op_eqD' (units64 hr)) (de_var (i := 5) rfl (by first | exact Or.inl rfl | exact Or.inr (Or.inl rfl) | exact Or.inr (Or.inr rfl))) de_str) (dw_and1 (dt_cmp op_ltD (de_var (i := 6) rfl (by first | exact Or.inl rfl | exact Or.inr (Or.inl rfl) | exact Or.inr (Or.inr rfl))) (de_var (i := 1) rfl (by first | exact Or.inl rfl | exact Or.inr (Or.inl rfl) | exact Or.inr (Or.inr rfl))))))) (dw_or1 (dt_w (dw_and (dt_cmp (op_eqD' (units64 hr)) (de_var (i := 5) rfl (by first | exact Or.inl rfl | exact Or.inr (Or.inl rfl) | exact Or.inr (Or.inr rfl))) de_str) (dw_and1 (dt_cmp op_leD (de_var (i := 6) rfl (by first | exact Or.inl rfl | exact Or.inr (Or.inl rfl) | exact Or.inr (Or.inr rfl))) (de_var (i := 2) rfl (by first | exact Or.inl rfl | exact Or.inr (Or.inl rfl) | exact Or.inr (Or.inr rfl))))))))))) (dss_one (ds_ret (de_tup (da_cons (de_var (i := 5) rfl (by first | exact Or.inl rfl | exact Or.inr (Or.inl rfl) | exact Or.inr (Or.inr rfl))) (da_cons (de_var (i := 3) rfl (by first | exact Or.inl rfl | exact Or.inr (Or.inl rfl) | exact Or.inr (Or.inr rfl))) da_nil))))) dss_nil) (dss_cons (ds_if (dt_cmp (op_eqD' (units64 hr)) (de_var (i := 5) rfl (by first | exact Or.inl rfl | exact Or.inr (Or.inl rfl) | exact Or.inr (Or.inr rfl))) de_str) (dss_one (ds_set (i := 1) nd__law_fault rfl (by first | exact Or.inl rfl | exact Or.inr rfl) (de_var (i := 6) rfl (by first | exact Or.inl rfl | exact Or.inr (Or.inl rfl) | exact Or.inr (Or.inr rfl))))) dss_nil) (dss_one (ds_if (dt_cmp (op_eqD' (units64 hr)) (de_var (i := 5) rfl (by first | exact Or.inl rfl | exact Or.inr (Or.inl rfl) | exact Or.inr (Or.inr rfl))) de_str) (dss_one (ds_set (i := 2) nd__law_fault rfl (by first | exact Or.inl rfl | exact Or.inr rfl) (de_var (i := 6) rfl (by first | exact Or.inl rfl | exact Or.inr (Or.inl rfl) | exact Or.inr (Or.inr rfl))))) dss_nil)))))) (dss_one (ds_ret de_non))))⟩
abbrev φ__law_fault : List D → Option D := runB 7 g__law_fault.1
theorem d__law_fault {T : List Addr} {P : Program} {w : World} {K : PySem.W.Frag} {mg : Str → Option Value} {base : Heap} {f c : Addr} (hn_enumerate : mg "enumerate" = none) (F : FunC K "_law_fault" "_law_fault" (top 22) f c) (hm : mg "_law_fault" = some (.ref f)) : Df T P w K mg base "_law_fault" 1 2 φ__law_fault :=
  df_of (ps := ["_law_things", "_law_mark"]) (N := ["_law_things", "_law_mark", "_law_last", "_law_k", "_law_thing", "_law_word", "_law_told"]) (g := g__law_fault.1) F hm ⟨rfl, rfl, rfl, nd__law_fault, rfl, by decide +kernel, by decide +kernel⟩ rfl (by decide) (fun _ _ _ _ _ us hl => match us, hl with | [_, _], _ => rfl) fun A out s H E hgd hr => g__law_fault.2 hn_enumerate f (.ref c) A out s H E hgd hr
end Dl

set_option Elab.async false
set_option linter.all false
set_option maxRecDepth 100000
set_option maxHeartbeats 400000
namespace Dl
open PySem PySem.Spec PyProof.Rows L2
theorem nd__law_things_right : (["_law_source", "_law_mark", "_law_things", "_law_numbers", "_law_n", "_law_lap", "_law_at", "_law_bent", "_law_low", "_law_thing", "_law_k", "_law_j"] : List Str).Nodup := by decide
def g__law_things_right : { g : M Out // ∀ {T : List Addr} {P : Program} {w : World} {K : PySem.W.Frag} {mg : Str → Option Value} {base : Heap} (hsb : SysB base) (hn_repr : mg "repr" = none) (hn_tuple : mg "tuple" = none) (hn_enumerate : mg "enumerate" = none) (hn_len : mg "len" = none) (hn_range : mg "range" = none) (hd__law_pick : DfS T P w K mg base "_law_pick" 1 1 (φ__law_pick)) (hd__law_draw_things : DfS T P w K mg base "_law_draw_things" 3 3 (φ__law_draw_things)) (hd_judge_channel : Df T P w K mg base "judge_channel" 1 2 (φ_judge_channel)) (hd_numbers_in : Df T P w K mg base "numbers_in" 1 1 (φ_numbers_in)) (hd_behind : Df T P w K mg base "behind" 2 2 (φ_behind)) (hd_before : Df T P w K mg base "before" 2 2 (φ_before)) (hd__law_any_order : DfS T P w K mg base "_law_any_order" 2 1 (φ__law_any_order)) (hd__law_fault : Df T P w K mg base "_law_fault" 1 2 (φ__law_fault)) (f : Addr) (cdv : Value) (A : Around) (out : List Env) (s : Shared) (H : Hp) (E : XK), A.guards = some [] → Room 3 (A.deeper (envOfC "_law_things_right" (defScope (top 23)) s.heap.objs.size f cdv)) →
    DSs T (cxOf CX0 P w K mg base ["_law_source", "_law_mark", "_law_things", "_law_numbers", "_law_n", "_law_lap", "_law_at", "_law_bent", "_law_low", "_law_thing", "_law_k", "_law_j"] "_law_things_right" (defScope (top 23)) f cdv A out s H E).nox (defBody (top 23)) g } := ⟨_, fun {T P w K mg base} hsb hn_repr hn_tuple hn_enumerate hn_len hn_range hd__law_pick hd__law_draw_things hd_judge_channel hd_numbers_in hd_behind hd_before hd__law_any_order hd__law_fault f cdv A out s H E hgd hr =>
  (dss_cons (ds_set (i := 1) nd__law_things_right rfl (by first | exact Or.inl rfl | exact Or.inr rfl) (de_ix (de_new (dn_lst (da_cons de_int (da_cons de_int (da_cons de_int da_nil))))) (de_callDS (i := 0) hd__law_pick hgd (hr.mono (by decide)) rfl At.z (by first | exact Or.inl rfl | exact Or.inr (Or.inl rfl) | exact Or.inr (Or.inr rfl)) (da_cons de_int da_nil)))) (dss_cons (ds_set (i := 2) nd__law_things_right rfl (by first | exact Or.inl rfl | exact Or.inr rfl) (de_callDS (i := 0) hd__law_draw_things hgd (hr.mono (by decide)) rfl At.z (by first | exact Or.inl rfl | exact Or.inr (Or.inl rfl) | exact Or.inr (Or.inr rfl)) (da_cons (de_var (i := 1) rfl (by first | exact Or.inl rfl | exact Or.inr (Or.inl rfl) | exact Or.inr (Or.inr rfl))) (da_cons (de_slice (de_new (dn_lst (da_cons de_int (da_cons de_int (da_cons de_int (da_cons de_int da_nil)))))) do_none (do_some (de_callDS (i := 0) hd__law_pick hgd (hr.mono (by decide)) rfl At.z (by first | exact Or.inl rfl | exact Or.inr (Or.inl rfl) | exact Or.inr (Or.inr rfl)) (da_cons de_int da_nil)))) (da_cons de_int da_nil))))) (dss_cons (ds_setLc (i := 3) (own := [("_law_thing", 9)]) rfl nd__law_things_right rfl rfl (sw_true rfl rfl rfl rfl) (di_seq (de_var (i := 2) rfl (by first | exact Or.inl rfl | exact Or.inr (Or.inl rfl) | exact Or.inr (Or.inr rfl)))) (blk_of (N := ["_law_source", "_law_mark", "_law_things", "_law_numbers", "_law_n", "_law_lap", "_law_at", "_law_bent", "_law_low", "_law_thing", "_law_k", "_law_j"]) (sc := defScope (top 23)) (by decide +kernel)) (by decide) (fun s H C cl fp => (dg_name (i := 9) nd__law_things_right rfl (by first | exact Or.inl rfl | exact Or.inr rfl))) (fam_ts1 fun s H C cl fp => (dt_cmp (op_eqD' (units64 hr)) (de_ix (de_var (i := 9) rfl (by first | exact Or.inl rfl | exact Or.inr (Or.inl rfl) | exact Or.inr (Or.inr rfl))) de_int) de_str)) (fun s H C cl fp => (de_ix (de_var (i := 9) rfl (by first | exact Or.inl rfl | exact Or.inr (Or.inl rfl) | exact Or.inr (Or.inr rfl))) de_int))) (dss_cons (ds_if (dt_w (dw_or (dt_cmp (op_neD' (units64 hr)) (de_callB (call_reprD hgd (units70 hr) hsb) rfl hn_repr rfl (da_cons (de_callD hd_numbers_in hgd (hr.mono (by decide)) rfl (da_cons (de_var (i := 2) rfl (by first | exact Or.inl rfl | exact Or.inr (Or.inl rfl) | exact Or.inr (Or.inr rfl))) da_nil)) da_nil)) (de_callB (call_reprD hgd (units70 hr) hsb) rfl hn_repr rfl (da_cons (de_callTy call_tupleD rfl hn_tuple rfl (da_cons (de_var (i := 3) rfl (by first | exact Or.inl rfl | exact Or.inr (Or.inl rfl) | exact Or.inr (Or.inr rfl))) da_nil)) da_nil))) (dw_or1 (dt_cmp op_isNotD (de_callD hd_judge_channel hgd (hr.mono (by decide)) rfl (da_cons (de_var (i := 2) rfl (by first | exact Or.inl rfl | exact Or.inr (Or.inl rfl) | exact Or.inr (Or.inr rfl))) (da_cons (de_var (i := 1) rfl (by first | exact Or.inl rfl | exact Or.inr (Or.inl rfl) | exact Or.inr (Or.inr rfl))) da_nil))) de_non)))) (dss_one (ds_ret de_bl)) dss_nil) (dss_cons (ds_for PassesOwn.never rfl (di_seq (de_tup (da_cons de_int (da_cons de_int (da_cons de_int (da_cons de_int da_nil)))))) (dg_name (i := 4) nd__law_things_right rfl (by first | exact Or.inl rfl | exact Or.inr rfl)) (dss_cons (ds_set (i := 6) nd__law_things_right rfl (by first | exact Or.inl rfl | exact Or.inr rfl) (de_bin op_addD (de_slice (de_new (dn_lc (own := [("_law_k", 10), ("_law_thing", 9)]) rfl nd__law_things_right (di_enumA rfl hn_enumerate (de_var (i := 2) rfl (by first | exact Or.inl rfl | exact Or.inr (Or.inl rfl) | exact Or.inr (Or.inr rfl)))) (blk_of (N := ["_law_source", "_law_mark", "_law_things", "_law_numbers", "_law_n", "_law_lap", "_law_at", "_law_bent", "_law_low", "_law_thing", "_law_k", "_law_j"]) (sc := defScope (top 23)) (by decide +kernel)) (by decide) (fun s H C cl fp => (dg_tup (n := 2) rfl (dgs_cons (dg_name (i := 10) nd__law_things_right rfl (by first | exact Or.inl rfl | exact Or.inr rfl)) (dgs_cons (dg_name (i := 9) nd__law_things_right rfl (by first | exact Or.inl rfl | exact Or.inr rfl)) dgs_nil)))) (fam_ts1 fun s H C cl fp => (dt_cmp (op_eqD' (units64 hr)) (de_var (i := 9) rfl (by first | exact Or.inl rfl | exact Or.inr (Or.inl rfl) | exact Or.inr (Or.inr rfl))) (de_tup (da_cons de_str (da_cons (de_var (i := 4) rfl (by first | exact Or.inl rfl | exact Or.inr (Or.inl rfl) | exact Or.inr (Or.inr rfl))) da_nil))))) (fun s H C cl fp => (de_var (i := 10) rfl (by first | exact Or.inl rfl | exact Or.inr (Or.inl rfl) | exact Or.inr (Or.inr rfl)))))) do_none (do_some de_int)) (de_new (dn_lst (da_cons (de_callB call_lenD rfl hn_len rfl (da_cons (de_var (i := 2) rfl (by first | exact Or.inl rfl | exact Or.inr (Or.inl rfl) | exact Or.inr (Or.inr rfl))) da_nil)) da_nil))))) (dss_one (ds_if (dt_cmp (op_neD' (units64 hr)) (de_callB (call_reprD hgd (units70 hr) hsb) rfl hn_repr rfl (da_cons (de_new (dn_lst (da_cons (de_callD hd_before hgd (hr.mono (by decide)) rfl (da_cons (de_var (i := 2) rfl (by first | exact Or.inl rfl | exact Or.inr (Or.inl rfl) | exact Or.inr (Or.inr rfl))) (da_cons (de_var (i := 4) rfl (by first | exact Or.inl rfl | exact Or.inr (Or.inl rfl) | exact Or.inr (Or.inr rfl))) da_nil))) (da_cons (de_callD hd_behind hgd (hr.mono (by decide)) rfl (da_cons (de_var (i := 2) rfl (by first | exact Or.inl rfl | exact Or.inr (Or.inl rfl) | exact Or.inr (Or.inr rfl))) (da_cons (de_var (i := 4) rfl (by first | exact Or.inl rfl | exact Or.inr (Or.inl rfl) | exact Or.inr (Or.inr rfl))) da_nil))) da_nil)))) da_nil)) (de_callB (call_reprD hgd (units70 hr) hsb) rfl hn_repr rfl (da_cons (de_new (dn_lst (da_cons (de_slice (de_var (i := 2) rfl (by first | exact Or.inl rfl | exact Or.inr (Or.inl rfl) | exact Or.inr (Or.inr rfl))) do_none (do_some (de_ix (de_var (i := 6) rfl (by first | exact Or.inl rfl | exact Or.inr (Or.inl rfl) | exact Or.inr (Or.inr rfl))) de_int))) (da_cons (de_slice (de_var (i := 2) rfl (by first | exact Or.inl rfl | exact Or.inr (Or.inl rfl) | exact Or.inr (Or.inr rfl))) (do_some (de_bin op_addD (de_ix (de_var (i := 6) rfl (by first | exact Or.inl rfl | exact Or.inr (Or.inl rfl) | exact Or.inr (Or.inr rfl))) de_int) de_int)) do_none) da_nil)))) da_nil))) (dss_one (ds_ret de_bl)) dss_nil)))) (dss_cons (ds_for PassesOwn.never rfl (di_range1 rfl hn_range de_int) (dg_name (i := 5) nd__law_things_right rfl (by first | exact Or.inl rfl | exact Or.inr rfl)) (dss_cons (ds_par (i := 10) (j := 11) rfl nd__law_things_right rfl rfl (by decide) rfl rfl (de_callDS (i := 0) hd__law_pick hgd (hr.mono (by decide)) rfl At.z (by first | exact Or.inl rfl | exact Or.inr (Or.inl rfl) | exact Or.inr (Or.inr rfl)) (da_cons (de_bin op_addD (de_callB call_lenD rfl hn_len rfl (da_cons (de_var (i := 2) rfl (by first | exact Or.inl rfl | exact Or.inr (Or.inl rfl) | exact Or.inr (Or.inr rfl))) da_nil)) de_int) da_nil)) (de_callDS (i := 0) hd__law_pick hgd (hr.mono (by decide)) rfl At.z (by first | exact Or.inl rfl | exact Or.inr (Or.inl rfl) | exact Or.inr (Or.inr rfl)) (da_cons (de_bin op_addD (de_callB call_lenD rfl hn_len rfl (da_cons (de_var (i := 2) rfl (by first | exact Or.inl rfl | exact Or.inr (Or.inl rfl) | exact Or.inr (Or.inr rfl))) da_nil)) de_int) da_nil)) rfl) (dss_cons (ds_set (i := 7) nd__law_things_right rfl (by first | exact Or.inl rfl | exact Or.inr rfl) (de_bin op_addD (de_bin op_addD (de_slice (de_var (i := 2) rfl (by first | exact Or.inl rfl | exact Or.inr (Or.inl rfl) | exact Or.inr (Or.inr rfl))) do_none (do_some (de_var (i := 10) rfl (by first | exact Or.inl rfl | exact Or.inr (Or.inl rfl) | exact Or.inr (Or.inr rfl))))) (de_slice (de_var (i := 2) rfl (by first | exact Or.inl rfl | exact Or.inr (Or.inl rfl) | exact Or.inr (Or.inr rfl))) (do_some (de_var (i := 11) rfl (by first | exact Or.inl rfl | exact Or.inr (Or.inl rfl) | exact Or.inr (Or.inr rfl)))) (do_some (de_bin op_addD (de_var (i := 11) rfl (by first | exact Or.inl rfl | exact Or.inr (Or.inl rfl) | exact Or.inr (Or.inr rfl))) de_int)))) (de_slice (de_var (i := 2) rfl (by first | exact Or.inl rfl | exact Or.inr (Or.inl rfl) | exact Or.inr (Or.inr rfl))) (do_some (de_var (i := 10) rfl (by first | exact Or.inl rfl | exact Or.inr (Or.inl rfl) | exact Or.inr (Or.inr rfl)))) do_none))) (dss_cons (ds_set (i := 7) nd__law_things_right rfl (by first | exact Or.inl rfl | exact Or.inr rfl) (de_if (dt_cmp (op_eqD' (units64 hr)) (de_var (i := 5) rfl (by first | exact Or.inl rfl | exact Or.inr (Or.inl rfl) | exact Or.inr (Or.inr rfl))) de_int) (de_callDS (i := 0) hd__law_any_order hgd (hr.mono (by decide)) rfl At.z (by first | exact Or.inl rfl | exact Or.inr (Or.inl rfl) | exact Or.inr (Or.inr rfl)) (da_cons (de_var (i := 7) rfl (by first | exact Or.inl rfl | exact Or.inr (Or.inl rfl) | exact Or.inr (Or.inr rfl))) da_nil)) (de_var (i := 7) rfl (by first | exact Or.inl rfl | exact Or.inr (Or.inl rfl) | exact Or.inr (Or.inr rfl))))) (dss_cons (ds_set (i := 8) nd__law_things_right rfl (by first | exact Or.inl rfl | exact Or.inr rfl) (de_bin op_addD (de_var (i := 1) rfl (by first | exact Or.inl rfl | exact Or.inr (Or.inl rfl) | exact Or.inr (Or.inr rfl))) (de_ix (de_new (dn_lst (da_cons de_int (da_cons de_int (da_cons de_int (da_cons de_int da_nil)))))) (de_callDS (i := 0) hd__law_pick hgd (hr.mono (by decide)) rfl At.z (by first | exact Or.inl rfl | exact Or.inr (Or.inl rfl) | exact Or.inr (Or.inr rfl)) (da_cons de_int da_nil))))) (dss_one (ds_if (dt_cmp (op_neD' (units64 hr)) (de_callB (call_reprD hgd (units70 hr) hsb) rfl hn_repr rfl (da_cons (de_callD hd_judge_channel hgd (hr.mono (by decide)) rfl (da_cons (de_callTy call_tupleD rfl hn_tuple rfl (da_cons (de_var (i := 7) rfl (by first | exact Or.inl rfl | exact Or.inr (Or.inl rfl) | exact Or.inr (Or.inr rfl))) da_nil)) (da_cons (de_var (i := 8) rfl (by first | exact Or.inl rfl | exact Or.inr (Or.inl rfl) | exact Or.inr (Or.inr rfl))) da_nil))) da_nil)) (de_callB (call_reprD hgd (units70 hr) hsb) rfl hn_repr rfl (da_cons (de_callD hd__law_fault hgd (hr.mono (by decide)) rfl (da_cons (de_callTy call_tupleD rfl hn_tuple rfl (da_cons (de_var (i := 7) rfl (by first | exact Or.inl rfl | exact Or.inr (Or.inl rfl) | exact Or.inr (Or.inr rfl))) da_nil)) (da_cons (de_var (i := 8) rfl (by first | exact Or.inl rfl | exact Or.inr (Or.inl rfl) | exact Or.inr (Or.inr rfl))) da_nil))) da_nil))) (dss_one (ds_ret de_bl)) dss_nil))))))) (dss_one (ds_ret de_bl))))))))⟩
abbrev φ__law_things_right : Src → List D → Option (D × Src) := runS 12 g__law_things_right.1
theorem d__law_things_right {T : List Addr} {P : Program} {w : World} {K : PySem.W.Frag} {mg : Str → Option Value} {base : Heap} {f c : Addr} (hsb : SysB base) (hn_repr : mg "repr" = none) (hn_tuple : mg "tuple" = none) (hn_enumerate : mg "enumerate" = none) (hn_len : mg "len" = none) (hn_range : mg "range" = none) (hd__law_pick : DfS T P w K mg base "_law_pick" 1 1 (φ__law_pick)) (hd__law_draw_things : DfS T P w K mg base "_law_draw_things" 3 3 (φ__law_draw_things)) (hd_judge_channel : Df T P w K mg base "judge_channel" 1 2 (φ_judge_channel)) (hd_numbers_in : Df T P w K mg base "numbers_in" 1 1 (φ_numbers_in)) (hd_behind : Df T P w K mg base "behind" 2 2 (φ_behind)) (hd_before : Df T P w K mg base "before" 2 2 (φ_before)) (hd__law_any_order : DfS T P w K mg base "_law_any_order" 2 1 (φ__law_any_order)) (hd__law_fault : Df T P w K mg base "_law_fault" 1 2 (φ__law_fault)) (F : FunC K "_law_things_right" "_law_things_right" (top 23) f c) (hm : mg "_law_things_right" = some (.ref f)) : DfS T P w K mg base "_law_things_right" 4 0 φ__law_things_right :=
  dfS_of (ps := ["_law_source"]) (N := ["_law_source", "_law_mark", "_law_things", "_law_numbers", "_law_n", "_law_lap", "_law_at", "_law_bent", "_law_low", "_law_thing", "_law_k", "_law_j"]) (g := g__law_things_right.1) F hm ⟨rfl, rfl, rfl, nd__law_things_right, rfl, by decide +kernel, by decide +kernel⟩ rfl (by decide) (fun _ _ _ _ _ us hl => match us, hl with | [_], _ => rfl) fun A out s H E hgd hr => g__law_things_right.2 hsb hn_repr hn_tuple hn_enumerate hn_len hn_range hd__law_pick hd__law_draw_things hd_judge_channel hd_numbers_in hd_behind hd_before hd__law_any_order hd__law_fault f (.ref c) A out s H E hgd hr
end Dl

set_option Elab.async false
set_option linter.all false
set_option maxRecDepth 100000
set_option maxHeartbeats 400000
namespace Dl
open PySem PySem.Spec PyProof.Rows L2
theorem nd_pick : (["_law_source", "_law_most", "_law_cells", "_law_others", "_law_lap", "_law_stirred"] : List Str).Nodup := by decide


/-! ### the source's entries -/
section
variable {c : Addr} {s : Src} {H : Hp} {a : Addr}
abbrev kK (x : Str) : Key := Sum.inr x
theorem n_cl : ¬ kK "cells" = kK "left" := by decide
theorem n_cm : ¬ kK "cells" = kK "mixed" := by decide
theorem n_lm : ¬ kK "left" = kK "mixed" := by decide
theorem n_ct : ¬ kK "cells" = kK "turn" := by decide
theorem n_lt : ¬ kK "left" = kK "turn" := by decide
theorem n_mt : ¬ kK "mixed" = kK "turn" := by decide
theorem val_cells : valV (srcV c s) (.inr "cells") = some (.ref c) := by unfold srcV; rw [valV_pos rfl]
theorem val_left : valV (srcV c s) (.inr "left") = some (.int s.left) := by unfold srcV; rw [valV_neg n_cl, valV_pos rfl]
theorem val_mixed : valV (srcV c s) (.inr "mixed") = some (.int s.mixed) := by unfold srcV; rw [valV_neg n_cm, valV_neg n_lm, valV_pos rfl]
theorem val_turn : valV (srcV c s) (.inr "turn") = some (.int s.turn) := by unfold srcV; rw [valV_neg n_ct, valV_neg n_lt, valV_neg n_mt, valV_pos rfl]
theorem dg_ (h : H a = some (.dK (srcV c s))) {x : Str} {v : V} (e : valV (srcV c s) (.inr x) = some v) : DGet H a (.str x) (some v) := e ▸ DGet.k (k := .inr x) h
theorem put_left {l : Int} : putK (srcV c s) (.inr "left") (.int l) = srcV c { s with left := l } := by
  have n2 : ¬ kK "mixed" = kK "left" := by decide
  have n3 : ¬ kK "turn" = kK "left" := by decide
  have h : ((srcV c s).any fun kv => decide (kv.1 = kK "left")) = true := by
    show (decide (kK "cells" = kK "left") || (decide (kK "left" = kK "left") || _)) = true
    rw [decide_eq_true (rfl : kK "left" = kK "left"), Bool.true_or, Bool.or_true]
  unfold putK
  rw [if_pos h]
  show [if kK "cells" = kK "left" then _ else _, if kK "left" = kK "left" then _ else _, if kK "mixed" = kK "left" then _ else _, if kK "turn" = kK "left" then _ else _] = _
  rw [if_neg n_cl, if_pos rfl, if_neg n2, if_neg n3]
  rfl
theorem put_turn {l : Int} : putK (srcV c s) (.inr "turn") (.int l) = srcV c { s with turn := l } := by
  have h : ((srcV c s).any fun kv => decide (kv.1 = kK "turn")) = true := by
    show (decide (kK "cells" = kK "turn") || (decide (kK "left" = kK "turn") || (decide (kK "mixed" = kK "turn") || (decide (kK "turn" = kK "turn") || _)))) = true
    rw [decide_eq_true (rfl : kK "turn" = kK "turn"), Bool.true_or, Bool.or_true, Bool.or_true, Bool.or_true]
  unfold putK
  rw [if_pos h]
  show [if kK "cells" = kK "turn" then _ else _, if kK "left" = kK "turn" then _ else _, if kK "mixed" = kK "turn" then _ else _, if kK "turn" = kK "turn" then _ else _] = _
  rw [if_neg n_ct, if_neg n_lt, if_neg n_mt, if_pos rfl]
  rfl
theorem dp_left (h : H a = some (.dK (srcV c s))) {l : Int} : DPut H a (.str "left") (.int l) (upd H a (.dK (srcV c { s with left := l }))) := put_left (c := c) (s := s) (l := l) ▸ DPut.k (k := .inr "left") (v := .int l) h (by show 4 < sizeLine; decide)
theorem dp_turn (h : H a = some (.dK (srcV c s))) {l : Int} : DPut H a (.str "turn") (.int l) (upd H a (.dK (srcV c { s with turn := l }))) := put_turn (c := c) (s := s) (l := l) ▸ DPut.k (k := .inr "turn") (v := .int l) h (by show 4 < sizeLine; decide)
end
theorem pick_nil {l : Int} : pickCells [] l = ([], l) := rfl
theorem pick_snoc {cs : List Int} {c l : Int} : pickCells (cs ++ [c]) l = if l < 2 then pickCells cs c else (cs ++ [c], l) := by
  unfold pickCells
  rw [List.reverse_append]
  show (if l < 2 then pickGo cs.reverse c else ((c :: cs.reverse).reverse, l)) = _
  split
  · rfl
  · simp
theorem pick_stop {cs : List Int} {l : Int} (h : ¬ l < 2) : pickCells cs l = (cs, l) := by
  rcases List.eq_nil_or_concat cs with e | ⟨r, c, e⟩
  · rw [e]; rfl
  · rw [e, List.concat_eq_append, pick_snoc, if_neg h]
structure At2 (H0 H : Hp) (p : Addr × Addr) (s : Src) : Prop where
  d : H p.1 = some (.dK (srcV p.2 s))
  c : H p.2 = some (.lst (s.cells.map V.int))
  off : ∀ b, b ≠ p.1 → b ≠ p.2 → H b = H0 b
theorem At2.ne {H0 H : Hp} {p : Addr × Addr} {s : Src} (x : At2 H0 H p s) : p.1 ≠ p.2 := fun e => by
  have h := x.c
  rw [← e, x.d] at h
  cases h
theorem At2.put {H0 H : Hp} {p : Addr × Addr} {s s' : Src} (x : At2 H0 H p s) (e : s'.cells = s.cells) : At2 H0 (upd H p.1 (.dK (srcV p.2 s'))) p s' :=
  ⟨upd_same, by rw [upd_ne x.ne.symm, e]; exact x.c, fun b h1 h2 => by rw [upd_ne h1]; exact x.off b h1 h2⟩
theorem and_run {t u : TT} {σ : L2.St} {H : Hp} {Q : Bool → Hp → Prop} {a b : Bool} (h : Q (a && b) H) (h1 : ∀ Q : Bool → Hp → Prop, Q a H → t σ H Q) (h2 : ∀ Q : Bool → Hp → Prop, Q b H → u σ H Q) : tAnd t u σ H Q := by
  refine h1 _ ?_
  cases a with
  | true => exact iteT (h2 _ h)
  | false => exact iteF h
theorem small_mod (x : Int) : -(2 ^ 64) < x.fmod 998244353 ∧ x.fmod 998244353 < 2 ^ 64 := by
  have h1 : 0 ≤ x.fmod 998244353 := Int.fmod_nonneg_of_pos _ (by decide)
  have h2 : x.fmod 998244353 < 998244353 := Int.fmod_lt_of_pos _ (by decide)
  exact ⟨by omega, by omega⟩
theorem pick_body {P : Program} {w : World} {K : PySem.W.Frag} {mg : Str → Option Value} {base : Heap} (hl : mg "len" = none) (hi : mg "int" = none) (f : Addr) (cdv : Value) (A : Around) (out : List Env) (s : Shared) (H0 : Hp) (E : XK) (hr : Room 0 (A.deeper (envOfC "_law_pick" (defScope (top 16)) s.heap.objs.size f cdv)))
    {H : Hp} {p : Addr × Addr} {src : Src} {m : Int} {Q : VK} (hm : m < 1073741824) (hd : H p.1 = some (.dK (srcV p.2 src))) (hc : H p.2 = some (.lst (src.cells.map V.int)))
    (q : ∀ H', H' p.1 = some (.dK (srcV p.2 (pickS src m).2)) → H' p.2 = some (.lst ((pickS src m).2.cells.map V.int)) → (∀ b, b ≠ p.1 → b ≠ p.2 → H' b = H b) → Q (.int (pickS src m).1) H') :
    ∃ t, PSs (cxOf CX0 P w K mg base ["_law_source", "_law_most", "_law_cells", "_law_others", "_law_lap", "_law_stirred"] "_law_pick" (defScope (top 16)) f cdv A out s H0 E).nox (defBody (top 16)) t ∧
      t { nx := fun _ H' => Q .non H', rt := Q } (start ["_law_source", "_law_most", "_law_cells", "_law_others", "_law_lap", "_law_stirred"] [.ref p.1, .int m]) H := by
  have hu : A.units + 3 + 1 < cLine := by have := hr.un; show A.units + 3 + 1 < _; have : A.units + 3 + 16 * 0 + 200 < cLine := this; omega
  refine ⟨_, pss_cons (ps_if (pt_cmpR op_lt (pv 1) pe_int (nomark _)) (pss_one (ps_ret pe_int)) pss_nil)
    (pss_cons (ps_set (i := 2) nd_pick rfl (by first | exact Or.inl rfl | exact Or.inr rfl) (pe_dget hu (pv 0) pe_str (fun _ _ => rfl)))
    (pss_cons (ps_while PassesOwn.never (PW.pt (pw_and (pt_cmpR op_lt (pe_dget hu (pv 0) pe_str (fun _ _ => rfl)) pe_int (nomark _)) (pw_and1 (pt_cmpR op_gt (pe_callB call_len rfl hl rfl (pa_cons (pv 2) pa_nil)) pe_int (nomark _)))))
      (pss_one (ps_asg (pe_bm0 PySem.F.plainAttrs_list PySem.F.slot_list_pop PySem.F.type_list_pop mt_pop (pv 2)) (pg_sub (pv 0) pe_str (set_dict hu)))))
    (pss_cons (ps_set (i := 3) nd_pick rfl (by first | exact Or.inl rfl | exact Or.inr rfl) (pe_dget hu (pv 0) pe_str (fun _ _ => rfl)))
    (pss_cons (ps_if (pt_cmpR op_gt (pv 3) pe_int (nomark _)) (pss_cons (ps_asg (pe_op op_fdivN (pv 3) (pv 1)) (pg_sub (pv 0) pe_str (set_dict hu))) (pss_one (ps_ret (pe_op op_modN (pe_callTy call_int1 rfl hi rfl (pa_cons (pv 3) pa_nil)) (pv 1))))) pss_nil)
    (pss_cons (ps_asg (pe_op op_add (pe_dget hu (pv 0) pe_str (fun _ _ => rfl)) pe_int) (pg_sub (pv 0) pe_str (set_dict hu)))
    (pss_cons (ps_set (i := 4) nd_pick rfl (by first | exact Or.inl rfl | exact Or.inr rfl) (pe_dget hu (pv 0) pe_str (fun _ _ => rfl)))
    (pss_cons (ps_set (i := 5) nd_pick rfl (by first | exact Or.inl rfl | exact Or.inr rfl) (pe_op op_modN (pe_callTy call_int1 rfl hi rfl (pa_cons (pe_op op_add (pe_dget hu (pv 0) pe_str (fun _ _ => rfl)) (pe_op op_mul (pv 4) pe_int)) pa_nil)) pe_int))
    (pss_cons (ps_set (i := 5) nd_pick rfl (by first | exact Or.inl rfl | exact Or.inr rfl) (pe_op op_modN (pe_callTy call_int1 rfl hi rfl (pa_cons (pe_op op_add (pe_op op_mul (pv 5) (pv 5)) (pe_op op_mul (pv 4) pe_int)) pa_nil)) pe_int))
    (pss_one (ps_ret (pe_op op_modN (pe_callTy call_int1 rfl hi rfl (pa_cons (pe_op op_fdivN (pv 5) pe_int) pa_nil)) (pv 1)))))))))))), ?_⟩
  have X0 : At2 H H p src := ⟨hd, hc, fun _ _ _ => rfl⟩
  refine ⟨_, rfl, _, _, rfl, rfl, _, rfl, ?_⟩
  show if decide (m < 2) = true then _ else _
  by_cases h1 : m < 2
  · rw [if_pos (decide_eq_true h1)]
    have e : pickS src m = (0, src) := by unfold pickS; rw [if_pos h1]
    rw [e] at q
    exact q H hd hc fun _ _ _ => rfl
  rw [if_neg (by rw [decide_eq_false h1]; exact Bool.false_ne_true)]
  have hm0 : m ≠ 0 := by omega
  have hdv : CDivN 0 m := ⟨hm0, by omega⟩
  refine ⟨_, rfl, p.1, _, rfl, dg_ hd val_cells, ?_⟩
  refine ⟨fun k σ' H' => ∃ s', σ' = [some (.ref p.1), some (.int m), some (.ref p.2), none, none, none] ∧ At2 H H' p s' ∧ s'.cells.length = k ∧ pickCells s'.cells s'.left = pickCells src.cells src.left ∧ s'.mixed = src.mixed ∧ s'.turn = src.turn,
    ⟨_, src, rfl, X0, rfl, rfl, rfl, rfl⟩, ?_⟩
  rintro k σ' H' ⟨s', rfl, x, hk, hpk, hmx, htn⟩
  refine and_run (a := decide (s'.left < 2)) (b := decide ((0 : Int) < ((s'.cells.map V.int).length : Nat))) ?_ (fun Q' h => ⟨_, rfl, p.1, _, rfl, dg_ x.d val_left, _, _, rfl, rfl, _, rfl, h⟩)
    (fun Q' h => ⟨_, rfl, _, (s'.cells.map V.int).length, rfl, .inl ⟨_, SqL.of x.c, rfl⟩, _, _, rfl, rfl, _, rfl, h⟩)
  by_cases hb : s'.left < 2 ∧ s'.cells ≠ []
  · obtain ⟨cs, c, e⟩ := (List.eq_nil_or_concat s'.cells).resolve_left hb.2
    rw [List.concat_eq_append] at e
    rw [if_pos (by rw [decide_eq_true hb.1, e]; simp)]
    refine ⟨fun σ'' H'' => ∃ s2, σ'' = [some (.ref p.1), some (.int m), some (.ref p.2), none, none, none] ∧ At2 H H'' p s2 ∧ s2.cells.length = cs.length ∧ pickCells s2.cells s2.left = pickCells src.cells src.left ∧ s2.mixed = src.mixed ∧ s2.turn = src.turn,
      fun σ'' H'' h => ⟨cs.length, by rw [← hk, e]; simp, h⟩, ?_⟩
    have xc := x.c
    rw [e, List.map_append] at xc
    have x1 : At2 H (upd H' p.2 (.lst (cs.map V.int))) p { s' with cells := cs } := ⟨by rw [upd_ne x.ne]; exact x.d, upd_same, fun b h1 h2 => by rw [upd_ne h2]; exact x.off b h1 h2⟩
    refine ⟨_, rfl, .inl ⟨rfl, _, SqL.of x.c⟩, p.2, _, .int c, rfl, rfl, xc, by simp, ?_⟩
    have hdl : (cs.map V.int ++ [c].map V.int).dropLast = cs.map V.int := by simp
    rw [hdl]
    refine ⟨_, rfl, p.1, _, rfl, dp_left x1.d, { s' with cells := cs, left := c }, rfl, x1.put rfl, rfl, ?_, hmx, htn⟩
    rw [← hpk, e, pick_snoc, if_pos hb.1]
  have hex : pickCells src.cells src.left = (s'.cells, s'.left) := by
    rw [← hpk]
    by_cases h2 : s'.left < 2
    · have h3 : s'.cells = [] := by
        by_cases z : s'.cells = []
        · exact z
        · exact (hb ⟨h2, z⟩).elim
      rw [h3]; rfl
    · exact pick_stop h2
  rw [if_neg (by
    intro z
    rw [Bool.and_eq_true, decide_eq_true_eq, decide_eq_true_eq] at z
    refine hb ⟨z.1, fun e => ?_⟩
    rw [e] at z
    exact absurd z.2 (by simp))]
  refine ⟨_, rfl, p.1, _, rfl, dg_ x.d val_left, ?_⟩
  refine ⟨_, rfl, _, _, rfl, rfl, _, rfl, ?_⟩
  show if decide (1 < s'.left) = true then _ else _
  by_cases h4 : 1 < s'.left
  · rw [if_pos (decide_eq_true h4)]
    have e : pickS src m = (s'.left.fmod m, { src with cells := s'.cells, left := s'.left.fdiv m }) := by
      unfold pickS
      rw [if_neg h1, hex]
      exact if_pos h4
    rw [e] at q
    refine ⟨_, rfl, _, rfl, _, _, rfl, rfl, hdv, _, rfl, p.1, _, rfl, dp_left x.d, ?_⟩
    have x2 := x.put (s' := { s' with left := s'.left.fdiv m }) rfl
    refine ⟨_, rfl, .inl ⟨_, rfl, _, rfl, _, _, rfl, rfl, hm0, ?_⟩⟩
    refine q _ ?_ x2.c x2.off
    have := x2.d
    unfold srcV at this ⊢
    rw [← hmx, ← htn]
    exact this
  rw [if_neg (by rw [decide_eq_false h4]; exact Bool.false_ne_true)]
  refine ⟨_, rfl, p.1, _, rfl, dg_ x.d val_turn, _, _, rfl, rfl, _, rfl, p.1, _, rfl, dp_turn x.d, ?_⟩
  have x2 := x.put (s' := { s' with turn := s'.turn + 1 }) rfl
  refine ⟨_, rfl, p.1, _, rfl, dg_ x2.d val_turn, ?_⟩
  refine ⟨_, rfl, p.1, _, rfl, dg_ x2.d val_mixed, _, rfl, _, _, rfl, rfl, .inr ⟨by decide, by decide⟩, _, _, rfl, rfl, .inl ⟨_, rfl, _, _, rfl, rfl, show (998244353 : Int) ≠ 0 by decide, ?_⟩⟩
  refine ⟨_, rfl, _, rfl, _, _, rfl, rfl, .inl (small_mod _), _, rfl, _, _, rfl, rfl, .inr ⟨by decide, by decide⟩, _, _, rfl, rfl, .inl ⟨_, rfl, _, _, rfl, rfl, show (2147483647 : Int) ≠ 0 by decide, ?_⟩⟩
  refine ⟨_, rfl, _, _, rfl, rfl, ⟨by decide, by decide⟩, .inl ⟨_, rfl, _, rfl, _, _, rfl, rfl, hm0, ?_⟩⟩
  have e : pickS src m = ((((((s'.mixed + (s'.turn + 1) * 104729).fmod 998244353 * (s'.mixed + (s'.turn + 1) * 104729).fmod 998244353 + (s'.turn + 1) * 17).fmod 2147483647).fdiv 16).fmod m), { src with cells := s'.cells, left := s'.left, turn := s'.turn + 1 }) := by
    unfold pickS
    rw [if_neg h1, hex]
    show (if s'.left > 1 then _ else _) = _
    rw [if_neg h4, hmx, htn]
  rw [e] at q
  refine q _ ?_ x2.c x2.off
  have := x2.d
  unfold srcV at this ⊢
  rw [← hmx]
  exact this
theorem d__law_pick {T : List Addr} {P : Program} {w : World} {K : PySem.W.Frag} {mg : Str → Option Value} {base : Heap} {f c : Addr} (hl : mg "len" = none) (hi : mg "int" = none) (F : FunC K "_law_pick" "_law_pick" (top 16) f c) (hm : mg "_law_pick" = some (.ref f)) :
    DfS T P w K mg base "_law_pick" 1 1 φ__law_pick := by
  obtain ⟨oc, od, kV, doc, pm, an, ct, osl, lk⟩ := F.ex
  have Sc : FnScope ["_law_source", "_law_most", "_law_cells", "_law_others", "_law_lap", "_law_stirred"] ["_law_source", "_law_most"] (defScope (top 16)) := ⟨rfl, rfl, rfl, nd_pick, rfl, by decide +kernel, by decide +kernel⟩
  refine ⟨f, _, ["_law_source", "_law_most"], fnG_at lk F.cd Sc (spS_len rfl) fun A out s H vs Q E gd hr h => ?_, hm, F.kp, Binds.all fun us hl => match us, hl with | [_, _], _ => rfl⟩
  obtain ⟨F0, ds, d, p, src, src', us, rfl, hlen, pre, so, rep, hφ, q⟩ := h
  match ds, hlen with
  | [x], _ =>
    cases x with
    | int m =>
      have h2 : (if m < 1073741824 then some ((.int (pickS src m).1 : D), (pickS src m).2) else none) = some (d, src') := hφ
      have hm2 : m < 1073741824 := by
        by_cases z : m < 1073741824
        · exact z
        · rw [if_neg z] at h2; cases h2
      rw [if_pos hm2] at h2
      cases h2
      obtain ⟨v, rfl, hv⟩ := rep1 rep
      cases (show v = .int m from hv)
      refine pick_body hl hi f (.ref c) A out s H E hr hm2 so.d so.c fun H' d' c' off => q _ H' F0 ⟨fun a o _ hU e => ?_, Sub.refl _, fun a o e => ?_, fun a o e => .inl e, fun P hP => ?_⟩ ⟨d', c', so.fd, so.fc⟩ rfl
      · rw [off a (fun z => hU (by rw [z]; simp)) (fun z => hU (by rw [z]; simp))]
        exact e
      · rw [off a (fun z => by rw [z, so.fd] at e; cases e) (fun z => by rw [z, so.fc] at e; cases e)]
        exact pre.sub a o e
      · obtain ⟨t1, t2⟩ := pre.tab P hP
        obtain ⟨ps, e1, e2⟩ := t1
        exact ⟨⟨ps, by rw [off P (fun z => by rw [z, so.d] at e1; cases e1) (fun z => by rw [z, so.c] at e1; cases e1)]; exact e1, e2⟩, t2⟩
    | _ => cases hφ
end Dl

set_option Elab.async false
set_option linter.all false
set_option maxRecDepth 100000
set_option maxHeartbeats 400000
namespace Dl
open PySem PySem.Spec PyProof.Rows L2
/-! ### the script's cells -/
def stir (t c : Int) : Int := (t * 69069 + c * 31 + 5).fmod 2147483629
def absI (i : Int) : Int := if i < 0 then -i else i
def openS (ns : List Int) : Src := ⟨(ns.map absI).reverse, 1, ns.foldl stir 11, 0⟩
theorem nd_open : (["_law_script", "_law_stirred", "_law_cell", "_law_cells"] : List Str).Nodup := by decide
theorem open_body {P : Program} {w : World} {K : PySem.W.Frag} {mg : Str → Option Value} {base : Heap} (hi : mg "int" = none) (ha : mg "abs" = none) (f : Addr) (cdv : Value) (A : Around) (out : List Env) (s : Shared) (H0 : Hp) (E : XK)
    {H : Hp} {a : Addr} {ns : List Int} {Q : VK} (hl : ns.length ≤ sizeLine) (hs : SqL K H a (ns.map V.int)) (hst : ∀ H', (∀ b o, H b = some o → H' b = some o) → SqL K H' a (ns.map V.int))
    (q : ∀ p1 p2 H', H p1 = none → H p2 = none → H' p1 = some (.dK (srcV p2 (openS ns))) → H' p2 = some (.lst ((openS ns).cells.map V.int)) → (∀ b o, H b = some o → H' b = some o) → Q (.ref p1) H') :
    ∃ t, PSs (cxOf CX0 P w K mg base ["_law_script", "_law_stirred", "_law_cell", "_law_cells"] "_law_open_cells" (defScope (top 15)) f cdv A out s H0 E).nox (defBody (top 15)) t ∧
      t { nx := fun _ H' => Q .non H', rt := Q } (start ["_law_script", "_law_stirred", "_law_cell", "_law_cells"] [.ref a]) H := by
  refine ⟨_, pss_cons (ps_set (i := 1) nd_open rfl (by first | exact Or.inl rfl | exact Or.inr rfl) pe_int)
    (pss_cons (ps_for PassesOwn.never rfl (pi_list (pv 0)) (pg_name (i := 2) nd_open rfl (by first | exact Or.inl rfl | exact Or.inr rfl)) (pss_one (ps_set (i := 1) nd_open rfl (by first | exact Or.inl rfl | exact Or.inr rfl) (pe_op op_modN (pe_callTy call_int1 rfl hi rfl (pa_cons (pe_op op_add (pe_op op_add (pe_op op_mul (pv 1) pe_int) (pe_op op_mul (pv 2) pe_int)) pe_int) pa_nil)) pe_int))))
    (pss_cons (ps_setLc (i := 3) (own := [("_law_cell", 2)]) rfl nd_open rfl rfl (sw_true rfl rfl rfl rfl) (pi_list (pv 0)) (blk_of (N := ["_law_script", "_law_stirred", "_law_cell", "_law_cells"]) (sc := defScope (top 15)) (by decide +kernel)) (fun s H C cl fp => pg_name (i := 2) nd_open rfl (by first | exact Or.inl rfl | exact Or.inr rfl)) (fun s H C cl fp => pts_nil) (fun s H C cl fp => pe_callB call_abs rfl ha rfl (pa_cons (pv 2) pa_nil)))
    (pss_one (ps_ret (pe_disp (pps_cons pe_str (pe_revL (pv 3)) (pps_cons pe_str pe_int (pps_cons pe_str (pv 1) (pps_cons pe_str pe_int pps_nil)))) rfl rfl (by simp) (by decide)))))), ?_⟩
  refine ⟨_, rfl, a, rfl, ⟨_, hs⟩, for_list (fun i σ H' => H' = H ∧ ∃ x, σ = [some (.ref a), some (.int ((ns.take i).foldl stir 11)), x, none]) ⟨rfl, none, rfl⟩ (fun i σ H' _ h => by rw [h.1]; exact hs) ?_ ?_⟩
  · rintro i x σ H' hx ⟨rfl, y, rfl⟩
    obtain ⟨c, hc, rfl⟩ : ∃ c, ns[i]? = some c ∧ x = .int c := by
      rw [List.getElem?_map] at hx
      obtain ⟨c, hc, e⟩ := Option.map_eq_some_iff.mp hx
      exact ⟨c, hc, e.symm⟩
    refine ⟨_, rfl, _, _, rfl, rfl, .inr ⟨by decide, by decide⟩, _, rfl, _, _, rfl, rfl, .inr ⟨by decide, by decide⟩, _, _, rfl, rfl, _, _, rfl, rfl, .inl ⟨_, rfl, _, _, rfl, rfl, show (2147483629 : Int) ≠ 0 by decide, rfl, some (.int c), ?_⟩⟩
    rw [List.take_add_one, hc, Option.toList_some, List.foldl_append]
    rfl
  · rintro σ H' ⟨rfl, y, rfl⟩
    rw [List.length_map, List.take_length]
    refine ⟨_, rfl, a, rfl, ⟨_, hs⟩, fun D hD => ?_⟩
    have eD : ∀ {us : List V} (b : Addr) (o : HO), H' b = some o → upd H' D (.lst us) b = some o := fun b o e => by rw [upd_ne (ne_of_none e hD)]; exact e
    refine lc_list (xs := ns.map V.int) (fun i H2 => H2 = upd H' D (.lst (((ns.take i).map absI).map V.int))) rfl (fun i H2 _ h => by rw [h]; exact hst _ eD) ?_ ?_
    · rintro i x H2 hx rfl
      obtain ⟨c, hc, rfl⟩ : ∃ c, ns[i]? = some c ∧ x = .int c := by
        rw [List.getElem?_map] at hx
        obtain ⟨c, hc, e⟩ := Option.map_eq_some_iff.mp hx
        exact ⟨c, hc, e.symm⟩
      have hi' : i < ns.length := (List.getElem?_eq_some_iff.mp hc).1
      refine ⟨rfl, ?_⟩
      refine iteT (B := upd H' D (.lst (((ns.take i).map absI).map V.int)) = upd H' D (.lst (((ns.take (i + 1)).map absI).map V.int))) ?_
      refine ⟨_, rfl, c, rfl, _, upd_same, ?_, ?_⟩
      · rw [List.length_map, List.length_map, List.length_take]; omega
      · rw [upd_upd, List.take_add_one, hc, Option.toList_some, List.map_append, List.map_append]
        rfl
    · rintro H2 rfl
      rw [List.length_map, List.take_length]
      intro p1 hp1
      have s1 : Sub H' (upd H' D (.lst ((ns.map absI).map V.int))) := Sub.new hD
      refine ⟨_, rfl, D, (ns.map absI).map V.int, rfl, SqL.of (by rw [upd_ne (ne_of_none upd_same hp1)]; exact upd_same), fun p2 hp2 => ?_⟩
      have n12 : p1 ≠ p2 := fun e => by rw [← e, upd_same] at hp2; cases hp2
      have s2 : Sub (upd H' D (.lst ((ns.map absI).map V.int))) (upd (upd H' D (.lst ((ns.map absI).map V.int))) p1 (.dK [])) := Sub.new hp1
      have s3 := Sub.new (o := HO.lst ((ns.map absI).map V.int).reverse) hp2
      refine ⟨_, rfl, by rw [upd_ne n12]; exact upd_same, [(kK "cells", .ref p2), (kK "left", .int 1), (kK "mixed", .int (ns.foldl stir 11)), (kK "turn", .int 0)], rfl, by show 4 ≤ 15; decide, ?_⟩
      have hm : mergeK [] [(kK "cells", V.ref p2), (kK "left", .int 1), (kK "mixed", .int (ns.foldl stir 11)), (kK "turn", .int 0)] = [(kK "cells", V.ref p2), (kK "left", .int 1), (kK "mixed", .int (ns.foldl stir 11)), (kK "turn", .int 0)] := by
        have := merge_new [(kK "cells", V.ref p2), (kK "left", .int 1), (kK "mixed", .int (ns.foldl stir 11)), (kK "turn", .int 0)] [] (by show [kK "cells", kK "left", kK "mixed", kK "turn"].Nodup; decide) (fun k _ => by simp)
        simpa using this
      rw [hm]
      refine q p1 p2 _ (s1.isNone hp1) (s1.isNone (s2.isNone hp2)) upd_same ?_ fun b o e => ?_
      · rw [upd_ne n12.symm, upd_same]
        show some (HO.lst ((ns.map absI).map V.int).reverse) = some (HO.lst ((ns.map absI).reverse.map V.int))
        rw [List.map_reverse]
      · rw [upd_ne (ne_of_none e (s1.isNone hp1))]
        exact s3 _ _ (s2 _ _ (s1 _ _ e))
end Dl

set_option Elab.async false
set_option linter.all false
set_option maxRecDepth 100000
set_option maxHeartbeats 4000000
/-! Ex1: super().__init__(x) of an own exception: the wrapper called. -/
namespace Dl
open PySem PySem.Spec PyProof.Rows PySem.Calls PySem.W
section
variable {prog : Program} {w : World} {A : Around} {E : Value → Shared → Prop} {h : Heap} {g : Array GenState} {d : Drawn} {t : Nat} {os : OsState}
theorem mw_call {nm q : Str} {C N : Addr} {bs bm : List Value} {hdct : Bool} {sn : List Str} {sub : List Value} {ab : Bool} {col : Option Bool} {dd : Option Addr} {k0 k1 k2 k3 k5 : Option Value} {u e t0 : Addr} {rest : List Value} {Q : Value → Shared → Prop}
    (hC : h.get? C = some (excClassObj nm q C N bs bm hdct sn sub ab col dd k0 k1 k2 k3 k5 "ValueError.__new__")) (he : h.get? e = some (HandSPX.excO C t0)) (hu : h.get? u = some (kxs_mw "ValueError.__init__" e)) (hz : rest.length ≤ sizeLine)
    (hq : ∀ h' t1, (∀ b o, b ≠ e → h.get? b = some o → h'.get? b = some o) → h'.get? e = some (HandSPX.excO C t1) → Q .none ⟨h', g, d, t, os⟩) : wpAny (model prog w) A (call (.ref u) rest) Q E ⟨h, g, d, t, os⟩ := by
  refine wpAny_call (codeAny_of_tree (show wpAny (model prog w) A.in1 (callAny (.ref u) ⟨rest, []⟩) _ _ _ from ?_))
  have hm : (Value.type "method-wrapper" == Value.type "method" || Value.type "method-wrapper" == Value.type "builtin_function_or_method" || Value.type "method-wrapper" == Value.type "method-wrapper") = true := by decide
  simp only [callAny]
  refine wpAny_bind (wpAny_load hu ?_)
  simp only [kxs_mw, hm, if_true]
  refine KFB.if_so (by decide) (wpAny_bind (check_bound_init F.excBase_ValueError.toExcCallFacts hC he rfl (wpAny_bind (wpAny_pure (wpAny_pure ⟨plainId_quiet F.excBase_ValueError.init.plain _, codeAny_builtin F.excBase_ValueError.initEntry ?_⟩)))))
  rw [Around.under_plainId F.excBase_ValueError.init.plain _]
  wp_walk
  refine hq _ h.objs.size (fun b o hb ho => (Heap.get?_update_other _ _ (Ne.symm hb)).trans (Heap.get?_push_of_some _ ho)) ?_
  rw [Heap.get?_update_self _ (Heap.get?_push_of_some _ he) rfl]
  rfl
end
end Dl

set_option Elab.async false
set_option linter.all false
set_option maxRecDepth 100000
set_option maxHeartbeats 4000000
/-! Ex2: the __init__ of an own exception: super().__init__(f'..') and one field. -/
namespace Dl
open PySem PySem.Spec PyProof.Rows PySem.Calls L2 NdefX
/-- what the written part says of an own error class at C, with such an __init__ at fI -/
structure ErrC (P : Program) (K : PySem.W.Frag) (mg : Str → Option Value) (C : Addr) (field : Str) : Prop where
  oex : OexC K C
  hsub : PySem.W.mroIn K C (.ref C) = some true
  hsup : PySem.W.ks_superIn K C C "__init__" = some (some (.builtin "ValueError.__init__"))
  hB : PySem.W.subIn K (.ref C) (.type "ValueError") = some true
  noN : PySem.W.findIn K (.ref C) field = some none
  opq : PySem.W.nsIn K cStatics "thirdparty.any" = some none
  top : (P.main.scope.names.lookup ("super" : Str)).isSome = false
  mgs : mg "super" = none
structure ErrF (P : Program) (K : PySem.W.Frag) (C f cc : Addr) (F : NF) : Prop where
  fn : ∃ (oc : Value) (od : Option Addr) (kV doc pm : Value) (an : Option Addr) (ct : Value) (osl : Array (Option Value)), K.lookup f = some ⟨oc, od, .func (PySem.W.fnX F.name F.qual F.params F.body F.scope F.cl .none kV doc pm an (.ref F.c) ct), osl⟩
  cd : PySem.W.codeIn K (.ref F.c) F.qual = true
  cl : F.cl = [(("__class__" : Str), cc)]
  cell : ∃ (o1 : Value) (o2 : Option Addr) (o4 : Array (Option Value)), K.lookup cc = some ⟨o1, o2, .cell (some (.ref C)), o4⟩
  code : ∃ (o1 : Value) (o2 : Option Addr) (vs : Array Value) (o4 : Array (Option Value)) (file : Str) (tf : Tok), K.lookup F.c = some ⟨o1, o2, .fields vs, o4⟩ ∧ vs[2]? = some (.str file tf) ∧ ((P.main.file : Str) == file) = true
section
variable {P : Program} {w : World} {K : PySem.W.Frag} {mg : Str → Option Value} {base : Heap} {C f cc : Addr} {F : NF} {field : Str}
theorem cell_of {s : Shared} {A : Around} {out : List Env} {H : Hp} (EF : ErrF P K C f cc F) (e0 : Env0 P w K mg base A out s H) : CellsAt F.cl ["__class__"] [some (.ref C)] s.heap H := by
  obtain ⟨o1, o2, o4, hc⟩ := EF.cell
  have hb := e0.bs _ _ (e0.mod.kin _ _ hc)
  have lk : ∀ {y : Str} {c : Addr}, F.cl.lookup y = some c → y = "__class__" ∧ c = cc := fun {y c} e => by
    rw [EF.cl] at e
    by_cases h : y = "__class__"
    · subst h
      have : ([(("__class__" : Str), cc)]).lookup ("__class__" : Str) = some cc := by simp [List.lookup]
      rw [this] at e
      exact ⟨rfl, (Option.some.inj e).symm⟩
    · have hq : (y == ("__class__" : Str)) = false := by simpa using h
      have : ([(("__class__" : Str), cc)]).lookup y = none := by simp [List.lookup, hq]
      rw [this] at e; cases e
  refine ⟨rfl, fun y c e => ?_, fun x y c e1 e2 => ?_, fun i y hi => ?_⟩
  · obtain ⟨_, rfl⟩ := lk e
    exact ⟨hb.2, _, _, hb.1, rfl⟩
  · rw [(lk e1).1, (lk e2).1]
  · cases i with
    | zero =>
      simp at hi
      subst hi
      refine ⟨cc, by rw [EF.cl]; simp [List.lookup], fun v hv => ?_⟩
      simp at hv
      subst hv
      exact ⟨.ref C, rfl, _, hb.1, rfl⟩
    | succ i => simp at hi

/-- super().__init__(e), the first row of such an __init__ -/
theorem super_row {N : List Str} {A : Around} {out : List Env} {s0 s : Shared} {H0 H : Hp} {E0 : XK} {σ : L2.St} {m : Str → Option Value} {a : Addr} {ta : TA} {e : Expr} {p0 p1 p2 pos pos2 : Pos} {body : List Stmt} {pl : Sem Bool} {Q : Shared → Prop}
    (EC : ErrC P K mg C field) (EF : ErrF P K C f cc F) (hk : F.scope.kind = .function) (hks : F.scope.names.lookup ("super" : Str) = some .globalImplicit) (hkc : F.scope.names.lookup ("__class__" : Str) = some .free) (hka : F.scope.names.lookup ("self" : Str) = some .local)
    (hp : ∃ ar : Arg, (F.params.posonlyargs ++ F.params.args).head? = some ar ∧ ar.arg = "self")
    (J : Inv (ncx CX0 P w K mg base N F f A out s0 H0 E0) [] σ H s) (hn : s.heap.Ns (ncx CX0 P w K mg base N F f A out s0 H0 E0).env.locals m) (hself : m "self" = some (.ref a)) (ea : H a = some (exo a C none))
    (pa : PA (ncx CX0 P w K mg base N F f A out s0 H0 E0) [e] ta) (hta : ∀ R : List V → Hp → Prop, (∀ x, R [.str x] H) → ta σ H R)
    (hq : ∀ s', Inv (ncx CX0 P w K mg base N F f A out s0 H0 E0) [] σ H s' → Q s')
    (hi : interactive (ncx CX0 P w K mg base N F f A out s0 H0 E0).env = false := by rfl) (hs : swapsWith (.Call (.Attribute (.Call (.Name "super" p0) [] [] p1) "__init__" p2) [e] [] pos) none pos2.line (ncx CX0 P w K mg base N F f A out s0 H0 E0).env = pure false := by rfl)
    (he : eval (.Call (.Attribute (.Call (.Name "super" p0) [] [] p1) "__init__" p2) [e] [] pos) (ncx CX0 P w K mg base N F f A out s0 H0 E0).env = (do
      let ov ← attributeBase (.Call (.Name "super" p0) [] [] p1) "__init__" (ncx CX0 P w K mg base N F f A out s0 H0 E0).env (eval (.Call (.Name "super" p0) [] [] p1) (ncx CX0 P w K mg base N F f A out s0 H0 E0).env)
      standAt p2.atName
      let (fn, first) ← holding [ov] (getMethod ov "__init__" pl)
      callWith pos fn first (backTo pos (starEach [e] (ncx CX0 P w K mg base N F f A out s0 H0 E0).env)) []) := by rfl)
    (hst : starEach (e :: []) (ncx CX0 P w K mg base N F f A out s0 H0 E0).env = (false, eval e (ncx CX0 P w K mg base N F f A out s0 H0 E0).env) :: starEach [] (ncx CX0 P w K mg base N F f A out s0 H0 E0).env := by rfl) :
    _root_.PySem.wpAt (model P w) (ncx CX0 P w K mg base N F f A out s0 H0 E0).A (.func body (ncx CX0 P w K mg base N F f A out s0 H0 E0).env) (exec (.Expr (.Call (.Attribute (.Call (.Name "super" p0) [] [] p1) "__init__" p2) [e] [] pos) pos2) (ncx CX0 P w K mg base N F f A out s0 H0 E0).env)
      (fun fl s' => fl = .next ∧ Q s') (ncx CX0 P w K mg base N F f A out s0 H0 E0).xe s := by
  refine ks_wpAt_Expr_any ?_ hi hs
  refine ks_wpAt_MethodCall (pl := pl) ?_ he
  obtain ⟨oc, od, kV, doc, pm, an, ct, osl, lk⟩ := EF.fn
  obtain ⟨c1, c2, c4, hcell⟩ := EF.cell
  obtain ⟨o1, o2, vs, o4, file, tf, hcode, hvs, hfile⟩ := EF.code
  obtain ⟨ar, har, eself⟩ := hp
  obtain ⟨nm, q, Nn, bs, bm, sn, sub, ab, col, dd, k0, k1, k2, k3, k5, hC, hbm⟩ := EC.oex.cls
  have X0 : K.In s.heap := J.kIn
  have hcl : PySem.W.clsIn K C = some { name := nm, bases := bs, mro := .ref C :: bm, ns := Nn, qualname := q, hasDict := true, slotNames := sn, subclasses := sub, abstract := ab, collection := col, hasDel := false } := by unfold PySem.W.clsIn; rw [hC] <;> rfl
  obtain ⟨t1, hx⟩ := exo_at J.hok ea
  obtain ⟨mb, hb1, hb2⟩ := J.mod.blt
  refine ks_wpAt_super_base hks hkc (by decide) rfl (X0 _ _ lk) rfl har rfl (X0 _ _ hcode) rfl hvs hfile EC.top ?_
  refine PySem.W.ks_loadName_global hk hks (loadGlobal_builtin (J.mod.glob.keeps J.bk) EC.mgs (hb1.keeps J.bk) ((hb2 "super" (by decide)).trans (by rfl)) ⟨rfl, ?_⟩)
  refine wpAny_loadName_free hk hkc (by show F.cl.lookup _ = _; rw [EF.cl]; rfl) ⟨_, X0 _ _ hcell, rfl⟩ ?_
  rw [eself]
  refine wpAny_loadName_local hk hka hn hself ?_
  obtain ⟨hh, g, d, t, os⟩ := s
  refine ks_wpAny_isType_cls (X0 _ _ hC) rfl ⟨rfl, ?_⟩
  refine ks_wpAny_call_super (X0 _ _ hC) rfl hx rfl (fun c z => by cases z) (PySem.W.looks_mroIn X0 EC.hsub) (fun h' e1 kp => ?_)
  have X1 : K.In h' := X0.keeps kp
  have I1 : PySem.W.InstAt h' a { cls := .ref C, dict := none, data := .fields #[.ref t1, .none, .none, .none, .bool false, .none] } C none := ⟨kp _ _ hx, rfl, rfl, trivial⟩
  have hal : PySem.W.alongIn K "__init__" (((Value.ref C :: bm).dropWhile (· != .ref C)).drop 1) = some (some (.builtin "ValueError.__init__")) := by
    have z := EC.hsup
    unfold PySem.W.ks_superIn at z
    rw [hcl] at z
    exact z
  refine PySem.W.kxs_getMethod PySem.W.kxs_ValueError e1 (PySem.W.looks_opaque X1 EC.opq) (l₀ := Value.ref C :: bm) (fun A Q E s k q => wpAny_bind ((PySem.W.looks_clsIn X1 hcl) A _ E s k (wpAny_pure q))) rfl X1 hal (I1.type.andThen (PySem.W.looks_subIn X1 EC.hB)) (PySem.W.ks_ne X1 I1 hcl) rfl ?_
  have J1 := J.kept (t' := t) kp
  have J2 : Inv (ncx CX0 P w K mg base N F f A out s0 H0 E0) [] σ H ⟨h'.push (PySem.W.kxs_mw "ValueError.__init__" a), g, d, t + 1, os⟩ := J1.kept (t' := t + 1) (fun b o z => Heap.get?_push_of_some _ z)
  have hu : (h'.push (PySem.W.kxs_mw "ValueError.__init__" a)).get? h'.objs.size = some (PySem.W.kxs_mw "ValueError.__init__" a) := Heap.get?_push_at rfl rfl
  have J3 : Inv (ncx CX0 P w K mg base N F f A out s0 H0 E0) [(h'.objs.size, PySem.W.kxs_mw "ValueError.__init__" a)] σ H ⟨h'.push (PySem.W.kxs_mw "ValueError.__init__" a), g, d, t + 1, os⟩ := J2.pins_of fun p hp => by
    rw [List.mem_singleton.mp hp]
    exact ⟨hu, J1.hok.fresh (Nat.le_refl _), Nat.ne_of_gt J1.lt, J1.nofs (Nat.le_refl _), fun v z => by cases z⟩
  have key : wpAny (model P w) (ncx CX0 P w K mg base N F f A out s0 H0 E0).A (spliced (backTo pos (starEach [e] (ncx CX0 P w K mg base N F f A out s0 H0 E0).env)))
      (fun us s1 => PySem.W.KxsAt "ValueError.__init__" h'.objs.size a s1.heap ∧ wpAny (model P w) (ncx CX0 P w K mg base N F f A out s0 H0 E0).A (call (.ref h'.objs.size) ([] ++ us)) (fun _ s2 => Flow.next = .next ∧ Q s2) (ncx CX0 P w K mg base N F f A out s0 H0 E0).xe s1)
      (ncx CX0 P w K mg base N F f A out s0 H0 E0).xe ⟨h'.push (PySem.W.kxs_mw "ValueError.__init__" a), g, d, t + 1, os⟩ := by
    refine thn (pa.run pos _ _ σ H _ J3 (hta (fun vs H1 => (∃ x, vs = [V.str x]) ∧ H1 = H) fun x => ⟨⟨x, rfl⟩, rfl⟩)) fun us s1 hh => ?_
    obtain ⟨vs', H1, I4, r4, ⟨x, rfl⟩, rfl⟩ := hh
    have hp := (I4.pin (h'.objs.size, PySem.W.kxs_mw "ValueError.__init__" a) (List.mem_append_right _ List.mem_cons_self)).1
    refine ⟨hp, ?_⟩
    obtain ⟨t3, hx3⟩ := exo_at I4.hok ea
    have hl : us.length ≤ sizeLine := by
      rw [← Paired.length r4]
      exact sizeL (by simp)
    obtain ⟨hh4, g4, d4, t4, os4⟩ := s1
    refine mw_call (I4.kIn _ _ hC) hx3 hp hl fun h5 t5 k5 hx5 => ⟨rfl, ?_⟩
    have J5 := I4.write (t' := t4) (x := a) (e := a) (o := exo a C none) (by rw [ea]; exact True.intro) (.inl rfl) k5 ⟨_, hx5⟩ (exo_ok hx5)
    have eu : upd H1 a (exo a C none) = H1 := by
      funext b
      by_cases hb : b = a
      · rw [hb, upd_same, ea]
      · rw [upd_ne hb]
    rw [eu] at J5
    exact hq _ (J5.pins_of fun p hp => by cases hp)
  rw [hst] at key ⊢
  exact PySem.W.kxs_callWith (i := "ValueError.__init__") (x := a) (first := []) rfl (evalArgs_plain key)
end
end Dl

set_option Elab.async false
set_option linter.all false
set_option maxRecDepth 100000
set_option maxHeartbeats 4000000
/-! Ex3: such an __init__ as a promise; the error made; raised. -/
namespace Dl
open PySem PySem.Spec PyProof.Rows PySem.Calls L2 NdefX
/-- a def that hands an int back -/
def spId : Sp := fun vs H Q _ => ∃ n : Int, vs = [.int n] ∧ Q (.int n) H
/-- __init__(self, n): the error's own dict, new, holds the field -/
def spInit (C : Addr) (field : Str) : Sp := fun vs H Q _ => ∃ (a : Addr) (n : Int), vs = [.ref a, .int n] ∧ n.natAbs.log2 < 1920 ∧ H a = some (exo a C none) ∧
  ∀ dx, H dx = none → dx ≠ a → Q .non (upd (upd H dx (exd dx [(field, .int n)])) a (exo a C (some dx)))
/-- the j-th row of the class that is the i-th statement of the text -/
def inCls (i j : Nat) : Stmt := match top i with
  | .ClassDef _ _ _ b _ _ _ _ _ _ _ => b.getD j (.Pass ⟨0, 0, 0, 0⟩)
  | st => st
abbrev stI : Stmt := inCls 3 0
theorem stI_ok : NScope ["self", "number", "__class__"] ["self", "number"] ["__class__"] (defScope stI) := nscope_by (by decide +kernel)
abbrev nfI (cc c : Addr) : NF := ⟨"__init__", "BadBarrier.__init__", defArgs stI, defBody stI, defScope stI, [("__class__", cc)], c⟩
section
variable {P : Program} {w : World} {K : PySem.W.Frag} {mg : Str → Option Value} {base : Heap} {C f cc : Addr} {F : NF} {field : Str} {k : Nat}
theorem fnG_init {fC c : Addr} {fdC : FuncData} {kV doc pm ct : Value} {an : Option Addr} {oc : Value} {od : Option Addr} {osl : Array (Option Value)}
    (EC : ErrC P K mg C "number") (EF : ErrF P K C f cc (nfI cc c)) (lk : K.lookup f = some ⟨oc, od, .func (PySem.W.fnX "__init__" "BadBarrier.__init__" (defArgs stI) (defBody stI) (defScope stI) [("__class__", cc)] .none kV doc pm an (.ref c) ct), osl⟩)
    (FC : FnG P w K mg base k fC fdC ["value"] spId) (hmC : mg "_copy_of" = some (.ref fC)) (hkC : PySem.W.keepIn K (.ref fC) = true) (hbC : Binds K fdC ["value"] []) :
    FnG P w K mg base (k + 1) f (PySem.W.fnX "__init__" "BadBarrier.__init__" (defArgs stI) (defBody stI) (defScope stI) [("__class__", cc)] .none kV doc pm an (.ref c) ct) ["self", "number"] (spInit C "number") := by
  have S := stI_ok
  constructor
  · rintro vs H Q E ⟨a, n, rfl, _⟩
    rfl
  intro A out s H args us vs Q E g hr e0 hbd rv hsp
  obtain ⟨a, n, rfl, hn, ea, q⟩ := hsp
  have inK : K.In s.heap := e0.mod.kin.keeps (fun b o z => (e0.bs b o z).1)
  have noL : s.heap.NoLimit := e0.mod.nolimit.keeps (fun b o z => (e0.bs b o z).1)
  apply codeAny_call_function hr.depth (inK _ _ lk) rfl S.co S.gen rfl (PySem.W.codeRec_of inK EF.cd)
  apply hbd
  refine wpAny_newFunctionEnv S.nocell (fun ⟨n, _⟩ hy => S.par n (List.of_mem_zip hy).1) (fun h1 hns hsb => ⟨noL.fresh _ hsb, ?_⟩) S.kind
  have kp : ∀ b o, s.heap.get? b = some o → h1.get? b = some o := fun b o e => hsb.extBut b o (Nat.ne_of_lt (Heap.lt_size e)) (Heap.get?_push_of_some _ e)
  have I : Inv (ncx CX0 P w K mg base ["self", "number", "__class__"] (nfI cc c) f A out s H E) [] (startF ["self", "number", "__class__"] [.ref a, .int n] [some (.ref C)]) H { s with heap := h1, toks := s.toks + ((["self", "number"] : List Str).zip us).length } :=
    inv_startN S hr.hd e0 rfl rv (cell_of EF e0) hns kp
  have gX : (ncx CX0 P w K mg base ["self", "number", "__class__"] (nfI cc c) f A out s H E).A.guards = some [] := g
  have hrX : Room k (ncx CX0 P w K mg base ["self", "number", "__class__"] (nfI cc c) f A out s H E).A := hr.deeper _
  have us2 : ∃ t, us = [.ref a, .int n t] := by
    cases rv with
    | cons r1 r2 =>
      cases r2 with
      | cons r3 r4 =>
        cases r4
        obtain ⟨t, rfl⟩ := r3
        cases r1
        exact ⟨t, rfl⟩
  obtain ⟨tk, rfl⟩ := us2
  refine ks_codeAny_funcAt (ks_wpAt_execs_cons (ks_wpAt_mono (super_row (N := ["self", "number", "__class__"]) (A := A) (out := out) (s0 := s) (H0 := H) (E0 := E) (a := a) (Q := fun s' => Inv (ncx CX0 P w K mg base ["self", "number", "__class__"] (nfI cc c) f A out s H E) [] (startF ["self", "number", "__class__"] [.ref a, .int n] [some (.ref C)]) H s') EC EF S.kind rfl (S.frk _ List.mem_cons_self) (S.par _ List.mem_cons_self) ⟨_, rfl, rfl⟩ I hns rfl ea
    (pa_cons (pe_joined (.cons pe_str (.cons (pe_fmt (pe_var (i := 1) rfl (.inl (S.par _ (by simp))))) .nil))) pa_nil) (fun R hR => ?_) (fun s' J => J)) (fun fl s' hh => ?_) (fun _ _ z => z)))
  · have hl : (Str.ofString (toString n)).length ≤ 1921 := int_text_len_1921 hn
    have l0 : (Str.empty ++ ("barrier " : Str)).length = 8 := by decide +kernel
    refine ⟨_, rfl, by rw [l0]; exact sizeL (by decide), .int n, rfl, .inr ⟨n, rfl, hn, _, rfl, ?_, hR _⟩⟩
    show (Str.empty ++ ("barrier " : Str) ++ Str.ofString (toString n)).length ≤ sizeLine
    rw [Str.length_append, l0]
    exact sizeL (by omega)
  · obtain ⟨rfl, J⟩ := hh
    refine wpAt_of_wpAny ?_
    have ps : PSs (ncx CX0 P w K mg base ["self", "number", "__class__"] (nfI cc c) f A out s H E) ((defBody stI).drop 1) (tOst K "number" (tVar 0) (tGo spId (tCons (tVar 1) tNil))) := pss_one (ps_ost (pe_var (X := ncx CX0 P w K mg base ["self", "number", "__class__"] (nfI cc c) f A out s H E) (i := 0) rfl (.inl (S.par _ (by simp))))
      (pe_go (x := "_copy_of") FC gX hrX rfl hmC hkC hbC (pa_cons (pe_var (i := 1) rfl (.inl (S.par _ (by simp)))) pa_nil)))
    have run := ps.run [] s' (startF ["self", "number", "__class__"] [.ref a, .int n] [some (.ref C)]) H { nx := fun _ H' => Q .non H', rt := Q } J
      ⟨.int n, rfl, n, rfl, .ref a, rfl, a, C, rfl, EC.oex, EC.noN, .inl ⟨ea, fun dx hd ne => q dx hd ne⟩⟩
    refine wpAny_mono run (fun fl s2 hs => ?_) (fun e s2 hs => hs)
    cases fl with
    | ret u =>
      obtain ⟨v, σ', H', J2, rv2, q2⟩ := hs
      exact ⟨v, H', J2.os, J2.bare, J2.base, J2.hok, rv2, q2⟩
    | next =>
      obtain ⟨σ', H', J2, q2⟩ := hs
      exact ⟨.non, H', J2.os, J2.bare, J2.base, J2.hok, rfl, q2⟩
    | brk =>
      obtain ⟨_, _, _, q2⟩ := hs
      exact False.elim q2
    | cont =>
      obtain ⟨_, _, _, q2⟩ := hs
      exact False.elim q2
end
end Dl

set_option Elab.async false
set_option linter.all false
set_option maxRecDepth 100000
set_option maxHeartbeats 4000000
/-! Ex4: such an error made; raised. -/
namespace Dl
open PySem PySem.Spec PyProof.Rows PySem.Calls L2 NdefX
/-- C(n): the error's dict d, new, holds the field -/
def tMkE (C : Addr) (field : Str) (ta : TA) : L2.St → Hp → XK → Prop := fun σ H Q => ta σ H fun vs H1 => ∃ n : Int, vs = [.int n] ∧ n.natAbs.log2 < 1920 ∧ ∀ d, H1 d = none → Q (.ref C) (some d) (upd H1 d (.xd [(field, .int n)]))
section
variable {X : Cx} {C fI : Addr} {field x : Str} {k : Nat} {fd : FuncData} {e : Expr} {ta : TA} {p pos : Pos}
theorem pmk_err (EC : ErrC X.prog X.K X.mg C field) (iC : PySem.W.findIn X.K (.ref C) "__init__" = some (some (.ref fI))) (tI : PySem.W.typeIn X.K (.ref fI) = some (.type "function"))
    (F1 : FnG X.prog X.w X.K X.mg X.base k fI fd ["self", "number"] (spInit C field)) (g : X.A.guards = some []) (hr : Room (k + 1) X.A) (hb : Binds X.K fd ["self", "number"] []) (hg : Gl X x) (hm : X.mg x = some (.ref C)) (ha : PA X [e] ta)
    (hdb : (x == ("__debug__" : Str)) = false := by decide) (he : starEach (e :: []) X.env = (false, eval e X.env) :: starEach [] X.env := by rfl) (hpl : (backTo pos (starEach [] X.env)).any (·.1) = false := by rfl) :
    PMk X (.Call (.Name x p) [e] [] pos) (tMkE C field ta) := by
  intro pins s σ H Q I h
  obtain ⟨nm, q, N, bs, bm, sn, sub, ab, col, dd, k0, k1, k2, k3, k5, hC, hbm⟩ := EC.oex.cls
  refine wpAny_Call_Name_kw (ld_glob I hg hm ?_ hdb)
  refine PySem.W.callWith_K (h₀ := X.base) I.ok.mod.kin EC.oex.kC (thn (ha.run pos pins s σ H _ I h) fun us s1 hh => ?_) he hpl
  obtain ⟨vs, H1, I1, r1, n, rfl, hn, q1⟩ := hh
  refine ⟨I1.kIn, ?_⟩
  obtain ⟨u, rfl, tk0, rfl⟩ := vals1 r1
  show wpAny _ _ (call (.ref C) [.int n tk0]) _ _ _
  obtain ⟨hp, g1, dr, tk, os⟩ := s1
  have hsz : hp.objs.size ≤ hp.objs.size + 1 := Nat.le_succ _
  have hna : H1 (hp.objs.size + 1) = none := I1.hok.fresh hsz
  have kk : ∀ b o, hp.get? b = some o → ((hp.push (PySem.W.kdv_tup [.int n tk0])).push (PySem.HandSPX.excO C hp.objs.size)).get? b = some o := fun b o z => Heap.get?_push_of_some _ (Heap.get?_push_of_some _ z)
  have hget : ((hp.push (PySem.W.kdv_tup [.int n tk0])).push (PySem.HandSPX.excO C hp.objs.size)).get? (hp.objs.size + 1) = some (PySem.HandSPX.excO C hp.objs.size) := by heap_get
  have I2 := I1.laid (t' := tk) (a := hp.objs.size + 1) (o := exo (hp.objs.size + 1) C none) (h' := (hp.push (PySem.W.kdv_tup [.int n tk0])).push (PySem.HandSPX.excO C hp.objs.size)) kk hsz (exo_ok hget)
  have r2 : Vals [V.ref (hp.objs.size + 1), .int n] [Value.ref (hp.objs.size + 1), .int n tk0] := .cons rfl (.cons ⟨_, rfl⟩ .nil)
  have hsp : spInit C field [.ref (hp.objs.size + 1), .int n] (upd H1 (hp.objs.size + 1) (exo (hp.objs.size + 1) C none)) (fun v H2 => v = .non ∧ ∃ d, H1 d = none ∧ d ≠ hp.objs.size + 1 ∧
      H2 = upd (upd (upd H1 (hp.objs.size + 1) (exo (hp.objs.size + 1) C none)) d (exd d [(field, .int n)])) (hp.objs.size + 1) (exo (hp.objs.size + 1) C (some d))) (fun _ _ _ => False) :=
    ⟨_, n, rfl, hn, upd_same, fun dx hdx ne => ⟨rfl, dx, by rw [upd_ne ne] at hdx; exact hdx, ne, rfl⟩⟩
  refine wpAny_call (PySem.HandSPX.call_own F.excBase_ValueError (fun Y => PySem.HandSPX.refsVE_contains Y bm hbm) (I1.kIn _ _ hC) (PySem.W.looks_findIn I1.kIn iC) (fun self => PySem.W.bind_fn I1.kIn self tI) (sizeL (by simp))
    (codeAny_mono (F1.goes _ X.stack _ _ ⟨[Value.ref (hp.objs.size + 1), .int n tk0], []⟩ [Value.ref (hp.objs.size + 1), .int n tk0] _ _ (fun _ _ _ => False) (by exact g) (hr.make C _ []) (I2.env0.make C _ []) (hb _ [Value.ref (hp.objs.size + 1), .int n tk0] I2.kIn rfl) r2 hsp) fun r s' hq' => ?_))
  cases r with
  | error er => exact False.elim hq'
  | ok fl =>
    cases fl with
    | ret u =>
      obtain ⟨v, H2, os2, bare2, un2, hok2, rv, rfl, d, hd, ne, rfl⟩ := hq'
      obtain ⟨h2, g2, d2, t2, os'⟩ := s'
      refine ⟨rv, mk_end (raises_own EC.oex.exC EC.oex.tyC) I1 hsz kk un2 hok2 os2 bare2 upd_same (by rw [upd_ne ne, upd_same]) hd ?_⟩
      have e2 : upd (del (upd (upd (upd H1 (hp.objs.size + 1) (exo (hp.objs.size + 1) C none)) d (exd d [(field, .int n)])) (hp.objs.size + 1) (exo (hp.objs.size + 1) C (some d))) (hp.objs.size + 1)) d (.xd [(field, .int n)]) = upd H1 d (.xd [(field, .int n)]) := by
        funext b
        by_cases hb2 : b = d
        · rw [hb2, upd_same, upd_same]
        · rw [upd_ne hb2, upd_ne hb2]
          by_cases hb3 : b = hp.objs.size + 1
          · rw [hb3, del_same, hna]
          · rw [del_ne hb3, upd_ne hb3, upd_ne hb2, upd_ne hb3]
      rw [e2]
      exact q1 d hd
    | next => exact False.elim hq'
    | brk => exact False.elim hq'
    | cont => exact False.elim hq'
end
end Dl

set_option Elab.async false
set_option linter.all false
set_option maxRecDepth 100000
set_option maxHeartbeats 4000000
/-! Ex5: defs that may raise, where no guard is held; isinstance of a caught error. -/
namespace Dl
open PySem PySem.Spec PyProof.Rows PySem.Calls L2
structure FnX (P : Program) (w : World) (K : PySem.W.Frag) (mg : Str → Option Value) (base : Heap) (k : Nat) (f : Addr) (fd : FuncData) (ps : List Str) (sp : Sp) : Prop where
  many : ∀ vs H Q E, sp vs H Q E → vs.length = ps.length
  goes : ∀ (A : Around) (out : List Env) (s : Shared) (H : Hp) (args : Args) (us : List Value) (vs : List V) (Q : VK) (E : XK), A.guards = some [] → Room k A → Env0 P w K mg base A out s H → BindsTo s fd args (ps.zip us) → Vals vs us → sp vs H Q E →
    codeAny (model P w) A (.call (.ref f) args) (CR (L2.CX P w) out P w H s Q E) s
section
variable {P : Program} {w : World} {K : PySem.W.Frag} {mg : Str → Option Value} {base : Heap}
theorem fnX_at {x qual : Str} {st : Stmt} {f : Addr} {N ps : List Str} {k : Nat} {sp : Sp} {oc : Value} {od : Option Addr} {kV doc pm : Value} {an : Option Addr} {cdv ct : Value} {osl : Array (Option Value)}
    (lk : K.lookup f = some ⟨oc, od, .func (PySem.W.fnOf x qual (defArgs st) (defBody st) (defScope st) .none kV doc pm an cdv ct), osl⟩) (hcd : PySem.W.codeIn K cdv qual = true) (Sc : FnScope N ps (defScope st)) (hlen : ∀ vs H Q E, sp vs H Q E → vs.length = ps.length)
    (body : ∀ (A : Around) (out : List Env) (s : Shared) (H : Hp) (vs : List V) (Q : VK) (E : XK), A.guards = some [] → Room k (A.deeper (envOfC qual (defScope st) s.heap.objs.size f cdv)) → sp vs H Q E →
      ∃ t, PSs (cxOf (L2.CX P w) P w K mg base N qual (defScope st) f cdv A out s H E) (defBody st) t ∧ t { nx := fun _ H' => Q .non H', rt := Q } (start N vs) H) : FnX P w K mg base (k + 1) f (PySem.W.fnOf x qual (defArgs st) (defBody st) (defScope st) .none kV doc pm an cdv ct) ps sp := by
  refine ⟨hlen, fun A out s H args us vs Q E g hr e0 hb rv hsp => ?_⟩
  have hn := hlen _ _ _ _ hsp
  have inK : K.In s.heap := e0.mod.kin.keeps fun b o z => (e0.bs b o z).1
  have noL : s.heap.NoLimit := e0.mod.nolimit.keeps fun b o z => (e0.bs b o z).1
  refine codeAny_call_function hr.depth (inK _ _ lk) rfl Sc.co Sc.gen rfl (PySem.W.codeRec_of inK hcd) (hb _ _ _ _ ?_)
  refine wpAny_newFunctionEnv_cells Sc.kind (fun y hy => ?_) fun env he s1 ic => ?_
  · cases Sc.par y.1 (List.of_mem_zip hy).1 with
    | inl z => exact .inl z
    | inr z => exact .inr ⟨z, PySem.W.cellsFrom_some _ _ _ (.inl z)⟩
  subst he
  refine ⟨noL.keeps ic.toInCall.keep, codeAny_func ?_⟩
  obtain ⟨t, pt, qt⟩ := body A out s H vs Q E g (hr.deeper _) hsp
  refine wpAny_mono (pt.run [] s1 (start N vs) H _ (inv_start (CX := L2.CX P w) (E := E) Sc hr.hd e0 hn rv ic) qt) (fun fl s' z => ?_) fun e s' z => z
  cases fl with
  | ret u =>
    obtain ⟨v, σ', H', I, rr, qq⟩ := z
    exact ⟨v, H', I.os, I.bare, I.base, I.hok, rr, qq⟩
  | next =>
    obtain ⟨σ', H', I, qq⟩ := z
    exact ⟨.non, H', I.os, I.bare, I.base, I.hok, rfl, qq⟩
  | brk => obtain ⟨_, _, _, qq⟩ := z; exact qq.elim
  | cont => obtain ⟨_, _, _, qq⟩ := z; exact qq.elim
end
section
variable {X : Cx} {k : Nat} {f : Addr} {fd : FuncData} {ps : List Str} {sp : Sp} {E : L2.St → XK} {x : Str} {p pos : Pos} {e : Expr} {es : List Expr} {t : TA}
theorem pe_goX (F : FnX X.prog X.w X.K X.mg X.base k f fd ps sp) (g : X.A.guards = some []) (hr : Room k X.A) (hg : Gl X x) (hm : X.mg x = some (.ref f)) (hk : PySem.W.keepIn X.K (.ref f) = true) (hb : Binds X.K fd ps []) (hx : ∀ σ, PassesAt (L2.CX X.prog X.w) X σ (E σ))
    (ha : PA X (e :: es) t) (hdb : (x == ("__debug__" : Str)) = false := by decide) (he : starEach (e :: es) X.env = (false, eval e X.env) :: starEach es X.env := by rfl) (hpl : (backTo pos (starEach es X.env)).any (·.1) = false := by rfl) :
    PE X (.Call (.Name x p) (e :: es) [] pos) (tCallS sp E t) := by
  refine ⟨fun pins s σ H Q I h => wpAny_Call_Name_kw (ld_glob I hg hm ?_ hdb)⟩
  refine PySem.W.callWith_K (h₀ := X.base) I.ok.mod.kin hk (thn (ha.run pos pins s σ H _ I h) fun us s1 hh => ?_) he hpl
  obtain ⟨vs, H1, I1, r, q⟩ := hh
  have hl : (us ++ []).length = ps.length := by
    rw [List.append_nil, ← r.length]
    exact F.many _ _ _ _ q
  have b := hb s1 us I1.kIn hl
  rw [List.append_nil] at b
  refine ⟨I1.kIn, wpAny_call (codeAny_mono (F.goes X.A X.stack s1 H1 ⟨us, []⟩ us vs Q (E σ) g hr I1.env0 b r q) fun r' s' hq => ?_)⟩
  cases r' with
  | error er => exact hx σ pins H1 s1 er s' I1 hq
  | ok fl =>
    cases fl with
    | ret u => exact I1.after hq
    | next => exact False.elim hq
    | brk => exact False.elim hq
    | cont => exact False.elim hq
/-- isinstance(e, c), e the error that the suite holds, its dict at d -/
def rIsErr (K : PySem.W.Frag) (C a : Addr) (cls : Value) (dv : Option Addr) : List V → Hp → VK → Prop := fun xs H Q => cls = .ref C ∧ ∃ (d : Addr) (c : V) (cv : Value) (b : Bool) (fs : List (Str × V)), dv = some d ∧ xs = [.ref a, c] ∧ (∀ u, RelV c u → u = cv) ∧ PySem.W.kitOne K (.ref C) cv = some b ∧ H d = some (.xd fs) ∧ Q (.bl b) H
structure ErrI (K : PySem.W.Frag) (C : Addr) : Prop where
  isC : (PySem.W.clsIn K C).isSome = true
  ga : PySem.W.findIn K (.ref C) "__getattribute__" = some (some (.builtin "BaseException.__getattribute__"))
  gg : PySem.W.findIn K (.ref C) "__getattr__" = some none
  sB : PySem.W.subIn K (.ref C) (.type "BaseException") = some true
  cl : PySem.W.findIn K (.ref C) "__class__" = some (some (.builtin "object.__class__"))
  sp : PySem.W.specialIn K (.builtin "object.__class__") "__get__" = some (some (.builtin "getset_descriptor.__get__"))
  tk : PySem.W.takesIn K (.builtin "object.__class__") = some true
  ob : PySem.W.mroIn K C (.type "object") = some true
theorem call_isErr {C a : Addr} {cls : Value} {dv : Option Addr} {oe : Obj} {pn : List (Addr × Obj)} (EI : ErrI X.K C) (hz : Zc cls dv oe) (hf : ∃ vs, oe.data = .fields vs) : CallR (X.suite a ((a, oe) :: pn)) (.builtin "isinstance") (rIsErr X.K C a cls dv) := by
  intro pins s σ H xs us Q I r h
  obtain ⟨rfl, d, c, cv, b, fs, rfl, rfl, hcv, e, hd, q⟩ := h
  cases r with
  | cons rx rr =>
    cases rr with
    | cons rt rr =>
      cases rr
      cases rx
      have ec := hcv _ rt
      subst ec
      have hget := (I.pin (a, oe) (List.mem_append.mpr (.inl List.mem_cons_self))).1
      obtain ⟨vs, hv⟩ := hf
      obtain ⟨mA, ⟨od, es, ep, ho, hr⟩, _⟩ := (show ObjOk X.prog X.w H s.heap d (.xd fs) from I.hok d _ hd)
      have J : PySem.W.InstAt s.heap a oe C (some od) := by
        obtain ⟨oc, odd, oda, osl⟩ := oe
        obtain ⟨h1, h2⟩ := hz
        dsimp only at h1 h2 hv
        subst h1 h2 hv
        exact ⟨hget, rfl, rfl, ho⟩
      exact PySem.W.kia_one (PySem.W.kitx_exc EI.isC EI.ga EI.gg EI.sB EI.cl EI.sp EI.tk EI.ob) I.kIn J e (fun z => nomatch z) fun tk => ⟨.bl b, H, I.kept (t' := tk) fun _ _ z => z, rfl, q⟩
end
end Dl

set_option Elab.async false
set_option linter.all false
set_option maxRecDepth 100000
set_option maxHeartbeats 4000000
/-! Ex6: come(..) where it raises. -/
namespace Dl
open PySem PySem.Spec PyProof.Rows PySem.Calls L2 NdefX
def testOf (st : Stmt) : Expr := match defBody st with
  | .If c _ _ _ :: _ => c
  | _ => .Constant .none 0 ⟨0, 0, 0, 0⟩
def t_come : { g : M Bool // ∀ {T : List Addr} {P : Program} {w : World} {K : PySem.W.Frag} {mg : Str → Option Value} {base : Heap} (hsb : SysB base) (hd_is_held : Df T P w K mg base "is_held" 1 2 (φ_is_held)) (f : Addr) (cdv : Value) (A : Around) (out : List Env) (s : Shared) (H : Hp) (E : XK), A.guards = some [] → Room 1 (A.deeper (envOfC "come" (defScope (top 6)) s.heap.objs.size f cdv)) →
    DT T (cxOf (L2.CX P w) P w K mg base ["waiting", "channels", "channel", "n", "here"] "come" (defScope (top 6)) f cdv A out s H E) (testOf (top 6)) g } := ⟨_, fun {T P w K mg base} hsb hd_is_held f cdv A out s H E hgd hr =>
  (dt_w (dw_or (dt_val (de_callD hd_is_held hgd (hr.mono (by decide)) rfl (da_cons (de_var (i := 0) rfl (by first | exact Or.inl rfl | exact Or.inr (Or.inl rfl) | exact Or.inr (Or.inr rfl))) (da_cons (de_var (i := 2) rfl (by first | exact Or.inl rfl | exact Or.inr (Or.inl rfl) | exact Or.inr (Or.inr rfl))) da_nil)))) (dw_or1 (dt_w (dw_and (dt_cmp op_isNotD (de_var (i := 0) rfl (by first | exact Or.inl rfl | exact Or.inr (Or.inl rfl) | exact Or.inr (Or.inr rfl))) de_non) (dw_and1 (dt_cmp (op_neD' (units64 hr)) (de_ix (de_var (i := 0) rfl (by first | exact Or.inl rfl | exact Or.inr (Or.inl rfl) | exact Or.inr (Or.inr rfl))) de_int) (de_var (i := 3) rfl (by first | exact Or.inl rfl | exact Or.inr (Or.inl rfl) | exact Or.inr (Or.inr rfl))))))))))⟩
/-- the barrier can't come -/
def comeB (w chs ch n : D) : Bool := match t_come.1 ⟨⟨[], 0, 0, 0⟩, envB 5 [w, chs, ch, n]⟩ with
  | some (true, _) => true
  | _ => false
def spComeX (T : List Addr) (K : PySem.W.Frag) (C : Addr) : Sp := fun vs H _ E => ∃ (F : Hp) (dw dcs dc : D) (n : Int), Pre T H F ∧ RepL K F [dw, dcs, dc, .int n] vs ∧ n.natAbs.log2 < 1920 ∧ comeB dw dcs dc (.int n) = true ∧
  ∀ (d : Addr) (H' F' : Hp), Fin T [] H F H' F' → H' d = none → E (.ref C) (some d) (upd H' d (.xd [("number", .int n)]))
section
variable {T : List Addr} {P : Program} {w : World} {K : PySem.W.Frag} {mg : Str → Option Value} {base : Heap} {C fI f c : Addr} {fdI : FuncData} {k : Nat}
theorem fnX_come (hsb : SysB base) (hd_is_held : Df T P w K mg base "is_held" 1 2 (φ_is_held)) (F : FunC K "come" "come" (top 6) f c) (EC : ErrC P K mg C "number") (iC : PySem.W.findIn K (.ref C) "__init__" = some (some (.ref fI))) (tI : PySem.W.typeIn K (.ref fI) = some (.type "function"))
    (FI : FnG P w K mg base k fI fdI ["self", "number"] (spInit C "number")) (bI : Binds K fdI ["self", "number"] []) (mC : mg "BadBarrier" = some (.ref C)) (hk : 1 ≤ k + 1) :
    ∃ fd, FnX P w K mg base (k + 2) f fd ["waiting", "channels", "channel", "n"] (spComeX T K C) ∧ Binds K fd ["waiting", "channels", "channel", "n"] [] := by
  obtain ⟨oc, od, kV, doc, pm, an, ct, osl, lk⟩ := F.ex
  refine ⟨_, fnX_at lk F.cd (N := ["waiting", "channels", "channel", "n", "here"]) ⟨rfl, rfl, rfl, nd_come, rfl, by decide +kernel, by decide +kernel⟩ (fun vs H Q E h => ?_) fun A out s H vs Q E g hr h => ?_, Binds.all fun us hl => match us, hl with | [_, _, _, _], _ => rfl⟩
  · obtain ⟨F1, dw, dcs, dc, n, _, h2, _⟩ := h
    rw [h2.length]; rfl
  · obtain ⟨F1, dw, dcs, dc, n, hp, hr2, hn, hc, q⟩ := h
    obtain ⟨tt, pt, ht⟩ := t_come.2 (T := T) hsb hd_is_held f (.ref c) A out s H E g (hr.mono (by omega))
    have rs := rel_start (N := ["waiting", "channels", "channel", "n", "here"]) hp hr2 (by simp)
    unfold comeB at hc
    split at hc
    · rename_i s' eT
      have h3 : (start ["waiting", "channels", "channel", "n", "here"] vs)[3]? = some (some (.int n)) := by
        obtain ⟨v, hv, rv⟩ := hr2.get (i := 3) (d := .int n) rfl
        cases (show v = .int n from rv)
        exact start_get hv
      refine ⟨_, pss_cons (ps_if pt (pss_one (ps_raise rfl (takes_of rfl rfl rfl rfl) (pmk_err EC iC tI FI g (hr.mono (by omega)) bI rfl mC (pa_cons (pv 3) pa_nil)))) pss_nil) pss_never, ?_⟩
      refine ht none _ _ _ H F1 _ true s' rs eT _ fun H1 F2 r1 e1 => ?_
      rw [if_pos rfl]
      exact ⟨_, h3, n, rfl, hn, fun d hd => q d H1 F2 (fin_of hp r1.toCore) hd⟩
    · cases hc
end
end Dl

set_option Elab.async false
set_option linter.all false
set_option maxRecDepth 100000
set_option maxHeartbeats 4000000
/-! Ex7: what a barrier that can't come is told by. -/
namespace Dl
open PySem PySem.Spec PyProof.Rows PySem.Calls L2 NdefX
theorem nd_barred : (["_law_waiting", "_law_channels", "_law_channel", "_law_n", "_law_found", "e"] : List Str).Nodup := by decide
def gTry : M Out := fun s => match s.env with
  | [.im dw, .im dcs, .im dc, .im (.int n), _, _] => if comeB dw dcs dc (.int n) = true ∧ n.natAbs.log2 < 1920 then some (.nx, { s with env := [.im dw, .im dcs, .im dc, .im (.int n), .im (.list [.int n]), .un] }) else none
  | _ => none
def φ__law_barred : List D → Option D
  | [dw, dcs, dc, .int n] => if comeB dw dcs dc (.int n) = true ∧ n.natAbs.log2 < 1920 then some (.list [.int n]) else none
  | _ => none
section
variable {T : List Addr} {P : Program} {w : World} {K : PySem.W.Frag} {mg : Str → Option Value} {base : Heap} {C S fb cb fX : Addr} {fdX : FuncData} {k : Nat}
theorem d__law_barred (FX : FnX P w K mg base k fX fdX ["waiting", "channels", "channel", "n"] (spComeX T K C)) (bX : Binds K fdX ["waiting", "channels", "channel", "n"] []) (mX : mg "come" = some (.ref fX)) (kX : PySem.W.keepIn K (.ref fX) = true)
    (EI : ErrI K C) (XF : XfC K C) (noN : PySem.W.findIn K (.ref C) "number" = some none) (te : PySem.W.exmOne K (.ref C) (.ref C) = some true) (mC : mg "BadBarrier" = some (.ref C)) (mS : mg "StreamError" = some (.ref S)) (kS : PySem.W.kitOne K (.ref C) (.ref S) = some true) (hn_isi : mg "isinstance" = none)
    (F : FunC K "_law_barred" "_law_barred" (top 20) fb cb) (hm : mg "_law_barred" = some (.ref fb)) : Df T P w K mg base "_law_barred" (k + 1) 4 φ__law_barred := by
  have key : ∀ ds d, ds.length = 4 → φ__law_barred ds = some d → runB 6 (gSeq (gSet 4 (fFr (fLst (pure [])))) (gSeq gTry (gRet (fVar 4)))) ds = some d := fun ds d hl h => by
    unfold φ__law_barred at h
    split at h
    · rename_i dw dcs dc n
      have e1 : (gSeq (gSet 4 (fFr (fLst (pure [])))) (gSeq gTry (gRet (fVar 4)))) ⟨⟨[], 0, 0, 0⟩, [dw, dcs, dc, .int n].map Cl.im ++ List.replicate (6 - [dw, dcs, dc, PyData.int n].length) .un⟩
          = (gSeq gTry (gRet (fVar 4))) ⟨⟨[], 0, 0, 0⟩, [.im dw, .im dcs, .im dc, .im (.int n), .im (.list []), .un]⟩ := rfl
      unfold runB
      rw [e1]
      by_cases hc : comeB dw dcs dc (.int n) = true ∧ n.natAbs.log2 < 1920
      · rw [if_pos hc] at h
        cases h
        have e2 : gTry ⟨⟨[], 0, 0, 0⟩, [.im dw, .im dcs, .im dc, .im (.int n), .im (.list []), .un]⟩ = some (.nx, ⟨⟨[], 0, 0, 0⟩, [.im dw, .im dcs, .im dc, .im (.int n), .im (.list [.int n]), .un]⟩) := if_pos hc
        have e3 : (gSeq gTry (gRet (fVar 4))) ⟨⟨[], 0, 0, 0⟩, [.im dw, .im dcs, .im dc, .im (.int n), .im (.list []), .un]⟩ = some (.rt (.list [.int n]), ⟨⟨[], 0, 0, 0⟩, [.im dw, .im dcs, .im dc, .im (.int n), .im (.list [.int n]), .un]⟩) := by
          show (gTry _).bind _ = _
          rw [e2]
          rfl
        rw [e3]
      · rw [if_neg hc] at h
        cases h
    · cases h
  obtain ⟨oc, od, kV, doc, pm, an, ct, osl, lk⟩ := F.ex
  refine ⟨fb, _, _, fnG_at lk F.cd (N := ["_law_waiting", "_law_channels", "_law_channel", "_law_n", "_law_found", "e"]) (ps := ["_law_waiting", "_law_channels", "_law_channel", "_law_n"]) ⟨rfl, rfl, rfl, nd_barred, rfl, by decide +kernel, by decide +kernel⟩ (spD_len rfl) (fun A out s H vs Q E gd hr h => spD_body (N := ["_law_waiting", "_law_channels", "_law_channel", "_law_n", "_law_found", "e"]) (g := gSeq (gSet 4 (fFr (fLst (pure [])))) (gSeq gTry (gRet (fVar 4)))) (by decide) key rfl ?_ h), hm, F.kp, Binds.all fun us hl => match us, hl with | [_, _, _, _], _ => rfl⟩
  refine dss_cons (ds_set (i := 4) nd_barred rfl (by first | exact Or.inl rfl | exact Or.inr rfl) (de_new (dn_lst da_nil))) (dss_cons ?_ (dss_one (ds_ret (de_var (i := 4) rfl (by first | exact Or.inl rfl | exact Or.inr (Or.inl rfl) | exact Or.inr (Or.inr rfl))))))
  refine ⟨_, ps_try_as (i := 5) (tb := fun W => tDrop (tCallS (spComeX T K C) (WE W) (tCons (tVar 0) (tCons (tVar 1) (tCons (tVar 2) (tCons (tVar 3) tNil)))))) (Wout := fun _ _ _ _ => False) rfl rfl nd_barred rfl rfl ⟨rfl, by decide, .inl mC⟩ takes0
    (fun W pn xe tk _ => pss_one (ps_expr (by exact (pe_goX FX gd hr rfl mX kX bX (fun σ => passAt tk σ) (by exact (pa_cons (pv 0) (pa_cons (pv 1) (pa_cons (pv 2) (pa_cons (pv 3) pa_nil)))))))))
    (fun a oe cls d pn hz hf => pss_one (ps_set (i := 4) nd_barred rfl (by first | exact Or.inl rfl | exact Or.inr rfl) (by exact (pe_lst (pa_cons (pe_ifExp (pt_val (pe_callB (call_isErr EI hz hf) rfl hn_isi rfl (pa_cons (pv 5) (pa_cons (pe_glob (v := .ref S) rfl mS rfl) pa_nil)))) (pe_xf XF noN hz hf (pv 5)) pe_non) pa_nil))))), ?_⟩
  rintro w' G F0 σ H1 F1 ⟨src, env⟩ o s' r hg En af
  unfold gTry at hg
  split at hg
  · rename_i dw dcs dc n c5 c6 henv
    dsimp only at henv
    subst henv
    split at hg
    · rename_i hc
      cases hg
      obtain ⟨v0, hv0, x0, rfl, rx0⟩ := r.cl 0 (.im dw) rfl
      obtain ⟨v1, hv1, x1, rfl, rx1⟩ := r.cl 1 (.im dcs) rfl
      obtain ⟨v2, hv2, x2, rfl, rx2⟩ := r.cl 2 (.im dc) rfl
      obtain ⟨v3, hv3, x3, rfl, rx3⟩ := r.cl 3 (.im (.int n)) rfl
      have hlen : σ.length = 6 := r.len
      refine ⟨x0, hv0, x1, hv1, x2, hv2, x3, hv3, F1, dw, dcs, dc, n, r.pre, ⟨x0, _, rfl, rx0, x1, _, rfl, rx1, x2, _, rfl, rx2, x3, _, rfl, rx3, rfl⟩, hc.2, hc.1, fun d H' F' fn hd => ?_⟩
      refine ⟨true, te, fun _ a ha => ?_, fun q => by cases q⟩
      have g5 : (σ.set 5 (some (V.ref a)))[5]? = some (some (.ref a)) := List.getElem?_set_self (by omega)
      refine ⟨.ref a, g5, rfl, d, .ref S, .ref S, true, _, rfl, rfl, fun u hu => hu, kS, upd_same, true, rfl, iteT ⟨.ref a, g5, rfl, rfl, d, _, .int n, rfl, upd_same, by simp [List.lookup], sizeL (by simp), fun p hp => ?_⟩⟩
      have r1 := r.fin fn
      have r2 := r1.newH (o := .xd [(("number" : Str), V.int n)]) hd
      have r3 := r2.newF (o := .lst [V.int n]) hp
      have r4 := r3.setC (i := 5) (x := .ref a) (c := .un) (by show 5 < 6; decide) trivial (fun z => by cases z)
      have r5 := r4.setIm (i := 4) (x := .ref p) (d := .list [.int n]) (by show 4 < 6; decide) ⟨p, [.int n], rfl, upd_same, .int n, [], rfl, rfl, rfl⟩
      have r6 := r5.wipeC (i := 5)
      exact af _ _ _ r6 (fn.exF.trans (Sub.new (r2.sub.isNone hp)))
    · cases hg
  · cases hg
end
end Dl

set_option Elab.async false
set_option linter.all false
set_option maxRecDepth 100000
set_option maxHeartbeats 4000000
/-! Dl35: defs that hand a new list back; new lists that are spoilt and forgotten. -/
namespace Dl
open PySem PySem.Spec PyProof.Rows L2
/-- a def over data that hands a new list back -/
def spDN (T : List Addr) (K : PySem.W.Frag) (n : Nat) (φ : List D → Option (List D)) : Sp := fun vs H Q _ => ∃ F ds z, ds.length = n ∧ Pre T H F ∧ RepL K F ds vs ∧ φ ds = some z ∧ ∀ p us H' F', Fin T [] H F H' F' → H' p = none → RepL K F' z us → Q (.ref p) (upd H' p (.lst us))
def runN (n : Nat) (f : M (List D)) (ds : List D) : Option (List D) := (f ⟨⟨[], 0, 0, 0⟩, envB n ds⟩).map (·.1)
structure DfN (T : List Addr) (P : Program) (w : World) (K : PySem.W.Frag) (mg : Str → Option Value) (base : Heap) (x : Str) (k n : Nat) (φ : List D → Option (List D)) : Prop where
  ex : ∃ f fd ps, FnG P w K mg base k f fd ps (spDN T K n φ) ∧ mg x = some (.ref f) ∧ PySem.W.keepIn K (.ref f) = true ∧ Binds K fd ps []
section
variable {T : List Addr} {P : Program} {w : World} {K : PySem.W.Frag} {mg : Str → Option Value} {base : Heap} {x qual : Str} {st : Stmt} {f c : Addr} {N ps : List Str} {k n : Nat}
theorem dfN_of {e : Expr} {pos : Pos} {fm : M (List D)} (F : FunC K x qual st f c) (hm : mg x = some (.ref f)) (Sc : FnScope N ps (defScope st)) (hn : ps.length = n) (hN : n ≤ N.length) (hst : defBody st = [.Return (some e) pos])
    (hb : ∀ (kV doc pm : Value) (an : Option Addr) (ct : Value) (us : List Value), us.length = ps.length → bindArgs (PySem.W.fnOf x qual (defArgs st) (defBody st) (defScope st) .none kV doc pm an (.ref c) ct) ⟨us, []⟩ = pure (ps.zip us))
    (body : ∀ (A : Around) (out : List Env) (s : Shared) (H : Hp) (E : XK), A.guards = some [] → Room k (A.deeper (envOfC qual (defScope st) s.heap.objs.size f (.ref c))) →
      DN T (cxOf CX0 P w K mg base N qual (defScope st) f (.ref c) A out s H E).nox e fm) : DfN T P w K mg base x (k + 1) n (runN N.length fm) := by
  obtain ⟨oc, od, kV, doc, pm, an, ct, osl, lk⟩ := F.ex
  refine ⟨f, _, ps, fnG_at lk F.cd Sc (fun vs H Q E h => ?_) fun A out s H vs Q E gd hr h => ?_, hm, F.kp, Binds.all fun us hl => hb kV doc pm an ct us hl⟩
  · obtain ⟨F1, ds, z, h1, _, h2, _⟩ := h
    rw [h2.length, h1, hn]
  · obtain ⟨F1, ds, z, h1, hp, h2, h3, q⟩ := h
    obtain ⟨t, pe, ht⟩ := body A out s H E gd hr
    rw [hst]
    refine ⟨_, pss_one (ps_ret pe), ?_⟩
    have rs := rel_start (K := K) (N := N) hp h2 (by omega)
    unfold runN at h3
    obtain ⟨r, hr1, hr2⟩ := Option.map_eq_some_iff.mp h3
    obtain ⟨z', s'⟩ := r
    cases hr2
    exact ht none _ F1 _ H F1 _ _ s' rs hr1 _ fun p us H1 F' hpn r1 e1 p1 => q p us H1 F' (fin_of hp r1.toCore) hpn p1
end
section
variable {T : List Addr} {X : Cx} {x : Str} {k n : Nat} {p pos : Pos} {e a b c : Expr} {es : List Expr} {g : M (List D)}
def fCallN (n : Nat) (φ : List D → Option (List D)) (g : M (List D)) : M (List D) := do let ds ← g; if ds.length = n then M.lift (φ ds) else fun _ => none
theorem dn_callN {φ : List D → Option (List D)} (d : DfN T X.prog X.w X.K X.mg X.base x k n φ) (hgd : X.A.guards = some []) (hr : Room k X.A) (hg : Gl X x) (ha : DA T X (e :: es) g)
    (hdb : (x == ("__debug__" : Str)) = false := by decide) (he : starEach (e :: es) X.env = (false, eval e X.env) :: starEach es X.env := by rfl) (hpl : (backTo pos (starEach es X.env)).any (·.1) = false := by rfl) :
    DN T X (.Call (.Name x p) (e :: es) [] pos) (fCallN n φ g) := by
  obtain ⟨f, fd, ps, Fn, hm, hk, hb⟩ := d.ex
  obtain ⟨ta, pa, ra⟩ := ha
  refine ⟨_, pe_go Fn hgd hr hg hm hk hb pa hdb he hpl, fun w G F0 σ H F s z s' r h Q q => ?_⟩
  obtain ⟨ds, s1, h1, h2⟩ := M.bind_some h
  obtain ⟨hl, h2⟩ := ite_some h2
  obtain ⟨h3, h4⟩ := M.lift_some h2
  dsimp only at h3 h4
  subst h4
  refine ra w G F0 σ H F s ds _ r h1 _ fun vs H1 F1 r1 e1 p1 => ⟨F1, ds, z, hl, r1.pre, p1, h3, fun p us H' F' fn hp rv => ?_⟩
  exact q p us H' F' hp (r1.fin fn) (e1.trans fn.exF) rv
def fIfN (t : M Bool) (f g : M (List D)) : M (List D) := do let b ← t; if b = true then f else g
theorem dn_if {t : M Bool} {f g : M (List D)} (hc : DT T X c t) (ha : DN T X a f) (hb : DN T X b g) : DN T X (.IfExp c a b pos) (fIfN t f g) := by
  obtain ⟨tc, pc, rc⟩ := hc
  obtain ⟨ta, pa, ra⟩ := ha
  obtain ⟨tb, pb, rb⟩ := hb
  refine ⟨_, pe_ifExp pc pa pb, fun w G F0 σ H F s d s' r h Q q => ?_⟩
  obtain ⟨k, s1, h1, h2⟩ := M.bind_some h
  refine rc w G F0 σ H F s k _ r h1 _ fun H1 F1 r1 e1 => ?_
  by_cases hk : k = true
  · rw [if_pos hk] at h2 ⊢
    exact ra w G F0 σ H1 F1 s1 d s' r1 h2 _ fun p vs H' F' hp r' e' => q p vs H' F' hp r' (e1.trans e')
  · rw [if_neg hk] at h2 ⊢
    exact rb w G F0 σ H1 F1 s1 d s' r1 h2 _ fun p vs H' F' hp r' e' => q p vs H' F' hp r' (e1.trans e')
/-! ### what changes no state -/
def Pu {α : Type} (f : M α) : Prop := ∀ s r s', f s = some (r, s') → s' = s
theorem pu_bind {α β : Type} {f : M α} {g : α → M β} (h1 : Pu f) (h2 : ∀ a, Pu (g a)) : Pu (f >>= g) := fun s r s' h => by
  obtain ⟨a, s1, k1, k2⟩ := M.bind_some h
  rw [h2 a s1 r s' k2, h1 s a s1 k1]
theorem pu_pure {α : Type} {a : α} : Pu (pure a : M α) := fun s r s' h => by cases h; rfl
theorem pu_lift {α : Type} {o : Option α} : Pu (M.lift o) := fun s r s' h => (M.lift_some h).2
theorem pu_none {α : Type} : Pu (fun _ => none : M α) := fun s r s' h => by cases h
theorem pu_var {i : Nat} : Pu (fVar i) := fun s r s' h => by
  unfold fVar at h
  split at h
  · cases h; rfl
  · cases h
theorem pu_c {d : D} : Pu (fC d) := fun s r s' h => by cases h; rfl
theorem pu_ite {α : Type} {p : Prop} [Decidable p] {f g : M α} (h1 : Pu f) (h2 : Pu g) : Pu (if p then f else g) := by
  split
  · exact h1
  · exact h2
theorem pu_cons {f : M D} {g : M (List D)} (h1 : Pu f) (h2 : Pu g) : Pu (fCons f g) := pu_bind h1 fun _ => pu_bind h2 fun _ => pu_pure
theorem pu_lst {g : M (List D)} (h : Pu g) : Pu (fLst g) := pu_bind h fun _ => pu_ite pu_pure pu_none
theorem pu_fr {g : M (List D)} (h : Pu g) : Pu (fFr g) := pu_bind h fun _ => pu_pure
theorem pu_fn {φ : List D → Option D} {g : M (List D)} (h : Pu g) : Pu (fFn φ g) := pu_bind h fun _ => pu_lift
theorem pu_bin {φ : D → D → Option D} {f g : M D} (h1 : Pu f) (h2 : Pu g) : Pu (fBin φ f g) := pu_bind h1 fun _ => pu_bind h2 fun _ => pu_lift
theorem pu_bool {f : M D} (h : Pu f) : Pu (fBool f) := pu_bind h fun d => by cases d <;> first | exact pu_pure | exact pu_none
theorem pu_ifE {t : M Bool} {f g : M D} (h0 : Pu t) (h1 : Pu f) (h2 : Pu g) : Pu (fIfE t f g) := pu_bind h0 fun _ => pu_ite h1 h2
theorem pu_callN {n : Nat} {φ : List D → Option (List D)} {g : M (List D)} (h : Pu g) : Pu (fCallN n φ g) := pu_bind h fun _ => pu_ite pu_lift pu_none
theorem pu_call {n : Nat} {φ : List D → Option D} {g : M (List D)} (h : Pu g) : Pu (fCall n φ g) := pu_bind h fun _ => pu_ite pu_lift pu_none
end
end Dl

set_option Elab.async false
set_option linter.all false
set_option maxRecDepth 100000
set_option maxHeartbeats 4000000
/-! Dl36: a list of three new lists is looked at, then each of these is spoilt, and none is read again. -/
namespace Dl
open PySem PySem.Spec PyProof.Rows L2
section
variable {T : List Addr} {K : PySem.W.Frag} {w : Option (Addr × Addr)} {G F0 H F H5 F5 H6 : Hp} {σ σ' : L2.St} {s s2 : S} {it js p1 p2 p3 : Nat}
/-- back to what was known ahead: the spoilt objects are forgotten -/
theorem Rel.forget (r : Rel T K w G F0 σ H F s) {σ5 : L2.St} {c0 : Cl} (r6 : Rel T K w G F0 σ5 H5 F5 { s with env := s.env.set it c0 }) (e : Sub F F5) (ps : List Addr) (h6 : ∀ a o, a ∉ ps → H5 a = some o → H6 a = some o)
    (hp : ∀ p ∈ ps, F p = none ∧ G p = none ∧ (∃ us, F5 p = some (.lst us))) (hσ : ∀ i, i ≠ it → i ≠ js → σ'[i]? = σ[i]?) (hl : σ'.length = σ.length) (ho : s.env.all (fun c => !c.own) = true) :
    Rel T K w G F0 σ' H6 F { s with env := (s.env.set it .un).set js .un } where
  sub := fun a o h => h6 a o (fun z => by rw [(hp a z).1] at h; cases h) (r6.sub a o (e a o h))
  keep := fun a o h => h6 a o (fun z => by rw [(hp a z).2.1] at h; cases h) (r6.keep a o h)
  exF := r.exF
  new := r.new
  src := fun q hq => by
    obtain ⟨⟨d, c, fd, fc⟩, g1, g2⟩ := r6.src q hq
    obtain ⟨⟨_, _, fd0, fc0⟩, _, _⟩ := r.src q hq
    have no : ∀ {a : Addr}, F5 a = none → a ∉ ps := fun {a} h z => by
      obtain ⟨_, _, us, hu⟩ := hp a z
      rw [h] at hu; cases hu
    exact ⟨⟨h6 _ _ (no fd) d, h6 _ _ (no fc) c, fd0, fc0⟩, g1, g2⟩
  tab := fun P hP => by
    obtain ⟨⟨tb, h1, h2⟩, f5, g⟩ := r6.tab P hP
    have no : P ∉ ps := fun z => by
      obtain ⟨_, _, us, hu⟩ := hp P z
      rw [f5] at hu; cases hu
    exact ⟨⟨tb, h6 _ _ no h1, h2⟩, (r.tab P hP).2.1, g⟩
  cl := fun i c h => by
    have hi : i < σ'.length := by
      have := (List.getElem?_eq_some_iff.mp h).1
      rw [List.length_set, List.length_set, ← r.len] at this
      omega
    rcases get_set h with ⟨rfl, rfl, _⟩ | ⟨n1, h⟩
    · exact ⟨_, List.getElem?_eq_getElem hi, trivial⟩
    · rcases get_set h with ⟨rfl, rfl, _⟩ | ⟨n2, h⟩
      · exact ⟨_, List.getElem?_eq_getElem hi, trivial⟩
      · obtain ⟨v, h1, h2⟩ := r.cl i c h
        refine ⟨v, by rw [hσ i (Ne.symm n2) (Ne.symm n1)]; exact h1, ?_⟩
        cases c with
        | un => trivial
        | im d => exact h2
        | sr => exact h2
        | ow ds =>
          have z := List.all_eq_true.mp ho _ (List.mem_of_getElem? h)
          cases z
  len := by rw [List.length_set, List.length_set, hl, r.len]
  dis := fun i j c c' a _ h1 _ o1 => by
    rcases get_set h1 with ⟨rfl, rfl, _⟩ | ⟨_, h1⟩
    · cases o1
    · rcases get_set h1 with ⟨rfl, rfl, _⟩ | ⟨_, h1⟩
      · cases o1
      · have z := List.all_eq_true.mp ho _ (List.mem_of_getElem? h1)
        rw [o1] at z; cases z
end
def gSpoil (it js : Nat) (f1 f2 f3 : M (List D)) (tc : M Bool) (fr : M D) (g : M Out) : M Out := fun s =>
  match f1 s, f2 s, f3 s with
  | some (d1, _), some (d2, _), some (d3, _) =>
    if (d1.length < 1000 ∧ d2.length < 1000 ∧ d3.length < 1000) ∧ it < s.env.length ∧ js < s.env.length ∧ it ≠ js ∧ s.env.all (fun c => !c.own) = true then
      match tc { s with env := s.env.set it (.im (.list [.list d1, .list d2, .list d3])) } with
      | some (true, s2) => gRet fr s2
      | some (false, _) => g { s with env := (s.env.set it .un).set js .un }
      | none => none
    else none
  | _, _, _ => none
theorem gSpoil_some {it js : Nat} {f1 f2 f3 : M (List D)} {tc : M Bool} {fr : M D} {g : M Out} {s s' : S} {o : Out} (u1 : Pu f1) (u2 : Pu f2) (u3 : Pu f3) (uc : Pu tc) (h : gSpoil it js f1 f2 f3 tc fr g s = some (o, s')) :
    ∃ d1 d2 d3, f1 s = some (d1, s) ∧ f2 s = some (d2, s) ∧ f3 s = some (d3, s) ∧ (d1.length < 1000 ∧ d2.length < 1000 ∧ d3.length < 1000) ∧ it < s.env.length ∧ js < s.env.length ∧ it ≠ js ∧ s.env.all (fun c => !c.own) = true ∧
      ((tc { s with env := s.env.set it (.im (.list [.list d1, .list d2, .list d3])) } = some (true, { s with env := s.env.set it (.im (.list [.list d1, .list d2, .list d3])) }) ∧ gRet fr { s with env := s.env.set it (.im (.list [.list d1, .list d2, .list d3])) } = some (o, s')) ∨
        (tc { s with env := s.env.set it (.im (.list [.list d1, .list d2, .list d3])) } = some (false, { s with env := s.env.set it (.im (.list [.list d1, .list d2, .list d3])) }) ∧ g { s with env := (s.env.set it .un).set js .un } = some (o, s'))) := by
  unfold gSpoil at h
  split at h
  · rename_i d1 s1 d2 s2 d3 s3 k1 k2 k3
    split at h
    · rename_i c
      obtain ⟨c1, c2, c3, c4, c5⟩ := c
      refine ⟨d1, d2, d3, ?_, ?_, ?_, c1, c2, c3, c4, c5, ?_⟩
      · rw [k1, u1 _ _ _ k1]
      · rw [k2, u2 _ _ _ k2]
      · rw [k3, u3 _ _ _ k3]
      · split at h
        · rename_i s4 k4
          have := uc _ _ _ k4
          subst this
          exact .inl ⟨k4, h⟩
        · rename_i s4 k4
          have := uc _ _ _ k4
          subst this
          exact .inr ⟨k4, h⟩
        · cases h
    · cases h
  · cases h
section
variable {T : List Addr} {X : Cx} {it js : Nat} {x y : Str} {e1 e2 e3 c er : Expr} {q1 q2 q3 q4 q5 q6 q7 q8 q9 q10 q11 q12 q13 : Pos} {jj : Nat} {rest : List Stmt} {f1 f2 f3 : M (List D)} {tc : M Bool} {fr : M D} {g : M Out}
theorem dss_spoil (hp : PassesOwn (model X.prog X.w) X.A X.env X.xe) (hc : X.calm = true) (hN : X.N.Nodup) (hi : X.N[it]? = some x) (hx : Loc X.env.scope x) (hvx : Vis X.env.scope x) (hj : X.N[js]? = some y) (hy : Loc X.env.scope y) (hvy : Vis X.env.scope y)
    (h1 : DN T X e1 f1) (h2 : DN T X e2 f2) (h3 : DN T X e3 f3) (u1 : Pu f1) (u2 : Pu f2) (u3 : Pu f3) (uc : Pu tc) (ht : DT T X c tc) (hr : DE T X er fr) (hrest : DSs T X rest g)
    (hdx : (x == ("__debug__" : Str)) = false := by decide) (hcx : (x == ("__classdict__" : Str)) = false := by decide) (hdy : (y == ("__debug__" : Str)) = false := by decide) (hcy : (y == ("__classdict__" : Str)) = false := by decide)
    (hs1 : swapsWith (.List [e1, e2, e3] q2) (some (.Name x q1)) q3.line X.env = pure false := by rfl) (hs2 : swapsWith (.Call (.Attribute (.Name y q8) "append" q9) [.Constant .none jj q10] [] q11) none q12.line X.env = pure false := by rfl)
    (hf1 : X.fn x = true ∨ X.env.scope.names.lookup x = some .local := by first | exact .inl rfl | exact .inr rfl | assumption) (hf2 : X.fn y = true ∨ X.env.scope.names.lookup y = some .local := by first | exact .inl rfl | exact .inr rfl | assumption)
    (a1 : starEach (e1 :: [e2, e3]) X.env = (false, eval e1 X.env) :: starEach [e2, e3] X.env := by rfl) (a2 : starEach (e2 :: [e3]) X.env = (false, eval e2 X.env) :: starEach [e3] X.env := by rfl) (a3 : starEach (e3 :: []) X.env = (false, eval e3 X.env) :: starEach [] X.env := by rfl)
    (hbase : attributeBase (.Name y q8) "append" X.env (eval (.Name y q8) X.env) = eval (.Name y q8) X.env := by rfl)
    (hfew : ((backTo q11 (starEach [.Constant .none jj q10] X.env)).all (fun x => !x.1) && (backToKw q11 (keywordEach [] X.env)).all (fun x => x.1.isSome) && decide (([.Constant .none jj q10] : List Expr).length + ([] : List Keyword).length + (if ([] : List Keyword).isEmpty then 0 else 1) < 30)) = true := by rfl)
    (hline : (q9.endLine == q11.line) = true := by rfl) (hst : starEach [.Constant .none jj q10] X.env = (false, eval (.Constant .none jj q10) X.env) :: starEach [] X.env := by rfl) (hpl : (backTo q11 (starEach [] X.env)).any (·.1) = false := by rfl)
    (hit : ∀ z, foldedSetIterable (.Name x q7) X.env z = pure z := by intro _; rfl) :
    DSs T X (.Assign [.Name x q1] (.List [e1, e2, e3] q2) q3 :: .If c [.Return (some er) q4] [] q5 :: .For (.Name y q6) (.Name x q7) [.Expr (.Call (.Attribute (.Name y q8) "append" q9) [.Constant .none jj q10] [] q11) q12] [] q13 :: rest) (gSpoil it js f1 f2 f3 tc fr g) := by
  obtain ⟨t1, pe1, b1⟩ := h1
  obtain ⟨t2, pe2, b2⟩ := h2
  obtain ⟨t3, pe3, b3⟩ := h3
  obtain ⟨tt, pt, bt⟩ := ht
  obtain ⟨tr, pr, br⟩ := hr
  obtain ⟨tg, pg, bg⟩ := hrest
  refine ⟨_, pss_cons (ps_set (i := it) hN hi hx (pe_lst (pa_cons pe1 (pa_cons pe2 (pa_cons pe3 pa_nil a3) a2) a1)) hs1 hf1) (pss_cons (ps_if pt (pss_one (ps_ret pr)) pss_nil)
    (pss_cons (ps_for hp hc (pi_list (pe_var (i := it) hi hvx hdx hcx)) (pg_name (i := js) hN hj hy hf2) (pss_one (ps_expr (pe_bm PySem.F.plainAttrs_list PySem.F.slot_list_append PySem.F.type_list_append mt_append (pe_var (i := js) hj hvy hdy hcy) (pa_cons pe_non pa_nil hst) hbase hfew hline hst hpl) hs2)) hit) pg)), fun w G F0 σ H F s o s' r h E af => ?_⟩
  obtain ⟨d1, d2, d3, k1, k2, k3, ⟨l1, l2, l3⟩, li, lj, ne, own, k4⟩ := gSpoil_some u1 u2 u3 uc h
  refine b1 w G F0 σ H F s d1 s r k1 _ fun p1 v1 H1 F1 n1 r1 e1 q1' => ?_
  have q1 := q1'.mono (Sub.new (r1.sub.isNone n1) (o := .lst v1))
  have R1 := r1.newF (o := .lst v1) n1
  refine b2 w G F0 σ _ _ s d2 s R1 k2 _ fun p2 v2 H2 F2 n2 r2 e2 q2' => ?_
  have R2 := r2.newF (o := .lst v2) n2
  refine b3 w G F0 σ _ _ s d3 s R2 k3 _ fun p3 v3 H3 F3 n3 r3 e3 q3' => ?_
  have R3 := r3.newF (o := .lst v3) n3
  refine ⟨by show 3 ≤ sizeLine; rw [sizeLine_eq]; decide, fun p0 n0 => ?_⟩
  have R4 := R3.newF (o := .lst [.ref p1, .ref p2, .ref p3]) n0
  have ne1 : p1 ≠ p2 := fun e => by
    have z := r2.sub _ _ (e2 _ _ upd_same)
    rw [e, n2] at z; cases z
  have f13 : upd F2 p2 (.lst v2) p1 = some (.lst v1) := by rw [upd_ne ne1]; exact e2 _ _ upd_same
  have ne2 : p1 ≠ p3 := fun e => by
    have z := r3.sub _ _ (e3 _ _ f13)
    rw [e, n3] at z; cases z
  have ne3 : p2 ≠ p3 := fun e => by
    have z := r3.sub _ _ (e3 _ _ upd_same)
    rw [e, n3] at z; cases z
  have g1 : upd F3 p3 (.lst v3) p1 = some (.lst v1) := by rw [upd_ne ne2]; exact e3 _ _ f13
  have g2 : upd F3 p3 (.lst v3) p2 = some (.lst v2) := by rw [upd_ne ne3]; exact e3 _ _ upd_same
  have g3 : upd F3 p3 (.lst v3) p3 = some (.lst v3) := upd_same
  have o1 : p1 ≠ p0 := fun e => by rw [← e, R3.sub _ _ g1] at n0; cases n0
  have o2 : p2 ≠ p0 := fun e => by rw [← e, R3.sub _ _ g2] at n0; cases n0
  have o3 : p3 ≠ p0 := fun e => by rw [← e, R3.sub _ _ g3] at n0; cases n0
  have nF4 := R3.sub.isNone n0
  have up4 : Sub (upd F3 p3 (.lst v3)) (upd (upd F3 p3 (.lst v3)) p0 (.lst [.ref p1, .ref p2, .ref p3])) := Sub.new nF4
  have x1 := up4 _ _ g1
  have x2 := up4 _ _ g2
  have x3 := up4 _ _ g3
  have ee1 : Sub F1 (upd F3 p3 (.lst v3)) := (Sub.new (r1.sub.isNone n1)).trans (e2.trans ((Sub.new (r2.sub.isNone n2)).trans (e3.trans (Sub.new (r3.sub.isNone n3)))))
  have ee : Sub F (upd (upd F3 p3 (.lst v3)) p0 (.lst [.ref p1, .ref p2, .ref p3])) := (e1.trans ee1).trans up4
  have y1 : RepL X.K (upd (upd F3 p3 (.lst v3)) p0 (.lst [.ref p1, .ref p2, .ref p3])) d1 v1 := q1'.mono (ee1.trans up4)
  have y2 : RepL X.K (upd (upd F3 p3 (.lst v3)) p0 (.lst [.ref p1, .ref p2, .ref p3])) d2 v2 := q2'.mono (((Sub.new (r2.sub.isNone n2)).trans (e3.trans (Sub.new (r3.sub.isNone n3)))).trans up4)
  have y3 : RepL X.K (upd (upd F3 p3 (.lst v3)) p0 (.lst [.ref p1, .ref p2, .ref p3])) d3 v3 := q3'.mono ((Sub.new (r3.sub.isNone n3)).trans up4)
  have R5 := R4.setIm (i := it) (x := .ref p0) (d := .list [.list d1, .list d2, .list d3]) li ⟨p0, _, rfl, upd_same, ⟨_, _, rfl, ⟨_, _, rfl, x1, y1⟩, _, _, rfl, ⟨_, _, rfl, x2, y2⟩, _, _, rfl, ⟨_, _, rfl, x3, y3⟩, rfl⟩⟩
  have bad : ∀ p us, p ∈ [p1, p2, p3] → (F p = some us → False) ∧ (G p = some us → False) := fun p us hm => by
    have s1 : Sub F F1 := e1
    have s2 : Sub F F2 := s1.trans ((Sub.new (r1.sub.isNone n1)).trans e2)
    have s3 : Sub F F3 := s2.trans ((Sub.new (r2.sub.isNone n2)).trans e3)
    simp only [List.mem_cons, List.not_mem_nil, or_false] at hm
    rcases hm with rfl | rfl | rfl
    · exact ⟨fun z => (by rw [r1.sub _ _ (s1 _ _ z)] at n1; cases n1), fun z => (by rw [r1.keep _ _ z] at n1; cases n1)⟩
    · exact ⟨fun z => (by rw [r2.sub _ _ (s2 _ _ z)] at n2; cases n2), fun z => (by rw [r2.keep _ _ z] at n2; cases n2)⟩
    · exact ⟨fun z => (by rw [r3.sub _ _ (s3 _ _ z)] at n3; cases n3), fun z => (by rw [r3.keep _ _ z] at n3; cases n3)⟩
  rcases k4 with ⟨k4, k5⟩ | ⟨k4, k5⟩
  · refine bt w G F0 _ _ _ _ true _ R5 k4 _ fun H6 F6 r6 e6 => ?_
    rw [if_pos rfl]
    unfold gRet at k5
    obtain ⟨d, s1, m1, m2⟩ := M.bind_some k5
    cases m2
    exact br w G F0 _ H6 F6 _ d _ r6 m1 _ fun v H7 F7 r7 e7 p7 => af v H7 F7 r7.toCore (ee.trans (e6.trans e7)) p7
  · refine bt w G F0 _ _ _ _ false _ R5 k4 _ fun H6 F6 r6 e6 => ?_
    rw [if_neg (by decide)]
    have z1 := r6.sub _ _ (e6 _ _ x1)
    have z2 := r6.sub _ _ (e6 _ _ x2)
    have z3 := r6.sub _ _ (e6 _ _ x3)
    have z0 := r6.sub _ _ (e6 _ _ upd_same)
    have iσ : it < σ.length := by rw [r.len]; exact li
    have jσ : js < σ.length := by rw [r.len]; exact lj
    refine ⟨.ref p0, by rw [List.getElem?_set_self iσ], p0, rfl, ⟨_, .inl (.inl z0)⟩, for_list (xs := [.ref p1, .ref p2, .ref p3]) (fun i σ2 H2 => Same [js] (σ.set it (some (.ref p0))) σ2 ∧ (∀ a o, a ∉ [p1, p2, p3] → H6 a = some o → H2 a = some o) ∧ ∀ p ∈ [p1, p2, p3].drop i, ∃ us, H2 p = some (.lst us) ∧ us.length < 1000) ?i0 ?i1 ?i2 ?i3⟩
    case i0 =>
      refine ⟨.refl, fun a o _ h => h, fun p hp => ?_⟩
      simp only [List.drop_zero, List.mem_cons, List.not_mem_nil, or_false] at hp
      rcases hp with rfl | rfl | rfl
      · exact ⟨_, z1, by rw [q1'.length]; exact l1⟩
      · exact ⟨_, z2, by rw [q2'.length]; exact l2⟩
      · exact ⟨_, z3, by rw [q3'.length]; exact l3⟩
    case i1 => exact fun i σ2 H2 _ hP => .inl (.inl (hP.2.1 p0 _ (by simp [o1.symm, o2.symm, o3.symm]) z0))
    case i2 =>
      intro i xx σ2 H2 hx hP
      obtain ⟨⟨sl, sg⟩, P2, P3⟩ := hP
      have step : ∀ p, xx = .ref p → p ∈ [p1, p2, p3].drop i → (∀ q ∈ [p1, p2, p3].drop (i + 1), q ∈ [p1, p2, p3].drop i ∧ q ≠ p) → p ∈ [p1, p2, p3] → ∀ E2 : Ends, (∀ σ3 H3, Same [js] (σ.set it (some (.ref p0))) σ3 ∧ (∀ a o, a ∉ [p1, p2, p3] → H6 a = some o → H3 a = some o) ∧ (∀ p ∈ [p1, p2, p3].drop (i + 1), ∃ us, H3 p = some (.lst us) ∧ us.length < 1000) → E2.nx σ3 H3) →
          gName js xx σ2 H2 fun σ3 H3 => tDrop (tBM X.K "list" rAppend (tVar js) (tCons (tC .non) tNil)) E2 σ3 H3 := fun p e hp hq hm E2 hE => by
        subst e
        obtain ⟨us, u1, u2⟩ := P3 p hp
        refine ⟨.ref p, by rw [List.getElem?_set_self (by rw [sl, List.length_set]; exact jσ)], .inl ⟨rfl, us, .inl (.inl u1)⟩, p, us, .non, rfl, rfl, u1, by rw [sizeLine_eq]; omega, hE _ _ ⟨⟨by rw [List.length_set]; exact sl, fun k hk => by rw [List.getElem?_set_ne (fun z => hk (by rw [z]; exact List.mem_singleton_self _))]; exact sg k hk⟩, fun a o ha ho => ?_, fun q hq' => ?_⟩⟩
        · rw [upd_ne (fun z => ha (by rw [z]; exact hm))]
          exact P2 a o ha ho
        · obtain ⟨hq1, hq2⟩ := hq q hq'
          rw [upd_ne hq2]
          exact P3 q hq1
      match i, hx, step with
      | 0, hx, step => cases hx; exact step p1 rfl (.head _) (fun q hq => ⟨.tail _ hq, fun z => by
          subst z
          have hq : q ∈ [p2, p3] := hq
          simp only [List.mem_cons, List.not_mem_nil, or_false] at hq
          exact hq.elim ne1 ne2⟩) (by simp) _ fun σ3 H3 h => h
      | 1, hx, step => cases hx; exact step p2 rfl (.head _) (fun q hq => ⟨.tail _ hq, fun z => by
          subst z
          have hq : q ∈ [p3] := hq
          simp only [List.mem_cons, List.not_mem_nil, or_false] at hq
          exact ne3 hq⟩) (by simp) _ fun σ3 H3 h => h
      | 2, hx, step => cases hx; exact step p3 rfl (.head _) (fun q hq => by cases hq) (by simp) _ fun σ3 H3 h => h
      | k + 3, hx, step => cases hx
    case i3 =>
      intro σ2 H2 hP
      obtain ⟨⟨sl, sg⟩, P2, P3⟩ := hP
      refine bg w G F0 σ2 H2 F _ o s' (Rel.forget r r6 (ee.trans e6) [p1, p2, p3] P2 (fun p hp => ⟨?_, ?_, ?_⟩) (fun i hi hj => ?_) (by rw [sl, List.length_set]) own) k5 E af
      · cases hF : F p with
        | none => rfl
        | some us => exact ((bad p us hp).1 hF).elim
      · cases hG : G p with
        | none => rfl
        | some us => exact ((bad p us hp).2 hG).elim
      · simp only [List.mem_cons, List.not_mem_nil, or_false] at hp
        rcases hp with rfl | rfl | rfl
        · exact ⟨_, e6 _ _ x1⟩
        · exact ⟨_, e6 _ _ x2⟩
        · exact ⟨_, e6 _ _ x3⟩
      · rw [sg i (by simp [hj]), List.getElem?_set_ne (fun z => hi z.symm)]
end
end Dl

set_option Elab.async false
set_option linter.all false
set_option maxRecDepth 100000
set_option maxHeartbeats 1000000
namespace Dl
open PySem PySem.Spec PyProof.Rows L2
def retOf (st : Stmt) : Expr := match defBody st with
  | [.Return (some e) _] => e
  | _ => .Constant .none 0 ⟨0, 0, 0, 0⟩
def gN_free_channels : { g : M (List D) // ∀ {T : List Addr} {P : Program} {w : World} {K : PySem.W.Frag} {mg : Str → Option Value} {base : Heap} (hd_is_held : Df T P w K mg base "is_held" 1 2 (φ_is_held)) (f : Addr) (cdv : Value) (A : Around) (out : List Env) (s : Shared) (H : Hp) (E : XK), A.guards = some [] → Room 1 (A.deeper (envOfC "free_channels" (defScope (top 7)) s.heap.objs.size f cdv)) →
    DN T (cxOf CX0 P w K mg base ["waiting", "channels", "channel"] "free_channels" (defScope (top 7)) f cdv A out s H E).nox (retOf (top 7)) g } := ⟨_, fun {T P w K mg base} hd_is_held f cdv A out s H E hgd hr =>
  (dn_lc (own := [("channel", 2)]) rfl nd_free_channels (di_seq (de_var (i := 1) rfl (by first | exact Or.inl rfl | exact Or.inr (Or.inl rfl) | exact Or.inr (Or.inr rfl)))) (blk_of (N := ["waiting", "channels", "channel"]) (sc := defScope (top 7)) (by decide +kernel)) (by decide) (fun s H C cl fp => (dg_name (i := 2) nd_free_channels rfl (by first | exact Or.inl rfl | exact Or.inr rfl))) (fam_ts1 fun s H C cl fp => (dt_not (dt_val (de_callD hd_is_held hgd (hr.mono (by decide)) rfl (da_cons (de_var (i := 0) rfl (by first | exact Or.inl rfl | exact Or.inr (Or.inl rfl) | exact Or.inr (Or.inr rfl))) (da_cons (de_var (i := 2) rfl (by first | exact Or.inl rfl | exact Or.inr (Or.inl rfl) | exact Or.inr (Or.inr rfl))) da_nil)))))) (fun s H C cl fp => (de_var (i := 2) rfl (by first | exact Or.inl rfl | exact Or.inr (Or.inl rfl) | exact Or.inr (Or.inr rfl)))))⟩
abbrev φN_free_channels : List D → Option (List D) := runN 3 gN_free_channels.1
theorem dn_free_channels {T : List Addr} {P : Program} {w : World} {K : PySem.W.Frag} {mg : Str → Option Value} {base : Heap} {f c : Addr} (hd_is_held : Df T P w K mg base "is_held" 1 2 (φ_is_held)) (F : FunC K "free_channels" "free_channels" (top 7) f c) (hm : mg "free_channels" = some (.ref f)) : DfN T P w K mg base "free_channels" 2 2 φN_free_channels :=
  dfN_of (ps := ["waiting", "channels"]) (N := ["waiting", "channels", "channel"]) (fm := gN_free_channels.1) (e := retOf (top 7)) F hm ⟨rfl, rfl, rfl, nd_free_channels, rfl, by decide +kernel, by decide +kernel⟩ rfl (by decide) rfl (fun _ _ _ _ _ us hl => match us, hl with | [_, _], _ => rfl) fun A out s H E hgd hr => gN_free_channels.2 hd_is_held f (.ref c) A out s H E hgd hr
def gN_numbers_left : { g : M (List D) // ∀ {T : List Addr} {P : Program} {w : World} {K : PySem.W.Frag} {mg : Str → Option Value} {base : Heap} (hdn_free_channels : DfN T P w K mg base "free_channels" 2 2 (φN_free_channels)) (f : Addr) (cdv : Value) (A : Around) (out : List Env) (s : Shared) (H : Hp) (E : XK), A.guards = some [] → Room 2 (A.deeper (envOfC "numbers_left" (defScope (top 8)) s.heap.objs.size f cdv)) →
    DN T (cxOf CX0 P w K mg base ["waiting", "channels"] "numbers_left" (defScope (top 8)) f cdv A out s H E).nox (retOf (top 8)) g } := ⟨_, fun {T P w K mg base} hdn_free_channels f cdv A out s H E hgd hr =>
  (dn_if (dt_cmp op_isD (de_var (i := 0) rfl (by first | exact Or.inl rfl | exact Or.inr (Or.inl rfl) | exact Or.inr (Or.inr rfl))) de_non) (dn_lst da_nil) (dn_callN hdn_free_channels hgd (hr.mono (by decide)) rfl (da_cons (de_var (i := 0) rfl (by first | exact Or.inl rfl | exact Or.inr (Or.inl rfl) | exact Or.inr (Or.inr rfl))) (da_cons (de_var (i := 1) rfl (by first | exact Or.inl rfl | exact Or.inr (Or.inl rfl) | exact Or.inr (Or.inr rfl))) da_nil))))⟩
abbrev φN_numbers_left : List D → Option (List D) := runN 2 gN_numbers_left.1
theorem dn_numbers_left {T : List Addr} {P : Program} {w : World} {K : PySem.W.Frag} {mg : Str → Option Value} {base : Heap} {f c : Addr} (hdn_free_channels : DfN T P w K mg base "free_channels" 2 2 (φN_free_channels)) (F : FunC K "numbers_left" "numbers_left" (top 8) f c) (hm : mg "numbers_left" = some (.ref f)) : DfN T P w K mg base "numbers_left" 3 2 φN_numbers_left :=
  dfN_of (ps := ["waiting", "channels"]) (N := ["waiting", "channels"]) (fm := gN_numbers_left.1) (e := retOf (top 8)) F hm ⟨rfl, rfl, rfl, nd_numbers_left, rfl, by decide +kernel, by decide +kernel⟩ rfl (by decide) rfl (fun _ _ _ _ _ us hl => match us, hl with | [_, _], _ => rfl) fun A out s H E hgd hr => gN_numbers_left.2 hdn_free_channels f (.ref c) A out s H E hgd hr
theorem nd__law_waiting_right : (["_law_source", "_law_channels", "_law_lap", "_law_waiting", "_law_n", "_law_channel", "_law_came", "_law_told", "_law_some", "_law_late", "_law_later", "_law_due", "_law_k", "_law_free", "_law_shown", "_law_one"] : List Str).Nodup := by decide
def g__law_waiting_right : { g : M Out // ∀ {T : List Addr} {P : Program} {w : World} {K : PySem.W.Frag} {mg : Str → Option Value} {base : Heap} (hsb : SysB base) (hn_range : mg "range" = none) (hn_repr : mg "repr" = none) (hn_tuple : mg "tuple" = none) (hn_len : mg "len" = none) (hn_int : mg "int" = none) (hn_sorted : mg "sorted" = none) (hd__law_any_order : DfS T P w K mg base "_law_any_order" 2 1 (φ__law_any_order)) (hd__law_pick : DfS T P w K mg base "_law_pick" 1 1 (φ__law_pick)) (hd_is_held : Df T P w K mg base "is_held" 1 2 (φ_is_held)) (hd__law_barred : Df T P w K mg base "_law_barred" 9 4 (φ__law_barred)) (hd_come : Df T P w K mg base "come" 2 4 (φ_come)) (hdn_free_channels : DfN T P w K mg base "free_channels" 2 2 (φN_free_channels)) (hdn_numbers_left : DfN T P w K mg base "numbers_left" 3 2 (φN_numbers_left)) (f : Addr) (cdv : Value) (A : Around) (out : List Env) (s : Shared) (H : Hp) (E : XK), A.guards = some [] → Room 9 (A.deeper (envOfC "_law_waiting_right" (defScope (top 21)) s.heap.objs.size f cdv)) →
    DSs T (cxOf CX0 P w K mg base ["_law_source", "_law_channels", "_law_lap", "_law_waiting", "_law_n", "_law_channel", "_law_came", "_law_told", "_law_some", "_law_late", "_law_later", "_law_due", "_law_k", "_law_free", "_law_shown", "_law_one"] "_law_waiting_right" (defScope (top 21)) f cdv A out s H E).nox (defBody (top 21)) g } := ⟨_, fun {T P w K mg base} hsb hn_range hn_repr hn_tuple hn_len hn_int hn_sorted hd__law_any_order hd__law_pick hd_is_held hd__law_barred hd_come hdn_free_channels hdn_numbers_left f cdv A out s H E hgd hr =>
  (dss_cons (ds_set (i := 1) nd__law_waiting_right rfl (by first | exact Or.inl rfl | exact Or.inr rfl) (de_callDS (i := 0) hd__law_any_order hgd (hr.mono (by decide)) rfl At.z (by first | exact Or.inl rfl | exact Or.inr (Or.inl rfl) | exact Or.inr (Or.inr rfl)) (da_cons (de_new (dn_lc (own := [("_law_k", 12)]) rfl nd__law_waiting_right (di_range1 rfl hn_range (de_bin op_addD de_int (de_callDS (i := 0) hd__law_pick hgd (hr.mono (by decide)) rfl At.z (by first | exact Or.inl rfl | exact Or.inr (Or.inl rfl) | exact Or.inr (Or.inr rfl)) (da_cons de_int da_nil)))) (blk_of (N := ["_law_source", "_law_channels", "_law_lap", "_law_waiting", "_law_n", "_law_channel", "_law_came", "_law_told", "_law_some", "_law_late", "_law_later", "_law_due", "_law_k", "_law_free", "_law_shown", "_law_one"]) (sc := defScope (top 21)) (by decide +kernel)) (by decide) (fun s H C cl fp => (dg_name (i := 12) nd__law_waiting_right rfl (by first | exact Or.inl rfl | exact Or.inr rfl))) fam_ts0 (fun s H C cl fp => (de_tup (da_cons (de_tup (da_cons de_str (da_cons (de_var (i := 12) rfl (by first | exact Or.inl rfl | exact Or.inr (Or.inl rfl) | exact Or.inr (Or.inr rfl))) da_nil))) (da_cons (de_bin op_divD (de_var (i := 12) rfl (by first | exact Or.inl rfl | exact Or.inr (Or.inl rfl) | exact Or.inr (Or.inr rfl))) de_int) (da_cons (de_tup (da_cons de_str (da_cons de_int da_nil))) da_nil))))))) da_nil))) (dss_cons (ds_asg (de_tup (da_cons de_non (da_cons de_int da_nil))) (dg_tup (n := 2) rfl (dgs_cons (dg_name (i := 3) nd__law_waiting_right rfl (by first | exact Or.inl rfl | exact Or.inr rfl)) (dgs_cons (dg_name (i := 4) nd__law_waiting_right rfl (by first | exact Or.inl rfl | exact Or.inr rfl)) dgs_nil)))) (dss_cons (ds_for PassesOwn.never rfl (di_range1 rfl hn_range de_int) (dg_name (i := 2) nd__law_waiting_right rfl (by first | exact Or.inl rfl | exact Or.inr rfl)) (dss_cons (ds_asg (de_tup (da_cons (de_bin op_addD (de_bin op_addD (de_var (i := 4) rfl (by first | exact Or.inl rfl | exact Or.inr (Or.inl rfl) | exact Or.inr (Or.inr rfl))) de_int) (de_callDS (i := 0) hd__law_pick hgd (hr.mono (by decide)) rfl At.z (by first | exact Or.inl rfl | exact Or.inr (Or.inl rfl) | exact Or.inr (Or.inr rfl)) (da_cons de_int da_nil))) (da_cons (de_new (dn_lst da_nil)) da_nil))) (dg_tup (n := 2) rfl (dgs_cons (dg_name (i := 4) nd__law_waiting_right rfl (by first | exact Or.inl rfl | exact Or.inr rfl)) (dgs_cons (dg_name (i := 6) nd__law_waiting_right rfl (by first | exact Or.inl rfl | exact Or.inr rfl)) dgs_nil)))) (dss_one (ds_for PassesOwn.never rfl (di_seq (de_callDS (i := 0) hd__law_any_order hgd (hr.mono (by decide)) rfl At.z (by first | exact Or.inl rfl | exact Or.inr (Or.inl rfl) | exact Or.inr (Or.inr rfl)) (da_cons (de_var (i := 1) rfl (by first | exact Or.inl rfl | exact Or.inr (Or.inl rfl) | exact Or.inr (Or.inr rfl))) da_nil))) (dg_name (i := 5) nd__law_waiting_right rfl (by first | exact Or.inl rfl | exact Or.inr rfl)) (dss_cons (ds_par (i := 13) (j := 14) rfl nd__law_waiting_right rfl rfl (by decide) rfl rfl (de_new (dn_lc (own := [("_law_one", 15)]) rfl nd__law_waiting_right (di_seq (de_var (i := 1) rfl (by first | exact Or.inl rfl | exact Or.inr (Or.inl rfl) | exact Or.inr (Or.inr rfl)))) (blk_of (N := ["_law_source", "_law_channels", "_law_lap", "_law_waiting", "_law_n", "_law_channel", "_law_came", "_law_told", "_law_some", "_law_late", "_law_later", "_law_due", "_law_k", "_law_free", "_law_shown", "_law_one"]) (sc := defScope (top 21)) (by decide +kernel)) (by decide) (fun s H C cl fp => (dg_name (i := 15) nd__law_waiting_right rfl (by first | exact Or.inl rfl | exact Or.inr rfl))) (fam_ts1 fun s H C cl fp => (dt_cmp (op_notInA (units70 hr) hsb) (de_var (i := 15) rfl (by first | exact Or.inl rfl | exact Or.inr (Or.inl rfl) | exact Or.inr (Or.inr rfl))) (de_var (i := 6) rfl (by first | exact Or.inl rfl | exact Or.inr (Or.inl rfl) | exact Or.inr (Or.inr rfl))))) (fun s H C cl fp => (de_var (i := 15) rfl (by first | exact Or.inl rfl | exact Or.inr (Or.inl rfl) | exact Or.inr (Or.inr rfl)))))) (de_callB (call_reprD hgd (units70 hr) hsb) rfl hn_repr rfl (da_cons (de_new (dn_lst (da_cons (de_var (i := 3) rfl (by first | exact Or.inl rfl | exact Or.inr (Or.inl rfl) | exact Or.inr (Or.inr rfl))) (da_cons (de_var (i := 1) rfl (by first | exact Or.inl rfl | exact Or.inr (Or.inl rfl) | exact Or.inr (Or.inr rfl))) da_nil)))) da_nil)) rfl) (dss_spoil (it := 7) (js := 8) PassesOwn.never rfl nd__law_waiting_right rfl (by first | exact Or.inl rfl | exact Or.inr rfl) (by first | exact Or.inl rfl | exact Or.inr (Or.inl rfl) | exact Or.inr (Or.inr rfl)) rfl (by first | exact Or.inl rfl | exact Or.inr rfl) (by first | exact Or.inl rfl | exact Or.inr (Or.inl rfl) | exact Or.inr (Or.inr rfl)) (dn_callN hdn_free_channels hgd (hr.mono (by decide)) rfl (da_cons (de_var (i := 3) rfl (by first | exact Or.inl rfl | exact Or.inr (Or.inl rfl) | exact Or.inr (Or.inr rfl))) (da_cons (de_var (i := 1) rfl (by first | exact Or.inl rfl | exact Or.inr (Or.inl rfl) | exact Or.inr (Or.inr rfl))) da_nil))) (dn_callN hdn_numbers_left hgd (hr.mono (by decide)) rfl (da_cons (de_var (i := 3) rfl (by first | exact Or.inl rfl | exact Or.inr (Or.inl rfl) | exact Or.inr (Or.inr rfl))) (da_cons (de_var (i := 1) rfl (by first | exact Or.inl rfl | exact Or.inr (Or.inl rfl) | exact Or.inr (Or.inr rfl))) da_nil))) (dn_callN hdn_free_channels hgd (hr.mono (by decide)) rfl (da_cons (de_var (i := 3) rfl (by first | exact Or.inl rfl | exact Or.inr (Or.inl rfl) | exact Or.inr (Or.inr rfl))) (da_cons (de_callTy call_tupleD rfl hn_tuple rfl (da_cons (de_var (i := 1) rfl (by first | exact Or.inl rfl | exact Or.inr (Or.inl rfl) | exact Or.inr (Or.inr rfl))) da_nil)) da_nil))) (by repeat (first | exact pu_var | exact pu_c | exact pu_pure | apply pu_cons | apply pu_callN | apply pu_call | apply pu_bool | apply pu_bin | apply pu_fn | apply pu_fr | apply pu_lst | apply pu_ifE)) (by repeat (first | exact pu_var | exact pu_c | exact pu_pure | apply pu_cons | apply pu_callN | apply pu_call | apply pu_bool | apply pu_bin | apply pu_fn | apply pu_fr | apply pu_lst | apply pu_ifE)) (by repeat (first | exact pu_var | exact pu_c | exact pu_pure | apply pu_cons | apply pu_callN | apply pu_call | apply pu_bool | apply pu_bin | apply pu_fn | apply pu_fr | apply pu_lst | apply pu_ifE)) (by repeat (first | exact pu_var | exact pu_c | exact pu_pure | apply pu_cons | apply pu_callN | apply pu_call | apply pu_bool | apply pu_bin | apply pu_fn | apply pu_fr | apply pu_lst | apply pu_ifE)) (dt_cmp (op_neD' (units64 hr)) (de_callB (call_reprD hgd (units70 hr) hsb) rfl hn_repr rfl (da_cons (de_var (i := 7) rfl (by first | exact Or.inl rfl | exact Or.inr (Or.inl rfl) | exact Or.inr (Or.inr rfl))) da_nil)) (de_callB (call_reprD hgd (units70 hr) hsb) rfl hn_repr rfl (da_cons (de_new (dn_lst (da_cons (de_var (i := 13) rfl (by first | exact Or.inl rfl | exact Or.inr (Or.inl rfl) | exact Or.inr (Or.inr rfl))) (da_cons (de_if (dt_cmp (op_neD' (units64 hr)) (de_var (i := 6) rfl (by first | exact Or.inl rfl | exact Or.inr (Or.inl rfl) | exact Or.inr (Or.inr rfl))) (de_new (dn_lst da_nil))) (de_var (i := 13) rfl (by first | exact Or.inl rfl | exact Or.inr (Or.inl rfl) | exact Or.inr (Or.inr rfl))) (de_new (dn_lst da_nil))) (da_cons (de_var (i := 13) rfl (by first | exact Or.inl rfl | exact Or.inr (Or.inl rfl) | exact Or.inr (Or.inr rfl))) da_nil))))) da_nil))) de_bl (dss_cons (ds_setLc (i := 7) (own := [("_law_one", 15)]) rfl nd__law_waiting_right rfl rfl (sw_true rfl rfl rfl rfl) (di_seq (de_var (i := 1) rfl (by first | exact Or.inl rfl | exact Or.inr (Or.inl rfl) | exact Or.inr (Or.inr rfl)))) (blk_of (N := ["_law_source", "_law_channels", "_law_lap", "_law_waiting", "_law_n", "_law_channel", "_law_came", "_law_told", "_law_some", "_law_late", "_law_later", "_law_due", "_law_k", "_law_free", "_law_shown", "_law_one"]) (sc := defScope (top 21)) (by decide +kernel)) (by decide) (fun s H C cl fp => (dg_name (i := 15) nd__law_waiting_right rfl (by first | exact Or.inl rfl | exact Or.inr rfl))) fam_ts0 (fun s H C cl fp => (de_callD hd_is_held hgd (hr.mono (by decide)) rfl (da_cons (de_var (i := 3) rfl (by first | exact Or.inl rfl | exact Or.inr (Or.inl rfl) | exact Or.inr (Or.inr rfl))) (da_cons (de_var (i := 15) rfl (by first | exact Or.inl rfl | exact Or.inr (Or.inl rfl) | exact Or.inr (Or.inr rfl))) da_nil))))) (dss_cons (ds_if (dt_w (dw_or (dt_cmp (op_neD' (units64 hr)) (de_callB (call_reprD hgd (units70 hr) hsb) rfl hn_repr rfl (da_cons (de_var (i := 7) rfl (by first | exact Or.inl rfl | exact Or.inr (Or.inl rfl) | exact Or.inr (Or.inr rfl))) da_nil)) (de_callB (call_reprD hgd (units70 hr) hsb) rfl hn_repr rfl (da_cons (de_new (dn_lc (own := [("_law_one", 15)]) rfl nd__law_waiting_right (di_seq (de_var (i := 1) rfl (by first | exact Or.inl rfl | exact Or.inr (Or.inl rfl) | exact Or.inr (Or.inr rfl)))) (blk_of (N := ["_law_source", "_law_channels", "_law_lap", "_law_waiting", "_law_n", "_law_channel", "_law_came", "_law_told", "_law_some", "_law_late", "_law_later", "_law_due", "_law_k", "_law_free", "_law_shown", "_law_one"]) (sc := defScope (top 21)) (by decide +kernel)) (by decide) (fun s H C cl fp => (dg_name (i := 15) nd__law_waiting_right rfl (by first | exact Or.inl rfl | exact Or.inr rfl))) fam_ts0 (fun s H C cl fp => (de_cmp (op_inA (units70 hr) hsb) (de_var (i := 15) rfl (by first | exact Or.inl rfl | exact Or.inr (Or.inl rfl) | exact Or.inr (Or.inr rfl))) (de_var (i := 6) rfl (by first | exact Or.inl rfl | exact Or.inr (Or.inl rfl) | exact Or.inr (Or.inr rfl))))))) da_nil))) (dw_or1 (dt_cmp (op_neD' (units64 hr)) (de_callB (call_reprD hgd (units70 hr) hsb) rfl hn_repr rfl (da_cons (de_new (dn_lst (da_cons (de_var (i := 3) rfl (by first | exact Or.inl rfl | exact Or.inr (Or.inl rfl) | exact Or.inr (Or.inr rfl))) (da_cons (de_var (i := 1) rfl (by first | exact Or.inl rfl | exact Or.inr (Or.inl rfl) | exact Or.inr (Or.inr rfl))) da_nil)))) da_nil)) (de_var (i := 14) rfl (by first | exact Or.inl rfl | exact Or.inr (Or.inl rfl) | exact Or.inr (Or.inr rfl))))))) (dss_one (ds_ret de_bl)) dss_nil) (dss_cons (ds_if (dt_w (dw_and (dt_cmp (op_neD' (units64 hr)) (de_var (i := 6) rfl (by first | exact Or.inl rfl | exact Or.inr (Or.inl rfl) | exact Or.inr (Or.inr rfl))) (de_new (dn_lst da_nil))) (dw_and1 (dt_cmp (op_neD' (units64 hr)) (de_callD hd__law_barred hgd (hr.mono (by decide)) rfl (da_cons (de_var (i := 3) rfl (by first | exact Or.inl rfl | exact Or.inr (Or.inl rfl) | exact Or.inr (Or.inr rfl))) (da_cons (de_var (i := 1) rfl (by first | exact Or.inl rfl | exact Or.inr (Or.inl rfl) | exact Or.inr (Or.inr rfl))) (da_cons (de_ix (de_var (i := 6) rfl (by first | exact Or.inl rfl | exact Or.inr (Or.inl rfl) | exact Or.inr (Or.inr rfl))) (de_callDS (i := 0) hd__law_pick hgd (hr.mono (by decide)) rfl At.z (by first | exact Or.inl rfl | exact Or.inr (Or.inl rfl) | exact Or.inr (Or.inr rfl)) (da_cons (de_callB call_lenD rfl hn_len rfl (da_cons (de_var (i := 6) rfl (by first | exact Or.inl rfl | exact Or.inr (Or.inl rfl) | exact Or.inr (Or.inr rfl))) da_nil)) da_nil))) (da_cons (de_var (i := 4) rfl (by first | exact Or.inl rfl | exact Or.inr (Or.inl rfl) | exact Or.inr (Or.inr rfl))) da_nil))))) (de_new (dn_lst (da_cons (de_var (i := 4) rfl (by first | exact Or.inl rfl | exact Or.inr (Or.inl rfl) | exact Or.inr (Or.inr rfl))) da_nil))))))) (dss_one (ds_ret de_bl)) dss_nil) (dss_cons (ds_for PassesOwn.never rfl (di_seq (de_if (dt_cmp (op_neD' (units64 hr)) (de_var (i := 6) rfl (by first | exact Or.inl rfl | exact Or.inr (Or.inl rfl) | exact Or.inr (Or.inr rfl))) (de_new (dn_lst da_nil))) (de_slice (de_new (dn_lst (da_cons (de_bin op_addD (de_var (i := 4) rfl (by first | exact Or.inl rfl | exact Or.inr (Or.inl rfl) | exact Or.inr (Or.inr rfl))) de_int) (da_cons (de_bin op_addD (de_var (i := 4) rfl (by first | exact Or.inl rfl | exact Or.inr (Or.inl rfl) | exact Or.inr (Or.inr rfl))) de_int) (da_cons (de_bin op_subD (de_var (i := 4) rfl (by first | exact Or.inl rfl | exact Or.inr (Or.inl rfl) | exact Or.inr (Or.inr rfl))) de_int) da_nil))))) do_none (do_some (de_bin op_addD de_int (de_callTy call_intD rfl hn_int rfl (da_cons (de_cmp op_gtD (de_var (i := 4) rfl (by first | exact Or.inl rfl | exact Or.inr (Or.inl rfl) | exact Or.inr (Or.inr rfl))) de_int) da_nil))))) (de_new (dn_lst da_nil)))) (dg_name (i := 9) nd__law_waiting_right rfl (by first | exact Or.inl rfl | exact Or.inr rfl)) (dss_one (ds_if (dt_cmp (op_neD' (units64 hr)) (de_callD hd__law_barred hgd (hr.mono (by decide)) rfl (da_cons (de_var (i := 3) rfl (by first | exact Or.inl rfl | exact Or.inr (Or.inl rfl) | exact Or.inr (Or.inr rfl))) (da_cons (de_var (i := 1) rfl (by first | exact Or.inl rfl | exact Or.inr (Or.inl rfl) | exact Or.inr (Or.inr rfl))) (da_cons (de_var (i := 5) rfl (by first | exact Or.inl rfl | exact Or.inr (Or.inl rfl) | exact Or.inr (Or.inr rfl))) (da_cons (de_var (i := 9) rfl (by first | exact Or.inl rfl | exact Or.inr (Or.inl rfl) | exact Or.inr (Or.inr rfl))) da_nil))))) (de_new (dn_lst (da_cons (de_var (i := 9) rfl (by first | exact Or.inl rfl | exact Or.inr (Or.inl rfl) | exact Or.inr (Or.inr rfl))) da_nil)))) (dss_one (ds_ret de_bl)) dss_nil))) (dss_cons (ds_set (i := 10) nd__law_waiting_right rfl (by first | exact Or.inl rfl | exact Or.inr rfl) (de_callD hd_come hgd (hr.mono (by decide)) rfl (da_cons (de_var (i := 3) rfl (by first | exact Or.inl rfl | exact Or.inr (Or.inl rfl) | exact Or.inr (Or.inr rfl))) (da_cons (de_var (i := 1) rfl (by first | exact Or.inl rfl | exact Or.inr (Or.inl rfl) | exact Or.inr (Or.inr rfl))) (da_cons (de_var (i := 5) rfl (by first | exact Or.inl rfl | exact Or.inr (Or.inl rfl) | exact Or.inr (Or.inr rfl))) (da_cons (de_var (i := 4) rfl (by first | exact Or.inl rfl | exact Or.inr (Or.inl rfl) | exact Or.inr (Or.inr rfl))) da_nil)))))) (dss_cons (ds_set (i := 6) nd__law_waiting_right rfl (by first | exact Or.inl rfl | exact Or.inr rfl) (de_new (dn_callB (call_sortedA (units70 hr) hsb) rfl hn_sorted rfl (da_cons (de_bin op_addD (de_var (i := 6) rfl (by first | exact Or.inl rfl | exact Or.inr (Or.inl rfl) | exact Or.inr (Or.inr rfl))) (de_new (dn_lst (da_cons (de_var (i := 5) rfl (by first | exact Or.inl rfl | exact Or.inr (Or.inl rfl) | exact Or.inr (Or.inr rfl))) da_nil)))) da_nil)))) (dss_cons (ds_set (i := 11) nd__law_waiting_right rfl (by first | exact Or.inl rfl | exact Or.inr rfl) (de_if (dt_cmp (op_eqD' (units64 hr)) (de_callB call_lenD rfl hn_len rfl (da_cons (de_var (i := 6) rfl (by first | exact Or.inl rfl | exact Or.inr (Or.inl rfl) | exact Or.inr (Or.inr rfl))) da_nil)) (de_callB call_lenD rfl hn_len rfl (da_cons (de_var (i := 1) rfl (by first | exact Or.inl rfl | exact Or.inr (Or.inl rfl) | exact Or.inr (Or.inr rfl))) da_nil))) (de_tup (da_cons de_non (da_cons de_bl da_nil))) (de_tup (da_cons (de_tup (da_cons (de_var (i := 4) rfl (by first | exact Or.inl rfl | exact Or.inr (Or.inl rfl) | exact Or.inr (Or.inr rfl))) (da_cons (de_callTy call_tupleD rfl hn_tuple rfl (da_cons (de_var (i := 6) rfl (by first | exact Or.inl rfl | exact Or.inr (Or.inl rfl) | exact Or.inr (Or.inr rfl))) da_nil)) da_nil))) (da_cons de_bl da_nil))))) (dss_cons (ds_if (dt_w (dw_or (dt_cmp (op_neD' (units64 hr)) (de_callB (call_reprD hgd (units70 hr) hsb) rfl hn_repr rfl (da_cons (de_var (i := 10) rfl (by first | exact Or.inl rfl | exact Or.inr (Or.inl rfl) | exact Or.inr (Or.inr rfl))) da_nil)) (de_callB (call_reprD hgd (units70 hr) hsb) rfl hn_repr rfl (da_cons (de_var (i := 11) rfl (by first | exact Or.inl rfl | exact Or.inr (Or.inl rfl) | exact Or.inr (Or.inr rfl))) da_nil))) (dw_or (dt_cmp (op_neD' (units64 hr)) (de_callB (call_reprD hgd (units70 hr) hsb) rfl hn_repr rfl (da_cons (de_new (dn_lst (da_cons (de_var (i := 3) rfl (by first | exact Or.inl rfl | exact Or.inr (Or.inl rfl) | exact Or.inr (Or.inr rfl))) (da_cons (de_var (i := 1) rfl (by first | exact Or.inl rfl | exact Or.inr (Or.inl rfl) | exact Or.inr (Or.inr rfl))) da_nil)))) da_nil)) (de_var (i := 14) rfl (by first | exact Or.inl rfl | exact Or.inr (Or.inl rfl) | exact Or.inr (Or.inr rfl)))) (dw_or1 (dt_cmp (op_neD' (units64 hr)) (de_callB (call_reprD hgd (units70 hr) hsb) rfl hn_repr rfl (da_cons (de_callD hd_come hgd (hr.mono (by decide)) rfl (da_cons (de_var (i := 3) rfl (by first | exact Or.inl rfl | exact Or.inr (Or.inl rfl) | exact Or.inr (Or.inr rfl))) (da_cons (de_callTy call_tupleD rfl hn_tuple rfl (da_cons (de_var (i := 1) rfl (by first | exact Or.inl rfl | exact Or.inr (Or.inl rfl) | exact Or.inr (Or.inr rfl))) da_nil)) (da_cons (de_var (i := 5) rfl (by first | exact Or.inl rfl | exact Or.inr (Or.inl rfl) | exact Or.inr (Or.inr rfl))) (da_cons (de_var (i := 4) rfl (by first | exact Or.inl rfl | exact Or.inr (Or.inl rfl) | exact Or.inr (Or.inr rfl))) da_nil))))) da_nil)) (de_callB (call_reprD hgd (units70 hr) hsb) rfl hn_repr rfl (da_cons (de_var (i := 11) rfl (by first | exact Or.inl rfl | exact Or.inr (Or.inl rfl) | exact Or.inr (Or.inr rfl))) da_nil))))))) (dss_one (ds_ret de_bl)) dss_nil) (dss_one (ds_set (i := 3) nd__law_waiting_right rfl (by first | exact Or.inl rfl | exact Or.inr rfl) (de_ix (de_var (i := 10) rfl (by first | exact Or.inl rfl | exact Or.inr (Or.inl rfl) | exact Or.inr (Or.inr rfl))) de_int))))))))))))))))) (dss_one (ds_ret (de_cmp op_isD (de_var (i := 3) rfl (by first | exact Or.inl rfl | exact Or.inr (Or.inl rfl) | exact Or.inr (Or.inr rfl))) de_non))))))⟩
abbrev φ__law_waiting_right : Src → List D → Option (D × Src) := runS 16 g__law_waiting_right.1
theorem d__law_waiting_right {T : List Addr} {P : Program} {w : World} {K : PySem.W.Frag} {mg : Str → Option Value} {base : Heap} {f c : Addr} (hsb : SysB base) (hn_range : mg "range" = none) (hn_repr : mg "repr" = none) (hn_tuple : mg "tuple" = none) (hn_len : mg "len" = none) (hn_int : mg "int" = none) (hn_sorted : mg "sorted" = none) (hd__law_any_order : DfS T P w K mg base "_law_any_order" 2 1 (φ__law_any_order)) (hd__law_pick : DfS T P w K mg base "_law_pick" 1 1 (φ__law_pick)) (hd_is_held : Df T P w K mg base "is_held" 1 2 (φ_is_held)) (hd__law_barred : Df T P w K mg base "_law_barred" 9 4 (φ__law_barred)) (hd_come : Df T P w K mg base "come" 2 4 (φ_come)) (hdn_free_channels : DfN T P w K mg base "free_channels" 2 2 (φN_free_channels)) (hdn_numbers_left : DfN T P w K mg base "numbers_left" 3 2 (φN_numbers_left)) (F : FunC K "_law_waiting_right" "_law_waiting_right" (top 21) f c) (hm : mg "_law_waiting_right" = some (.ref f)) : DfS T P w K mg base "_law_waiting_right" 10 0 φ__law_waiting_right :=
  dfS_of (ps := ["_law_source"]) (N := ["_law_source", "_law_channels", "_law_lap", "_law_waiting", "_law_n", "_law_channel", "_law_came", "_law_told", "_law_some", "_law_late", "_law_later", "_law_due", "_law_k", "_law_free", "_law_shown", "_law_one"]) (g := g__law_waiting_right.1) F hm ⟨rfl, rfl, rfl, nd__law_waiting_right, rfl, by decide +kernel, by decide +kernel⟩ rfl (by decide) (fun _ _ _ _ _ us hl => match us, hl with | [_], _ => rfl) fun A out s H E hgd hr => g__law_waiting_right.2 hsb hn_range hn_repr hn_tuple hn_len hn_int hn_sorted hd__law_any_order hd__law_pick hd_is_held hd__law_barred hd_come hdn_free_channels hdn_numbers_left f (.ref c) A out s H E hgd hr
end Dl

set_option Elab.async false
set_option linter.all false
set_option maxRecDepth 100000
set_option maxHeartbeats 4000000
/-! Ex8: _copy_of of an int. -/
namespace Dl
open PySem PySem.Spec PyProof.Rows PySem.Calls L2
theorem nd__copy_of : (["value", "member", "key"] : List Str).Nodup := by decide
section
variable {P : Program} {w : World} {K : PySem.W.Frag} {mg : Str → Option Value} {base : Heap} {f c : Addr}
theorem isi_no {n : Int} {p : String} (hp : p ∈ ["bool", "int", "str", "list", "tuple", "dict"]) (h : isB "int" p = false) {σ : L2.St} {H : Hp} {t u : TS} {E : Ends} (hv : σ[0]? = some (some (.int n))) (hu : u E σ H) :
    tIfS (tB (tCB (rIsi K) (tCons (tVar 0) (tCons (tC (V.ty p)) tNil)))) t u E σ H :=
  ⟨.int n, hv, .int n, .ty p, _, _, false, rfl, .ty p, .base (.int n), kit_ty ((kit_all _ (by decide) _ hp).trans (by rw [h])), false, rfl, hu⟩
theorem fnG_copy (hn_isi : mg "isinstance" = none) (hn_list : mg "list" = none) (hn_tuple : mg "tuple" = none) (hn_dict : mg "dict" = none) (F : FunC K "_copy_of" "_copy_of" (top 1) f c) :
    ∃ fd, FnG P w K mg base 1 f fd ["value"] spId ∧ Binds K fd ["value"] [] := by
  obtain ⟨oc, od, kV, doc, pm, an, ct, osl, lk⟩ := F.ex
  refine ⟨_, fnG_at lk F.cd (N := ["value", "member", "key"]) ⟨rfl, rfl, rfl, nd__copy_of, rfl, by decide +kernel, by decide +kernel⟩ (fun vs H Q E h => ?_) fun A out s H vs Q E g hr h => ?_, Binds.all fun us hl => match us, hl with | [_], _ => rfl⟩
  · obtain ⟨n, rfl, _⟩ := h
    rfl
  · obtain ⟨n, rfl, q⟩ := h
    refine ⟨_, pss_cons (ps_if (pt_val (pe_callB call_isi rfl hn_isi boot_isinstance (pa_cons (pe_var (i := 0) rfl (by first | exact Or.inl rfl | exact Or.inr (Or.inl rfl) | exact Or.inr (Or.inr rfl))) (pa_cons (pe_bltn (v := .ty "list") rfl hn_list rfl rfl) pa_nil)))) (pss_one ps_never) pss_nil)
      (pss_cons (ps_if (pt_val (pe_callB call_isi rfl hn_isi boot_isinstance (pa_cons (pe_var (i := 0) rfl (by first | exact Or.inl rfl | exact Or.inr (Or.inl rfl) | exact Or.inr (Or.inr rfl))) (pa_cons (pe_bltn (v := .ty "tuple") rfl hn_tuple rfl rfl) pa_nil)))) (pss_one ps_never) pss_nil)
        (pss_cons (ps_if (pt_val (pe_callB call_isi rfl hn_isi boot_isinstance (pa_cons (pe_var (i := 0) rfl (by first | exact Or.inl rfl | exact Or.inr (Or.inl rfl) | exact Or.inr (Or.inr rfl))) (pa_cons (pe_bltn (v := .ty "dict") rfl hn_dict rfl rfl) pa_nil)))) (pss_one ps_never) pss_nil)
          (pss_one (ps_ret (pe_var (i := 0) rfl (by first | exact Or.inl rfl | exact Or.inr (Or.inl rfl) | exact Or.inr (Or.inr rfl))))))), ?_⟩
    exact isi_no (by decide) rfl rfl (isi_no (by decide) rfl rfl (isi_no (by decide) rfl rfl ⟨.int n, rfl, q⟩))
end
end Dl

set_option Elab.async false
set_option linter.all false
set_option maxRecDepth 100000
set_option maxHeartbeats 1000000
namespace Dl
open PySem PySem.Spec PyProof.Rows L2
theorem nd_law : (["_law_script", "_law_source", "_law_lap", "_law_twice"] : List Str).Nodup := by decide
def g_law : { g : M Out // ∀ {T : List Addr} {P : Program} {w : World} {K : PySem.W.Frag} {mg : Str → Option Value} {base : Heap} (hn_range : mg "range" = none) (hd__law_things_right : DfS T P w K mg base "_law_things_right" 4 0 (φ__law_things_right)) (hd__law_waiting_right : DfS T P w K mg base "_law_waiting_right" 10 0 (φ__law_waiting_right)) (hd_numbers_in : Df T P w K mg base "numbers_in" 1 1 (φ_numbers_in)) (hd_judge_channel : Df T P w K mg base "judge_channel" 1 2 (φ_judge_channel)) (hd_behind : Df T P w K mg base "behind" 2 2 (φ_behind)) (hd_before : Df T P w K mg base "before" 2 2 (φ_before)) (f : Addr) (cdv : Value) (A : Around) (out : List Env) (s : Shared) (H : Hp) (E : XK), A.guards = some [] → Room 10 (A.deeper (envOfC "law" (defScope (top 24)) s.heap.objs.size f cdv)) →
    DSs T (cxOf CX0 P w K mg base ["_law_script", "_law_source", "_law_lap", "_law_twice"] "law" (defScope (top 24)) f cdv A out s H E).nox ((defBody (top 24)).drop 1) g } := ⟨_, fun {T P w K mg base} hn_range hd__law_things_right hd__law_waiting_right hd_numbers_in hd_judge_channel hd_behind hd_before f cdv A out s H E hgd hr =>
  (dss_cons (ds_for PassesOwn.never rfl (di_range1 rfl hn_range de_int) (dg_name (i := 2) nd_law rfl (by first | exact Or.inl rfl | exact Or.inr rfl)) (dss_one (ds_if (dt_w (dw_or (dt_not (dt_val (de_callDS (i := 1) hd__law_waiting_right hgd (hr.mono (by decide)) rfl (At.s At.z) (by first | exact Or.inl rfl | exact Or.inr (Or.inl rfl) | exact Or.inr (Or.inr rfl)) da_nil))) (dw_or (dt_not (dt_val (de_callDS (i := 1) hd__law_things_right hgd (hr.mono (by decide)) rfl (At.s At.z) (by first | exact Or.inl rfl | exact Or.inr (Or.inl rfl) | exact Or.inr (Or.inr rfl)) da_nil))) (dw_or1 (dt_not (dt_val (de_callDS (i := 1) hd__law_things_right hgd (hr.mono (by decide)) rfl (At.s At.z) (by first | exact Or.inl rfl | exact Or.inr (Or.inl rfl) | exact Or.inr (Or.inr rfl)) da_nil))))))) (dss_one (ds_ret de_bl)) dss_nil))) (dss_cons (ds_set (i := 3) nd_law rfl (by first | exact Or.inl rfl | exact Or.inr rfl) (de_tup (da_cons (de_tup (da_cons de_str (da_cons de_int da_nil))) (da_cons (de_tup (da_cons de_str (da_cons de_int da_nil))) (da_cons (de_tup (da_cons de_str (da_cons de_int da_nil))) (da_cons (de_tup (da_cons de_str (da_cons de_int da_nil))) da_nil)))))) (dss_one (ds_ret (de_cmp (op_eqD' (units64 hr)) (de_new (dn_lst (da_cons (de_callD hd_before hgd (hr.mono (by decide)) rfl (da_cons (de_var (i := 3) rfl (by first | exact Or.inl rfl | exact Or.inr (Or.inl rfl) | exact Or.inr (Or.inr rfl))) (da_cons de_int da_nil))) (da_cons (de_callD hd_behind hgd (hr.mono (by decide)) rfl (da_cons (de_var (i := 3) rfl (by first | exact Or.inl rfl | exact Or.inr (Or.inl rfl) | exact Or.inr (Or.inr rfl))) (da_cons de_int da_nil))) (da_cons (de_callD hd_judge_channel hgd (hr.mono (by decide)) rfl (da_cons (de_var (i := 3) rfl (by first | exact Or.inl rfl | exact Or.inr (Or.inl rfl) | exact Or.inr (Or.inr rfl))) (da_cons de_int da_nil))) (da_cons (de_callD hd_numbers_in hgd (hr.mono (by decide)) rfl (da_cons (de_tup da_nil) da_nil)) da_nil)))))) (de_new (dn_lst (da_cons (de_tup da_nil) (da_cons (de_slice (de_var (i := 3) rfl (by first | exact Or.inl rfl | exact Or.inr (Or.inl rfl) | exact Or.inr (Or.inr rfl))) (do_some de_int) do_none) (da_cons (de_tup (da_cons de_str (da_cons de_int da_nil))) (da_cons (de_tup da_nil) da_nil)))))))))))⟩
-- level 10
end Dl

set_option Elab.async false
set_option linter.all false
set_option maxRecDepth 100000
set_option maxHeartbeats 4000000
/-! Ex9: the law's def. -/
namespace Dl
open PySem PySem.Spec PyProof.Rows PySem.Calls L2
def spOpen (K : PySem.W.Frag) : Sp := fun vs H Q _ => ∃ (a : Addr) (ns : List Int), vs = [.ref a] ∧ ns.length ≤ sizeLine ∧ SqL K H a (ns.map V.int) ∧ ∀ p1 p2 H', H p1 = none → H p2 = none → H' p1 = some (.dK (srcV p2 (openS ns))) → H' p2 = some (.lst ((openS ns).cells.map V.int)) → (∀ b o, H b = some o → H' b = some o) → Q (.ref p1) H'
def LawTrue (ns : List Int) : Prop := ∃ s', g_law.1 ⟨openS ns, [.un, .sr, .un, .un]⟩ = some (.rt (.bool true), s')
def spLaw (K : PySem.W.Frag) (n : Nat) : Sp := fun vs H Q _ => ∃ (a : Addr) (ns : List Int), vs = [.ref a] ∧ ns.length ≤ n ∧ SqL K H a (ns.map V.int) ∧ ∀ H', Q (.bl true) H'
section
variable {P : Program} {w : World} {K : PySem.W.Frag} {mg : Str → Option Value} {base : Heap} {f c : Addr}
theorem fnG_open (hi : mg "int" = none) (ha : mg "abs" = none) (F : FunC K "_law_open_cells" "_law_open_cells" (top 15) f c) :
    ∃ fd, FnG P w K mg base 1 f fd ["_law_script"] (spOpen K) ∧ Binds K fd ["_law_script"] [] := by
  obtain ⟨oc, od, kV, doc, pm, an, ct, osl, lk⟩ := F.ex
  refine ⟨_, fnG_at lk F.cd (N := ["_law_script", "_law_stirred", "_law_cell", "_law_cells"]) ⟨rfl, rfl, rfl, nd_open, rfl, by decide +kernel, by decide +kernel⟩ (fun vs H Q E h => ?_) fun A out s H vs Q E g hr h => ?_, Binds.all fun us hl => match us, hl with | [_], _ => rfl⟩
  · obtain ⟨a, ns, rfl, _⟩ := h
    rfl
  · obtain ⟨a, ns, rfl, hl, hs, q⟩ := h
    exact open_body hi ha f (.ref c) A out s H E hl hs (fun H' e => sub_l e hs) fun p1 p2 H' n1 n2 h1 h2 e => q p1 p2 H' n1 n2 h1 h2 e
theorem fnG_law_of {oc kV doc pm ct : Value} {od an : Option Addr} {osl : Array (Option Value)} {fO : Addr} {fdO : FuncData} {n : Nat} (hn : n ≤ sizeLine) (hsb : SysB base) (hn_range : mg "range" = none) (hd__law_things_right : DfS [] P w K mg base "_law_things_right" 4 0 (φ__law_things_right)) (hd__law_waiting_right : DfS [] P w K mg base "_law_waiting_right" 10 0 (φ__law_waiting_right)) (hd_numbers_in : Df [] P w K mg base "numbers_in" 1 1 (φ_numbers_in)) (hd_judge_channel : Df [] P w K mg base "judge_channel" 1 2 (φ_judge_channel)) (hd_behind : Df [] P w K mg base "behind" 2 2 (φ_behind)) (hd_before : Df [] P w K mg base "before" 2 2 (φ_before))
    (FO : FnG P w K mg base 1 fO fdO ["_law_script"] (spOpen K)) (bO : Binds K fdO ["_law_script"] []) (mO : mg "_law_open_cells" = some (.ref fO)) (kO : PySem.W.keepIn K (.ref fO) = true)
    (lk : K.lookup f = some ⟨oc, od, .func (PySem.W.fnOf "law" "law" (defArgs (top 24)) (defBody (top 24)) (defScope (top 24)) .none kV doc pm an (.ref c) ct), osl⟩) (cd : PySem.W.codeIn K (.ref c) "law" = true) (key : ∀ ns : List Int, ns.length ≤ n → LawTrue ns) :
    FnG P w K mg base 11 f (PySem.W.fnOf "law" "law" (defArgs (top 24)) (defBody (top 24)) (defScope (top 24)) .none kV doc pm an (.ref c) ct) ["_law_script"] (spLaw K n) := by
  refine fnG_at lk cd (N := ["_law_script", "_law_source", "_law_lap", "_law_twice"]) ⟨rfl, rfl, rfl, nd_law, rfl, by decide +kernel, by decide +kernel⟩ (fun vs H Q E h => ?_) fun A out s H vs Q E g hr h => ?_
  · obtain ⟨a, ns, rfl, _⟩ := h
    rfl
  · obtain ⟨a, ns, rfl, hl, hs, q⟩ := h
    obtain ⟨t, pt, ht⟩ := g_law.2 hn_range hd__law_things_right hd__law_waiting_right hd_numbers_in hd_judge_channel hd_behind hd_before f (.ref c) A out s H E g hr
    obtain ⟨s', hk⟩ := key ns hl
    refine ⟨_, pss_cons (ps_set (i := 1) nd_law rfl (by first | exact Or.inl rfl | exact Or.inr rfl) (pe_go FO g (hr.mono (by decide)) rfl mO kO bO (pa_cons (pe_var (i := 0) rfl (by first | exact Or.inl rfl | exact Or.inr (Or.inl rfl) | exact Or.inr (Or.inr rfl))) pa_nil))) pt, ?_⟩
    refine ⟨.ref a, rfl, a, ns, rfl, Nat.le_trans hl hn, hs, fun p1 p2 H' n1 n2 h1 h2 e => ?_⟩
    refine ht (some (p1, p2)) (fun _ => none) (fun _ => none) _ H' (fun _ => none) ⟨openS ns, [.un, .sr, .un, .un]⟩ (.rt (.bool true)) s' ?_ hk _ fun v H2 F2 _ _ rv => ?_
    · refine { sub := fun a o h => (by cases h), keep := fun a o h => (by cases h), exF := Sub.refl _, new := fun a o h => (by cases h), src := fun p hp => ?_, tab := fun P hP => (by cases hP), cl := fun i c h => ?_, len := rfl, dis := fun i j c c' a ne h1 h2 o1 o2 => ?_ }
      · cases hp
        exact ⟨⟨h1, h2, rfl, rfl⟩, rfl, rfl⟩
      · match i, h with
        | 0, h => cases h; exact ⟨_, rfl, trivial⟩
        | 1, h => cases h; exact ⟨_, rfl, (p1, p2), rfl, rfl⟩
        | 2, h => cases h; exact ⟨_, rfl, trivial⟩
        | 3, h => cases h; exact ⟨_, rfl, trivial⟩
      · match i, h1 with
        | 0, h1 => cases h1; cases o1
        | 1, h1 => cases h1; cases o1
        | 2, h1 => cases h1; cases o1
        | 3, h1 => cases h1; cases o1
    · cases (show v = .bl true from rv)
      exact q H2
end
end Dl

set_option Elab.async false
set_option linter.all false
set_option maxRecDepth 100000
set_option maxHeartbeats 4000000
/-! Ex10: from the head's facts to the law's promise. -/
namespace Dl
open PySem PySem.Spec PyProof.Rows PySem.Calls L2 NdefX
structure FD (K : PySem.W.Frag) (mg : Str → Option Value) (x : Str) (i : Nat) : Prop where
  ex : ∃ f c, FunC K x x (top i) f c ∧ mg x = some (.ref f)
theorem fd_mk {K : PySem.W.Frag} {h : Heap} {mg : Str → Option Value} {x : Str} {i : Nat} {f c : Addr} {oc kV doc pm ct : Value} {od an : Option Addr} {osl : Array (Option Value)} (X : K.In h) (G : h.Ns mainGlobals mg) (a : PySem.W.nsIn K mainGlobals x = some (some (.ref f)))
    (l : K.lookup f = some ⟨oc, od, .func (PySem.W.fnOf x x (defArgs (top i)) (defBody (top i)) (defScope (top i)) .none kV doc pm an (.ref c) ct), osl⟩) (cd : PySem.W.codeIn K (.ref c) x = true) (kp : PySem.W.keepIn K (.ref f) = true) : FD K mg x i :=
  ⟨f, c, ⟨⟨oc, od, kV, doc, pm, an, ct, osl, l⟩, cd, kp⟩, PySem.W.mg_of X G a⟩
/-- what the written part says of the two error classes -/
structure FE (P : Program) (K : PySem.W.Frag) (mg : Str → Option Value) : Prop where
  ex : ∃ (C S fI cc c : Addr) (oc kV doc pm ct : Value) (od an : Option Addr) (osl : Array (Option Value)), mg "BadBarrier" = some (.ref C) ∧ mg "StreamError" = some (.ref S) ∧ PySem.W.kitOne K (.ref C) (.ref S) = some true ∧ PySem.W.exmOne K (.ref C) (.ref C) = some true ∧
    ErrC P K mg C "number" ∧ ErrF P K C fI cc (nfI cc c) ∧ ErrI K C ∧ XfC K C ∧ PySem.W.findIn K (.ref C) "__init__" = some (some (.ref fI)) ∧ PySem.W.typeIn K (.ref fI) = some (.type "function") ∧
    K.lookup fI = some ⟨oc, od, .func (PySem.W.fnX "__init__" "BadBarrier.__init__" (defArgs stI) (defBody stI) (defScope stI) [("__class__", cc)] .none kV doc pm an (.ref c) ct), osl⟩
theorem exm_self {K : PySem.W.Frag} {S : Addr} (h1 : PySem.W.subIn K (.ref S) (.type "BaseException") = some true) (h2 : PySem.W.isClsIn K S = true) (h3 : PySem.W.typeIn K (.ref S) = some (.type "type")) (h4 : PySem.W.subIn K (.ref S) (.ref S) = some true) :
    PySem.W.exmOne K (.ref S) (.ref S) = some true := by
  unfold PySem.W.exmOne
  have h2' : (PySem.W.clsIn K S).isSome = true := h2
  have e1 : (some true == some true) = true := rfl
  simp only [h1]
  rw [if_pos e1]
  unfold PySem.W.kitCls
  simp only [h2', h3]
  exact h4
def LawAll (P : Program) (w : World) (K : PySem.W.Frag) (mg : Str → Option Value) (n : Nat) : Prop := ∃ f fd, mg "law" = some (.ref f) ∧ (∀ (s : Shared) (u : Value), BindsTo s fd ⟨[u], []⟩ [("_law_script", u)]) ∧ ∀ base, SysB base → FnG P w K mg base 11 f fd ["_law_script"] (spLaw K n)
section
variable {P : Program} {w : World} {K : PySem.W.Frag} {mg : Str → Option Value} {n : Nat}
theorem law_all (hn : n ≤ sizeLine) (key : ∀ ns : List Int, ns.length ≤ n → LawTrue ns) (X : FE P K mg) (D__copy_of : FD K mg "_copy_of" 1) (D_is_held : FD K mg "is_held" 5) (D_come : FD K mg "come" 6) (D_free_channels : FD K mg "free_channels" 7) (D_numbers_left : FD K mg "numbers_left" 8) (D__place_of : FD K mg "_place_of" 9) (D_before : FD K mg "before" 10) (D_behind : FD K mg "behind" 11) (D_numbers_in : FD K mg "numbers_in" 12) (D_judge_channel : FD K mg "judge_channel" 13) (D__law_open_cells : FD K mg "_law_open_cells" 15) (D__law_pick : FD K mg "_law_pick" 16) (D__law_any_order : FD K mg "_law_any_order" 17) (D__law_draw_value : FD K mg "_law_draw_value" 18) (D__law_draw_things : FD K mg "_law_draw_things" 19) (D__law_barred : FD K mg "_law_barred" 20) (D__law_waiting_right : FD K mg "_law_waiting_right" 21) (D__law_fault : FD K mg "_law_fault" 22) (D__law_things_right : FD K mg "_law_things_right" 23) (D_law : FD K mg "law" 24) (n_len : mg "len" = none) (n_int : mg "int" = none) (n_abs : mg "abs" = none) (n_sorted : mg "sorted" = none) (n_tuple : mg "tuple" = none) (n_list : mg "list" = none) (n_dict : mg "dict" = none) (n_range : mg "range" = none) (n_repr : mg "repr" = none) (n_enumerate : mg "enumerate" = none) (n_isinstance : mg "isinstance" = none) (n_super : mg "super" = none) :
    LawAll P w K mg n := by
  obtain ⟨f__copy_of, c__copy_of, F__copy_of, m__copy_of⟩ := D__copy_of.ex
  obtain ⟨f_is_held, c_is_held, F_is_held, m_is_held⟩ := D_is_held.ex
  obtain ⟨f_come, c_come, F_come, m_come⟩ := D_come.ex
  obtain ⟨f_free_channels, c_free_channels, F_free_channels, m_free_channels⟩ := D_free_channels.ex
  obtain ⟨f_numbers_left, c_numbers_left, F_numbers_left, m_numbers_left⟩ := D_numbers_left.ex
  obtain ⟨f__place_of, c__place_of, F__place_of, m__place_of⟩ := D__place_of.ex
  obtain ⟨f_before, c_before, F_before, m_before⟩ := D_before.ex
  obtain ⟨f_behind, c_behind, F_behind, m_behind⟩ := D_behind.ex
  obtain ⟨f_numbers_in, c_numbers_in, F_numbers_in, m_numbers_in⟩ := D_numbers_in.ex
  obtain ⟨f_judge_channel, c_judge_channel, F_judge_channel, m_judge_channel⟩ := D_judge_channel.ex
  obtain ⟨f__law_open_cells, c__law_open_cells, F__law_open_cells, m__law_open_cells⟩ := D__law_open_cells.ex
  obtain ⟨f__law_pick, c__law_pick, F__law_pick, m__law_pick⟩ := D__law_pick.ex
  obtain ⟨f__law_any_order, c__law_any_order, F__law_any_order, m__law_any_order⟩ := D__law_any_order.ex
  obtain ⟨f__law_draw_value, c__law_draw_value, F__law_draw_value, m__law_draw_value⟩ := D__law_draw_value.ex
  obtain ⟨f__law_draw_things, c__law_draw_things, F__law_draw_things, m__law_draw_things⟩ := D__law_draw_things.ex
  obtain ⟨f__law_barred, c__law_barred, F__law_barred, m__law_barred⟩ := D__law_barred.ex
  obtain ⟨f__law_waiting_right, c__law_waiting_right, F__law_waiting_right, m__law_waiting_right⟩ := D__law_waiting_right.ex
  obtain ⟨f__law_fault, c__law_fault, F__law_fault, m__law_fault⟩ := D__law_fault.ex
  obtain ⟨f__law_things_right, c__law_things_right, F__law_things_right, m__law_things_right⟩ := D__law_things_right.ex
  obtain ⟨f_law, c_law, F_law, m_law⟩ := D_law.ex
  obtain ⟨C, S, fI, cc, cI, oc, kV, doc, pm, ct, od, an, osl, mC, mS, kS, te, EC, EF, EI, XF, iC, tI, lI⟩ := X.ex
  obtain ⟨oc1, od1, kV1, doc1, pm1, an1, ct1, osl1, lk1⟩ := F_law.ex
  refine ⟨f_law, PySem.W.fnOf "law" "law" (defArgs (top 24)) (defBody (top 24)) (defScope (top 24)) .none kV1 doc1 pm1 an1 (.ref c_law) ct1, m_law, ?_, fun base hsb => ?_⟩
  rotate_left
  · have e__law_pick : DfS [] P w K mg base "_law_pick" 1 1 φ__law_pick := d__law_pick n_len n_int F__law_pick m__law_pick
    have e_is_held : Df [] P w K mg base "is_held" 1 2 φ_is_held := (d_is_held hsb F_is_held m_is_held)
    have e_come : Df [] P w K mg base "come" 2 4 φ_come := (d_come hsb n_tuple n_sorted n_len e_is_held F_come m_come)
    have e_free_channels : Df [] P w K mg base "free_channels" 2 2 φ_free_channels := (d_free_channels e_is_held F_free_channels m_free_channels)
    have e_numbers_left : Df [] P w K mg base "numbers_left" 3 2 φ_numbers_left := (d_numbers_left e_free_channels F_numbers_left m_numbers_left)
    have e__place_of : Df [] P w K mg base "_place_of" 1 2 φ__place_of := (d__place_of n_enumerate n_len F__place_of m__place_of)
    have e_before : Df [] P w K mg base "before" 2 2 φ_before := (d_before e__place_of F_before m_before)
    have e_behind : Df [] P w K mg base "behind" 2 2 φ_behind := (d_behind e__place_of F_behind m_behind)
    have e_numbers_in : Df [] P w K mg base "numbers_in" 1 1 φ_numbers_in := (d_numbers_in n_tuple F_numbers_in m_numbers_in)
    have e_judge_channel : Df [] P w K mg base "judge_channel" 1 2 φ_judge_channel := (d_judge_channel n_enumerate F_judge_channel m_judge_channel)
    have e__law_any_order : DfS [] P w K mg base "_law_any_order" 2 1 φ__law_any_order := (d__law_any_order n_list n_range n_len e__law_pick F__law_any_order m__law_any_order)
    have e__law_draw_value : DfS [] P w K mg base "_law_draw_value" 2 1 φ__law_draw_value := (d__law_draw_value e__law_pick F__law_draw_value m__law_draw_value)
    have e__law_draw_things : DfS [] P w K mg base "_law_draw_things" 3 3 φ__law_draw_things := (d__law_draw_things n_range n_tuple e__law_pick e__law_draw_value F__law_draw_things m__law_draw_things)
    have e__law_fault : Df [] P w K mg base "_law_fault" 1 2 φ__law_fault := (d__law_fault n_enumerate F__law_fault m__law_fault)
    have e__law_things_right : DfS [] P w K mg base "_law_things_right" 4 0 φ__law_things_right := (d__law_things_right hsb n_repr n_tuple n_enumerate n_len n_range e__law_pick e__law_draw_things e_judge_channel e_numbers_in e_behind e_before e__law_any_order e__law_fault F__law_things_right m__law_things_right)
    have en_free_channels : DfN [] P w K mg base "free_channels" 2 2 φN_free_channels := (dn_free_channels e_is_held F_free_channels m_free_channels)
    have en_numbers_left : DfN [] P w K mg base "numbers_left" 3 2 φN_numbers_left := (dn_numbers_left en_free_channels F_numbers_left m_numbers_left)
    obtain ⟨fdC, FC, bC⟩ := fnG_copy (P := P) (w := w) (base := base) n_isinstance n_list n_tuple n_dict F__copy_of
    have FI := fnG_init EC EF lI FC m__copy_of F__copy_of.kp bC
    obtain ⟨fdX, FX, bX⟩ := fnX_come (T := []) hsb e_is_held F_come EC iC tI FI (Binds.all fun us hl => match us, hl with | [_, _], _ => rfl) mC (by decide)
    have e__law_barred : Df [] P w K mg base "_law_barred" 9 4 φ__law_barred := (d__law_barred FX bX m_come F_come.kp EI XF EC.noN te mC mS kS n_isinstance F__law_barred m__law_barred).up (by decide)
    have e__law_waiting_right : DfS [] P w K mg base "_law_waiting_right" 10 0 φ__law_waiting_right := (d__law_waiting_right hsb n_range n_repr n_tuple n_len n_int n_sorted e__law_any_order e__law_pick e_is_held e__law_barred e_come en_free_channels en_numbers_left F__law_waiting_right m__law_waiting_right)
    obtain ⟨fdO, FO, bO⟩ := fnG_open (P := P) (w := w) (base := base) n_int n_abs F__law_open_cells
    exact (fnG_law_of hn hsb n_range e__law_things_right e__law_waiting_right e_numbers_in e_judge_channel e_behind e_before FO bO m__law_open_cells F__law_open_cells.kp lk1 F_law.cd key)
  · intro s u
    exact .of_eq rfl
end
end Dl

set_option Elab.async false
set_option linter.all false
set_option maxRecDepth 100000
set_option maxHeartbeats 2000000
/-! Dl37: small data: what repr, ==, in ask of it. -/
namespace Dl
open PySem PySem.Spec PyProof.Rows L2
theorem sok_iff {x : Str} : PyData.strOk x = true ↔ ∀ c ∈ x.cps.toList, c < 0x110000 := by
  unfold PyData.strOk
  rw [← Array.all_toList, List.all_eq_true]
  exact ⟨fun h c hc => of_decide_eq_true (h c hc), fun h c hc => decide_eq_true (h c hc)⟩
theorem sok_app {x y : Str} (hx : PyData.strOk x = true) (hy : PyData.strOk y = true) : PyData.strOk (x ++ y) = true := by
  rw [sok_iff] at *
  intro c hc
  rcases mem_cps_append.mp hc with h | h
  · exact hx c h
  · exact hy c h
theorem sok_ofString (s : String) : PyData.strOk (Str.ofString s) = true := by
  rw [sok_iff, signs_ofString]
  intro c hc
  obtain ⟨ch, _, rfl⟩ := List.mem_map.mp hc
  have := ch.valid
  rcases this with h | h
  · have h : ch.val.toNat < 0xd800 := h
    show ch.val.toNat < _
    omega
  · have h : ch.val.toNat < 0x110000 := h.2
    exact h
theorem sok_from : ∀ (ts : List Str) (k : Nat) (acc : Str), PyData.strOk acc = true → (∀ t ∈ ts, PyData.strOk t = true) → PyData.strOk (textFrom k acc ts) = true
  | [], _, _, ha, _ => ha
  | t :: ts, k, acc, ha, h => sok_from ts (k + 1) _ (sok_app (sok_app ha (sok_ofString _)) (h t List.mem_cons_self)) fun u hu => h u (List.mem_cons_of_mem _ hu)
theorem sok_join : ∀ (ts : List Str), (∀ t ∈ ts, PyData.strOk t = true) → PyData.strOk (Str.join ", " ts) = true
  | [], _ => by decide +kernel
  | [x], h => h x List.mem_cons_self
  | x :: y :: r, h => sok_app (sok_app (h x List.mem_cons_self) (sok_ofString _)) (sok_join (y :: r) fun u hu => h u (List.mem_cons_of_mem _ hu))
structure Ni (k w : Nat) (d : D) : Prop where
  lay : d.canLay0 = true
  dep : d.depth ≤ k
  wei : d.weight ≤ w
  sho : d.intsShort 13 = true
  can : d.showable = true
  sok : PyData.strOk d.shown = true
theorem Ni.mono {k k' w w' : Nat} {d : D} (h : Ni k w d) (hk : k ≤ k') (hw : w ≤ w') : Ni k' w' d := ⟨h.lay, Nat.le_trans h.dep hk, Nat.le_trans h.wei hw, h.sho, h.can, h.sok⟩
theorem ni_none : Ni 0 0 .none := ⟨rfl, Nat.le_refl _, Nat.le_refl _, rfl, rfl, by decide +kernel⟩
theorem ni_bool {b : Bool} : Ni 0 0 (.bool b) := ⟨rfl, Nat.le_refl _, Nat.le_refl _, rfl, rfl, by cases b <;> decide +kernel⟩
theorem ni_int {i : Int} (h1 : -1000000000 ≤ i) (h2 : i ≤ 1000000000) : Ni 0 40 (.int i) := by
  have hn : i.natAbs < 2 ^ 31 := by omega
  have hl : i.natAbs.log2 < 31 := by
    by_cases z : i.natAbs = 0
    · rw [z]; decide
    · exact (Nat.log2_lt z).mpr hn
  refine ⟨rfl, Nat.le_refl _, ?_, ?_, ?_, sok_ofString _⟩
  · show (if (i == 0) = true then 0 else i.natAbs.log2 + 1) ≤ 40
    split <;> omega
  · show decide ((PyData.shown (.int i)).length ≤ 13) = true
    exact decide_eq_true (PyData.shown_int_le2 (by omega) (by omega))
  · show decide (i.natAbs.log2 < 1920) = true
    exact decide_eq_true (by omega)
theorem ni_all {k w : Nat} : ∀ {ds : List D}, (∀ d ∈ ds, Ni k w d) → PyData.canLayAll0 ds = true ∧ PyData.depthAll ds ≤ k ∧ PyData.weightAll ds ≤ ds.length * (w + 1) ∧ PyData.intsShortAll 13 ds = true ∧ PyData.showableAll ds = true ∧ ∀ t ∈ PyData.shownAll ds, PyData.strOk t = true
  | [], _ => ⟨rfl, Nat.zero_le _, Nat.zero_le _, rfl, rfl, fun t h => by cases h⟩
  | d :: ds, h => by
    obtain ⟨a1, a2, a3, a4, a5, a6⟩ := ni_all fun e he => h e (List.mem_cons_of_mem _ he)
    have h0 := h d List.mem_cons_self
    refine ⟨?_, ?_, ?_, ?_, ?_, ?_⟩
    · show (d.canLay0 && PyData.canLayAll0 ds) = true
      rw [h0.lay, a1]; rfl
    · show max d.depth (PyData.depthAll ds) ≤ k
      have := h0.dep
      omega
    · show d.weight + 1 + PyData.weightAll ds ≤ (ds.length + 1) * (w + 1)
      have := h0.wei
      rw [Nat.add_mul]
      omega
    · show (d.intsShort 13 && PyData.intsShortAll 13 ds) = true
      rw [h0.sho, a4]; rfl
    · show (d.showable && PyData.showableAll ds) = true
      rw [h0.can, a5]; rfl
    · intro t ht
      rcases List.mem_cons.mp (show t ∈ d.shown :: PyData.shownAll ds from ht) with rfl | ht
      · exact h0.sok
      · exact a6 t ht
theorem ni_list {k w n : Nat} {ds : List D} (h : ∀ d ∈ ds, Ni k w d) (hn : ds.length ≤ n) : Ni (k + 1) (n * (w + 1)) (.list ds) := by
  obtain ⟨a1, a2, a3, a4, a5, a6⟩ := ni_all h
  exact ⟨a1, Nat.succ_le_succ a2, Nat.le_trans a3 (Nat.mul_le_mul_right _ hn), a4, a5, sok_app (sok_from _ _ _ (sok_ofString _) a6) (sok_ofString _)⟩
theorem ni_tup {k w n : Nat} {ds : List D} (h : ∀ d ∈ ds, Ni k w d) (hn : ds.length ≤ n) : Ni (k + 1) (n * (w + 1)) (.tuple ds) := by
  obtain ⟨a1, a2, a3, a4, a5, a6⟩ := ni_all h
  refine ⟨a1, Nat.succ_le_succ a2, Nat.le_trans a3 (Nat.mul_le_mul_right _ hn), a4, a5, ?_⟩
  show PyData.strOk (tupleText (PyData.shownAll ds)) = true
  exact sok_app (sok_app (sok_ofString _) (sok_join _ a6)) (sok_ofString _)
theorem Ni.shaped {k w : Nat} {d : D} (h : Ni k w d) (hk : k ≤ 64) : SeqAt.shaped d = true := by
  unfold SeqAt.shaped
  rw [h.lay, decide_eq_true (Nat.le_trans h.dep hk)]; rfl
theorem Ni.repr {k w : Nat} {d : D} (h : Ni k w d) (hk : k ≤ 64) (hw : w ≤ 2 ^ 20) : φRepr [d] = some (.str d.shown) := by
  have hl : d.layable0 = true := by
    unfold PyData.layable0
    rw [h.lay, decide_eq_true (Nat.le_trans h.dep hk), decide_eq_true (Nat.le_trans h.wei hw)]; rfl
  have := shown_le13 hl h.sho
  unfold φRepr
  exact if_pos ⟨h.can, Nat.le_trans h.dep hk, by rw [sizeLine_eq]; omega⟩
theorem str_shaped {x : Str} (h : PyData.strOk x = true) : SeqAt.shaped (.str x) = true := by
  show (PyData.strOk x && decide (0 ≤ 64)) = true
  rw [h]; rfl
theorem ne_str {x : Str} (h : PyData.strOk x = true) : φNe (.str x) (.str x) = some (.bool false) := by
  unfold φNe okEq
  rw [str_shaped h]
  show some (PyData.bool (!(x == x))) = _
  rw [beq_self_eq_true]; rfl
theorem eq_ok {k w k' w' : Nat} {d e : D} (h : Ni k w d) (h' : Ni k' w' e) (hk : k ≤ 64) (hk' : k' ≤ 64) : φEq d e = some (.bool (PyData.eqv d e)) := by
  unfold φEq okEq
  rw [h.shaped hk, h'.shaped hk']; rfl
theorem ne_ok {k w k' w' : Nat} {d e : D} (h : Ni k w d) (h' : Ni k' w' e) (hk : k ≤ 64) (hk' : k' ≤ 64) : φNe d e = some (.bool (!PyData.eqv d e)) := by
  unfold φNe okEq
  rw [h.shaped hk, h'.shaped hk']; rfl
end Dl

set_option Elab.async false
set_option linter.all false
set_option maxRecDepth 100000
set_option maxHeartbeats 2000000
/-! Dl38: a mirror's run, step by step. -/
namespace Dl
open PySem PySem.Spec PyProof.Rows L2
def Rn {α : Type} (f : M α) (s : S) (a : α) (s' : S) : Prop := f s = some (a, s')
section
variable {α β : Type} {s s1 s2 s3 : S} {f g h : M D} {fs gs : M (List D)} {d e r : D} {ds es : List D} {t u : M Bool} {b c : Bool} {i j n : Nat} {o : Out} {p q : M Out}
theorem rn_bind {m : M α} {k : α → M β} {a : α} {z : β} (h1 : Rn m s a s1) (h2 : Rn (k a) s1 z s2) : Rn (m >>= k) s z s2 := by
  show (m s).bind _ = _
  rw [h1]
  exact h2
theorem rn_pure {a : α} : Rn (pure a : M α) s a s := rfl
theorem rn_v (h : s.env[i]? = some (.im d)) : Rn (fVar i) s d s := by
  unfold Rn fVar
  rw [h]
theorem rn_c : Rn (fC d) s d s := rfl
theorem rn_cons (h1 : Rn f s d s1) (h2 : Rn fs s1 ds s2) : Rn (fCons f fs) s (d :: ds) s2 := rn_bind h1 (rn_bind h2 rn_pure)
theorem rn_tup (h1 : Rn fs s ds s1) (h2 : ds.length ≤ 16777216) : Rn (fTup fs) s (.tuple ds) s1 := rn_bind h1 (by rw [if_pos h2]; exact rn_pure)
theorem rn_lst (h1 : Rn fs s ds s1) (h2 : ds.length ≤ 16777216) : Rn (fLst fs) s ds s1 := rn_bind h1 (by rw [if_pos h2]; exact rn_pure)
theorem rn_fr (h1 : Rn fs s ds s1) : Rn (fFr fs) s (.list ds) s1 := rn_bind h1 rn_pure
theorem rn_lift {z : Option α} {a : α} (h : z = some a) : Rn (M.lift z) s a s := by subst h; rfl
theorem rn_bin {φ : D → D → Option D} (h1 : Rn f s d s1) (h2 : Rn g s1 e s2) (h3 : φ d e = some r) : Rn (fBin φ f g) s r s2 := rn_bind h1 (rn_bind h2 (rn_lift h3))
theorem rn_fn {φ : List D → Option D} (h1 : Rn fs s ds s1) (h2 : φ ds = some r) : Rn (fFn φ fs) s r s1 := rn_bind h1 (rn_lift h2)
theorem rn_fl {φ : List D → Option (List D)} (h1 : Rn fs s ds s1) (h2 : φ ds = some es) : Rn (fFl φ fs) s es s1 := rn_bind h1 (rn_lift h2)
theorem rn_call {φ : List D → Option D} (h1 : Rn fs s ds s1) (h2 : ds.length = n) (h3 : φ ds = some r) : Rn (fCall n φ fs) s r s1 := rn_bind h1 (by rw [if_pos h2]; exact rn_lift h3)
theorem rn_callN {φ : List D → Option (List D)} (h1 : Rn fs s ds s1) (h2 : ds.length = n) (h3 : φ ds = some es) : Rn (fCallN n φ fs) s es s1 := rn_bind h1 (by rw [if_pos h2]; exact rn_lift h3)
theorem rn_callS {φ : Src → List D → Option (D × Src)} {x : Src} (h0 : s.env[i]? = some .sr) (h1 : Rn fs s ds s1) (h2 : ds.length = n) (h3 : φ s1.src ds = some (r, x)) : Rn (fCallS i n φ fs) s r ⟨x, s1.env⟩ := by
  unfold Rn fCallS
  rw [h0]
  refine rn_bind (s1 := s1) h1 ?_
  rw [if_pos h2]
  show M.drawn _ s1 = _
  unfold M.drawn
  dsimp only
  rw [h3]
theorem rn_bool (h1 : Rn f s (.bool b) s1) : Rn (fBool f) s b s1 := rn_bind h1 rn_pure
theorem rn_not (h1 : Rn t s b s1) : Rn (fNot t) s (!b) s1 := rn_bind h1 rn_pure
theorem rn_and_t (h1 : Rn t s true s1) (h2 : Rn u s1 c s2) : Rn (fAnd t u) s c s2 := rn_bind h1 (by rw [if_pos rfl]; exact h2)
theorem rn_and_f (h1 : Rn t s false s1) : Rn (fAnd t u) s false s1 := rn_bind h1 (by rw [if_neg Bool.false_ne_true]; exact rn_pure)
theorem rn_or_t (h1 : Rn t s true s1) : Rn (fOr t u) s true s1 := rn_bind h1 (by rw [if_pos rfl]; exact rn_pure)
theorem rn_or_f (h1 : Rn t s false s1) (h2 : Rn u s1 c s2) : Rn (fOr t u) s c s2 := rn_bind h1 (by rw [if_neg Bool.false_ne_true]; exact h2)
theorem rn_andv_t (h1 : Rn f s (.bool true) s1) (h2 : Rn g s1 r s2) : Rn (fAndV f g) s r s2 := rn_bind h1 h2
theorem rn_andv_f (h1 : Rn f s (.bool false) s1) : Rn (fAndV f g) s (.bool false) s1 := rn_bind h1 rn_pure
theorem rn_ift (h1 : Rn t s true s1) (h2 : Rn f s1 r s2) : Rn (fIfE t f g) s r s2 := rn_bind h1 (by rw [if_pos rfl]; exact h2)
theorem rn_iff (h1 : Rn t s false s1) (h2 : Rn g s1 r s2) : Rn (fIfE t f g) s r s2 := rn_bind h1 (by rw [if_neg Bool.false_ne_true]; exact h2)
theorem rn_ifNt (h1 : Rn t s true s1) (h2 : Rn fs s1 ds s2) : Rn (fIfN t fs gs) s ds s2 := rn_bind h1 (by rw [if_pos rfl]; exact h2)
theorem rn_ifNf (h1 : Rn t s false s1) (h2 : Rn gs s1 ds s2) : Rn (fIfN t fs gs) s ds s2 := rn_bind h1 (by rw [if_neg Bool.false_ne_true]; exact h2)
theorem rn_part {k : Int} (h1 : Rn f s (.int k) s1) : Rn (fPart f) s (some k) s1 := rn_bind h1 rn_pure
theorem rn_sl {lo hi : M (Option Int)} {l m : Option Int} (h1 : Rn f s d s1) (h2 : Rn lo s1 l s2) (h3 : Rn hi s2 m s3) (h4 : φSl d l m = some r) : Rn (fSl f lo hi) s r s3 := rn_bind h1 (rn_bind h2 (rn_bind h3 (rn_lift h4)))
theorem rn_items (h1 : Rn f s d s1) (h2 : itemsOf d = some ds) : Rn (fSeq f) s ds s1 := rn_bind h1 (rn_lift h2)
theorem rn_enum (h1 : Rn f s d s1) (h2 : enumOfA d = some ds) : Rn (fEnumA f) s ds s1 := rn_bind h1 (rn_lift h2)
theorem rn_rng (h1 : Rn f s d s1) (h2 : range1 d = some ds) : Rn (fRange1 f) s ds s1 := rn_bind h1 (rn_lift h2)
theorem rn_setC {z : Cl} (h : i < s.env.length) : Rn (setC i z) s () ⟨s.src, s.env.set i z⟩ := if_pos h
/-! statements -/
theorem rn_set (h1 : Rn f s d s1) (h2 : i < s1.env.length) : Rn (gSet i f) s .nx ⟨s1.src, s1.env.set i (.im d)⟩ := rn_bind h1 (rn_bind (rn_setC h2) rn_pure)
theorem rn_own (h1 : Rn fs s ds s1) (h2 : i < s1.env.length) : Rn (gOwn i fs) s .nx ⟨s1.src, s1.env.set i (.ow ds)⟩ := rn_bind h1 (rn_bind (rn_setC h2) rn_pure)
theorem rn_par (h1 : Rn f s d s1) (h2 : Rn g s1 e s2) (h3 : i < s2.env.length) (h4 : j < s2.env.length) : Rn (gPar i j f g) s .nx ⟨s2.src, (s2.env.set i (.im d)).set j (.im e)⟩ := rn_bind h1 (rn_bind h2 (rn_bind (rn_setC h3) (rn_bind (rn_setC (by show j < (s2.env.set i (.im d)).length; rw [List.length_set]; exact h4)) rn_pure)))
theorem rn_seq (h1 : Rn p s .nx s1) (h2 : Rn q s1 o s2) : Rn (gSeq p q) s o s2 := rn_bind h1 h2
theorem rn_seqR (h1 : Rn p s (.rt d) s1) : Rn (gSeq p q) s (.rt d) s1 := rn_bind h1 rn_pure
theorem rn_sift (h1 : Rn t s true s1) (h2 : Rn p s1 o s2) : Rn (gIf t p q) s o s2 := rn_bind h1 (by rw [if_pos rfl]; exact h2)
theorem rn_siff (h1 : Rn t s false s1) (h2 : Rn q s1 o s2) : Rn (gIf t p q) s o s2 := rn_bind h1 (by rw [if_neg Bool.false_ne_true]; exact h2)
theorem rn_ret (h1 : Rn f s d s1) : Rn (gRet f) s (.rt d) s1 := rn_bind h1 rn_pure
theorem rn_asg {k : D → M Unit} (h1 : Rn f s d s1) (h2 : Rn (k d) s1 () s2) : Rn (gAsg f k) s .nx s2 := rn_bind h1 (rn_bind h2 rn_pure)
/-- a loop, all of whose turns go on -/
theorem rn_for {k : D → M Unit} {bd : M Out} (I : Nat → S → Prop) (h1 : Rn fs s ds s1) (h0 : I 0 s1)
    (hs : ∀ (i : Nat) (x : D) (z : S), ds[i]? = some x → I i z → ∃ z1 z2, Rn (k x) z () z1 ∧ Rn bd z1 .nx z2 ∧ I (i + 1) z2) : ∃ s', Rn (gFor fs k bd) s .nx s' ∧ I ds.length s' := by
  have go : ∀ (l : List D) (i : Nat) (z : S), i + l.length = ds.length → ds.drop i = l → I i z → ∃ s', Rn (forD (gBody k bd) l) z .nx s' ∧ I ds.length s' := by
    intro l
    induction l with
    | nil =>
      intro i z hl hd hI
      have hle : i = ds.length := hl
      subst hle
      exact ⟨z, rfl, hI⟩
    | cons x l ih =>
      intro i z hl hd hI
      have hl' : i + (l.length + 1) = ds.length := hl
      have hx : ds[i]? = some x := by
        have := congrArg List.head? hd
        rw [List.head?_drop] at this
        exact this
      obtain ⟨z1, z2, r1, r2, hI2⟩ := hs i x z hx hI
      obtain ⟨s', r3, hE⟩ := ih (i + 1) z2 (by omega) (by rw [← List.drop_drop, hd]; rfl) hI2
      exact ⟨s', rn_bind (rn_bind r1 r2) r3, hE⟩
  obtain ⟨s', r, hI⟩ := go ds 0 s1 (by simp) rfl h0
  exact ⟨s', rn_bind h1 r, hI⟩
theorem rn_name {z : S} {x : D} (h : i < z.env.length) : Rn (gName' i x) z () ⟨z.src, z.env.set i (.im x)⟩ := rn_setC h
theorem rn_pair {x y : D} {z : S} (h1 : i < z.env.length) (h2 : j < z.env.length) : Rn (gTup' 2 (gCons' (gName' i) (gCons' (gName' j) gNil')) (.tuple [x, y])) z () ⟨z.src, (z.env.set i (.im x)).set j (.im y)⟩ :=
  rn_bind (s1 := ⟨z.src, z.env.set i (.im x)⟩) (rn_name h1) (rn_bind (s1 := ⟨z.src, (z.env.set i (.im x)).set j (.im y)⟩) (rn_name (by show j < (z.env.set i (.im x)).length; rw [List.length_set]; exact h2)) rn_pure)
/-- a list comprehension whose parts change nothing -/
theorem rn_lc {vs : List Nat} {fi : M (List D)} {k : D → M Unit} {src : Src} {E : List Cl} (B : D → List Cl) (p : D → Bool) (w : D → D) (hfi : Rn fi s ds ⟨src, E⟩) (hB : ∀ x ∈ ds, unE vs (B x) = unE vs E)
    (hg : ∀ x ∈ ds, Rn (k x) ⟨src, unE vs E⟩ () ⟨src, B x⟩) (ht : ∀ x ∈ ds, Rn t ⟨src, B x⟩ (p x) ⟨src, B x⟩) (hf : ∀ x ∈ ds, p x = true → Rn f ⟨src, B x⟩ (w x) ⟨src, B x⟩) (hl : ds.length ≤ 16777216) (hE : backE vs E (unE vs E) = E) :
    Rn (fLc vs fi k t f) s ((ds.filter p).map w) ⟨src, E⟩ := by
  have go : ∀ (l acc : List D) (env : List Cl), (∀ x ∈ l, x ∈ ds) → unE vs env = unE vs E → acc.length + l.length ≤ 16777216 → ∃ env', Rn (lcGo vs k t f acc l) ⟨src, env⟩ (acc ++ (l.filter p).map w) ⟨src, env'⟩ ∧ unE vs env' = unE vs E := by
    intro l
    induction l with
    | nil => intro acc env _ hu _; exact ⟨env, by rw [List.filter_nil, List.map_nil, List.append_nil]; exact rn_pure, hu⟩
    | cons x l ih =>
      intro acc env hm hu hn
      have hn' : acc.length + (l.length + 1) ≤ 16777216 := hn
      have hx := hm x List.mem_cons_self
      cases hp : p x with
      | true =>
        obtain ⟨env', r, hu'⟩ := ih (acc ++ [w x]) (B x) (fun y hy => hm y (List.mem_cons_of_mem _ hy)) (hB x hx) (by rw [List.length_append]; show acc.length + 1 + l.length ≤ _; omega)
        refine ⟨env', ?_, hu'⟩
        rw [List.filter_cons_of_pos hp, List.map_cons, show acc ++ w x :: (l.filter p).map w = acc ++ [w x] ++ (l.filter p).map w by simp]
        refine rn_bind (s1 := ⟨src, unE vs E⟩) (by show some _ = some _; rw [hu]) (rn_bind (hg x hx) (rn_bind (ht x hx) ?_))
        rw [hp, if_pos rfl]
        refine rn_bind (hf x hx hp) ?_
        rw [if_pos (by omega)]
        exact r
      | false =>
        obtain ⟨env', r, hu'⟩ := ih acc (B x) (fun y hy => hm y (List.mem_cons_of_mem _ hy)) (hB x hx) (by omega)
        refine ⟨env', ?_, hu'⟩
        rw [List.filter_cons_of_neg (by rw [hp]; simp)]
        refine rn_bind (s1 := ⟨src, unE vs E⟩) (by show some _ = some _; rw [hu]) (rn_bind (hg x hx) (rn_bind (ht x hx) ?_))
        rw [hp, if_neg Bool.false_ne_true]
        exact r
  obtain ⟨env', r, hu⟩ := go ds [] E (fun x hx => hx) rfl (by simpa using hl)
  refine rn_bind hfi (rn_bind (s1 := ⟨src, E⟩) rfl (rn_bind (a := (ds.filter p).map w) (by simpa using r) (rn_bind (s1 := ⟨src, E⟩) (a := ()) ?_ rn_pure)))
  show some _ = some _
  rw [hu, hE]
theorem rn_spoil {it js : Nat} {f1 f2 f3 : M (List D)} {tc : M Bool} {fr : M D} {g : M Out} {d1 d2 d3 : List D} (h1 : Rn f1 s d1 s) (h2 : Rn f2 s d2 s) (h3 : Rn f3 s d3 s) (hl : d1.length < 1000 ∧ d2.length < 1000 ∧ d3.length < 1000) (hi : it < s.env.length) (hj : js < s.env.length) (hij : it ≠ js) (ho : s.env.all (fun c => !c.own) = true)
    (ht : Rn tc ⟨s.src, s.env.set it (.im (.list [.list d1, .list d2, .list d3]))⟩ false s1) (hg : Rn g ⟨s.src, (s.env.set it .un).set js .un⟩ o s2) : Rn (gSpoil it js f1 f2 f3 tc fr g) s o s2 := by
  unfold Rn gSpoil
  rw [show f1 s = _ from h1, show f2 s = _ from h2, show f3 s = _ from h3]
  dsimp only
  rw [if_pos ⟨hl, hi, hj, hij, ho⟩, show tc _ = _ from ht]
  exact hg
theorem rn_drop (h1 : Rn f s d s1) : Rn (gDrop f) s .nx s1 := rn_bind h1 rn_pure
theorem runB_of {d : D} {z : S} (h : Rn p ⟨⟨[], 0, 0, 0⟩, envB n ds⟩ (.rt d) z) : runB n p ds = some d := by
  unfold runB
  have h' : p ⟨⟨[], 0, 0, 0⟩, ds.map Cl.im ++ List.replicate (n - ds.length) .un⟩ = some (.rt d, z) := h
  rw [h']
theorem runS_of {d : D} {z : S} {src : Src} (h : Rn p ⟨src, .sr :: envB (n - 1) ds⟩ (.rt d) z) : runS n p src ds = some (d, z.src) := by
  unfold runS
  rw [show p _ = _ from h]
theorem runN_of {es : List D} {z : S} (h : Rn fs ⟨⟨[], 0, 0, 0⟩, envB n ds⟩ es z) : runN n fs ds = some es := by
  unfold runN
  rw [show fs _ = _ from h]
  rfl
end
end Dl

set_option Elab.async false
set_option linter.all false
set_option maxRecDepth 100000
set_option maxHeartbeats 2000000
/-! M19a: barriers: what the defs answer. -/
namespace Dl
open PySem PySem.Spec PyProof.Rows L2
theorem inA_t {neg : Bool} {c : D} {es : List D} (hc : SeqAt.shaped c = true) (hs : SeqAt.shaped (.tuple es) = true) : φInA neg c (.tuple es) = some (.bool (if neg then !(es.any fun e => PyData.eqv e c) else es.any fun e => PyData.eqv e c)) := by
  unfold φInA
  dsimp only
  rw [hc, hs]; rfl
theorem inA_l {neg : Bool} {c : D} {es : List D} (hc : SeqAt.shaped c = true) (hs : SeqAt.shaped (.list es) = true) : φInA neg c (.list es) = some (.bool (if neg then !(es.any fun e => PyData.eqv e c) else es.any fun e => PyData.eqv e c)) := by
  unfold φInA
  dsimp only
  rw [hc, hs]; rfl
/-! ### channels -/
def chan (k : Nat) : D := .tuple [.tuple [.str "a", .int (k : Int)], .int (((k : Int)).fdiv 3), .tuple [.str "b", .int 0]]
theorem ni_lit {x : Str} (h1 : PyData.canLay0 (.str x) = true) (h2 : x.cps.size ≤ 40) (h3 : PyData.strOk (PyData.shown (.str x)) = true) : Ni 0 40 (.str x) := ⟨h1, Nat.le_refl _, h2, rfl, rfl, h3⟩
theorem ni_a : Ni 0 40 (.str "a") := ni_lit (by decide +kernel) (by decide +kernel) (by decide +kernel)
theorem ni_b : Ni 0 40 (.str "b") := ni_lit (by decide +kernel) (by decide +kernel) (by decide +kernel)
theorem fdiv3 {k : Nat} : ((k : Int)).fdiv 3 = ((k / 3 : Nat) : Int) := by
  rw [Int.fdiv_eq_ediv_of_nonneg _ (by decide)]
  rfl
theorem all2 {α : Type} {P : α → Prop} {a b : α} (h1 : P a) (h2 : P b) : ∀ x ∈ [a, b], P x := by
  intro x hx
  simp only [List.mem_cons, List.not_mem_nil, or_false] at hx
  rcases hx with rfl | rfl <;> assumption
theorem all3 {α : Type} {P : α → Prop} {a b c : α} (h1 : P a) (h2 : P b) (h3 : P c) : ∀ x ∈ [a, b, c], P x := by
  intro x hx
  simp only [List.mem_cons, List.not_mem_nil, or_false] at hx
  rcases hx with rfl | rfl | rfl <;> assumption
theorem all1 {α : Type} {P : α → Prop} {a : α} (h1 : P a) : ∀ x ∈ [a], P x := by
  intro x hx
  simp only [List.mem_cons, List.not_mem_nil, or_false] at hx
  subst hx; assumption
theorem ni_chan {k : Nat} (h : k < 100) : Ni 2 300 (chan k) := by
  have h1 : Ni 1 82 (.tuple [.str "a", .int (k : Int)]) := ni_tup (n := 2) (all2 ni_a (ni_int (by omega) (by omega))) (Nat.le_refl _)
  have h2 : Ni 1 82 (.tuple [.str "b", .int 0]) := ni_tup (n := 2) (all2 ni_b (ni_int (by omega) (by omega))) (Nat.le_refl _)
  have h3 : Ni 0 40 (.int (((k : Int)).fdiv 3)) := by rw [fdiv3]; exact ni_int (by omega) (by omega)
  exact (ni_tup (n := 3) (all3 h1 (h3.mono (Nat.zero_le _) (by decide)) h2) (Nat.le_refl _)).mono (Nat.le_refl _) (by decide)
theorem eqv_chan {j k : Nat} : PyData.eqv (chan j) (chan k) = decide (j = k) := by
  unfold chan
  simp only [PyData.eqv, PyData.eqvAll]
  by_cases h : j = k
  · subst h; simp
  · have : ((j : Int) == (k : Int)) = false := by simp; omega
    simp [this, h]
theorem alike_chan {j k : Nat} : PySem.W.alike (chan j) (chan k) = true := by
  unfold chan
  simp [PySem.W.alike, PySem.W.alikeAll]
def IsCh (c : D) : Prop := ∃ k : Nat, k < 6 ∧ c = chan k
theorem IsCh.ni {c : D} (h : IsCh c) : Ni 2 300 c := by
  obtain ⟨k, hk, rfl⟩ := h
  exact ni_chan (by omega)
theorem IsCh.eqv {c d : D} (h : IsCh c) (h' : IsCh d) : PyData.eqv c d = true ↔ c = d := by
  obtain ⟨j, hj, rfl⟩ := h
  obtain ⟨k, hk, rfl⟩ := h'
  constructor
  · intro e
    rw [eqv_chan, decide_eq_true_eq] at e
    rw [e]
  · intro e
    rw [e, eqv_chan, decide_eq_true_eq]
theorem any_ch {es : List D} {c : D} (h : ∀ e ∈ es, IsCh e) (hc : IsCh c) : (es.any fun e => PyData.eqv e c) = true ↔ c ∈ es := by
  rw [List.any_eq_true]
  constructor
  · rintro ⟨e, he, hq⟩
    rw [((h e he).eqv hc).mp hq] at he
    exact he
  · intro hm
    exact ⟨c, hm, (hc.eqv hc).mpr rfl⟩
/-- a list of channels -/
structure Chs (ds : List D) : Prop where
  all : ∀ c ∈ ds, IsCh c
  nd : ds.Nodup
  len : ds.length ≤ 6
theorem Chs.perm {ds es : List D} (h : Chs ds) (p : ds.Perm es) : Chs es :=
  ⟨fun c hc => h.all c (p.mem_iff.mpr hc), p.nodup_iff.mp h.nd, by rw [← p.length_eq]; exact h.len⟩
theorem Chs.ni {ds : List D} (h : Chs ds) : Ni 3 1806 (.list ds) := ni_list (fun d hd => (h.all d hd).ni) h.len
theorem Chs.niT {ds : List D} (h : Chs ds) : Ni 3 1806 (.tuple ds) := ni_tup (fun d hd => (h.all d hd).ni) h.len
theorem Chs.sort {ds : List D} (h : Chs ds) : okSort ds = true := by
  unfold okSort
  simp only [Bool.and_eq_true, Bool.or_eq_true, List.all_eq_true, decide_eq_true_eq]
  refine ⟨⟨⟨fun c hc d hd => ?_, .inl fun c hc => ?_⟩, fun c hc => ?_⟩, ?_⟩
  · obtain ⟨j, hj, rfl⟩ := h.all c hc
    obtain ⟨k, hk, rfl⟩ := h.all d hd
    exact alike_chan
  · obtain ⟨j, hj, rfl⟩ := h.all c hc
    rfl
  · exact Nat.le_trans (h.all c hc).ni.dep (by decide)
  · exact Nat.le_trans h.len (by decide)
/-! ### the draw -/
theorem pick_range {s : Src} {m : Int} (h : 1 ≤ m) : 0 ≤ (pickS s m).1 ∧ (pickS s m).1 < m := by
  unfold pickS
  split
  · exact ⟨Int.le_refl _, by show (0 : Int) < m; omega⟩
  · dsimp only
    split
    · exact ⟨Int.fmod_nonneg_of_pos _ (by omega), Int.fmod_lt_of_pos _ (by omega)⟩
    · exact ⟨Int.fmod_nonneg_of_pos _ (by omega), Int.fmod_lt_of_pos _ (by omega)⟩
theorem pick_ok {s : Src} {m : Nat} (h : 1 ≤ m) (h2 : m < 1000000) : ∃ (r : Nat) (s' : Src), φ__law_pick s [.int (m : Int)] = some (.int (r : Int), s') ∧ r < m := by
  obtain ⟨h3, h4⟩ := pick_range (s := s) (m := (m : Int)) (by omega)
  refine ⟨(pickS s m).1.toNat, (pickS s m).2, ?_, by omega⟩
  show (if (m : Int) < 1073741824 then _ else none) = _
  rw [if_pos (by omega), Int.toNat_of_nonneg h3]
theorem popIt_ok {xs : List D} {r : Nat} (h : r < xs.length) (h2 : xs.length < 1000000) : popIt (.int (r : Int)) xs = some (xs[r], xs.eraseIdx r) := by
  unfold popIt
  dsimp only
  rw [if_pos (show small63 (r : Int) = true from decide_eq_true (by constructor <;> omega))]
  have e : seqIndex? (r : Int) xs.length = some r := by
    unfold seqIndex?
    have e1 : ¬ ((r : Int) < 0) := by omega
    simp only [if_neg e1]
    rw [if_pos (by simp; omega)]
    rfl
  rw [e]
  show (xs[r]?).map _ = _
  rw [List.getElem?_eq_getElem h]
  rfl
theorem rn_getO {i : Nat} {z : S} {ds : List D} (h : z.env[i]? = some (.ow ds)) : Rn (getO i) z ds z := by
  unfold Rn getO
  rw [h]
theorem rn_lenO {i : Nat} {z : S} {ds : List D} (h : z.env[i]? = some (.ow ds)) : Rn (fLenO i) z (.int (ds.length : Int)) z := rn_bind (rn_getO h) rn_pure
theorem erase_perm {xs : List D} {r : Nat} (h : r < xs.length) : xs.Perm (xs[r] :: xs.eraseIdx r) := by
  have e : xs = xs.take r ++ xs[r] :: xs.drop (r + 1) := by
    rw [← List.drop_eq_getElem_cons h, List.take_append_drop]
  rw [List.eraseIdx_eq_take_drop_succ]
  exact (List.Perm.of_eq e).trans List.perm_middle
abbrev popG : M D := fPopAt 2 (fCallS 0 1 φ__law_pick (fCons (fLenO 2) (pure [])))
theorem order_go (a : D) : ∀ (l acc xs : List D) (src : Src) (e3 : Cl), l.length = xs.length → acc.length + l.length < 1000000 →
    ∃ ys src' e3', Rn (lcGo [3] (gName' 3) (pure true) popG acc l) ⟨src, [.sr, .im a, .ow xs, e3]⟩ (acc ++ ys) ⟨src', [.sr, .im a, .ow [], e3']⟩ ∧ xs.Perm ys
  | [], acc, xs, src, e3, hl, _ => by
    have : xs = [] := List.length_eq_zero_iff.mp hl.symm
    subst this
    exact ⟨[], src, e3, by rw [List.append_nil]; exact rn_pure, .refl _⟩
  | d :: l, acc, xs, src, e3, hl, hn => by
    have hl' : l.length + 1 = xs.length := hl
    have hn' : acc.length + (l.length + 1) < 1000000 := hn
    obtain ⟨r, src1, hp, hr⟩ := pick_ok (s := src) (m := xs.length) (by omega) (by omega)
    obtain ⟨ys, src', e3', h1, h2⟩ := order_go a l (acc ++ [xs[r]]) (xs.eraseIdx r) src1 (.im d) (by rw [List.length_eraseIdx_of_lt hr]; omega) (by rw [List.length_append]; show acc.length + 1 + l.length < _; omega)
    refine ⟨xs[r] :: ys, src', e3', ?_, (erase_perm hr).trans (h2.cons _)⟩
    have pop : Rn popG ⟨src, [.sr, .im a, .ow xs, .im d]⟩ xs[r] ⟨src1, [.sr, .im a, .ow (xs.eraseIdx r), .im d]⟩ :=
      rn_bind (rn_getO rfl) (rn_bind (rn_callS (s1 := ⟨src, [.sr, .im a, .ow xs, .im d]⟩) rfl (rn_cons (rn_lenO rfl) rn_pure) rfl hp) (rn_bind (rn_getO rfl) (rn_bind (rn_lift (popIt_ok hr (by omega))) (rn_bind (rn_setC (by show 2 < 4; decide)) rn_pure))))
    refine rn_bind (s1 := ⟨src, [.sr, .im a, .ow xs, .un]⟩) rfl (rn_bind (s1 := ⟨src, [.sr, .im a, .ow xs, .im d]⟩) (rn_name (by show 3 < 4; decide)) (rn_bind (a := true) rfl ?_))
    rw [if_pos rfl]
    refine rn_bind pop ?_
    rw [if_pos (by omega), show acc ++ xs[r] :: ys = acc ++ [xs[r]] ++ ys by simp]
    exact h1
theorem rangeD_len {n : Nat} : (rangeD 0 n).length = n := by simp [rangeD]
theorem range1_ok {n : Nat} (h : n < 1000000) : range1 (.int (n : Int)) = some (rangeD 0 n) := by
  unfold range1
  dsimp only
  rw [if_pos (show small62 (n : Int) = true from decide_eq_true (by constructor <;> omega))]
  rfl
theorem order_ok {src : Src} {x : D} {xs : List D} (hx : x = .list xs ∨ x = .tuple xs) (h : xs.length < 1000000) : ∃ ys src', φ__law_any_order src [x] = some (.list ys, src') ∧ xs.Perm ys := by
  obtain ⟨ys, src', e3', h1, h2⟩ := order_go x (rangeD 0 xs.length) [] xs src .un (by rw [rangeD_len]) (by rw [rangeD_len]; simpa using h)
  refine ⟨ys, src', ?_, h2⟩
  have hl : φListA [x] = some xs := by
    rcases hx with rfl | rfl <;> rfl
  refine runS_of (z := ⟨src', backE [3] [.sr, .im x, .ow xs, .un] (unE [3] [.sr, .im x, .ow [], e3'])⟩) ?_
  refine rn_seq (s1 := ⟨src, [.sr, .im x, .ow xs, .un]⟩) (rn_own (rn_fl (rn_cons (rn_v rfl) rn_pure) hl) (by show 2 < 4; decide)) (rn_ret (rn_fr ?_))
  exact rn_bind (rn_rng (rn_lenO rfl) (range1_ok h)) (rn_bind (s1 := ⟨src, [.sr, .im x, .ow xs, .un]⟩) rfl (rn_bind h1 (rn_bind (a := ()) rfl rn_pure)))
end Dl

set_option Elab.async false
set_option linter.all false
set_option maxRecDepth 100000
set_option maxHeartbeats 2000000
/-! M19b: barriers: is_held, free_channels, numbers_left, come, what is refused. -/
namespace Dl
open PySem PySem.Spec PyProof.Rows L2
def wD (n : Int) : List D → D
  | [] => .none
  | c :: cs => .tuple [.int n, .tuple (c :: cs)]
def held (came : List D) (c : D) : Bool := came.any fun e => PyData.eqv e c
theorem held_iff {came : List D} {c : D} (h : ∀ e ∈ came, IsCh e) (hc : IsCh c) : held came c = true ↔ c ∈ came := any_ch h hc
theorem held_false {came : List D} {c : D} (h : ∀ e ∈ came, IsCh e) (hc : IsCh c) (hn : c ∉ came) : held came c = false := by
  cases e : held came c with
  | true => exact absurd ((held_iff h hc).mp e) hn
  | false => rfl
theorem is_held_ok {n : Int} {came : List D} {c : D} (h : Chs came) (hc : IsCh c) : φ_is_held [wD n came, c] = some (.bool (held came c)) := by
  cases came with
  | nil => exact runB_of (rn_ret (rn_andv_f (rn_bin (rn_v rfl) rn_c rfl)))
  | cons x xs => exact runB_of (rn_ret (rn_andv_t (rn_bin (rn_v rfl) rn_c rfl) (rn_bin (rn_v rfl) (rn_bin (rn_v rfl) rn_c rfl) (inA_t (hc.ni.shaped (by decide)) (h.niT.shaped (by decide))))))
def IsSeq (x : D) (ds : List D) : Prop := x = .list ds ∨ x = .tuple ds
theorem IsSeq.items {x : D} {ds : List D} (h : IsSeq x ds) : itemsOf x = some ds := by
  rcases h with rfl | rfl <;> rfl
theorem IsSeq.len {x : D} {ds : List D} (h : IsSeq x ds) : φLen [x] = some (.int (ds.length : Int)) := by
  rcases h with rfl | rfl <;> rfl
def freeOf (came ds : List D) : List D := ds.filter fun c => !held came c
theorem free_lc {n : Int} {came ds : List D} {x : D} {src : Src} (h : Chs came) (hx : IsSeq x ds) (hd : Chs ds) : Rn gN_free_channels.1 ⟨src, [.im (wD n came), .im x, .un]⟩ (freeOf came ds) ⟨src, [.im (wD n came), .im x, .un]⟩ := by
  have := rn_lc (vs := [2]) (fi := fSeq (fVar 1)) (k := gName' 2) (t := fNot (fBool (fCall 2 φ_is_held (fCons (fVar 0) (fCons (fVar 2) (pure [])))))) (f := fVar 2) (ds := ds) (src := src) (E := [.im (wD n came), .im x, .un]) (fun c => [.im (wD n came), .im x, .im c]) (fun c => !held came c) (fun c => c)
    (rn_items (rn_v rfl) hx.items) (fun c _ => rfl) (fun c _ => rn_name (by show 2 < 3; decide)) (fun c hc => rn_not (rn_bool (rn_call (rn_cons (rn_v rfl) (rn_cons (rn_v rfl) rn_pure)) rfl (is_held_ok h (hd.all c hc))))) (fun c _ _ => rn_v rfl) (Nat.le_trans hd.len (by decide)) rfl
  rw [List.map_id'] at this
  exact this
theorem freeN_ok {n : Int} {came ds : List D} {x : D} (h : Chs came) (hx : IsSeq x ds) (hd : Chs ds) : φN_free_channels [wD n came, x] = some (freeOf came ds) := runN_of (free_lc h hx hd)
theorem leftN_ok {n : Int} {came ds : List D} {x : D} (h : Chs came) (hx : IsSeq x ds) (hd : Chs ds) : φN_numbers_left [wD n came, x] = some (if came = [] then [] else freeOf came ds) := by
  cases came with
  | nil =>
    rw [if_pos rfl]
    exact runN_of (rn_ifNt (rn_bool (rn_bin (rn_v rfl) rn_c rfl)) (rn_lst rn_pure (by decide)))
  | cons c cs => exact runN_of (rn_ifNf (rn_bool (rn_bin (rn_v rfl) rn_c rfl)) (rn_callN (rn_cons (rn_v rfl) (rn_cons (rn_v rfl) rn_pure)) rfl (freeN_ok h hx hd)))
theorem ne_int {n : Int} : φNe (.int n) (.int n) = some (.bool false) := by
  show some (PyData.bool (!(n == n))) = _
  rw [beq_self_eq_true]; rfl
theorem ne_int2 {n m : Int} (h : n ≠ m) : φNe (.int n) (.int m) = some (.bool true) := by
  show some (PyData.bool (!(n == m))) = _
  rw [beq_false_of_ne h]; rfl
theorem eq_int {n m : Int} : φEq (.int n) (.int m) = some (.bool (n == m)) := rfl
def dueD (n : Int) (here : List D) (m : Nat) : D := if here.length = m then .tuple [.none, .bool true] else .tuple [.tuple [.int n, .tuple here], .bool false]
theorem sort_one {c : D} : sortD [c] = [c] := List.mergeSort_singleton c
theorem come_end {n : Int} {here ds : List D} {x : D} {src : Src} {a c : D} (hx : IsSeq x ds) : Rn (gRet
    (fIfE (fBool (fBin φEq (fFn φLen (fCons (fVar 4) (pure []))) (fFn φLen (fCons (fVar 1) (pure [])))))
      (fTup (fCons (fC PyData.none) (fCons (fC (PyData.bool true)) (pure []))))
      (fTup (fCons (fTup (fCons (fVar 3) (fCons (fVar 4) (pure [])))) (fCons (fC (PyData.bool false)) (pure [])))))) ⟨src, [.im a, .im x, .im c, .im (.int n), .im (.tuple here)]⟩ (.rt (dueD n here ds.length)) ⟨src, [.im a, .im x, .im c, .im (.int n), .im (.tuple here)]⟩ := by
  have t : Rn (fBool (fBin φEq (fFn φLen (fCons (fVar 4) (pure []))) (fFn φLen (fCons (fVar 1) (pure []))))) ⟨src, [.im a, .im x, .im c, .im (.int n), .im (.tuple here)]⟩ ((here.length : Int) == (ds.length : Int)) ⟨src, [.im a, .im x, .im c, .im (.int n), .im (.tuple here)]⟩ :=
    rn_bool (rn_bin (rn_fn (rn_cons (rn_v rfl) rn_pure) rfl) (rn_fn (rn_cons (rn_v rfl) rn_pure) hx.len) eq_int)
  unfold dueD
  by_cases e : here.length = ds.length
  · rw [if_pos e]
    rw [show ((here.length : Int) == (ds.length : Int)) = true by rw [e]; exact beq_self_eq_true _] at t
    exact rn_ret (rn_ift t (rn_tup (rn_cons rn_c (rn_cons rn_c rn_pure)) (by decide)))
  · rw [if_neg e]
    rw [show ((here.length : Int) == (ds.length : Int)) = false from beq_false_of_ne (by omega)] at t
    exact rn_ret (rn_iff t (rn_tup (rn_cons (rn_tup (rn_cons (rn_v rfl) (rn_cons (rn_v rfl) rn_pure)) (by simp)) (rn_cons rn_c rn_pure)) (by simp)))
theorem come_ok {n : Int} {came ds : List D} {x c : D} (h : Chs (came ++ [c])) (hx : IsSeq x ds) : φ_come [wD n came, x, c, .int n] = some (dueD n (sortD (came ++ [c])) ds.length) := by
  have hc : IsCh c := h.all c (by simp)
  have hcm : Chs came := ⟨fun e he => h.all e (by simp [he]), (List.nodup_append.mp h.nd).1, Nat.le_trans (by simp) h.len⟩
  have hn : c ∉ came := fun hm => by
    have := (List.nodup_append.mp h.nd).2.2 c hm c (by simp)
    exact this rfl
  have hf := is_held_ok (n := n) hcm hc
  rw [held_false hcm.all hc hn] at hf
  cases came with
  | nil =>
    rw [List.nil_append, sort_one]
    exact runB_of (rn_seq (rn_siff (rn_or_f (rn_bool (rn_call (rn_cons (rn_v rfl) (rn_cons (rn_v rfl) rn_pure)) rfl hf)) (rn_and_f (rn_bool (rn_bin (rn_v rfl) rn_c rfl)))) rn_pure) (rn_seq (rn_set (rn_ift (rn_bool (rn_bin (rn_v rfl) rn_c rfl)) (rn_tup (rn_cons (rn_v rfl) rn_pure) (by simp))) (by show 4 < 5; decide)) (come_end hx)))
  | cons a as =>
    have ha : φAdd (.tuple (a :: as)) (.tuple [c]) = some (.tuple (a :: as ++ [c])) := by
      show (if (a :: as).length + 1 ≤ 16777216 then _ else none) = _
      rw [if_pos (Nat.le_trans (by have := h.len; rw [List.length_append] at this; exact this) (by decide))]
    have hs : φSort [.tuple (a :: as ++ [c])] = some (sortD (a :: as ++ [c])) := by
      show (if okSort _ = true then _ else none) = _
      rw [if_pos h.sort]
    exact runB_of (rn_seq (rn_siff (rn_or_f (rn_bool (rn_call (rn_cons (rn_v rfl) (rn_cons (rn_v rfl) rn_pure)) rfl hf)) (rn_and_t (rn_bool (rn_bin (rn_v rfl) rn_c rfl)) (rn_bool (rn_bin (rn_bin (rn_v rfl) rn_c rfl) (rn_v rfl) ne_int)))) rn_pure) (rn_seq (rn_set (rn_iff (rn_bool (rn_bin (rn_v rfl) rn_c rfl)) (rn_fn (rn_cons (rn_fr (rn_fl (rn_cons (rn_bin (rn_bin (rn_v rfl) rn_c rfl) (rn_tup (rn_cons (rn_v rfl) rn_pure) (by simp)) ha) rn_pure) hs)) rn_pure) rfl)) (by show 4 < 5; decide)) (come_end hx)))
theorem comeB_of {w x c n : D} {z : S} (h : Rn t_come.1 ⟨⟨[], 0, 0, 0⟩, envB 5 [w, x, c, n]⟩ true z) : comeB w x c n = true := by
  unfold comeB
  rw [show t_come.1 _ = _ from h]
theorem barred_of {w x c : D} {n : Int} (h : comeB w x c (.int n) = true) (h1 : -1000000 ≤ n) (h2 : n ≤ 1000000) : φ__law_barred [w, x, c, .int n] = some (.list [.int n]) := by
  have := (ni_int (i := n) (by omega) (by omega)).can
  exact if_pos ⟨h, of_decide_eq_true this⟩
theorem barred_held {n : Int} {came : List D} {x c : D} (h : Chs came) (hc : c ∈ came) (h1 : -1000000 ≤ n) (h2 : n ≤ 1000000) : φ__law_barred [wD n came, x, c, .int n] = some (.list [.int n]) := by
  have hf := is_held_ok (n := n) h (h.all c hc)
  rw [(held_iff h.all (h.all c hc)).mpr hc] at hf
  exact barred_of (comeB_of (rn_or_t (rn_bool (rn_call (rn_cons (rn_v rfl) (rn_cons (rn_v rfl) rn_pure)) rfl hf)))) h1 h2
theorem barred_late {n m : Int} {came : List D} {x c : D} (h : Chs came) (hne : came ≠ []) (hc : IsCh c) (hm : n ≠ m) (h1 : -1000000 ≤ m) (h2 : m ≤ 1000000) : φ__law_barred [wD n came, x, c, .int m] = some (.list [.int m]) := by
  refine barred_of ?_ h1 h2
  have hf := is_held_ok (n := n) h hc
  cases e : held came c with
  | true =>
    rw [e] at hf
    exact comeB_of (rn_or_t (rn_bool (rn_call (rn_cons (rn_v rfl) (rn_cons (rn_v rfl) rn_pure)) rfl hf)))
  | false =>
    rw [e] at hf
    cases came with
    | nil => exact absurd rfl hne
    | cons a as => exact comeB_of (rn_or_f (rn_bool (rn_call (rn_cons (rn_v rfl) (rn_cons (rn_v rfl) rn_pure)) rfl hf)) (rn_and_t (rn_bool (rn_bin (rn_v rfl) rn_c rfl)) (rn_bool (rn_bin (rn_bin (rn_v rfl) rn_c rfl) (rn_v rfl) (ne_int2 hm)))))
end Dl

set_option Elab.async false
set_option linter.all false
set_option maxRecDepth 100000
set_option maxHeartbeats 2000000
/-! M19c: barriers come on all inputs: one turn, row by row. -/
namespace Dl
open PySem PySem.Spec PyProof.Rows L2
abbrev W16 (chs lap w n c came told some late later due free shown : Cl) : List Cl := [.sr, chs, lap, w, n, c, came, told, some, late, later, due, .un, free, shown, .un]
section
variable {s s1 s2 : S} {d : D} {A B : M D} {k w : Nat}
theorem rn_repr (hA : Rn A s d s1) (hn : Ni k w d) (hk : k ≤ 64) (hw : w ≤ 2 ^ 20) : Rn (fFn φRepr (fCons A (pure []))) s (.str d.shown) s1 := rn_fn (rn_cons hA rn_pure) (hn.repr hk hw)
theorem rn_ne2 (hA : Rn A s (.str d.shown) s1) (hB : Rn B s1 (.str d.shown) s2) (hn : Ni k w d) : Rn (fBool (fBin φNe A B)) s false s2 := rn_bool (rn_bin hA hB (ne_str hn.sok))
end
section
variable {src : Src} {n : Int} {ds came : List D} {c : D} {l1 l2 l3 l4 l5 l6 l7 l8 l9 l10 l11 l13 l14 : Cl}
theorem ni_wD (h : Chs came) (h1 : -1000 ≤ n) (h2 : n ≤ 1000) : Ni 4 3614 (wD n came) := by
  cases came with
  | nil => exact ni_none.mono (by decide) (by decide)
  | cons a as => exact ni_tup (n := 2) (all2 ((ni_int (by omega) (by omega)).mono (Nat.zero_le 3) (by decide)) h.niT) (Nat.le_refl _)
theorem ni_wc (h : Chs came) (hd : Chs ds) (h1 : -1000 ≤ n) (h2 : n ≤ 1000) : Ni 5 7230 (.list [wD n came, .list ds]) := ni_list (n := 2) (all2 (ni_wD h h1 h2) (hd.ni.mono (by decide) (by decide))) (Nat.le_refl _)
theorem free_chs (hd : Chs ds) : Chs (freeOf came ds) := ⟨fun c hc => hd.all c (List.mem_filter.mp hc).1, hd.nd.filter _, Nat.le_trans (List.length_filter_le _ _) hd.len⟩
theorem reprWC (h : Chs came) (hd : Chs ds) (h1 : -1000 ≤ n) (h2 : n ≤ 1000) : Rn (fFn φRepr (fCons (fFr (fLst (fCons (fVar 3) (fCons (fVar 1) (pure []))))) (pure []))) ⟨src, W16 (.im (.list ds)) l2 (.im (wD n came)) l4 l5 l6 l7 l8 l9 l10 l11 l13 l14⟩ (.str (PyData.shown (.list [wD n came, .list ds]))) ⟨src, W16 (.im (.list ds)) l2 (.im (wD n came)) l4 l5 l6 l7 l8 l9 l10 l11 l13 l14⟩ :=
  rn_repr (rn_fr (rn_lst (rn_cons (rn_v rfl) (rn_cons (rn_v rfl) rn_pure)) (by simp))) (ni_wc h hd h1 h2) (by decide) (by decide)
abbrev pA : M Out := gPar 13 14 (fFr (fLc [15] (fSeq (fVar 1)) (gName' 15) (fBool (fBin (φInA true) (fVar 15) (fVar 6))) (fVar 15))) (fFn φRepr (fCons (fFr (fLst (fCons (fVar 3) (fCons (fVar 1) (pure []))))) (pure [])))
theorem pA_ok (h : Chs came) (hd : Chs ds) (h1 : -1000 ≤ n) (h2 : n ≤ 1000) : Rn pA ⟨src, W16 (.im (.list ds)) l2 (.im (wD n came)) l4 l5 (.im (.list came)) l7 l8 l9 l10 l11 l13 l14⟩ .nx ⟨src, W16 (.im (.list ds)) l2 (.im (wD n came)) l4 l5 (.im (.list came)) l7 l8 l9 l10 l11 (.im (.list (freeOf came ds))) (.im (.str (PyData.shown (.list [wD n came, .list ds]))))⟩ := by
  have lc := rn_lc (s := ⟨src, W16 (.im (.list ds)) l2 (.im (wD n came)) l4 l5 (.im (.list came)) l7 l8 l9 l10 l11 l13 l14⟩) (vs := [15]) (fi := fSeq (fVar 1)) (k := gName' 15) (t := fBool (fBin (φInA true) (fVar 15) (fVar 6))) (f := fVar 15) (ds := ds) (src := src) (E := W16 (.im (.list ds)) l2 (.im (wD n came)) l4 l5 (.im (.list came)) l7 l8 l9 l10 l11 l13 l14)
    (fun x => [.sr, .im (.list ds), l2, .im (wD n came), l4, l5, .im (.list came), l7, l8, l9, l10, l11, .un, l13, l14, .im x]) (fun x => !held came x) (fun x => x)
    (rn_items (rn_v rfl) rfl) (fun c _ => rfl) (fun c _ => rn_name (by show 15 < 16; decide)) (fun c hc => rn_bool (rn_bin (rn_v rfl) (rn_v rfl) (inA_l ((hd.all c hc).ni.shaped (by decide)) (h.ni.shaped (by decide))))) (fun c _ _ => rn_v rfl) (Nat.le_trans hd.len (by decide)) rfl
  rw [List.map_id'] at lc
  exact rn_par (rn_fr lc) (reprWC h hd h1 h2) (by show 13 < 16; decide) (by show 14 < 16; decide)
theorem ne_nil (h : Chs came) : φNe (.list came) (.list []) = some (.bool (!came.isEmpty)) := by
  cases came with
  | nil => rfl
  | cons a as => exact ne_ok h.ni (ni_list (k := 0) (w := 0) (n := 0) (fun _ hd => by cases hd) (Nat.le_refl _)) (by decide) (by decide)
/-- what the text says of the told lists -/
def told (came ds : List D) : D := .list [.list (freeOf came ds), .list (if came = [] then [] else freeOf came ds), .list (freeOf came ds)]
theorem ni_told (hd : Chs ds) : Ni 4 5421 (told came ds) := by
  refine ni_list (n := 3) (all3 (free_chs hd).ni ?_ (free_chs hd).ni) (Nat.le_refl _)
  split
  · exact (ni_list (k := 0) (w := 0) (n := 0) (fun _ hd => by cases hd) (Nat.le_refl _)).mono (by decide) (by decide)
  · exact (free_chs hd).ni
abbrev tB : M Bool := fBool (fBin φNe (fFn φRepr (fCons (fVar 7) (pure []))) (fFn φRepr (fCons (fFr (fLst (fCons (fVar 13) (fCons (fIfE (fBool (fBin φNe (fVar 6) (fFr (fLst (pure []))))) (fVar 13) (fFr (fLst (pure [])))) (fCons (fVar 13) (pure [])))))) (pure []))))
theorem tB_ok (h : Chs came) (hd : Chs ds) : Rn tB ⟨src, W16 l1 l2 l3 l4 l5 (.im (.list came)) (.im (told came ds)) l8 l9 l10 l11 (.im (.list (freeOf came ds))) l14⟩ false ⟨src, W16 l1 l2 l3 l4 l5 (.im (.list came)) (.im (told came ds)) l8 l9 l10 l11 (.im (.list (freeOf came ds))) l14⟩ := by
  have e : Rn (fIfE (fBool (fBin φNe (fVar 6) (fFr (fLst (pure []))))) (fVar 13) (fFr (fLst (pure [])))) ⟨src, W16 l1 l2 l3 l4 l5 (.im (.list came)) (.im (told came ds)) l8 l9 l10 l11 (.im (.list (freeOf came ds))) l14⟩ (.list (if came = [] then [] else freeOf came ds)) ⟨src, W16 l1 l2 l3 l4 l5 (.im (.list came)) (.im (told came ds)) l8 l9 l10 l11 (.im (.list (freeOf came ds))) l14⟩ := by
    have t := rn_bool (rn_bin (s := ⟨src, W16 l1 l2 l3 l4 l5 (.im (.list came)) (.im (told came ds)) l8 l9 l10 l11 (.im (.list (freeOf came ds))) l14⟩) (f := fVar 6) (rn_v rfl) (rn_fr (rn_lst (fs := pure []) rn_pure (by simp))) (ne_nil h))
    cases came with
    | nil => exact rn_iff t (rn_fr (rn_lst rn_pure (by simp)))
    | cons a as => exact rn_ift t (rn_v rfl)
  exact rn_ne2 (rn_repr (rn_v rfl) (ni_told hd) (by decide) (by decide)) (rn_repr (rn_fr (rn_lst (rn_cons (rn_v rfl) (rn_cons e (rn_cons (rn_v rfl) rn_pure))) (by simp))) (ni_told hd) (by decide) (by decide)) (ni_told hd)
abbrev pC : M Out := gSet 7 (fFr (fLc [15] (fSeq (fVar 1)) (gName' 15) (pure true) (fCall 2 φ_is_held (fCons (fVar 3) (fCons (fVar 15) (pure []))))))
def heldL (came ds : List D) : D := .list (ds.map fun c => .bool (held came c))
theorem ni_heldL (hd : Chs ds) : Ni 1 6 (heldL came ds) := ni_list (k := 0) (w := 0) (n := 6) (fun x hx => by
  obtain ⟨c, _, rfl⟩ := List.mem_map.mp hx
  exact ni_bool) (by rw [List.length_map]; exact hd.len)
theorem filter_tt {ds : List D} {w : D → D} : ((ds.filter fun _ => true).map w) = ds.map w := by rw [List.filter_eq_self.mpr fun _ _ => rfl]
theorem pC_ok (h : Chs came) (hd : Chs ds) : Rn pC ⟨src, W16 (.im (.list ds)) l2 (.im (wD n came)) l4 l5 l6 l7 l8 l9 l10 l11 l13 l14⟩ .nx ⟨src, W16 (.im (.list ds)) l2 (.im (wD n came)) l4 l5 l6 (.im (heldL came ds)) l8 l9 l10 l11 l13 l14⟩ := by
  have lc := rn_lc (s := ⟨src, W16 (.im (.list ds)) l2 (.im (wD n came)) l4 l5 l6 l7 l8 l9 l10 l11 l13 l14⟩) (vs := [15]) (fi := fSeq (fVar 1)) (k := gName' 15) (t := pure true) (f := fCall 2 φ_is_held (fCons (fVar 3) (fCons (fVar 15) (pure [])))) (ds := ds) (src := src) (E := W16 (.im (.list ds)) l2 (.im (wD n came)) l4 l5 l6 l7 l8 l9 l10 l11 l13 l14)
    (fun x => [.sr, .im (.list ds), l2, .im (wD n came), l4, l5, l6, l7, l8, l9, l10, l11, .un, l13, l14, .im x]) (fun _ => true) (fun x => .bool (held came x))
    (rn_items (rn_v rfl) rfl) (fun c _ => rfl) (fun c _ => rn_name (by show 15 < 16; decide)) (fun c hc => rn_pure) (fun c hc _ => rn_call (rn_cons (rn_v rfl) (rn_cons (rn_v rfl) rn_pure)) rfl (is_held_ok h (hd.all c hc))) (Nat.le_trans hd.len (by decide)) rfl
  rw [filter_tt] at lc
  exact rn_set (rn_fr lc) (by show 7 < 16; decide)
abbrev pD : M Out := gIf (fOr (fBool (fBin φNe (fFn φRepr (fCons (fVar 7) (pure []))) (fFn φRepr (fCons (fFr (fLc [15] (fSeq (fVar 1)) (gName' 15) (pure true) (fBin (φInA false) (fVar 15) (fVar 6)))) (pure [])))))
  (fBool (fBin φNe (fFn φRepr (fCons (fFr (fLst (fCons (fVar 3) (fCons (fVar 1) (pure []))))) (pure []))) (fVar 14)))) (gRet (fC (PyData.bool false))) (pure Out.nx)
theorem pD_ok (h : Chs came) (hd : Chs ds) (h1 : -1000 ≤ n) (h2 : n ≤ 1000) : Rn pD ⟨src, W16 (.im (.list ds)) l2 (.im (wD n came)) l4 l5 (.im (.list came)) (.im (heldL came ds)) l8 l9 l10 l11 l13 (.im (.str (PyData.shown (.list [wD n came, .list ds]))))⟩ .nx ⟨src, W16 (.im (.list ds)) l2 (.im (wD n came)) l4 l5 (.im (.list came)) (.im (heldL came ds)) l8 l9 l10 l11 l13 (.im (.str (PyData.shown (.list [wD n came, .list ds]))))⟩ := by
  have lc := rn_lc (s := ⟨src, W16 (.im (.list ds)) l2 (.im (wD n came)) l4 l5 (.im (.list came)) (.im (heldL came ds)) l8 l9 l10 l11 l13 (.im (.str (PyData.shown (.list [wD n came, .list ds]))))⟩) (vs := [15]) (fi := fSeq (fVar 1)) (k := gName' 15) (t := pure true) (f := fBin (φInA false) (fVar 15) (fVar 6)) (ds := ds) (src := src) (E := W16 (.im (.list ds)) l2 (.im (wD n came)) l4 l5 (.im (.list came)) (.im (heldL came ds)) l8 l9 l10 l11 l13 (.im (.str (PyData.shown (.list [wD n came, .list ds])))))
    (fun x => [.sr, .im (.list ds), l2, .im (wD n came), l4, l5, .im (.list came), .im (heldL came ds), l8, l9, l10, l11, .un, l13, .im (.str (PyData.shown (.list [wD n came, .list ds]))), .im x]) (fun _ => true) (fun x => .bool (held came x))
    (rn_items (rn_v rfl) rfl) (fun c _ => rfl) (fun c _ => rn_name (by show 15 < 16; decide)) (fun c hc => rn_pure) (fun c hc _ => rn_bin (rn_v rfl) (rn_v rfl) (inA_l ((hd.all c hc).ni.shaped (by decide)) (h.ni.shaped (by decide)))) (Nat.le_trans hd.len (by decide)) rfl
  rw [filter_tt] at lc
  exact rn_siff (rn_or_f (rn_ne2 (rn_repr (rn_v rfl) (ni_heldL hd) (by decide) (by decide)) (rn_repr (rn_fr lc) (ni_heldL hd) (by decide) (by decide)) (ni_heldL hd)) (rn_ne2 (reprWC h hd h1 h2) (rn_v rfl) (ni_wc h hd h1 h2))) rn_pure
end
end Dl

set_option Elab.async false
set_option linter.all false
set_option maxRecDepth 100000
set_option maxHeartbeats 2000000
/-! M19d: barriers come on all inputs: the rest of one turn. -/
namespace Dl
open PySem PySem.Spec PyProof.Rows L2
theorem atI_ok {α : Type} {xs : List α} {r : Nat} (h : r < xs.length) : atI xs (r : Int) = some xs[r] := by
  have e : ixN xs.length (r : Int) = some r := by
    unfold ixN
    simp; omega
  unfold atI
  rw [e]
  exact List.getElem?_eq_getElem h
theorem ne_same {k w : Nat} {d : D} (h : Ni k w d) (hk : k ≤ 64) : φNe d d = some (.bool false) := by
  rw [ne_ok h h hk hk, SeqAt.eqv_refl d h.lay]; rfl
theorem ni_il {n : Int} (h1 : -1000000 ≤ n) (h2 : n ≤ 1000000) : Ni 1 41 (.list [.int n]) := ni_list (n := 1) (all1 (ni_int (by omega) (by omega))) (Nat.le_refl _)
section
variable {src : Src} {n : Int} {ds came here : List D} {c : D} {l1 l2 l3 l4 l5 l6 l7 l8 l9 l10 l11 l13 l14 : Cl}
abbrev pE : M Out := gIf (fAnd (fBool (fBin φNe (fVar 6) (fFr (fLst (pure []))))) (fBool (fBin φNe (fCall 4 φ__law_barred (fCons (fVar 3) (fCons (fVar 1) (fCons (fBin φIx (fVar 6) (fCallS 0 1 φ__law_pick (fCons (fFn φLen (fCons (fVar 6) (pure []))) (pure [])))) (fCons (fVar 4) (pure [])))))) (fFr (fLst (fCons (fVar 4) (pure []))))))) (gRet (fC (PyData.bool false))) (pure Out.nx)
theorem pE_ok (h : Chs came) (h1 : -1000 ≤ n) (h2 : n ≤ 1000) : ∃ src', Rn pE ⟨src, W16 (.im (.list ds)) l2 (.im (wD n came)) (.im (.int n)) l5 (.im (.list came)) l7 l8 l9 l10 l11 l13 l14⟩ .nx ⟨src', W16 (.im (.list ds)) l2 (.im (wD n came)) (.im (.int n)) l5 (.im (.list came)) l7 l8 l9 l10 l11 l13 l14⟩ := by
  have t := rn_bool (rn_bin (s := ⟨src, W16 (.im (.list ds)) l2 (.im (wD n came)) (.im (.int n)) l5 (.im (.list came)) l7 l8 l9 l10 l11 l13 l14⟩) (f := fVar 6) (rn_v rfl) (rn_fr (rn_lst (fs := pure []) rn_pure (by simp))) (ne_nil h))
  by_cases e : came = []
  · subst e
    exact ⟨src, rn_siff (rn_and_f t) rn_pure⟩
  · have hl : 1 ≤ came.length := by
      cases came with
      | nil => exact absurd rfl e
      | cons a as => simp
    have hi : (!came.isEmpty) = true := by
      cases came with
      | nil => exact absurd rfl e
      | cons a as => rfl
    rw [hi] at t
    obtain ⟨r, src', hp, hr⟩ := pick_ok (s := src) (m := came.length) hl (by have := h.len; omega)
    refine ⟨src', rn_siff (rn_and_t t (rn_bool (rn_bin (rn_call (rn_cons (rn_v rfl) (rn_cons (rn_v rfl) (rn_cons (rn_bin (rn_v rfl) (rn_callS rfl (rn_cons (rn_fn (rn_cons (rn_v rfl) rn_pure) rfl) rn_pure) rfl hp) (atI_ok hr)) (rn_cons (rn_v rfl) rn_pure)))) rfl (barred_held h (List.getElem_mem hr) (by omega) (by omega))) (rn_fr (rn_lst (rn_cons (rn_v rfl) rn_pure) (by simp))) (ne_same (ni_il (by omega) (by omega)) (by decide))))) rn_pure⟩
abbrev pF : M Out := gFor (fSeq (fIfE (fBool (fBin φNe (fVar 6) (fFr (fLst (pure []))))) (fSl (fFr (fLst (fCons (fBin φAdd (fVar 4) (fC (PyData.int 1))) (fCons (fBin φAdd (fVar 4) (fC (PyData.int 7))) (fCons (fBin φSub (fVar 4) (fC (PyData.int 1))) (pure [])))))) (pure none) (fPart (fBin φAdd (fC (PyData.int 2)) (fFn φInt (fCons (fBin φGt (fVar 4) (fC (PyData.int 1))) (pure [])))))) (fFr (fLst (pure []))))) (gName' 9) (gIf (fBool (fBin φNe (fCall 4 φ__law_barred (fCons (fVar 3) (fCons (fVar 1) (fCons (fVar 5) (fCons (fVar 9) (pure [])))))) (fFr (fLst (fCons (fVar 9) (pure [])))))) (gRet (fC (PyData.bool false))) (pure Out.nx))
theorem pF_ok (h : Chs came) (hc : IsCh c) (h1 : -1000 ≤ n) (h2 : n ≤ 1000) (o9 : l9.own = false) : ∃ l9', Rn pF ⟨src, W16 (.im (.list ds)) l2 (.im (wD n came)) (.im (.int n)) (.im c) (.im (.list came)) l7 l8 l9 l10 l11 l13 l14⟩ .nx ⟨src, W16 (.im (.list ds)) l2 (.im (wD n came)) (.im (.int n)) (.im c) (.im (.list came)) l7 l8 l9' l10 l11 l13 l14⟩ ∧ l9'.own = false := by
  have t := rn_bool (rn_bin (s := ⟨src, W16 (.im (.list ds)) l2 (.im (wD n came)) (.im (.int n)) (.im c) (.im (.list came)) l7 l8 l9 l10 l11 l13 l14⟩) (f := fVar 6) (rn_v rfl) (rn_fr (rn_lst (fs := pure []) rn_pure (by simp))) (ne_nil h))
  by_cases e : came = []
  · subst e
    refine ⟨l9, ?_, o9⟩
    exact rn_bind (rn_items (rn_iff t (rn_fr (rn_lst rn_pure (by simp)))) rfl) rn_pure
  · have hi : (!came.isEmpty) = true := by
      cases came with
      | nil => exact absurd rfl e
      | cons a as => rfl
    rw [hi] at t
    have hit := rn_items (rn_ift (f := fSl (fFr (fLst (fCons (fBin φAdd (fVar 4) (fC (PyData.int 1))) (fCons (fBin φAdd (fVar 4) (fC (PyData.int 7))) (fCons (fBin φSub (fVar 4) (fC (PyData.int 1))) (pure [])))))) (pure none) (fPart (fBin φAdd (fC (PyData.int 2)) (fFn φInt (fCons (fBin φGt (fVar 4) (fC (PyData.int 1))) (pure [])))))) (g := fFr (fLst (pure []))) t (rn_sl (rn_fr (rn_lst (rn_cons (rn_bin (rn_v rfl) rn_c rfl) (rn_cons (rn_bin (rn_v rfl) rn_c rfl) (rn_cons (rn_bin (rn_v rfl) rn_c rfl) rn_pure))) (by simp))) rn_pure (rn_part (rn_bin rn_c (rn_fn (rn_cons (rn_bin (rn_v rfl) rn_c rfl) rn_pure) rfl) rfl)) rfl)) rfl
    have step : ∀ (i : Nat) (x : D) (z : S), (cutD [PyData.int (n + 1), .int (n + 7), .int (n - 1)] none (some (2 + if decide (1 < n) = true then 1 else 0)))[i]? = some x → (∃ l9', z = ⟨src, W16 (.im (.list ds)) l2 (.im (wD n came)) (.im (.int n)) (.im c) (.im (.list came)) l7 l8 l9' l10 l11 l13 l14⟩ ∧ l9'.own = false) → ∃ z1 z2, Rn (gName' 9 x) z () z1 ∧ Rn (gIf (fBool (fBin φNe (fCall 4 φ__law_barred (fCons (fVar 3) (fCons (fVar 1) (fCons (fVar 5) (fCons (fVar 9) (pure [])))))) (fFr (fLst (fCons (fVar 9) (pure [])))))) (gRet (fC (PyData.bool false))) (pure Out.nx)) z1 .nx z2 ∧ ∃ l9', z2 = ⟨src, W16 (.im (.list ds)) l2 (.im (wD n came)) (.im (.int n)) (.im c) (.im (.list came)) l7 l8 l9' l10 l11 l13 l14⟩ ∧ l9'.own = false := by
      rintro i x z hx ⟨l9', rfl, _⟩
      have hm : x ∈ [PyData.int (n + 1), .int (n + 7), .int (n - 1)] := List.mem_of_mem_drop (List.mem_of_mem_take (List.mem_of_getElem? hx))
      have hm2 : ∃ m : Int, x = .int m ∧ n ≠ m ∧ -1000000 ≤ m ∧ m ≤ 1000000 := by
        simp only [List.mem_cons, List.not_mem_nil, or_false] at hm
        rcases hm with rfl | rfl | rfl
        · exact ⟨_, rfl, by omega, by omega, by omega⟩
        · exact ⟨_, rfl, by omega, by omega, by omega⟩
        · exact ⟨_, rfl, by omega, by omega, by omega⟩
      obtain ⟨m, rfl, hne, hm1, hm2⟩ := hm2
      refine ⟨⟨src, W16 (.im (.list ds)) l2 (.im (wD n came)) (.im (.int n)) (.im c) (.im (.list came)) l7 l8 (.im (.int m)) l10 l11 l13 l14⟩, _, rn_name (by show 9 < 16; decide), rn_siff (rn_bool (rn_bin (rn_call (rn_cons (rn_v rfl) (rn_cons (rn_v rfl) (rn_cons (rn_v rfl) (rn_cons (rn_v rfl) rn_pure)))) rfl (barred_late h e hc hne hm1 hm2)) (rn_fr (rn_lst (rn_cons (rn_v rfl) rn_pure) (by simp))) (ne_same (ni_il hm1 hm2) (by decide)))) rn_pure, _, rfl, rfl⟩
    obtain ⟨s', r, l9', hs, ho⟩ := rn_for (k := gName' 9) (bd := gIf (fBool (fBin φNe (fCall 4 φ__law_barred (fCons (fVar 3) (fCons (fVar 1) (fCons (fVar 5) (fCons (fVar 9) (pure [])))))) (fFr (fLst (fCons (fVar 9) (pure [])))))) (gRet (fC (PyData.bool false))) (pure Out.nx)) (fun i z => ∃ l9', z = ⟨src, W16 (.im (.list ds)) l2 (.im (wD n came)) (.im (.int n)) (.im c) (.im (.list came)) l7 l8 l9' l10 l11 l13 l14⟩ ∧ l9'.own = false) hit ⟨l9, rfl, o9⟩ step
    subst hs
    exact ⟨l9', r, ho⟩
end
end Dl

set_option Elab.async false
set_option linter.all false
set_option maxRecDepth 100000
set_option maxHeartbeats 2000000
/-! M19e: barriers come on all inputs: a whole turn; the loops. -/
namespace Dl
open PySem PySem.Spec PyProof.Rows L2
theorem own_im {d : D} : (Cl.im d).own = false := rfl
theorem own_un : Cl.un.own = false := rfl
theorem own_sr : Cl.sr.own = false := rfl
section
variable {src : Src} {n : Int} {ds came here : List D} {c : D} {l1 l2 l3 l4 l5 l6 l7 l8 l9 l10 l11 l13 l14 : Cl}
def nextW (n : Int) (here : List D) (m : Nat) : D := if here.length = m then .none else .tuple [.int n, .tuple here]
theorem due_fst {m : Nat} : φIx (dueD n here m) (.int 0) = some (nextW n here m) := by
  unfold dueD nextW
  split <;> rfl
theorem ni_due {m : Nat} (h : Chs here) (h1 : -1000 ≤ n) (h2 : n ≤ 1000) : Ni 5 7232 (dueD n here m) := by
  unfold dueD
  split
  · exact (ni_tup (n := 2) (k := 0) (w := 0) (all2 ni_none ni_bool) (Nat.le_refl _)).mono (by decide) (by decide)
  · have a : Ni 4 3614 (.tuple [.int n, .tuple here]) := ni_tup (n := 2) (all2 ((ni_int (by omega) (by omega)).mono (Nat.zero_le 3) (by decide)) h.niT) (Nat.le_refl _)
    exact (ni_tup (n := 2) (all2 a (ni_bool.mono (Nat.zero_le _) (Nat.zero_le _))) (Nat.le_refl _)).mono (Nat.le_refl _) (by decide)
theorem sort_perm : (sortD ds).Perm ds := List.mergeSort_perm _ _
abbrev pG : M Out := gSet 10 (fCall 4 φ_come (fCons (fVar 3) (fCons (fVar 1) (fCons (fVar 5) (fCons (fVar 4) (pure []))))))
theorem pG_ok (h : Chs (came ++ [c])) : Rn pG ⟨src, W16 (.im (.list ds)) l2 (.im (wD n came)) (.im (.int n)) (.im c) l6 l7 l8 l9 l10 l11 l13 l14⟩ .nx ⟨src, W16 (.im (.list ds)) l2 (.im (wD n came)) (.im (.int n)) (.im c) l6 l7 l8 l9 (.im (dueD n (sortD (came ++ [c])) ds.length)) l11 l13 l14⟩ :=
  rn_set (rn_call (rn_cons (rn_v rfl) (rn_cons (rn_v rfl) (rn_cons (rn_v rfl) (rn_cons (rn_v rfl) rn_pure)))) rfl (come_ok h (.inl rfl))) (by show 10 < 16; decide)
abbrev pH : M Out := gSet 6 (fFr (fFl φSort (fCons (fBin φAdd (fVar 6) (fFr (fLst (fCons (fVar 5) (pure []))))) (pure []))))
theorem pH_ok (h : Chs (came ++ [c])) : Rn pH ⟨src, W16 l1 l2 l3 l4 (.im c) (.im (.list came)) l7 l8 l9 l10 l11 l13 l14⟩ .nx ⟨src, W16 l1 l2 l3 l4 (.im c) (.im (.list (sortD (came ++ [c])))) l7 l8 l9 l10 l11 l13 l14⟩ := by
  have ha : φAdd (.list came) (.list [c]) = some (.list (came ++ [c])) := by
    show (if came.length + 1 ≤ 16777216 then _ else none) = _
    rw [if_pos (Nat.le_trans (by have := h.len; rw [List.length_append] at this; exact this) (by decide))]
  have hs : φSort [.list (came ++ [c])] = some (sortD (came ++ [c])) := by
    show (if okSort _ = true then _ else none) = _
    rw [if_pos h.sort]
  exact rn_set (rn_fr (rn_fl (rn_cons (rn_bin (rn_v rfl) (rn_fr (rn_lst (rn_cons (rn_v rfl) rn_pure) (by simp))) ha) rn_pure) hs)) (by show 6 < 16; decide)
abbrev pI : M Out := gSet 11 (fIfE (fBool (fBin φEq (fFn φLen (fCons (fVar 6) (pure []))) (fFn φLen (fCons (fVar 1) (pure []))))) (fTup (fCons (fC PyData.none) (fCons (fC (PyData.bool true)) (pure [])))) (fTup (fCons (fTup (fCons (fVar 4) (fCons (fFn φTuple (fCons (fVar 6) (pure []))) (pure [])))) (fCons (fC (PyData.bool false)) (pure [])))))
theorem pI_ok : Rn pI ⟨src, W16 (.im (.list ds)) l2 l3 (.im (.int n)) l5 (.im (.list here)) l7 l8 l9 l10 l11 l13 l14⟩ .nx ⟨src, W16 (.im (.list ds)) l2 l3 (.im (.int n)) l5 (.im (.list here)) l7 l8 l9 l10 (.im (dueD n here ds.length)) l13 l14⟩ := by
  have t := rn_bool (rn_bin (s := ⟨src, W16 (.im (.list ds)) l2 l3 (.im (.int n)) l5 (.im (.list here)) l7 l8 l9 l10 l11 l13 l14⟩) (rn_fn (fs := fCons (fVar 6) (pure [])) (φ := φLen) (rn_cons (rn_v rfl) rn_pure) rfl) (rn_fn (fs := fCons (fVar 1) (pure [])) (φ := φLen) (rn_cons (rn_v rfl) rn_pure) rfl) eq_int)
  refine rn_set (s1 := ⟨src, W16 (.im (.list ds)) l2 l3 (.im (.int n)) l5 (.im (.list here)) l7 l8 l9 l10 l11 l13 l14⟩) (i := 11) (d := dueD n here ds.length) ?_ (by show 11 < 16; decide)
  unfold dueD
  by_cases e : here.length = ds.length
  · rw [if_pos e]
    rw [show ((here.length : Int) == (ds.length : Int)) = true by rw [e]; exact beq_self_eq_true _] at t
    exact rn_ift t (rn_tup (rn_cons rn_c (rn_cons rn_c rn_pure)) (by simp))
  · rw [if_neg e]
    rw [show ((here.length : Int) == (ds.length : Int)) = false from beq_false_of_ne (by omega)] at t
    exact rn_iff t (rn_tup (rn_cons (rn_tup (rn_cons (rn_v rfl) (rn_cons (rn_fn (rn_cons (rn_v rfl) rn_pure) rfl) rn_pure)) (by simp)) (rn_cons rn_c rn_pure)) (by simp))
abbrev pJ : M Out := gIf (fOr (fBool (fBin φNe (fFn φRepr (fCons (fVar 10) (pure []))) (fFn φRepr (fCons (fVar 11) (pure []))))) (fOr (fBool (fBin φNe (fFn φRepr (fCons (fFr (fLst (fCons (fVar 3) (fCons (fVar 1) (pure []))))) (pure []))) (fVar 14))) (fBool (fBin φNe (fFn φRepr (fCons (fCall 4 φ_come (fCons (fVar 3) (fCons (fFn φTuple (fCons (fVar 1) (pure []))) (fCons (fVar 5) (fCons (fVar 4) (pure [])))))) (pure []))) (fFn φRepr (fCons (fVar 11) (pure []))))))) (gRet (fC (PyData.bool false))) (pure Out.nx)
theorem pJ_ok (hcm : Chs came) (h : Chs (came ++ [c])) (hd : Chs ds) (h1 : -1000 ≤ n) (h2 : n ≤ 1000) :
    Rn pJ ⟨src, W16 (.im (.list ds)) l2 (.im (wD n came)) (.im (.int n)) (.im c) l6 l7 l8 l9 (.im (dueD n (sortD (came ++ [c])) ds.length)) (.im (dueD n (sortD (came ++ [c])) ds.length)) l13 (.im (.str (PyData.shown (.list [wD n came, .list ds]))))⟩ .nx
      ⟨src, W16 (.im (.list ds)) l2 (.im (wD n came)) (.im (.int n)) (.im c) l6 l7 l8 l9 (.im (dueD n (sortD (came ++ [c])) ds.length)) (.im (dueD n (sortD (came ++ [c])) ds.length)) l13 (.im (.str (PyData.shown (.list [wD n came, .list ds]))))⟩ := by
  have hn := ni_due (m := ds.length) (h.perm sort_perm.symm) h1 h2
  exact rn_siff (rn_or_f (rn_ne2 (rn_repr (rn_v rfl) hn (by decide) (by decide)) (rn_repr (rn_v rfl) hn (by decide) (by decide)) hn) (rn_or_f (rn_ne2 (reprWC hcm hd h1 h2) (rn_v rfl) (ni_wc hcm hd h1 h2))
    (rn_ne2 (rn_repr (rn_call (rn_cons (rn_v rfl) (rn_cons (rn_fn (rn_cons (rn_v rfl) rn_pure) rfl) (rn_cons (rn_v rfl) (rn_cons (rn_v rfl) rn_pure)))) rfl (come_ok h (.inr rfl))) hn (by decide) (by decide)) (rn_repr (rn_v rfl) hn (by decide) (by decide)) hn))) rn_pure
abbrev pK : M Out := gSet 3 (fBin φIx (fVar 10) (fC (PyData.int 0)))
theorem pK_ok {m : Nat} : Rn pK ⟨src, W16 l1 l2 l3 l4 l5 l6 l7 l8 l9 (.im (dueD n here m)) l11 l13 l14⟩ .nx ⟨src, W16 l1 l2 (.im (nextW n here m)) l4 l5 l6 l7 l8 l9 (.im (dueD n here m)) l11 l13 l14⟩ := rn_set (rn_bin (rn_v rfl) rn_c due_fst) (by show 3 < 16; decide)
abbrev turnG : M Out := gSeq pA (gSpoil 7 8 (fCallN 2 φN_free_channels (fCons (fVar 3) (fCons (fVar 1) (pure [])))) (fCallN 2 φN_numbers_left (fCons (fVar 3) (fCons (fVar 1) (pure [])))) (fCallN 2 φN_free_channels (fCons (fVar 3) (fCons (fFn φTuple (fCons (fVar 1) (pure []))) (pure [])))) tB (fC (PyData.bool false))
  (gSeq pC (gSeq pD (gSeq pE (gSeq pF (gSeq pG (gSeq pH (gSeq pI (gSeq pJ pK)))))))))
def Fr5 (l7 l8 l9 l10 l11 l13 l14 : Cl) : Prop := l7.own = false ∧ l8.own = false ∧ l9.own = false ∧ l10.own = false ∧ l11.own = false ∧ l13.own = false ∧ l14.own = false
theorem turn_ok (h : Chs (came ++ [c])) (hd : Chs ds) (h1 : -1000 ≤ n) (h2 : n ≤ 1000) (o2 : l2.own = false) (o : Fr5 l7 l8 l9 l10 l11 l13 l14) :
    ∃ src' l7' l8' l9' l10' l11' l13' l14', Rn turnG ⟨src, W16 (.im (.list ds)) l2 (.im (wD n came)) (.im (.int n)) (.im c) (.im (.list came)) l7 l8 l9 l10 l11 l13 l14⟩ .nx
      ⟨src', W16 (.im (.list ds)) l2 (.im (nextW n (sortD (came ++ [c])) ds.length)) (.im (.int n)) (.im c) (.im (.list (sortD (came ++ [c])))) l7' l8' l9' l10' l11' l13' l14'⟩ ∧ Fr5 l7' l8' l9' l10' l11' l13' l14' := by
  obtain ⟨o7, o8, o9, o10, o11, o13, o14⟩ := o
  have hc : IsCh c := h.all c (by simp)
  have hcm : Chs came := ⟨fun e he => h.all e (by simp [he]), (List.nodup_append.mp h.nd).1, Nat.le_trans (by simp) h.len⟩
  obtain ⟨src', e⟩ := pE_ok (src := src) (n := n) (ds := ds) (came := came) (l2 := l2) (l5 := .im c) (l7 := .im (heldL came ds)) (l8 := .un) (l9 := l9) (l10 := l10) (l11 := l11) (l13 := .im (.list (freeOf came ds))) (l14 := .im (.str (PyData.shown (.list [wD n came, .list ds])))) hcm h1 h2
  obtain ⟨l9', f, o9'⟩ := pF_ok (src := src') (n := n) (ds := ds) (came := came) (c := c) (l2 := l2) (l7 := .im (heldL came ds)) (l8 := .un) (l9 := l9) (l10 := l10) (l11 := l11) (l13 := .im (.list (freeOf came ds))) (l14 := .im (.str (PyData.shown (.list [wD n came, .list ds])))) hcm hc h1 h2 o9
  have lf : (freeOf came ds).length < 1000 := Nat.lt_of_le_of_lt (free_chs hd).len (by decide)
  have ll : (if came = [] then [] else freeOf came ds).length < 1000 := by
    split
    · decide
    · exact lf
  refine ⟨src', .im (heldL came ds), .un, l9', .im (dueD n (sortD (came ++ [c])) ds.length), .im (dueD n (sortD (came ++ [c])) ds.length), .im (.list (freeOf came ds)), .im (.str (PyData.shown (.list [wD n came, .list ds]))), ?_, rfl, rfl, o9', rfl, rfl, rfl, rfl⟩
  refine rn_seq (pA_ok hcm hd h1 h2) (rn_spoil (rn_callN (rn_cons (rn_v rfl) (rn_cons (rn_v rfl) rn_pure)) rfl (freeN_ok hcm (.inl rfl) hd)) (rn_callN (rn_cons (rn_v rfl) (rn_cons (rn_v rfl) rn_pure)) rfl (leftN_ok hcm (.inl rfl) hd)) (rn_callN (rn_cons (rn_v rfl) (rn_cons (rn_fn (rn_cons (rn_v rfl) rn_pure) rfl) rn_pure)) rfl (freeN_ok hcm (.inr rfl) hd)) ⟨lf, ll, lf⟩ (by show 7 < 16; decide) (by show 8 < 16; decide) (by decide) ?own (tB_ok hcm hd)
    (rn_seq (pC_ok hcm hd) (rn_seq (pD_ok hcm hd h1 h2) (rn_seq e (rn_seq f (rn_seq (pG_ok h) (rn_seq (pH_ok h) (rn_seq pI_ok (rn_seq (pJ_ok hcm h hd h1 h2) pK_ok)))))))))
  case own => simp [W16, o2, o7, o8, o9, o10, o11, o13, o14, own_im, own_un, own_sr]
end
end Dl

set_option Elab.async false
set_option linter.all false
set_option maxRecDepth 100000
set_option maxHeartbeats 2000000
/-! M19f: barriers come on all inputs: the law's first half is True. -/
namespace Dl
open PySem PySem.Spec PyProof.Rows L2
section
variable {src : Src} {n : Int} {ds came here : List D} {c : D} {l1 l2 l3 l4 l5 l6 l7 l8 l9 l10 l11 l13 l14 : Cl}
theorem Chs.take {es : List D} (h : Chs es) (i : Nat) : Chs (es.take i) := ⟨fun c hc => h.all c (List.mem_of_mem_take hc), h.nd.sublist (List.take_sublist i es), Nat.le_trans (List.take_sublist i es).length_le h.len⟩
theorem take_more' {α : Type} {l : List α} {i : Nat} {x : α} (h : l[i]? = some x) : l.take (i + 1) = l.take i ++ [x] := by
  rw [List.take_add_one, h]; rfl
abbrev innG : M Out := gFor (fSeq (fCallS 0 1 φ__law_any_order (fCons (fVar 1) (pure [])))) (gName' 5) turnG
theorem inn_ok (hd : Chs ds) (hne : 1 ≤ ds.length) (h1 : -1000 ≤ n) (h2 : n ≤ 1000) (o2 : l2.own = false) (o5 : l5.own = false) (o : Fr5 l7 l8 l9 l10 l11 l13 l14) :
    ∃ src' l5' l6' l7' l8' l9' l10' l11' l13' l14', Rn innG ⟨src, W16 (.im (.list ds)) l2 (.im .none) (.im (.int n)) l5 (.im (.list [])) l7 l8 l9 l10 l11 l13 l14⟩ .nx ⟨src', W16 (.im (.list ds)) l2 (.im .none) (.im (.int n)) l5' l6' l7' l8' l9' l10' l11' l13' l14'⟩ ∧ l5'.own = false ∧ l6'.own = false ∧ Fr5 l7' l8' l9' l10' l11' l13' l14' := by
  obtain ⟨ord, src1, ho, hp⟩ := order_ok (src := src) (x := .list ds) (xs := ds) (.inl rfl) (by have := hd.len; omega)
  have hord : Chs ord := hd.perm hp
  have hlen : ord.length = ds.length := hp.length_eq.symm
  have step : ∀ (i : Nat) (x : D) (z : S), ord[i]? = some x → (∃ src w came l5 l7 l8 l9 l10 l11 l13 l14, z = ⟨src, W16 (.im (.list ds)) l2 (.im w) (.im (.int n)) l5 (.im (.list came)) l7 l8 l9 l10 l11 l13 l14⟩ ∧ came.Perm (ord.take i) ∧ (i < ord.length → w = wD n came) ∧ (i = ord.length → w = .none) ∧ l5.own = false ∧ Fr5 l7 l8 l9 l10 l11 l13 l14) →
      ∃ z1 z2, Rn (gName' 5 x) z () z1 ∧ Rn turnG z1 .nx z2 ∧ ∃ src w came l5 l7 l8 l9 l10 l11 l13 l14, z2 = ⟨src, W16 (.im (.list ds)) l2 (.im w) (.im (.int n)) l5 (.im (.list came)) l7 l8 l9 l10 l11 l13 l14⟩ ∧ came.Perm (ord.take (i + 1)) ∧ (i + 1 < ord.length → w = wD n came) ∧ (i + 1 = ord.length → w = .none) ∧ l5.own = false ∧ Fr5 l7 l8 l9 l10 l11 l13 l14 := by
    rintro i x z hx ⟨src, w, came, l5, l7, l8, l9, l10, l11, l13, l14, rfl, hc, hw, _, o5, o⟩
    have hi : i < ord.length := (List.getElem?_eq_some_iff.mp hx).1
    rw [hw hi]
    have pm : (came ++ [x]).Perm (ord.take (i + 1)) := by
      rw [take_more' hx]
      exact hc.append_right [x]
    have h : Chs (came ++ [x]) := (hord.take (i + 1)).perm pm.symm
    obtain ⟨src', l7', l8', l9', l10', l11', l13', l14', r, o'⟩ := turn_ok (src := src) (l2 := l2) (l7 := l7) (l8 := l8) (l9 := l9) (l10 := l10) (l11 := l11) (l13 := l13) (l14 := l14) h hd h1 h2 o2 o
    have pm' : (sortD (came ++ [x])).Perm (ord.take (i + 1)) := sort_perm.trans pm
    have hl : (sortD (came ++ [x])).length = i + 1 := by rw [pm'.length_eq, List.length_take]; omega
    refine ⟨_, _, rn_name (by show 5 < 16; decide), r, src', _, _, _, l7', l8', l9', l10', l11', l13', l14', rfl, pm', fun hlt => ?_, fun he => ?_, rfl, o'⟩
    · unfold nextW
      rw [if_neg (by omega)]
      cases hs : sortD (came ++ [x]) with
      | nil => rw [hs] at hl; cases hl
      | cons a as => rfl
    · unfold nextW
      rw [if_pos (by omega)]
  obtain ⟨s', r, src2, w, came, l5', l7', l8', l9', l10', l11', l13', l14', rfl, _, _, hw, o5', o'⟩ := rn_for (k := gName' 5) (bd := turnG) (fun i z => ∃ src w came l5 l7 l8 l9 l10 l11 l13 l14, z = ⟨src, W16 (.im (.list ds)) l2 (.im w) (.im (.int n)) l5 (.im (.list came)) l7 l8 l9 l10 l11 l13 l14⟩ ∧ came.Perm (ord.take i) ∧ (i < ord.length → w = wD n came) ∧ (i = ord.length → w = .none) ∧ l5.own = false ∧ Fr5 l7 l8 l9 l10 l11 l13 l14)
    (rn_items (rn_callS (s := ⟨src, W16 (.im (.list ds)) l2 (.im .none) (.im (.int n)) l5 (.im (.list [])) l7 l8 l9 l10 l11 l13 l14⟩) (i := 0) (n := 1) (fs := fCons (fVar 1) (pure [])) rfl (rn_cons (rn_v rfl) rn_pure) rfl ho) rfl) ⟨src1, _, [], l5, l7, l8, l9, l10, l11, l13, l14, rfl, .refl _, fun _ => rfl, fun _ => rfl, o5, o⟩ step
  rw [hw rfl] at r
  exact ⟨src2, l5', _, l7', l8', l9', l10', l11', l13', l14', r, o5', rfl, o'⟩
abbrev lapG : M Out := gSeq (gAsg (fTup (fCons (fBin φAdd (fBin φAdd (fVar 4) (fC (PyData.int 1))) (fCallS 0 1 φ__law_pick (fCons (fC (PyData.int 3)) (pure [])))) (fCons (fFr (fLst (pure []))) (pure [])))) (gTup' 2 (gCons' (gName' 4) (gCons' (gName' 6) gNil')))) innG
abbrev outG : M Out := gFor (fRange1 (fC (PyData.int 3))) (gName' 2) lapG
theorem out_ok (hd : Chs ds) (hne : 1 ≤ ds.length) (o2 : l2.own = false) (o5 : l5.own = false) (o6 : l6.own = false) (o : Fr5 l7 l8 l9 l10 l11 l13 l14) :
    ∃ z, Rn outG ⟨src, W16 (.im (.list ds)) l2 (.im .none) (.im (.int 0)) l5 l6 l7 l8 l9 l10 l11 l13 l14⟩ .nx z ∧ z.env[3]? = some (.im .none) := by
  have step : ∀ (i : Nat) (x : D) (z : S), (rangeD 0 3)[i]? = some x → (∃ src n l2 l5 l6 l7 l8 l9 l10 l11 l13 l14, z = ⟨src, W16 (.im (.list ds)) l2 (.im .none) (.im (.int n)) l5 l6 l7 l8 l9 l10 l11 l13 l14⟩ ∧ 0 ≤ n ∧ n ≤ 3 * (i : Int) ∧ l2.own = false ∧ l5.own = false ∧ l6.own = false ∧ Fr5 l7 l8 l9 l10 l11 l13 l14) →
      ∃ z1 z2, Rn (gName' 2 x) z () z1 ∧ Rn lapG z1 .nx z2 ∧ ∃ src n l2 l5 l6 l7 l8 l9 l10 l11 l13 l14, z2 = ⟨src, W16 (.im (.list ds)) l2 (.im .none) (.im (.int n)) l5 l6 l7 l8 l9 l10 l11 l13 l14⟩ ∧ 0 ≤ n ∧ n ≤ 3 * ((i + 1 : Nat) : Int) ∧ l2.own = false ∧ l5.own = false ∧ l6.own = false ∧ Fr5 l7 l8 l9 l10 l11 l13 l14 := by
    rintro i x z hx ⟨src, n, l2, l5, l6, l7, l8, l9, l10, l11, l13, l14, rfl, h1, h2, o2, o5, o6, o⟩
    have hi : i < 3 := by
      have := (List.getElem?_eq_some_iff.mp hx).1
      rwa [rangeD_len] at this
    obtain ⟨r, src1, hp, hr⟩ := pick_ok (s := src) (m := 3) (by decide) (by decide)
    obtain ⟨src', l5', l6', l7', l8', l9', l10', l11', l13', l14', ri, o5', o6', o'⟩ := inn_ok (src := src1) (n := n + 1 + (r : Int)) (l2 := .im x) (l5 := l5) (l7 := l7) (l8 := l8) (l9 := l9) (l10 := l10) (l11 := l11) (l13 := l13) (l14 := l14) hd hne (by omega) (by omega) rfl o5 o
    refine ⟨⟨src, W16 (.im (.list ds)) (.im x) (.im .none) (.im (.int n)) l5 l6 l7 l8 l9 l10 l11 l13 l14⟩, _, rn_name (by show 2 < 16; decide), rn_seq (rn_asg (rn_tup (rn_cons (rn_bin (rn_bin (rn_v rfl) rn_c rfl) (rn_callS (s1 := ⟨src, W16 (.im (.list ds)) (.im x) (.im .none) (.im (.int n)) l5 l6 l7 l8 l9 l10 l11 l13 l14⟩) rfl (rn_cons rn_c rn_pure) rfl hp) rfl) (rn_cons (rn_fr (rn_lst rn_pure (by simp))) rn_pure)) (by simp)) (rn_pair (by show 4 < 16; decide) (by show 6 < 16; decide))) ri, src', _, .im x, l5', l6', l7', l8', l9', l10', l11', l13', l14', rfl, by omega, by push_cast; omega, rfl, o5', o6', o'⟩
  obtain ⟨s', r, src', n', l2', l5', l6', l7', l8', l9', l10', l11', l13', l14', rfl, _⟩ := rn_for (k := gName' 2) (bd := lapG) (fs := fRange1 (fC (PyData.int 3))) (s := ⟨src, W16 (.im (.list ds)) l2 (.im .none) (.im (.int 0)) l5 l6 l7 l8 l9 l10 l11 l13 l14⟩) (fun i z => ∃ src n l2 l5 l6 l7 l8 l9 l10 l11 l13 l14, z = ⟨src, W16 (.im (.list ds)) l2 (.im .none) (.im (.int n)) l5 l6 l7 l8 l9 l10 l11 l13 l14⟩ ∧ 0 ≤ n ∧ n ≤ 3 * (i : Int) ∧ l2.own = false ∧ l5.own = false ∧ l6.own = false ∧ Fr5 l7 l8 l9 l10 l11 l13 l14)
    (rn_rng rn_c (range1_ok (n := 3) (by decide))) ⟨src, 0, l2, l5, l6, l7, l8, l9, l10, l11, l13, l14, rfl, by decide, by decide, o2, o5, o6, o⟩ step
  exact ⟨_, r, rfl⟩
end
end Dl

set_option Elab.async false
set_option linter.all false
set_option maxRecDepth 100000
set_option maxHeartbeats 2000000
/-! M19g: the law's first half. -/
namespace Dl
open PySem PySem.Spec PyProof.Rows L2
def chanW : D → D
  | .int i => .tuple [.tuple [.str "a", .int i], .int (i.fdiv 3), .tuple [.str "b", .int 0]]
  | _ => .none
theorem chan_inj {j k : Nat} (h : chan j = chan k) : j = k := by
  have := eqv_chan (j := j) (k := k)
  rw [h, eqv_chan] at this
  simpa using this
theorem chs_range {m : Nat} (h : m ≤ 6) : (rangeD 0 m).map chanW = (List.range m).map chan ∧ Chs ((List.range m).map chan) := by
  refine ⟨?_, fun c hc => ?_, ?_, by simpa using h⟩
  · unfold rangeD
    rw [List.map_map]
    refine List.map_congr_left fun i _ => ?_
    show chanW (.int (0 + (i : Int))) = chan i
    rw [Int.zero_add]
    rfl
  · obtain ⟨k, hk, rfl⟩ := List.mem_map.mp hc
    exact ⟨k, by have := List.mem_range.mp hk; omega, rfl⟩
  · exact List.pairwise_map.mpr (List.nodup_range.imp fun h e => h (chan_inj e))
abbrev elG : M D := fTup (fCons (fTup (fCons (fC (PyData.str (Str.ofString "a"))) (fCons (fVar 12) (pure [])))) (fCons (fBin φDiv (fVar 12) (fC (PyData.int 3))) (fCons (fTup (fCons (fC (PyData.str (Str.ofString "b"))) (fCons (fC (PyData.int 0)) (pure [])))) (pure []))))
abbrev chsG : M Out := gSet 1 (fCallS 0 1 φ__law_any_order (fCons (fFr (fLc [12] (fRange1 (fBin φAdd (fC (PyData.int 1)) (fCallS 0 1 φ__law_pick (fCons (fC (PyData.int 6)) (pure []))))) (gName' 12) (pure true) elG)) (pure [])))
theorem chsG_ok {src : Src} : ∃ src' ds, Chs ds ∧ 1 ≤ ds.length ∧ Rn chsG ⟨src, W16 .un .un .un .un .un .un .un .un .un .un .un .un .un⟩ .nx ⟨src', W16 (.im (.list ds)) .un .un .un .un .un .un .un .un .un .un .un .un⟩ := by
  obtain ⟨r, src1, hp, hr⟩ := pick_ok (s := src) (m := 6) (by decide) (by decide)
  have lc := rn_lc (s := ⟨src, W16 .un .un .un .un .un .un .un .un .un .un .un .un .un⟩) (vs := [12]) (fi := fRange1 (fBin φAdd (fC (PyData.int 1)) (fCallS 0 1 φ__law_pick (fCons (fC (PyData.int 6)) (pure []))))) (k := gName' 12) (t := pure true) (f := elG) (ds := rangeD 0 (1 + r)) (src := src1) (E := W16 .un .un .un .un .un .un .un .un .un .un .un .un .un)
    (fun x => [.sr, .un, .un, .un, .un, .un, .un, .un, .un, .un, .un, .un, .im x, .un, .un, .un]) (fun _ => true) chanW
    (rn_rng (rn_bin rn_c (rn_callS (s1 := ⟨src, W16 .un .un .un .un .un .un .un .un .un .un .un .un .un⟩) rfl (rn_cons rn_c rn_pure) rfl hp) (by show some (PyData.int _) = some (PyData.int ((1 + r : Nat) : Int)); push_cast; rfl)) (range1_ok (by omega)))
    (fun _ _ => rfl) (fun _ _ => rn_name (by show 12 < 16; decide)) (fun _ _ => rn_pure) (fun x hx _ => by
      obtain ⟨k, _, rfl⟩ := List.mem_map.mp hx
      exact rn_tup (rn_cons (rn_tup (rn_cons rn_c (rn_cons (rn_v rfl) rn_pure)) (by simp)) (rn_cons (rn_bin (rn_v rfl) rn_c rfl) (rn_cons (rn_tup (rn_cons rn_c (rn_cons rn_c rn_pure)) (by simp)) rn_pure))) (by simp)) (by rw [rangeD_len]; omega) rfl
  obtain ⟨e, hc⟩ := chs_range (m := 1 + r) (by omega)
  rw [filter_tt, e] at lc
  obtain ⟨ord, src2, ho, hq⟩ := order_ok (src := src1) (x := .list ((List.range (1 + r)).map chan)) (.inl rfl) (by have := hc.len; omega)
  refine ⟨src2, ord, hc.perm hq, by rw [← hq.length_eq, List.length_map, List.length_range]; omega, rn_set (rn_callS (s1 := ⟨src1, W16 .un .un .un .un .un .un .un .un .un .un .un .un .un⟩) rfl (rn_cons (rn_fr lc) rn_pure) rfl ho) (by show 1 < 16; decide)⟩
theorem waiting_ok (src : Src) : ∃ src', φ__law_waiting_right src [] = some (.bool true, src') := by
  obtain ⟨src1, ds, hd, hne, h1⟩ := chsG_ok (src := src)
  obtain ⟨z, h2, h3⟩ := out_ok (src := src1) (ds := ds) (l2 := .un) (l5 := .un) (l6 := .un) (l7 := .un) (l8 := .un) (l9 := .un) (l10 := .un) (l11 := .un) (l13 := .un) (l14 := .un) hd hne rfl rfl rfl ⟨rfl, rfl, rfl, rfl, rfl, rfl, rfl⟩
  refine ⟨z.src, runS_of (z := z) ?_⟩
  exact rn_seq h1 (rn_seq (rn_asg (rn_tup (rn_cons rn_c (rn_cons rn_c rn_pure)) (by simp)) (rn_pair (by show 3 < 16; decide) (by show 4 < 16; decide))) (rn_seq h2 (rn_ret (rn_bin (rn_v h3) rn_c rfl))))
end Dl

set_option Elab.async false
set_option linter.all false
set_option maxRecDepth 100000
set_option maxHeartbeats 2000000
/-! M19h: things of a channel; judge_channel, and the law's own word for it. -/
namespace Dl
open PySem PySem.Spec PyProof.Rows L2
inductive Thg where
  | mark (m : Int)
  | bar (n : Int)
  | row (a b : Int) (v : D)
def Thg.word : Thg → D
  | .mark _ => .str "mark"
  | .bar _ => .str "barrier"
  | .row _ _ _ => .str "row"
def Thg.told : Thg → D
  | .mark m => .int m
  | .bar n => .int n
  | .row a b v => .tuple [.int a, .int b, v]
def Thg.d (t : Thg) : D := .tuple [t.word, t.told]
abbrev badD (t : Thg) (k : Nat) : D := .tuple [t.word, .int (k : Int)]
/-- the first fault, from last and mark on -/
def jd (last mark : Int) (k : Nat) : List Thg → Option D
  | [] => none
  | .mark m :: r => if m < mark then some (badD (.mark m) k) else jd last m (k + 1) r
  | .bar n :: r => if n ≤ last then some (badD (.bar n) k) else jd n mark (k + 1) r
  | .row a b v :: r => if a < mark then some (badD (.row a b v) k) else jd last mark (k + 1) r
def outJ : Option D → Out
  | none => .nx
  | some d => .rt d
def enumF (k : Nat) (ts : List Thg) : List D := ((ts.map Thg.d).zipIdx k).map fun p => .tuple [.int (p.2 : Int), p.1]
theorem enumF_cons {k : Nat} {t : Thg} {ts : List Thg} : enumF k (t :: ts) = .tuple [.int (k : Int), t.d] :: enumF (k + 1) ts := rfl
theorem eq_str (x y : String) : φEq (.str (Str.ofString x)) (.str (Str.ofString y)) = some (.bool (Str.ofString x == Str.ofString y)) := by
  unfold φEq okEq
  rw [str_shaped (sok_ofString x), str_shaped (sok_ofString y)]
  rfl
theorem w_bb : φEq (.str "barrier") (.str "barrier") = some (.bool true) := (eq_str _ _).trans (by rw [beq_self_eq_true])
theorem w_mb : φEq (.str "mark") (.str "barrier") = some (.bool false) := (eq_str _ _).trans (by rw [show (Str.ofString "mark" == Str.ofString "barrier") = false by decide +kernel])
theorem w_rb : φEq (.str "row") (.str "barrier") = some (.bool false) := (eq_str _ _).trans (by rw [show (Str.ofString "row" == Str.ofString "barrier") = false by decide +kernel])
theorem w_mr : φEq (.str "mark") (.str "row") = some (.bool false) := (eq_str _ _).trans (by rw [show (Str.ofString "mark" == Str.ofString "row") = false by decide +kernel])
theorem w_rr : φEq (.str "row") (.str "row") = some (.bool true) := (eq_str _ _).trans (by rw [beq_self_eq_true])
theorem w_mm : φEq (.str "mark") (.str "mark") = some (.bool true) := (eq_str _ _).trans (by rw [beq_self_eq_true])
theorem w_rm : φEq (.str "row") (.str "mark") = some (.bool false) := (eq_str _ _).trans (by rw [show (Str.ofString "row" == Str.ofString "mark") = false by decide +kernel])
theorem w_br : φEq (.str "barrier") (.str "row") = some (.bool false) := (eq_str _ _).trans (by rw [show (Str.ofString "barrier" == Str.ofString "row") = false by decide +kernel])
theorem w_bm : φEq (.str "barrier") (.str "mark") = some (.bool false) := (eq_str _ _).trans (by rw [show (Str.ofString "barrier" == Str.ofString "mark") = false by decide +kernel])
theorem lt_int {i j : Int} : φLt (.int i) (.int j) = some (.bool (decide (i < j))) := rfl
theorem le_int {i j : Int} : φLe (.int i) (.int j) = some (.bool (decide (i ≤ j))) := rfl
/-! ### judge_channel -/
abbrev jT : D → M Unit := gTup' 2 (gCons' (gName' 3) (gCons' (gTup' 2 (gCons' (gName' 4) (gCons' (gName' 5) gNil'))) gNil'))
abbrev jB : M Out := gIf (fBool (fBin φEq (fVar 4) (fC (PyData.str (Str.ofString "barrier")))))
  (gSeq (gIf (fBool (fBin φLe (fVar 5) (fVar 2))) (gRet (fTup (fCons (fC (PyData.str (Str.ofString "barrier"))) (fCons (fVar 3) (pure []))))) (pure Out.nx)) (gSet 2 (fVar 5)))
  (gSeq (gIf (fBool (fBin φLt (fIfE (fBool (fBin φEq (fVar 4) (fC (PyData.str (Str.ofString "row"))))) (fBin φIx (fVar 5) (fC (PyData.int 0))) (fVar 5)) (fVar 1))) (gRet (fTup (fCons (fVar 4) (fCons (fVar 3) (pure []))))) (pure Out.nx))
    (gSet 1 (fIfE (fBool (fBin φEq (fVar 4) (fC (PyData.str (Str.ofString "mark"))))) (fVar 5) (fVar 1))))
theorem jT_ok {src : Src} {x m l a b c : Cl} {k : Nat} {t : Thg} : Rn (jT (.tuple [.int (k : Int), t.d])) ⟨src, [x, m, l, a, b, c]⟩ () ⟨src, [x, m, l, .im (.int (k : Int)), .im t.word, .im t.told]⟩ :=
  rn_bind (s1 := ⟨src, [x, m, l, .im (.int (k : Int)), b, c]⟩) (rn_name (by show 3 < 6; decide)) (rn_bind (s1 := ⟨src, [x, m, l, .im (.int (k : Int)), .im t.word, .im t.told]⟩) (rn_pair (by show 4 < 6; decide) (by show 5 < 6; decide)) rn_pure)
theorem judge_go {src : Src} {x : Cl} : ∀ (ts : List Thg) (k : Nat) (mark last : Int) (a b c : Cl), ∃ z, Rn (forD (gBody jT jB) (enumF k ts)) ⟨src, [x, .im (.int mark), .im (.int last), a, b, c]⟩ (outJ (jd last mark k ts)) z
  | [], k, mark, last, a, b, c => ⟨_, rn_pure⟩
  | .mark m :: ts, k, mark, last, a, b, c => by
    rw [enumF_cons]
    unfold jd
    have hE := rn_bool (rn_bin (s := ⟨src, [x, .im (.int mark), .im (.int last), .im (.int (k : Int)), .im (Thg.mark m).word, .im (Thg.mark m).told]⟩) (f := fVar 4) (g := fC (PyData.str (Str.ofString "barrier"))) (rn_v rfl) rn_c w_mb)
    have hL := rn_bool (rn_bin (s := ⟨src, [x, .im (.int mark), .im (.int last), .im (.int (k : Int)), .im (Thg.mark m).word, .im (Thg.mark m).told]⟩) (f := fIfE (fBool (fBin φEq (fVar 4) (fC (PyData.str (Str.ofString "row"))))) (fBin φIx (fVar 5) (fC (PyData.int 0))) (fVar 5)) (g := fVar 1) (rn_iff (rn_bool (rn_bin (rn_v rfl) rn_c w_mr)) (rn_v rfl)) (rn_v rfl) lt_int)
    by_cases h : m < mark
    · rw [decide_eq_true h] at hL
      rw [if_pos h]
      exact ⟨_, rn_bind (rn_bind jT_ok (rn_siff hE (rn_seqR (rn_sift hL (rn_ret (rn_tup (rn_cons (rn_v rfl) (rn_cons (rn_v rfl) rn_pure)) (by simp))))))) rn_pure⟩
    · rw [decide_eq_false h] at hL
      rw [if_neg h]
      obtain ⟨z, r⟩ := judge_go (src := src) (x := x) ts (k + 1) m last (.im (.int (k : Int))) (.im (.str "mark")) (.im (.int m))
      exact ⟨z, rn_bind (rn_bind jT_ok (rn_siff hE (rn_seq (rn_siff hL rn_pure) (rn_set (rn_ift (rn_bool (rn_bin (rn_v rfl) rn_c w_mm)) (rn_v rfl)) (by show 1 < 6; decide))))) r⟩
  | .bar n :: ts, k, mark, last, a, b, c => by
    rw [enumF_cons]
    unfold jd
    have hE := rn_bool (rn_bin (s := ⟨src, [x, .im (.int mark), .im (.int last), .im (.int (k : Int)), .im (Thg.bar n).word, .im (Thg.bar n).told]⟩) (f := fVar 4) (g := fC (PyData.str (Str.ofString "barrier"))) (rn_v rfl) rn_c w_bb)
    have hL := rn_bool (rn_bin (s := ⟨src, [x, .im (.int mark), .im (.int last), .im (.int (k : Int)), .im (Thg.bar n).word, .im (Thg.bar n).told]⟩) (f := fVar 5) (g := fVar 2) (rn_v rfl) (rn_v rfl) le_int)
    by_cases h : n ≤ last
    · rw [decide_eq_true h] at hL
      rw [if_pos h]
      exact ⟨_, rn_bind (rn_bind jT_ok (rn_sift hE (rn_seqR (rn_sift hL (rn_ret (rn_tup (rn_cons rn_c (rn_cons (rn_v rfl) rn_pure)) (by simp))))))) rn_pure⟩
    · rw [decide_eq_false h] at hL
      rw [if_neg h]
      obtain ⟨z, r⟩ := judge_go (src := src) (x := x) ts (k + 1) mark n (.im (.int (k : Int))) (.im (.str "barrier")) (.im (.int n))
      exact ⟨z, rn_bind (rn_bind jT_ok (rn_sift hE (rn_seq (rn_siff hL rn_pure) (rn_set (rn_v rfl) (by show 2 < 6; decide))))) r⟩
  | .row p q v :: ts, k, mark, last, a, b, c => by
    rw [enumF_cons]
    unfold jd
    have hE := rn_bool (rn_bin (s := ⟨src, [x, .im (.int mark), .im (.int last), .im (.int (k : Int)), .im (Thg.row p q v).word, .im (Thg.row p q v).told]⟩) (f := fVar 4) (g := fC (PyData.str (Str.ofString "barrier"))) (rn_v rfl) rn_c w_rb)
    have hL := rn_bool (rn_bin (s := ⟨src, [x, .im (.int mark), .im (.int last), .im (.int (k : Int)), .im (Thg.row p q v).word, .im (Thg.row p q v).told]⟩) (f := fIfE (fBool (fBin φEq (fVar 4) (fC (PyData.str (Str.ofString "row"))))) (fBin φIx (fVar 5) (fC (PyData.int 0))) (fVar 5)) (g := fVar 1) (rn_ift (rn_bool (rn_bin (rn_v rfl) rn_c w_rr)) (rn_bin (r := .int p) (rn_v rfl) rn_c rfl)) (rn_v rfl) lt_int)
    by_cases h : p < mark
    · rw [decide_eq_true h] at hL
      rw [if_pos h]
      exact ⟨_, rn_bind (rn_bind jT_ok (rn_siff hE (rn_seqR (rn_sift hL (rn_ret (rn_tup (rn_cons (rn_v rfl) (rn_cons (rn_v rfl) rn_pure)) (by simp))))))) rn_pure⟩
    · rw [decide_eq_false h] at hL
      rw [if_neg h]
      obtain ⟨z, r⟩ := judge_go (src := src) (x := x) ts (k + 1) mark last (.im (.int (k : Int))) (.im (.str "row")) (.im (.tuple [.int p, .int q, v]))
      exact ⟨z, rn_bind (rn_bind jT_ok (rn_siff hE (rn_seq (rn_siff hL rn_pure) (rn_set (rn_iff (rn_bool (rn_bin (rn_v rfl) rn_c w_rm)) (rn_v rfl)) (by show 1 < 6; decide))))) r⟩
def jdD (mark : Int) (ts : List Thg) : D := (jd 0 mark 0 ts).getD .none
theorem judge_ok {mark : Int} {ts : List Thg} : φ_judge_channel [.tuple (ts.map Thg.d), .int mark] = some (jdD mark ts) := by
  obtain ⟨z, r⟩ := judge_go (src := ⟨[], 0, 0, 0⟩) (x := .im (.tuple (ts.map Thg.d))) ts 0 mark 0 .un .un .un
  have h0 : Rn (gSet 2 (fC (PyData.int 0))) ⟨⟨[], 0, 0, 0⟩, envB 6 [.tuple (ts.map Thg.d), .int mark]⟩ .nx ⟨⟨[], 0, 0, 0⟩, [.im (.tuple (ts.map Thg.d)), .im (.int mark), .im (.int 0), .un, .un, .un]⟩ := rn_set rn_c (by show 2 < 6; decide)
  have hi : Rn (fEnumA (fVar 0)) ⟨⟨[], 0, 0, 0⟩, [.im (.tuple (ts.map Thg.d)), .im (.int mark), .im (.int 0), .un, .un, .un]⟩ (enumF 0 ts) ⟨⟨[], 0, 0, 0⟩, [.im (.tuple (ts.map Thg.d)), .im (.int mark), .im (.int 0), .un, .un, .un]⟩ := rn_enum (rn_v rfl) rfl
  unfold jdD
  cases e : jd 0 mark 0 ts with
  | none =>
    rw [e] at r
    exact runB_of (rn_seq h0 (rn_seq (rn_bind hi r) (rn_ret rn_c)))
  | some d =>
    rw [e] at r
    exact runB_of (rn_seq h0 (rn_seqR (rn_bind hi r)))
end Dl

set_option Elab.async false
set_option linter.all false
set_option maxRecDepth 100000
set_option maxHeartbeats 2000000
/-! M19i: the law's own word for the first fault. -/
namespace Dl
open PySem PySem.Spec PyProof.Rows L2
abbrev fT : D → M Unit := gTup' 2 (gCons' (gName' 3) (gCons' (gName' 4) gNil'))
abbrev fO : M Bool := fOr (fAnd (fBool (fBin φEq (fVar 5) (fC (PyData.str (Str.ofString "row"))))) (fBool (fBin φLt (fBin φIx (fVar 6) (fC (PyData.int 0))) (fVar 1))))
  (fOr (fAnd (fBool (fBin φEq (fVar 5) (fC (PyData.str (Str.ofString "mark"))))) (fBool (fBin φLt (fVar 6) (fVar 1)))) (fAnd (fBool (fBin φEq (fVar 5) (fC (PyData.str (Str.ofString "barrier"))))) (fBool (fBin φLe (fVar 6) (fVar 2)))))
abbrev fM : M Out := gIf (fBool (fBin φEq (fVar 5) (fC (PyData.str (Str.ofString "mark"))))) (gSet 1 (fVar 6)) (pure Out.nx)
abbrev fL : M Out := gIf (fBool (fBin φEq (fVar 5) (fC (PyData.str (Str.ofString "barrier"))))) (gSet 2 (fVar 6)) (pure Out.nx)
abbrev fB : M Out := gSeq (gAsg (fVar 4) (gTup' 2 (gCons' (gName' 5) (gCons' (gName' 6) gNil')))) (gSeq (gIf fO (gRet (fTup (fCons (fVar 5) (fCons (fVar 3) (pure []))))) (pure Out.nx)) (gSeq fM fL))
section
variable {src : Src} {x m l a b c d : Cl} {k : Nat} {t : Thg} {mark last : Int}
theorem fT_ok : Rn (fT (.tuple [.int (k : Int), t.d])) ⟨src, [x, m, l, a, b, c, d]⟩ () ⟨src, [x, m, l, .im (.int (k : Int)), .im t.d, c, d]⟩ := rn_pair (by show 3 < 7; decide) (by show 4 < 7; decide)
theorem fA_ok : Rn (gAsg (fVar 4) (gTup' 2 (gCons' (gName' 5) (gCons' (gName' 6) gNil')))) ⟨src, [x, m, l, a, .im t.d, c, d]⟩ .nx ⟨src, [x, m, l, a, .im t.d, .im t.word, .im t.told]⟩ := rn_asg (rn_v rfl) (rn_pair (by show 5 < 7; decide) (by show 6 < 7; decide))
theorem fO_m {n : Int} : Rn fO ⟨src, [x, .im (.int mark), .im (.int last), a, b, .im (Thg.mark n).word, .im (Thg.mark n).told]⟩ (decide (n < mark)) ⟨src, [x, .im (.int mark), .im (.int last), a, b, .im (Thg.mark n).word, .im (Thg.mark n).told]⟩ := by
  refine rn_or_f (rn_and_f (rn_bool (rn_bin (rn_v rfl) rn_c w_mr))) ?_
  have hL := rn_and_t (rn_bool (rn_bin (s := ⟨src, [x, .im (.int mark), .im (.int last), a, b, .im (Thg.mark n).word, .im (Thg.mark n).told]⟩) (f := fVar 5) (g := fC (PyData.str (Str.ofString "mark"))) (rn_v rfl) rn_c w_mm)) (rn_bool (rn_bin (f := fVar 6) (g := fVar 1) (rn_v rfl) (rn_v rfl) lt_int))
  cases e : decide (n < mark) with
  | true => rw [e] at hL; exact rn_or_t hL
  | false => rw [e] at hL; exact rn_or_f hL (rn_and_f (rn_bool (rn_bin (rn_v rfl) rn_c w_mb)))
theorem fO_b {n : Int} : Rn fO ⟨src, [x, .im (.int mark), .im (.int last), a, b, .im (Thg.bar n).word, .im (Thg.bar n).told]⟩ (decide (n ≤ last)) ⟨src, [x, .im (.int mark), .im (.int last), a, b, .im (Thg.bar n).word, .im (Thg.bar n).told]⟩ :=
  rn_or_f (rn_and_f (rn_bool (rn_bin (rn_v rfl) rn_c w_br))) (rn_or_f (rn_and_f (rn_bool (rn_bin (rn_v rfl) rn_c w_bm))) (rn_and_t (rn_bool (rn_bin (rn_v rfl) rn_c w_bb)) (rn_bool (rn_bin (rn_v rfl) (rn_v rfl) le_int))))
theorem fO_r {p q : Int} {v : D} : Rn fO ⟨src, [x, .im (.int mark), .im (.int last), a, b, .im (Thg.row p q v).word, .im (Thg.row p q v).told]⟩ (decide (p < mark)) ⟨src, [x, .im (.int mark), .im (.int last), a, b, .im (Thg.row p q v).word, .im (Thg.row p q v).told]⟩ := by
  have hL := rn_and_t (rn_bool (rn_bin (s := ⟨src, [x, .im (.int mark), .im (.int last), a, b, .im (Thg.row p q v).word, .im (Thg.row p q v).told]⟩) (f := fVar 5) (g := fC (PyData.str (Str.ofString "row"))) (rn_v rfl) rn_c w_rr)) (rn_bool (rn_bin (f := fBin φIx (fVar 6) (fC (PyData.int 0))) (g := fVar 1) (rn_bin (r := .int p) (rn_v rfl) rn_c rfl) (rn_v rfl) lt_int))
  cases e : decide (p < mark) with
  | true => rw [e] at hL; exact rn_or_t hL
  | false => rw [e] at hL; exact rn_or_f hL (rn_or_f (rn_and_f (rn_bool (rn_bin (rn_v rfl) rn_c w_rm))) (rn_and_f (rn_bool (rn_bin (rn_v rfl) rn_c w_rb))))
end
theorem fault_go {src : Src} {x : Cl} : ∀ (ts : List Thg) (k : Nat) (mark last : Int) (a b c d : Cl), ∃ z, Rn (forD (gBody fT fB) (enumF k ts)) ⟨src, [x, .im (.int mark), .im (.int last), a, b, c, d]⟩ (outJ (jd last mark k ts)) z
  | [], k, mark, last, a, b, c, d => ⟨_, rn_pure⟩
  | .mark m :: ts, k, mark, last, a, b, c, d => by
    rw [enumF_cons]
    unfold jd
    have hL := fO_m (src := src) (x := x) (mark := mark) (last := last) (a := .im (.int (k : Int))) (b := .im (Thg.mark m).d) (n := m)
    by_cases h : m < mark
    · rw [decide_eq_true h] at hL
      rw [if_pos h]
      exact ⟨_, rn_bind (rn_bind fT_ok (rn_seq fA_ok (rn_seqR (rn_sift hL (rn_ret (rn_tup (rn_cons (rn_v rfl) (rn_cons (rn_v rfl) rn_pure)) (by simp))))))) rn_pure⟩
    · rw [decide_eq_false h] at hL
      rw [if_neg h]
      obtain ⟨z, r⟩ := fault_go (src := src) (x := x) ts (k + 1) m last (.im (.int (k : Int))) (.im (Thg.mark m).d) (.im (.str "mark")) (.im (.int m))
      exact ⟨z, rn_bind (rn_bind fT_ok (rn_seq fA_ok (rn_seq (rn_siff hL rn_pure) (rn_seq (rn_sift (rn_bool (rn_bin (rn_v rfl) rn_c w_mm)) (rn_set (rn_v rfl) (by show 1 < 7; decide))) (rn_siff (rn_bool (rn_bin (rn_v rfl) rn_c w_mb)) rn_pure))))) r⟩
  | .bar n :: ts, k, mark, last, a, b, c, d => by
    rw [enumF_cons]
    unfold jd
    have hL := fO_b (src := src) (x := x) (mark := mark) (last := last) (a := .im (.int (k : Int))) (b := .im (Thg.bar n).d) (n := n)
    by_cases h : n ≤ last
    · rw [decide_eq_true h] at hL
      rw [if_pos h]
      exact ⟨_, rn_bind (rn_bind fT_ok (rn_seq fA_ok (rn_seqR (rn_sift hL (rn_ret (rn_tup (rn_cons (rn_v rfl) (rn_cons (rn_v rfl) rn_pure)) (by simp))))))) rn_pure⟩
    · rw [decide_eq_false h] at hL
      rw [if_neg h]
      obtain ⟨z, r⟩ := fault_go (src := src) (x := x) ts (k + 1) mark n (.im (.int (k : Int))) (.im (Thg.bar n).d) (.im (.str "barrier")) (.im (.int n))
      exact ⟨z, rn_bind (rn_bind fT_ok (rn_seq fA_ok (rn_seq (rn_siff hL rn_pure) (rn_seq (rn_siff (rn_bool (rn_bin (rn_v rfl) rn_c w_bm)) rn_pure) (rn_sift (rn_bool (rn_bin (rn_v rfl) rn_c w_bb)) (rn_set (rn_v rfl) (by show 2 < 7; decide))))))) r⟩
  | .row p q v :: ts, k, mark, last, a, b, c, d => by
    rw [enumF_cons]
    unfold jd
    have hL := fO_r (src := src) (x := x) (mark := mark) (last := last) (a := .im (.int (k : Int))) (b := .im (Thg.row p q v).d) (p := p) (q := q) (v := v)
    by_cases h : p < mark
    · rw [decide_eq_true h] at hL
      rw [if_pos h]
      exact ⟨_, rn_bind (rn_bind fT_ok (rn_seq fA_ok (rn_seqR (rn_sift hL (rn_ret (rn_tup (rn_cons (rn_v rfl) (rn_cons (rn_v rfl) rn_pure)) (by simp))))))) rn_pure⟩
    · rw [decide_eq_false h] at hL
      rw [if_neg h]
      obtain ⟨z, r⟩ := fault_go (src := src) (x := x) ts (k + 1) mark last (.im (.int (k : Int))) (.im (Thg.row p q v).d) (.im (.str "row")) (.im (.tuple [.int p, .int q, v]))
      exact ⟨z, rn_bind (rn_bind fT_ok (rn_seq fA_ok (rn_seq (rn_siff hL rn_pure) (rn_seq (rn_siff (rn_bool (rn_bin (rn_v rfl) rn_c w_rm)) rn_pure) (rn_siff (rn_bool (rn_bin (rn_v rfl) rn_c w_rb)) rn_pure))))) r⟩
theorem fault_ok {mark : Int} {ts : List Thg} : φ__law_fault [.tuple (ts.map Thg.d), .int mark] = some (jdD mark ts) := by
  obtain ⟨z, r⟩ := fault_go (src := ⟨[], 0, 0, 0⟩) (x := .im (.tuple (ts.map Thg.d))) ts 0 mark 0 .un .un .un .un
  have h0 : Rn (gSet 2 (fC (PyData.int 0))) ⟨⟨[], 0, 0, 0⟩, envB 7 [.tuple (ts.map Thg.d), .int mark]⟩ .nx ⟨⟨[], 0, 0, 0⟩, [.im (.tuple (ts.map Thg.d)), .im (.int mark), .im (.int 0), .un, .un, .un, .un]⟩ := rn_set rn_c (by show 2 < 7; decide)
  have hi : Rn (fEnumA (fVar 0)) ⟨⟨[], 0, 0, 0⟩, [.im (.tuple (ts.map Thg.d)), .im (.int mark), .im (.int 0), .un, .un, .un, .un]⟩ (enumF 0 ts) ⟨⟨[], 0, 0, 0⟩, [.im (.tuple (ts.map Thg.d)), .im (.int mark), .im (.int 0), .un, .un, .un, .un]⟩ := rn_enum (rn_v rfl) rfl
  unfold jdD
  cases e : jd 0 mark 0 ts with
  | none =>
    rw [e] at r
    exact runB_of (rn_seq h0 (rn_seq (rn_bind hi r) (rn_ret rn_c)))
  | some d =>
    rw [e] at r
    exact runB_of (rn_seq h0 (rn_seqR (rn_bind hi r)))
end Dl

set_option Elab.async false
set_option linter.all false
set_option maxRecDepth 100000
set_option maxHeartbeats 2000000
/-! M19j: drawn things. -/
namespace Dl
open PySem PySem.Spec PyProof.Rows L2
theorem rn_append {i : Nat} {s s1 : S} {f : M D} {d : D} {ds0 ds : List D} (h0 : s.env[i]? = some (.ow ds0)) (h1 : Rn f s d s1) (h2 : s1.env[i]? = some (.ow ds)) (h3 : ds.length < 16777216) (h4 : i < s1.env.length) : Rn (fAppend i f) s .none ⟨s1.src, s1.env.set i (.ow (ds ++ [d]))⟩ :=
  rn_bind (rn_getO h0) (rn_bind h1 (rn_bind (rn_getO h2) (by rw [if_pos h3]; exact rn_bind (rn_setC h4) rn_pure)))
def Okt : Thg → Prop
  | .mark m => 0 ≤ m ∧ m ≤ 1000
  | .bar n => 0 ≤ n ∧ n ≤ 1000
  | .row a b v => 0 ≤ a ∧ a ≤ 1000 ∧ -10 ≤ b ∧ b ≤ 10 ∧ Ni 1 82 v
theorem ni_mark : Ni 0 40 (.str "mark") := ni_lit (by decide +kernel) (by decide +kernel) (by decide +kernel)
theorem ni_row : Ni 0 40 (.str "row") := ni_lit (by decide +kernel) (by decide +kernel) (by decide +kernel)
theorem ni_barrier : Ni 0 40 (.str "barrier") := ni_lit (by decide +kernel) (by decide +kernel) (by decide +kernel)
theorem Thg.niW {t : Thg} : Ni 0 40 t.word := by
  cases t with
  | mark m => exact ni_mark
  | bar n => exact ni_barrier
  | row a b v => exact ni_row
theorem Okt.ni {t : Thg} (h : Okt t) : Ni 3 502 t.d := by
  have a : Ni 2 250 t.told := by
    cases t with
    | mark m => exact (ni_int (by have := h.1; omega) (by have := h.2; omega)).mono (Nat.zero_le _) (by decide)
    | bar n => exact (ni_int (by have := h.1; omega) (by have := h.2; omega)).mono (Nat.zero_le _) (by decide)
    | row a b v =>
      obtain ⟨h1, h2, h3, h4, h5⟩ := h
      exact (ni_tup (n := 3) (all3 ((ni_int (by omega) (by omega)).mono (Nat.zero_le 1) (by decide)) ((ni_int (by omega) (by omega)).mono (Nat.zero_le 1) (by decide)) h5) (Nat.le_refl _)).mono (Nat.le_refl _) (by decide)
  exact ni_tup (n := 2) (all2 (Thg.niW.mono (Nat.zero_le _) (by decide)) a) (Nat.le_refl _)
def stepT (p : Int × Int) : Thg → Option (Int × Int)
  | .mark m => if m < p.2 then none else some (p.1, m)
  | .bar n => if n ≤ p.1 then none else some (n, p.2)
  | .row a _ _ => if a < p.2 then none else some p
def runT : Int × Int → List Thg → Option (Int × Int)
  | p, [] => some p
  | p, t :: ts => (stepT p t).bind fun q => runT q ts
theorem runT_snoc : ∀ {ts : List Thg} {p q r : Int × Int} {t : Thg}, runT p ts = some q → stepT q t = some r → runT p (ts ++ [t]) = some r
  | [], p, q, r, t, h1, h2 => by
    cases h1
    show (stepT p t).bind _ = _
    rw [h2]; rfl
  | u :: ts, p, q, r, t, h1, h2 => by
    obtain ⟨x, h3, h4⟩ := Option.bind_eq_some_iff.mp h1
    show (stepT p u).bind _ = _
    rw [h3]
    exact runT_snoc h4 h2
theorem jd_none : ∀ {ts : List Thg} {p q : Int × Int} {k : Nat}, runT p ts = some q → jd p.1 p.2 k ts = none
  | [], p, q, k, _ => rfl
  | t :: ts, p, q, k, h => by
    obtain ⟨x, h3, h4⟩ := Option.bind_eq_some_iff.mp h
    cases t with
    | mark m =>
      have h3' : (if m < p.2 then none else some (p.1, m)) = some x := h3
      unfold jd
      by_cases c : m < p.2
      · rw [if_pos c] at h3'; cases h3'
      · rw [if_neg c] at h3' ⊢
        cases h3'
        exact jd_none h4
    | bar n =>
      have h3' : (if n ≤ p.1 then none else some (n, p.2)) = some x := h3
      unfold jd
      by_cases c : n ≤ p.1
      · rw [if_pos c] at h3'; cases h3'
      · rw [if_neg c] at h3' ⊢
        cases h3'
        exact jd_none h4
    | row a b v =>
      have h3' : (if a < p.2 then none else some p) = some x := h3
      unfold jd
      by_cases c : a < p.2
      · rw [if_pos c] at h3'; cases h3'
      · rw [if_neg c] at h3' ⊢
        cases h3'
        exact jd_none h4
/-! ### a drawn value -/
theorem ix_mem {L : List D} {r : Nat} (h : r < L.length) : ∃ v, φIx (.list L) (.int (r : Int)) = some v ∧ v ∈ L := ⟨L[r], atI_ok h, List.getElem_mem h⟩
def numL : List D := [.int 0, .int 1, .int 2, .int 3, .int 5, .int (0 - 1), .int 7, .int 100000000]
def strL : List D := [.str "a", .str "b", .str "c", .str "", .str "ab", .str "z 9"]
theorem ni_numL : ∀ v ∈ numL, Ni 0 40 v := by
  intro v hv
  simp only [numL, List.mem_cons, List.not_mem_nil, or_false] at hv
  rcases hv with rfl | rfl | rfl | rfl | rfl | rfl | rfl | rfl <;> exact ni_int (by decide) (by decide)
theorem ni_strL : ∀ v ∈ strL, Ni 0 40 v := by
  intro v hv
  simp only [strL, List.mem_cons, List.not_mem_nil, or_false] at hv
  rcases hv with rfl | rfl | rfl | rfl | rfl | rfl <;> exact ni_lit (by decide +kernel) (by decide +kernel) (by decide +kernel)
theorem eq_nat0 {r : Nat} : φEq (.int (r : Int)) (.int 0) = some (.bool (decide (r = 0))) := by
  rw [eq_int]
  by_cases h : r = 0
  · subst h; rfl
  · rw [decide_eq_false h, beq_false_of_ne (by omega)]
theorem value_ok {src : Src} {kind : String} (b : Bool) (hk : (Str.ofString kind == Str.ofString "number") = b) : ∃ v src', φ__law_draw_value src [.str (Str.ofString kind)] = some (v, src') ∧ Ni 0 40 v := by
  obtain ⟨r, src1, hp, hr⟩ := pick_ok (s := src) (m := 9) (by decide) (by decide)
  have t := rn_bool (rn_bin (s := ⟨src, [.sr, .im (.str (Str.ofString kind))]⟩) (rn_callS (i := 0) (n := 1) (fs := fCons (fC (PyData.int 9)) (pure [])) (s1 := ⟨src, [.sr, .im (.str (Str.ofString kind))]⟩) rfl (rn_cons rn_c rn_pure) rfl hp) (rn_c (d := PyData.int 0)) eq_nat0)
  by_cases h : r = 0
  · rw [decide_eq_true h] at t
    exact ⟨.none, src1, runS_of (z := ⟨src1, [.sr, .im (.str (Str.ofString kind))]⟩) (rn_seqR (rn_sift t (rn_ret rn_c))), ni_none.mono (Nat.le_refl _) (by decide)⟩
  · rw [decide_eq_false h] at t
    have u := rn_bool (rn_bin (s := ⟨src1, [.sr, .im (.str (Str.ofString kind))]⟩) (f := fVar 1) (g := fC (PyData.str (Str.ofString "number"))) (rn_v rfl) rn_c (eq_str kind "number"))
    rw [hk] at u
    cases b with
    | true =>
      obtain ⟨r2, src2, hp2, hr2⟩ := pick_ok (s := src1) (m := 8) (by decide) (by decide)
      obtain ⟨v, hv, hm⟩ := ix_mem (L := numL) (r := r2) hr2
      exact ⟨v, src2, runS_of (z := ⟨src2, [.sr, .im (.str (Str.ofString kind))]⟩) (rn_seq (rn_siff t rn_pure) (rn_seqR (rn_sift u (rn_ret (rn_bin (rn_fr (rn_lst (ds := numL) (rn_cons rn_c (rn_cons rn_c (rn_cons rn_c (rn_cons rn_c (rn_cons rn_c (rn_cons (rn_bin rn_c rn_c rfl) (rn_cons rn_c (rn_cons (rn_bin rn_c rn_c rfl) rn_pure)))))))) (by simp [numL]))) (rn_callS (s1 := ⟨src1, [.sr, .im (.str (Str.ofString kind))]⟩) rfl (rn_cons rn_c rn_pure) rfl hp2) hv))))), ni_numL v hm⟩
    | false =>
      obtain ⟨r2, src2, hp2, hr2⟩ := pick_ok (s := src1) (m := 6) (by decide) (by decide)
      obtain ⟨v, hv, hm⟩ := ix_mem (L := strL) (r := r2) hr2
      exact ⟨v, src2, runS_of (z := ⟨src2, [.sr, .im (.str (Str.ofString kind))]⟩) (rn_seq (rn_siff t rn_pure) (rn_seq (rn_siff u rn_pure) (rn_ret (rn_bin (rn_fr (rn_lst (ds := strL) (rn_cons rn_c (rn_cons rn_c (rn_cons rn_c (rn_cons rn_c (rn_cons rn_c (rn_cons rn_c rn_pure)))))) (by simp [strL]))) (rn_callS (s1 := ⟨src1, [.sr, .im (.str (Str.ofString kind))]⟩) rfl (rn_cons rn_c rn_pure) rfl hp2) hv)))), ni_strL v hm⟩
theorem text_ok {src : Src} : ∃ v src', φ__law_draw_value src [.str "text"] = some (v, src') ∧ Ni 0 40 v := value_ok false (by decide +kernel)
theorem number_ok {src : Src} : ∃ v src', φ__law_draw_value src [.str "number"] = some (v, src') ∧ Ni 0 40 v := value_ok true (by rw [beq_self_eq_true])
end Dl

set_option Elab.async false
set_option linter.all false
set_option maxRecDepth 100000
set_option maxHeartbeats 2000000
/-! M19k: drawn things, all of them. -/
namespace Dl
open PySem PySem.Spec PyProof.Rows L2
abbrev W9 (mark : Int) (nums : D) (ts : List Thg) (n lap road vals : Cl) : List Cl := [.sr, .im (.int mark), .im nums, .im (.int 3), .ow (ts.map Thg.d), n, lap, road, vals]
abbrev dB1 : M Out := gSeq (gSet 1 (fBin φAdd (fVar 1) (fBin φIx (fFr (fLst (fCons (fC (PyData.int 0)) (fCons (fC (PyData.int 1)) (fCons (fC (PyData.int 3)) (fCons (fC (PyData.int 9)) (pure []))))))) (fCallS 0 1 φ__law_pick (fCons (fC (PyData.int 4)) (pure [])))))) (gDrop (fAppend 4 (fTup (fCons (fC (PyData.str (Str.ofString "mark"))) (fCons (fVar 1) (pure []))))))
abbrev dB2 : M Out := gSeq (gSet 8 (fTup (fCons (fCallS 0 1 φ__law_draw_value (fCons (fC (PyData.str (Str.ofString "text"))) (pure []))) (fCons (fCallS 0 1 φ__law_draw_value (fCons (fC (PyData.str (Str.ofString "number"))) (pure []))) (pure [])))))
  (gDrop (fAppend 4 (fTup (fCons (fC (PyData.str (Str.ofString "row"))) (fCons (fTup (fCons (fBin φAdd (fVar 1) (fCallS 0 1 φ__law_pick (fCons (fC (PyData.int 9)) (pure [])))) (fCons (fBin φIx (fFr (fLst (fCons (fC (PyData.int 1)) (fCons (fC (PyData.int 1)) (fCons (fBin φSub (fC (PyData.int 0)) (fC (PyData.int 1))) (pure [])))))) (fCallS 0 1 φ__law_pick (fCons (fC (PyData.int 3)) (pure [])))) (fCons (fVar 8) (pure []))))) (pure []))))))
abbrev dB : M Out := gSeq (gSet 7 (fCallS 0 1 φ__law_pick (fCons (fC (PyData.int 3)) (pure [])))) (gIf (fBool (fBin φEq (fVar 7) (fC (PyData.int 0)))) dB1 dB2)
section
variable {src : Src} {mark : Int} {nums : D} {ts : List Thg} {n lap road vals : Cl}
theorem map_snoc {t : Thg} : ts.map Thg.d ++ [t.d] = (ts ++ [t]).map Thg.d := by simp
theorem one_ok (h1 : 0 ≤ mark) (h2 : mark ≤ 500) (hl : ts.length < 1000) : ∃ src' mark' t road' vals', Rn dB ⟨src, W9 mark nums ts n lap road vals⟩ .nx ⟨src', W9 mark' nums (ts ++ [t]) n lap road' vals'⟩ ∧ Okt t ∧ mark ≤ mark' ∧ mark' ≤ mark + 9 ∧ ∀ last, stepT (last, mark) t = some (last, mark') := by
  obtain ⟨r, src1, hp, hr⟩ := pick_ok (s := src) (m := 3) (by decide) (by decide)
  have a : Rn (gSet 7 (fCallS 0 1 φ__law_pick (fCons (fC (PyData.int 3)) (pure [])))) ⟨src, W9 mark nums ts n lap road vals⟩ .nx ⟨src1, W9 mark nums ts n lap (.im (.int (r : Int))) vals⟩ := rn_set (rn_callS (s1 := ⟨src, W9 mark nums ts n lap road vals⟩) rfl (rn_cons rn_c rn_pure) rfl hp) (by show 7 < 9; decide)
  have t := rn_bool (rn_bin (s := ⟨src1, W9 mark nums ts n lap (.im (.int (r : Int))) vals⟩) (f := fVar 7) (g := fC (PyData.int 0)) (rn_v rfl) rn_c eq_nat0)
  have lm : (ts.map Thg.d).length < 16777216 := by rw [List.length_map]; omega
  by_cases h : r = 0
  · rw [decide_eq_true h] at t
    obtain ⟨r2, src2, hp2, hr2⟩ := pick_ok (s := src1) (m := 4) (by decide) (by decide)
    obtain ⟨v, hv, hm⟩ := ix_mem (L := [.int 0, .int 1, .int 3, .int 9]) (r := r2) hr2
    obtain ⟨k, rfl, k1, k2⟩ : ∃ k : Int, v = .int k ∧ 0 ≤ k ∧ k ≤ 9 := by
      simp only [List.mem_cons, List.not_mem_nil, or_false] at hm
      rcases hm with rfl | rfl | rfl | rfl <;> exact ⟨_, rfl, by decide, by decide⟩
    refine ⟨src2, mark + k, .mark (mark + k), .im (.int (r : Int)), vals, ?_, ⟨by omega, by omega⟩, by omega, by omega, fun last => ?_⟩
    · have s1 : Rn (gSet 1 (fBin φAdd (fVar 1) (fBin φIx (fFr (fLst (fCons (fC (PyData.int 0)) (fCons (fC (PyData.int 1)) (fCons (fC (PyData.int 3)) (fCons (fC (PyData.int 9)) (pure []))))))) (fCallS 0 1 φ__law_pick (fCons (fC (PyData.int 4)) (pure [])))))) ⟨src1, W9 mark nums ts n lap (.im (.int (r : Int))) vals⟩ .nx ⟨src2, W9 (mark + k) nums ts n lap (.im (.int (r : Int))) vals⟩ :=
        rn_set (rn_bin (rn_v rfl) (rn_bin (rn_fr (rn_lst (rn_cons rn_c (rn_cons rn_c (rn_cons rn_c (rn_cons rn_c rn_pure)))) (by simp))) (rn_callS (s1 := ⟨src1, W9 mark nums ts n lap (.im (.int (r : Int))) vals⟩) rfl (rn_cons rn_c rn_pure) rfl hp2) hv) rfl) (by show 1 < 9; decide)
      have s2 := rn_drop (rn_append (i := 4) (s := ⟨src2, W9 (mark + k) nums ts n lap (.im (.int (r : Int))) vals⟩) (f := fTup (fCons (fC (PyData.str (Str.ofString "mark"))) (fCons (fVar 1) (pure [])))) (d := (Thg.mark (mark + k)).d) (ds0 := ts.map Thg.d) (ds := ts.map Thg.d) rfl (rn_tup (rn_cons rn_c (rn_cons (rn_v rfl) rn_pure)) (by simp)) rfl lm (by show 4 < 9; decide))
      rw [map_snoc] at s2
      exact rn_seq a (rn_sift t (rn_seq s1 s2))
    · show (if mark + k < mark then none else _) = _
      rw [if_neg (by omega)]
  · rw [decide_eq_false h] at t
    obtain ⟨v1, src2, hv1, n1⟩ := text_ok (src := src1)
    obtain ⟨v2, src3, hv2, n2⟩ := number_ok (src := src2)
    obtain ⟨r4, src4, hp4, hr4⟩ := pick_ok (s := src3) (m := 9) (by decide) (by decide)
    obtain ⟨r5, src5, hp5, hr5⟩ := pick_ok (s := src4) (m := 3) (by decide) (by decide)
    obtain ⟨v, hv, hm⟩ := ix_mem (L := [.int 1, .int 1, .int (0 - 1)]) (r := r5) hr5
    obtain ⟨k, rfl, k1, k2⟩ : ∃ k : Int, v = .int k ∧ -10 ≤ k ∧ k ≤ 10 := by
      simp only [List.mem_cons, List.not_mem_nil, or_false] at hm
      rcases hm with rfl | rfl | rfl <;> exact ⟨_, rfl, by decide, by decide⟩
    refine ⟨src5, mark, .row (mark + (r4 : Int)) k (.tuple [v1, v2]), .im (.int (r : Int)), .im (.tuple [v1, v2]), ?_, ⟨by omega, by omega, k1, k2, ni_tup (n := 2) (all2 n1 n2) (Nat.le_refl _)⟩, by omega, by omega, fun last => ?_⟩
    · have s1 : Rn (gSet 8 (fTup (fCons (fCallS 0 1 φ__law_draw_value (fCons (fC (PyData.str (Str.ofString "text"))) (pure []))) (fCons (fCallS 0 1 φ__law_draw_value (fCons (fC (PyData.str (Str.ofString "number"))) (pure []))) (pure []))))) ⟨src1, W9 mark nums ts n lap (.im (.int (r : Int))) vals⟩ .nx ⟨src3, W9 mark nums ts n lap (.im (.int (r : Int))) (.im (.tuple [v1, v2]))⟩ :=
        rn_set (rn_tup (rn_cons (rn_callS (s1 := ⟨src1, W9 mark nums ts n lap (.im (.int (r : Int))) vals⟩) rfl (rn_cons rn_c rn_pure) rfl hv1) (rn_cons (rn_callS (s1 := ⟨src2, W9 mark nums ts n lap (.im (.int (r : Int))) vals⟩) rfl (rn_cons rn_c rn_pure) rfl hv2) rn_pure)) (by simp)) (by show 8 < 9; decide)
      have el := rn_tup (fs := fCons (fC (PyData.str (Str.ofString "row"))) (fCons (fTup (fCons (fBin φAdd (fVar 1) (fCallS 0 1 φ__law_pick (fCons (fC (PyData.int 9)) (pure [])))) (fCons (fBin φIx (fFr (fLst (fCons (fC (PyData.int 1)) (fCons (fC (PyData.int 1)) (fCons (fBin φSub (fC (PyData.int 0)) (fC (PyData.int 1))) (pure [])))))) (fCallS 0 1 φ__law_pick (fCons (fC (PyData.int 3)) (pure [])))) (fCons (fVar 8) (pure []))))) (pure [])))
        (rn_cons (s := ⟨src3, W9 mark nums ts n lap (.im (.int (r : Int))) (.im (.tuple [v1, v2]))⟩) rn_c (rn_cons (rn_tup (rn_cons (rn_bin (rn_v rfl) (rn_callS (s1 := ⟨src3, W9 mark nums ts n lap (.im (.int (r : Int))) (.im (.tuple [v1, v2]))⟩) rfl (rn_cons rn_c rn_pure) rfl hp4) rfl) (rn_cons (rn_bin (rn_fr (rn_lst (rn_cons rn_c (rn_cons rn_c (rn_cons (rn_bin rn_c rn_c rfl) rn_pure))) (by simp))) (rn_callS (s1 := ⟨src4, W9 mark nums ts n lap (.im (.int (r : Int))) (.im (.tuple [v1, v2]))⟩) rfl (rn_cons rn_c rn_pure) rfl hp5) hv) (rn_cons (rn_v rfl) rn_pure))) (by simp)) rn_pure)) (by simp)
      have s2 := rn_drop (rn_append (i := 4) (d := (Thg.row (mark + (r4 : Int)) k (.tuple [v1, v2])).d) (ds0 := ts.map Thg.d) (ds := ts.map Thg.d) rfl el rfl lm (by show 4 < 9; decide))
      rw [map_snoc] at s2
      exact rn_seq a (rn_siff t (rn_seq s1 s2))
    · show (if mark + (r4 : Int) < mark then none else _) = _
      rw [if_neg (by omega)]
end
end Dl

set_option Elab.async false
set_option linter.all false
set_option maxRecDepth 100000
set_option maxHeartbeats 2000000
/-! M19l: the drawn things are right. -/
namespace Dl
open PySem PySem.Spec PyProof.Rows L2
theorem rn_give {i : Nat} {s : S} {ds : List D} (h : s.env[i]? = some (.ow ds)) (h2 : i < s.env.length) : Rn (fGive i) s (.list ds) ⟨s.src, s.env.set i (.im (.list ds))⟩ := rn_bind (rn_getO h) (rn_bind (rn_setC h2) rn_pure)
def lst : Nat → Int
  | 0 => 0
  | 1 => 1
  | 2 => 2
  | 3 => 5
  | _ => 9
def cutN (r : Nat) : List D := cutD [.int 1, .int 2, .int 5, .int 9] none (some (r : Int))
theorem nl_get {r i : Nat} {x : D} (hr : r < 5) (h : (cutN r ++ [.none])[i]? = some x) : i < 5 ∧ (x = .none ∨ (i < 4 ∧ x = .int (lst (i + 1)))) := by
  have : r = 0 ∨ r = 1 ∨ r = 2 ∨ r = 3 ∨ r = 4 := by omega
  rcases this with rfl | rfl | rfl | rfl | rfl
  · match i, h with
    | 0, h => cases h; exact ⟨by decide, .inl rfl⟩
  · match i, h with
    | 0, h => cases h; exact ⟨by decide, .inr ⟨by decide, rfl⟩⟩
    | 1, h => cases h; exact ⟨by decide, .inl rfl⟩
  · match i, h with
    | 0, h => cases h; exact ⟨by decide, .inr ⟨by decide, rfl⟩⟩
    | 1, h => cases h; exact ⟨by decide, .inr ⟨by decide, rfl⟩⟩
    | 2, h => cases h; exact ⟨by decide, .inl rfl⟩
  · match i, h with
    | 0, h => cases h; exact ⟨by decide, .inr ⟨by decide, rfl⟩⟩
    | 1, h => cases h; exact ⟨by decide, .inr ⟨by decide, rfl⟩⟩
    | 2, h => cases h; exact ⟨by decide, .inr ⟨by decide, rfl⟩⟩
    | 3, h => cases h; exact ⟨by decide, .inl rfl⟩
  · match i, h with
    | 0, h => cases h; exact ⟨by decide, .inr ⟨by decide, rfl⟩⟩
    | 1, h => cases h; exact ⟨by decide, .inr ⟨by decide, rfl⟩⟩
    | 2, h => cases h; exact ⟨by decide, .inr ⟨by decide, rfl⟩⟩
    | 3, h => cases h; exact ⟨by decide, .inr ⟨by decide, rfl⟩⟩
    | 4, h => cases h; exact ⟨by decide, .inl rfl⟩
theorem lst_lt {i : Nat} (h : i < 4) : lst i < lst (i + 1) ∧ 0 ≤ lst (i + 1) ∧ lst (i + 1) ≤ 9 := by
  match i, h with
  | 0, _ => decide
  | 1, _ => decide
  | 2, _ => decide
  | 3, _ => decide
theorem lst_le {i : Nat} (h : i < 5) : lst i ≤ lst (i + 1) := by
  match i, h with
  | 0, _ => decide
  | 1, _ => decide
  | 2, _ => decide
  | 3, _ => decide
  | 4, _ => decide
structure Good (m0 : Int) (ts : List Thg) (last mark : Int) : Prop where
  run : runT (0, m0) ts = some (last, mark)
  all : ∀ t ∈ ts, Okt t
  pos : 0 ≤ mark
theorem Good.snoc {m0 last mark last' mark' : Int} {ts : List Thg} {t : Thg} (h : Good m0 ts last mark) (ht : Okt t) (hs : stepT (last, mark) t = some (last', mark')) (hp : 0 ≤ mark') : Good m0 (ts ++ [t]) last' mark' :=
  ⟨runT_snoc h.run hs, fun u hu => by
    rcases List.mem_append.mp hu with hu | hu
    · exact h.all u hu
    · rw [List.mem_singleton.mp hu]; exact ht, hp⟩
abbrev innD : M Out := gFor (fRange1 (fCallS 0 1 φ__law_pick (fCons (fBin φAdd (fVar 3) (fC (PyData.int 1))) (pure [])))) (gName' 6) dB
section
variable {src : Src} {m0 last mark : Int} {nums : D} {ts : List Thg} {n lap road vals : Cl}
theorem innD_ok (g : Good m0 ts last mark) (h2 : mark ≤ 400) (hl : ts.length < 900) : ∃ src' mark' ts' lap' road' vals', Rn innD ⟨src, W9 mark nums ts n lap road vals⟩ .nx ⟨src', W9 mark' nums ts' n lap' road' vals'⟩ ∧ Good m0 ts' last mark' ∧ mark' ≤ mark + 27 ∧ ts'.length ≤ ts.length + 3 := by
  obtain ⟨r, src1, hp, hr⟩ := pick_ok (s := src) (m := 4) (by decide) (by decide)
  have step : ∀ (j : Nat) (x : D) (z : S), (rangeD 0 r)[j]? = some x → (∃ src mark' ts' lap road vals, z = ⟨src, W9 mark' nums ts' n lap road vals⟩ ∧ Good m0 ts' last mark' ∧ mark' ≤ mark + 9 * (j : Int) ∧ ts'.length ≤ ts.length + j) →
      ∃ z1 z2, Rn (gName' 6 x) z () z1 ∧ Rn dB z1 .nx z2 ∧ ∃ src mark' ts' lap road vals, z2 = ⟨src, W9 mark' nums ts' n lap road vals⟩ ∧ Good m0 ts' last mark' ∧ mark' ≤ mark + 9 * ((j + 1 : Nat) : Int) ∧ ts'.length ≤ ts.length + (j + 1) := by
    rintro j x z hx ⟨src, mark', ts', lap, road, vals, rfl, g', hm, hn⟩
    have hj : j < r := by
      have := (List.getElem?_eq_some_iff.mp hx).1
      rwa [rangeD_len] at this
    obtain ⟨src', mark2, t, road', vals', rn, ok, a, b, c⟩ := one_ok (src := src) (nums := nums) (ts := ts') (n := n) (lap := .im x) (road := road) (vals := vals) g'.pos (by omega) (by omega)
    exact ⟨_, _, rn_name (by show 6 < 9; decide), rn, src', mark2, ts' ++ [t], .im x, road', vals', rfl, g'.snoc ok (c last) (by have := g'.pos; omega), by push_cast; omega, by rw [List.length_append]; show ts'.length + 1 ≤ _; omega⟩
  obtain ⟨s', rn, src', mark', ts', lap', road', vals', rfl, g', hm, hn⟩ := rn_for (k := gName' 6) (bd := dB) (fun j z => ∃ src mark' ts' lap road vals, z = ⟨src, W9 mark' nums ts' n lap road vals⟩ ∧ Good m0 ts' last mark' ∧ mark' ≤ mark + 9 * (j : Int) ∧ ts'.length ≤ ts.length + j)
    (rn_rng (rn_callS (s := ⟨src, W9 mark nums ts n lap road vals⟩) (s1 := ⟨src, W9 mark nums ts n lap road vals⟩) (i := 0) (n := 1) (fs := fCons (fBin φAdd (fVar 3) (fC (PyData.int 1))) (pure [])) rfl (rn_cons (rn_bin (rn_v rfl) rn_c rfl) rn_pure) rfl hp) (range1_ok (by omega))) ⟨src1, mark, ts, lap, road, vals, rfl, g, by simp, by simp⟩ step
  rw [rangeD_len] at hm hn
  exact ⟨src', mark', ts', lap', road', vals', rn, g', by omega, by omega⟩
abbrev outD : M Out := gFor (fSeq (fBin φAdd (fVar 2) (fFr (fLst (fCons (fC PyData.none) (pure [])))))) (gName' 5) (gSeq innD (gIf (fBool (fBin φIsNot (fVar 5) (fC PyData.none))) (gDrop (fAppend 4 (fTup (fCons (fC (PyData.str (Str.ofString "barrier"))) (fCons (fVar 5) (pure [])))))) (pure Out.nx)))
theorem outD_ok {r : Nat} (hr : r < 5) (h1 : 0 ≤ m0) (h2 : m0 ≤ 7) : ∃ src' mark' ts' n' lap' road' vals' last', Rn outD ⟨src, W9 m0 (.list (cutN r)) [] n lap road vals⟩ .nx ⟨src', W9 mark' (.list (cutN r)) ts' n' lap' road' vals'⟩ ∧ Good m0 ts' last' mark' ∧ ts'.length ≤ 20 := by
  have step : ∀ (i : Nat) (x : D) (z : S), (cutN r ++ [.none])[i]? = some x → (∃ src mark' ts' n lap road vals last, z = ⟨src, W9 mark' (.list (cutN r)) ts' n lap road vals⟩ ∧ Good m0 ts' last mark' ∧ mark' ≤ 7 + 27 * (i : Int) ∧ ts'.length ≤ 4 * i ∧ last ≤ lst i) →
      ∃ z1 z2, Rn (gName' 5 x) z () z1 ∧ Rn (gSeq innD (gIf (fBool (fBin φIsNot (fVar 5) (fC PyData.none))) (gDrop (fAppend 4 (fTup (fCons (fC (PyData.str (Str.ofString "barrier"))) (fCons (fVar 5) (pure [])))))) (pure Out.nx))) z1 .nx z2 ∧ ∃ src mark' ts' n lap road vals last, z2 = ⟨src, W9 mark' (.list (cutN r)) ts' n lap road vals⟩ ∧ Good m0 ts' last mark' ∧ mark' ≤ 7 + 27 * ((i + 1 : Nat) : Int) ∧ ts'.length ≤ 4 * (i + 1) ∧ last ≤ lst (i + 1) := by
    rintro i x z hx ⟨src, mark', ts', n, lap, road, vals, last, rfl, g, hm, hn, hL⟩
    obtain ⟨hi, hx2⟩ := nl_get hr hx
    obtain ⟨src', mark2, ts2, lap2, road2, vals2, rn, g2, hm2, hn2⟩ := innD_ok (src := src) (nums := .list (cutN r)) (n := .im x) (lap := lap) (road := road) (vals := vals) g (by omega) (by omega)
    rcases hx2 with rfl | ⟨hi4, rfl⟩
    · exact ⟨_, _, rn_name (by show 5 < 9; decide), rn_seq rn (rn_siff (rn_bool (rn_bin (rn_v rfl) rn_c rfl)) rn_pure), src', mark2, ts2, .im .none, lap2, road2, vals2, last, rfl, g2, by push_cast; omega, by omega, Int.le_trans hL (lst_le hi)⟩
    · obtain ⟨l1, l2, l3⟩ := lst_lt hi4
      have ap := rn_drop (rn_append (i := 4) (s := ⟨src', W9 mark2 (.list (cutN r)) ts2 (.im (.int (lst (i + 1)))) lap2 road2 vals2⟩) (f := fTup (fCons (fC (PyData.str (Str.ofString "barrier"))) (fCons (fVar 5) (pure [])))) (d := (Thg.bar (lst (i + 1))).d) (ds0 := ts2.map Thg.d) (ds := ts2.map Thg.d) rfl (rn_tup (rn_cons rn_c (rn_cons (rn_v rfl) rn_pure)) (by simp)) rfl (by rw [List.length_map]; omega) (by show 4 < 9; decide))
      rw [map_snoc] at ap
      refine ⟨_, _, rn_name (by show 5 < 9; decide), rn_seq rn (rn_sift (rn_bool (rn_bin (rn_v rfl) rn_c rfl)) ap), src', mark2, ts2 ++ [.bar (lst (i + 1))], .im (.int (lst (i + 1))), lap2, road2, vals2, lst (i + 1), rfl, g2.snoc (t := .bar (lst (i + 1))) (show Okt (.bar (lst (i + 1))) from ⟨l2, by omega⟩) ?_ g2.pos, by push_cast; omega, by rw [List.length_append]; show ts2.length + 1 ≤ _; omega, Int.le_refl _⟩
      show (if lst (i + 1) ≤ last then none else _) = _
      rw [if_neg (by omega)]
  have hl : (cutN r ++ [PyData.none]).length ≤ 5 := by
    rcases (show r = 0 ∨ r = 1 ∨ r = 2 ∨ r = 3 ∨ r = 4 by omega) with rfl | rfl | rfl | rfl | rfl <;> decide
  have ha : φAdd (.list (cutN r)) (.list [.none]) = some (.list (cutN r ++ [.none])) := by
    show (if (cutN r).length + 1 ≤ 16777216 then _ else none) = _
    rw [if_pos (by rw [List.length_append] at hl; exact Nat.le_trans hl (by decide))]
  obtain ⟨s', rn, src', mark', ts', n', lap', road', vals', last', rfl, g', hm, hn, _⟩ := rn_for (k := gName' 5) (bd := gSeq innD (gIf (fBool (fBin φIsNot (fVar 5) (fC PyData.none))) (gDrop (fAppend 4 (fTup (fCons (fC (PyData.str (Str.ofString "barrier"))) (fCons (fVar 5) (pure [])))))) (pure Out.nx))) (fun i z => ∃ src mark' ts' n lap road vals last, z = ⟨src, W9 mark' (.list (cutN r)) ts' n lap road vals⟩ ∧ Good m0 ts' last mark' ∧ mark' ≤ 7 + 27 * (i : Int) ∧ ts'.length ≤ 4 * i ∧ last ≤ lst i)
    (rn_items (rn_bin (s := ⟨src, W9 m0 (.list (cutN r)) [] n lap road vals⟩) (f := fVar 2) (rn_v rfl) (rn_fr (rn_lst (rn_cons rn_c rn_pure) (by simp))) ha) rfl) ⟨src, m0, [], n, lap, road, vals, 0, rfl, ⟨rfl, fun t ht => (by cases ht), h1⟩, by simpa using h2, by simp, by decide⟩ step
  exact ⟨src', mark', ts', n', lap', road', vals', last', rn, g', by omega⟩
theorem things_ok {r : Nat} (hr : r < 5) (h1 : 0 ≤ m0) (h2 : m0 ≤ 7) : ∃ ts src', φ__law_draw_things src [.int m0, .list (cutN r), .int 3] = some (.tuple (ts.map Thg.d), src') ∧ (∀ t ∈ ts, Okt t) ∧ ts.length ≤ 20 ∧ jd 0 m0 0 ts = none := by
  obtain ⟨src', mark', ts', n', lap', road', vals', last', rn, g, hl⟩ := outD_ok (src := src) (n := .un) (lap := .un) (road := .un) (vals := .un) hr h1 h2
  have h0 : Rn (gOwn 4 (fLst (pure []))) ⟨src, .sr :: envB 8 [.int m0, .list (cutN r), .int 3]⟩ .nx ⟨src, W9 m0 (.list (cutN r)) [] .un .un .un .un⟩ := rn_own (rn_lst rn_pure (by simp)) (by show 4 < 9; decide)
  refine ⟨ts', src', ?_, g.all, hl, jd_none (p := (0, m0)) g.run⟩
  exact runS_of (z := ⟨src', [.sr, .im (.int mark'), .im (.list (cutN r)), .im (.int 3), .im (.list (ts'.map Thg.d)), n', lap', road', vals']⟩) (rn_seq h0 (rn_seq rn (rn_ret (rn_fn (rn_cons (rn_give rfl (by show 4 < 9; decide)) rn_pure) rfl))))
end
end Dl

set_option Elab.async false
set_option linter.all false
set_option maxRecDepth 100000
set_option maxHeartbeats 2000000
/-! M19m: before, behind, numbers_in. -/
namespace Dl
open PySem PySem.Spec PyProof.Rows L2
abbrev barT (n : Int) : D := .tuple [.str "barrier", .int n]
theorem ni_barT {n : Int} (h1 : 0 ≤ n) (h2 : n ≤ 1000) : Ni 1 82 (barT n) := ni_tup (n := 2) (all2 ni_barrier (ni_int (by omega) (by omega))) (Nat.le_refl _)
def fst' : D → D
  | .tuple (a :: _) => a
  | _ => .none
def snd' : D → D
  | .tuple (_ :: b :: _) => b
  | _ => .none
theorem enumF_mem : ∀ {ts : List Thg} {k : Nat} {x : D}, x ∈ enumF k ts → ∃ (j : Nat) (t : Thg), x = .tuple [.int (j : Int), t.d] ∧ t ∈ ts ∧ j < k + ts.length
  | [], k, x, h => by cases h
  | t :: ts, k, x, h => by
    rw [enumF_cons] at h
    rcases List.mem_cons.mp h with rfl | h
    · exact ⟨k, t, rfl, List.mem_cons_self, by simp⟩
    · obtain ⟨j, u, e, hu, hj⟩ := enumF_mem h
      exact ⟨j, u, e, List.mem_cons_of_mem _ hu, by show j < k + (ts.length + 1); omega⟩
theorem enumF_len {ts : List Thg} {k : Nat} : (enumF k ts).length = ts.length := by simp [enumF]
def pB (n : Int) (x : D) : Bool := PyData.eqv (snd' x) (barT n)
def places (n : Int) (ts : List Thg) : List D := ((enumF 0 ts).filter (pB n)).map fst'
def placeD (n : Int) (ts : List Thg) : D := match places n ts with
  | [] => .int (ts.length : Int)
  | a :: _ => a
theorem places_int {n : Int} {ts : List Thg} {a : D} (h : a ∈ places n ts) : ∃ j : Nat, a = .int (j : Int) := by
  obtain ⟨x, hx, rfl⟩ := List.mem_map.mp h
  obtain ⟨j, t, rfl, _⟩ := enumF_mem (List.mem_filter.mp hx).1
  exact ⟨j, rfl⟩
theorem placeD_int {n : Int} {ts : List Thg} : ∃ p : Int, placeD n ts = .int p := by
  unfold placeD
  cases e : places n ts with
  | nil => exact ⟨_, rfl⟩
  | cons a r =>
    obtain ⟨j, h⟩ := places_int (n := n) (ts := ts) (a := a) (by rw [e]; exact List.mem_cons_self)
    exact ⟨_, h⟩
theorem places_lc {vs : List Nat} {i j nn : Nat} {src : Src} {E : List Cl} {n : Int} {ts : List Thg} (B : D → D → List Cl) {s : S} {fi : M (List D)} (hfi : Rn fi s (enumF 0 ts) ⟨src, E⟩)
    (h1 : 0 ≤ n) (h2 : n ≤ 1000) (ok : ∀ t ∈ ts, Okt t) (hl : ts.length ≤ 1000) (hB : ∀ x y, unE vs (B x y) = unE vs E) (hg : ∀ x y, Rn (gTup' 2 (gCons' (gName' i) (gCons' (gName' j) gNil')) (.tuple [x, y])) ⟨src, unE vs E⟩ () ⟨src, B x y⟩)
    (hi : ∀ x y, (B x y)[i]? = some (.im x)) (hj : ∀ x y, (B x y)[j]? = some (.im y)) (hn : ∀ x y, (B x y)[nn]? = some (.im (.int n))) (hE : backE vs E (unE vs E) = E) :
    Rn (fLc vs fi (gTup' 2 (gCons' (gName' i) (gCons' (gName' j) gNil'))) (fBool (fBin φEq (fVar j) (fTup (fCons (fC (PyData.str (Str.ofString "barrier"))) (fCons (fVar nn) (pure [])))))) (fVar i)) s (places n ts) ⟨src, E⟩ := by
  refine rn_lc (fun x => B (fst' x) (snd' x)) (pB n) fst' hfi (fun x _ => hB _ _) (fun x hx => ?_) (fun x hx => ?_) (fun x _ _ => rn_v (hi _ _)) (by rw [enumF_len]; omega) hE
  · obtain ⟨k, t, rfl, _⟩ := enumF_mem hx
    exact hg _ _
  · obtain ⟨k, t, rfl, ht, _⟩ := enumF_mem hx
    exact rn_bool (rn_bin (rn_v (hj _ _)) (rn_tup (rn_cons rn_c (rn_cons (rn_v (hn _ _)) rn_pure)) (by simp)) (eq_ok (ok t ht).ni (ni_barT h1 h2) (by decide) (by decide)))
section
variable {n : Int} {ts : List Thg}
theorem place_ok (h1 : 0 ≤ n) (h2 : n ≤ 1000) (ok : ∀ t ∈ ts, Okt t) (hl : ts.length ≤ 1000) : φ__place_of [.tuple (ts.map Thg.d), .int n] = some (placeD n ts) := by
  have lc := places_lc (vs := [3, 4]) (i := 3) (j := 4) (nn := 1) (src := ⟨[], 0, 0, 0⟩) (E := [.im (.tuple (ts.map Thg.d)), .im (.int n), .un, .un, .un]) (s := ⟨⟨[], 0, 0, 0⟩, [.im (.tuple (ts.map Thg.d)), .im (.int n), .un, .un, .un]⟩) (fi := fEnumA (fVar 0)) (fun x y => [.im (.tuple (ts.map Thg.d)), .im (.int n), .un, .im x, .im y]) (rn_enum (rn_v rfl) rfl) h1 h2 ok hl
    (fun _ _ => rfl) (fun _ _ => rn_pair (by show 3 < 5; decide) (by show 4 < 5; decide)) (fun _ _ => rfl) (fun _ _ => rfl) (fun _ _ => rfl) rfl
  have s1 : Rn (gSet 2 (fFr (fLc [3, 4] (fEnumA (fVar 0)) (gTup' 2 (gCons' (gName' 3) (gCons' (gName' 4) gNil'))) (fBool (fBin φEq (fVar 4) (fTup (fCons (fC (PyData.str (Str.ofString "barrier"))) (fCons (fVar 1) (pure [])))))) (fVar 3)))) ⟨⟨[], 0, 0, 0⟩, envB 5 [.tuple (ts.map Thg.d), .int n]⟩ .nx ⟨⟨[], 0, 0, 0⟩, [.im (.tuple (ts.map Thg.d)), .im (.int n), .im (.list (places n ts)), .un, .un]⟩ := rn_set (rn_fr lc) (by show 2 < 5; decide)
  have t := rn_bool (rn_bin (s := ⟨⟨[], 0, 0, 0⟩, [.im (.tuple (ts.map Thg.d)), .im (.int n), .im (.list (places n ts)), .un, .un]⟩) (φ := φGt) (rn_fn (φ := φLen) (fs := fCons (fVar 2) (pure [])) (rn_cons (rn_v rfl) rn_pure) rfl) (rn_c (d := PyData.int 0)) (r := .bool (decide ((0 : Int) < ((places n ts).length : Int)))) rfl)
  unfold placeD
  cases e : places n ts with
  | nil =>
    rw [e] at t s1
    exact runB_of (rn_seq s1 (rn_ret (rn_iff t (rn_fn (rn_cons (rn_v rfl) rn_pure) (by show some (PyData.int ((ts.map Thg.d).length : Int)) = _; rw [List.length_map])))))
  | cons a r =>
    rw [e] at t s1
    rw [decide_eq_true (by simp)] at t
    exact runB_of (rn_seq s1 (rn_ret (rn_ift t (rn_bin (rn_v rfl) rn_c (atI_ok (xs := a :: r) (r := 0) (by simp))))))
theorem before_ok (h1 : 0 ≤ n) (h2 : n ≤ 1000) (ok : ∀ t ∈ ts, Okt t) (hl : ts.length ≤ 1000) {p : Int} (hp : placeD n ts = .int p) : φ_before [.tuple (ts.map Thg.d), .int n] = some (.tuple (cutD (ts.map Thg.d) none (some p))) := by
  have h := place_ok h1 h2 ok hl
  rw [hp] at h
  exact runB_of (z := ⟨⟨[], 0, 0, 0⟩, [.im (.tuple (ts.map Thg.d)), .im (.int n)]⟩) (rn_ret (rn_sl (rn_v rfl) rn_pure (rn_part (rn_call (rn_cons (rn_v rfl) (rn_cons (rn_v rfl) rn_pure)) rfl h)) rfl))
theorem behind_ok (h1 : 0 ≤ n) (h2 : n ≤ 1000) (ok : ∀ t ∈ ts, Okt t) (hl : ts.length ≤ 1000) {p : Int} (hp : placeD n ts = .int p) : φ_behind [.tuple (ts.map Thg.d), .int n] = some (.tuple (cutD (ts.map Thg.d) (some (p + 1)) none)) := by
  have h := place_ok h1 h2 ok hl
  rw [hp] at h
  exact runB_of (z := ⟨⟨[], 0, 0, 0⟩, [.im (.tuple (ts.map Thg.d)), .im (.int n)]⟩) (rn_ret (rn_sl (rn_v rfl) (rn_part (rn_bin (rn_call (rn_cons (rn_v rfl) (rn_cons (rn_v rfl) rn_pure)) rfl h) rn_c rfl)) rn_pure rfl))
/-! ### numbers_in -/
def pN (x : D) : Bool := PyData.eqv (fst' x) (.str "barrier")
def numsOf (ts : List Thg) : List D := ((ts.map Thg.d).filter pN).map snd'
theorem nums_lc {i : Nat} {src : Src} {E : List Cl} {s : S} {fi : M (List D)} (B : D → List Cl) (hfi : Rn fi s (ts.map Thg.d) ⟨src, E⟩) (hl : ts.length ≤ 1000) (hB : ∀ x, unE [i] (B x) = unE [i] E) (hg : ∀ x, Rn (gName' i x) ⟨src, unE [i] E⟩ () ⟨src, B x⟩)
    (hi : ∀ x, (B x)[i]? = some (.im x)) (hE : backE [i] E (unE [i] E) = E) :
    Rn (fLc [i] fi (gName' i) (fBool (fBin φEq (fBin φIx (fVar i) (fC (PyData.int 0))) (fC (PyData.str (Str.ofString "barrier"))))) (fBin φIx (fVar i) (fC (PyData.int 1)))) s (numsOf ts) ⟨src, E⟩ := by
  refine rn_lc B pN snd' hfi (fun x _ => hB _) (fun x _ => hg _) (fun x hx => ?_) (fun x hx _ => ?_) (by rw [List.length_map]; omega) hE
  · obtain ⟨t, _, rfl⟩ := List.mem_map.mp hx
    exact rn_bool (rn_bin (rn_bin (r := t.word) (rn_v (hi _)) rn_c rfl) rn_c (eq_ok Thg.niW ni_barrier (by decide) (by decide)))
  · obtain ⟨t, _, rfl⟩ := List.mem_map.mp hx
    exact rn_bin (rn_v (hi _)) rn_c rfl
theorem Okt.niT {t : Thg} (h : Okt t) : Ni 2 250 t.told := by
  cases t with
  | mark m => exact (ni_int (by have := h.1; omega) (by have := h.2; omega)).mono (Nat.zero_le _) (by decide)
  | bar n => exact (ni_int (by have := h.1; omega) (by have := h.2; omega)).mono (Nat.zero_le _) (by decide)
  | row a b v =>
    obtain ⟨h1, h2, h3, h4, h5⟩ := h
    exact (ni_tup (n := 3) (all3 ((ni_int (by omega) (by omega)).mono (Nat.zero_le 1) (by decide)) ((ni_int (by omega) (by omega)).mono (Nat.zero_le 1) (by decide)) h5) (Nat.le_refl _)).mono (Nat.le_refl _) (by decide)
theorem ni_nums (ok : ∀ t ∈ ts, Okt t) (hl : ts.length ≤ 20) : Ni 3 5020 (.tuple (numsOf ts)) := by
  refine ni_tup (n := 20) (w := 250) (fun d hd => ?_) ?_
  · obtain ⟨x, hx, rfl⟩ := List.mem_map.mp hd
    obtain ⟨t, ht, rfl⟩ := List.mem_map.mp (List.mem_filter.mp hx).1
    exact (ok t ht).niT
  · unfold numsOf
    rw [List.length_map]
    exact Nat.le_trans (List.length_filter_le _ _) (by rw [List.length_map]; exact hl)
theorem numbers_ok (hl : ts.length ≤ 1000) : φ_numbers_in [.tuple (ts.map Thg.d)] = some (.tuple (numsOf ts)) := by
  have lc := nums_lc (i := 1) (src := ⟨[], 0, 0, 0⟩) (E := [.im (.tuple (ts.map Thg.d)), .un]) (s := ⟨⟨[], 0, 0, 0⟩, [.im (.tuple (ts.map Thg.d)), .un]⟩) (fi := fSeq (fVar 0)) (ts := ts) (fun x => [.im (.tuple (ts.map Thg.d)), .im x]) (rn_items (rn_v rfl) rfl) hl (fun _ => rfl) (fun _ => rn_name (by show 1 < 2; decide)) (fun _ => rfl) rfl
  exact runB_of (rn_ret (rn_fn (rn_cons (rn_fr lc) rn_pure) rfl))
end
end Dl

set_option Elab.async false
set_option linter.all false
set_option maxRecDepth 100000
set_option maxHeartbeats 2000000
/-! M19n: the law's second half is True. -/
namespace Dl
open PySem PySem.Spec PyProof.Rows L2
abbrev W12 (mark things nums n lap at_ bent low thing k j : Cl) : List Cl := [.sr, mark, things, nums, n, lap, at_, bent, low, thing, k, j]
theorem cut_mem {ds : List D} {lo hi : Option Int} {d : D} (h : d ∈ cutD ds lo hi) : d ∈ ds := List.mem_of_mem_drop (List.mem_of_mem_take h)
theorem cut_len {ds : List D} {lo hi : Option Int} : (cutD ds lo hi).length ≤ ds.length := by
  unfold cutD
  rw [List.length_take, List.length_drop]
  omega
theorem unmap : ∀ {bs : List D} {ts : List Thg}, (∀ d ∈ bs, d ∈ ts.map Thg.d) → ∃ us : List Thg, bs = us.map Thg.d ∧ ∀ u ∈ us, u ∈ ts
  | [], ts, _ => ⟨[], rfl, fun u hu => by cases hu⟩
  | b :: bs, ts, h => by
    obtain ⟨us, rfl, hu⟩ := unmap fun d hd => h d (List.mem_cons_of_mem _ hd)
    obtain ⟨t, ht, e⟩ := List.mem_map.mp (h b List.mem_cons_self)
    refine ⟨t :: us, by rw [List.map_cons, e], fun u hu' => ?_⟩
    rcases List.mem_cons.mp hu' with rfl | hu'
    · exact ht
    · exact hu u hu'
theorem jd_bad : ∀ {ts : List Thg} {last mark : Int} {k : Nat} {d : D}, jd last mark k ts = some d → ∃ (t : Thg) (j : Nat), d = badD t j ∧ j < k + ts.length
  | [], last, mark, k, d, h => by cases h
  | t :: ts, last, mark, k, d, h => by
    have go : ∀ {l m : Int}, jd l m (k + 1) ts = some d → ∃ (t : Thg) (j : Nat), d = badD t j ∧ j < k + (ts.length + 1) := fun h => by
      obtain ⟨u, j, e, hj⟩ := jd_bad h
      exact ⟨u, j, e, by omega⟩
    cases t with
    | mark m =>
      have h' : (if m < mark then some (badD (.mark m) k) else jd last m (k + 1) ts) = some d := h
      by_cases c : m < mark
      · rw [if_pos c] at h'; cases h'
        exact ⟨.mark m, k, rfl, by simp⟩
      · rw [if_neg c] at h'; exact go h'
    | bar n =>
      have h' : (if n ≤ last then some (badD (.bar n) k) else jd n mark (k + 1) ts) = some d := h
      by_cases c : n ≤ last
      · rw [if_pos c] at h'; cases h'
        exact ⟨.bar n, k, rfl, by simp⟩
      · rw [if_neg c] at h'; exact go h'
    | row a b v =>
      have h' : (if a < mark then some (badD (.row a b v) k) else jd last mark (k + 1) ts) = some d := h
      by_cases c : a < mark
      · rw [if_pos c] at h'; cases h'
        exact ⟨.row a b v, k, rfl, by simp⟩
      · rw [if_neg c] at h'; exact go h'
theorem ni_jdD {mark : Int} {ts : List Thg} (h : ts.length ≤ 1000) : Ni 1 82 (jdD mark ts) := by
  unfold jdD
  cases e : jd 0 mark 0 ts with
  | none => exact ni_none.mono (Nat.zero_le _) (Nat.zero_le _)
  | some d =>
    obtain ⟨t, j, rfl, hj⟩ := jd_bad e
    exact ni_tup (n := 2) (all2 Thg.niW (ni_int (by omega) (by omega))) (Nat.le_refl _)
section
variable {src : Src} {mark n : Int} {ts : List Thg} {l1 l2 l3 l4 l5 l6 l7 l8 l9 l10 l11 : Cl}
/-- the numbers of barriers, and the judge's word -/
abbrev qA : M Out := gSet 3 (fFr (fLc [9] (fSeq (fVar 2)) (gName' 9) (fBool (fBin φEq (fBin φIx (fVar 9) (fC (PyData.int 0))) (fC (PyData.str (Str.ofString "barrier"))))) (fBin φIx (fVar 9) (fC (PyData.int 1)))))
theorem qA_ok (hl : ts.length ≤ 20) : Rn qA ⟨src, W12 l1 (.im (.tuple (ts.map Thg.d))) l3 l4 l5 l6 l7 l8 .un l10 l11⟩ .nx ⟨src, W12 l1 (.im (.tuple (ts.map Thg.d))) (.im (.list (numsOf ts))) l4 l5 l6 l7 l8 .un l10 l11⟩ :=
  rn_set (rn_fr (nums_lc (i := 9) (E := W12 l1 (.im (.tuple (ts.map Thg.d))) l3 l4 l5 l6 l7 l8 .un l10 l11) (fun x => [.sr, l1, .im (.tuple (ts.map Thg.d)), l3, l4, l5, l6, l7, l8, .im x, l10, l11]) (rn_items (rn_v rfl) rfl) (by omega) (fun _ => rfl) (fun _ => rn_name (by show 9 < 12; decide)) (fun _ => rfl) rfl)) (by show 3 < 12; decide)
abbrev qB : M Out := gIf (fOr (fBool (fBin φNe (fFn φRepr (fCons (fCall 1 φ_numbers_in (fCons (fVar 2) (pure []))) (pure []))) (fFn φRepr (fCons (fFn φTuple (fCons (fVar 3) (pure []))) (pure []))))) (fBool (fBin φIsNot (fCall 2 φ_judge_channel (fCons (fVar 2) (fCons (fVar 1) (pure [])))) (fC PyData.none)))) (gRet (fC (PyData.bool false))) (pure Out.nx)
theorem qB_ok (ok : ∀ t ∈ ts, Okt t) (hl : ts.length ≤ 20) (hj : jd 0 mark 0 ts = none) : Rn qB ⟨src, W12 (.im (.int mark)) (.im (.tuple (ts.map Thg.d))) (.im (.list (numsOf ts))) l4 l5 l6 l7 l8 l9 l10 l11⟩ .nx ⟨src, W12 (.im (.int mark)) (.im (.tuple (ts.map Thg.d))) (.im (.list (numsOf ts))) l4 l5 l6 l7 l8 l9 l10 l11⟩ := by
  have hn := ni_nums ok hl
  have hjd : φ_judge_channel [.tuple (ts.map Thg.d), .int mark] = some .none := by
    rw [judge_ok]
    unfold jdD
    rw [hj]; rfl
  exact rn_siff (rn_or_f (rn_ne2 (rn_repr (rn_call (rn_cons (rn_v rfl) rn_pure) rfl (numbers_ok (by omega))) hn (by decide) (by decide)) (rn_repr (rn_fn (rn_cons (rn_v rfl) rn_pure) rfl) hn (by decide) (by decide)) hn) (rn_bool (rn_bin (rn_call (rn_cons (rn_v rfl) (rn_cons (rn_v rfl) rn_pure)) rfl hjd) rn_c rfl))) rn_pure
/-- before and behind -/
abbrev qC : M Out := gSet 6 (fBin φAdd (fSl (fFr (fLc [10, 9] (fEnumA (fVar 2)) (gTup' 2 (gCons' (gName' 10) (gCons' (gName' 9) gNil'))) (fBool (fBin φEq (fVar 9) (fTup (fCons (fC (PyData.str (Str.ofString "barrier"))) (fCons (fVar 4) (pure [])))))) (fVar 10))) (pure none) (fPart (fC (PyData.int 1)))) (fFr (fLst (fCons (fFn φLen (fCons (fVar 2) (pure []))) (pure [])))))
def atL (n : Int) (ts : List Thg) : List D := cutD (places n ts) none (some 1) ++ [.int (ts.length : Int)]
theorem places_len {ts : List Thg} : (places n ts).length ≤ ts.length := by
  unfold places
  rw [List.length_map]
  exact Nat.le_trans (List.length_filter_le _ _) (by rw [enumF_len]; exact Nat.le_refl _)
theorem qC_ok (h1 : 0 ≤ n) (h2 : n ≤ 1000) (ok : ∀ t ∈ ts, Okt t) (hl : ts.length ≤ 20) : Rn qC ⟨src, W12 l1 (.im (.tuple (ts.map Thg.d))) l3 (.im (.int n)) l5 l6 l7 l8 .un .un l11⟩ .nx ⟨src, W12 l1 (.im (.tuple (ts.map Thg.d))) l3 (.im (.int n)) l5 (.im (.list (atL n ts))) l7 l8 .un .un l11⟩ := by
  have lc := places_lc (vs := [10, 9]) (i := 10) (j := 9) (nn := 4) (src := src) (E := W12 l1 (.im (.tuple (ts.map Thg.d))) l3 (.im (.int n)) l5 l6 l7 l8 .un .un l11) (s := ⟨src, W12 l1 (.im (.tuple (ts.map Thg.d))) l3 (.im (.int n)) l5 l6 l7 l8 .un .un l11⟩) (fi := fEnumA (fVar 2)) (fun x y => [.sr, l1, .im (.tuple (ts.map Thg.d)), l3, .im (.int n), l5, l6, l7, l8, .im y, .im x, l11]) (rn_enum (rn_v rfl) rfl) h1 h2 ok (by omega)
    (fun _ _ => rfl) (fun _ _ => rn_pair (by show 10 < 12; decide) (by show 9 < 12; decide)) (fun _ _ => rfl) (fun _ _ => rfl) (fun _ _ => rfl) rfl
  have ha : φAdd (.list (cutD (places n ts) none (some 1))) (.list [.int (ts.length : Int)]) = some (.list (atL n ts)) := by
    show (if (cutD (places n ts) none (some 1)).length + 1 ≤ 16777216 then _ else none) = _
    rw [if_pos (by have := cut_len (ds := places n ts) (lo := none) (hi := some 1); have := places_len (n := n) (ts := ts); omega)]
    rfl
  exact rn_set (rn_bin (rn_sl (rn_fr lc) rn_pure (rn_part rn_c) rfl) (rn_fr (rn_lst (rn_cons (rn_fn (rn_cons (rn_v rfl) rn_pure) (r := .int (ts.length : Int)) (by show some (PyData.int ((ts.map Thg.d).length : Int)) = _; rw [List.length_map])) rn_pure) (by simp))) ha) (by show 6 < 12; decide)
theorem atL_fst : φIx (.list (atL n ts)) (.int 0) = some (placeD n ts) := by
  unfold atL placeD
  cases e : places n ts with
  | nil => rfl
  | cons a r =>
    have : cutD (a :: r) none (some 1) = [a] := by
      unfold cutD HT.sIx
      simp
    rw [this]
    rfl
abbrev qD : M Out := gIf (fBool (fBin φNe (fFn φRepr (fCons (fFr (fLst (fCons (fCall 2 φ_before (fCons (fVar 2) (fCons (fVar 4) (pure [])))) (fCons (fCall 2 φ_behind (fCons (fVar 2) (fCons (fVar 4) (pure [])))) (pure []))))) (pure [])))
  (fFn φRepr (fCons (fFr (fLst (fCons (fSl (fVar 2) (pure none) (fPart (fBin φIx (fVar 6) (fC (PyData.int 0))))) (fCons (fSl (fVar 2) (fPart (fBin φAdd (fBin φIx (fVar 6) (fC (PyData.int 0))) (fC (PyData.int 1)))) (pure none)) (pure []))))) (pure []))))) (gRet (fC (PyData.bool false))) (pure Out.nx)
theorem ni_cut (ok : ∀ t ∈ ts, Okt t) (hl : ts.length ≤ 20) {lo hi : Option Int} : Ni 4 10060 (.tuple (cutD (ts.map Thg.d) lo hi)) := by
  refine ni_tup (n := 20) (w := 502) (fun d hd => ?_) (Nat.le_trans cut_len (by rw [List.length_map]; exact hl))
  obtain ⟨t, ht, rfl⟩ := List.mem_map.mp (cut_mem hd)
  exact (ok t ht).ni
theorem qD_ok (h1 : 0 ≤ n) (h2 : n ≤ 1000) (ok : ∀ t ∈ ts, Okt t) (hl : ts.length ≤ 20) : Rn qD ⟨src, W12 l1 (.im (.tuple (ts.map Thg.d))) l3 (.im (.int n)) l5 (.im (.list (atL n ts))) l7 l8 l9 l10 l11⟩ .nx ⟨src, W12 l1 (.im (.tuple (ts.map Thg.d))) l3 (.im (.int n)) l5 (.im (.list (atL n ts))) l7 l8 l9 l10 l11⟩ := by
  obtain ⟨p, hp⟩ := placeD_int (n := n) (ts := ts)
  have ha := atL_fst (n := n) (ts := ts)
  rw [hp] at ha
  have hn : Ni 5 20122 (.list [.tuple (cutD (ts.map Thg.d) none (some p)), .tuple (cutD (ts.map Thg.d) (some (p + 1)) none)]) := ni_list (n := 2) (all2 (ni_cut ok hl) (ni_cut ok hl)) (Nat.le_refl _)
  exact rn_siff (rn_ne2 (rn_repr (rn_fr (rn_lst (rn_cons (rn_call (rn_cons (rn_v rfl) (rn_cons (rn_v rfl) rn_pure)) rfl (before_ok h1 h2 ok (by omega) hp)) (rn_cons (rn_call (rn_cons (rn_v rfl) (rn_cons (rn_v rfl) rn_pure)) rfl (behind_ok h1 h2 ok (by omega) hp)) rn_pure)) (by simp))) hn (by decide) (by decide))
    (rn_repr (rn_fr (rn_lst (rn_cons (rn_sl (rn_v rfl) rn_pure (rn_part (rn_bin (rn_v rfl) rn_c ha)) rfl) (rn_cons (rn_sl (rn_v rfl) (rn_part (rn_bin (rn_bin (rn_v rfl) rn_c ha) rn_c rfl)) rn_pure rfl) rn_pure)) (by simp))) hn (by decide) (by decide)) hn) rn_pure
abbrev qL1 : M Out := gFor (fSeq (fTup (fCons (fC (PyData.int 1)) (fCons (fC (PyData.int 2)) (fCons (fC (PyData.int 3)) (fCons (fC (PyData.int 9)) (pure []))))))) (gName' 4) (gSeq qC qD)
theorem qL1_ok (ok : ∀ t ∈ ts, Okt t) (hl : ts.length ≤ 20) : ∃ l4' l6', Rn qL1 ⟨src, W12 l1 (.im (.tuple (ts.map Thg.d))) l3 l4 l5 l6 l7 l8 .un .un l11⟩ .nx ⟨src, W12 l1 (.im (.tuple (ts.map Thg.d))) l3 l4' l5 l6' l7 l8 .un .un l11⟩ := by
  have step : ∀ (i : Nat) (x : D) (z : S), ([.int 1, .int 2, .int 3, .int 9] : List D)[i]? = some x → (∃ l4 l6, z = ⟨src, W12 l1 (.im (.tuple (ts.map Thg.d))) l3 l4 l5 l6 l7 l8 .un .un l11⟩) →
      ∃ z1 z2, Rn (gName' 4 x) z () z1 ∧ Rn (gSeq qC qD) z1 .nx z2 ∧ ∃ l4 l6, z2 = ⟨src, W12 l1 (.im (.tuple (ts.map Thg.d))) l3 l4 l5 l6 l7 l8 .un .un l11⟩ := by
    rintro i x z hx ⟨l4, l6, rfl⟩
    have hm := List.mem_of_getElem? hx
    obtain ⟨k, rfl, k1, k2⟩ : ∃ k : Int, x = .int k ∧ 0 ≤ k ∧ k ≤ 1000 := by
      simp only [List.mem_cons, List.not_mem_nil, or_false] at hm
      rcases hm with rfl | rfl | rfl | rfl <;> exact ⟨_, rfl, by decide, by decide⟩
    exact ⟨_, _, rn_name (by show 4 < 12; decide), rn_seq (qC_ok k1 k2 ok hl) (qD_ok k1 k2 ok hl), _, _, rfl⟩
  obtain ⟨s', r, l4', l6', rfl⟩ := rn_for (k := gName' 4) (bd := gSeq qC qD) (fun i z => ∃ l4 l6, z = ⟨src, W12 l1 (.im (.tuple (ts.map Thg.d))) l3 l4 l5 l6 l7 l8 .un .un l11⟩) (rn_items (s := ⟨src, W12 l1 (.im (.tuple (ts.map Thg.d))) l3 l4 l5 l6 l7 l8 .un .un l11⟩) (f := fTup (fCons (fC (PyData.int 1)) (fCons (fC (PyData.int 2)) (fCons (fC (PyData.int 3)) (fCons (fC (PyData.int 9)) (pure [])))))) (rn_tup (rn_cons rn_c (rn_cons rn_c (rn_cons rn_c (rn_cons rn_c rn_pure)))) (by simp)) rfl) ⟨l4, l6, rfl⟩ step
  exact ⟨l4', l6', r⟩
end
end Dl

set_option Elab.async false
set_option linter.all false
set_option maxRecDepth 100000
set_option maxHeartbeats 2000000
/-! M19o: bent things; the law is True. -/
namespace Dl
open PySem PySem.Spec PyProof.Rows L2
section
variable {src : Src} {mark n : Int} {ts : List Thg} {l1 l2 l3 l4 l5 l6 l7 l8 l9 l10 l11 : Cl}
abbrev eP : M Out := gPar 10 11 (fCallS 0 1 φ__law_pick (fCons (fBin φAdd (fFn φLen (fCons (fVar 2) (pure []))) (fC (PyData.int 1))) (pure []))) (fCallS 0 1 φ__law_pick (fCons (fBin φAdd (fFn φLen (fCons (fVar 2) (pure []))) (fC (PyData.int 1))) (pure [])))
theorem eP_ok (hl : ts.length ≤ 20) : ∃ src' k j, Rn eP ⟨src, W12 l1 (.im (.tuple (ts.map Thg.d))) l3 l4 l5 l6 l7 l8 l9 l10 l11⟩ .nx ⟨src', W12 l1 (.im (.tuple (ts.map Thg.d))) l3 l4 l5 l6 l7 l8 l9 (.im (.int k)) (.im (.int j))⟩ := by
  obtain ⟨r, src1, hp, hr⟩ := pick_ok (s := src) (m := ts.length + 1) (by omega) (by omega)
  obtain ⟨r2, src2, hp2, hr2⟩ := pick_ok (s := src1) (m := ts.length + 1) (by omega) (by omega)
  have arg : ∀ s : Src, Rn (fCons (fBin φAdd (fFn φLen (fCons (fVar 2) (pure []))) (fC (PyData.int 1))) (pure [])) ⟨s, W12 l1 (.im (.tuple (ts.map Thg.d))) l3 l4 l5 l6 l7 l8 l9 l10 l11⟩ [.int ((ts.length + 1 : Nat) : Int)] ⟨s, W12 l1 (.im (.tuple (ts.map Thg.d))) l3 l4 l5 l6 l7 l8 l9 l10 l11⟩ := fun s =>
    rn_cons (rn_bin (rn_fn (rn_cons (rn_v rfl) rn_pure) (r := .int (ts.length : Int)) (by show some (PyData.int ((ts.map Thg.d).length : Int)) = _; rw [List.length_map])) rn_c rfl) rn_pure
  exact ⟨src2, r, r2, rn_par (rn_callS rfl (arg src) rfl hp) (rn_callS (s1 := ⟨src1, W12 l1 (.im (.tuple (ts.map Thg.d))) l3 l4 l5 l6 l7 l8 l9 l10 l11⟩) rfl (arg src1) rfl hp2) (by show 10 < 12; decide) (by show 11 < 12; decide)⟩
abbrev eB : M Out := gSet 7 (fBin φAdd (fBin φAdd (fSl (fVar 2) (pure none) (fPart (fVar 10))) (fSl (fVar 2) (fPart (fVar 11)) (fPart (fBin φAdd (fVar 11) (fC (PyData.int 1)))))) (fSl (fVar 2) (fPart (fVar 10)) (pure none)))
theorem add_tup {xs ys : List D} (h : xs.length + ys.length ≤ 1000000) : φAdd (.tuple xs) (.tuple ys) = some (.tuple (xs ++ ys)) := by
  show (if xs.length + ys.length ≤ 16777216 then _ else none) = _
  rw [if_pos (by omega)]
theorem eB_ok {k j : Int} (hl : ts.length ≤ 20) : ∃ us : List Thg, (∀ u ∈ us, u ∈ ts) ∧ us.length ≤ 60 ∧ Rn eB ⟨src, W12 l1 (.im (.tuple (ts.map Thg.d))) l3 l4 l5 l6 l7 l8 l9 (.im (.int k)) (.im (.int j))⟩ .nx ⟨src, W12 l1 (.im (.tuple (ts.map Thg.d))) l3 l4 l5 l6 (.im (.tuple (us.map Thg.d))) l8 l9 (.im (.int k)) (.im (.int j))⟩ := by
  have c1 := cut_len (ds := ts.map Thg.d) (lo := none) (hi := some k)
  have c2 := cut_len (ds := ts.map Thg.d) (lo := some j) (hi := some (j + 1))
  have c3 := cut_len (ds := ts.map Thg.d) (lo := some k) (hi := none)
  rw [List.length_map] at c1 c2 c3
  obtain ⟨us, e, hu⟩ := unmap (bs := cutD (ts.map Thg.d) none (some k) ++ cutD (ts.map Thg.d) (some j) (some (j + 1)) ++ cutD (ts.map Thg.d) (some k) none) (ts := ts) fun d hd => by
    rcases List.mem_append.mp hd with hd | hd
    · rcases List.mem_append.mp hd with hd | hd
      · exact cut_mem hd
      · exact cut_mem hd
    · exact cut_mem hd
  refine ⟨us, hu, ?_, ?_⟩
  · have := congrArg List.length e
    rw [List.length_append, List.length_append, List.length_map] at this
    omega
  · rw [← e]
    exact rn_set (rn_bin (rn_bin (rn_sl (rn_v rfl) rn_pure (rn_part (rn_v rfl)) rfl) (rn_sl (rn_v rfl) (rn_part (rn_v rfl)) (rn_part (rn_bin (rn_v rfl) rn_c rfl)) rfl) (add_tup (by omega))) (rn_sl (rn_v rfl) (rn_part (rn_v rfl)) rn_pure rfl) (add_tup (by rw [List.length_append]; omega))) (by show 7 < 12; decide)
abbrev eO : M Out := gSet 7 (fIfE (fBool (fBin φEq (fVar 5) (fC (PyData.int 5)))) (fCallS 0 1 φ__law_any_order (fCons (fVar 7) (pure []))) (fVar 7))
theorem eO_ok {us : List Thg} {lap : Int} (hl : us.length ≤ 60) : ∃ (src' : Src) (x : D) (ws : List Thg), IsSeq x (ws.map Thg.d) ∧ ws.length ≤ 60 ∧ Rn eO ⟨src, W12 l1 l2 l3 l4 (.im (.int lap)) l6 (.im (.tuple (us.map Thg.d))) l8 l9 l10 l11⟩ .nx ⟨src', W12 l1 l2 l3 l4 (.im (.int lap)) l6 (.im x) l8 l9 l10 l11⟩ := by
  have t := rn_bool (rn_bin (s := ⟨src, W12 l1 l2 l3 l4 (.im (.int lap)) l6 (.im (.tuple (us.map Thg.d))) l8 l9 l10 l11⟩) (f := fVar 5) (g := fC (PyData.int 5)) (rn_v rfl) rn_c eq_int)
  cases e : lap == (5 : Int) with
  | true =>
    rw [e] at t
    obtain ⟨ys, src', ho, hp⟩ := order_ok (src := src) (x := .tuple (us.map Thg.d)) (.inr rfl) (by rw [List.length_map]; omega)
    obtain ⟨ws, rfl, hw⟩ := unmap (bs := ys) (ts := us) fun d hd => hp.mem_iff.mpr hd
    refine ⟨src', _, ws, .inl rfl, ?_, rn_set (rn_ift t (rn_callS (s1 := ⟨src, W12 l1 l2 l3 l4 (.im (.int lap)) l6 (.im (.tuple (us.map Thg.d))) l8 l9 l10 l11⟩) rfl (rn_cons (rn_v rfl) rn_pure) rfl ho)) (by show 7 < 12; decide)⟩
    have := hp.length_eq
    rw [List.length_map, List.length_map] at this
    omega
  | false =>
    rw [e] at t
    exact ⟨src, _, us, .inr rfl, hl, rn_set (rn_iff t (rn_v rfl)) (by show 7 < 12; decide)⟩
abbrev eL : M Out := gSet 8 (fBin φAdd (fVar 1) (fBin φIx (fFr (fLst (fCons (fC (PyData.int 0)) (fCons (fC (PyData.int 0)) (fCons (fC (PyData.int 2)) (fCons (fC (PyData.int 20)) (pure []))))))) (fCallS 0 1 φ__law_pick (fCons (fC (PyData.int 4)) (pure [])))))
theorem eL_ok : ∃ src' low, Rn eL ⟨src, W12 (.im (.int mark)) l2 l3 l4 l5 l6 l7 l8 l9 l10 l11⟩ .nx ⟨src', W12 (.im (.int mark)) l2 l3 l4 l5 l6 l7 (.im (.int low)) l9 l10 l11⟩ := by
  obtain ⟨r, src1, hp, hr⟩ := pick_ok (s := src) (m := 4) (by decide) (by decide)
  obtain ⟨v, hv, hm⟩ := ix_mem (L := [.int 0, .int 0, .int 2, .int 20]) (r := r) hr
  obtain ⟨k, rfl⟩ : ∃ k : Int, v = .int k := by
    simp only [List.mem_cons, List.not_mem_nil, or_false] at hm
    rcases hm with rfl | rfl | rfl | rfl <;> exact ⟨_, rfl⟩
  exact ⟨src1, mark + k, rn_set (rn_bin (rn_v rfl) (rn_bin (rn_fr (rn_lst (rn_cons rn_c (rn_cons rn_c (rn_cons rn_c (rn_cons rn_c rn_pure)))) (by simp))) (rn_callS (s1 := ⟨src, W12 (.im (.int mark)) l2 l3 l4 l5 l6 l7 l8 l9 l10 l11⟩) rfl (rn_cons rn_c rn_pure) rfl hp) hv) rfl) (by show 8 < 12; decide)⟩
abbrev eJ : M Out := gIf (fBool (fBin φNe (fFn φRepr (fCons (fCall 2 φ_judge_channel (fCons (fFn φTuple (fCons (fVar 7) (pure []))) (fCons (fVar 8) (pure [])))) (pure []))) (fFn φRepr (fCons (fCall 2 φ__law_fault (fCons (fFn φTuple (fCons (fVar 7) (pure []))) (fCons (fVar 8) (pure [])))) (pure []))))) (gRet (fC (PyData.bool false))) (pure Out.nx)
theorem eJ_ok {x : D} {ws : List Thg} {low : Int} (hx : IsSeq x (ws.map Thg.d)) (hl : ws.length ≤ 60) : Rn eJ ⟨src, W12 l1 l2 l3 l4 l5 l6 (.im x) (.im (.int low)) l9 l10 l11⟩ .nx ⟨src, W12 l1 l2 l3 l4 l5 l6 (.im x) (.im (.int low)) l9 l10 l11⟩ := by
  have ht : φTuple [x] = some (.tuple (ws.map Thg.d)) := by rcases hx with rfl | rfl <;> rfl
  have hn := ni_jdD (mark := low) (ts := ws) (by omega)
  exact rn_siff (rn_ne2 (rn_repr (rn_call (rn_cons (rn_fn (rn_cons (rn_v rfl) rn_pure) ht) (rn_cons (rn_v rfl) rn_pure)) rfl judge_ok) hn (by decide) (by decide)) (rn_repr (rn_call (rn_cons (rn_fn (rn_cons (rn_v rfl) rn_pure) ht) (rn_cons (rn_v rfl) rn_pure)) rfl fault_ok) hn (by decide) (by decide)) hn) rn_pure
abbrev eT : M Out := gSeq eP (gSeq eB (gSeq eO (gSeq eL eJ)))
abbrev qL2 : M Out := gFor (fRange1 (fC (PyData.int 6))) (gName' 5) eT
theorem qL2_ok (hl : ts.length ≤ 20) : ∃ z, Rn qL2 ⟨src, W12 (.im (.int mark)) (.im (.tuple (ts.map Thg.d))) l3 l4 l5 l6 l7 l8 l9 l10 l11⟩ .nx z := by
  have step : ∀ (i : Nat) (x : D) (z : S), (rangeD 0 6)[i]? = some x → (∃ src l5 l7 l8 l10 l11, z = ⟨src, W12 (.im (.int mark)) (.im (.tuple (ts.map Thg.d))) l3 l4 l5 l6 l7 l8 l9 l10 l11⟩) →
      ∃ z1 z2, Rn (gName' 5 x) z () z1 ∧ Rn eT z1 .nx z2 ∧ ∃ src l5 l7 l8 l10 l11, z2 = ⟨src, W12 (.im (.int mark)) (.im (.tuple (ts.map Thg.d))) l3 l4 l5 l6 l7 l8 l9 l10 l11⟩ := by
    rintro i x z hx ⟨src, l5, l7, l8, l10, l11, rfl⟩
    obtain ⟨a, _, rfl⟩ := List.mem_map.mp (List.mem_of_getElem? hx)
    obtain ⟨src1, k, j, r1⟩ := eP_ok (src := src) (ts := ts) (l1 := .im (.int mark)) (l3 := l3) (l4 := l4) (l5 := .im (.int (0 + (a : Int)))) (l6 := l6) (l7 := l7) (l8 := l8) (l9 := l9) (l10 := l10) (l11 := l11) hl
    obtain ⟨us, _, hul, r2⟩ := eB_ok (src := src1) (ts := ts) (l1 := .im (.int mark)) (l3 := l3) (l4 := l4) (l5 := .im (.int (0 + (a : Int)))) (l6 := l6) (l7 := l7) (l8 := l8) (l9 := l9) (k := k) (j := j) hl
    obtain ⟨src2, y, ws, hy, hwl, r3⟩ := eO_ok (src := src1) (us := us) (lap := 0 + (a : Int)) (l1 := .im (.int mark)) (l2 := .im (.tuple (ts.map Thg.d))) (l3 := l3) (l4 := l4) (l6 := l6) (l8 := l8) (l9 := l9) (l10 := .im (.int k)) (l11 := .im (.int j)) hul
    obtain ⟨src3, low, r4⟩ := eL_ok (src := src2) (mark := mark) (l2 := .im (.tuple (ts.map Thg.d))) (l3 := l3) (l4 := l4) (l5 := .im (.int (0 + (a : Int)))) (l6 := l6) (l7 := .im y) (l8 := l8) (l9 := l9) (l10 := .im (.int k)) (l11 := .im (.int j))
    exact ⟨_, _, rn_name (by show 5 < 12; decide), rn_seq r1 (rn_seq r2 (rn_seq r3 (rn_seq r4 (eJ_ok hy hwl)))), src3, _, _, _, _, _, rfl⟩
  obtain ⟨s', r, _⟩ := rn_for (k := gName' 5) (bd := eT) (s := ⟨src, W12 (.im (.int mark)) (.im (.tuple (ts.map Thg.d))) l3 l4 l5 l6 l7 l8 l9 l10 l11⟩) (fs := fRange1 (fC (PyData.int 6))) (fun i z => ∃ src l5 l7 l8 l10 l11, z = ⟨src, W12 (.im (.int mark)) (.im (.tuple (ts.map Thg.d))) l3 l4 l5 l6 l7 l8 l9 l10 l11⟩) (rn_rng rn_c (range1_ok (n := 6) (by decide))) ⟨src, l5, l7, l8, l10, l11, rfl⟩ step
  exact ⟨s', r⟩
end
theorem things_right_ok (src : Src) : ∃ src', φ__law_things_right src [] = some (.bool true, src') := by
  obtain ⟨r, src1, hp, hr⟩ := pick_ok (s := src) (m := 3) (by decide) (by decide)
  obtain ⟨v, hv, hm⟩ := ix_mem (L := [.int 0, .int 0, .int 7]) (r := r) hr
  obtain ⟨mark, rfl, m1, m2⟩ : ∃ k : Int, v = .int k ∧ 0 ≤ k ∧ k ≤ 7 := by
    simp only [List.mem_cons, List.not_mem_nil, or_false] at hm
    rcases hm with rfl | rfl | rfl <;> exact ⟨_, rfl, by decide, by decide⟩
  obtain ⟨r2, src2, hp2, hr2⟩ := pick_ok (s := src1) (m := 5) (by decide) (by decide)
  obtain ⟨ts, src3, ht, ok, hl, hj⟩ := things_ok (src := src2) (m0 := mark) hr2 m1 m2
  have s1 : Rn (gSet 1 (fBin φIx (fFr (fLst (fCons (fC (PyData.int 0)) (fCons (fC (PyData.int 0)) (fCons (fC (PyData.int 7)) (pure [])))))) (fCallS 0 1 φ__law_pick (fCons (fC (PyData.int 3)) (pure []))))) ⟨src, .sr :: envB 11 []⟩ .nx ⟨src1, W12 (.im (.int mark)) .un .un .un .un .un .un .un .un .un .un⟩ :=
    rn_set (rn_bin (rn_fr (rn_lst (rn_cons rn_c (rn_cons rn_c (rn_cons rn_c rn_pure))) (by simp))) (rn_callS (s1 := ⟨src, .sr :: envB 11 []⟩) rfl (rn_cons rn_c rn_pure) rfl hp) hv) (by show 1 < 12; decide)
  have s2 : Rn (gSet 2 (fCallS 0 3 φ__law_draw_things (fCons (fVar 1) (fCons (fSl (fFr (fLst (fCons (fC (PyData.int 1)) (fCons (fC (PyData.int 2)) (fCons (fC (PyData.int 5)) (fCons (fC (PyData.int 9)) (pure []))))))) (pure none) (fPart (fCallS 0 1 φ__law_pick (fCons (fC (PyData.int 5)) (pure []))))) (fCons (fC (PyData.int 3)) (pure [])))))) ⟨src1, W12 (.im (.int mark)) .un .un .un .un .un .un .un .un .un .un⟩ .nx ⟨src3, W12 (.im (.int mark)) (.im (.tuple (ts.map Thg.d))) .un .un .un .un .un .un .un .un .un⟩ :=
    rn_set (rn_callS (s1 := ⟨src2, W12 (.im (.int mark)) .un .un .un .un .un .un .un .un .un .un⟩) rfl (rn_cons (rn_v rfl) (rn_cons (rn_sl (rn_fr (rn_lst (rn_cons rn_c (rn_cons rn_c (rn_cons rn_c (rn_cons rn_c rn_pure)))) (by simp))) rn_pure (rn_part (rn_callS (s1 := ⟨src1, W12 (.im (.int mark)) .un .un .un .un .un .un .un .un .un .un⟩) rfl (rn_cons rn_c rn_pure) rfl hp2)) rfl) (rn_cons rn_c rn_pure))) rfl ht) (by show 2 < 12; decide)
  obtain ⟨l4, l6, r5⟩ := qL1_ok (src := src3) (ts := ts) (l1 := .im (.int mark)) (l3 := .im (.list (numsOf ts))) (l4 := .un) (l5 := .un) (l6 := .un) (l7 := .un) (l8 := .un) (l11 := .un) ok hl
  obtain ⟨z, r6⟩ := qL2_ok (src := src3) (mark := mark) (ts := ts) (l3 := .im (.list (numsOf ts))) (l4 := l4) (l5 := .un) (l6 := l6) (l7 := .un) (l8 := .un) (l9 := .un) (l10 := .un) (l11 := .un) hl
  exact ⟨z.src, runS_of (z := z) (rn_seq s1 (rn_seq s2 (rn_seq (qA_ok hl) (rn_seq (qB_ok ok hl hj) (rn_seq r5 (rn_seq r6 (rn_ret rn_c)))))))⟩
end Dl

set_option Elab.async false
set_option linter.all false
set_option maxRecDepth 100000
set_option maxHeartbeats 2000000
/-! M19p: the law is True. -/
namespace Dl
open PySem PySem.Spec PyProof.Rows L2
def twiceL : List Thg := [.bar 1, .mark 4, .bar 1, .mark 3]
theorem okt_twice : ∀ t ∈ twiceL, Okt t := by
  intro t ht
  simp only [twiceL, List.mem_cons, List.not_mem_nil, or_false] at ht
  rcases ht with rfl | rfl | rfl | rfl <;> exact ⟨by decide, by decide⟩
theorem eqv_self {t : D} (h : t.canLay0 = true) : PyData.eqv t t = true := SeqAt.eqv_refl t h
theorem place_twice : placeD 1 twiceL = .int 0 := by
  have e : places 1 twiceL = .int 0 :: ((enumF 1 [.mark 4, .bar 1, .mark 3]).filter (pB 1)).map fst' := by
    unfold places
    rw [show enumF 0 twiceL = .tuple [.int ((0 : Nat) : Int), (Thg.bar 1).d] :: enumF 1 [.mark 4, .bar 1, .mark 3] from rfl]
    have hp : pB 1 (.tuple [.int ((0 : Nat) : Int), (Thg.bar 1).d]) = true := eqv_self (ni_barT (n := 1) (by decide) (by decide)).lay
    rw [List.filter_cons_of_pos hp]
    rfl
  unfold placeD
  rw [e]
theorem jd_twice : jdD 0 twiceL = .tuple [.str "barrier", .int 2] := rfl
def endD : D := .list [.tuple [], .tuple ((twiceL.map Thg.d).drop 1), .tuple [.str "barrier", .int 2], .tuple []]
theorem ni_end : Ni 5 (4 * 2013) endD := by
  have a : Ni 4 2012 (.tuple []) := (ni_tup (k := 0) (w := 0) (n := 0) (fun _ h => by cases h) (Nat.le_refl _)).mono (by decide) (by decide)
  have b : Ni 4 2012 (.tuple ((twiceL.map Thg.d).drop 1)) := ni_tup (n := 4) (w := 502) (fun d hd => by
    obtain ⟨t, ht, rfl⟩ := List.mem_map.mp (List.mem_of_mem_drop hd)
    exact (okt_twice t ht).ni) (by decide)
  have c : Ni 4 2012 (.tuple [.str "barrier", .int 2]) := (ni_barT (n := 2) (by decide) (by decide)).mono (by decide) (by decide)
  refine ni_list (n := 4) (fun d hd => ?_) (Nat.le_refl _)
  simp only [List.mem_cons, List.not_mem_nil, or_false] at hd
  rcases hd with rfl | rfl | rfl | rfl
  · exact a
  · exact b
  · exact c
  · exact a
theorem lawTrue (ns : List Int) : LawTrue ns := by
  have step : ∀ (i : Nat) (x : D) (z : S), (rangeD 0 3)[i]? = some x → (∃ src l2, z = ⟨src, [.un, .sr, l2, .un]⟩) →
      ∃ z1 z2, Rn (gName' 2 x) z () z1 ∧ Rn (gIf (fOr (fNot (fBool (fCallS 1 0 φ__law_waiting_right (pure [])))) (fOr (fNot (fBool (fCallS 1 0 φ__law_things_right (pure [])))) (fNot (fBool (fCallS 1 0 φ__law_things_right (pure [])))))) (gRet (fC (PyData.bool false))) (pure Out.nx)) z1 .nx z2 ∧ ∃ src l2, z2 = ⟨src, [.un, .sr, l2, .un]⟩ := by
    rintro i x z hx ⟨src, l2, rfl⟩
    obtain ⟨src1, h1⟩ := waiting_ok src
    obtain ⟨src2, h2⟩ := things_right_ok src1
    obtain ⟨src3, h3⟩ := things_right_ok src2
    exact ⟨⟨src, [.un, .sr, .im x, .un]⟩, ⟨src3, [.un, .sr, .im x, .un]⟩, rn_name (by show 2 < 4; decide), rn_siff (rn_or_f (rn_not (b := true) (rn_bool (rn_callS (s1 := ⟨src, [.un, .sr, .im x, .un]⟩) rfl rn_pure rfl h1))) (rn_or_f (rn_not (b := true) (rn_bool (rn_callS (s1 := ⟨src1, [.un, .sr, .im x, .un]⟩) rfl rn_pure rfl h2))) (rn_not (b := true) (rn_bool (rn_callS (s1 := ⟨src2, [.un, .sr, .im x, .un]⟩) rfl rn_pure rfl h3))))) rn_pure, src3, _, rfl⟩
  obtain ⟨s', r, src', l2', rfl⟩ := rn_for (k := gName' 2) (bd := gIf (fOr (fNot (fBool (fCallS 1 0 φ__law_waiting_right (pure [])))) (fOr (fNot (fBool (fCallS 1 0 φ__law_things_right (pure [])))) (fNot (fBool (fCallS 1 0 φ__law_things_right (pure [])))))) (gRet (fC (PyData.bool false))) (pure Out.nx)) (s := ⟨openS ns, [.un, .sr, .un, .un]⟩) (fs := fRange1 (fC (PyData.int 3))) (fun i z => ∃ src l2, z = ⟨src, [.un, .sr, l2, .un]⟩) (rn_rng rn_c (range1_ok (n := 3) (by decide))) ⟨openS ns, .un, rfl⟩ step
  have hb := before_ok (n := 1) (ts := twiceL) (by decide) (by decide) okt_twice (by decide) place_twice
  have hh := behind_ok (n := 1) (ts := twiceL) (by decide) (by decide) okt_twice (by decide) place_twice
  have hj := judge_ok (mark := 0) (ts := twiceL)
  rw [jd_twice] at hj
  have hN : φ_numbers_in [.tuple []] = some (.tuple []) := numbers_ok (ts := []) (by decide)
  have e1 : cutD (twiceL.map Thg.d) none (some 0) = [] := rfl
  have e2 : cutD (twiceL.map Thg.d) (some (0 + 1)) none = (twiceL.map Thg.d).drop 1 := rfl
  rw [e1] at hb
  rw [e2] at hh
  have hq : φEq endD endD = some (.bool true) := by
    rw [eq_ok ni_end ni_end (by decide) (by decide), eqv_self ni_end.lay]
  refine ⟨⟨src', [.un, .sr, l2', .im (.tuple (twiceL.map Thg.d))]⟩, ?_⟩
  exact rn_seq r (rn_seq (rn_set (s1 := ⟨src', [.un, .sr, l2', .un]⟩) (d := .tuple (twiceL.map Thg.d)) (rn_tup (rn_cons (rn_tup (rn_cons rn_c (rn_cons rn_c rn_pure)) (by simp)) (rn_cons (rn_tup (rn_cons rn_c (rn_cons rn_c rn_pure)) (by simp)) (rn_cons (rn_tup (rn_cons rn_c (rn_cons rn_c rn_pure)) (by simp)) (rn_cons (rn_tup (rn_cons rn_c (rn_cons rn_c rn_pure)) (by simp)) rn_pure)))) (by decide)) (by show 3 < 4; decide))
    (rn_ret (rn_bin (d := endD) (e := endD) (rn_fr (rn_lst (rn_cons (rn_call (rn_cons (rn_v rfl) (rn_cons rn_c rn_pure)) rfl hb) (rn_cons (rn_call (rn_cons (rn_v rfl) (rn_cons rn_c rn_pure)) rfl hh) (rn_cons (rn_call (rn_cons (rn_v rfl) (rn_cons rn_c rn_pure)) rfl hj) (rn_cons (rn_call (rn_cons (rn_tup rn_pure (by simp)) rn_pure) rfl hN) rn_pure)))) (by simp)))
      (rn_fr (rn_lst (rn_cons (rn_tup rn_pure (by simp)) (rn_cons (rn_sl (rn_v rfl) (rn_part rn_c) rn_pure rfl) (rn_cons (rn_tup (rn_cons rn_c (rn_cons rn_c rn_pure)) (by simp)) (rn_cons (rn_tup rn_pure (by simp)) rn_pure)))) (by simp))) hq)))
end Dl

set_option Elab.async false
set_option linter.all false
set_option maxRecDepth 100000
set_option maxHeartbeats 0
namespace Dl
open PySem PySem.Spec PyProof.Rows PySem.Calls L2 NdefX
theorem kit_sub {K : PySem.W.Frag} {C S : Addr} (h2 : PySem.W.isClsIn K S = true) (h3 : PySem.W.typeIn K (.ref S) = some (.type "type")) (h : PySem.W.subIn K (.ref C) (.ref S) = some true) : PySem.W.kitOne K (.ref C) (.ref S) = some true := by
  unfold PySem.W.kitOne
  split
  · rfl
  · unfold PySem.W.kitCls
    have h2' : (PySem.W.clsIn K S).isSome = true := h2
    simp only [h2', h3]
    exact h
theorem fe_mk {P : Program} {K : PySem.W.Frag} {h : Heap} {mg : Str → Option Value} {C S fI cc c : Addr} {oc kV doc pm ct o1 p1 : Value} {od an o2 p2 : Option Addr} {osl o4 p4 : Array (Option Value)} {vs : Array Value} {file : Str} {tf : Tok}
    (X : K.In h) (G : h.Ns mainGlobals mg) (aC : PySem.W.nsIn K mainGlobals "BadBarrier" = some (some (.ref C))) (aS : PySem.W.nsIn K mainGlobals "StreamError" = some (some (.ref S)))
    (cls : ∃ nm q N bs bm sn sub ab col dd k0 k1 k2 k3 k5, K.lookup C = some (excClassObj nm q C N bs bm true sn sub ab col dd k0 k1 k2 k3 k5 "ValueError.__new__") ∧ PySem.HandSPX.refsVE bm = true)
    (sa : PySem.W.findIn K (.ref C) "__setattr__" = some (some (.builtin "object.__setattr__"))) (exC : PySem.W.subIn K (.ref C) (.type "BaseException") = some true) (tyC : PySem.W.typeIn K (.ref C) = some (.type "type")) (kC : PySem.W.keepIn K (.ref C) = true)
    (hsub : PySem.W.mroIn K C (.ref C) = some true) (hsup : PySem.W.ks_superIn K C C "__init__" = some (some (.builtin "ValueError.__init__"))) (hB : PySem.W.subIn K (.ref C) (.type "ValueError") = some true) (noN : PySem.W.findIn K (.ref C) "number" = some none) (opq : PySem.W.nsIn K cStatics "thirdparty.any" = some none)
    (tp : (P.main.scope.names.lookup ("super" : Str)).isSome = false) (ms : PySem.W.nsIn K mainGlobals "super" = some none)
    (iC : PySem.W.findIn K (.ref C) "__init__" = some (some (.ref fI))) (tI : PySem.W.typeIn K (.ref fI) = some (.type "function")) (lI : K.lookup fI = some ⟨oc, od, .func (PySem.W.fnX "__init__" "BadBarrier.__init__" (defArgs stI) (defBody stI) (defScope stI) [("__class__", cc)] .none kV doc pm an (.ref c) ct), osl⟩)
    (cdI : PySem.W.codeIn K (.ref c) "BadBarrier.__init__" = true) (lcc : K.lookup cc = some ⟨o1, o2, .cell (some (.ref C)), o4⟩) (lc : K.lookup c = some ⟨p1, p2, .fields vs, p4⟩) (fl : vs[2]? = some (.str file tf)) (fe : ((P.main.file : Str) == file) = true)
    (ga : PySem.W.findIn K (.ref C) "__getattribute__" = some (some (.builtin "BaseException.__getattribute__"))) (gg : PySem.W.findIn K (.ref C) "__getattr__" = some none) (hdC : PySem.W.hasDictIn K C = true) (isC : PySem.W.isClsIn K C = true)
    (cl : PySem.W.findIn K (.ref C) "__class__" = some (some (.builtin "object.__class__"))) (sp : PySem.W.specialIn K (.builtin "object.__class__") "__get__" = some (some (.builtin "getset_descriptor.__get__"))) (tk : PySem.W.takesIn K (.builtin "object.__class__") = some true) (ob : PySem.W.mroIn K C (.type "object") = some true)
    (sCC : PySem.W.subIn K (.ref C) (.ref C) = some true) (sCS : PySem.W.subIn K (.ref C) (.ref S) = some true) (isS : PySem.W.isClsIn K S = true) (tyS : PySem.W.typeIn K (.ref S) = some (.type "type")) : FE P K mg :=
  ⟨C, S, fI, cc, c, oc, kV, doc, pm, ct, od, an, osl, PySem.W.mg_of X G aC, PySem.W.mg_of X G aS, kit_sub isS tyS sCS, exm_self exC isC tyC sCC, ⟨⟨cls, sa, exC, tyC, kC⟩, hsub, hsup, hB, noN, opq, tp, PySem.W.mg_none_of X G ms⟩,
    ⟨⟨oc, od, kV, doc, pm, an, ct, osl, lI⟩, cdI, rfl, ⟨o1, o2, o4, lcc⟩, p1, p2, vs, p4, file, tf, lc, fl, fe⟩, ⟨isC, ga, gg, exC, cl, sp, tk, ob⟩, ⟨ga, gg, exC, hdC⟩, iC, tI, lI⟩
theorem att_of {l : PySem.W.OpenLaw} {w : World} {K : PySem.W.Frag} {n : Nat} {mg : Str → Option Value} {fa : Addr} {h : Heap} (hmg : mg "law" = some (.ref fa)) (HL : LawAll l.prog w K mg n) : LawAtG l w K 20 n "_law_script" mg fa h := by
  obtain ⟨f, fd, m, hb, hF⟩ := HL
  have e := hmg.symm.trans m
  cases e
  exact ⟨fd, [], spLaw K n, (fun p hp => by cases hp), (fun p hp => by cases hp), (fun p hp => by cases hp), hb, fun H a zs hl _ _ hS => ⟨a, zs, rfl, hl, hS, fun _ => rfl⟩, fun base _ _ _ hsb => (hF base hsb).up (by decide)⟩
end Dl
open PySem PySem.W PyProof.Rows
theorem law_true (ns : List Int) (h : ns.length ≤ 63) : Dl.LawTrue ns := Dl.lawTrue ns
theorem PySem.Challenge.cw_oncestream_k19_barriers_and_channels_holds : PySem.Challenge.rw_oncestream_k19_barriers_and_channels.Holds := by
  w_on; o_law; k_head; (case hw => w_witness2)
  k_fill
  refine Dl.walk_ofG (l := PySem.Challenge.rw_oncestream_k19_barriers_and_channels) (n := 63) (k := 20) (x := "_law_script") rfl (by decide) rfl ⟨rfl, by decide, by decide⟩ ?see (fun w h Y => PySem.W.kIn_of Y) ?F
  case see => first | decide +kernel | rfl
  case F =>
    intro w mg fa h Y KX G tb hmg
    refine Dl.att_of hmg ?_
    · skip
      refine' Dl.law_all (by decide) (fun ns hl => law_true ns hl) ?X ?d_copy_of ?dis_held ?dcome ?dfree_channels ?dnumbers_left ?d_place_of ?dbefore ?dbehind ?dnumbers_in ?djudge_channel ?d_law_open_cells ?d_law_pick ?d_law_any_order ?d_law_draw_value ?d_law_draw_things ?d_law_barred ?d_law_waiting_right ?d_law_fault ?d_law_things_right ?dlaw ?nlen ?nint ?nabs ?nsorted ?ntuple ?nlist ?ndict ?nrange ?nrepr ?nenumerate ?nisinstance ?nsuper
      case X =>
        refine' Dl.fe_mk KX G ?aC ?aS ?cls ?sa ?exC ?tyC ?kC ?hsub ?hsup ?hB ?noN ?opq ?tp ?ms ?iC ?tI ?lI ?cdI ?lcc ?lc ?fl ?fe ?ga ?gg ?hdC ?isC ?cl ?sp ?tk ?ob ?sCC ?sCS ?isS ?tyS
        case aC => k_is
        case aS => k_is
        case cls => exact ⟨_, _, _, _, _, _, _, _, _, _, _, _, _, _, _, by k_is, by decide +kernel⟩
        case sa => k_is
        case exC => k_is
        case tyC => k_is
        case kC => k_is
        case hsub => k_is
        case hsup => ks_is
        case hB => k_is
        case noN => k_is
        case opq => k_is
        case tp => first | rfl | decide +kernel
        case ms => k_is
        case iC => k_is
        case tI => k_is
        case lI => k_is
        case cdI => k_is
        case lcc => k_is
        case lc => k_is
        case fl => first | rfl | k_is
        case fe => first | rfl | decide +kernel
        case ga => k_is
        case gg => k_is
        case hdC => k_is
        case isC => k_is
        case cl => k_is
        case sp => k_is
        case tk => k_is
        case ob => k_is
        case sCC => first | rfl | k_is
        case sCS => k_is
        case isS => k_is
        case tyS => k_is
      case d_copy_of =>
        refine' Dl.fd_mk KX G ?a ?l ?cd ?kp
        case a => k_is
        case l => k_is
        case cd => k_is
        case kp => k_is
      case dis_held =>
        refine' Dl.fd_mk KX G ?a ?l ?cd ?kp
        case a => k_is
        case l => k_is
        case cd => k_is
        case kp => k_is
      case dcome =>
        refine' Dl.fd_mk KX G ?a ?l ?cd ?kp
        case a => k_is
        case l => k_is
        case cd => k_is
        case kp => k_is
      case dfree_channels =>
        refine' Dl.fd_mk KX G ?a ?l ?cd ?kp
        case a => k_is
        case l => k_is
        case cd => k_is
        case kp => k_is
      case dnumbers_left =>
        refine' Dl.fd_mk KX G ?a ?l ?cd ?kp
        case a => k_is
        case l => k_is
        case cd => k_is
        case kp => k_is
      case d_place_of =>
        refine' Dl.fd_mk KX G ?a ?l ?cd ?kp
        case a => k_is
        case l => k_is
        case cd => k_is
        case kp => k_is
      case dbefore =>
        refine' Dl.fd_mk KX G ?a ?l ?cd ?kp
        case a => k_is
        case l => k_is
        case cd => k_is
        case kp => k_is
      case dbehind =>
        refine' Dl.fd_mk KX G ?a ?l ?cd ?kp
        case a => k_is
        case l => k_is
        case cd => k_is
        case kp => k_is
      case dnumbers_in =>
        refine' Dl.fd_mk KX G ?a ?l ?cd ?kp
        case a => k_is
        case l => k_is
        case cd => k_is
        case kp => k_is
      case djudge_channel =>
        refine' Dl.fd_mk KX G ?a ?l ?cd ?kp
        case a => k_is
        case l => k_is
        case cd => k_is
        case kp => k_is
      case d_law_open_cells =>
        refine' Dl.fd_mk KX G ?a ?l ?cd ?kp
        case a => k_is
        case l => k_is
        case cd => k_is
        case kp => k_is
      case d_law_pick =>
        refine' Dl.fd_mk KX G ?a ?l ?cd ?kp
        case a => k_is
        case l => k_is
        case cd => k_is
        case kp => k_is
      case d_law_any_order =>
        refine' Dl.fd_mk KX G ?a ?l ?cd ?kp
        case a => k_is
        case l => k_is
        case cd => k_is
        case kp => k_is
      case d_law_draw_value =>
        refine' Dl.fd_mk KX G ?a ?l ?cd ?kp
        case a => k_is
        case l => k_is
        case cd => k_is
        case kp => k_is
      case d_law_draw_things =>
        refine' Dl.fd_mk KX G ?a ?l ?cd ?kp
        case a => k_is
        case l => k_is
        case cd => k_is
        case kp => k_is
      case d_law_barred =>
        refine' Dl.fd_mk KX G ?a ?l ?cd ?kp
        case a => k_is
        case l => k_is
        case cd => k_is
        case kp => k_is
      case d_law_waiting_right =>
        refine' Dl.fd_mk KX G ?a ?l ?cd ?kp
        case a => k_is
        case l => k_is
        case cd => k_is
        case kp => k_is
      case d_law_fault =>
        refine' Dl.fd_mk KX G ?a ?l ?cd ?kp
        case a => k_is
        case l => k_is
        case cd => k_is
        case kp => k_is
      case d_law_things_right =>
        refine' Dl.fd_mk KX G ?a ?l ?cd ?kp
        case a => k_is
        case l => k_is
        case cd => k_is
        case kp => k_is
      case dlaw =>
        refine' Dl.fd_mk KX G ?a ?l ?cd ?kp
        case a => k_is
        case l => k_is
        case cd => k_is
        case kp => k_is
      case nlen => exact PySem.W.mg_none_of KX G (by k_is)
      case nint => exact PySem.W.mg_none_of KX G (by k_is)
      case nabs => exact PySem.W.mg_none_of KX G (by k_is)
      case nsorted => exact PySem.W.mg_none_of KX G (by k_is)
      case ntuple => exact PySem.W.mg_none_of KX G (by k_is)
      case nlist => exact PySem.W.mg_none_of KX G (by k_is)
      case ndict => exact PySem.W.mg_none_of KX G (by k_is)
      case nrange => exact PySem.W.mg_none_of KX G (by k_is)
      case nrepr => exact PySem.W.mg_none_of KX G (by k_is)
      case nenumerate => exact PySem.W.mg_none_of KX G (by k_is)
      case nisinstance => exact PySem.W.mg_none_of KX G (by k_is)
      case nsuper => exact PySem.W.mg_none_of KX G (by k_is)

