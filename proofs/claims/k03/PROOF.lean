import PyProof.Rows.All
import Wide.All
import OpenK.AllK
import Wide.FinOn
import HandS.ForMost
import HandS.IsInst
import HandS.Defaults
import HandS.MakeKwOnly
import PyProof.ReprRoads
import HandS.TupAny
import HandS.TupMul
import HandS.Style
import HandS.Steps
import HandS.Zip
import PyProof.ReprLen
import PyProof.StrLawsRepr
import KE.KRevSl
import HandS.ForExc
import HandS.Evl
import HandS.ExcIs
import PySem.Challenge.RW_skidblame_k03_watchers_recognized
set_option Elab.async false
set_option linter.all false
set_option maxRecDepth 100000
set_option maxHeartbeats 4000000
/-! A def that may look at what is shown (repr): its promise where no repr runs around. -/
namespace Xh
open PySem PySem.Spec PyProof.Rows L2
/-- a def's promise, called where no repr is under way -/
structure FnG (P : Program) (w : World) (K : PySem.W.Frag) (mg : Str → Option Value) (base : Heap)
    (CX : CXT) (k : Nat) (f : Addr) (fd : FuncData) (ps : List Str) (sp : Sp) : Prop where
  many : ∀ vs H Q E, sp vs H Q E → vs.length = ps.length
  goes : ∀ (A : Around) (ou : List Env) (s : Shared) (H : Hp) (ar : Args) (us : List Value) (vs : List V) (Q : VK) (E : XK),
    Room k A → A.guards = some [] → Env0 P w K mg base A ou s H → BindsTo s fd ar (ps.zip us) → Vals vs us → sp vs H Q E →
    codeAny (model P w) A (.call (.ref f) ar) (CR CX ou P w H s Q E) s
theorem FnG.of {P : Program} {w : World} {K : PySem.W.Frag} {mg : Str → Option Value} {base : Heap} {CX : CXT} {k : Nat}
    {f : Addr} {fd : FuncData} {ps : List Str} {sp : Sp} (F : FnOk P w K mg base CX k f fd ps sp) : FnG P w K mg base CX k f fd ps sp :=
  ⟨F.len, fun A ou s H ar us vs Q E hr _ he hb hv hs => F.run A ou s H ar us vs Q E hr he hb hv hs⟩
theorem deeper_guards (A : Around) (env : Env) : (A.deeper env).guards = A.guards := rfl
/-- the body of such a def -/
theorem fn_ofG {CX : CXT} {P : Program} {w : World} {K : PySem.W.Frag} {mg : Str → Option Value} {base : Heap} {k : Nat}
    {f : Addr} {nm ql : Str} {pa : Arguments} {bd : List Stmt} {sc : Scope} {dV kV doc pm cdv ct oc : Value} {an od : Option Addr}
    {osl : Array (Option Value)} {N ps : List Str} {sp : Sp}
    (lk : K.lookup f = some ⟨oc, od, .func (PySem.W.fnOf nm ql pa bd sc dV kV doc pm an cdv ct), osl⟩)
    (hcd : PySem.W.codeIn K cdv ql = true) (S : FnScope N ps sc) (many : ∀ vs H Q E, sp vs H Q E → vs.length = ps.length)
    (hb : ∀ (A : Around) (ou : List Env) (s : Shared) (H : Hp) (vs : List V) (Q : VK) (E : XK),
      Room k (A.deeper (envOfC ql sc s.heap.objs.size f cdv)) → A.guards = some [] → sp vs H Q E →
      ∃ t, PSs (cxOf CX P w K mg base N ql sc f cdv A ou s H E) bd t ∧
        t { nx := fun _ H' => Q .non H', rt := Q } (start N vs) H) :
    FnG P w K mg base CX (k + 1) f (PySem.W.fnOf nm ql pa bd sc dV kV doc pm an cdv ct) ps sp := by
  refine ⟨many, fun A ou s H ar us vs Q E hr gd e0 hbi r hsp => ?_⟩
  have hl := many _ _ _ _ hsp
  have KX : K.In s.heap := e0.mod.kin.keeps fun b o e => (e0.bs b o e).1
  have lim : s.heap.NoLimit :=
    e0.mod.nolimit.keeps fun b o e => (e0.bs b o e).1
  have kinds : ∀ y ∈ ps.zip us, sc.names.lookup y.1 = some .local ∨
      (sc.names.lookup y.1 = some .cell ∧ ((cellsFrom (s.heap.objs.size + 1) sc.names []).lookup y.1).isSome = true) := by
    rintro ⟨n, v⟩ hy
    rcases S.par n (List.of_mem_zip hy).1 with q | q
    · exact .inl q
    · exact .inr ⟨q, PySem.W.cellsFrom_some _ _ _ (.inl q)⟩
  refine codeAny_call_function hr.depth (KX _ _ lk) rfl S.co S.gen rfl
    (PySem.W.codeRec_of KX hcd) (hbi _ _ _ _ ?_)
  refine wpAny_newFunctionEnv_cells S.kind kinds fun env he s1 x => ?_
  subst he
  refine ⟨lim.keeps x.toInCall.keep, codeAny_func ?_⟩
  obtain ⟨t, ht, hq⟩ := hb A ou s H vs Q E (hr.deeper _) gd hsp
  have I : Inv (cxOf CX P w K mg base N ql sc f cdv A ou s H E) [] (start N vs) H s1 :=
    inv_start S hr.hd e0 hl r x
  refine wpAny_mono (ht.run [] s1 (start N vs) H _ I hq)
    (fun fl s' hs => ?_) fun e s' hs => hs
  have out : ∀ {σ' : L2.St} {H' : Hp} {v : V} {u : Value},
      Inv (cxOf CX P w K mg base N ql sc f cdv A ou s H E) [] σ' H' s' → RelV v u → Q v H' → CE ou P w H s Q u s' :=
    fun {σ' H' v u} J rv q => ⟨v, H', J.os, J.bare, J.base, J.hok, rv, q⟩
  cases fl with
  | next =>
    obtain ⟨σ', H', J, q⟩ := hs
    exact out (v := V.non) (u := Value.none) J rfl q
  | ret u =>
    obtain ⟨v, σ', H', J, rv, q⟩ := hs
    exact out J rv q
  | cont =>
    obtain ⟨_, _, _, q⟩ := hs
    exact q.elim
  | brk =>
    obtain ⟨_, _, _, q⟩ := hs
    exact q.elim
section
variable {P : Program} {w : World} {K : PySem.W.Frag} {mg : Str → Option Value} {base : Heap}
theorem okG {x ql : Str} {st : Stmt} {f : Addr} {fd : FuncData} {N ps : List Str} {k : Nat} {sp : Sp} (F : Fun K x ql st f fd)
    (S : FnScope N ps (defScope st)) (many : ∀ vs H Q E, sp vs H Q E → vs.length = ps.length)
    (hb : ∀ (cdv : Value) (A : Around) (ou : List Env) (s : Shared) (H : Hp) (vs : List V) (Q : VK) (E : XK),
      Room k (A.deeper (envOfC ql (defScope st) s.heap.objs.size f cdv)) → A.guards = some [] → sp vs H Q E →
      ∃ t, PSs (cxOf CX0 P w K mg base N ql (defScope st) f cdv A ou s H E).nox (defBody st) t ∧
        t { nx := fun _ H' => Q .non H', rt := Q } (start N vs) H) :
    FnG P w K mg base CX0 (k + 1) f fd ps sp := by
  obtain ⟨oc, od, kV, doc, pm, an, cdv, ct, osl, rfl, lk, hcd⟩ := F.ex
  refine fn_ofG lk hcd S many fun A ou s H vs Q E hr gd hsp => ?_
  obtain ⟨t, h, q⟩ := hb cdv A ou s H vs Q E hr gd hsp
  exact ⟨t, h.nox, q⟩
end
section
variable {X : Cx} {CX : CXT} {k : Nat} {f : Addr} {fd : FuncData} {ps : List Str} {sp : Sp} {dvs : List V} {ds : List Value} {E : XK}
  {x : Str} {p pos : Pos} {e : Expr} {es : List Expr} {t : TA}
theorem run_fnG {pins : List (Addr × Obj)} {σ : L2.St} {H : Hp} {s : Shared} {Q : VK} {us : List Value} {vs : List V}
    (F : FnG X.prog X.w X.K X.mg X.base CX k f fd ps sp) (hr : Room k X.A) (gd : X.A.guards = some []) (hb : Binds X.K fd ps ds)
    (hd : Vals dvs ds) (hx : Passes CX X E) (I : Inv X pins σ H s) (r : Vals vs us) (h : sp (vs ++ dvs) H Q E) :
    wpAny (model X.prog X.w) X.A (call (.ref f) us) (EP X pins σ Q) X.xe s := by
  have r2 : Vals (vs ++ dvs) (us ++ ds) := r.append hd
  have hl : (us ++ ds).length = ps.length := by
    rw [← r2.length]
    exact F.many _ _ _ _ h
  refine wpAny_call (codeAny_mono (F.goes X.A X.stack s H ⟨us, []⟩ (us ++ ds) (vs ++ dvs) Q E hr gd I.env0
    (hb s us I.kIn hl) r2 h) fun re s' hq => ?_)
  cases re with
  | ok fl =>
    cases fl with
    | ret u => exact I.after hq
    | next => exact hq.elim
    | brk => exact hq.elim
    | cont => exact hq.elim
  | error e => exact hx pins σ H s e s' I hq
theorem pe_callG (F : FnG X.prog X.w X.K X.mg X.base CX k f fd ps sp) (hr : Room k X.A) (gd : X.A.guards = some []) (hg : Gl X x)
    (hm : X.mg x = some (.ref f)) (hk : PySem.W.keepIn X.K (.ref f) = true) (hb : Binds X.K fd ps ds) (hd : Vals dvs ds) (hx : Passes CX X E)
    (ha : PA X (e :: es) t) (hdb : (x == ("__debug__" : Str)) = false := by decide)
    (he : starEach (e :: es) X.env = (false, eval e X.env) :: starEach es X.env := by rfl)
    (hpl : (backTo pos (starEach es X.env)).any (·.1) = false := by rfl) :
    PE X (.Call (.Name x p) (e :: es) [] pos) (tCall sp dvs E t) := by
  constructor
  intro pins s σ H Q I h
  refine wpAny_Call_Name_kw (ld_glob I hg hm ?_ hdb)
  exact PySem.W.callWith_K (h₀ := X.base) I.ok.mod.kin hk
    (thn (ha.run pos pins s σ H _ I h) fun us s1 ⟨vs, H1, I1, r, q⟩ => ⟨I1.kIn, run_fnG F hr gd hb hd hx I1 r q⟩) he hpl
end
/-! ### data, also with dicts -/
/-- the place of sys.modules is held apart -/
def SysH (H : Hp) : Prop := ∃ o, H sysModules = some (.frz o (.own 0))
theorem SysH.same {H H' : Hp} (h : SysH H) (e : Same H H') : SysH H' := let ⟨o, q⟩ := h; ⟨o, e _ _ q⟩
mutual
inductive Dq (K : PySem.W.Frag) (H : Hp) : V → PyData → Prop
  | non : Dq K H .non .none
  | bl (b : Bool) : Dq K H (.bl b) (.bool b)
  | int (i : Int) : Dq K H (.int i) (.int i)
  | str (x : Str) : Dq K H (.str x) (.str x)
  | lst {a : Addr} {xs : List V} {ds : List PyData} : H a = some (.lst xs) → DqAll K H xs ds → Dq K H (.ref a) (.list ds)
  | tup {a : Addr} {xs : List V} {ds : List PyData} : SqT K H a xs → DqAll K H xs ds → Dq K H (.ref a) (.tuple ds)
  | dct {a : Addr} : H a = some (.dK []) → Dq K H (.ref a) (.dict [])
inductive DqAll (K : PySem.W.Frag) (H : Hp) : List V → List PyData → Prop
  | nil : DqAll K H [] []
  | cons {v : V} {vs : List V} {d : PyData} {ds : List PyData} : Dq K H v d → DqAll K H vs ds → DqAll K H (v :: vs) (d :: ds)
end
theorem seqT_same {K : PySem.W.Frag} {H H' : Hp} {a : Addr} {xs : List V} (e : Same H H') (h : SqT K H a xs) : SqT K H' a xs := by
  rcases h with (h | ⟨o, h⟩) | h
  · exact .inl (.inl (e _ _ h))
  · exact .inl (.inr ⟨o, e _ _ h⟩)
  · exact .inr h
mutual
theorem Dq.same {K : PySem.W.Frag} {H H' : Hp} (e : Same H H') : ∀ (d : PyData) (v : V), Dq K H v d → Dq K H' v d
  | .none, _, h => by cases h; exact .non
  | .bool _, _, h => by cases h; exact .bl _
  | .int _, _, h => by cases h; exact .int _
  | .str _, _, h => by cases h; exact .str _
  | .list ds, _, h => by
    cases h with
    | lst ha hs => exact .lst (e _ _ ha) (DqAll.same e ds _ hs)
  | .tuple ds, _, h => by
    cases h with
    | tup ha hs => exact .tup (seqT_same e ha) (DqAll.same e ds _ hs)
  | .dict _, _, h => by
    cases h with
    | dct ha => exact .dct (e _ _ ha)
theorem DqAll.same {K : PySem.W.Frag} {H H' : Hp} (e : Same H H') : ∀ (ds : List PyData) (vs : List V), DqAll K H vs ds → DqAll K H' vs ds
  | [], _, h => by cases h; exact .nil
  | d :: ds, _, h => by
    cases h with
    | cons h1 h2 => exact .cons (Dq.same e d _ h1) (DqAll.same e ds _ h2)
end
section
variable {X : Cx} {pins : List (Addr × Obj)} {σ : L2.St} {H : Hp} {s : Shared}
mutual
theorem Dq.reads (I : Inv X pins σ H s) : ∀ (d : PyData) (v : V) (u : Value), Dq X.K H v d → RelV v u →
    ∃ as, Reads s.heap u d as ∧ (SysH H → sysModules ∉ as)
  | .none, _, _, h, r => by
    cases h; cases r
    exact ⟨_, .none, fun _ z => nomatch z⟩
  | .bool b, _, _, h, r => by
    cases h; cases r
    exact ⟨_, .bool b, fun _ z => nomatch z⟩
  | .int i, _, _, h, r => by
    cases h
    obtain ⟨t, rfl⟩ := r
    exact ⟨_, .int i t, fun _ z => nomatch z⟩
  | .str x, _, _, h, r => by
    cases h
    obtain ⟨t, rfl⟩ := r
    exact ⟨_, .str x t, fun _ z => nomatch z⟩
  | .list ds, _, _, h, r => by
    cases h with
    | lst hs ha =>
      cases r
      obtain ⟨its, rv, ⟨o, n, ho, hc, _, hd⟩, _⟩ := I.list (.inl (.inl hs))
      obtain ⟨as, hr, hn⟩ := DqAll.reads I ds _ its ha rv
      refine ⟨_, .list ho hc hd hr, fun ⟨o', z⟩ m => ?_⟩
      rcases List.mem_cons.mp m with m | m
      · rw [← m, z] at hs
        cases hs
      · exact hn ⟨o', z⟩ m
  | .tuple ds, _, _, h, r => by
    cases h with
    | tup hs ha =>
      cases r
      obtain ⟨its, rv, ⟨o, ho, hc, n, hd⟩, _⟩ := I.tuple hs
      obtain ⟨as, hr, hn⟩ := DqAll.reads I ds _ its ha rv
      exact ⟨_, .tuple ho hc hd hr, hn⟩
  | .dict _, _, _, h, r => by
    cases h with
    | dct ha =>
      cases r
      obtain ⟨_, ne, vs, kv, o, es, ep, ho, hx, hd, hk, hp, _⟩ := I.hok _ _ ha
      cases kv
      have he : es.toList = [] := by
        generalize es.toList = l at hp
        cases hp
        rfl
      have z1 : ReadsAll s.heap (es.toList.map (·.key)) (([] : List (PyData × PyData)).map (·.1)) [] := by
        rw [he]; exact .nil
      have z2 : ReadsAll s.heap (es.toList.map (·.val)) (([] : List (PyData × PyData)).map (·.2)) [] := by
        rw [he]; exact .nil
      refine ⟨_, .dict ho hx.1 hd z1 z2, fun _ m => ?_⟩
      rcases List.mem_cons.mp m with m | m
      · rw [m] at ne
        simp at ne
      · cases m
theorem DqAll.reads (I : Inv X pins σ H s) : ∀ (ds : List PyData) (vs : List V) (us : List Value), DqAll X.K H vs ds → Vals vs us →
    ∃ as, ReadsAll s.heap us ds as ∧ (SysH H → sysModules ∉ as)
  | [], _, _, h, r => by
    cases h; cases r
    exact ⟨_, .nil, fun _ z => nomatch z⟩
  | d :: ds, _, _, h, r => by
    cases h with
    | cons h1 h2 =>
      cases r with
      | cons r1 r2 =>
        obtain ⟨as, q1, n1⟩ := Dq.reads I d _ _ h1 r1
        obtain ⟨bs, q2, n2⟩ := DqAll.reads I ds _ _ h2 r2
        exact ⟨_, .cons q1 q2, fun z m => (List.mem_append.mp m).elim (n1 z) (n2 z)⟩
end
end
section
variable {X : Cx}
def rReprD (K : PySem.W.Frag) : List V → Hp → VK → Prop := fun xs H Q => ∃ x d, xs = [x] ∧ Dq K H x d ∧ SysH H ∧
  d.showable = true ∧ d.depth ≤ 50 ∧ d.shown.length ≤ sizeLine ∧ Q (.str d.shown) H
theorem call_reprD (gd : X.A.guards = some []) (hu : X.A.units + 64 < cLine) : CallR X (.builtin "repr") (rReprD X.K) := by
  intro pins s σ H xs us Q I r h
  obtain ⟨x, d, rfl, hd, sy, sh, dp, sz, q⟩ := h
  obtain ⟨u, rfl, r1⟩ := vals1 r
  obtain ⟨as, rd, na⟩ := Dq.reads I d x u hd r1
  have fin : ∀ t, EP X pins σ Q (.str d.shown t) { s with toks := s.toks + 1 } := fun t => ⟨.str _, H, I.tok _, ⟨_, rfl⟩, q⟩
  cases hd with
  | non => cases r1; exact PySem.P.repr_of_none (fin _)
  | bl b => cases r1; exact PySem.P.repr_of_bool (fin _)
  | int i =>
    obtain ⟨t, rfl⟩ := r1
    exact PySem.P.repr_of_int (of_decide_eq_true sh) (fin _)
  | str x =>
    obtain ⟨t, rfl⟩ := r1
    exact PySem.P.repr_of_str (fin _) sz
  | lst h1 h2 =>
    cases r1
    exact repr_of_reads' rd sh (fun _ => na sy) gd (by omega) (fun _ _ e => e)
      (fun h' u tk hk => ⟨.str _, H, I.kept hk, ⟨_, rfl⟩, q⟩) sz
  | tup h1 h2 =>
    cases r1
    exact repr_of_reads' rd sh (fun _ => na sy) gd (by omega) (fun _ _ e => e)
      (fun h' u tk hk => ⟨.str _, H, I.kept hk, ⟨_, rfl⟩, q⟩) sz
  | dct h1 =>
    cases r1
    exact repr_of_reads' rd sh (fun _ => na sy) gd (by omega) (fun _ _ e => e)
      (fun h' u tk hk => ⟨.str _, H, I.kept hk, ⟨_, rfl⟩, q⟩) sz
/-- == and != of such data (no dict within) -/
def rEqQ (K : PySem.W.Frag) : R2 := fun x y H Q => ∃ d e, Dq K H x d ∧ Dq K H y e ∧ SeqAt.shaped d = true ∧ SeqAt.shaped e = true ∧
  Q (.bl (PyData.eqv d e)) H
def rNeQ (K : PySem.W.Frag) : R2 := fun x y H Q => ∃ d e, Dq K H x d ∧ Dq K H y e ∧ SeqAt.shaped d = true ∧ SeqAt.shaped e = true ∧
  Q (.bl (!PyData.eqv d e)) H
theorem op_eqQ (hu : X.A.units + 64 < cLine) : OpR X (compareOp .Eq) (rEqQ X.K) := by
  intro pins s σ H x y v u Q I rx ry ⟨d, e, hd, he, sd, se, q⟩
  obtain ⟨as, r1, _⟩ := Dq.reads I d x v hd rx
  obtain ⟨bs, r2, _⟩ := Dq.reads I e y u he ry
  exact SeqAt.compareEq_shaped r1 r2 sd se hu ⟨.bl _, H, I, rfl, q⟩
theorem op_neQ (hu : X.A.units + 64 < cLine) : OpR X (compareOp .NotEq) (rNeQ X.K) := by
  intro pins s σ H x y v u Q I rx ry ⟨d, e, hd, he, sd, se, q⟩
  obtain ⟨as, r1, _⟩ := Dq.reads I d x v hd rx
  obtain ⟨bs, r2, _⟩ := Dq.reads I e y u he ry
  exact SeqAt.compareNe_shaped r1 r2 sd se hu ⟨.bl _, H, I, rfl, q⟩
/-- isinstance of such data, a built-in class -/
def tyOf : PyData → String
  | .none => "NoneType" | .bool _ => "bool" | .int _ => "int" | .str _ => "str" | .list _ => "list" | .tuple _ => "tuple" | .dict _ => "dict"
theorem Dq.ty {K : PySem.W.Frag} {H : Hp} {x : V} {d : PyData} (h : Dq K H x d) : TyX K H x (.type (tyOf d)) := by
  cases h with
  | non => exact .base .non
  | bl b => exact .base (.bl b)
  | int i => exact .base (.int i)
  | str x => exact .base (.str x)
  | lst h _ => exact .base (.lst h)
  | tup h _ =>
    rcases h with (h | ⟨o, h⟩) | ⟨o, its, n, h, hc, _⟩
    · exact .base (.tup h)
    · exact .fTuple h
    · exact .kTuple h hc
  | dct h => exact .base (.dK h)
def rIsD (K : PySem.W.Frag) (T : String) : List V → Hp → VK → Prop := fun xs H Q => ∃ x d b, xs = [x, .ty T] ∧ Dq K H x d ∧
  kitB (tyOf d) T = some b ∧ Q (.bl b) H
theorem call_isD (T : String) : CallR X (.builtin "isinstance") (rIsD X.K T) := by
  intro pins s σ H xs us Q I r ⟨x, d, b, e, hd, hb, q⟩
  exact call_isi pins s σ H xs us Q I r ⟨x, .ty T, _, _, b, e, .ty T, hd.ty, kit_ty hb, q⟩
end
end Xh
namespace Xh
open PySem PySem.Spec PyProof.Rows L2
/-- the law's own call, its promise asked where no repr runs, sys.modules held apart -/
theorem law_callG {P : Program} {w : World} {K : PySem.W.Frag} {mg mb : Str → Option Value} {k : Nat} {fa a : Addr}
    {fd : FuncData} {x : Str} {sp : Sp} {z : Shared} {vs : List Value} {ns : List Int} {mS : Str → Option Value}
    (KX : K.In z.heap) (gl : z.heap.Ns mainGlobals mg) (bl : z.heap.Ns builtinsNs mb)
    (bb : ∀ x : Str, x ≠ "__name__" → mb x = bootBuiltins x) (lim : z.heap.NoLimit) (gn : z.gens = #[])
    (ha : z.heap.get? a = some { cls := .type "list", data := .seq vs.toArray }) (hi : IntsAre vs ns)
    (hl : ns.length ≤ sizeLine) (hr : Room k callerA) (sy : z.heap.Ns sysModules mS) (ks : K.lookup sysModules = none)
    (F : ∀ base : Heap, K.In base → base.Ns mainGlobals mg → FnG P w K mg base CX0 k fa fd [x] sp)
    (bd : ∀ (s : Shared) (u : Value), BindsTo s fd ⟨[u], []⟩ [(x, u)])
    (hsp : ∀ H : Hp, SysH H → SqL K H a (ns.map V.int) → sp [.ref a] H (fun v _ => v = .bl true) E0) :
    codeAny (model P w) callerA (.call (.ref fa) ⟨[.ref a], []⟩)
      (fun r s' => r = .ok (.ret (.bool true)) ∧ OldK z.heap s'.heap ∧ s'.os = z.os ∧ AllBare s'.gens) z := by
  obtain ⟨oS, esS, epS, hS, dS, _⟩ := sy
  have ne : a ≠ sysModules := fun e => by
    rw [e, hS] at ha
    cases ha
    cases dS
  have rv := vals_ints hi
  have core : ∀ H : Hp, (∀ b, H b ≠ none → (b = a ∧ K.lookup a = none) ∨ b = sysModules) → (∀ b u, H b = some u → ∃ o v, u = .frz o v) →
      SysH H → SqL K H a (ns.map V.int) → HOk P w H z.heap →
      codeAny (model P w) callerA (.call (.ref fa) ⟨[.ref a], []⟩)
        (fun r s' => r = .ok (.ret (.bool true)) ∧ OldK z.heap s'.heap ∧ s'.os = z.os ∧ AllBare s'.gens) z := by
    intro H hA hF hY hQ ok
    have un : ∀ {b : Addr}, b ≠ a → b ≠ sysModules → H b = none := fun {b} n1 n2 => by
      cases q : H b with
      | none => rfl
      | some u =>
        rcases hA b (by rw [q]; exact fun z => nomatch z) with ⟨e, _⟩ | e
        · exact absurd e n1
        · exact absurd e n2
    have seq : ∀ {b : Addr} {o : Obj} {es : Array DictEntry} {ep : Nat}, z.heap.get? b = some o → o.data = .dict es ep → b ≠ a :=
      fun {b o es ep} e d n => by
        rw [n, ha] at e
        cases e
        cases d
    have ns' : ∀ {b : Addr} {m : Str → Option Value}, b ≠ sysModules → z.heap.Ns b m → (hidT z.heap H).Ns b m :=
      fun {b m} n ⟨o, es, ep, e, d, r⟩ => ⟨o, es, ep, hidT_get e (un (seq e d) n), d, r⟩
    have kb : K.In (hidT z.heap H) := fun b o e => hidT_get (KX b o e) (by
      cases q : H b with
      | none => rfl
      | some u =>
        exfalso
        rcases hA b (by rw [q]; exact fun z => nomatch z) with ⟨e1, e2⟩ | e1
        · rw [e1, e2] at e
          cases e
        · rw [e1, ks] at e
          cases e)
    have M : Mod K mg (hidT z.heap H) := by
      obtain ⟨mc, l1, l2⟩ := lim
      exact ⟨kb, ns' (by decide) gl, ⟨mb, ns' (by decide) bl, bb⟩, ⟨mc, ns' (by decide) l1, l2⟩⟩
    have e0 : Env0 P w K mg (hidT z.heap H) callerA [] z H :=
      ⟨rfl, M, fun b o e => of_hidT e, Nat.le_of_eq (hidT_size _ _), trivial, fun b hb => absurd (show b ∈ ([] : List Addr) from hb) List.not_mem_nil, ok, .of_eq gn⟩
    refine codeAny_mono ((F _ kb (ns' (by decide) gl)).goes callerA [] z H ⟨[.ref a], []⟩ [.ref a] [.ref a] _ _ hr rfl e0
      (bd z (.ref a)) (.cons rfl .nil) (hsp H hY hQ)) fun r s' h => ?_
    cases r with
    | error e => exact h.elim
    | ok fl =>
      cases fl with
      | next => exact h.elim
      | brk => exact h.elim
      | cont => exact h.elim
      | ret u =>
        obtain ⟨v, H', os, bare, uu, ok', r', q⟩ := h
        cases (show v = .bl true from q)
        cases (show u = Value.bool true from r')
        refine ⟨rfl, OldK.of_keep fun b o e => ?_, os, bare⟩
        cases q : H b with
        | none => exact uu.keep b o e q (fun z => by cases z) (fun z => by cases z)
        | some u =>
          obtain ⟨ob, v, rfl⟩ := hF b u q
          have q2 := uu.frzs b ob v q
          obtain ⟨e1, _⟩ := ok b _ q
          obtain ⟨e2, _⟩ := ok' b _ q2
          rw [e] at e1
          cases e1
          exact e2
  cases hk : K.lookup a with
  | some o =>
    have e := KX a o hk
    rw [ha] at e
    cases e
    refine core (fun b => if b = sysModules then some (.frz oS (.own 0)) else none) (fun b h => ?_) (fun b u h => ?_) ⟨oS, if_pos rfl⟩
      (.inr ⟨_, vs.toArray, _, hk, rfl, rfl, rfl, by rw [List.size_toArray, hi.length]; exact hl, by simpa using rv⟩) (fun b u h => ?_)
    · by_cases n : b = sysModules
      · exact .inr n
      · exact absurd (if_neg n) h
    · have h := (show (if b = sysModules then some (HO.frz oS (.own 0)) else none) = some u from h)
      by_cases n : b = sysModules
      · rw [if_pos n] at h
        exact ⟨oS, _, (Option.some.inj h).symm⟩
      · rw [if_neg n] at h
        cases h
    · have h := (show (if b = sysModules then some (HO.frz oS (.own 0)) else none) = some u from h)
      by_cases n : b = sysModules
      · rw [if_pos n] at h
        cases h
        subst n
        exact ⟨hS, oS, hS⟩
      · rw [if_neg n] at h
        cases h
  | none =>
    refine core (fun b => if b = a then some (.frz { cls := .type "list", data := .seq vs.toArray } (.lst (ns.map V.int))) else
      if b = sysModules then some (.frz oS (.own 0)) else none) (fun b h => ?_) (fun b u h => ?_) ⟨oS, ?_⟩ (.inl (.inr ⟨_, if_pos rfl⟩)) (fun b u h => ?_)
    · by_cases m : b = a
      · exact .inl ⟨m, hk⟩
      · by_cases n : b = sysModules
        · exact .inr n
        · exact absurd ((if_neg m).trans (if_neg n)) h
    · have h := (show (if b = a then some (HO.frz { cls := .type "list", data := .seq vs.toArray } (.lst (ns.map V.int))) else
        if b = sysModules then some (HO.frz oS (.own 0)) else none) = some u from h)
      by_cases m : b = a
      · rw [if_pos m] at h
        exact ⟨_, _, (Option.some.inj h).symm⟩
      · by_cases n : b = sysModules
        · rw [if_neg m, if_pos n] at h
          exact ⟨_, _, (Option.some.inj h).symm⟩
        · rw [if_neg m, if_neg n] at h
          cases h
    · exact (if_neg (Ne.symm ne)).trans (if_pos rfl)
    · have h := (show (if b = a then some (HO.frz { cls := .type "list", data := .seq vs.toArray } (.lst (ns.map V.int))) else
        if b = sysModules then some (HO.frz oS (.own 0)) else none) = some u from h)
      by_cases m : b = a
      · rw [if_pos m] at h
        cases h
        subst m
        exact ⟨ha, by rw [List.length_map]; exact hl, vs, _, rv, ha⟩
      · by_cases n : b = sysModules
        · rw [if_neg m, if_pos n] at h
          cases h
          subst n
          exact ⟨hS, oS, hS⟩
        · rw [if_neg m, if_neg n] at h
          cases h
theorem walk_ofG {l : PySem.W.OpenLaw} {n k : Nat} {q : Program} {loose : List Str} {XP : (Str → Option Value) → Heap → Prop}
    {YP : World → Heap → Prop} {d : DefRec} {K : Params → PySem.W.Frag} {sp : World → Sp} {x : Str}
    (hn : l.most = some n) (hn2 : n ≤ sizeLine) (hdf : d.params.defaults = []) (hr : Room k callerA) (im : importsNone q = true)
    (hY : ∀ (w : World) (h : Heap), YP w h → (K w.params).In h) (ks : ∀ w : World, (K w.params).lookup sysModules = none)
    (F : ∀ (w : World) (mg : Str → Option Value) (fa : Addr) (h : Heap), (K w.params).In h → h.Ns mainGlobals mg → mg d.name = some (.ref fa) →
      ∃ fd : FuncData, (∀ (s : Shared) (u : Value), BindsTo s fd ⟨[u], []⟩ [(x, u)]) ∧
        ∀ base : Heap, (K w.params).In base → base.Ns mainGlobals mg → FnG l.prog w (K w.params) mg base CX0 k fa fd [x] (sp w))
    (hsp : ∀ (w : World) (H : Hp) (a : Addr) (ns : List Int), ns.length ≤ n → SysH H → SqL (K w.params) H a (ns.map V.int) →
      sp w [.ref a] H (fun v _ => v = .bl true) E0) :
    PySem.W.WalkO q loose XP YP l.row.toRowW d [] (fun f vs => PySem.call f vs) := by
  refine Att.attach_call hn hdf fun w s₀ s₁ mg mb fa o pm cd doc a vs ns G Y ho hd hcd hmg hobj hints hlen hg => ?_
  have KX := hY w _ Y
  obtain ⟨fd, hb, hF⟩ := F w mg fa _ KX G.T.g hmg
  obtain ⟨mS, sy, _⟩ := (G.T.seer im).mods
  exact law_callG KX G.T.g G.T.b G.T.builtins G.T.nolimit hg hobj hints (Nat.le_trans hlen hn2) hr sy (ks w) hF hb
    fun H h1 h2 => hsp w H a ns hlen h1 h2
end Xh
/-! What a reading makes of data: expressions over plain data, the heap left out. -/
namespace Xh
open PySem PySem.Spec PyProof.Rows L2
/-- the heap without some places -/
def rmv (H : Hp) (V : List Addr) : Hp := fun b => if b ∈ V then none else H b
theorem rmv_in {H : Hp} {V : List Addr} {b : Addr} (h : b ∈ V) : rmv H V b = none := if_pos h
theorem rmv_out {H : Hp} {V : List Addr} {b : Addr} (h : b ∉ V) : rmv H V b = H b := if_neg h
theorem rmv_some {H : Hp} {V : List Addr} {b : Addr} {o : HO} (h : rmv H V b = some o) : b ∉ V ∧ H b = some o := by
  by_cases m : b ∈ V
  · rw [rmv_in m] at h
    cases h
  · rw [rmv_out m] at h
    exact ⟨m, h⟩
theorem rmv_congr {H : Hp} {V W : List Addr} (h : ∀ b, b ∈ V ↔ b ∈ W) : rmv H V = rmv H W := by
  funext b
  by_cases m : b ∈ V
  · rw [rmv_in m, rmv_in ((h b).mp m)]
  · rw [rmv_out m, rmv_out fun z => m ((h b).mpr z)]
theorem rmv_sub {H : Hp} {V W : List Addr} (h : ∀ b, b ∈ V → b ∈ W) : Same (rmv H W) (rmv H V) := fun b o e => by
  obtain ⟨n, e⟩ := rmv_some e
  rw [rmv_out fun z => n (h b z)]
  exact e
theorem rmv_all {H : Hp} {V : List Addr} : Same (rmv H V) H := fun b o e => (rmv_some e).2
theorem rmv_upd {H : Hp} {V : List Addr} {p : Addr} {o : HO} (h : p ∈ V) : rmv (upd H p o) V = rmv H V := by
  funext b
  by_cases m : b ∈ V
  · rw [rmv_in m, rmv_in m]
  · rw [rmv_out m, rmv_out m, upd_ne fun z => m (by rw [z]; exact h)]
/-- what a slot holds: nothing known, the pot, data, a list of one's own -/
inductive Cell where
  | non | pot | dat (d : PyData) | own (ds : List PyData)
abbrev Env := List Cell
/-- the pot, one's own lists by slot, what the callers hold apart -/
structure Ct where
  pot : Option Addr
  cl : Addr
  own : List (Nat × Addr)
  fr : List Addr
def Ct.vol (C : Ct) : List Addr := C.pot.toList ++ (C.own.map (·.2) ++ C.fr)
theorem vol_pot {C : Ct} {a : Addr} (h : C.pot = some a) : a ∈ C.vol := by
  unfold Ct.vol
  rw [h]
  simp
theorem vol_own {C : Ct} {i : Nat} {a : Addr} (h : (i, a) ∈ C.own) : a ∈ C.vol := by
  unfold Ct.vol
  refine List.mem_append_right _ (List.mem_append_left _ ?_)
  exact List.mem_map.mpr ⟨_, h, rfl⟩
theorem vol_fr {C : Ct} {a : Addr} (h : a ∈ C.fr) : a ∈ C.vol := List.mem_append_right _ (List.mem_append_right _ h)
def PotOk (c : Addr) (H : Hp) (a : Addr) : Prop := ∃ (ns : List Int) (p m r : Int),
  H a = some (.lst [.ref c, .int p, .int m, .int r]) ∧ H c = some (.lst (ns.map V.int)) ∧ ns.length ≤ 1000
structure Good (C : Ct) (H : Hp) : Prop where
  sys : SysH H
  trk : ∀ b ∈ C.vol, H b ≠ none
  pot : ∀ a, C.pot = some a → PotOk C.cl H a
  inj : ∀ i j a, (i, a) ∈ C.own → (j, a) ∈ C.own → i = j
  apart : ∀ i a, (i, a) ∈ C.own → C.pot ≠ some a
structure Go (C : Ct) (H H' : Hp) : Prop where
  keep : ∀ b o, C.pot ≠ some b → H b = some o → H' b = some o
  pot : ∀ a, C.pot = some a → PotOk C.cl H' a
theorem Go.refl {C : Ct} {H : Hp} (g : Good C H) : Go C H H := ⟨fun _ _ _ e => e, g.pot⟩
theorem Go.trans {C : Ct} {H H1 H2 : Hp} (a : Go C H H1) (b : Go C H1 H2) : Go C H H2 :=
  ⟨fun x o n e => b.keep x o n (a.keep x o n e), b.pot⟩
theorem potOk_some {c : Addr} {H : Hp} {a : Addr} (h : PotOk c H a) : H a ≠ none := by
  obtain ⟨ns, p, m, r, e, _⟩ := h
  rw [e]
  exact fun z => nomatch z
theorem Good.sysne {C : Ct} {H : Hp} (g : Good C H) : C.pot ≠ some sysModules := fun e => by
  obtain ⟨ns, p, m, r, e1, _⟩ := g.pot _ e
  obtain ⟨o, e2⟩ := g.sys
  rw [e1] at e2
  cases e2
theorem Good.go {C : Ct} {H H' : Hp} (g : Good C H) (k : Go C H H') : Good C H' where
  sys := let ⟨o, e⟩ := g.sys; ⟨o, k.keep _ _ g.sysne e⟩
  trk := fun b hb => by
    by_cases e : C.pot = some b
    · exact potOk_some (k.pot b e)
    · cases q : H b with
      | none => exact absurd q (g.trk b hb)
      | some o =>
        rw [k.keep b o e q]
        exact fun z => nomatch z
  pot := k.pot
  inj := g.inj
  apart := g.apart
theorem Go.same {C : Ct} {H H' : Hp} (k : Go C H H') : Same (rmv H C.vol) (rmv H' C.vol) := fun b o e => by
  obtain ⟨n, e⟩ := rmv_some e
  rw [rmv_out n]
  exact k.keep b o (fun z => n (vol_pot z)) e
theorem Go.dq {K : PySem.W.Frag} {C : Ct} {H H' : Hp} {v : V} {d : PyData} (k : Go C H H') (h : Dq K (rmv H C.vol) v d) : Dq K (rmv H' C.vol) v d := Dq.same k.same d v h
theorem Go.dqs {K : PySem.W.Frag} {C : Ct} {H H' : Hp} {v : List V} {d : List PyData} (k : Go C H H') (h : DqAll K (rmv H C.vol) v d) : DqAll K (rmv H' C.vol) v d := DqAll.same k.same d v h
theorem Good.new {C : Ct} {H : Hp} {p : Addr} {o : HO} (g : Good C H) (n : H p = none) : Go C H (upd H p o) where
  keep := fun b u _ e => by
    rw [upd_ne (ne_of_none e n)]
    exact e
  pot := fun a e => by
    obtain ⟨ns, p', m, r, e1, e2, l⟩ := g.pot a e
    exact ⟨ns, p', m, r, by rw [upd_ne (ne_of_none e1 n)]; exact e1, by rw [upd_ne (ne_of_none e2 n)]; exact e2, l⟩
theorem Good.out {C : Ct} {H : Hp} {p : Addr} (g : Good C H) (n : H p = none) : p ∉ C.vol := fun m => g.trk p m n
theorem Good.at {C : Ct} {H : Hp} {p : Addr} {o : HO} (g : Good C H) (n : H p = none) : rmv (upd H p o) C.vol p = some o := by
  rw [rmv_out (g.out n), upd_same]
section
variable {K : PySem.W.Frag}
def CellOk (K : PySem.W.Frag) (C : Ct) (σ : List (Option V)) (H : Hp) (i : Nat) : Cell → Prop
  | .non => True
  | .pot => ∃ a, C.pot = some a ∧ σ[i]? = some (some (.ref a))
  | .dat d => ∃ v, σ[i]? = some (some v) ∧ Dq K (rmv H C.vol) v d
  | .own ds => ∃ p xs, (i, p) ∈ C.own ∧ σ[i]? = some (some (.ref p)) ∧ H p = some (.lst xs) ∧ DqAll K (rmv H C.vol) xs ds
structure Cells (K : PySem.W.Frag) (C : Ct) (σ : List (Option V)) (H : Hp) (δ : Env) : Prop where
  len : σ.length = δ.length
  ok : ∀ (i : Nat) c, δ[i]? = some c → CellOk K C σ H i c
theorem CellOk.go {C : Ct} {σ : List (Option V)} {H H' : Hp} {i : Nat} (g : Good C H) (k : Go C H H') : ∀ {c : Cell}, CellOk K C σ H i c → CellOk K C σ H' i c
  | .non, _ => trivial
  | .pot, h => h
  | .dat d, ⟨v, e, h⟩ => ⟨v, e, k.dq h⟩
  | .own ds, ⟨p, xs, m, e, h1, h2⟩ => ⟨p, xs, m, e, k.keep _ _ (g.apart _ _ m) h1, k.dqs h2⟩
theorem Cells.go {C : Ct} {σ : List (Option V)} {H H' : Hp} {δ : Env} (c : Cells K C σ H δ) (g : Good C H) (k : Go C H H') : Cells K C σ H' δ :=
  ⟨c.len, fun i x e => (c.ok i x e).go g k⟩
/-- e gives data of which P holds -/
def EvP (K : PySem.W.Frag) (te : TE) (δ : Env) (P : PyData → Prop) : Prop := ∀ (C : Ct) (σ : List (Option V)) (H : Hp), Good C H → Cells K C σ H δ →
  ∀ Q : VK, (∀ v d H', Go C H H' → Dq K (rmv H' C.vol) v d → P d → Q v H') → te σ H Q
def EvB (K : PySem.W.Frag) (tt : TT) (δ : Env) (β : Bool → Prop) : Prop := ∀ (C : Ct) (σ : List (Option V)) (H : Hp), Good C H → Cells K C σ H δ →
  ∀ Q : Bool → Hp → Prop, (∀ b H', Go C H H' → β b → Q b H') → tt σ H Q
def EvA (K : PySem.W.Frag) (ta : TA) (δ : Env) (P : List PyData → Prop) : Prop := ∀ (C : Ct) (σ : List (Option V)) (H : Hp), Good C H → Cells K C σ H δ →
  ∀ Q : List V → Hp → Prop, (∀ v d H', Go C H H' → DqAll K (rmv H' C.vol) v d → P d → Q v H') → ta σ H Q
def EvO (K : PySem.W.Frag) (to : TO) (δ : Env) (P : Option Int → Prop) : Prop := ∀ (C : Ct) (σ : List (Option V)) (H : Hp), Good C H → Cells K C σ H δ →
  ∀ Q : Option Int → Hp → Prop, (∀ o H', Go C H H' → P o → Q o H') → to σ H Q
/-- an operator, by data -/
def Rd2 (K : PySem.W.Frag) (r : R2) (a b : PyData) (P : PyData → Prop) : Prop := ∀ (C : Ct) (x y : V) (H : Hp), Good C H → Dq K (rmv H C.vol) x a → Dq K (rmv H C.vol) y b →
  ∀ Q : VK, (∀ v d H', Go C H H' → Dq K (rmv H' C.vol) v d → P d → Q v H') → r x y H Q
def RdC (K : PySem.W.Frag) (r : List V → Hp → VK → Prop) (as : List PyData) (P : PyData → Prop) : Prop := ∀ (C : Ct) (xs : List V) (H : Hp), Good C H → DqAll K (rmv H C.vol) xs as →
  ∀ Q : VK, (∀ v d H', Go C H H' → Dq K (rmv H' C.vol) v d → P d → Q v H') → r xs H Q
variable {δ : Env} {te ta tb tc : TE} {t u : TT} {P A B R : PyData → Prop}
theorem EvP.imp (h : EvP K te δ P) (f : ∀ d, P d → R d) : EvP K te δ R := fun C σ H g c Q q => h C σ H g c Q fun v d H' k e p => q v d H' k e (f d p)
theorem EvA.imp {ta : TA} {P R : List PyData → Prop} (h : EvA K ta δ P) (f : ∀ d, P d → R d) : EvA K ta δ R := fun C σ H g c Q q => h C σ H g c Q fun v d H' k e p => q v d H' k e (f d p)
theorem EvB.imp {β γ : Bool → Prop} (h : EvB K t δ β) (f : ∀ b, β b → γ b) : EvB K t δ γ := fun C σ H g c Q q => h C σ H g c Q fun b H' k p => q b H' k (f b p)
theorem e_var {i : Nat} {d : PyData} (h : δ[i]? = some (.dat d)) : EvP K (tVar i) δ (· = d) := fun C σ H g c Q q => by
  obtain ⟨v, e, dq⟩ := c.ok i _ h
  exact ⟨v, e, q v d H (.refl g) dq rfl⟩
theorem e_int {n : Int} : EvP K (tC (.int n)) δ (· = .int n) := fun C σ H g c Q q => q _ _ H (.refl g) (.int n) rfl
theorem e_bl {b : Bool} : EvP K (tC (.bl b)) δ (· = .bool b) := fun C σ H g c Q q => q _ _ H (.refl g) (.bl b) rfl
theorem e_non : EvP K (tC .non) δ (· = .none) := fun C σ H g c Q q => q _ _ H (.refl g) .non rfl
theorem e_str {x : Str} : EvP K (tC (.str x)) δ (· = .str x) := fun C σ H g c Q q => q _ _ H (.refl g) (.str x) rfl
theorem e_op {r : R2} (ha : EvP K ta δ A) (hb : ∀ a, A a → EvP K tb δ B) (hr : ∀ a b, A a → B b → Rd2 K r a b P) : EvP K (tOp r ta tb) δ P := fun C σ H g c Q q =>
  ha C σ H g c _ fun x a H1 k1 e1 p1 => hb a p1 C σ H1 (g.go k1) (c.go g k1) _ fun y b H2 k2 e2 p2 =>
    hr a b p1 p2 C x y H2 ((g.go k1).go k2) (k2.dq e1) e2 Q fun v d H3 k3 e3 p3 => q v d H3 ((k1.trans k2).trans k3) e3 p3
theorem e_un {f : Int → V} {r : V → Hp → VK → Prop} (ha : EvP K ta δ A) (hr : ∀ a, A a → ∃ i, a = .int i ∧ ∀ H Q, (∀ P' : PyData → Prop, P' = P → ∃ j, P' (.int j) ∧ Q (.int j) H) → r (.int i) H Q) : True := trivial
theorem e_neg (ha : EvP K ta δ A) (hr : ∀ a, A a → ∃ i, a = .int i ∧ P (.int (-i))) : EvP K (tUn (rU fun i => .int (-i)) ta) δ P := fun C σ H g c Q q =>
  ha C σ H g c _ fun x a H1 k1 e1 p1 => by
    obtain ⟨i, rfl, p⟩ := hr a p1
    cases e1
    exact ⟨i, rfl, q _ _ H1 k1 (.int _) p⟩
theorem a_nil : EvA K tNil δ (· = []) := fun C σ H g c Q q => q [] [] H (.refl g) .nil rfl
theorem a_cons {tr : TA} {B : List PyData → Prop} {P : List PyData → Prop} (ha : EvP K ta δ A) (hr : ∀ a, A a → EvA K tr δ B) (f : ∀ a b, A a → B b → P (a :: b)) : EvA K (tCons ta tr) δ P := fun C σ H g c Q q =>
  ha C σ H g c _ fun x a H1 k1 e1 p1 => hr a p1 C σ H1 (g.go k1) (c.go g k1) _ fun y b H2 k2 e2 p2 =>
    q (x :: y) (a :: b) H2 (k1.trans k2) (.cons (k2.dq e1) e2) (f a b p1 p2)
/-- the arguments one by one, each of one value -/
theorem a_one {tr : TA} {a : PyData} {b : List PyData} (ha : EvP K ta δ (· = a)) (hr : EvA K tr δ (· = b)) : EvA K (tCons ta tr) δ (· = a :: b) :=
  a_cons ha (fun _ _ => hr) fun x y e1 e2 => by rw [e1, e2]
theorem dqAll_len {H : Hp} : ∀ {vs : List V} {ds : List PyData}, DqAll K H vs ds → vs.length = ds.length
  | _, _, .nil => rfl
  | _, _, .cons _ t => congrArg Nat.succ (dqAll_len t)
theorem e_tup {ta : TA} {A : List PyData → Prop} (h : EvA K ta δ A) (f : ∀ ds, A ds → ds.length ≤ 10000 ∧ P (.tuple ds)) : EvP K (tTup ta) δ P := fun C σ H g c Q q =>
  h C σ H g c _ fun vs ds H1 k1 e1 p1 => ⟨Nat.le_trans (by rw [dqAll_len e1]; exact (f ds p1).1) (by decide), fun p n =>
    q _ _ _ (k1.trans ((g.go k1).new n)) (.tup (.inl (.inl ((g.go k1).at n))) (((g.go k1).new n).dqs e1)) (f ds p1).2⟩
theorem e_lst {ta : TA} {A : List PyData → Prop} (h : EvA K ta δ A) (f : ∀ ds, A ds → ds.length ≤ 10000 ∧ P (.list ds)) : EvP K (tLst ta) δ P := fun C σ H g c Q q =>
  h C σ H g c _ fun vs ds H1 k1 e1 p1 => ⟨Nat.le_trans (by rw [dqAll_len e1]; exact (f ds p1).1) (by decide), fun p n =>
    q _ _ _ (k1.trans ((g.go k1).new n)) (.lst ((g.go k1).at n) (((g.go k1).new n).dqs e1)) (f ds p1).2⟩
theorem e_dct : P (.dict []) → EvP K tDNewK δ P := fun h C σ H g c Q q p n =>
  q _ _ _ (g.new n) (.dct (g.at n)) h
/-! tests -/
theorem b_test (h : EvP K te δ P) {β : Bool → Prop} (f : ∀ d, P d → ∃ b, d = .bool b ∧ β b) : EvB K (tTest te) δ β := fun C σ H g c Q q =>
  h C σ H g c _ fun v d H' k e p => by
    obtain ⟨b, rfl, z⟩ := f d p
    cases e
    exact ⟨b, rfl, q b H' k z⟩
theorem b_B (h : EvP K te δ P) {β : Bool → Prop} (f : ∀ d, P d → ∃ b, d = .bool b ∧ β b) : EvB K (tB te) δ β := fun C σ H g c Q q =>
  h C σ H g c _ fun v d H' k e p => by
    obtain ⟨b, rfl, z⟩ := f d p
    cases e
    exact ⟨b, rfl, q b H' k z⟩
theorem b_and {α β γ : Bool → Prop} (h1 : EvB K t δ α) (h2 : α true → EvB K u δ β) (f : α false → γ false) (f2 : ∀ b, α true → β b → γ b) : EvB K (tAnd t u) δ γ := fun C σ H g c Q q =>
  h1 C σ H g c _ fun b H1 k1 p1 => by
    cases b with
    | true =>
      show u σ H1 Q
      exact h2 p1 C σ H1 (g.go k1) (c.go g k1) _ fun b H2 k2 p2 => q b H2 (k1.trans k2) (f2 b p1 p2)
    | false =>
      show Q false H1
      exact q false H1 k1 (f p1)
theorem b_or {α β γ : Bool → Prop} (h1 : EvB K t δ α) (h2 : α false → EvB K u δ β) (f : α true → γ true) (f2 : ∀ b, α false → β b → γ b) : EvB K (tOr t u) δ γ := fun C σ H g c Q q =>
  h1 C σ H g c _ fun b H1 k1 p1 => by
    cases b with
    | false =>
      show u σ H1 Q
      exact h2 p1 C σ H1 (g.go k1) (c.go g k1) _ fun b H2 k2 p2 => q b H2 (k1.trans k2) (f2 b p1 p2)
    | true =>
      show Q true H1
      exact q true H1 k1 (f p1)
theorem b_not {α β : Bool → Prop} (h1 : EvB K t δ α) (f : ∀ b, α b → β (!b)) : EvB K (tNot t) δ β := fun C σ H g c Q q =>
  h1 C σ H g c _ fun b H1 k1 p1 => q (!b) H1 k1 (f b p1)
theorem e_and {A : Bool → Prop} {B : PyData → Prop} (h1 : EvP K ta δ fun d => ∃ b, d = .bool b ∧ A b) (h2 : A true → EvP K tb δ B) (f : A false → P (.bool false)) (f2 : ∀ d, A true → B d → P d) : EvP K (tAndV ta tb) δ P := fun C σ H g c Q q =>
  h1 C σ H g c _ fun v d H1 k1 e1 ⟨b, e, p1⟩ => by
    subst e
    cases e1
    refine ⟨b, rfl, ?_⟩
    cases b with
    | true =>
      show tb σ H1 Q
      exact h2 p1 C σ H1 (g.go k1) (c.go g k1) _ fun v d H2 k2 e2 p2 => q v d H2 (k1.trans k2) e2 (f2 d p1 p2)
    | false =>
      show Q (.bl false) H1
      exact q _ _ H1 k1 (.bl false) (f p1)
theorem e_or {A : Bool → Prop} {B : PyData → Prop} (h1 : EvP K ta δ fun d => ∃ b, d = .bool b ∧ A b) (h2 : A false → EvP K tb δ B) (f : A true → P (.bool true)) (f2 : ∀ d, A false → B d → P d) : EvP K (tOrV ta tb) δ P := fun C σ H g c Q q =>
  h1 C σ H g c _ fun v d H1 k1 e1 ⟨b, e, p1⟩ => by
    subst e
    cases e1
    refine ⟨b, rfl, ?_⟩
    cases b with
    | false =>
      show tb σ H1 Q
      exact h2 p1 C σ H1 (g.go k1) (c.go g k1) _ fun v d H2 k2 e2 p2 => q v d H2 (k1.trans k2) e2 (f2 d p1 p2)
    | true =>
      show Q (.bl true) H1
      exact q _ _ H1 k1 (.bl true) (f p1)
theorem e_not {A : Bool → Prop} (h1 : EvP K ta δ fun d => ∃ b, d = .bool b ∧ A b) (f : ∀ b, A b → P (.bool (!b))) : EvP K (tNotV ta) δ P := fun C σ H g c Q q =>
  h1 C σ H g c _ fun v d H1 k1 e1 ⟨b, e, p1⟩ => by
    subst e
    cases e1
    exact ⟨b, rfl, q _ _ H1 k1 (.bl _) (f b p1)⟩
theorem e_if {β : Bool → Prop} (h : EvB K t δ β) (h1 : β true → EvP K ta δ P) (h2 : β false → EvP K tb δ P) : EvP K (tIf t ta tb) δ P := fun C σ H g c Q q =>
  h C σ H g c _ fun b H1 k1 p1 => by
    cases b with
    | true =>
      show ta σ H1 Q
      exact h1 p1 C σ H1 (g.go k1) (c.go g k1) _ fun v d H2 k2 e2 p2 => q v d H2 (k1.trans k2) e2 p2
    | false =>
      show tb σ H1 Q
      exact h2 p1 C σ H1 (g.go k1) (c.go g k1) _ fun v d H2 k2 e2 p2 => q v d H2 (k1.trans k2) e2 p2
/-! operators -/
theorem r_I0 {f : Int → Int → V} {i j : Int} {d : PyData} (h : ∀ H, Dq K H (f i j) d) (p : P d) : Rd2 K (rI0 f) (.int i) (.int j) P := fun C x y H g hx hy Q q => by
  cases hx
  cases hy
  exact ⟨i, j, rfl, rfl, q _ _ H (.refl g) (h _) p⟩
theorem r_I {Cn : Int → Int → Prop} {f : Int → Int → V} {i j : Int} {d : PyData} (hc : Cn i j) (h : ∀ H, Dq K H (f i j) d) (p : P d) : Rd2 K (rI Cn f) (.int i) (.int j) P := fun C x y H g hx hy Q q => by
  cases hx
  cases hy
  exact ⟨i, j, rfl, rfl, hc, q _ _ H (.refl g) (h _) p⟩
/-- the scalars, as values -/
def sV : PyData → Option V
  | .none => some .non
  | .bool b => some (.bl b)
  | .int i => some (.int i)
  | .str x => some (.str x)
  | _ => none
theorem sV_of {H : Hp} {v w : V} {d : PyData} (h : Dq K H v d) (e : sV d = some w) : v = w := by
  cases h <;> first | exact Option.some.inj e | cases e
theorem r_eq {a b : PyData} {x y : V} (h1 : sV a = some x) (h2 : sV b = some y) (hs : scal x y = true) (p : P (.bool (decide (x = y)))) : Rd2 K rEq a b P := fun C v w H g hx hy Q q => by
  rw [sV_of hx h1, sV_of hy h2]
  exact ⟨hs, q _ _ H (.refl g) (.bl _) p⟩
theorem r_ne {a b : PyData} {x y : V} (h1 : sV a = some x) (h2 : sV b = some y) (hs : scal x y = true) (p : P (.bool (!decide (x = y)))) : Rd2 K rNe a b P := fun C v w H g hx hy Q q => by
  rw [sV_of hx h1, sV_of hy h2]
  exact ⟨hs, q _ _ H (.refl g) (.bl _) p⟩
theorem r_eqQ {a b : PyData} (h1 : SeqAt.shaped a = true) (h2 : SeqAt.shaped b = true) (p : P (.bool (PyData.eqv a b))) : Rd2 K (rEqQ K) a b P := fun C v w H g hx hy Q q =>
  ⟨a, b, Dq.same rmv_all a v hx, Dq.same rmv_all b w hy, h1, h2, q _ _ H (.refl g) (.bl _) p⟩
theorem r_neQ {a b : PyData} (h1 : SeqAt.shaped a = true) (h2 : SeqAt.shaped b = true) (p : P (.bool (!PyData.eqv a b))) : Rd2 K (rNeQ K) a b P := fun C v w H g hx hy Q q =>
  ⟨a, b, Dq.same rmv_all a v hx, Dq.same rmv_all b w hy, h1, h2, q _ _ H (.refl g) (.bl _) p⟩
theorem seqT_all {H : Hp} {C : Ct} {a : Addr} {xs : List V} (h : SqT K (rmv H C.vol) a xs) : SqT K H a xs := seqT_same rmv_all h
theorem dqAll_get {H : Hp} : ∀ {vs : List V} {ds : List PyData} {i : Nat} {d : PyData}, DqAll K H vs ds → ds[i]? = some d → ∃ v, vs[i]? = some v ∧ Dq K H v d
  | _, _, _, _, .nil, e => by simp at e
  | _, _, 0, _, .cons h _, e => ⟨_, rfl, by cases (show some _ = some _ from e); exact h⟩
  | _, _, i + 1, _, .cons _ t, e => dqAll_get (i := i) t e
theorem dqAll_drop {H : Hp} : ∀ {vs : List V} {ds : List PyData} (n : Nat), DqAll K H vs ds → DqAll K H (vs.drop n) (ds.drop n)
  | _, _, 0, h => h
  | _, _, _ + 1, .nil => .nil
  | _, _, n + 1, .cons _ t => dqAll_drop n t
theorem dqAll_take {H : Hp} : ∀ {vs : List V} {ds : List PyData} (n : Nat), DqAll K H vs ds → DqAll K H (vs.take n) (ds.take n)
  | _, _, 0, _ => .nil
  | _, _, _ + 1, .nil => .nil
  | _, _, n + 1, .cons h t => .cons h (dqAll_take n t)
theorem dqAll_app {H : Hp} : ∀ {vs ws : List V} {ds es : List PyData}, DqAll K H vs ds → DqAll K H ws es → DqAll K H (vs ++ ws) (ds ++ es)
  | _, _, _, _, .nil, s => s
  | _, _, _, _, .cons h t, s => .cons h (dqAll_app t s)
theorem dqAll_rev {H : Hp} : ∀ {vs : List V} {ds : List PyData}, DqAll K H vs ds → DqAll K H vs.reverse ds.reverse
  | _, _, .nil => .nil
  | _, _, .cons h t => by
    rw [List.reverse_cons, List.reverse_cons]
    exact dqAll_app (dqAll_rev t) (.cons h .nil)
theorem dqAll_rep {H : Hp} {vs : List V} {ds : List PyData} (h : DqAll K H vs ds) : ∀ n : Nat, DqAll K H (List.replicate n vs).flatten (List.replicate n ds).flatten
  | 0 => .nil
  | n + 1 => by
    rw [List.replicate_succ, List.replicate_succ, List.flatten_cons, List.flatten_cons]
    exact dqAll_app h (dqAll_rep h n)
def cutD (ds : List PyData) (lo hi : Option Int) : List PyData := (ds.drop (HT.sIx ds.length 0 lo)).take (HT.sIx ds.length ds.length hi - HT.sIx ds.length 0 lo)
theorem dqAll_cut {H : Hp} {vs : List V} {ds : List PyData} (h : DqAll K H vs ds) (lo hi : Option Int) : DqAll K H (cutV vs lo hi) (cutD ds lo hi) := by
  unfold cutV cutD
  rw [dqAll_len h]
  exact dqAll_take _ (dqAll_drop _ h)
theorem cutD_all {ds : List PyData} {lo hi : Option Int} (h : HT.sIx ds.length 0 lo = 0 ∧ HT.sIx ds.length ds.length hi = ds.length) : cutD ds lo hi = ds := by
  unfold cutD
  rw [h.1, h.2]
  simp
def atD (ds : List PyData) (i : Int) : Option PyData := if 0 ≤ i then ds[i.toNat]? else if (ds.length : Int) + i < 0 then none else ds[((ds.length : Int) + i).toNat]?
end
end Xh
namespace Xh
open PySem PySem.Spec PyProof.Rows L2
section
variable {K : PySem.W.Frag} {δ : Env} {te ta tb tc : TE} {t u : TT} {P A B R : PyData → Prop}
theorem ixN_lt {n : Nat} {i : Int} {j : Nat} (h : ixN n i = some j) : j < n := (ixN_seq h).2.1
theorem atI_dq {H : Hp} {vs : List V} {ds : List PyData} {i : Int} {d : PyData} (h : DqAll K H vs ds) (e : atI ds i = some d) : ∃ v, atI vs i = some v ∧ Dq K H v d := by
  unfold atI at e ⊢
  rw [dqAll_len h]
  cases q : ixN ds.length i with
  | none =>
    rw [q] at e
    cases e
  | some j =>
    rw [q] at e
    exact dqAll_get h e
theorem r_ixT {ds : List PyData} {i : Int} {d : PyData} (e : atI ds i = some d) (p : P d) : Rd2 K (rIxT K) (.tuple ds) (.int i) P := fun C x y H g hx hy Q q => by
  cases hx with
  | tup hs ha =>
    cases hy
    obtain ⟨v, e1, dq⟩ := atI_dq ha e
    exact ⟨_, _, _, v, rfl, rfl, seqT_all hs, e1, q v d H (.refl g) dq p⟩
theorem r_ixL {ds : List PyData} {i : Int} {d : PyData} (e : atI ds i = some d) (p : P d) : Rd2 K (rIxL K) (.list ds) (.int i) P := fun C x y H g hx hy Q q => by
  cases hx with
  | lst hs ha =>
    cases hy
    obtain ⟨v, e1, dq⟩ := atI_dq ha e
    exact ⟨_, _, _, v, rfl, rfl, .inl (.inl (rmv_some hs).2), e1, q v d H (.refl g) dq p⟩
theorem r_catT {ds es : List PyData} (hz : ds.length + es.length ≤ 10000) (p : P (.tuple (ds ++ es))) : Rd2 K (rCatA K) (.tuple ds) (.tuple es) P := fun C x y H g hx hy Q q => by
  cases hx with
  | tup hs ha =>
    rename_i a xs
    cases hy with
    | tup ht hb =>
      rename_i b ys
      refine ⟨_, _, _, _, rfl, rfl, seqT_all hs, seqT_all ht, ?_, fun e => ?_, fun _ e => ?_, fun _ _ l n => ?_⟩
      · rw [dqAll_len ha, dqAll_len hb]
        exact Nat.le_trans hz (by decide)
      · subst e
        cases ha
        exact q _ _ H (.refl g) (.tup ht hb) p
      · subst e
        cases hb
        rw [List.append_nil] at p
        exact q _ _ H (.refl g) (.tup hs ha) p
      · exact q _ _ _ (g.new n) (.tup (.inl (.inl (g.at n))) ((g.new n).dqs (dqAll_app ha hb))) p
theorem r_catL {ds es : List PyData} (hz : ds.length + es.length ≤ 10000) (p : P (.list (ds ++ es))) : Rd2 K rCat (.list ds) (.list es) P := fun C x y H g hx hy Q q => by
  cases hx with
  | lst hs ha =>
    cases hy with
    | lst ht hb =>
      refine ⟨_, _, _, _, rfl, rfl, (rmv_some hs).2, (rmv_some ht).2, ?_, fun l n => ?_⟩
      · rw [dqAll_len ha, dqAll_len hb]
        exact Nat.le_trans hz (by decide)
      · exact q _ _ _ (g.new n) (.lst (g.at n) ((g.new n).dqs (dqAll_app ha hb))) p
theorem r_repL {ds : List PyData} {k : Int} (h0 : 0 ≤ k) (h1 : k ≤ 1000) (hz : ds.length ≤ 1000) (p : P (.list (List.replicate k.toNat ds).flatten)) : Rd2 K rRep (.list ds) (.int k) P := fun C x y H g hx hy Q q => by
  cases hx with
  | lst hs ha =>
    cases hy
    refine ⟨_, _, _, rfl, rfl, (rmv_some hs).2, by omega, by omega, ?_, fun l n => ?_⟩
    · rw [dqAll_len ha]
      have h2 : k.toNat ≤ 1000 := by omega
      exact Nat.le_trans (Nat.mul_le_mul hz h2) (by decide)
    · exact q _ _ _ (g.new n) (.lst (g.at n) ((g.new n).dqs (dqAll_rep ha _))) p
theorem r_repT {ds : List PyData} {k : Int} (h0 : 2 ≤ k) (h1 : k ≤ 1000) (hz : ds.length ≤ 1000) (hn : ds ≠ []) (p : P (.tuple (List.replicate k.toNat ds).flatten)) : Rd2 K (rRepT K) (.tuple ds) (.int k) P := fun C x y H g hx hy Q q => by
  cases hx with
  | tup hs ha =>
    cases hy
    refine ⟨_, _, _, rfl, rfl, seqT_all hs, ?_, h0, h1, ?_, fun l n => ?_⟩
    · intro e
      subst e
      cases ha
      exact hn rfl
    · rw [dqAll_len ha]
      exact hz
    · exact q _ _ _ (g.new n) (.tup (.inl (.inl (g.at n))) ((g.new n).dqs (dqAll_rep ha _))) p
theorem o_none : EvO K tNoPart δ (· = none) := fun C σ H g c Q q => q none H (.refl g) rfl
theorem o_some {f : Int → Prop} (h : EvP K te δ fun d => ∃ i, d = .int i ∧ f i) : EvO K (tPart te) δ fun o => ∃ i, o = some i ∧ f i := fun C σ H g c Q q =>
  h C σ H g c _ fun v d H1 k e ⟨i, e1, p⟩ => by
    subst e1
    cases e
    exact ⟨i, rfl, q _ H1 k ⟨i, rfl, p⟩⟩
theorem o_is {i : Int} (h : EvP K te δ (· = .int i)) : EvO K (tPart te) δ (· = some i) := fun C σ H g c Q q =>
  h C σ H g c _ fun v d H1 k e e1 => by
    subst e1
    cases e
    exact ⟨i, rfl, q _ H1 k rfl⟩
theorem e_slT {tl th : TO} {F G : Option Int → Prop} (h : EvP K te δ A) (h1 : ∀ a, A a → EvO K tl δ F) (h2 : ∀ a, A a → EvO K th δ G)
    (f : ∀ a lo hi, A a → F lo → G hi → ∃ ds, a = .tuple ds ∧ P (.tuple (cutD ds lo hi))) : EvP K (tSl (rSlA K) te tl th) δ P := fun C σ H g c Q q =>
  h C σ H g c _ fun x a H1 k1 e1 p1 => h1 a p1 C σ H1 (g.go k1) (c.go g k1) _ fun lo H2 k2 p2 => h2 a p1 C σ H2 ((g.go k1).go k2) (c.go g (k1.trans k2)) _ fun hi H3 k3 p3 => by
    obtain ⟨ds, rfl, p⟩ := f a lo hi p1 p2 p3
    have e3 := (k2.trans k3).dq e1
    have g3 := g.go (k1.trans (k2.trans k3))
    cases e3 with
    | tup hs ha =>
      refine ⟨_, _, rfl, seqT_all hs, fun z => ?_, fun z l n => ?_⟩
      · rw [dqAll_len ha] at z
        rw [cutD_all z] at p
        exact q _ _ _ (k1.trans (k2.trans k3)) (.tup hs ha) p
      · exact q _ _ _ ((k1.trans (k2.trans k3)).trans (g3.new n)) (.tup (.inl (.inl (g3.at n))) ((g3.new n).dqs (dqAll_cut ha lo hi))) p
theorem e_slL {tl th : TO} {F G : Option Int → Prop} (h : EvP K te δ A) (h1 : ∀ a, A a → EvO K tl δ F) (h2 : ∀ a, A a → EvO K th δ G)
    (f : ∀ a lo hi, A a → F lo → G hi → ∃ ds, a = .list ds ∧ P (.list (cutD ds lo hi))) : EvP K (tSl (rSlL K) te tl th) δ P := fun C σ H g c Q q =>
  h C σ H g c _ fun x a H1 k1 e1 p1 => h1 a p1 C σ H1 (g.go k1) (c.go g k1) _ fun lo H2 k2 p2 => h2 a p1 C σ H2 ((g.go k1).go k2) (c.go g (k1.trans k2)) _ fun hi H3 k3 p3 => by
    obtain ⟨ds, rfl, p⟩ := f a lo hi p1 p2 p3
    have e3 := (k2.trans k3).dq e1
    have g3 := g.go (k1.trans (k2.trans k3))
    cases e3 with
    | lst hs ha =>
      refine ⟨_, _, rfl, .inl (.inl (rmv_some hs).2), fun l n => ?_⟩
      exact q _ _ _ ((k1.trans (k2.trans k3)).trans (g3.new n)) (.lst (g3.at n) ((g3.new n).dqs (dqAll_cut ha lo hi))) p
/-! calls of built-ins -/
theorem e_call {r : List V → Hp → VK → Prop} {ta : TA} {A : List PyData → Prop} (h : EvA K ta δ A) (hr : ∀ as, A as → RdC K r as P) : EvP K (tCB r ta) δ P := fun C σ H g c Q q =>
  h C σ H g c _ fun vs as H1 k1 e1 p1 => hr as p1 C vs H1 (g.go k1) e1 Q fun v d H2 k2 e2 p2 => q v d H2 (k1.trans k2) e2 p2
def rLenD (K : PySem.W.Frag) : List V → Hp → VK → Prop := fun xs H Q => ∃ p ys, xs = [.ref p] ∧ (SqL K H p ys ∨ SqT K H p ys) ∧ Q (.int ys.length) H
theorem c_lenT {ds : List PyData} (p : P (.int ds.length)) : RdC K (rLenD K) [.tuple ds] P := fun C xs H g h Q q => by
  cases h with
  | cons h1 h2 =>
    cases h2
    cases h1 with
    | tup hs ha => exact ⟨_, _, rfl, .inr (seqT_all hs), q _ _ H (.refl g) (.int _) (by rw [dqAll_len ha]; exact p)⟩
theorem c_lenL {ds : List PyData} (p : P (.int ds.length)) : RdC K (rLenD K) [.list ds] P := fun C xs H g h Q q => by
  cases h with
  | cons h1 h2 =>
    cases h2
    cases h1 with
    | lst hs ha => exact ⟨_, _, rfl, .inl (.inl (.inl (rmv_some hs).2)), q _ _ H (.refl g) (.int _) (by rw [dqAll_len ha]; exact p)⟩
def rListD (K : PySem.W.Frag) : List V → Hp → VK → Prop := fun xs H Q => ∃ p ys, xs = [.ref p] ∧ (SqL K H p ys ∨ SqT K H p ys) ∧ ∀ l, H l = none → Q (.ref l) (upd H l (.lst ys))
theorem c_listT {ds : List PyData} (p : P (.list ds)) : RdC K (rListD K) [.tuple ds] P := fun C xs H g h Q q => by
  cases h with
  | cons h1 h2 =>
    cases h2
    cases h1 with
    | tup hs ha => exact ⟨_, _, rfl, .inr (seqT_all hs), fun l n => q _ _ _ (g.new n) (.lst (g.at n) ((g.new n).dqs ha)) p⟩
def rTupD (K : PySem.W.Frag) : List V → Hp → VK → Prop := fun xs H Q => ∃ p ys, xs = [.ref p] ∧ ((SqL K H p ys ∧ ∀ l, H l = none → Q (.ref l) (upd H l (.tup ys))) ∨ (SqT K H p ys ∧ Q (.ref p) H))
theorem c_tupL {ds : List PyData} (p : P (.tuple ds)) : RdC K (rTupD K) [.list ds] P := fun C xs H g h Q q => by
  cases h with
  | cons h1 h2 =>
    cases h2
    cases h1 with
    | lst hs ha => exact ⟨_, _, rfl, .inl ⟨.inl (.inl (rmv_some hs).2), fun l n => q _ _ _ (g.new n) (.tup (.inl (.inl (g.at n))) ((g.new n).dqs ha)) p⟩⟩
def rIntD : List V → Hp → VK → Prop := fun xs H Q => (∃ i, xs = [.int i] ∧ Q (.int i) H) ∨ ∃ k, xs = [.bl k] ∧ Q (.int (if k then 1 else 0)) H
theorem c_int {i : Int} (p : P (.int i)) : RdC K rIntD [.int i] P := fun C xs H g h Q q => by
  cases h with
  | cons h1 h2 =>
    cases h2
    cases h1
    exact .inl ⟨i, rfl, q _ _ H (.refl g) (.int i) p⟩
def allB : List PyData → Option Bool
  | [] => some true
  | .bool b :: r => (allB r).map (b && ·)
  | _ :: _ => none
theorem bools_of {H : Hp} : ∀ {vs : List V} {ds : List PyData} {b : Bool}, DqAll K H vs ds → allB ds = some b → ∃ bs : List Bool, vs = bs.map V.bl ∧ bs.all id = b
  | _, _, _, .nil, e => ⟨[], rfl, by cases e; rfl⟩
  | _, _, b, .cons (d := d) h t, e => by
    cases h with
    | bl c =>
      unfold allB at e
      cases q : allB _ with
      | none =>
        rw [q] at e
        cases e
      | some b2 =>
        rw [q] at e
        cases e
        obtain ⟨bs, e1, e2⟩ := bools_of t q
        exact ⟨c :: bs, by rw [e1]; rfl, by rw [List.all_cons, e2]; rfl⟩
    | _ => cases e
theorem c_all {ds : List PyData} {b : Bool} (e : allB ds = some b) (p : P (.bool b)) : RdC K (rAll K) [.list ds] P := fun C xs H g h Q q => by
  cases h with
  | cons h1 h2 =>
    cases h2
    cases h1 with
    | lst hs ha =>
      obtain ⟨bs, e1, e2⟩ := bools_of ha e
      subst e1
      exact ⟨_, bs, rfl, .inl (.inl (rmv_some hs).2), q _ _ H (.refl g) (.bl _) (by rw [e2]; exact p)⟩
theorem e_isD {T : String} (h : EvP K te δ A) (f : ∀ d, A d → ∃ b, kitB (tyOf d) T = some b ∧ P (.bool b)) : EvP K (tCB (rIsD K T) (tCons te (tCons (tC (.ty T)) tNil))) δ P := fun C σ H g c Q q =>
  h C σ H g c _ fun v d H1 k e p => by
    obtain ⟨b, e1, p1⟩ := f d p
    exact ⟨v, d, b, rfl, Dq.same rmv_all d v e, e1, q _ _ H1 k (.bl b) p1⟩
/-- what is shown fits -/
structure Show (d : PyData) : Prop where
  ok : d.showable = true
  deep : d.depth ≤ 50
  size : d.shown.length ≤ sizeLine
theorem c_repr {d : PyData} (s : Show d) (p : P (.str d.shown)) : RdC K (rReprD K) [d] P := fun C xs H g h Q q => by
  cases h with
  | cons h1 h2 =>
    cases h2
    exact ⟨_, d, rfl, Dq.same rmv_all d _ h1, g.sys, s.ok, s.deep, s.size, q _ _ H (.refl g) (.str _) p⟩
theorem r_isN {a : PyData} (p : P (.bool (match a with | .none => true | _ => false))) : Rd2 K rIsN a .none P := fun C x y H g hx hy Q q => by
  cases hy
  refine ⟨rfl, ?_⟩
  cases hx <;> exact q _ _ H (.refl g) (.bl _) p
theorem r_notN {a : PyData} (p : P (.bool (match a with | .none => false | _ => true))) : Rd2 K rNotN a .none P := fun C x y H g hx hy Q q => by
  cases hy
  refine ⟨rfl, ?_⟩
  cases hx <;> exact q _ _ H (.refl g) (.bl _) p
/-! a def's promise over data -/
def PF (K : PySem.W.Frag) (pre : List PyData → Prop) (post : List PyData → PyData → Prop) : Sp := fun vs H Q _ => ∃ (C : Ct) (ds : List PyData),
  C.own = [] ∧ Good C H ∧ DqAll K (rmv H C.vol) vs ds ∧ pre ds ∧ ∀ v d H', Go C H H' → Dq K (rmv H' C.vol) v d → post ds d → Q v H'
/-- .. the pot is the first argument -/
def PP (K : PySem.W.Frag) (pre : List PyData → Prop) (post : List PyData → PyData → Prop) : Sp := fun vs H Q _ => ∃ (C : Ct) (a : Addr) (us : List V) (ds : List PyData),
  C.own = [] ∧ C.pot = some a ∧ vs = .ref a :: us ∧ Good C H ∧ DqAll K (rmv H C.vol) us ds ∧ pre ds ∧ ∀ v d H', Go C H H' → Dq K (rmv H' C.vol) v d → post ds d → Q v H'
def Ct.inner (C : Ct) : Ct := ⟨C.pot, C.cl, [], C.own.map (·.2) ++ C.fr⟩
theorem inner_vol (C : Ct) : C.inner.vol = C.vol := by
  unfold Ct.inner Ct.vol
  simp
theorem Good.inner {C : Ct} {H : Hp} (g : Good C H) : Good C.inner H where
  sys := g.sys
  trk := by
    rw [inner_vol]
    exact g.trk
  pot := g.pot
  inj := fun i j a h => absurd h List.not_mem_nil
  apart := fun i a h => absurd h List.not_mem_nil
theorem Go.outer {C : Ct} {H H' : Hp} (k : Go C.inner H H') : Go C H H' := ⟨k.keep, k.pot⟩
theorem e_callF {pre : List PyData → Prop} {post : List PyData → PyData → Prop} {ta : TA} {A : List PyData → Prop} {E : XK} (h : EvA K ta δ A) (hp : ∀ ds, A ds → pre ds) (f : ∀ ds d, A ds → post ds d → P d) :
    EvP K (tCall (PF K pre post) [] E ta) δ P := fun C σ H g c Q q =>
  h C σ H g c _ fun vs ds H1 k1 e1 p1 => by
    rw [List.append_nil]
    have g1 := g.go k1
    refine ⟨C.inner, ds, rfl, g1.inner, by rw [inner_vol]; exact e1, hp ds p1, fun v d H2 k2 e2 p2 => ?_⟩
    rw [inner_vol] at e2
    exact q v d H2 (k1.trans k2.outer) e2 (f ds d p1 p2)
theorem e_callP {pre : List PyData → Prop} {post : List PyData → PyData → Prop} {ta : TA} {A : List PyData → Prop} {E : XK} {i : Nat} (hi : δ[i]? = some .pot) (h : EvA K ta δ A) (hp : ∀ ds, A ds → pre ds) (f : ∀ ds d, A ds → post ds d → P d) :
    EvP K (tCall (PP K pre post) [] E (tCons (tVar i) ta)) δ P := fun C σ H g c Q q => by
  obtain ⟨a, e0, e⟩ := c.ok i _ hi
  refine ⟨_, e, ?_⟩
  refine h C σ H g c _ fun vs ds H1 k1 e1 p1 => ?_
  show PP K pre post ((.ref a :: vs) ++ []) H1 Q E
  rw [List.append_nil]
  have g1 := g.go k1
  refine ⟨C.inner, a, vs, ds, rfl, e0, rfl, g1.inner, by rw [inner_vol]; exact e1, hp ds p1, fun v d H2 k2 e2 p2 => ?_⟩
  rw [inner_vol] at e2
  exact q v d H2 (k1.trans k2.outer) e2 (f ds d p1 p2)
/-! one's own new list -/
def Ct.add (C : Ct) (i : Nat) (D : Addr) : Ct := ⟨C.pot, C.cl, (i, D) :: C.own, C.fr⟩
theorem add_vol {C : Ct} {i : Nat} {D b : Addr} : b ∈ (C.add i D).vol ↔ b = D ∨ b ∈ C.vol := by
  unfold Ct.add Ct.vol
  simp only [List.mem_append, List.map_cons, List.mem_cons]
  constructor
  · rintro (h | (h | h) | h)
    · exact .inr (.inl h)
    · exact .inl h
    · exact .inr (.inr (.inl h))
    · exact .inr (.inr (.inr h))
  · rintro (h | h | h | h)
    · exact .inr (.inl (.inl h))
    · exact .inl h
    · exact .inr (.inl (.inr h))
    · exact .inr (.inr h)
theorem Good.add {C : Ct} {H1 H : Hp} {i : Nat} {D : Addr} {o : HO} (g : Good C H1) (n : H1 D = none) (k : Go C H1 H) (e : H D = some o) : Good (C.add i D) H := by
  have g' := g.go k
  have nd : ∀ j, (j, D) ∉ C.own := fun j m => g.trk D (vol_own m) n
  refine ⟨g'.sys, fun b hb => ?_, g'.pot, fun i1 i2 a h1 h2 => ?_, fun j a h => ?_⟩
  · rcases add_vol.mp hb with h | h
    · rw [h, e]
      exact fun z => nomatch z
    · exact g'.trk b h
  · rcases List.mem_cons.mp h1 with h1 | h1
    · cases h1
      rcases List.mem_cons.mp h2 with h2 | h2
      · cases h2
        rfl
      · exact absurd h2 (nd _)
    · rcases List.mem_cons.mp h2 with h2 | h2
      · cases h2
        exact absurd h1 (nd _)
      · exact g.inj _ _ _ h1 h2
  · rcases List.mem_cons.mp h with h | h
    · cases h
      exact fun z => g.trk D (vol_pot z) n
    · exact g.apart _ _ h
theorem add_same {C : Ct} {H1 H : Hp} {i : Nat} {D : Addr} (n : H1 D = none) (k : Go C H1 H) : Same (rmv H1 C.vol) (rmv H (C.add i D).vol) := fun b o e => by
  obtain ⟨m, e⟩ := rmv_some e
  have nb : b ∉ (C.add i D).vol := fun z => by
    rcases add_vol.mp z with z | z
    · rw [z, n] at e
      cases e
    · exact m z
  rw [rmv_out nb]
  exact k.keep b o (fun z => m (vol_pot z)) e
theorem Cells.add {C : Ct} {H1 H : Hp} {σ : List (Option V)} {i : Nat} {D : Addr} (c : Cells K C σ H1 δ) (g : Good C H1) (n : H1 D = none) (k : Go C H1 H) : Cells K (C.add i D) σ H δ := by
  refine ⟨c.len, fun j x e => ?_⟩
  have h := c.ok j x e
  cases x with
  | non => trivial
  | pot => exact h
  | dat d =>
    obtain ⟨v, e1, dq⟩ := h
    exact ⟨v, e1, Dq.same (add_same n k) d v dq⟩
  | own ds =>
    obtain ⟨p, xs, m, e1, e2, dq⟩ := h
    exact ⟨p, xs, List.mem_cons_of_mem _ m, e1, k.keep _ _ (g.apart _ _ m) e2, DqAll.same (add_same n k) ds xs dq⟩
theorem out_same {C : Ct} {H : Hp} {i : Nat} {D : Addr} : Same (rmv H (C.add i D).vol) (rmv H C.vol) := rmv_sub fun b h => add_vol.mpr (.inr h)
theorem Cells.set {C : Ct} {σ : List (Option V)} {H : Hp} {i : Nat} {v : V} {d : PyData} (c : Cells K C σ H δ) (hi : i < δ.length) (h : Dq K (rmv H C.vol) v d) : Cells K C (σ.set i (some v)) H (δ.set i (.dat d)) := by
  refine ⟨by rw [List.length_set, List.length_set]; exact c.len, fun j x e => ?_⟩
  by_cases n : i = j
  · subst n
    rw [List.getElem?_set_self hi] at e
    cases e
    exact ⟨v, by rw [List.getElem?_set_self (by rw [c.len]; exact hi)], h⟩
  · rw [List.getElem?_set_ne n] at e
    have q := c.ok j x e
    cases x with
    | non => trivial
    | pot =>
      obtain ⟨a, e0, e1⟩ := q
      exact ⟨a, e0, by rw [List.getElem?_set_ne n]; exact e1⟩
    | dat d =>
      obtain ⟨v, e1, dq⟩ := q
      exact ⟨v, by rw [List.getElem?_set_ne n]; exact e1, dq⟩
    | own ds =>
      obtain ⟨p, xs, m, e1, r⟩ := q
      exact ⟨p, xs, m, by rw [List.getElem?_set_ne n]; exact e1, r⟩
theorem Cells.wipe {C : Ct} {σ : List (Option V)} {H : Hp} {i : Nat} (c : Cells K C σ H δ) : Cells K C (σ.set i none) H (δ.set i .non) := by
  refine ⟨by rw [List.length_set, List.length_set]; exact c.len, fun j x e => ?_⟩
  by_cases n : i = j
  · subst n
    have hi : i < δ.length := by
      have := (List.getElem?_eq_some_iff.mp e).1
      rw [List.length_set] at this
      exact this
    rw [List.getElem?_set_self hi] at e
    cases e
    trivial
  · rw [List.getElem?_set_ne n] at e
    have q := c.ok j x e
    cases x with
    | non => trivial
    | pot =>
      obtain ⟨a, e0, e1⟩ := q
      exact ⟨a, e0, by rw [List.getElem?_set_ne n]; exact e1⟩
    | dat d =>
      obtain ⟨v, e1, dq⟩ := q
      exact ⟨v, by rw [List.getElem?_set_ne n]; exact e1, dq⟩
    | own ds =>
      obtain ⟨p, xs, m, e1, r⟩ := q
      exact ⟨p, xs, m, by rw [List.getElem?_set_ne n]; exact e1, r⟩
/-! comprehensions -/
theorem wipe1 (σ : List (Option V)) (j : Nat) : wipe σ [j] = σ.set j none := rfl
/-- how a comprehension's list grows -/
structure Fill (K : PySem.W.Frag) (C : Ct) (D : Addr) (H1 H : Hp) (Inv : List PyData → Prop) : Prop where
  go : Go C H1 H
  at_ : ∃ xs acc, H D = some (.lst xs) ∧ DqAll K (rmv H (C.add 0 D).vol) xs acc ∧ acc.length ≤ 100000 ∧ Inv acc
theorem Fill.start {C : Ct} {D : Addr} {H1 : Hp} {Inv : List PyData → Prop} (g : Good C H1) (n : H1 D = none) (h : Inv []) : Fill K C D H1 (upd H1 D (.lst [])) Inv :=
  ⟨g.new n, [], [], upd_same, .nil, by decide, h⟩
theorem Fill.turn {C : Ct} {D : Addr} {H1 H : Hp} {σ2 : List (Option V)} {δ2 : Env} {I J : List PyData → Prop} {tt : TT} {te : TE} (g : Good C H1) (n : H1 D = none) (f : Fill K C D H1 H I) (c2 : Cells K (C.add 0 D) σ2 H δ2)
    (hz : ∀ acc, I acc → acc.length < 100000)
    (step : ∀ acc, I acc → ∃ β : Bool → Prop, EvB K tt δ2 β ∧ (β true → EvP K te δ2 fun d => J (acc ++ [d])) ∧ (β false → J acc)) :
    tt σ2 H fun b H3 => if b = true then te σ2 H3 fun y H4 => ∃ acc, H4 D = some (.lst acc) ∧ acc.length < sizeLine ∧ Fill K C D H1 (upd H4 D (.lst (acc ++ [y]))) J else Fill K C D H1 H3 J := by
  obtain ⟨k, xs, acc, e, dq, l, i⟩ := f
  have g2 : Good (C.add 0 D) H := g.add n k e
  obtain ⟨β, h1, h2, h3⟩ := step acc i
  refine h1 _ σ2 H g2 c2 _ fun b H3 k3 p3 => ?_
  have np : (C.add 0 D).pot ≠ some D := fun z => g.trk D (vol_pot z) n
  have low : ∀ {H3 : Hp}, Go (C.add 0 D) H H3 → Go C H1 H3 := fun q => ⟨fun b o nb e => q.keep b o nb (k.keep b o nb e), q.pot⟩
  cases b with
  | true =>
    show te σ2 H3 _
    refine h2 p3 _ σ2 H3 (g2.go k3) (c2.go g2 k3) _ fun y d H4 k4 e4 p4 => ?_
    have e5 := (k3.trans k4).keep D _ np e
    refine ⟨xs, e5, Nat.lt_of_lt_of_le (by rw [dqAll_len dq]; exact hz acc i) (by decide : 100000 ≤ sizeLine), ⟨?_, xs ++ [y], acc ++ [d], upd_same, ?_, ?_, p4⟩⟩
    · have q := low (k3.trans k4)
      have e6 : ∀ b o, H1 b = some o → b ≠ D := fun b o z y => by
        rw [y, n] at z
        cases z
      refine ⟨fun b o nb z => by rw [upd_ne (e6 b o z)]; exact q.keep b o nb z, fun a ha => ?_⟩
      obtain ⟨ns, p', m', r', z1, z2, z3⟩ := q.pot a ha
      have z4 : a ≠ D := fun y => np (by show C.pot = _; rw [ha, y])
      obtain ⟨_, _, _, _, _, y2, _⟩ := g.pot a ha
      exact ⟨ns, p', m', r', by rw [upd_ne z4]; exact z1, by rw [upd_ne (e6 _ _ y2)]; exact z2, z3⟩
    · rw [rmv_upd (add_vol.mpr (.inl rfl))]
      exact dqAll_app ((k3.trans k4).dqs dq) (.cons e4 .nil)
    · rw [List.length_append]
      exact hz acc i
  | false =>
    show Fill K C D H1 H3 J
    exact ⟨low k3, xs, acc, k3.keep D _ np e, k3.dqs dq, l, h3 p3⟩
end
end Xh
namespace Xh
open PySem PySem.Spec PyProof.Rows L2
theorem wipe_set {k : Nat} {x : Option V} : ∀ {vs : List Nat} {σ : List (Option V)}, k ∈ vs → wipe (σ.set k x) vs = wipe σ vs
  | i :: r, σ, h => by
    show (wipe (σ.set k x) r).set i none = (wipe σ r).set i none
    by_cases m : k ∈ r
    · rw [wipe_set m]
    · have e : i = k := by
        rcases List.mem_cons.mp h with h | h
        · exact h.symm
        · exact absurd h m
      subst e
      have z : ∀ {r : List Nat} {σ : List (Option V)}, i ∉ r → wipe (σ.set i x) r = (wipe σ r).set i x := by
        intro r
        induction r with
        | nil => intro σ _; rfl
        | cons j r ih =>
          intro σ n
          show (wipe (σ.set i x) r).set j none = ((wipe σ r).set j none).set i x
          rw [ih fun z => n (List.mem_cons_of_mem _ z), List.set_comm _ _ (fun z => n (by rw [z]; exact List.mem_cons_self))]
      rw [z m, List.set_set]
theorem wipe_wipe {vs : List Nat} {σ : List (Option V)} : ∀ {ws : List Nat}, (∀ k ∈ ws, k ∈ vs) → wipe (wipe σ ws) vs = wipe σ vs
  | [], _ => rfl
  | k :: r, h => by
    show wipe ((wipe σ r).set k none) vs = wipe σ vs
    rw [wipe_set (h k List.mem_cons_self)]
    exact wipe_wipe fun j m => h j (List.mem_cons_of_mem _ m)
def wipeE (δ : Env) : List Nat → Env
  | [] => δ
  | v :: vs => (wipeE δ vs).set v .non
section
variable {K : PySem.W.Frag} {δ : Env} {te ta tb tc : TE} {t u : TT} {P A B R : PyData → Prop}
theorem Cells.wipes {C : Ct} {σ : List (Option V)} {H : Hp} (c : Cells K C σ H δ) : ∀ vs : List Nat, Cells K C (L2.wipe σ vs) H (wipeE δ vs)
  | [] => c
  | _ :: vs => (Cells.wipes c vs).wipe
/-- a target: data comes to its names -/
def EvG (K : PySem.W.Frag) (g : TG) (js : List Nat) (δ : Env) (d : PyData) (δ' : Env) : Prop := ∀ (C : Ct) (σ : List (Option V)) (H : Hp) (v : V), Good C H → Cells K C σ H δ → Dq K (rmv H C.vol) v d →
  ∀ Q : List (Option V) → Hp → Prop, (∀ σ', Cells K C σ' H δ' → (∀ vs, (∀ k ∈ js, k ∈ vs) → wipe σ' vs = wipe σ vs) → Q σ' H) → g v σ H Q
theorem g_name {i : Nat} {d : PyData} (hi : i < δ.length) : EvG K (gName i) [i] δ d (δ.set i (.dat d)) := fun C σ H v g c h Q q =>
  q _ (c.set hi h) fun vs m => wipe_set (m i List.mem_cons_self)
def EvGs (K : PySem.W.Frag) (g : TGs) (js : List Nat) (δ : Env) (ds : List PyData) (δ' : Env) : Prop := ∀ (C : Ct) (σ : List (Option V)) (H : Hp) (vs : List V), Good C H → Cells K C σ H δ → DqAll K (rmv H C.vol) vs ds →
  ∀ Q : List (Option V) → Hp → Prop, (∀ σ', Cells K C σ' H δ' → (∀ vs, (∀ k ∈ js, k ∈ vs) → wipe σ' vs = wipe σ vs) → Q σ' H) → g vs σ H Q
theorem gs_nil : EvGs K gNil [] δ [] δ := fun C σ H vs g c h Q q => by
  cases h
  exact ⟨rfl, q σ c fun _ _ => rfl⟩
theorem gs_cons {i : Nat} {d : PyData} {ds : List PyData} {δ' : Env} {js : List Nat} {u : TGs} (hi : i < δ.length) (h : EvGs K u js (δ.set i (.dat d)) ds δ') : EvGs K (gCons (gName i) u) (i :: js) δ (d :: ds) δ' := fun C σ H vs g c hd Q q => by
  cases hd with
  | cons h1 h2 =>
    refine ⟨_, _, rfl, ?_⟩
    exact h C _ H _ g (c.set hi h1) h2 Q fun σ' c' w => q σ' c' fun vs m => by
      rw [w vs fun k hk => m k (List.mem_cons_of_mem _ hk), wipe_set (m i List.mem_cons_self)]
theorem g_tup {n : Nat} {u : TGs} {ds : List PyData} {δ' : Env} {js : List Nat} (hn : ds.length = n) (h : EvGs K u js δ ds δ') : EvG K (gTup K n u) js δ (.tuple ds) δ' := fun C σ H v g c hd Q q => by
  cases hd with
  | tup hs ha => exact ⟨_, _, rfl, seqT_all hs, by rw [dqAll_len ha]; exact hn, h C σ H _ g c ha Q q⟩
/-! comprehensions -/
/-- what a turn must do: from the list so far -/
def Step (K : PySem.W.Frag) (g : TG) (tt : TT) (te : TE) (vs : List Nat) (δ : Env) (d : PyData) (I J : List PyData → Prop) : Prop :=
  ∃ js δ', (∀ k ∈ js, k ∈ vs) ∧ EvG K g js (wipeE δ vs) d δ' ∧ ∀ acc, I acc → ∃ β : Bool → Prop, EvB K tt δ' β ∧ (β true → EvP K te δ' fun d => J (acc ++ [d])) ∧ (β false → J acc)
theorem Fill.step {C : Ct} {D : Addr} {H1 H : Hp} {σ : List (Option V)} {I J : List PyData → Prop} {g : TG} {tt : TT} {te : TE} {vs : List Nat} {v : V} {d : PyData} (gd : Good C H1) (c : Cells K C σ H1 δ) (n : H1 D = none) (f : Fill K C D H1 H I)
    (hz : ∀ acc, I acc → acc.length < 100000) (hv : Dq K (rmv H (C.add 0 D).vol) v d) (st : Step K g tt te vs δ d I J) :
    g v (wipe σ vs) H fun σ2 H2 => wipe σ2 vs = wipe σ vs ∧ tt σ2 H2 fun b H3 =>
      if b = true then te σ2 H3 fun y H4 => ∃ acc, H4 D = some (.lst acc) ∧ acc.length < sizeLine ∧ Fill K C D H1 (upd H4 D (.lst (acc ++ [y]))) J else Fill K C D H1 H3 J := by
  obtain ⟨js, δ', hj, hg, hs⟩ := st
  obtain ⟨xs, acc, e, _⟩ := f.at_
  have g2 : Good (C.add 0 D) H := gd.add n f.go e
  have c2 : Cells K (C.add 0 D) (wipe σ vs) H (wipeE δ vs) := (c.add gd n f.go).wipes vs
  refine hg _ _ H v g2 c2 hv _ fun σ2 c3 w => ⟨?_, Fill.turn gd n f c3 hz hs⟩
  rw [w vs hj, wipe_wipe fun k h => h]
theorem Fill.done {C : Ct} {D : Addr} {H1 H : Hp} {I : List PyData → Prop} (gd : Good C H1) (n : H1 D = none) (f : Fill K C D H1 H I) (h : ∀ acc, I acc → P (.list acc)) {Q : VK}
    (q : ∀ v d H', Go C H1 H' → Dq K (rmv H' C.vol) v d → P d → Q v H') : Q (.ref D) H := by
  obtain ⟨k, xs, acc, e, dq, _, i⟩ := f
  refine q _ _ H k (.lst ?_ (DqAll.same out_same acc xs dq)) (h acc i)
  rw [rmv_out (gd.out n)]
  exact e
theorem int_dq {H : Hp} {i j : Int} (e : i = j) : Dq K H (.int i) (.int j) := by
  rw [e]
  exact .int j

/-! what is walked -/
structure Src (K : PySem.W.Frag) (C : Ct) (H1 : Hp) (J : It) (ds : List PyData) : Prop where
  go : ∀ (H : Hp) (i : Nat), Same (rmv H1 C.vol) H → i < ds.length → J.go i H
  stop : ∀ (H : Hp), Same (rmv H1 C.vol) H → J.stop ds.length H
  yld : ∀ (C' : Ct) (H : Hp) (i : Nat) (x : V) (H' : Hp) (d : PyData), Good C' H → Same (rmv H1 C.vol) (rmv H C'.vol) → J.yld i H x H' → ds[i]? = some d →
    Go C' H H' ∧ Dq K (rmv H' C'.vol) x d
def EvI (K : PySem.W.Frag) (wi : TI) (δ : Env) (S : List PyData → Prop) : Prop := ∀ (C : Ct) (σ : List (Option V)) (H : Hp), Good C H → Cells K C σ H δ →
  ∀ R : It → Hp → Prop, (∀ J ds H', Go C H H' → Src K C H' J ds → S ds → R J H') → wi σ H R
theorem i_list (h : EvP K te δ fun d => ∃ ds, d = .list ds ∧ A (.list ds)) : EvI K (iList K te) δ fun ds => A (.list ds) := fun C σ H g c R r =>
  h C σ H g c _ fun v d H1 k e ⟨ds, e1, p⟩ => by
    subst e1
    cases e with
    | lst hs ha =>
      rename_i a xs
      refine ⟨a, rfl, ⟨xs, .inl (.inl (rmv_some hs).2)⟩, r _ ds H1 k ⟨fun H i s l => ?_, fun H s => ?_, fun C' H i x H' d g' s y e => ?_⟩ p⟩
      · obtain ⟨v, e1, _⟩ := dqAll_get ha (List.getElem?_eq_getElem l)
        exact ⟨xs, v, .inl (.inl (s _ _ hs)), e1⟩
      · exact ⟨xs, .inl (.inl (s _ _ hs)), by rw [dqAll_len ha]; exact Nat.le_refl _⟩
      · obtain ⟨rfl, f⟩ := y
        obtain ⟨v, e1, dq⟩ := dqAll_get ha e
        cases (f xs (.inl (.inl (rmv_all _ _ (s _ _ hs))))).symm.trans e1
        exact ⟨.refl g', Dq.same s d _ dq⟩
theorem i_tup (h : EvP K te δ fun d => ∃ ds, d = .tuple ds ∧ A (.tuple ds)) : EvI K (iTup K te) δ fun ds => A (.tuple ds) := fun C σ H g c R r =>
  h C σ H g c _ fun v d H1 k e ⟨ds, e1, p⟩ => by
    subst e1
    cases e with
    | tup hs ha =>
      rename_i a xs
      refine ⟨a, rfl, ⟨xs, seqT_all hs⟩, r _ ds H1 k ⟨fun H i s l => ?_, fun H s => ?_, fun C' H i x H' d g' s y e => ?_⟩ p⟩
      · obtain ⟨v, e1, _⟩ := dqAll_get ha (List.getElem?_eq_getElem l)
        exact ⟨xs, v, seqT_same s hs, e1⟩
      · exact ⟨xs, seqT_same s hs, by rw [dqAll_len ha]; exact Nat.le_refl _⟩
      · obtain ⟨rfl, f⟩ := y
        obtain ⟨v, e1, dq⟩ := dqAll_get ha e
        cases (f xs (seqT_all (seqT_same s hs))).symm.trans e1
        exact ⟨.refl g', Dq.same s d _ dq⟩
def rangeD (lo : Int) (n : Nat) : List PyData := (List.range n).map fun i => .int (lo + (i : Nat))
theorem rangeD_len (lo : Int) (n : Nat) : (rangeD lo n).length = n := by
  unfold rangeD
  rw [List.length_map, List.length_range]
theorem rangeD_get {lo : Int} {n i : Nat} {d : PyData} (h : (rangeD lo n)[i]? = some d) : i < n ∧ d = .int (lo + (i : Nat)) := by
  have l := (List.getElem?_eq_some_iff.mp h).1
  rw [rangeD_len] at l
  refine ⟨l, ?_⟩
  unfold rangeD at h
  rw [List.getElem?_map, List.getElem?_range l] at h
  exact (Option.some.inj h).symm
theorem src_rng {C : Ct} {H1 : Hp} (lo : Int) (n : Nat) : Src K C H1 (Itr lo n) (rangeD lo n) :=
  ⟨fun H i _ l => by rw [rangeD_len] at l; exact l, fun H _ => by rw [rangeD_len]; exact Nat.le_refl _, fun C' H i x H' d g' s y e => by
    obtain ⟨rfl, rfl⟩ := y
    obtain ⟨_, rfl⟩ := rangeD_get e
    exact ⟨.refl g', .int _⟩⟩
theorem i_rng1 {ta : TA} {S : List PyData → Prop} {A : List PyData → Prop} (h : EvA K ta δ A) (f : ∀ as, A as → ∃ n : Int, as = [.int n] ∧ -1000000 ≤ n ∧ n ≤ 1000000 ∧ S (rangeD 0 n.toNat)) : EvI K (iRng1 ta) δ S := fun C σ H g c R r =>
  h C σ H g c _ fun vs as H1 k e p => by
    obtain ⟨n, rfl, h1, h2, s⟩ := f as p
    cases e with
    | cons x y =>
      cases y
      cases x
      exact ⟨n, rfl, by omega, by omega, r _ _ H1 k (src_rng 0 _) s⟩
theorem i_rng2 {ta : TA} {S : List PyData → Prop} {A : List PyData → Prop} (h : EvA K ta δ A) (f : ∀ as, A as → ∃ m n : Int, as = [.int m, .int n] ∧ (-1000000 ≤ m ∧ m ≤ 1000000 ∧ -1000000 ≤ n ∧ n ≤ 1000000) ∧ S (rangeD m (n - m).toNat)) : EvI K (iRng2 ta) δ S := fun C σ H g c R r =>
  h C σ H g c _ fun vs as H1 k e p => by
    obtain ⟨m, n, rfl, h1, s⟩ := f as p
    cases e with
    | cons x y =>
      cases x
      cases y with
      | cons x y =>
        cases y
        cases x
        exact ⟨m, n, rfl, by omega, r _ _ H1 k (src_rng m _) s⟩
def pairD (d e : PyData) : PyData := .tuple [d, e]
theorem zip_get {ds es : List PyData} {i : Nat} {p : PyData} (h : (List.zipWith pairD ds es)[i]? = some p) : ∃ d e, ds[i]? = some d ∧ es[i]? = some e ∧ p = pairD d e := by
  rw [List.getElem?_zipWith] at h
  cases q : ds[i]? with
  | none =>
    rw [q] at h
    cases h
  | some d =>
    cases q2 : es[i]? with
    | none =>
      rw [q, q2] at h
      cases h
    | some e =>
      rw [q, q2] at h
      exact ⟨d, e, rfl, rfl, (Option.some.inj h).symm⟩
theorem i_zipT {ta : TA} {S : List PyData → Prop} {A : List PyData → Prop} (h : EvA K ta δ A) (f : ∀ as, A as → ∃ ds es, as = [.tuple ds, .tuple es] ∧ S (List.zipWith pairD ds es)) : EvI K (RZ.iZipA K ta) δ S := fun C σ H g c R r =>
  h C σ H g c _ fun vs as H1 k e p => by
    obtain ⟨ds, es, rfl, s⟩ := f as p
    cases e with
    | cons x y =>
      cases y with
      | cons y z =>
        cases z
        cases x with
        | tup hs ha =>
          cases y with
          | tup ht hb =>
            rename_i a xs b ys
            have l1 := dqAll_len ha
            have l2 := dqAll_len hb
            refine ⟨a, b, xs, ys, rfl, .inr ⟨seqT_all hs, seqT_all ht, r _ _ H1 k ⟨fun H i w l => ?_, fun H w => ?_, fun C' H i x H' d g' w y e => ?_⟩ s⟩⟩
            · rw [List.length_zipWith] at l
              exact ⟨xs, ys, xs[i]'(by omega), ys[i]'(by omega), seqT_same w hs, seqT_same w ht, List.getElem?_eq_getElem _, List.getElem?_eq_getElem _⟩
            · rw [List.length_zipWith]
              exact ⟨xs, ys, seqT_same w hs, seqT_same w ht, by omega⟩
            · obtain ⟨T, x1, y1, rfl, nT, rfl, f1, f2⟩ := y
              obtain ⟨d1, d2, e1, e2, rfl⟩ := zip_get e
              obtain ⟨v1, z1, q1⟩ := dqAll_get ha e1
              obtain ⟨v2, z2, q2⟩ := dqAll_get hb e2
              cases (f1 xs (seqT_all (seqT_same w hs))).symm.trans z1
              cases (f2 ys (seqT_all (seqT_same w ht))).symm.trans z2
              exact ⟨g'.new nT, .tup (.inl (.inl (g'.at nT))) ((g'.new nT).dqs (.cons (Dq.same w _ _ q1) (.cons (Dq.same w _ _ q2) .nil)))⟩
theorem i_zipL {ta : TA} {S : List PyData → Prop} {A : List PyData → Prop} (h : EvA K ta δ A) (f : ∀ as, A as → ∃ ds es, as = [.list ds, .list es] ∧ S (List.zipWith pairD ds es)) : EvI K (iZip K ta) δ S := fun C σ H g c R r =>
  h C σ H g c _ fun vs as H1 k e p => by
    obtain ⟨ds, es, rfl, s⟩ := f as p
    cases e with
    | cons x y =>
      cases y with
      | cons y z =>
        cases z
        cases x with
        | lst hs ha =>
          cases y with
          | lst ht hb =>
            rename_i a xs b ys
            have l1 := dqAll_len ha
            have l2 := dqAll_len hb
            refine ⟨a, b, xs, ys, rfl, .inl (.inl (rmv_some hs).2), .inl (.inl (rmv_some ht).2), r _ _ H1 k ⟨fun H i w l => ?_, fun H w => ?_, fun C' H i x H' d g' w y e => ?_⟩ s⟩
            · rw [List.length_zipWith] at l
              exact ⟨xs, ys, xs[i]'(by omega), ys[i]'(by omega), .inl (.inl (w _ _ hs)), .inl (.inl (w _ _ ht)), List.getElem?_eq_getElem _, List.getElem?_eq_getElem _⟩
            · rw [List.length_zipWith]
              exact ⟨xs, ys, .inl (.inl (w _ _ hs)), .inl (.inl (w _ _ ht)), by omega⟩
            · obtain ⟨T, x1, y1, rfl, nT, rfl, f1, f2⟩ := y
              obtain ⟨d1, d2, e1, e2, rfl⟩ := zip_get e
              obtain ⟨v1, z1, q1⟩ := dqAll_get ha e1
              obtain ⟨v2, z2, q2⟩ := dqAll_get hb e2
              cases (f1 xs (.inl (.inl (rmv_all _ _ (w _ _ hs))))).symm.trans z1
              cases (f2 ys (.inl (.inl (rmv_all _ _ (w _ _ ht))))).symm.trans z2
              exact ⟨g'.new nT, .tup (.inl (.inl (g'.at nT))) ((g'.new nT).dqs (.cons (Dq.same w _ _ q1) (.cons (Dq.same w _ _ q2) .nil)))⟩
/-- a comprehension -/
theorem e_lc {wi : TI} {g : TG} {vs : List Nat} {S : List PyData → Prop} (h : EvI K wi δ S)
    (f : ∀ ds, S ds → ds.length ≤ 20000 ∧ ∃ Inv : Nat → List PyData → Prop, Inv 0 [] ∧ (∀ i acc, Inv i acc → acc.length ≤ i) ∧
      (∀ i d, ds[i]? = some d → Step K g t te vs δ d (Inv i) (Inv (i + 1))) ∧ ∀ acc, Inv ds.length acc → P (.list acc)) : EvP K (tLc wi g t te vs) δ P := fun C σ H gd c Q q =>
  h C σ H gd c _ fun J ds H1 k s p => by
    obtain ⟨hl, Inv, h0, hz, hs, hd⟩ := f ds p
    have g1 := gd.go k
    intro D nD
    refine ⟨fun i m H => m = ds.length - i ∧ i ≤ ds.length ∧ Fill K C D H1 H (Inv i), ⟨ds.length, rfl, Nat.zero_le _, Fill.start g1 nD h0⟩, ?_⟩
    rintro i m H ⟨rfl, hi, fl⟩
    have sm : Same (rmv H1 C.vol) (rmv H (C.add 0 D).vol) := add_same nD fl.go
    have sm0 : Same (rmv H1 C.vol) H := fun b o e => rmv_all _ _ (sm b o e)
    obtain ⟨xs0, acc0, e0, _⟩ := fl.at_
    by_cases hlt : i < ds.length
    · refine .inr ⟨s.go H i sm0 hlt, fun H' => Fill K C D H1 H' (Inv (i + 1)), fun H' f' => ⟨ds.length - (i + 1), by omega, rfl, hlt, f'⟩, fun x H' y => ?_⟩
      have ed : ds[i]? = some ds[i] := List.getElem?_eq_getElem hlt
      obtain ⟨k2, dq⟩ := s.yld (C.add 0 D) H i x H' ds[i] (g1.add nD fl.go e0) sm y ed
      have np : (C.add 0 D).pot ≠ some D := fun z => g1.trk D (vol_pot z) nD
      have fl2 : Fill K C D H1 H' (Inv i) := by
        obtain ⟨xs, acc, e, dq2, l, iv⟩ := fl.at_
        exact ⟨⟨fun b o nb e => k2.keep b o nb (fl.go.keep b o nb e), k2.pot⟩, xs, acc, k2.keep D _ np e, k2.dqs dq2, l, iv⟩
      exact Fill.step g1 (c.go gd k) nD fl2 (fun acc ha => by have := hz i acc ha; omega) dq (hs i _ ed)
    · have e : i = ds.length := by omega
      subst e
      exact .inl ⟨s.stop H sm0, fl.done g1 nD hd fun v d H2 k2 e2 p2 => q v d H2 (k.trans k2) e2 p2⟩
theorem pts_yes : EvB K tYes δ (· = true) := fun C σ H g c Q q => q true H (.refl g) rfl
end
end Xh
namespace Xh
open PySem PySem.Spec PyProof.Rows L2
section
variable {K : PySem.W.Frag}
def Ct.wth (C : Ct) (w : List (Nat × Addr)) : Ct := ⟨C.pot, C.cl, w, C.fr⟩
/-- where a body stands: H0 is the heap at its entry, C what it was handed, L what must stay -/
structure At (K : PySem.W.Frag) (C : Ct) (H0 L : Hp) (σ : List (Option V)) (H : Hp) (δ : Env) (w : List (Nat × Addr)) : Prop where
  new : ∀ q ∈ w, H0 q.2 = none
  good : Good (C.wth w) H
  cells : Cells K (C.wth w) σ H δ
  go : Go C H0 H
  low : Same L (rmv H (C.wth w).vol)
structure Base (C : Ct) (H0 : Hp) : Prop where
  own : C.own = []
  good : Good C H0
/-- a statement: N what holds behind it, R of what it returns, B and U at break and continue -/
def Run (K : PySem.W.Frag) (t : TS) (δ : Env) (N : Env → Prop) (R : PyData → Prop) (B U : Env → Prop) : Prop :=
  ∀ (C : Ct) (H0 L : Hp) (D : Ends) (σ : List (Option V)) (H : Hp) (w : List (Nat × Addr)), Base C H0 → At K C H0 L σ H δ w →
    (∀ δ' σ' H' w', At K C H0 L σ' H' δ' w' → N δ' → D.nx σ' H') →
    (∀ v d H', Go C H0 H' → Dq K (rmv H' C.vol) v d → R d → D.rt v H') →
    (∀ δ' σ' H' w', At K C H0 L σ' H' δ' w' → B δ' → D.bk σ' H') →
    (∀ δ' σ' H' w', At K C H0 L σ' H' δ' w' → U δ' → D.ct σ' H') → t D σ H
abbrev NoB : Env → Prop := fun _ => False
variable {δ : Env} {te ta tb tc : TE} {tt : TT} {t u : TS} {N M B U : Env → Prop} {P A R : PyData → Prop}
theorem wth_mem {C : Ct} {w : List (Nat × Addr)} {b : Addr} : b ∈ (C.wth w).vol ↔ C.pot = some b ∨ (∃ i, (i, b) ∈ w) ∨ b ∈ C.fr := by
  unfold Ct.vol Ct.wth
  simp only [List.mem_append, List.mem_map, Option.mem_toList, Option.mem_def]
  constructor
  · rintro (h | ⟨⟨i, x⟩, h, rfl⟩ | h)
    · exact .inl h
    · exact .inr (.inl ⟨i, h⟩)
    · exact .inr (.inr h)
  · rintro (h | ⟨i, h⟩ | h)
    · exact .inl h
    · exact .inr (.inl ⟨(i, b), h, rfl⟩)
    · exact .inr (.inr h)
theorem base_mem {C : Ct} (e : C.own = []) {b : Addr} : b ∈ C.vol ↔ C.pot = some b ∨ b ∈ C.fr := by
  unfold Ct.vol
  rw [e]
  simp only [List.map_nil, List.nil_append, List.mem_append, Option.mem_toList, Option.mem_def]
theorem wth_same {C : Ct} {w : List (Nat × Addr)} {H : Hp} (e : C.own = []) : Same (rmv H (C.wth w).vol) (rmv H C.vol) := rmv_sub fun b h => by
  rcases (base_mem e).mp h with h | h
  · exact wth_mem.mpr (.inl h)
  · exact wth_mem.mpr (.inr (.inr h))
theorem At.on {C : Ct} {H0 L : Hp} {σ : List (Option V)} {H H' : Hp} {w : List (Nat × Addr)} (a : At K C H0 L σ H δ w) (k : Go (C.wth w) H H') : At K C H0 L σ H' δ w :=
  ⟨a.new, a.good.go k, a.cells.go a.good k, a.go.trans ⟨k.keep, k.pot⟩, a.low.trans k.same⟩
theorem n_next (h : N δ) : Run K tNext δ N R B U := fun C H0 L D σ H w g a n r b u => n δ σ H w a h
theorem n_break (h : B δ) : Run K tBreak δ N R B U := fun C H0 L D σ H w g a n r b u => b δ σ H w a h
theorem n_cont (h : U δ) : Run K tCont δ N R B U := fun C H0 L D σ H w g a n r b u => u δ σ H w a h
theorem n_seq (h1 : Run K t δ M R B U) (h2 : ∀ δ', M δ' → Run K u δ' N R B U) : Run K (tSeq t u) δ N R B U := fun C H0 L D σ H w g a n r b cu =>
  h1 C H0 L { D with nx := u D } σ H w g a (fun δ' σ' H' w' a' m => h2 δ' m C H0 L D σ' H' w' g a' n r b cu) r b cu
theorem n_imp (h : Run K t δ M R B U) (f : ∀ δ', M δ' → N δ') : Run K t δ N R B U := fun C H0 L D σ H w g a n r b u =>
  h C H0 L D σ H w g a (fun δ' σ' H' w' a' m => n δ' σ' H' w' a' (f δ' m)) r b u
theorem n_asgG {gt : TG} {js : List Nat} (h : EvP K te δ P) (f : ∀ d, P d → ∃ δ', EvG K gt js δ d δ' ∧ N δ') : Run K (tAsg te gt) δ N R B U := fun C H0 L D σ H w g a nx r b u =>
  h (C.wth w) σ H a.good a.cells _ fun v d H1 k1 e1 p1 => by
    obtain ⟨δ', hg, hn⟩ := f d p1
    have a1 := a.on k1
    exact hg (C.wth w) σ H1 v a1.good a1.cells e1 _ fun σ' c' _ => nx δ' σ' H1 w ⟨a1.new, a1.good, c', a1.go, a1.low⟩ hn
theorem n_asg {i : Nat} (hi : i < δ.length) (h : EvP K te δ P) (f : ∀ d, P d → N (δ.set i (.dat d))) : Run K (tAsg te (gName i)) δ N R B U :=
  n_asgG h fun d p => ⟨_, g_name hi, f d p⟩
theorem n_drop (h : EvP K te δ P) (f : N δ) : Run K (tDrop te) δ N R B U := fun C H0 L D σ H w g a nx r b u =>
  h (C.wth w) σ H a.good a.cells _ fun v d H1 k1 e1 p1 => nx δ σ H1 w (a.on k1) f
theorem n_ret (h : EvP K te δ R) : Run K (tRet te) δ N R B U := fun C H0 L D σ H w g a nx r b u =>
  h (C.wth w) σ H a.good a.cells _ fun v d H1 k1 e1 p1 => r v d H1 (a.on k1).go (Dq.same (wth_same g.own) d v e1) p1
theorem n_retN (h : R .none) : Run K tRetN δ N R B U := fun C H0 L D σ H w g a nx r b u => r .non .none H a.go .non h
theorem n_if {β : Bool → Prop} (h : EvB K tt δ β) (h1 : β true → Run K t δ N R B U) (h2 : β false → Run K u δ N R B U) : Run K (tIfS tt t u) δ N R B U := fun C H0 L D σ H w g a nx r bk ct =>
  h (C.wth w) σ H a.good a.cells _ fun b H1 k1 p1 => by
    cases b with
    | true =>
      show t D σ H1
      exact h1 p1 C H0 L D σ H1 w g (a.on k1) nx r bk ct
    | false =>
      show u D σ H1
      exact h2 p1 C H0 L D σ H1 w g (a.on k1) nx r bk ct
theorem n_par {i j : Nat} {ta : TA} {S : List PyData → Prop} (hi : i < δ.length) (hj : j < δ.length) (h : EvA K ta δ S) (f : ∀ ds, S ds → ∃ x y, ds = [x, y] ∧ N ((δ.set i (.dat x)).set j (.dat y))) : Run K (tPar i j ta) δ N R B U := fun C H0 L D σ H w g a nx r bk ct =>
  h (C.wth w) σ H a.good a.cells _ fun vs ds H1 k1 e1 p1 => by
    obtain ⟨x, y, rfl, p⟩ := f ds p1
    have a1 := a.on k1
    cases e1 with
    | cons q1 q2 =>
      cases q2 with
      | cons q2 q3 =>
        cases q3
        refine ⟨_, _, rfl, nx _ _ H1 w ⟨a1.new, a1.good, ?_, a1.go, a1.low⟩ p⟩
        exact (a1.cells.set hi q1).set (by rw [List.length_set]; exact hj) q2
/-! loops -/
theorem At.lift {C : Ct} {H0 L L' : Hp} {σ : List (Option V)} {H : Hp} {w : List (Nat × Addr)} (a : At K C H0 L' σ H δ w) (s : Same L L') : At K C H0 L σ H δ w := ⟨a.new, a.good, a.cells, a.go, s.trans a.low⟩
theorem n_for {wi : TI} {g : TG} {tb : TS} {S : List PyData → Prop} (h : EvI K wi δ S)
    (f : ∀ ds, S ds → ∃ Inv : Nat → Env → Prop, Inv 0 δ ∧ (∀ i d δ', ds[i]? = some d → Inv i δ' → ∃ js δ'', EvG K g js δ' d δ'' ∧ Run K tb δ'' (Inv (i + 1)) R N (Inv (i + 1))) ∧ ∀ δ', Inv ds.length δ' → N δ') :
    Run K (tFor wi g tb) δ N R B U := fun C H0 L D σ H w gb a nx r bk ct =>
  h (C.wth w) σ H a.good a.cells _ fun J ds H1 k1 s p1 => by
    obtain ⟨Inv, h0, hs, hd⟩ := f ds p1
    have a1 := a.on k1
    have sl : Same L (rmv H1 (C.wth w).vol) := a1.low
    refine ⟨fun i m σ' H' => m = ds.length - i ∧ i ≤ ds.length ∧ ∃ δ' w', At K C H0 (rmv H1 (C.wth w).vol) σ' H' δ' w' ∧ Inv i δ', ⟨ds.length, rfl, Nat.zero_le _, δ, w, ⟨a1.new, a1.good, a1.cells, a1.go, Same.refl _⟩, h0⟩, ?_⟩
    rintro i m σ' H' ⟨rfl, hi, δ', w', a', iv⟩
    have sm0 : Same (rmv H1 (C.wth w).vol) H' := fun b o e => rmv_all _ _ (a'.low b o e)
    by_cases hlt : i < ds.length
    · have ed : ds[i]? = some ds[i] := List.getElem?_eq_getElem hlt
      obtain ⟨js, δ'', hg, hr⟩ := hs i _ δ' ed iv
      refine .inr ⟨s.go H' i sm0 hlt, fun σ2 H2 => ∃ δ2 w2, At K C H0 (rmv H1 (C.wth w).vol) σ2 H2 δ2 w2 ∧ Inv (i + 1) δ2, fun σ2 H2 ⟨δ2, w2, x, y⟩ => ⟨ds.length - (i + 1), by omega, rfl, hlt, δ2, w2, x, y⟩, fun x H2 y => ?_⟩
      obtain ⟨k2, dq⟩ := s.yld (C.wth w') H' i x H2 ds[i] a'.good a'.low y ed
      have a2 := a'.on k2
      refine hg (C.wth w') σ' H2 x a2.good a2.cells dq _ fun σ3 c3 _ => ?_
      refine hr C H0 _ _ σ3 H2 w' gb ⟨a2.new, a2.good, c3, a2.go, a2.low⟩ ?_ ?_ ?_ ?_
      · exact fun δ4 σ4 H4 w4 a4 n4 => ⟨δ4, w4, a4, n4⟩
      · exact r
      · exact fun δ4 σ4 H4 w4 a4 n4 => nx δ4 σ4 H4 w4 (a4.lift sl) n4
      · exact fun δ4 σ4 H4 w4 a4 n4 => ⟨δ4, w4, a4, n4⟩
    · have e : i = ds.length := by omega
      subst e
      exact .inl ⟨s.stop H' sm0, nx δ' σ' H' w' (a'.lift sl) (hd δ' iv)⟩
/-! lists of one's own -/
def EvF (K : PySem.W.Frag) (te : TE) (δ : Env) (S : List PyData → Prop) : Prop := ∀ (C : Ct) (σ : List (Option V)) (H : Hp), Good C H → Cells K C σ H δ →
  ∀ Q : VK, (∀ p xs ds H', H p = none → Go C H H' → H' p = some (.lst xs) → DqAll K (rmv H' (C.add 0 p).vol) xs ds → S ds → Q (.ref p) H') → te σ H Q
theorem f_lst {ta : TA} {S : List PyData → Prop} (h : EvA K ta δ fun ds => ds.length ≤ 10000 ∧ S ds) : EvF K (tLst ta) δ S := fun C σ H g c Q q =>
  h C σ H g c _ fun vs ds H1 k1 e1 p1 => ⟨Nat.le_trans (by rw [dqAll_len e1]; exact p1.1) (by decide), fun p n => by
    have n0 : H p = none := by
      cases z : H p with
      | none => rfl
      | some o =>
        exfalso
        by_cases y : C.pot = some p
        · exact (g.go k1).trk p (vol_pot y) n
        · rw [k1.keep p o y z] at n
          cases n
    exact q p _ ds _ n0 (k1.trans ((g.go k1).new n)) upd_same (DqAll.same (add_same n ((g.go k1).new n)) ds vs e1) p1.2⟩
theorem Cells.setOwn {C : Ct} {σ : List (Option V)} {H : Hp} {i : Nat} {p : Addr} {xs : List V} {ds : List PyData} (c : Cells K C σ H δ) (hi : i < δ.length) (m : (i, p) ∈ C.own) (e : H p = some (.lst xs)) (h : DqAll K (rmv H C.vol) xs ds) :
    Cells K C (σ.set i (some (.ref p))) H (δ.set i (.own ds)) := by
  refine ⟨by rw [List.length_set, List.length_set]; exact c.len, fun j x e' => ?_⟩
  by_cases n : i = j
  · subst n
    rw [List.getElem?_set_self hi] at e'
    cases e'
    exact ⟨p, xs, m, by rw [List.getElem?_set_self (by rw [c.len]; exact hi)], e, h⟩
  · rw [List.getElem?_set_ne n] at e'
    have q := c.ok j x e'
    cases x with
    | non => trivial
    | pot =>
      obtain ⟨a, e0, e1⟩ := q
      exact ⟨a, e0, by rw [List.getElem?_set_ne n]; exact e1⟩
    | dat d =>
      obtain ⟨v, e1, dq⟩ := q
      exact ⟨v, by rw [List.getElem?_set_ne n]; exact e1, dq⟩
    | own ds =>
      obtain ⟨p, xs, m, e1, r⟩ := q
      exact ⟨p, xs, m, by rw [List.getElem?_set_ne n]; exact e1, r⟩
theorem n_own {i : Nat} {S : List PyData → Prop} (hi : i < δ.length) (h : EvF K te δ S) (f : ∀ ds, S ds → N (δ.set i (.own ds))) : Run K (tAsg te (gName i)) δ N R B U := fun C H0 L D σ H w g a nx r b u =>
  h (C.wth w) σ H a.good a.cells _ fun p xs ds H1 n0 k1 e1 dq p1 => by
    have z : H0 p = none := by
      cases y : H0 p with
      | none => rfl
      | some o =>
        exfalso
        by_cases y2 : C.pot = some p
        · exact a.good.trk p (vol_pot y2) n0
        · rw [a.go.keep p o y2 y] at n0
          cases n0
    have l : Same L (rmv H1 ((C.wth w).add i p).vol) := a.low.trans (add_same n0 k1)
    refine nx _ _ H1 ((i, p) :: w) ⟨fun q hq => ?_, a.good.add n0 k1 e1, ?_, (a.on k1).go, l⟩ (f ds p1)
    · rcases List.mem_cons.mp hq with h | h
      · rw [h]
        exact z
      · exact a.new q h
    · refine Cells.setOwn (a.cells.add a.good n0 k1) hi List.mem_cons_self e1 ?_
      exact dq
theorem n_app {i : Nat} {ds : List PyData} (hi : δ[i]? = some (.own ds)) (h : EvP K te δ P) (hz : ds.length < 100000) (f : ∀ d, P d → N (δ.set i (.own (ds ++ [d])))) :
    Run K (tDrop (tBM K "list" rAppend (tVar i) (tCons te tNil))) δ N R B U := fun C H0 L D σ H w g a nx r b u => by
  obtain ⟨p, xs, m, e1, e2, dq⟩ := a.cells.ok i _ hi
  have np : (C.wth w).pot ≠ some p := a.good.apart _ _ m
  refine ⟨_, e1, .inl ⟨rfl, xs, .inl (.inl e2)⟩, ?_⟩
  refine h (C.wth w) σ H a.good a.cells _ fun v d H1 k1 e3 p1 => ?_
  have a1 := a.on k1
  have e4 := k1.keep p _ np e2
  refine ⟨p, xs, v, rfl, rfl, e4, Nat.lt_of_lt_of_le (by rw [dqAll_len dq]; exact hz) (by decide : 100000 ≤ sizeLine), ?_⟩
  have mv : p ∈ (C.wth w).vol := vol_own m
  have n0 : H0 p = none := a.new _ m
  have i' : i < δ.length := (List.getElem?_eq_some_iff.mp hi).1
  have ne0 : ∀ b o, H0 b = some o → b ≠ p := fun b o z y => by
    rw [y, n0] at z
    cases z
  have pot' : ∀ q, C.pot = some q → PotOk C.cl (upd H1 p (.lst (xs ++ [v]))) q := fun q hq => by
    obtain ⟨ns, x1, x2, x3, z1, z2, z3⟩ := a1.good.pot q hq
    obtain ⟨_, _, _, _, _, y2, _⟩ := g.good.pot q hq
    have nq : q ≠ p := fun z => np (by show C.pot = _; rw [hq, z])
    exact ⟨ns, x1, x2, x3, by rw [upd_ne nq]; exact z1, by rw [upd_ne (ne0 _ _ y2)]; exact z2, z3⟩
  have ns : sysModules ≠ p := fun z => by
    obtain ⟨o, y⟩ := a1.good.sys
    rw [z, e4] at y
    cases y
  refine nx _ σ _ w ⟨a.new, ⟨?_, fun b hb => ?_, pot', a.good.inj, a.good.apart⟩, ⟨by rw [List.length_set]; exact a.cells.len, fun j x e => ?_⟩, ⟨fun b o nb z => ?_, pot'⟩, ?_⟩ (f d p1)
  · obtain ⟨o, y⟩ := a1.good.sys
    exact ⟨o, by rw [upd_ne ns]; exact y⟩
  · by_cases y : b = p
    · rw [y, upd_same]
      exact fun z => nomatch z
    · rw [upd_ne y]
      exact a1.good.trk b hb
  · by_cases n : i = j
    · subst n
      rw [List.getElem?_set_self i'] at e
      cases e
      refine ⟨p, _, m, e1, upd_same, ?_⟩
      rw [rmv_upd mv]
      exact dqAll_app (k1.dqs dq) (.cons e3 .nil)
    · rw [List.getElem?_set_ne n] at e
      have q := a1.cells.ok j x e
      cases x with
      | non => trivial
      | pot => exact q
      | dat d =>
        obtain ⟨v', y1, y2⟩ := q
        exact ⟨v', y1, by rw [rmv_upd mv]; exact y2⟩
      | own ds' =>
        obtain ⟨p', xs', m', y1, y2, y3⟩ := q
        have npp : p' ≠ p := fun z => n (a.good.inj _ _ _ (by rw [z] at m'; exact m) (by rw [z] at m'; exact m'))
        exact ⟨p', xs', m', y1, by rw [upd_ne npp]; exact y2, by rw [rmv_upd mv]; exact y3⟩
  · rw [upd_ne (ne0 b o z)]
    exact a1.go.keep b o nb z
  · rw [rmv_upd mv]
    exact a1.low
/-- a list of one's own becomes data -/
theorem n_free {i : Nat} {ds : List PyData} (hi : δ[i]? = some (.own ds)) (h : Run K t (δ.set i (.dat (.list ds))) N R B U) : Run K t δ N R B U := fun C H0 L D σ H w g a nx r b u => by
  obtain ⟨p, xs, m, e1, e2, dq⟩ := a.cells.ok i _ hi
  have i' : i < δ.length := (List.getElem?_eq_some_iff.mp hi).1
  have sub : ∀ q, q ∈ w.filter (fun q => decide (q.2 ≠ p)) ↔ q ∈ w ∧ q.2 ≠ p := fun q => by
    rw [List.mem_filter, decide_eq_true_eq]
  have npo : C.pot ≠ some p := a.good.apart _ _ m
  have vs : ∀ b, b ∈ (C.wth (w.filter fun q => decide (q.2 ≠ p))).vol → b ∈ (C.wth w).vol := fun b hb => by
    rcases wth_mem.mp hb with h | ⟨j, h⟩ | h
    · exact wth_mem.mpr (.inl h)
    · exact wth_mem.mpr (.inr (.inl ⟨j, ((sub _).mp h).1⟩))
    · exact wth_mem.mpr (.inr (.inr h))
  have nfr : p ∉ C.fr := fun z => by
    have := g.good.trk p ((base_mem g.own).mpr (.inr z))
    exact this (a.new _ m)
  have nv : p ∉ (C.wth (w.filter fun q => decide (q.2 ≠ p))).vol := fun hb => by
    rcases wth_mem.mp hb with h | ⟨j, h⟩ | h
    · exact npo h
    · exact ((sub _).mp h).2 rfl
    · exact nfr h
  have sm : Same (rmv H (C.wth w).vol) (rmv H (C.wth (w.filter fun q => decide (q.2 ≠ p))).vol) := rmv_sub vs
  refine h C H0 L D σ H (w.filter fun q => decide (q.2 ≠ p)) g ⟨fun q hq => a.new q ((sub q).mp hq).1, ⟨a.good.sys, fun b hb => a.good.trk b (vs b hb), a.good.pot, fun j k x y z => a.good.inj j k x ((sub _).mp y).1 ((sub _).mp z).1,
    fun j x y => a.good.apart j x ((sub _).mp y).1⟩, ⟨by rw [List.length_set]; exact a.cells.len, fun j x e => ?_⟩, a.go, a.low.trans sm⟩ nx r b u
  by_cases n : i = j
  · subst n
    rw [List.getElem?_set_self i'] at e
    cases e
    refine ⟨_, e1, .lst ?_ (DqAll.same sm ds xs dq)⟩
    rw [rmv_out nv]
    exact e2
  · rw [List.getElem?_set_ne n] at e
    have q := a.cells.ok j x e
    cases x with
    | non => trivial
    | pot => exact q
    | dat d =>
      obtain ⟨v', y1, y2⟩ := q
      exact ⟨v', y1, Dq.same sm d v' y2⟩
    | own ds' =>
      obtain ⟨p', xs', m', y1, y2, y3⟩ := q
      have npp : p' ≠ p := fun z => n (a.good.inj _ _ _ (by rw [z] at m'; exact m) (by rw [z] at m'; exact m'))
      exact ⟨p', xs', (sub _).mpr ⟨m', npp⟩, y1, y2, DqAll.same sm ds' xs' y3⟩
theorem n_of {c : Cell} (h : ∀ δ', δ' = δ → Run K t δ' N R B U) : Run K t δ N R B U := h δ rfl
/-! a def, by its body -/
def cellsOf (n : Nat) (ds : List PyData) : Env := ds.map Cell.dat ++ List.replicate (n - ds.length) Cell.non
theorem start_cells {N0 : List Str} {C : Ct} {H : Hp} {vs : List V} {ds : List PyData} (hl : vs.length ≤ N0.length) (h : DqAll K (rmv H C.vol) vs ds) : Cells K C (L2.start N0 vs) H (cellsOf N0.length ds) := by
  have l := dqAll_len h
  refine ⟨?_, fun i c e => ?_⟩
  · unfold L2.start cellsOf
    rw [List.length_append, List.length_append, List.length_map, List.length_map, List.length_replicate, List.length_replicate, l]
  · unfold cellsOf at e
    by_cases hi : i < ds.length
    · rw [List.getElem?_append_left (by rw [List.length_map]; exact hi), List.getElem?_map] at e
      cases q : ds[i]? with
      | none =>
        rw [q] at e
        cases e
      | some d =>
        rw [q] at e
        cases e
        obtain ⟨v, e1, dq⟩ := dqAll_get h q
        refine ⟨v, ?_, dq⟩
        unfold L2.start
        rw [List.getElem?_append_left (by rw [List.length_map, l]; exact hi), List.getElem?_map, e1]
        rfl
    · rw [List.getElem?_append_right (by rw [List.length_map]; exact Nat.le_of_not_lt hi), List.getElem?_replicate] at e
      split at e
      · cases e
        trivial
      · cases e
theorem run_pure {N0 : List Str} {tb : TS} {C : Ct} {H : Hp} {vs : List V} {ds : List PyData} {Q : VK} {post : PyData → Prop} (hl : vs.length ≤ N0.length) (hb : Run K tb (cellsOf N0.length ds) (fun _ => post .none) post NoB NoB)
    (hC : C.own = []) (g : Good C H) (h : DqAll K (rmv H C.vol) vs ds) (q : ∀ v d H', Go C H H' → Dq K (rmv H' C.vol) v d → post d → Q v H') :
    tb { nx := fun _ H' => Q .non H', rt := Q } (L2.start N0 vs) H := by
  have e : C.wth [] = C := by
    obtain ⟨a, b, c, d⟩ := C
    cases hC
    rfl
  have at0 : At K C H (rmv H C.vol) (L2.start N0 vs) H (cellsOf N0.length ds) [] := ⟨fun q hq => absurd hq List.not_mem_nil, by rw [e]; exact g, by rw [e]; exact start_cells hl h, .refl g, by rw [e]; exact Same.refl _⟩
  exact hb C H _ _ _ H [] ⟨hC, g⟩ at0 (fun δ' σ' H' w' a p => q _ _ H' a.go .non p) (fun v d H' k dq p => q v d H' k dq p) (fun _ _ _ _ _ z => z.elim) (fun _ _ _ _ _ z => z.elim)
/-- .. the pot in the first slot -/
def cellsP (n : Nat) (ds : List PyData) : Env := Cell.pot :: cellsOf (n - 1) ds
theorem run_pot {x0 : Str} {N0 : List Str} {tb : TS} {C : Ct} {H : Hp} {a : Addr} {vs : List V} {ds : List PyData} {Q : VK} {post : PyData → Prop} (hl : vs.length ≤ N0.length) (hb : Run K tb (cellsP (N0.length + 1) ds) (fun _ => post .none) post NoB NoB)
    (hC : C.own = []) (ha : C.pot = some a) (g : Good C H) (h : DqAll K (rmv H C.vol) vs ds) (q : ∀ v d H', Go C H H' → Dq K (rmv H' C.vol) v d → post d → Q v H') :
    tb { nx := fun _ H' => Q .non H', rt := Q } (L2.start (x0 :: N0) (.ref a :: vs)) H := by
  have e : C.wth [] = C := by
    obtain ⟨a, b, c, d⟩ := C
    cases hC
    rfl
  have es : L2.start (x0 :: N0) (.ref a :: vs) = some (.ref a) :: L2.start N0 vs := by
    unfold L2.start
    rw [List.map_cons, List.cons_append, List.length_cons, List.length_cons, Nat.add_sub_add_right]
  have ed : cellsP (N0.length + 1) ds = Cell.pot :: cellsOf N0.length ds := rfl
  have c0 := start_cells (K := K) hl h
  have cc : Cells K C (L2.start (x0 :: N0) (.ref a :: vs)) H (cellsP (N0.length + 1) ds) := by
    rw [es, ed]
    refine ⟨by rw [List.length_cons, List.length_cons, c0.len], fun i c e1 => ?_⟩
    cases i with
    | zero =>
      cases e1
      exact ⟨a, ha, rfl⟩
    | succ i =>
      have e2 : (cellsOf N0.length ds)[i]? = some c := e1
      have z := c0.ok i c e2
      cases c with
      | non => trivial
      | pot =>
        obtain ⟨b, y1, y2⟩ := z
        exact ⟨b, y1, y2⟩
      | dat d =>
        obtain ⟨v, y1, y2⟩ := z
        exact ⟨v, y1, y2⟩
      | own ds' =>
        exfalso
        unfold cellsOf at e2
        have mm := List.mem_of_getElem? e2
        rcases List.mem_append.mp mm with mm | mm
        · obtain ⟨_, _, y⟩ := List.mem_map.mp mm
          cases y
        · cases (List.mem_replicate.mp mm).2
  have at0 : At K C H (rmv H C.vol) (L2.start (x0 :: N0) (.ref a :: vs)) H (cellsP (N0.length + 1) ds) [] := ⟨fun q hq => absurd hq List.not_mem_nil, by rw [e]; exact g, by rw [e]; exact cc, .refl g, by rw [e]; exact Same.refl _⟩
  exact hb C H _ _ _ H [] ⟨hC, g⟩ at0 (fun δ' σ' H' w' a p => q _ _ H' a.go .non p) (fun v d H' k dq p => q v d H' k dq p) (fun _ _ _ _ _ z => z.elim) (fun _ _ _ _ _ z => z.elim)
end
section
variable {P : Program} {w : World} {K : PySem.W.Frag} {mg : Str → Option Value} {base : Heap}
/-- THE RULE: a def over data -/
theorem ok_pure {x ql : Str} {st : Stmt} {f : Addr} {fd : FuncData} {N0 ps : List Str} {k : Nat} {pre : List PyData → Prop} {post : List PyData → PyData → Prop} (F : Fun K x ql st f fd) (S : FnScope N0 ps (defScope st)) (hp : ps.length ≤ N0.length)
    (hlen : ∀ ds, pre ds → ds.length = ps.length)
    (hb : ∀ (cdv : Value) (A : Around) (outer : List PySem.Env) (s : Shared) (H : Hp) (E : XK), Room k (A.deeper (envOfC ql (defScope st) s.heap.objs.size f cdv)) →
      ∃ t, PSs (cxOf CX0 P w K mg base N0 ql (defScope st) f cdv A outer s H E).nox (defBody st) t ∧ ∀ ds, pre ds → Run K t (cellsOf N0.length ds) (fun _ => post ds .none) (post ds) NoB NoB) :
    FnOk P w K mg base CX0 (k + 1) f fd ps (PF K pre post) := by
  refine F.ok S (fun vs H Q E h => ?_) (fun cdv A outer s H vs Q E hr h => ?_)
  · obtain ⟨C, ds, _, _, dq, pr, _⟩ := h
    rw [dqAll_len dq, hlen ds pr]
  · obtain ⟨C, ds, hC, g, dq, pr, q⟩ := h
    obtain ⟨t, h1, h2⟩ := hb cdv A outer s H E hr
    exact ⟨t, h1, run_pure (by rw [dqAll_len dq, hlen ds pr]; exact hp) (h2 ds pr) hC g dq q⟩
theorem ok_pot {x ql : Str} {st : Stmt} {f : Addr} {fd : FuncData} {x0 : Str} {N0 ps : List Str} {k : Nat} {pre : List PyData → Prop} {post : List PyData → PyData → Prop} (F : Fun K x ql st f fd) (S : FnScope (x0 :: N0) (x0 :: ps) (defScope st)) (hp : ps.length ≤ N0.length)
    (hlen : ∀ ds, pre ds → ds.length = ps.length)
    (hb : ∀ (cdv : Value) (A : Around) (outer : List PySem.Env) (s : Shared) (H : Hp) (E : XK), Room k (A.deeper (envOfC ql (defScope st) s.heap.objs.size f cdv)) →
      ∃ t, PSs (cxOf CX0 P w K mg base (x0 :: N0) ql (defScope st) f cdv A outer s H E).nox (defBody st) t ∧ ∀ ds, pre ds → Run K t (cellsP (N0.length + 1) ds) (fun _ => post ds .none) (post ds) NoB NoB) :
    FnOk P w K mg base CX0 (k + 1) f fd (x0 :: ps) (PP K pre post) := by
  refine F.ok S (fun vs H Q E h => ?_) (fun cdv A outer s H vs Q E hr h => ?_)
  · obtain ⟨C, a, us, ds, _, _, rfl, _, dq, pr, _⟩ := h
    rw [List.length_cons, List.length_cons, dqAll_len dq, hlen ds pr]
  · obtain ⟨C, a, us, ds, hC, ha, rfl, g, dq, pr, q⟩ := h
    obtain ⟨t, h1, h2⟩ := hb cdv A outer s H E hr
    exact ⟨t, h1, run_pot (by rw [dqAll_len dq, hlen ds pr]; exact hp) (h2 ds pr) hC ha g dq q⟩
end
end Xh
namespace Xh
open PySem PySem.Spec PyProof.Rows L2
/-- a def by its name: it keeps its promise, at most k deep -/
structure Fn (P : Program) (w : World) (K : PySem.W.Frag) (mg : Str → Option Value) (base : Heap) (k : Nat) (x : Str) (ps : List Str) (sp : Sp) : Prop where
  ex : ∃ f fd, FnOk P w K mg base CX0 k f fd ps sp ∧ mg x = some (.ref f) ∧ PySem.W.keepIn K (.ref f) = true ∧ Binds K fd ps []
structure FnGG (P : Program) (w : World) (K : PySem.W.Frag) (mg : Str → Option Value) (base : Heap) (k : Nat) (x : Str) (ps : List Str) (sp : Sp) : Prop where
  ex : ∃ f fd, FnG P w K mg base CX0 k f fd ps sp ∧ mg x = some (.ref f) ∧ PySem.W.keepIn K (.ref f) = true ∧ Binds K fd ps []
section
variable {X : Cx} {k : Nat} {x : Str} {ps : List Str} {sp : Sp} {p pos : Pos} {e : Expr} {es : List Expr} {t : TA}
theorem pe_fn (h : Fn X.prog X.w X.K X.mg X.base k x ps sp) (hr : Room k X.A) (hg : Gl X x) (ha : PA X (e :: es) t) (hdb : (x == ("__debug__" : Str)) = false := by decide)
    (he : starEach (e :: es) X.env = (false, eval e X.env) :: starEach es X.env := by rfl) (hpl : (backTo pos (starEach es X.env)).any (·.1) = false := by rfl) : PE X (.Call (.Name x p) (e :: es) [] pos) (tCall sp [] E0 t) := by
  obtain ⟨f, fd, F, hm, hk, hb⟩ := h.ex
  exact pe_call F hr hg hm hk hb .nil pass0 ha hdb he hpl
theorem pe_fnG (h : FnGG X.prog X.w X.K X.mg X.base k x ps sp) (hr : Room k X.A) (gd : X.A.guards = some []) (hg : Gl X x) (ha : PA X (e :: es) t) (hdb : (x == ("__debug__" : Str)) = false := by decide)
    (he : starEach (e :: es) X.env = (false, eval e X.env) :: starEach es X.env := by rfl) (hpl : (backTo pos (starEach es X.env)).any (·.1) = false := by rfl) : PE X (.Call (.Name x p) (e :: es) [] pos) (tCall sp [] E0 t) := by
  obtain ⟨f, fd, F, hm, hk, hb⟩ := h.ex
  exact pe_callG F hr gd hg hm hk hb .nil pass0 ha hdb he hpl
end
theorem bb_abs : bootBuiltins "abs" = some (.builtin "abs") := PyProof.Rows.boot_abs
theorem bb_len : bootBuiltins "len" = some (.builtin "len") := PySem.boot_len
theorem bb_int : bootBuiltins "int" = some (.type "int") := PyProof.Rows.boot_int
theorem bb_bool : bootBuiltins "bool" = some (.type "bool") := by decide +kernel
theorem bb_str : bootBuiltins "str" = some (.type "str") := by decide +kernel
theorem bb_list : bootBuiltins "list" = some (.type "list") := PyProof.Rows.boot_list
theorem bb_tuple : bootBuiltins "tuple" = some (.type "tuple") := PyProof.Rows.boot_tuple
theorem bb_isinstance : bootBuiltins "isinstance" = some (.builtin "isinstance") := PyProof.Rows.boot_isinstance
theorem bb_repr : bootBuiltins "repr" = some (.builtin "repr") := PyProof.Rows.boot_repr
theorem bb_all : bootBuiltins "all" = some (.builtin "all") := PyProof.Rows.boot_all
theorem bb_max : bootBuiltins "max" = some (.builtin "max") := by decide +kernel
theorem bb_sorted : bootBuiltins "sorted" = some (.builtin "sorted") := by decide +kernel
section
variable {K : PySem.W.Frag} {δ : Env} {te ta tb tc : TE} {tt : TT} {t u : TS} {N M B U : Env → Prop} {P A R : PyData → Prop}
/-! one value each: what the generated readings are made of -/
theorem e_op1 {r : R2} {a b d : PyData} (ha : EvP K ta δ (· = a)) (hb : EvP K tb δ (· = b)) (hr : Rd2 K r a b (· = d)) : EvP K (tOp r ta tb) δ (· = d) :=
  e_op ha (fun _ _ => hb) fun x y e1 e2 => by
    rw [e1, e2]
    exact hr
theorem e_call1 {r : List V → Hp → VK → Prop} {ta : TA} {as : List PyData} {d : PyData} (h : EvA K ta δ (· = as)) (hr : RdC K r as (· = d)) : EvP K (tCB r ta) δ (· = d) :=
  e_call h fun x e => by
    rw [e]
    exact hr
theorem n_asg1 {i : Nat} {d : PyData} (hi : i < δ.length) (h : EvP K te δ (· = d)) (f : N (δ.set i (.dat d))) : Run K (tAsg te (gName i)) δ N R B U := n_asg hi h fun x e => by
  rw [e]
  exact f
theorem n_ret1 {d : PyData} (h : EvP K te δ (· = d)) (f : R d) : Run K (tRet te) δ N R B U := n_ret (h.imp fun x e => by
  rw [e]
  exact f)
/-- a statement that sets the environment to one that is known, then the rest -/
theorem n_seq1 {δ1 : Env} (h1 : Run K t δ (· = δ1) R B U) (h2 : Run K u δ1 N R B U) : Run K (tSeq t u) δ N R B U := n_seq h1 fun δ' e => by
  rw [e]
  exact h2
theorem s_asg1 {i : Nat} {d : PyData} (hi : i < δ.length) (h : EvP K te δ (· = d)) (h2 : Run K u (δ.set i (.dat d)) N R B U) : Run K (tSeq (tAsg te (gName i)) u) δ N R B U := n_seq1 (n_asg1 hi h rfl) h2
theorem s_asg {i : Nat} (hi : i < δ.length) (h : EvP K te δ P) (h2 : ∀ d, P d → Run K u (δ.set i (.dat d)) N R B U) : Run K (tSeq (tAsg te (gName i)) u) δ N R B U :=
  n_seq (M := fun δ' => ∃ d, P d ∧ δ' = δ.set i (.dat d)) (n_asg hi h fun d p => ⟨d, p, rfl⟩) fun δ' ⟨d, p, e⟩ => by
    rw [e]
    exact h2 d p
theorem s_asgG {gt : TG} {js : List Nat} {δ1 : PyData → Env} (h : EvP K te δ P) (hg : ∀ d, P d → EvG K gt js δ d (δ1 d)) (h2 : ∀ d, P d → Run K u (δ1 d) N R B U) : Run K (tSeq (tAsg te gt) u) δ N R B U :=
  n_seq (M := fun δ' => ∃ d, P d ∧ δ' = δ1 d) (n_asgG h fun d p => ⟨_, hg d p, d, p, rfl⟩) fun δ' ⟨d, p, e⟩ => by
    rw [e]
    exact h2 d p
theorem s_drop (h : EvP K te δ P) (h2 : Run K u δ N R B U) : Run K (tSeq (tDrop te) u) δ N R B U := n_seq1 (n_drop h rfl) h2
/-- an if without else whose body leaves (returns or breaks) -/
theorem s_if {β : Bool → Prop} (h : EvB K tt δ β) (h1 : β true → Run K t δ (fun _ => False) R B U) (h2 : β false → Run K u δ N R B U) : Run K (tSeq (tIfS tt t tNext) u) δ N R B U :=
  n_seq (M := fun δ' => δ' = δ ∧ β false) (n_if h (fun p => n_imp (h1 p) fun _ z => z.elim) fun p => n_next ⟨rfl, p⟩) fun δ' ⟨e, p⟩ => by
    rw [e]
    exact h2 p
theorem s_for {wi : TI} {g : TG} {S : List PyData → Prop} (h : EvI K wi δ S)
    (f : ∀ ds, S ds → ∃ Inv : Nat → Env → Prop, Inv 0 δ ∧ (∀ i d δ', ds[i]? = some d → Inv i δ' → ∃ js δ'', EvG K g js δ' d δ'' ∧ Run K t δ'' (Inv (i + 1)) R M (Inv (i + 1))) ∧ ∀ δ', Inv ds.length δ' → M δ')
    (h2 : ∀ δ', M δ' → Run K u δ' N R B U) : Run K (tSeq (tFor wi g t) u) δ N R B U := n_seq (n_for h f) h2
theorem s_app {i : Nat} {ds : List PyData} (hi : δ[i]? = some (.own ds)) (h : EvP K te δ P) (hz : ds.length < 100000) (h2 : ∀ d, P d → Run K u (δ.set i (.own (ds ++ [d]))) N R B U) :
    Run K (tSeq (tDrop (tBM K "list" rAppend (tVar i) (tCons te tNil))) u) δ N R B U :=
  n_seq (M := fun δ' => ∃ d, P d ∧ δ' = δ.set i (.own (ds ++ [d]))) (n_app hi h hz fun d p => ⟨d, p, rfl⟩) fun δ' ⟨d, p, e⟩ => by
    rw [e]
    exact h2 d p
theorem s_own {i : Nat} {S : List PyData → Prop} (hi : i < δ.length) (h : EvF K te δ S) (h2 : ∀ ds, S ds → Run K u (δ.set i (.own ds)) N R B U) : Run K (tSeq (tAsg te (gName i)) u) δ N R B U :=
  n_seq (M := fun δ' => ∃ d, S d ∧ δ' = δ.set i (.own d)) (n_own hi h fun d p => ⟨d, p, rfl⟩) fun δ' ⟨d, p, e⟩ => by
    rw [e]
    exact h2 d p
theorem s_par {i j : Nat} {ta : TA} {S : List PyData → Prop} (hi : i < δ.length) (hj : j < δ.length) (h : EvA K ta δ S) (f : ∀ ds, S ds → ∃ x y, ds = [x, y]) (h2 : ∀ x y, S [x, y] → Run K u ((δ.set i (.dat x)).set j (.dat y)) N R B U) : Run K (tSeq (tPar i j ta) u) δ N R B U :=
  n_seq (M := fun δ' => ∃ x y, S [x, y] ∧ δ' = (δ.set i (.dat x)).set j (.dat y)) (n_par hi hj h fun ds p => by
    obtain ⟨x, y, e⟩ := f ds p
    subst e
    exact ⟨x, y, rfl, x, y, p, rfl⟩) fun δ' ⟨x, y, p, e⟩ => by
    rw [e]
    exact h2 x y p
end
end Xh
namespace Xh
open PySem PySem.Spec PyProof.Rows L2
theorem lt_ble {a b : Nat} (h : Nat.ble (a + 1) b = true) : a < b := Nat.le_of_ble_eq_true h
theorem mulc {i j : Int} (h : (decide (-(2 ^ 64) < j) && decide (j < 2 ^ 64)) = true) : CMul i j := .inr (by
  rw [Bool.and_eq_true, decide_eq_true_eq, decide_eq_true_eq] at h
  exact h)
theorem mulc' {i j : Int} (h : (decide (-(2 ^ 64) < i) && decide (i < 2 ^ 64)) = true) : CMul i j := .inl (by
  rw [Bool.and_eq_true, decide_eq_true_eq, decide_eq_true_eq] at h
  exact h)
section
variable {K : PySem.W.Frag} {δ : Env} {te ta tb tc : TE} {tt : TT} {t u : TS} {N M B U : Env → Prop} {P A R : PyData → Prop}
theorem r_add {i j : Int} : Rd2 K (rI0 fun i j => .int (i + j)) (.int i) (.int j) (· = .int (i + j)) := r_I0 (fun _ => .int _) rfl
theorem r_sub {i j : Int} : Rd2 K (rI0 fun i j => .int (i - j)) (.int i) (.int j) (· = .int (i - j)) := r_I0 (fun _ => .int _) rfl
theorem r_mul {i j : Int} (h : CMul i j) : Rd2 K (rI CMul fun i j => .int (i * j)) (.int i) (.int j) (· = .int (i * j)) := r_I h (fun _ => .int _) rfl
theorem r_mod {i j : Int} (h : 0 < j) : Rd2 K (rI (fun _ j => 0 < j) fun i j => .int (i % j)) (.int i) (.int j) (· = .int (i % j)) := r_I h (fun _ => .int _) rfl
theorem r_lt {i j : Int} : Rd2 K (rI0 fun i j => .bl (decide (i < j))) (.int i) (.int j) (· = .bool (decide (i < j))) := r_I0 (fun _ => .bl _) rfl
theorem r_le {i j : Int} : Rd2 K (rI0 fun i j => .bl (decide (i ≤ j))) (.int i) (.int j) (· = .bool (decide (i ≤ j))) := r_I0 (fun _ => .bl _) rfl
theorem r_gt {i j : Int} : Rd2 K (rI0 fun i j => .bl (decide (j < i))) (.int i) (.int j) (· = .bool (decide (j < i))) := r_I0 (fun _ => .bl _) rfl
theorem r_ge {i j : Int} : Rd2 K (rI0 fun i j => .bl (decide (j ≤ i))) (.int i) (.int j) (· = .bool (decide (j ≤ i))) := r_I0 (fun _ => .bl _) rfl
theorem b_test1 {b : Bool} (h : EvP K te δ (· = .bool b)) : EvB K (tTest te) δ (· = b) := b_test h fun d e => ⟨b, e, rfl⟩
theorem b_B1 {b : Bool} (h : EvP K te δ (· = .bool b)) : EvB K (tB te) δ (· = b) := b_B h fun d e => ⟨b, e, rfl⟩
theorem b_not1 {b : Bool} (h : EvB K tt δ (· = b)) : EvB K (tNot tt) δ (· = !b) := b_not h fun c e => by rw [e]
theorem b_and1 {t u : TT} {a b : Bool} (h : EvB K t δ (· = a)) (h2 : a = true → EvB K u δ (· = b)) : EvB K (tAnd t u) δ (· = (a && b)) :=
  b_and h (fun e => h2 e.symm) (fun e => by rw [← e]; rfl) fun c e e2 => by rw [← e, e2]; rfl
theorem b_or1 {t u : TT} {a b : Bool} (h : EvB K t δ (· = a)) (h2 : a = false → EvB K u δ (· = b)) : EvB K (tOr t u) δ (· = (a || b)) :=
  b_or h (fun e => h2 e.symm) (fun e => by rw [← e]; rfl) fun c e e2 => by rw [← e, e2]; rfl
theorem e_and1 {a b : Bool} (h : EvP K ta δ (· = .bool a)) (h2 : a = true → EvP K tb δ (· = .bool b)) : EvP K (tAndV ta tb) δ (· = .bool (a && b)) :=
  e_and (A := (· = a)) (B := (· = .bool b)) (h.imp fun d e => ⟨a, e, rfl⟩) (fun e => h2 e.symm) (fun e => by rw [← e]; rfl) fun c e e2 => by rw [← e, e2]; rfl
theorem e_or1 {a b : Bool} (h : EvP K ta δ (· = .bool a)) (h2 : a = false → EvP K tb δ (· = .bool b)) : EvP K (tOrV ta tb) δ (· = .bool (a || b)) :=
  e_or (A := (· = a)) (B := (· = .bool b)) (h.imp fun d e => ⟨a, e, rfl⟩) (fun e => h2 e.symm) (fun e => by rw [← e]; rfl) fun c e e2 => by rw [← e, e2]; rfl
theorem e_not1 {a : Bool} (h : EvP K ta δ (· = .bool a)) : EvP K (tNotV ta) δ (· = .bool (!a)) := e_not (A := (· = a)) (h.imp fun d e => ⟨a, e, rfl⟩) fun b e => by rw [e]
theorem e_isD1 {T : String} {d : PyData} {b : Bool} (h : EvP K te δ (· = d)) (e : kitB (tyOf d) T = some b) : EvP K (tCB (rIsD K T) (tCons te (tCons (tC (.ty T)) tNil))) δ (· = .bool b) :=
  e_isD h fun x y => ⟨b, by rw [y]; exact e, rfl⟩
theorem e_chain {r r' : R2} {a b c : PyData} {k : Bool} {d : PyData} (ha : EvP K ta δ (· = a)) (hb : EvP K tb δ (· = b)) (hr : Rd2 K r a b (· = .bool k)) (hc : k = true → EvP K tc δ (· = c)) (hr' : k = true → Rd2 K r' b c (· = d))
    (hf : k = false → d = .bool false) : EvP K (tChain r r' ta tb tc) δ (· = d) := fun C σ H g cl Q q =>
  ha C σ H g cl _ fun x a' H1 k1 e1 p1 => by
    subst p1
    refine hb C σ H1 (g.go k1) (cl.go g k1) _ fun y b' H2 k2 e2 p2 => ?_
    subst p2
    have g2 := (g.go k1).go k2
    refine hr C x y H2 g2 (k2.dq e1) e2 _ fun z d' H3 k3 e3 p3 => ?_
    subst p3
    cases e3
    refine ⟨k, rfl, ?_⟩
    cases k with
    | true =>
      show tc σ H3 _
      refine hc rfl C σ H3 (g2.go k3) (cl.go g ((k1.trans k2).trans k3)) _ fun w c' H4 k4 e4 p4 => ?_
      subst p4
      exact hr' rfl C y w H4 ((g2.go k3).go k4) ((k3.trans k4).dq e2) e4 Q fun v d' H5 k5 e5 p5 => q v d' H5 ((((k1.trans k2).trans k3).trans k4).trans k5) e5 p5
    | false =>
      show Q (.bl false) H3
      exact q _ _ H3 ((k1.trans k2).trans k3) (.bl false) (hf rfl).symm
theorem e_callF1 {pre : List PyData → Prop} {f : List PyData → PyData} {ta : TA} {as : List PyData} {E : XK} (h : EvA K ta δ (· = as)) (hp : pre as) : EvP K (tCall (PF K pre fun ds d => d = f ds) [] E ta) δ (· = f as) :=
  e_callF h (fun ds e => by rw [e]; exact hp) fun ds d e p => by rw [p, e]
end
local macro_rules | `(tactic| walk_at "ev") => `(tactic| first
  | exact e_var rfl | exact e_int | exact e_bl | exact e_non | exact e_str
  | (apply e_op1 <;> (first | walk_at "ev" | exact r_add | exact r_sub | exact r_mul (mulc (by decide)) | exact r_mul (mulc' (by decide)) | exact r_mod (by decide) | exact r_lt | exact r_le | exact r_gt | exact r_ge))
  | (refine' e_call1 (a_one ?_ a_nil) (c_int rfl) <;> walk_at "ev"))
example {K : PySem.W.Frag} (a b : Int) : EvP K (tOp (rI0 fun i j => .int (i + j)) (tVar 0) (tOp (rI CMul fun i j => .int (i * j)) (tVar 1) (tC (.int 5)))) [.dat (.int a), .dat (.int b)] (· = .int (a + b * 5)) := by
  walk_at "ev"
end Xh
namespace Xh
open PySem PySem.Spec PyProof.Rows L2
/-! sizes -/
mutual
def wt : PyData → Nat
  | .none => 10
  | .bool _ => 10
  | .int _ => 40
  | .str x => 10 * x.length + 10
  | .list xs => wts xs + 10
  | .tuple xs => wts xs + 10
  | .dict _ => 10
def wts : List PyData → Nat
  | [] => 0
  | x :: xs => wt x + wts xs
end
/-- small data, at most so deep: ints of some digits, no dict but {} -/
def sm : Nat → PyData → Bool
  | _, .none => true
  | _, .bool _ => true
  | _, .int i => decide (i.natAbs < 10 ^ 30)
  | _, .str x => x.cps.toList.all fun c => decide (c < 16 ^ 8)
  | n + 1, .list xs => xs.all (sm n)
  | n + 1, .tuple xs => xs.all (sm n)
  | _, .dict [] => true
  | _, _ => false
theorem wts_sum : ∀ xs : List PyData, wts xs = (xs.map wt).sum
  | [] => rfl
  | x :: xs => by
    rw [List.map_cons, List.sum_cons, ← wts_sum xs]
    rfl
theorem wt_ge (d : PyData) : 10 ≤ wt d := by
  cases d <;> simp only [wt] <;> omega
theorem wts_len : ∀ xs : List PyData, 10 * xs.length ≤ wts xs
  | [] => Nat.le_refl _
  | x :: xs => by
    have h1 := wts_len xs
    have h2 := wt_ge x
    show 10 * (xs.length + 1) ≤ wt x + wts xs
    omega
theorem shownAll_map : ∀ xs : List PyData, PyData.shownAll xs = xs.map PyData.shown
  | [] => rfl
  | x :: xs => by
    rw [List.map_cons, ← shownAll_map xs]
    rfl
theorem showAll_all : ∀ xs : List PyData, (∀ x ∈ xs, x.showable = true) → PyData.showableAll xs = true
  | [], _ => rfl
  | x :: xs, h => by
    show (x.showable && PyData.showableAll xs) = true
    rw [h x List.mem_cons_self, showAll_all xs fun y hy => h y (List.mem_cons_of_mem _ hy)]
    rfl
theorem depthAll_le (n : Nat) : ∀ xs : List PyData, (∀ x ∈ xs, x.depth ≤ n) → PyData.depthAll xs ≤ n
  | [], _ => Nat.zero_le _
  | x :: xs, h => by
    show max x.depth (PyData.depthAll xs) ≤ n
    exact Nat.max_le.mpr ⟨h x List.mem_cons_self, depthAll_le n xs fun y hy => h y (List.mem_cons_of_mem _ hy)⟩
theorem log_of {n : Nat} (h : n < 10 ^ 30) : n.log2 < 1920 := by
  by_cases h0 : n = 0
  · rw [h0]
    decide
  · refine (Nat.log2_lt h0).mpr (Nat.lt_of_lt_of_le h ?_)
    have e : (10 : Nat) ^ 30 ≤ 2 ^ 100 := by decide
    exact Nat.le_trans e (Nat.pow_le_pow_right (by decide) (by decide))
theorem sum_le {xs : List PyData} (h : ∀ x ∈ xs, x.shown.length + 2 ≤ wt x) : ((xs.map PyData.shown).map (·.length)).sum + 2 * xs.length ≤ wts xs := by
  induction xs with
  | nil => exact Nat.le_refl _
  | cons x xs ih =>
    have h1 := ih fun y hy => h y (List.mem_cons_of_mem _ hy)
    have h2 := h x List.mem_cons_self
    rw [List.map_cons, List.map_cons, List.sum_cons]
    show x.shown.length + ((xs.map PyData.shown).map (·.length)).sum + 2 * (xs.length + 1) ≤ wt x + wts xs
    omega
theorem sm_all : ∀ (n : Nat) (d : PyData), sm n d = true → d.showable = true ∧ d.depth ≤ n + 1 ∧ d.shown.length + 2 ≤ wt d := by
  have seq : ∀ (n : Nat) (xs : List PyData), (∀ d, sm n d = true → d.showable = true ∧ d.depth ≤ n + 1 ∧ d.shown.length + 2 ≤ wt d) → xs.all (sm n) = true →
      PyData.showableAll xs = true ∧ PyData.depthAll xs + 1 ≤ n + 1 + 1 ∧ ((PyData.shownAll xs).map (·.length)).sum + 2 * (PyData.shownAll xs).length ≤ wts xs := by
    intro n xs ih h
    have h' : ∀ x ∈ xs, sm n x = true := List.all_eq_true.mp h
    refine ⟨showAll_all xs fun x hx => (ih x (h' x hx)).1, Nat.succ_le_succ (depthAll_le _ xs fun x hx => (ih x (h' x hx)).2.1), ?_⟩
    rw [shownAll_map, List.length_map]
    exact sum_le fun x hx => (ih x (h' x hx)).2.2
  have leaf : ∀ (n : Nat) (d : PyData), sm n d = true → (∀ xs, d ≠ .list xs) → (∀ xs, d ≠ .tuple xs) → d.showable = true ∧ d.depth ≤ n + 1 ∧ d.shown.length + 2 ≤ wt d := by
    intro n d h h1 h2
    cases d with
    | none => exact ⟨rfl, Nat.zero_le _, by decide⟩
    | bool b => exact ⟨rfl, Nat.zero_le _, by cases b <;> decide⟩
    | int i =>
      have h' : i.natAbs < 10 ^ 30 := by
        cases n <;> exact of_decide_eq_true h
      refine ⟨decide_eq_true (log_of h'), Nat.zero_le _, ?_⟩
      have e := int_text_length_le10 (k := 30) (by decide) h'
      show (Str.ofString (toString i)).length + 2 ≤ 40
      rw [PySem.ofString_length]
      omega
    | str x =>
      have h' : (x.cps.toList.all fun c => decide (c < 16 ^ 8)) = true := by
        cases n <;> exact h
      refine ⟨rfl, Nat.zero_le _, ?_⟩
      have e := StrLaws.reprText_len x fun c hc => of_decide_eq_true (List.all_eq_true.mp h' c hc)
      show (reprText x).length + 2 ≤ 10 * x.length + 10
      omega
    | list xs => exact absurd rfl (h1 xs)
    | tuple xs => exact absurd rfl (h2 xs)
    | dict kvs =>
      cases kvs with
      | nil => exact ⟨rfl, by show 0 + 1 ≤ n + 1; omega, by show (dictText []).length + 2 ≤ 10; decide +kernel⟩
      | cons a b => cases n <;> cases h
  intro n
  induction n with
  | zero =>
    intro d h
    refine leaf 0 d h (fun xs e => ?_) fun xs e => ?_
    · rw [e] at h
      cases h
    · rw [e] at h
      cases h
  | succ n ih =>
    intro d h
    cases d with
    | list xs =>
      obtain ⟨a, b, c⟩ := seq n xs ih h
      refine ⟨a, b, ?_⟩
      have e := listText_len_le (PyData.shownAll xs)
      show (listText (PyData.shownAll xs)).length + 2 ≤ wts xs + 10
      omega
    | tuple xs =>
      obtain ⟨a, b, c⟩ := seq n xs ih h
      refine ⟨a, b, ?_⟩
      have e := tupleText_len_le (PyData.shownAll xs)
      show (tupleText (PyData.shownAll xs)).length + 2 ≤ wts xs + 10
      omega
    | none => exact leaf (n + 1) _ h (fun xs e => nomatch e) fun xs e => nomatch e
    | bool b => exact leaf (n + 1) _ h (fun xs e => nomatch e) fun xs e => nomatch e
    | int i => exact leaf (n + 1) _ h (fun xs e => nomatch e) fun xs e => nomatch e
    | str x => exact leaf (n + 1) _ h (fun xs e => nomatch e) fun xs e => nomatch e
    | dict k => exact leaf (n + 1) _ h (fun xs e => nomatch e) fun xs e => nomatch e
theorem show_of {n : Nat} {d : PyData} (h : sm n d = true) (hn : n ≤ 40) (hw : wt d ≤ 1000000) : Show d := by
  obtain ⟨a, b, c⟩ := sm_all n d h
  refine ⟨a, by omega, Nat.le_trans (show d.shown.length ≤ 1000000 by omega) (by decide)⟩
/-! kinds -/
def isInt : PyData → Bool
  | .int _ => true
  | .bool _ => true
  | _ => false
def isBool : PyData → Bool
  | .bool _ => true
  | _ => false
def isTup : PyData → Bool
  | .tuple _ => true
  | _ => false
def isList : PyData → Bool
  | .list _ => true
  | _ => false
def isStr : PyData → Bool
  | .str _ => true
  | _ => false
theorem kInt (d : PyData) : kitB (tyOf d) "int" = some (isInt d) := by
  cases d
  · exact (show kitB "NoneType" "int" = some false by decide +kernel)
  · exact (show kitB "bool" "int" = some true by decide +kernel)
  · exact (show kitB "int" "int" = some true by decide +kernel)
  · exact (show kitB "str" "int" = some false by decide +kernel)
  · exact (show kitB "list" "int" = some false by decide +kernel)
  · exact (show kitB "tuple" "int" = some false by decide +kernel)
  · exact (show kitB "dict" "int" = some false by decide +kernel)
theorem kBool (d : PyData) : kitB (tyOf d) "bool" = some (isBool d) := by
  cases d
  · exact (show kitB "NoneType" "bool" = some false by decide +kernel)
  · exact (show kitB "bool" "bool" = some true by decide +kernel)
  · exact (show kitB "int" "bool" = some false by decide +kernel)
  · exact (show kitB "str" "bool" = some false by decide +kernel)
  · exact (show kitB "list" "bool" = some false by decide +kernel)
  · exact (show kitB "tuple" "bool" = some false by decide +kernel)
  · exact (show kitB "dict" "bool" = some false by decide +kernel)
theorem kTup (d : PyData) : kitB (tyOf d) "tuple" = some (isTup d) := by
  cases d
  · exact (show kitB "NoneType" "tuple" = some false by decide +kernel)
  · exact (show kitB "bool" "tuple" = some false by decide +kernel)
  · exact (show kitB "int" "tuple" = some false by decide +kernel)
  · exact (show kitB "str" "tuple" = some false by decide +kernel)
  · exact (show kitB "list" "tuple" = some false by decide +kernel)
  · exact (show kitB "tuple" "tuple" = some true by decide +kernel)
  · exact (show kitB "dict" "tuple" = some false by decide +kernel)
theorem kList (d : PyData) : kitB (tyOf d) "list" = some (isList d) := by
  cases d
  · exact (show kitB "NoneType" "list" = some false by decide +kernel)
  · exact (show kitB "bool" "list" = some false by decide +kernel)
  · exact (show kitB "int" "list" = some false by decide +kernel)
  · exact (show kitB "str" "list" = some false by decide +kernel)
  · exact (show kitB "list" "list" = some true by decide +kernel)
  · exact (show kitB "tuple" "list" = some false by decide +kernel)
  · exact (show kitB "dict" "list" = some false by decide +kernel)
theorem kStr (d : PyData) : kitB (tyOf d) "str" = some (isStr d) := by
  cases d
  · exact (show kitB "NoneType" "str" = some false by decide +kernel)
  · exact (show kitB "bool" "str" = some false by decide +kernel)
  · exact (show kitB "int" "str" = some false by decide +kernel)
  · exact (show kitB "str" "str" = some true by decide +kernel)
  · exact (show kitB "list" "str" = some false by decide +kernel)
  · exact (show kitB "tuple" "str" = some false by decide +kernel)
  · exact (show kitB "dict" "str" = some false by decide +kernel)
/-- an int that is no bool, from a to b -/
def isNum (d : PyData) (a b : Int) : Bool := match d with
  | .int i => decide (a ≤ i) && decide (i ≤ b)
  | _ => false
/-! promises of one, two, three arguments -/
abbrev F1 (K : PySem.W.Frag) (p : PyData → Prop) (q : PyData → PyData → Prop) : Sp := PF K (fun ds => ∃ x, ds = [x] ∧ p x) fun ds d => ∀ x, ds = [x] → q x d
abbrev F2 (K : PySem.W.Frag) (p : PyData → PyData → Prop) (q : PyData → PyData → PyData → Prop) : Sp := PF K (fun ds => ∃ x y, ds = [x, y] ∧ p x y) fun ds d => ∀ x y, ds = [x, y] → q x y d
abbrev F3 (K : PySem.W.Frag) (p : PyData → PyData → PyData → Prop) (q : PyData → PyData → PyData → PyData → Prop) : Sp := PF K (fun ds => ∃ x y z, ds = [x, y, z] ∧ p x y z) fun ds d => ∀ x y z, ds = [x, y, z] → q x y z d
abbrev Q0 (K : PySem.W.Frag) (q : PyData → Prop) : Sp := PP K (fun ds => ds = []) fun _ d => q d
abbrev Q1 (K : PySem.W.Frag) (p : PyData → Prop) (q : PyData → PyData → Prop) : Sp := PP K (fun ds => ∃ x, ds = [x] ∧ p x) fun ds d => ∀ x, ds = [x] → q x d
abbrev Q2 (K : PySem.W.Frag) (p : PyData → PyData → Prop) (q : PyData → PyData → PyData → Prop) : Sp := PP K (fun ds => ∃ x y, ds = [x, y] ∧ p x y) fun ds d => ∀ x y, ds = [x, y] → q x y d
section
variable {K : PySem.W.Frag} {δ : Env} {te ta tb tc : TE} {tt : TT} {t u : TS} {N M B U : Env → Prop} {P A R : PyData → Prop} {E : XK}
theorem c1 {p : PyData → Prop} {q : PyData → PyData → Prop} {x : PyData} (h : EvP K te δ (· = x)) (hp : p x) : EvP K (tCall (F1 K p q) [] E (tCons te tNil)) δ (q x) :=
  e_callF (a_one h a_nil) (fun ds e => ⟨x, e, hp⟩) fun ds d e r => r x e
theorem c2 {p : PyData → PyData → Prop} {q : PyData → PyData → PyData → Prop} {x y : PyData} (h : EvP K ta δ (· = x)) (h2 : EvP K tb δ (· = y)) (hp : p x y) : EvP K (tCall (F2 K p q) [] E (tCons ta (tCons tb tNil))) δ (q x y) :=
  e_callF (a_one h (a_one h2 a_nil)) (fun ds e => ⟨x, y, e, hp⟩) fun ds d e r => r x y e
theorem c3 {p : PyData → PyData → PyData → Prop} {q : PyData → PyData → PyData → PyData → Prop} {x y z : PyData} (h : EvP K ta δ (· = x)) (h2 : EvP K tb δ (· = y)) (h3 : EvP K tc δ (· = z)) (hp : p x y z) :
    EvP K (tCall (F3 K p q) [] E (tCons ta (tCons tb (tCons tc tNil)))) δ (q x y z) :=
  e_callF (a_one h (a_one h2 (a_one h3 a_nil))) (fun ds e => ⟨x, y, z, e, hp⟩) fun ds d e r => r x y z e
theorem d0 {q : PyData → Prop} {i : Nat} (hi : δ[i]? = some .pot) : EvP K (tCall (Q0 K q) [] E (tCons (tVar i) tNil)) δ q :=
  e_callP hi a_nil (fun _ e => e) fun ds d e r => r
theorem d1 {p : PyData → Prop} {q : PyData → PyData → Prop} {S : PyData → Prop} {i : Nat} (hi : δ[i]? = some .pot) (h : EvP K te δ S) (hp : ∀ x, S x → p x) (f : ∀ x d, S x → q x d → P d) : EvP K (tCall (Q1 K p q) [] E (tCons (tVar i) (tCons te tNil))) δ P :=
  e_callP (A := fun ds => ∃ x, ds = [x] ∧ S x) hi (a_cons h (fun _ _ => a_nil) fun a b h1 h2 => ⟨a, by rw [h2], h1⟩) (fun ds ⟨x, e, s⟩ => ⟨x, e, hp x s⟩) fun ds d ⟨x, e, s⟩ r => f x d s (r x e)
theorem d2 {p : PyData → PyData → Prop} {q : PyData → PyData → PyData → Prop} {S T : PyData → Prop} {i : Nat} (hi : δ[i]? = some .pot) (h : EvP K ta δ S) (h2 : EvP K tb δ T) (hp : ∀ x y, S x → T y → p x y) (f : ∀ x y d, S x → T y → q x y d → P d) :
    EvP K (tCall (Q2 K p q) [] E (tCons (tVar i) (tCons ta (tCons tb tNil)))) δ P :=
  e_callP (A := fun ds => ∃ x y, ds = [x, y] ∧ S x ∧ T y) hi (a_cons (B := fun ds => ∃ y, ds = [y] ∧ T y) h (fun _ _ => a_cons h2 (fun _ _ => a_nil) fun a b h1 h2 => ⟨a, by rw [h2], h1⟩) fun a b h1 ⟨y, e, h3⟩ => ⟨a, y, by rw [e], h1, h3⟩)
    (fun ds ⟨x, y, e, s, t⟩ => ⟨x, y, e, hp x y s t⟩) fun ds d ⟨x, y, e, s, t⟩ r => f x y d s t (r x y e)
/-- every item of a list, mapped -/
theorem e_lcM {wi : TI} {g : TG} {vs : List Nat} {ds : List PyData} (f : PyData → PyData) (h : EvI K wi δ (· = ds)) (hl : ds.length ≤ 10000)
    (hs : ∀ d ∈ ds, ∃ js δ', (∀ k ∈ js, k ∈ vs) ∧ EvG K g js (wipeE δ vs) d δ' ∧ EvP K te δ' (· = f d)) : EvP K (tLc wi g tYes te vs) δ (· = .list (ds.map f)) :=
  e_lc h fun es e => by
    subst e
    refine ⟨by omega, fun i acc => acc = (es.take i).map f, rfl, fun i acc e => ?_, fun i d hd => ?_, fun acc e => ?_⟩
    · rw [e, List.length_map, List.length_take]
      exact Nat.min_le_left _ _
    · obtain ⟨js, δ', h1, h2, h3⟩ := hs d (List.mem_of_getElem? hd)
      refine ⟨js, δ', h1, h2, fun acc e => ⟨(· = true), pts_yes, fun _ => h3.imp fun x ex => ?_, fun z => by cases z⟩⟩
      rw [e, ex]
      show _ = List.map f (List.take (i + 1) es)
      rw [List.take_add_one, hd, List.map_append]
      rfl
    · rw [e, List.take_of_length_le (Nat.le_refl _)]
/-- .. those that a test takes -/
theorem e_lcF {wi : TI} {g : TG} {vs : List Nat} {ds : List PyData} {tt : TT} (p : PyData → Bool) (f : PyData → PyData) (h : EvI K wi δ (· = ds)) (hl : ds.length ≤ 10000)
    (hs : ∀ d ∈ ds, ∃ js δ', (∀ k ∈ js, k ∈ vs) ∧ EvG K g js (wipeE δ vs) d δ' ∧ EvB K tt δ' (· = p d) ∧ (p d = true → EvP K te δ' (· = f d))) : EvP K (tLc wi g tt te vs) δ (· = .list ((ds.filter p).map f)) :=
  e_lc h fun es e => by
    subst e
    refine ⟨by omega, fun i acc => acc = ((es.take i).filter p).map f, rfl, fun i acc e => ?_, fun i d hd => ?_, fun acc e => ?_⟩
    · rw [e, List.length_map]
      refine Nat.le_trans (List.length_filter_le _ _) ?_
      rw [List.length_take]
      exact Nat.min_le_left _ _
    · obtain ⟨js, δ', h1, h2, h3, h4⟩ := hs d (List.mem_of_getElem? hd)
      refine ⟨js, δ', h1, h2, fun acc e => ⟨(· = p d), h3, fun z => (h4 z.symm).imp fun x ex => ?_, fun z => ?_⟩⟩
      · rw [e, ex]
        show _ = List.map f (List.filter p (List.take (i + 1) es))
        rw [List.take_add_one, hd, List.filter_append, List.map_append]
        show _ = _ ++ ((([d] : List PyData).filter p).map f)
        rw [List.filter_cons, if_pos z.symm]
        rfl
      · rw [e]
        show _ = List.map f (List.filter p (List.take (i + 1) es))
        rw [List.take_add_one, hd, List.filter_append, List.map_append]
        show _ = _ ++ ((([d] : List PyData).filter p).map f)
        rw [List.filter_cons, if_neg (by rw [← z]; decide)]
        exact (List.append_nil _).symm
    · rw [e, List.take_of_length_le (Nat.le_refl _)]
theorem allB_map (g : PyData → Bool) : ∀ ds : List PyData, allB (ds.map fun d => .bool (g d)) = some (ds.all g)
  | [] => rfl
  | d :: ds => by
    show (allB (ds.map fun d => .bool (g d))).map (g d && ·) = _
    rw [allB_map g ds]
    rfl
def isNone (d : PyData) : Bool := match d with
  | .none => true
  | _ => false
theorem r_isN1 {a : PyData} : Rd2 K rIsN a .none (· = .bool (isNone a)) := r_isN rfl
theorem r_notN1 {a : PyData} : Rd2 K rNotN a .none (· = .bool (!isNone a)) := r_notN (by cases a <;> rfl)
theorem i_tup1 {ds : List PyData} (h : EvP K te δ (· = .tuple ds)) : EvI K (iTup K te) δ (· = ds) := fun C σ H g c R r =>
  i_tup (A := (· = .tuple ds)) (h.imp fun d e => ⟨ds, e, rfl⟩) C σ H g c R fun J es H' k s p => r J es H' k s (by cases p; rfl)
theorem i_list1 {ds : List PyData} (h : EvP K te δ (· = .list ds)) : EvI K (iList K te) δ (· = ds) := fun C σ H g c R r =>
  i_list (A := (· = .list ds)) (h.imp fun d e => ⟨ds, e, rfl⟩) C σ H g c R fun J es H' k s p => r J es H' k s (by cases p; rfl)
theorem i_rngN {ta : TA} {n : Int} (h : EvA K ta δ (· = [.int n])) (h1 : -1000000 ≤ n ∧ n ≤ 1000000) : EvI K (iRng1 ta) δ (· = rangeD 0 n.toNat) := i_rng1 h fun as e => ⟨n, e, h1.1, h1.2, rfl⟩
theorem i_zipT1 {ta : TA} {ds es : List PyData} (h : EvA K ta δ (· = [.tuple ds, .tuple es])) : EvI K (RZ.iZipA K ta) δ (· = List.zipWith pairD ds es) := i_zipT h fun as e => ⟨ds, es, e, rfl⟩
theorem i_zipL1 {ta : TA} {ds es : List PyData} (h : EvA K ta δ (· = [.list ds, .list es])) : EvI K (iZip K ta) δ (· = List.zipWith pairD ds es) := i_zipL h fun as e => ⟨ds, es, e, rfl⟩
theorem e_slT1 {tl th : TO} {ds : List PyData} {lo hi : Option Int} (h : EvP K te δ (· = .tuple ds)) (h1 : EvO K tl δ (· = lo)) (h2 : EvO K th δ (· = hi)) : EvP K (tSl (rSlA K) te tl th) δ (· = .tuple (cutD ds lo hi)) :=
  e_slT h (fun _ _ => h1) (fun _ _ => h2) fun a x y e1 e2 e3 => ⟨ds, e1, by rw [e2, e3]⟩
theorem e_slL1 {tl th : TO} {ds : List PyData} {lo hi : Option Int} (h : EvP K te δ (· = .list ds)) (h1 : EvO K tl δ (· = lo)) (h2 : EvO K th δ (· = hi)) : EvP K (tSl (rSlL K) te tl th) δ (· = .list (cutD ds lo hi)) :=
  e_slL h (fun _ _ => h1) (fun _ _ => h2) fun a x y e1 e2 e3 => ⟨ds, e1, by rw [e2, e3]⟩
theorem cutD_1 (ds : List PyData) : cutD ds (some 1) none = ds.drop 1 := by
  unfold cutD
  rw [show HT.sIx ds.length 0 (some 1) = min 1 ds.length from HT.sIx_nat ds.length 0 1, HT.sIx_none]
  cases ds with
  | nil => rfl
  | cons x r =>
    rw [show min 1 (x :: r).length = 1 by
      rw [List.length_cons]
      omega, List.drop_one, List.tail_cons, List.length_cons, Nat.add_sub_cancel]
    exact List.take_of_length_le (Nat.le_refl _)
theorem cutD_len (ds : List PyData) (lo hi : Option Int) : (cutD ds lo hi).length ≤ ds.length := by
  unfold cutD
  rw [List.length_take, List.length_drop]
  omega
theorem cutD_mem {ds : List PyData} {lo hi : Option Int} {d : PyData} (h : d ∈ cutD ds lo hi) : d ∈ ds := List.mem_of_mem_drop (List.mem_of_mem_take h)
/-- the targets of a pair -/
theorem g_pair {i j : Nat} {a b : PyData} (hi : i < δ.length) (hj : j < δ.length) : EvG K (gTup K 2 (gCons (gName i) (gCons (gName j) gNil))) [i, j] δ (pairD a b) ((δ.set i (.dat a)).set j (.dat b)) :=
  g_tup rfl (gs_cons hi (gs_cons (by rw [List.length_set]; exact hj) gs_nil))
theorem r_catT1 {ds es : List PyData} (hz : ds.length + es.length ≤ 10000) : Rd2 K (rCatA K) (.tuple ds) (.tuple es) (· = .tuple (ds ++ es)) := r_catT hz rfl
theorem r_catL1 {ds es : List PyData} (hz : ds.length + es.length ≤ 10000) : Rd2 K rCat (.list ds) (.list es) (· = .list (ds ++ es)) := r_catL hz rfl
theorem r_ixT1 {ds : List PyData} {i : Int} {d : PyData} (e : atI ds i = some d) : Rd2 K (rIxT K) (.tuple ds) (.int i) (· = d) := r_ixT e rfl
theorem r_ixL1 {ds : List PyData} {i : Int} {d : PyData} (e : atI ds i = some d) : Rd2 K (rIxL K) (.list ds) (.int i) (· = d) := r_ixL e rfl
theorem e_lenT1 {ds : List PyData} (h : EvP K te δ (· = .tuple ds)) : EvP K (tCB (rLenD K) (tCons te tNil)) δ (· = .int ds.length) := e_call1 (a_one h a_nil) (c_lenT rfl)
theorem e_lenL1 {ds : List PyData} (h : EvP K te δ (· = .list ds)) : EvP K (tCB (rLenD K) (tCons te tNil)) δ (· = .int ds.length) := e_call1 (a_one h a_nil) (c_lenL rfl)
end
end Xh
/-! t[::-1] of a tuple -/
namespace Xh
open PySem PySem.Spec PyProof.Rows L2 HT
theorem places_back (n : Nat) : Builtin.Slice.slicePlaces ((n : Int) - 1) (-1) (-1) = n := by
  unfold Builtin.Slice.slicePlaces
  have h1 : ¬ ((-1 : Int) > 0) := by decide
  simp only [h1, if_false]
  by_cases h : (n : Int) - 1 > -1
  · rw [if_pos h, show (- -1 : Int) = 1 by decide, Int.ediv_one]
    omega
  · rw [if_neg h]
    omega
theorem fm_congr {α β : Type} {f g : α → Option β} : ∀ {l : List α}, (∀ x ∈ l, f x = g x) → l.filterMap f = l.filterMap g
  | [], _ => rfl
  | x :: l, h => by
    rw [List.filterMap_cons, List.filterMap_cons, h x List.mem_cons_self, fm_congr fun y hy => h y (List.mem_cons_of_mem _ hy)]
theorem pick_back (xs : Array Value) : ((List.range xs.size).filterMap fun (k : Nat) => xs[(((xs.size : Int) - 1) + (k : Int) * -1).toNat]?) = xs.toList.reverse := by
  have e : ((List.range xs.size).filterMap fun (k : Nat) => xs[(((xs.size : Int) - 1) + (k : Int) * -1).toNat]?) = ((List.range xs.size).map fun k => xs.size - 1 - k).filterMap (xs[·]?) := by
    rw [List.filterMap_map]
    refine fm_congr fun k hk => ?_
    have hk := List.mem_range.mp hk
    show xs[(((xs.size : Int) - 1) + (k : Int) * -1).toNat]? = xs[xs.size - 1 - k]?
    rw [show (((xs.size : Int) - 1) + (k : Int) * -1).toNat = xs.size - 1 - k by omega]
  rw [e, PySem.W.krv_range, List.filterMap_reverse, PySem.W.krv_all]
section
variable {prog : Program} {w : World} {A : Around} {E : Value → Shared → Prop} {s : Shared}
theorem applied_back {sl : Addr} {vl vu vs : Value} {n : Nat} {Q : Int × Int × Nat → Shared → Prop} (hs : s.heap.IsSliceOf sl vl vu vs) (pl : IsPart vl none) (pu : IsPart vu none) (ps : IsPart vs (some (-1)))
    (h : Q ((n : Int) - 1, -1, n) s) : wpAny (model prog w) A (Builtin.Slice.sliceApplied (.ref sl) (pure (n : Int))) Q E s := by
  obtain ⟨os, hos, hcs, hds⟩ := id hs
  unfold Builtin.Slice.sliceApplied Builtin.Slice.sliceFields
  refine wpAny_bind (wpAny_bind (wpAny_field hos hds (x := vl) rfl (wpAny_bind (wpAny_field hos hds (x := vu) rfl (wpAny_bind (wpAny_field hos hds (x := vs) rfl (wpAny_pure ?_)))))))
  refine wpAny_bind (slicePart_ ps ?_)
  show wpAny _ _ (if ((-1 : Int) == 0) = true then _ else _) _ _ s
  rw [if_neg (by decide)]
  refine wpAny_bind (slicePart_ pl (wpAny_bind (slicePart_ pu (wpAny_bind (wpAny_pure ?_)))))
  show wpAny _ _ (pure ((n : Int) - 1, (-1 : Int), Builtin.Slice.slicePlaces ((n : Int) - 1) (-1) (-1))) _ _ s
  rw [places_back]
  exact wpAny_pure h
theorem getItem_tuple_back {t sl : Addr} {items : Array Value} {vl vu vs : Value} {Q : Value → Shared → Prop} (ht : IsTup s.heap t items) (hs : s.heap.IsSliceOf sl vl vu vs) (pl : IsPart vl none) (pu : IsPart vu none) (ps : IsPart vs (some (-1)))
    (h : Q (.ref s.heap.objs.size) { s with heap := s.heap.push { cls := .type "tuple", data := .seq items.toList.reverse.toArray } }) (hsz : items.size ≤ sizeLine) : wpAny (model prog w) A (getItem (.ref t) (.ref sl)) Q E s := by
  have room : sizeOk (.seq items.toList.reverse.toArray) := by
    show items.toList.reverse.toArray.size ≤ sizeLine
    rw [List.size_toArray, List.length_reverse, Array.length_toList]
    exact hsz
  obtain ⟨os, hos, hcs, hds⟩ := id hs
  have hTs : s.TypeIs (.ref sl) "slice" := ⟨os, hos, hcs⟩
  unfold getItem
  try with_reducible refine wpAny_holding ?_
  first | refine wpAny_bind (wpAny_pure ?_) | skip
  refine wpAny_bind (wpAny_sequenceKey ht.typeIs (by decide) ?_)
  refine wpAny_bind (wpAny_callSpecial?_slot (name := Str.ofString "__getitem__") ht.typeIs PyProof.Rows.slot_tuple_getitem
    (wpAny_call_entry PyProof.Rows.slot_tuple_getitem ht.typeIs entry_tuple_getitem ?_ (args_tuple_getitem _ _)))
  show wpAny _ _ (Builtin.Tuple.tupleItemsOf (.ref t) >>= _) _ _ s
  refine wpAny_bind (tupleItemsOf_ ht ?_)
  refine wpAny_bind (wpAny_typeOf hTs ?_)
  rw [if_pos (by decide)]
  refine wpAny_bind (applied_back hs pl pu ps ?_)
  have no : ¬ (((items.size : Int) - 1 == 0 && (-1 : Int) == 1 && items.size == items.size) = true) := by
    rw [show ((-1 : Int) == 1) = false by decide, Bool.and_false, Bool.false_and]
    exact Bool.false_ne_true
  show wpAny _ _ (if ((items.size : Int) - 1 == 0 && (-1 : Int) == 1 && items.size == items.size) = true then _ else _) _ _ s
  rw [if_neg no, pick_back]
  first
    | exact wpAny_bind (m := Builtin.Tuple.tupleExact _) (wpAny_newObj_type (wpAny_pure ⟨_, rfl, wpAny_pure h⟩) room)
    | exact wpAny_bind (m := Builtin.Tuple.tupleExact _) (wpAny_newObj_type (wpAny_bind (wpAny_pure (wpAny_pure ⟨_, rfl, wpAny_pure h⟩))) room)
    | exact wpAny_bind (wpAny_bind (m := Builtin.Tuple.tupleExact _) (wpAny_newObj_type (wpAny_pure (wpAny_pure ⟨_, rfl, wpAny_pure h⟩)) room))
    | exact wpAny_bind (wpAny_bind (m := Builtin.Tuple.tupleExact _) (wpAny_newObj_type (wpAny_pure ⟨_, rfl, wpAny_pure h⟩) room))
end
def tRevT (K : PySem.W.Frag) (te : TE) : TE := fun σ H Q => te σ H fun x H1 => ∃ a xs, x = .ref a ∧ SqT K H1 a xs ∧ ∀ p, H1 p = none → Q (.ref p) (upd H1 p (.tup xs.reverse))
theorem pe_revT {X : Cx} {e : Expr} {te : TE} {k : Nat} {p1 p2 p3 pos : Pos} (he : PE X e te) : PE X (.Subscript e (.Slice none none (some (.UnaryOp .USub (.Constant (.int 1) k p1) p2)) p3) pos) (tRevT X.K te) := by
  refine ⟨fun pins s σ H Q I h => ?_⟩
  refine Subscript_ (thn (he.run pins s σ H _ I h) fun v s1 ⟨x, H1, I1, r1, q1⟩ => ?_)
  obtain ⟨a, xs, ex, hx, q⟩ := q1
  subst ex
  cases r1
  have back : PO X (some (.UnaryOp .USub (.Constant (.int 1) k p1) p2)) (tPart (tUn (rU fun i => .int (-i)) (tC (.int 1)))) := po_some (pe_un un_neg pe_int)
  refine wpAny_Slice (thn (po_none.run pins s1 σ H1 (fun o H2 => o = none ∧ H2 = H1) I1 ⟨rfl, rfl⟩) fun vl s2 ⟨l, H2, I2, pl, el, e2⟩ => ?_)
  subst el e2
  refine thn (po_none.run pins s2 σ H2 (fun o H3 => o = none ∧ H3 = H2) I2 ⟨rfl, rfl⟩) fun vu s3 ⟨u, H3, I3, pu, eu, e3⟩ => ?_
  subst eu e3
  refine thn (back.run pins s3 σ H3 (fun o H4 => o = some (-1) ∧ H4 = H3) I3 ⟨1, rfl, -1, rfl, rfl, rfl⟩) fun vs s4 ⟨o, H4, I4, ps, eo, e4⟩ => ?_
  subst eo e4
  have I5 : Inv X pins σ H4 { s4 with heap := s4.heap.push { cls := .type "slice", data := .fields #[vl, vu, vs] } } := I4.kept (t' := s4.toks) fun b ob q => Heap.get?_push_of_some _ q
  obtain ⟨its, r, ht, hz⟩ := I5.tuple hx
  have hlen := r.length
  show wpAny (model X.prog X.w) X.A (subscriptTail e (.Slice none none (some (.UnaryOp .USub (.Constant (.int 1) k p1) p2)) p3) (.ref a) (.ref s4.heap.objs.size)) (EP X pins σ Q) X.xe { s4 with heap := s4.heap.push { cls := .type "slice", data := .fields #[vl, vu, vs] } }
  refine tail_any (ops := [.ref a, .ref s4.heap.objs.size]) ht.typeIs (PyProof.Rows.slot_tuple_getitem.lookup) ?_ (by with_unfolding_all rfl)
  refine getItem_tuple_back ht (Heap.IsSliceOf.new _ vl vu vs) pl pu ps ?_ (by rw [List.size_toArray]; omega)
  refine ⟨.ref _, _, I5.laid (t' := s4.toks) (o := .tup xs.reverse) (fun b ob q => Heap.get?_push_of_some _ q) (Nat.le_refl _) ?_, rfl, q _ (I5.hok.fresh (Nat.le_refl _))⟩
  exact ⟨by rw [List.length_reverse]; exact hz, _, r.reverse, IsTup.new _ _⟩
theorem e_revT {K : PySem.W.Frag} {δ : Env} {te : TE} {A P : PyData → Prop} (h : EvP K te δ A) (f : ∀ d, A d → ∃ ds, d = .tuple ds ∧ P (.tuple ds.reverse)) : EvP K (tRevT K te) δ P := fun C σ H g c Q q =>
  h C σ H g c _ fun v d H1 k1 e1 p1 => by
    obtain ⟨ds, rfl, p⟩ := f d p1
    cases e1 with
    | tup hs ha => exact ⟨_, _, rfl, seqT_all hs, fun p' n => q _ _ _ (k1.trans ((g.go k1).new n)) (.tup (.inl (.inl ((g.go k1).at n))) (((g.go k1).new n).dqs (dqAll_rev ha))) p⟩
end Xh
/-! data of which only the size is known -/
namespace Xh
open PySem PySem.Spec PyProof.Rows L2
def Sz (n k : Nat) (d : PyData) : Prop := sm n d = true ∧ wt d ≤ k
structure Szs (n k : Nat) (ds : List PyData) : Prop where
  all : ∀ d ∈ ds, sm n d = true
  wt : wts ds ≤ k
def ET (n k : Nat) (d : PyData) : Prop := ∃ ds, d = .tuple ds ∧ Szs n k ds
def EL (n k : Nat) (d : PyData) : Prop := ∃ ds, d = .list ds ∧ ds ≠ [] ∧ Szs n k ds
theorem sm_succ : ∀ (n : Nat) (d : PyData), sm n d = true → sm (n + 1) d = true := by
  intro n
  induction n with
  | zero =>
    intro d h
    cases d with
    | list xs => cases h
    | tuple xs => cases h
    | dict kvs =>
      cases kvs with
      | nil => rfl
      | cons a b => cases h
    | _ => exact h
  | succ n ih =>
    intro d h
    cases d with
    | list xs => exact List.all_eq_true.mpr fun x hx => ih x (List.all_eq_true.mp h x hx)
    | tuple xs => exact List.all_eq_true.mpr fun x hx => ih x (List.all_eq_true.mp h x hx)
    | dict kvs =>
      cases kvs with
      | nil => rfl
      | cons a b => cases h
    | _ => exact h
theorem sm_le {n m : Nat} {d : PyData} (h : sm n d = true) (l : n ≤ m) : sm m d = true := by
  obtain ⟨k, rfl⟩ := Nat.le.dest l
  clear l
  induction k with
  | zero => exact h
  | succ k ih => exact sm_succ _ _ ih
theorem Szs.mono {n m k l : Nat} {ds : List PyData} (s : Szs n k ds) (h1 : n ≤ m) (h2 : k ≤ l) : Szs m l ds := ⟨fun d hd => sm_le (s.all d hd) h1, Nat.le_trans s.wt h2⟩
theorem wts_app : ∀ (ds es : List PyData), wts (ds ++ es) = wts ds + wts es
  | [], es => (Nat.zero_add _).symm
  | d :: ds, es => by
    show wt d + wts (ds ++ es) = wt d + wts ds + wts es
    rw [wts_app ds es, Nat.add_assoc]
theorem Szs.app {n k l : Nat} {ds es : List PyData} (s : Szs n k ds) (t : Szs n l es) : Szs n (k + l) (ds ++ es) :=
  ⟨fun d hd => (List.mem_append.mp hd).elim (s.all d) (t.all d), by rw [wts_app]; exact Nat.add_le_add s.wt t.wt⟩
theorem wts_drop : ∀ (n : Nat) (ds : List PyData), wts (ds.drop n) ≤ wts ds
  | 0, _ => Nat.le_refl _
  | _ + 1, [] => Nat.le_refl _
  | n + 1, d :: ds => Nat.le_trans (wts_drop n ds) (Nat.le_add_left _ _)
theorem wts_take : ∀ (n : Nat) (ds : List PyData), wts (ds.take n) ≤ wts ds
  | 0, _ => Nat.zero_le _
  | _ + 1, [] => Nat.le_refl _
  | n + 1, d :: ds => Nat.add_le_add_left (wts_take n ds) _
theorem Szs.cut {n k : Nat} {ds : List PyData} (s : Szs n k ds) (lo hi : Option Int) : Szs n k (cutD ds lo hi) :=
  ⟨fun d hd => s.all d (cutD_mem hd), Nat.le_trans (Nat.le_trans (wts_take _ _) (wts_drop _ _)) s.wt⟩
theorem wts_rev : ∀ ds : List PyData, wts ds.reverse = wts ds
  | [] => rfl
  | d :: ds => by
    rw [List.reverse_cons, wts_app, wts_rev ds]
    show wts ds + (wt d + 0) = wt d + wts ds
    omega
theorem Szs.rev {n k : Nat} {ds : List PyData} (s : Szs n k ds) : Szs n k ds.reverse := ⟨fun d hd => s.all d (List.mem_reverse.mp hd), by rw [wts_rev]; exact s.wt⟩
theorem Szs.rep {n k : Nat} {ds : List PyData} (s : Szs n k ds) : ∀ m : Nat, Szs n (m * k) (List.replicate m ds).flatten
  | 0 => ⟨fun d hd => absurd hd List.not_mem_nil, Nat.zero_le _⟩
  | m + 1 => by
    rw [List.replicate_succ, List.flatten_cons, Nat.succ_mul, Nat.add_comm]
    exact s.app (s.rep m)
theorem wt_mem : ∀ {ds : List PyData} {d : PyData}, d ∈ ds → wt d ≤ wts ds
  | x :: r, d, h => by
    rcases List.mem_cons.mp h with e | h
    · rw [e]
      exact Nat.le_add_right _ _
    · exact Nat.le_trans (wt_mem h) (Nat.le_add_left _ _)
theorem Szs.mem {n k : Nat} {ds : List PyData} {d : PyData} (s : Szs n k ds) (h : d ∈ ds) : Sz n k d := ⟨s.all d h, Nat.le_trans (wt_mem h) s.wt⟩
theorem Szs.len {n k : Nat} {ds : List PyData} (s : Szs n k ds) : 10 * ds.length ≤ k := by
  have := wts_len ds
  have := s.wt
  omega
theorem ET.sz {n k : Nat} {d : PyData} (h : ET n k d) : Sz (n + 1) (k + 10) d := by
  obtain ⟨ds, rfl, s⟩ := h
  exact ⟨List.all_eq_true.mpr s.all, Nat.add_le_add_right s.wt 10⟩
theorem EL.sz {n k : Nat} {d : PyData} (h : EL n k d) : Sz (n + 1) (k + 10) d := by
  obtain ⟨ds, rfl, _, s⟩ := h
  exact ⟨List.all_eq_true.mpr s.all, Nat.add_le_add_right s.wt 10⟩
theorem Sz.mono {n m k l : Nat} {d : PyData} (s : Sz n k d) (h1 : n ≤ m) (h2 : k ≤ l) : Sz m l d := ⟨sm_le s.1 h1, Nat.le_trans s.2 h2⟩
theorem Sz.show {n k : Nat} {d : PyData} (s : Sz n k d) (h1 : n ≤ 40) (h2 : k ≤ 1000000) : Show d := show_of s.1 h1 (Nat.le_trans s.2 h2)
section
variable {K : PySem.W.Frag} {δ : Env} {te ta tb tc : TE} {n m k l : Nat}
theorem z_c {d : PyData} (h : EvP K te δ (· = d)) (h1 : sm n d = true) (h2 : Nat.ble (wt d) k = true) : EvP K te δ (Sz n k) := h.imp fun x e => by
  rw [e]
  exact ⟨h1, Nat.le_of_ble_eq_true h2⟩
theorem z_m {P : PyData → Prop} (h : EvP K te δ P) (f : ∀ d, P d → Sz n k d) : EvP K te δ (Sz n k) := h.imp f
theorem az_nil : EvA K tNil δ (Szs n 0) := a_nil.imp fun ds e => by
  rw [e]
  exact ⟨fun d hd => absurd hd List.not_mem_nil, Nat.le_refl _⟩
theorem az_cons {tr : TA} (h : EvP K te δ (Sz n k)) (hr : EvA K tr δ (Szs n l)) : EvA K (tCons te tr) δ (Szs n (k + l)) := a_cons h (fun _ _ => hr) fun a b h1 h2 =>
  ⟨fun d hd => by
    rcases List.mem_cons.mp hd with e | hd
    · rw [e]
      exact h1.1
    · exact h2.all d hd, Nat.add_le_add h1.2 h2.wt⟩
theorem z_tup {ta : TA} (h : EvA K ta δ (Szs n k)) (hk : Nat.ble k 100000 = true) : EvP K (tTup ta) δ (ET n k) := e_tup h fun ds s => ⟨by have := s.len; have := Nat.le_of_ble_eq_true hk; omega, ds, rfl, s⟩
theorem z_lst {tr : TA} (h : EvP K te δ (Sz n k)) (hr : EvA K tr δ (Szs n l)) (hk : Nat.ble (k + l) 100000 = true) : EvP K (tLst (tCons te tr)) δ (EL n (k + l)) :=
  e_lst (A := fun ds => ds ≠ [] ∧ Szs n (k + l) ds) (a_cons h (fun _ _ => hr) fun a b h1 h2 => ⟨List.cons_ne_nil _ _, fun d hd => by
    rcases List.mem_cons.mp hd with e | hd
    · rw [e]
      exact h1.1
    · exact h2.all d hd, Nat.add_le_add h1.2 h2.wt⟩) fun ds s => ⟨by have := s.2.len; have := Nat.le_of_ble_eq_true hk; omega, ds, rfl, s.1, s.2⟩
theorem z_catT (h : EvP K ta δ (ET n k)) (h2 : EvP K tb δ (ET n l)) (hk : Nat.ble (k + l) 100000 = true) : EvP K (tOp (rCatA K) ta tb) δ (ET n (k + l)) :=
  e_op h (fun _ _ => h2) fun a b ⟨ds, e1, s1⟩ ⟨es, e2, s2⟩ => by
    subst e1
    subst e2
    have l1 := s1.len
    have l2 := s2.len
    have := Nat.le_of_ble_eq_true hk
    exact r_catT (by omega) ⟨_, rfl, s1.app s2⟩
theorem z_catL (h : EvP K ta δ (EL n k)) (h2 : EvP K tb δ (EL n l)) (hk : Nat.ble (k + l) 100000 = true) : EvP K (tOp rCat ta tb) δ (EL n (k + l)) :=
  e_op h (fun _ _ => h2) fun a b ⟨ds, e1, m1, s1⟩ ⟨es, e2, m2, s2⟩ => by
    subst e1
    subst e2
    have l1 := s1.len
    have l2 := s2.len
    have := Nat.le_of_ble_eq_true hk
    exact r_catL (by omega) ⟨_, rfl, fun z => m1 (List.append_eq_nil_iff.mp z).1, s1.app s2⟩
theorem z_repL {c : Nat} (h : EvP K ta δ (EL n k)) (h2 : EvP K tb δ (· = .int (c : Int))) (hc : Nat.ble 1 c = true ∧ Nat.ble c 1000 = true) (hk : Nat.ble k 10000 = true) : EvP K (tOp rRep ta tb) δ (EL n (c * k)) :=
  e_op h (fun _ _ => h2) fun a b ⟨ds, e1, m1, s1⟩ e2 => by
    subst e1
    subst e2
    have l1 := s1.len
    have h3 := Nat.le_of_ble_eq_true hk
    have h4 := Nat.le_of_ble_eq_true hc.1
    have h5 := Nat.le_of_ble_eq_true hc.2
    refine r_repL (by omega) (by omega) (by omega) ⟨_, rfl, fun z => ?_, s1.rep c⟩
    have z2 := List.flatten_eq_nil_iff.mp z ds (List.mem_replicate.mpr ⟨by omega, rfl⟩)
    exact m1 z2
theorem z_slT {tl th : TO} {F G : Option Int → Prop} (h : EvP K te δ (ET n k)) (h1 : EvO K tl δ F) (h2 : EvO K th δ G) : EvP K (tSl (rSlA K) te tl th) δ (ET n k) :=
  e_slT h (fun _ _ => h1) (fun _ _ => h2) fun a lo hi ⟨ds, e, s⟩ _ _ => ⟨ds, e, _, rfl, s.cut lo hi⟩
theorem z_revT (h : EvP K te δ (ET n k)) : EvP K (tRevT K te) δ (ET n k) := e_revT h fun d ⟨ds, e, s⟩ => ⟨ds, e, _, rfl, s.rev⟩
theorem z_listT (h : EvP K te δ (ET n k)) : EvP K (tCB (rListD K) (tCons te tNil)) δ (Sz (n + 1) (k + 10)) :=
  e_call (A := fun ds => ∃ es, ds = [.tuple es] ∧ Szs n k es) (a_cons h (fun _ _ => a_nil) fun a b ⟨ds, e, s⟩ e2 => ⟨ds, by rw [e, e2], s⟩) fun as ⟨es, e, s⟩ => by
    subst e
    exact c_listT ⟨List.all_eq_true.mpr s.all, Nat.add_le_add_right s.wt 10⟩
/-- a part that is some number -/
theorem o_any {f : Int → Prop} (h : EvP K te δ fun d => ∃ i, d = .int i ∧ f i) : EvO K (tPart te) δ fun _ => True := fun C σ H g c Q q => o_some h C σ H g c Q fun o H' k _ => q o H' k trivial
theorem o_int {i : Int} (h : EvP K te δ (· = .int i)) : EvO K (tPart te) δ fun _ => True := fun C σ H g c Q q => o_is h C σ H g c Q fun o H' k _ => q o H' k trivial
theorem o_non : EvO K tNoPart δ fun _ => True := fun C σ H g c Q q => q none H (.refl g) trivial
/-- all items of a display are so -/
def AllP (p : PyData → Prop) (m : Nat) (ds : List PyData) : Prop := ds.length = m ∧ ∀ d ∈ ds, p d
theorem ap_nil {p : PyData → Prop} : EvA K tNil δ (AllP p 0) := a_nil.imp fun ds e => by
  rw [e]
  exact ⟨rfl, fun d hd => absurd hd List.not_mem_nil⟩
theorem ap_cons {p : PyData → Prop} {tr : TA} {m : Nat} (h : EvP K te δ p) (hr : EvA K tr δ (AllP p m)) : EvA K (tCons te tr) δ (AllP p (m + 1)) := a_cons h (fun _ _ => hr) fun a b h1 h2 =>
  ⟨congrArg Nat.succ h2.1, fun d hd => by
    rcases List.mem_cons.mp hd with e | hd
    · rw [e]
      exact h1
    · exact h2.2 d hd⟩
/-- a list, not empty, of at most m items that are all so -/
def LP (p : PyData → Prop) (m : Nat) (d : PyData) : Prop := ∃ ds, d = .list ds ∧ ds ≠ [] ∧ ds.length ≤ m ∧ ∀ d ∈ ds, p d
theorem z_disp {p : PyData → Prop} {ta : TA} {m : Nat} (h : EvA K ta δ (AllP p (m + 1))) (hm : Nat.ble (m + 1) 10000 = true) : EvP K (tLst ta) δ (LP p (m + 1)) :=
  e_lst h fun ds s => by
    have := Nat.le_of_ble_eq_true hm
    refine ⟨by rw [s.1]; exact this, ds, rfl, fun z => ?_, by rw [s.1]; exact Nat.le_refl _, s.2⟩
    have e := s.1
    rw [z] at e
    cases e
theorem lp_cat {p : PyData → Prop} {m l : Nat} (h : EvP K ta δ (LP p m)) (h2 : EvP K tb δ (LP p l)) (hk : Nat.ble (m + l) 10000 = true) : EvP K (tOp rCat ta tb) δ (LP p (m + l)) :=
  e_op h (fun _ _ => h2) fun a b ⟨ds, e1, m1, l1, s1⟩ ⟨es, e2, m2, l2, s2⟩ => by
    subst e1
    subst e2
    have := Nat.le_of_ble_eq_true hk
    exact r_catL (by omega) ⟨_, rfl, fun z => m1 (List.append_eq_nil_iff.mp z).1, by rw [List.length_append]; omega, fun d hd => (List.mem_append.mp hd).elim (s1 d) (s2 d)⟩
theorem lp_rep {p : PyData → Prop} {m c : Nat} (h : EvP K ta δ (LP p m)) (h2 : EvP K tb δ (· = .int (c : Int))) (hc : Nat.ble 1 c = true ∧ Nat.ble c 1000 = true) (hk : Nat.ble m 1000 = true) : EvP K (tOp rRep ta tb) δ (LP p (c * m)) :=
  e_op h (fun _ _ => h2) fun a b ⟨ds, e1, m1, l1, s1⟩ e2 => by
    subst e1
    subst e2
    have h3 := Nat.le_of_ble_eq_true hk
    have h4 := Nat.le_of_ble_eq_true hc.1
    have h5 := Nat.le_of_ble_eq_true hc.2
    refine r_repL (by omega) (by omega) (by omega) ⟨_, rfl, fun z => m1 (List.flatten_eq_nil_iff.mp z ds (List.mem_replicate.mpr ⟨by omega, rfl⟩)), ?_, fun d hd => ?_⟩
    · have e : ((c : Int).toNat) = c := Int.toNat_natCast c
      rw [e, List.length_flatten, List.map_replicate, List.sum_replicate_nat]
      exact Nat.mul_le_mul_left c l1
    · obtain ⟨l, hl, hd⟩ := List.mem_flatten.mp hd
      rw [(List.mem_replicate.mp hl).2] at hd
      exact s1 d hd
theorem e_tupD {ta : TA} {ds : List PyData} (h : EvA K ta δ (· = ds)) (hl : Nat.ble ds.length 10000 = true) : EvP K (tTup ta) δ (· = .tuple ds) := e_tup h fun es e => ⟨by rw [e]; exact Nat.le_of_ble_eq_true hl, by rw [e]⟩
theorem e_lstD {ta : TA} {ds : List PyData} (h : EvA K ta δ (· = ds)) (hl : Nat.ble ds.length 10000 = true) : EvP K (tLst ta) δ (· = .list ds) := e_lst h fun es e => ⟨by rw [e]; exact Nat.le_of_ble_eq_true hl, by rw [e]⟩
theorem e_dctD : EvP K tDNewK δ (· = .dict []) := e_dct rfl
end
end Xh
/-! keyword calls, defs that may raise -/
namespace Xh
open PySem PySem.Spec PyProof.Rows L2
def tCallN0 (m : Nat) (sp : Sp) (gV : List V → List V → List V) (E : L2.St → XK) (tk : TA) : TE := fun σ H Q => tk σ H fun zs H1 => zs.length = m ∧ sp (gV [] zs) H1 Q (E σ)
section
variable {X : Cx} {CX : CXT} {k : Nat} {f : Addr} {fd : FuncData} {ps ks : List Str} {sp : Sp} {E : L2.St → XK} {x : Str} {p pos : Pos} {kws : List Keyword} {tk : TA}
  {g : List Value → List Value → List Value} {gV : List V → List V → List V}
/-- f(k = v, ..), what is raised is wished for at the slots -/
theorem pe_callN0 (F : FnOk X.prog X.w X.K X.mg X.base CX k f fd ps sp) (hr : Room k X.A) (hg : Gl X x) (hm : X.mg x = some (.ref f)) (hk : PySem.W.keepIn X.K (.ref f) = true) (hb : KBn X.K fd ps 0 ks g gV)
    (hx : ∀ σ, PassesAt CX X σ (E σ)) (kw : PK X kws tk) (hall : (backToKw pos (keywordEach kws X.env)).all (·.1.isSome) = true := by rfl)
    (hks : (backToKw pos (keywordEach kws X.env)).filterMap (·.1) = ks := by rfl) (hdb : (x == ("__debug__" : Str)) = false := by decide)
    (hpl : ((backTo pos (starEach [] X.env)).any (·.1) || (backToKw pos (keywordEach kws X.env)).any (·.1.isNone)) = false := by rfl) :
    PE X (.Call (.Name x p) [] kws pos) (tCallN0 ks.length sp gV E tk) := by
  constructor
  intro pins s σ H Q I h
  refine wpAny_Call_Name_kw (ld_glob I hg hm ?_ hdb)
  refine PySem.W.callWith_KW0 (h₀ := X.base) I.ok.mod.kin hk hall ?_ hpl
  refine thn (kw.run pos pins s σ H _ I h) fun ws s2 ⟨zs, H2, I2, rz, l2, q⟩ => ⟨I2.kIn, ?_⟩
  rw [hks]
  have r2 := hb.rel (.nil : Vals [] []) rz
  refine wpAny_call (codeAny_mono (F.run X.A X.stack s2 H2 ⟨[], ks.zip ws⟩ (g [] ws) (gV [] zs) Q (E σ) hr I2.env0 (hb.to s2 [] ws I2.kIn rfl (rz.length.symm.trans l2)) r2 q) fun re s' hq => ?_)
  cases re with
  | error e => exact hx σ pins H2 s2 e s' I2 hq
  | ok fl =>
    cases fl with
    | ret u => exact I2.after hq
    | next => exact hq.elim
    | brk => exact hq.elim
    | cont => exact hq.elim
theorem passX0 {P : Program} {w : World} : Passes (L2.CX P w) X E0 := fun _ _ _ _ _ _ _ ⟨_, _, _, _, _, _, _, _, _, _, _, _, h⟩ => h.elim
theorem passX0S {P : Program} {w : World} (σ : L2.St) : PassesAt (L2.CX P w) X σ E0 := fun _ _ _ _ _ _ ⟨_, _, _, _, _, _, _, _, _, _, _, _, h⟩ => h.elim
end
/-- a def over data that may raise cls -/
def PX (K : PySem.W.Frag) (cls : Addr) (pre : List PyData → Prop) (post : List PyData → PyData → Prop) (err : List PyData → Prop) : Sp := fun vs H Q E => ∃ (C : Ct) (ds : List PyData),
  C.own = [] ∧ Good C H ∧ DqAll K (rmv H C.vol) vs ds ∧ pre ds ∧ (∀ v d H', Go C H H' → Dq K (rmv H' C.vol) v d → post ds d → Q v H') ∧ ∀ H', Go C H H' → err ds → E (.ref cls) none H'
theorem e_tr {K : PySem.W.Frag} {C : Ct} {σ : List (Option V)} {H H' : Hp} {δ : Env} {te : TE} {P : PyData → Prop} (h : EvP K te δ P) (g : Good C H) (k : Go C H H') (c : Cells K C σ H δ) {Q : VK}
    (q : ∀ v d H2, Go C H H2 → Dq K (rmv H2 C.vol) v d → P d → Q v H2) : te σ H' Q := h C σ H' (g.go k) (c.go g k) Q fun v d H2 k2 e p => q v d H2 (k.trans k2) e p
theorem Cells.forget {K : PySem.W.Frag} {C : Ct} {σ : List (Option V)} {H : Hp} {δ : Env} {i : Nat} {x : Option V} (c : Cells K C σ H δ) : Cells K C (σ.set i x) H (δ.set i .non) := by
  refine ⟨by rw [List.length_set, List.length_set]; exact c.len, fun j y e => ?_⟩
  by_cases n : i = j
  · subst n
    have hi : i < δ.length := by
      have := (List.getElem?_eq_some_iff.mp e).1
      rw [List.length_set] at this
      exact this
    rw [List.getElem?_set_self hi] at e
    cases e
    trivial
  · rw [List.getElem?_set_ne n] at e
    have q := c.ok j y e
    cases y with
    | non => trivial
    | pot =>
      obtain ⟨a, e0, e1⟩ := q
      exact ⟨a, e0, by rw [List.getElem?_set_ne n]; exact e1⟩
    | dat d =>
      obtain ⟨v, e1, dq⟩ := q
      exact ⟨v, by rw [List.getElem?_set_ne n]; exact e1, dq⟩
    | own ds =>
      obtain ⟨p, xs, m, e1, r⟩ := q
      exact ⟨p, xs, m, by rw [List.getElem?_set_ne n]; exact e1, r⟩
section
variable {K : PySem.W.Frag} {δ : Env} {N B U : Env → Prop} {R : PyData → Prop} {cls : Addr} {pre : List PyData → Prop} {post : List PyData → PyData → Prop} {err : List PyData → Prop} {tk : TA} {zs : List PyData} {m : Nat}
/-- try: x = f(k = v, ..) except C as e: x = a text -/
theorem n_try {i j : Nat} {z : Str} {gV : List V → List V → List V} {Wout : WX} (hg : ∀ l, gV [] l = l) (hm : zs.length = m) (hj : j < δ.length) (h : EvA K tk δ (· = zs)) (hp : pre zs) (ex : PySem.W.exmOne K (.ref cls) (.ref cls) = some true)
    (h1 : ∀ d, post zs d → N (δ.set j (.dat d))) (h2 : err zs → N (((δ.set i .non).set j (.dat (.str z))).set i .non)) :
    Run K (fun D σ H => tAsg (tCallN0 m (PX K cls pre post err) gV (WE (wAs K (.ref cls) i (fun _ _ _ => tAsg (tC (.str z)) (gName j)) Wout D)) tk) (gName j) D σ H) δ N R B U := fun C H0 L D σ H w gb a nx r b u =>
  h (C.wth w) σ H a.good a.cells _ fun vs ds H1 k1 e1 p1 => by
    subst p1
    have a1 := a.on k1
    refine ⟨by rw [dqAll_len e1]; exact hm, ?_⟩
    rw [hg]
    refine ⟨(C.wth w).inner, ds, rfl, a1.good.inner, by rw [inner_vol]; exact e1, hp, fun v d H2 k2 dq po => ?_, fun H2 k2 er => ?_⟩
    · rw [inner_vol] at dq
      have a2 := a1.on k2.outer
      exact nx _ _ H2 w ⟨a2.new, a2.good, a2.cells.set hj dq, a2.go, a2.low⟩ (h1 d po)
    · have a2 := a1.on k2.outer
      refine ⟨true, ex, fun _ q nq => ?_, fun z => nomatch z⟩
      have c3 := ((a2.cells.forget (i := i) (x := some (.ref q))).set (i := j) (v := .str z) (d := .str z) (by rw [List.length_set]; exact hj) (.str z)).forget (i := i) (x := none)
      exact nx _ _ H2 w ⟨a2.new, a2.good, c3, a2.go, a2.low⟩ (h2 er)
/-- a call that cannot raise here -/
theorem e_callX {gV : List V → List V → List V} {gD : List PyData → List PyData} {P : PyData → Prop} (hg : ∀ (H : Hp) vs ds, DqAll K H vs ds → ds = zs → DqAll K H (gV [] vs) (gD ds)) (hm : zs.length = m) (h : EvA K tk δ (· = zs)) (hp : pre (gD zs)) (he : ¬ err (gD zs)) (f : ∀ d, post (gD zs) d → P d) :
    EvP K (tCallN0 m (PX K cls pre post err) gV (fun _ => E0) tk) δ P := fun C σ H g c Q q =>
  h C σ H g c _ fun vs ds H1 k1 e1 p1 => by
    subst p1
    have g1 := g.go k1
    refine ⟨by rw [dqAll_len e1]; exact hm, C.inner, gD ds, rfl, g1.inner, by rw [inner_vol]; exact hg _ _ _ e1 rfl, hp, fun v d H2 k2 dq po => ?_, fun H2 k2 er => absurd er he⟩
    rw [inner_vol] at dq
    exact q v d H2 (k1.trans k2.outer) dq (f d po)
theorem e_callX0 {dvs : List V} {ds : List PyData} {P : PyData → Prop} (hg : ∀ H : Hp, DqAll K H dvs ds) (hp : pre ds) (he : ¬ err ds) (f : ∀ d, post ds d → P d) : EvP K (tCall (PX K cls pre post err) dvs E0 tNil) δ P := fun C σ H g c Q q => by
  refine ⟨C.inner, ds, rfl, g.inner, hg _, hp, fun v d H2 k2 dq po => ?_, fun H2 k2 er => absurd er he⟩
  rw [inner_vol] at dq
  exact q v d H2 k2.outer dq (f d po)
end
section
variable {P : Program} {w : World} {K : PySem.W.Frag} {mg : Str → Option Value} {base : Heap}
/-- a def over data that looks at what is shown -/
theorem ok_pureG {x ql : Str} {st : Stmt} {f : Addr} {fd : FuncData} {N0 ps : List Str} {k : Nat} {pre : List PyData → Prop} {post : List PyData → PyData → Prop} (F : Fun K x ql st f fd) (S : FnScope N0 ps (defScope st)) (hp : ps.length ≤ N0.length)
    (hlen : ∀ ds, pre ds → ds.length = ps.length)
    (hb : ∀ (cdv : Value) (A : Around) (ou : List PySem.Env) (s : Shared) (H : Hp) (E : XK), Room k (A.deeper (envOfC ql (defScope st) s.heap.objs.size f cdv)) → A.guards = some [] →
      ∃ t, PSs (cxOf CX0 P w K mg base N0 ql (defScope st) f cdv A ou s H E).nox (defBody st) t ∧ ∀ ds, pre ds → Run K t (cellsOf N0.length ds) (fun _ => post ds .none) (post ds) NoB NoB) :
    FnG P w K mg base CX0 (k + 1) f fd ps (PF K pre post) := by
  refine okG F S (fun vs H Q E h => ?_) (fun cdv A ou s H vs Q E hr gd h => ?_)
  · obtain ⟨C, ds, _, _, dq, pr, _⟩ := h
    rw [dqAll_len dq, hlen ds pr]
  · obtain ⟨C, ds, hC, g, dq, pr, q⟩ := h
    obtain ⟨t, h1, h2⟩ := hb cdv A ou s H E hr gd
    exact ⟨t, h1, run_pure (by rw [dqAll_len dq, hlen ds pr]; exact hp) (h2 ds pr) hC g dq q⟩
end
end Xh
/-! the making of a pot -/
namespace Xh
open PySem PySem.Spec PyProof.Rows L2
theorem seqL_same {K : PySem.W.Frag} {H H' : Hp} {a : Addr} {xs : List V} (e : Same H H') (h : SqL K H a xs) : SqL K H' a xs := by
  rcases h with (h | ⟨o, h⟩) | h
  · exact .inl (.inl (e _ _ h))
  · exact .inl (.inr ⟨o, e _ _ h⟩)
  · exact .inr h
theorem same_new {H : Hp} {a : Addr} {x : HO} (n : H a = none) : Same H (upd H a x) := fun b o e => by
  rw [upd_ne fun z => by rw [z, n] at e; cases e]
  exact e
theorem cut_first (ns : List Int) : cutV (ns.map V.int) none (some 17) = (ns.take 17).map V.int := by
  unfold cutV
  rw [HT.sIx_none, show HT.sIx (ns.map V.int).length (ns.map V.int).length (some 17) = min 17 (ns.map V.int).length from HT.sIx_nat _ _ 17, List.drop_zero, Nat.sub_zero, List.map_take]
  by_cases h : 17 ≤ (ns.map V.int).length
  · rw [Nat.min_eq_left h]
  · rw [Nat.min_eq_right (by omega), List.take_length, List.take_of_length_le (by omega)]
theorem cut_rest (ns : List Int) : ∃ qs : List Int, cutV (ns.map V.int) (some 17) (some 60) = qs.map V.int ∧ (qs ≠ [] → 17 < ns.length) := by
  refine ⟨(ns.drop (min 17 ns.length)).take (HT.sIx (ns.map V.int).length (ns.map V.int).length (some 60) - min 17 ns.length), ?_, fun h => ?_⟩
  · unfold cutV
    rw [show HT.sIx (ns.map V.int).length 0 (some 17) = min 17 (ns.map V.int).length from HT.sIx_nat _ _ 17, List.length_map, List.map_take, List.map_drop]
  · by_cases l : 17 < ns.length
    · exact l
    · exfalso
      apply h
      rw [Nat.min_eq_right (by omega), List.drop_length, List.take_nil]
theorem ints_get {ns : List Int} {i : Nat} (h : i < ns.length) : (ns.map V.int)[i]? = some (.int ns[i]) := by
  rw [List.getElem?_map, List.getElem?_eq_getElem h]
  rfl
/-- what the making of a pot promises -/
def FPotOf (K : PySem.W.Frag) : Sp := fun vs H Q _ => ∃ (a : Addr) (ns : List Int), vs = [.ref a] ∧ SqL K H a (ns.map V.int) ∧ ns.length ≤ 63 ∧ ∀ p c H', Same H H' → PotOk c H' p → Q (.ref p) H'
/-- what a law promises: true, whatever the script -/
def spLaw (K : PySem.W.Frag) : Sp := fun vs H Q _ => ∃ (a : Addr) (ns : List Int), vs = [.ref a] ∧ SysH H ∧ SqL K H a (ns.map V.int) ∧ ns.length ≤ 63 ∧ ∀ H', Q (.bl true) H'
def cellsLaw (n i : Nat) : Env := (List.replicate n Cell.non).set i .pot
theorem run_law {K : PySem.W.Frag} {N0 : List Str} {t : TS} {i : Nat} {a : Addr} {ns : List Int} {H : Hp} {Q : VK} (h1 : 1 ≤ N0.length) (hi : i < N0.length)
    (hb : Run K t (cellsLaw N0.length i) (fun _ => False) (· = .bool true) NoB NoB) (hY : SysH H) (hS : SqL K H a (ns.map V.int)) (hl : ns.length ≤ 63) (q : ∀ H', Q (.bl true) H') :
    tSeq (tAsg (tCall (FPotOf K) [] E0 (tCons (tVar 0) tNil)) (gName i)) t { nx := fun _ H' => Q .non H', rt := Q } (L2.start N0 [.ref a]) H := by
  have ls : (L2.start N0 [V.ref a]).length = N0.length := by
    unfold L2.start
    rw [List.length_append, List.length_map, List.length_replicate]
    simp only [List.length_cons, List.length_nil]
    omega
  unfold tSeq tAsg gName
  dsimp only
  refine ⟨.ref a, rfl, a, ns, rfl, hS, hl, fun p c H' sm po => ?_⟩
  have tr : ∀ b ∈ Ct.vol ⟨some p, c, [], []⟩, H' b ≠ none := fun b hb => by
    rcases (base_mem (C := ⟨some p, c, [], []⟩) rfl).mp hb with e | e
    · cases e
      exact potOk_some po
    · cases e
  have g : Good ⟨some p, c, [], []⟩ H' := ⟨hY.same sm, tr, fun b e => by cases e; exact po, fun _ _ _ z => absurd z List.not_mem_nil, fun _ _ z => absurd z List.not_mem_nil⟩
  have cc : Cells K ⟨some p, c, [], []⟩ ((L2.start N0 [V.ref a]).set i (some (.ref p))) H' (cellsLaw N0.length i) := by
    refine ⟨by unfold cellsLaw; rw [List.length_set, ls, List.length_set, List.length_replicate], fun j x e => ?_⟩
    unfold cellsLaw at e
    by_cases n : i = j
    · subst n
      rw [List.getElem?_set_self (by rw [List.length_replicate]; exact hi)] at e
      cases e
      exact ⟨p, rfl, by rw [List.getElem?_set_self (by rw [ls]; exact hi)]⟩
    · rw [List.getElem?_set_ne n, List.getElem?_replicate] at e
      split at e
      · cases e
        trivial
      · cases e
  refine hb ⟨some p, c, [], []⟩ H' (rmv H' (Ct.vol ⟨some p, c, [], []⟩)) _ _ H' [] ⟨rfl, g⟩ ⟨fun q hq => absurd hq List.not_mem_nil, g, cc, .refl g, Same.refl _⟩ (fun _ _ _ _ _ z => z.elim) (fun v d H2 _ dq e => ?_) (fun _ _ _ _ _ z => z.elim) (fun _ _ _ _ _ z => z.elim)
  subst e
  cases dq
  exact q H2
section
variable {P : Program} {w : World} {K : PySem.W.Frag} {mg : Str → Option Value} {base : Heap}
theorem okG_law {x ql : Str} {st : Stmt} {f : Addr} {fd : FuncData} {N0 : List Str} {x0 : Str} {k i : Nat} (F : Fun K x ql st f fd) (S : FnScope N0 [x0] (defScope st)) (h1 : 1 ≤ N0.length) (hi : i < N0.length)
    (hb : ∀ (cdv : Value) (A : Around) (ou : List PySem.Env) (s : Shared) (H : Hp) (E : XK), Room k (A.deeper (envOfC ql (defScope st) s.heap.objs.size f cdv)) → A.guards = some [] →
      ∃ t, PSs (cxOf CX0 P w K mg base N0 ql (defScope st) f cdv A ou s H E).nox (defBody st) (tSeq (tAsg (tCall (FPotOf K) [] E0 (tCons (tVar 0) tNil)) (gName i)) t) ∧ Run K t (cellsLaw N0.length i) (fun _ => False) (· = .bool true) NoB NoB) :
    FnG P w K mg base CX0 (k + 1) f fd [x0] (spLaw K) := by
  refine okG F S (fun vs H Q E h => ?_) (fun cdv A ou s H vs Q E hr gd h => ?_)
  · obtain ⟨a, ns, rfl, _⟩ := h
    rfl
  · obtain ⟨a, ns, rfl, hY, hS, hl, q⟩ := h
    obtain ⟨t, h1', h2⟩ := hb cdv A ou s H E hr gd
    exact ⟨_, h1', run_law h1 hi h2 hY hS hl q⟩
end
end Xh
namespace K3
open PySem PySem.Spec PyProof.Rows L2 Xh
def topS (i : Nat) : Stmt := PySem.Challenge.pw_skidblame_k03_watchers_recognized.main.body.getD i (.Pass ⟨0, 0, 0, 0⟩)
abbrev s_is_integer : Stmt := topS 4
theorem sc_is_integer : FnScope ["thing"] ["thing"] (defScope s_is_integer) := ⟨rfl, rfl, rfl, by decide +kernel, rfl, by decide +kernel, by decide +kernel⟩
abbrev s_is_number : Stmt := topS 5
theorem sc_is_number : FnScope ["thing", "least", "most"] ["thing", "least", "most"] (defScope s_is_number) := ⟨rfl, rfl, rfl, by decide +kernel, rfl, by decide +kernel, by decide +kernel⟩
abbrev s_is_ascending : Stmt := topS 6
theorem sc_is_ascending : FnScope ["thing", "most", "number", "after"] ["thing", "most"] (defScope s_is_ascending) := ⟨rfl, rfl, rfl, by decide +kernel, rfl, by decide +kernel, by decide +kernel⟩
abbrev s_is_watcher : Stmt := topS 10
theorem sc_is_watcher : FnScope ["thing", "gap", "wide", "low", "high", "marks"] ["thing"] (defScope s_is_watcher) := ⟨rfl, rfl, rfl, by decide +kernel, rfl, by decide +kernel, by decide +kernel⟩
abbrev s_made : Stmt := topS 11
theorem sc_made : FnScope ["gap", "wide", "low", "high", "marks", "watcher"] ["gap", "wide", "low", "high", "marks"] (defScope s_made) := ⟨rfl, rfl, rfl, by decide +kernel, rfl, by decide +kernel, by decide +kernel⟩
abbrev s_law_kneaded : Stmt := topS 13
theorem sc_law_kneaded : FnScope ["seed", "lap", "prime", "amount", "again"] ["seed", "lap"] (defScope s_law_kneaded) := ⟨rfl, rfl, rfl, by decide +kernel, rfl, by decide +kernel, by decide +kernel⟩
abbrev s_law_pot_of : Stmt := topS 14
theorem sc_law_pot_of : FnScope ["script", "cells", "cell", "place"] ["script"] (defScope s_law_pot_of) := ⟨rfl, rfl, rfl, by decide +kernel, rfl, by decide +kernel, by decide +kernel⟩
abbrev s_law_below : Stmt := topS 15
theorem sc_law_below : FnScope ["pot", "bound", "cells", "place", "amount", "found"] ["pot", "bound"] (defScope s_law_below) := ⟨rfl, rfl, rfl, by decide +kernel, rfl, by decide +kernel, by decide +kernel⟩
abbrev s_law_pick : Stmt := topS 16
theorem sc_law_pick : FnScope ["pot", "items"] ["pot", "items"] (defScope s_law_pick) := ⟨rfl, rfl, rfl, by decide +kernel, rfl, by decide +kernel, by decide +kernel⟩
abbrev s_law_is_number : Stmt := topS 17
theorem sc_law_is_number : FnScope ["thing", "start", "most"] ["thing", "start", "most"] (defScope s_law_is_number) := ⟨rfl, rfl, rfl, by decide +kernel, rfl, by decide +kernel, by decide +kernel⟩
abbrev s_law_is_right : Stmt := topS 18
theorem sc_law_is_right : FnScope ["thing", "start", "top", "first", "last_one", "those", "last", "mark"] ["thing"] (defScope s_law_is_right) := ⟨rfl, rfl, rfl, by decide +kernel, rfl, by decide +kernel, by decide +kernel⟩
abbrev s_law_some_watcher : Stmt := topS 19
theorem sc_law_some_watcher : FnScope ["pot", "start", "first", "top", "last_one", "one"] ["pot"] (defScope s_law_some_watcher) := ⟨rfl, rfl, rfl, by decide +kernel, rfl, by decide +kernel, by decide +kernel⟩
abbrev s_law_muddled : Stmt := topS 20
theorem sc_law_muddled : FnScope ["pot", "row", "odd", "at", "more"] ["pot", "row", "odd"] (defScope s_law_muddled) := ⟨rfl, rfl, rfl, by decide +kernel, rfl, by decide +kernel, by decide +kernel⟩
abbrev s_law_spoilt : Stmt := topS 21
theorem sc_law_spoilt : FnScope ["pot", "watcher", "at", "those", "odd", "last", "more", "mixed", "changed"] ["pot", "watcher"] (defScope s_law_spoilt) := ⟨rfl, rfl, rfl, by decide +kernel, rfl, by decide +kernel, by decide +kernel⟩
abbrev s_law_word : Stmt := topS 22
theorem sc_law_word : FnScope ["watcher", "found", "before", "error"] ["watcher"] (defScope s_law_word) := ⟨rfl, rfl, rfl, by decide +kernel, rfl, by decide +kernel, by decide +kernel⟩
abbrev s_law : Stmt := topS 23
theorem sc_law : FnScope ["script", "pot", "turn", "watcher", "first", "second", "thing", "before", "due"] ["script"] (defScope s_law) := ⟨rfl, rfl, rfl, by decide +kernel, rfl, by decide +kernel, by decide +kernel⟩
structure Txt (mg : Str → Option Value) : Prop where
  z_abs : mg "abs" = none
  z_all : mg "all" = none
  z_bool : mg "bool" = none
  z_enumerate : mg "enumerate" = none
  z_int : mg "int" = none
  z_isinstance : mg "isinstance" = none
  z_len : mg "len" = none
  z_list : mg "list" = none
  z_range : mg "range" = none
  z_repr : mg "repr" = none
  z_tuple : mg "tuple" = none
  z_zip : mg "zip" = none
  m_MOST_PLACES : ∃ t, mg "MOST_PLACES" = some (.int 8 t)
  m_MOST_STEPS : ∃ t, mg "MOST_STEPS" = some (.int 30 t)
section
variable {P : Program} {w : World} {K : PySem.W.Frag} {mg : Str → Option Value} {base : Heap}
/-! small steps by themselves -/
local macro_rules | `(tactic| walk_at "ev") => `(tactic| first
  | exact e_var rfl | exact e_int | exact e_bl | exact e_non | exact e_str
  | (apply e_op1 <;> (first | walk_at "ev" | exact r_add | exact r_sub | exact r_mul (mulc (by decide)) | exact r_mul (mulc' (by decide)) | exact r_mod (by decide) | exact r_lt | exact r_le | exact r_gt | exact r_ge))
  | (refine' e_call1 (a_one ?_ a_nil) (c_int rfl) <;> walk_at "ev"))
theorem d_is_integer {f : Addr} {fd : FuncData} (F : Fun K "is_integer" "is_integer" s_is_integer f fd) (T : Txt mg) :
    FnOk P w K mg base CX0 1 f fd ["thing"] (F1 K (fun _ => True) fun x d => d = .bool (isInt x && !isBool x)) := by
  have sc := sc_is_integer
  refine ok_pure F sc (by decide) (fun ds ⟨x, e, _⟩ => by rw [e]; rfl) fun cdv A outer s H E hr => ⟨_, (pss_one (ps_ret (pe_and (pe_callB (call_isD "int") (by rfl) T.z_isinstance bb_isinstance (pa_cons (pv 0) (pa_cons (pe_bltn (v := .ty "int") (by rfl) T.z_int bb_int rfl) pa_nil))) (pe_one (pe_not (pe_callB (call_isD "bool") (by rfl) T.z_isinstance bb_isinstance (pa_cons (pv 0) (pa_cons (pe_bltn (v := .ty "bool") (by rfl) T.z_bool bb_bool rfl) pa_nil)))))))), fun ds hp => ?_⟩
  obtain ⟨x, rfl, _⟩ := hp
  refine n_ret1 (e_and1 (e_isD1 (e_var rfl) (kInt x)) fun _ => e_not1 (e_isD1 (e_var rfl) (kBool x))) fun y e => ?_
  cases e
  rfl
theorem intNotBool (x : PyData) : (isInt x && !isBool x) = (match x with | .int _ => true | _ => false) := by cases x <;> rfl
theorem d_is_number {f : Addr} {fd : FuncData} (F : Fun K "is_number" "is_number" s_is_number f fd) (T : Txt mg)
    (h_is_integer : Fn P w K mg base 1 "is_integer" ["thing"] (F1 K (fun _ => True) fun x d => d = .bool (isInt x && !isBool x))) :
    FnOk P w K mg base CX0 2 f fd ["thing", "least", "most"] (F3 K (fun _ y z => (∃ a, y = .int a) ∧ ∃ b, z = .int b) fun x y z d => ∀ a b, y = .int a → z = .int b → d = .bool (isNum x a b)) := by
  have sc := sc_is_number
  refine ok_pure F sc (by decide) (fun ds ⟨x, y, z, e, _⟩ => by rw [e]; rfl) fun cdv A outer s H E hr => ⟨_, (pss_one (ps_ret (pe_and (pe_fn h_is_integer (hr.mono (by decide)) (by rfl) (pa_cons (pv 0) pa_nil)) (pe_one (pe_chain op_le op_le (pv 1) (pv 0) (pv 2)))))), fun ds hp => ?_⟩
  obtain ⟨x, _, _, rfl, ⟨a, rfl⟩, b, rfl⟩ := hp
  have fin : ∀ d, d = PyData.bool (isNum x a b) → ∀ x' y' z', [x, PyData.int a, PyData.int b] = [x', y', z'] → ∀ a' b', y' = .int a' → z' = .int b' → d = .bool (isNum x' a' b') := by
    rintro d rfl x' y' z' e a' b' rfl rfl
    cases e
    rfl
  have c := c1 (K := K) (E := E0) (p := fun _ => True) (q := fun x d => d = .bool (isInt x && !isBool x)) (e_var (K := K) (i := 0) (d := x) (δ := [.dat x, .dat (.int a), .dat (.int b)]) rfl) trivial
  rw [intNotBool] at c
  cases x with
  | int i => exact n_ret1 (e_and1 c fun _ => e_chain (e_var rfl) (e_var rfl) r_le (fun _ => e_var rfl) (fun h => by
      rw [h, Bool.true_and]
      exact r_le) fun h => by rw [h]; rfl) (fin _ rfl)
  | _ => exact n_ret1 (e_and1 (b := false) c fun h => by cases h) (fin _ rfl)
def ltP (p : PyData) : Bool := match p with
  | .tuple [.int a, .int b] => decide (a < b)
  | _ => false
def ascD (ds : List PyData) : Bool := (List.zipWith pairD ds (ds.drop 1)).all ltP
def isAsc (x : PyData) (m : Int) : Bool := match x with
  | .tuple ds => ds.all (fun d => isNum d 0 m) && ascD ds
  | _ => false
theorem isNum_int {d : PyData} {a b : Int} (h : isNum d a b = true) : ∃ i, d = .int i := by
  cases d with
  | int i => exact ⟨i, rfl⟩
  | _ => cases h
abbrev FNum (K : PySem.W.Frag) : Sp := F3 K (fun _ y z => (∃ a, y = .int a) ∧ ∃ b, z = .int b) fun x y z d => ∀ a b, y = .int a → z = .int b → d = .bool (isNum x a b)
theorem e_num {δ : Xh.Env} {ta tb tc : TE} {x : PyData} {a b : Int} {E : XK} (h1 : EvP K ta δ (· = x)) (h2 : EvP K tb δ (· = .int a)) (h3 : EvP K tc δ (· = .int b)) :
    EvP K (tCall (FNum K) [] E (tCons ta (tCons tb (tCons tc tNil)))) δ (· = .bool (isNum x a b)) := (c3 h1 h2 h3 ⟨⟨a, rfl⟩, b, rfl⟩).imp fun d h => h a b rfl rfl
theorem d_is_ascending {f : Addr} {fd : FuncData} (F : Fun K "is_ascending" "is_ascending" s_is_ascending f fd) (T : Txt mg)
    (h_is_number : Fn P w K mg base 2 "is_number" ["thing", "least", "most"] (FNum K)) :
    FnOk P w K mg base CX0 3 f fd ["thing", "most"] (F2 K (fun x y => (∃ m, y = .int m) ∧ ∀ ds, x = .tuple ds → ds.length ≤ 10000) fun x y d => ∀ m, y = .int m → d = .bool (isAsc x m)) := by
  have sc := sc_is_ascending
  refine ok_pure F sc (by decide) (fun ds ⟨x, y, e, _⟩ => by rw [e]; rfl) fun cdv A outer s H E hr => ⟨_, (pss_cons (ps_if (pt_not (pt_val (pe_callB (call_isD "tuple") (by rfl) T.z_isinstance bb_isinstance (pa_cons (pv 0) (pa_cons (pe_bltn (v := .ty "tuple") (by rfl) T.z_tuple bb_tuple rfl) pa_nil))))) (pss_one (ps_ret pe_bl)) pss_nil)
      (pss_cons (ps_if (pt_not (pt_val (pe_callB (cr_all rfl) (by rfl) T.z_all bb_all (pa_cons (pe_lc (own := [("number", 2)]) (g := (gName 2)) (tt := tYes) rfl sc.nd (pi_tup (pv 0)) (blkOk_by (N := ["thing", "most", "number", "after"]) (sc := defScope s_is_ascending) (own := [("number", 2)]) (by decide +kernel)) (fun _ _ _ _ _ => (pg_name (i := 2) sc.nd rfl (Or.inl rfl))) (fun _ _ _ _ _ => pts_nil) (fun _ _ _ _ _ => (pe_fn h_is_number (hr.mono (by decide)) (by rfl) (pa_cons (pv 2) (pa_cons pe_int (pa_cons (pv 1) pa_nil)))))) pa_nil)))) (pss_one (ps_ret pe_bl)) pss_nil)
      (pss_one (ps_ret (pe_callB (cr_all rfl) (by rfl) T.z_all bb_all (pa_cons (pe_lc (own := [("number", 2), ("after", 3)]) (g := (gTup _ 2 (gCons (gName 2) (gCons (gName 3) gNil)))) (tt := tYes) rfl sc.nd (RZ.pi_zipA (by rfl) T.z_zip (pa_cons (pv 0) (pa_cons (pe_slice sl_tupA (pv 0) (po_some pe_int) po_none) pa_nil))) (blkOk_by (N := ["thing", "most", "number", "after"]) (sc := defScope s_is_ascending) (own := [("number", 2), ("after", 3)]) (by decide +kernel)) (fun _ _ _ _ _ => (pg_tup rfl (pgs_cons (pg_name (i := 2) sc.nd rfl (Or.inl rfl)) (pgs_cons (pg_name (i := 3) sc.nd rfl (Or.inl rfl)) pgs_nil)))) (fun _ _ _ _ _ => pts_nil) (fun _ _ _ _ _ => (pe_cmpR op_lt (pv 2) (pv 3) (nomark _)))) pa_nil)))))), fun ds hp => ?_⟩
  obtain ⟨x, _, rfl, ⟨m, rfl⟩, hl⟩ := hp
  have fin : ∀ d, d = PyData.bool (isAsc x m) → ∀ x' y', [x, PyData.int m] = [x', y'] → ∀ m', y' = .int m' → d = .bool (isAsc x' m') := by
    rintro d rfl x' y' e m' rfl
    cases e
    rfl
  cases x with
  | tuple ds =>
    have hl := hl ds rfl
    refine s_if (b_not1 (b_B1 (e_isD1 (e_var rfl) (kTup (.tuple ds))))) (fun h => by cases h) fun _ => ?_
    refine s_if (b_not1 (b_B1 (e_call1 (a_one (e_lcM (fun d => .bool (isNum d 0 m)) (i_tup1 (e_var rfl)) hl fun d _ => ⟨[2], _, fun _ h => h, g_name (lt_ble rfl), e_num (e_var rfl) e_int (e_var rfl)⟩) a_nil) (c_all (allB_map _ ds) rfl))))
      (fun h => n_ret1 e_bl (fin _ ?_)) fun h => ?_
    · show PyData.bool false = .bool (ds.all _ && ascD ds)
      cases q : ds.all (fun d => isNum d 0 m) with
      | false => rfl
      | true =>
        rw [q] at h
        cases h
    · have q : ds.all (fun d => isNum d 0 m) = true := by
        cases q : ds.all (fun d => isNum d 0 m) with
        | true => rfl
        | false =>
          rw [q] at h
          cases h
      have hi : ∀ d ∈ ds, ∃ i, d = .int i := fun d hd => isNum_int (List.all_eq_true.mp q d hd)
      refine n_ret1 (e_call1 (a_one (e_lcM (fun p => .bool (ltP p)) (i_zipT1 (a_one (e_var rfl) (a_one (e_slT1 (e_var rfl) (o_is e_int) o_none) a_nil))) ?_ fun p hp => ?_) a_nil) (c_all (allB_map _ _) rfl)) (fin _ ?_)
      · rw [List.length_zipWith]
        omega
      · obtain ⟨i, hi2⟩ := List.getElem?_of_mem hp
        obtain ⟨a, b, ea, eb, rfl⟩ := Xh.zip_get hi2
        obtain ⟨x, rfl⟩ := hi a (List.mem_of_getElem? ea)
        obtain ⟨y, rfl⟩ := hi b (cutD_mem (List.mem_of_getElem? eb))
        exact ⟨[2, 3], _, fun _ h => h, g_pair (lt_ble rfl) (lt_ble rfl), e_op1 (e_var rfl) (e_var rfl) r_lt⟩
      · show PyData.bool _ = .bool (ds.all _ && ascD ds)
        rw [q, cutD_1]
        rfl
  | _ => exact s_if (b_not1 (b_B1 (e_isD1 (e_var rfl) (kTup _)))) (fun h => n_ret1 e_bl (fin _ rfl)) fun h => by cases h
abbrev FAsc (K : PySem.W.Frag) : Sp := F2 K (fun x y => (∃ m, y = .int m) ∧ ∀ ds, x = .tuple ds → ds.length ≤ 10000) fun x y d => ∀ m, y = .int m → d = .bool (isAsc x m)
def wideOk (wide : PyData) (b : Bool) : Bool := isNone wide || b
/-- what the program takes for a watcher -/
def isWatcher (x : PyData) : Bool := match x with
  | .tuple [gap, wide, low, high, marks] => isNum gap 1 30 && isNum low 0 30 && wideOk wide (match gap with | .int g => isNum wide g 30 | _ => false) &&
      (match low with | .int l => isNum high l 30 | _ => false) && isAsc marks 7
  | _ => false
def markLim (x : PyData) : Prop := ∀ a b c d ms, x = .tuple [a, b, c, d, .tuple ms] → ms.length ≤ 10000
theorem g5 {K : PySem.W.Frag} {δ : Xh.Env} {i j k l m : Nat} {a b c d e : PyData} (hi : i < δ.length) (hj : j < δ.length) (hk : k < δ.length) (hl : l < δ.length) (hm : m < δ.length) :
    EvG K (gTup K 5 (gCons (gName i) (gCons (gName j) (gCons (gName k) (gCons (gName l) (gCons (gName m) gNil)))))) [i, j, k, l, m] δ (.tuple [a, b, c, d, e]) (((((δ.set i (.dat a)).set j (.dat b)).set k (.dat c)).set l (.dat d)).set m (.dat e)) :=
  g_tup rfl (gs_cons hi (gs_cons (by simpa using hj) (gs_cons (by simpa using hk) (gs_cons (by simpa using hl) (gs_cons (by simpa using hm) gs_nil)))))
theorem five {ds : List PyData} (h : ds.length = 5) : ∃ a b c d e, ds = [a, b, c, d, e] := by
  match ds, h with
  | [a, b, c, d, e], _ => exact ⟨a, b, c, d, e, rfl⟩
theorem lenNe {ds : List PyData} {n : Int} : (!decide (V.int (ds.length : Int) = V.int n)) = !decide ((ds.length : Int) = n) := by
  by_cases h : (ds.length : Int) = n
  · rw [h, decide_eq_true rfl, decide_eq_true rfl]
  · rw [decide_eq_false h, decide_eq_false (fun e => h (V.int.inj e))]
theorem e_ne5 {δ : Xh.Env} {te : TE} {ds : List PyData} {n : Int} (h : EvP K te δ (· = .tuple ds)) : EvB K (tTest (tOp rNe (tCB (rLenD K) (tCons te tNil)) (tC (.int n)))) δ (· = !decide ((ds.length : Int) = n)) :=
  b_test1 (e_op1 (e_lenT1 h) e_int (r_ne rfl rfl rfl (by rw [lenNe])))
theorem d_is_watcher {f : Addr} {fd : FuncData} (F : Fun K "is_watcher" "is_watcher" s_is_watcher f fd) (T : Txt mg)
    (h_is_number : Fn P w K mg base 2 "is_number" ["thing", "least", "most"] (FNum K)) (h_is_ascending : Fn P w K mg base 3 "is_ascending" ["thing", "most"] (FAsc K)) :
    FnOk P w K mg base CX0 4 f fd ["thing"] (F1 K markLim fun x d => d = .bool (isWatcher x)) := by
  have sc := sc_is_watcher
  refine ok_pure F sc (by decide) (fun ds ⟨x, e, _⟩ => by rw [e]; rfl) fun cdv A outer s H E hr => ⟨_, (pss_cons (ps_if (pw_or (pt_not (pt_val (pe_callB (call_isD "tuple") (by rfl) T.z_isinstance bb_isinstance (pa_cons (pv 0) (pa_cons (pe_bltn (v := .ty "tuple") (by rfl) T.z_tuple bb_tuple rfl) pa_nil))))) (pw_or1 (pt_cmpR op_ne (pe_callB call_len_seq (by rfl) T.z_len bb_len (pa_cons (pv 0) pa_nil)) pe_int (nomark _)))).pt (pss_one (ps_ret pe_bl)) pss_nil)
      (pss_cons (ps_asg (pv 0) (pg_tup rfl (pgs_cons (pg_name (i := 1) sc.nd rfl (by first | exact Or.inl rfl | exact Or.inr rfl)) (pgs_cons (pg_name (i := 2) sc.nd rfl (by first | exact Or.inl rfl | exact Or.inr rfl)) (pgs_cons (pg_name (i := 3) sc.nd rfl (by first | exact Or.inl rfl | exact Or.inr rfl)) (pgs_cons (pg_name (i := 4) sc.nd rfl (by first | exact Or.inl rfl | exact Or.inr rfl)) (pgs_cons (pg_name (i := 5) sc.nd rfl (by first | exact Or.inl rfl | exact Or.inr rfl)) pgs_nil)))))))
      (pss_cons (ps_if (pw_or (pt_not (pt_val (pe_fn h_is_number (hr.mono (by decide)) (by rfl) (pa_cons (pv 1) (pa_cons pe_int (pa_cons (pe_glob (v := .int 30) (by rfl) T.m_MOST_STEPS.choose_spec ⟨_, rfl⟩) pa_nil)))))) (pw_or1 (pt_not (pt_val (pe_fn h_is_number (hr.mono (by decide)) (by rfl) (pa_cons (pv 3) (pa_cons pe_int (pa_cons (pe_glob (v := .int 30) (by rfl) T.m_MOST_STEPS.choose_spec ⟨_, rfl⟩) pa_nil)))))))).pt (pss_one (ps_ret pe_bl)) pss_nil)
      (pss_cons (ps_if (pw_and (pt_cmpR op_notN1 (pv 2) pe_non (nomark _)) (pw_and1 (pt_not (pt_val (pe_fn h_is_number (hr.mono (by decide)) (by rfl) (pa_cons (pv 2) (pa_cons (pv 1) (pa_cons (pe_glob (v := .int 30) (by rfl) T.m_MOST_STEPS.choose_spec ⟨_, rfl⟩) pa_nil)))))))).pt (pss_one (ps_ret pe_bl)) pss_nil)
      (pss_one (ps_ret (pe_and (pe_fn h_is_number (hr.mono (by decide)) (by rfl) (pa_cons (pv 4) (pa_cons (pv 3) (pa_cons (pe_glob (v := .int 30) (by rfl) T.m_MOST_STEPS.choose_spec ⟨_, rfl⟩) pa_nil)))) (pe_one (pe_fn h_is_ascending (hr.mono (by decide)) (by rfl) (pa_cons (pv 5) (pa_cons (pe_op op_sub (pe_glob (v := .int 8) (by rfl) T.m_MOST_PLACES.choose_spec ⟨_, rfl⟩) pe_int) pa_nil))))))))))), fun ds hp => ?_⟩
  obtain ⟨x, rfl, hl⟩ := hp
  have fin : ∀ d, d = PyData.bool (isWatcher x) → ∀ x', [x] = [x'] → d = .bool (isWatcher x') := by
    rintro d rfl x' e
    cases e
    rfl
  cases x with
  | tuple ds =>
    by_cases h5 : ds.length = 5
    · obtain ⟨gap, wide, low, high, marks, rfl⟩ := five h5
      refine s_if (b_or1 (b_not1 (b_B1 (e_isD1 (e_var rfl) (kTup _)))) fun _ => e_ne5 (e_var rfl)) (fun h => by cases h) fun _ => ?_
      refine s_asgG (δ1 := fun _ => [.dat (.tuple [gap, wide, low, high, marks]), .dat gap, .dat wide, .dat low, .dat high, .dat marks]) (e_var rfl) (fun d e => by rw [e]; exact g5 (lt_ble rfl) (lt_ble rfl) (lt_ble rfl) (lt_ble rfl) (lt_ble rfl)) fun _ _ => ?_
      refine s_if (b_or1 (b_not1 (b_B1 (e_num (e_var rfl) e_int e_int))) fun _ => b_not1 (b_B1 (e_num (e_var rfl) e_int e_int))) (fun h => n_ret1 e_bl (fin _ ?_)) fun h => ?_
      · show PyData.bool false = .bool (isNum gap 1 30 && isNum low 0 30 && _ && _ && _)
        cases q : isNum gap 1 30 with
        | false => rfl
        | true =>
          cases q2 : isNum low 0 30 with
          | false => rfl
          | true =>
            rw [q, q2] at h
            cases h
      · have q1 : isNum gap 1 30 = true := by
          cases q : isNum gap 1 30 with
          | true => rfl
          | false =>
            rw [q] at h
            cases h
        have q2 : isNum low 0 30 = true := by
          cases q : isNum low 0 30 with
          | true => rfl
          | false =>
            rw [q, q1] at h
            cases h
        obtain ⟨g, rfl⟩ := isNum_int q1
        obtain ⟨l, rfl⟩ := isNum_int q2
        have last : ∀ {N B U : Xh.Env → Prop}, wideOk wide (isNum wide g 30) = true →
            Run K (tRet (tAndV (tCall (FNum K) [] E0 (tCons (tVar 4) (tCons (tVar 3) (tCons (tC (.int 30)) tNil)))) (tCall (FAsc K) [] E0 (tCons (tVar 5) (tCons (tOp (rI0 fun i j => .int (i - j)) (tC (.int 8)) (tC (.int 1))) tNil)))))
              [.dat (.tuple [.int g, wide, .int l, high, marks]), .dat (.int g), .dat wide, .dat (.int l), .dat high, .dat marks] N (fun d => ∀ x', [PyData.tuple [.int g, wide, .int l, high, marks]] = [x'] → d = .bool (isWatcher x')) B U := by
          intro N B U hw
          refine n_ret1 (e_and1 (e_num (e_var rfl) (e_var rfl) e_int) fun _ => (c2 (e_var rfl) (e_op1 e_int e_int r_sub) ⟨⟨_, rfl⟩, fun ms e => hl _ _ _ _ ms (by rw [e])⟩).imp fun d h => h _ rfl) (fin _ ?_)
          show PyData.bool _ = .bool (isNum (.int g) 1 30 && isNum (.int l) 0 30 && wideOk wide (isNum wide g 30) && isNum high l 30 && isAsc marks 7)
          rw [q1, q2, hw]
          rfl
        refine s_if (b_and1 (b_test1 (e_op1 (e_var rfl) e_non r_notN1)) fun _ => b_not1 (b_B1 (e_num (e_var rfl) (e_var rfl) e_int))) (fun h => n_ret1 e_bl (fin _ ?_)) fun h => last ?_
        · show PyData.bool false = .bool (isNum (.int g) 1 30 && isNum (.int l) 0 30 && (isNone wide || isNum wide g 30) && _ && _)
          rw [q1, q2]
          cases z1 : isNone wide <;> cases z2 : isNum wide g 30 <;> rw [z1, z2] at h <;> first | rfl | cases h
        · show (isNone wide || isNum wide g 30) = true
          cases z1 : isNone wide <;> cases z2 : isNum wide g 30 <;> rw [z1, z2] at h <;> first | rfl | cases h
    · have no : isWatcher (.tuple ds) = false := by
        match ds, h5 with
        | [], _ => rfl
        | [_], _ => rfl
        | [_, _], _ => rfl
        | [_, _, _], _ => rfl
        | [_, _, _, _], _ => rfl
        | [_, _, _, _, _], h => exact absurd rfl h
        | _ :: _ :: _ :: _ :: _ :: _ :: _, _ => rfl
      refine s_if (b_or1 (b_not1 (b_B1 (e_isD1 (e_var rfl) (kTup _)))) fun _ => e_ne5 (e_var rfl)) (fun h => n_ret1 e_bl (fin _ (by rw [no]))) fun h => ?_
      exfalso
      have h : false = !decide ((ds.length : Int) = 5) := h
      rw [decide_eq_false (fun e => h5 (by omega))] at h
      cases h
  | _ => exact s_if (b_or1 (b := true) (b_not1 (b_B1 (e_isD1 (e_var rfl) (kTup _)))) fun h => by cases h) (fun h => n_ret1 e_bl (fin _ rfl)) fun h => by cases h
end

end K3
namespace K3
open PySem PySem.Spec PyProof.Rows L2 Xh
section
variable {P : Program} {w : World} {K : PySem.W.Frag} {mg : Str → Option Value} {base : Heap}
local macro_rules | `(tactic| walk_at "ev") => `(tactic| first
  | exact e_var rfl | exact e_int | exact e_bl | exact e_non | exact e_str
  | (apply e_op1 <;> (first | walk_at "ev" | exact r_add | exact r_sub | exact r_mul (mulc (by decide)) | exact r_mul (mulc' (by decide)) | exact r_mul (.inr ⟨by omega, by omega⟩) | exact r_mod (by decide) | exact r_lt | exact r_le | exact r_gt | exact r_ge))
  | (refine' e_call1 (a_one ?_ a_nil) (c_int rfl) <;> walk_at "ev"))
theorem shaped_ints (ns : List Int) : SeqAt.shaped (.list (ns.map PyData.int)) = true := by
  have h1 : PyData.canLayAll0 (ns.map PyData.int) = true := by
    induction ns with
    | nil => rfl
    | cons x r ih => exact (show (true && PyData.canLayAll0 (r.map PyData.int)) = true by rw [ih]; rfl)
  have h2 : PyData.depthAll (ns.map PyData.int) = 0 := by
    clear h1
    induction ns with
    | nil => rfl
    | cons x r ih => exact (show max 0 (PyData.depthAll (r.map PyData.int)) = 0 by rw [ih]; rfl)
  show (PyData.canLayAll0 (ns.map PyData.int) && decide (PyData.depthAll (ns.map PyData.int) + 1 ≤ 64)) = true
  rw [h1, h2]
  rfl
/-! the law's numbers -/
abbrev FKnead (K : PySem.W.Frag) : Sp := F2 K (fun x y => (∃ a, x = .int a) ∧ ∃ b, y = .int b) fun _ _ d => ∃ c, d = .int c
theorem d_kneaded {f : Addr} {fd : FuncData} (F : Fun K "_law_kneaded" "_law_kneaded" s_law_kneaded f fd) (T : Txt mg) : FnOk P w K mg base CX0 1 f fd ["seed", "lap"] (FKnead K) := by
  have sc := sc_law_kneaded
  refine ok_pure F sc (by decide) (fun ds ⟨x, y, e, _⟩ => by rw [e]; rfl) fun cdv A outer s H E hr => ⟨_, (pss_cons (ps_set (i := 2) sc.nd rfl (by first | exact Or.inl rfl | exact Or.inr rfl) pe_int)
      (pss_cons (ps_set (i := 3) sc.nd rfl (by first | exact Or.inl rfl | exact Or.inr rfl) (pe_op op_mod (pe_callTy call_int1 (by rfl) T.z_int bb_int (pa_cons (pe_op op_add (pe_op op_add (pe_op op_mul (pv 0) pe_int) (pe_op op_mul (pv 1) pe_int)) pe_int) pa_nil)) (pv 2)))
      (pss_cons (ps_for PassesOwn.never rfl (pi_range1 rfl T.z_range (pa_cons pe_int pa_nil)) (pg_name (i := 4) sc.nd rfl (by first | exact Or.inl rfl | exact Or.inr rfl)) (pss_one (ps_set (i := 3) sc.nd rfl (by first | exact Or.inl rfl | exact Or.inr rfl) (pe_op op_mod (pe_callTy call_int1 (by rfl) T.z_int bb_int (pa_cons (pe_op op_add (pe_op op_add (pe_op op_add (pe_op op_mul (pv 3) (pv 3)) (pe_op op_mul pe_int (pv 3))) (pe_op op_mul pe_int (pv 4))) (pv 1)) pa_nil)) (pv 2)))))
      (pss_one (ps_ret (pe_op op_add (pe_op op_mul (pv 3) (pv 2)) (pe_op op_mod (pe_callTy call_int1 (by rfl) T.z_int bb_int (pa_cons (pe_op op_add (pe_op op_mul (pv 3) pe_int) (pv 1)) pa_nil)) (pv 2)))))))), fun ds hp => ?_⟩
  obtain ⟨_, _, rfl, ⟨a, rfl⟩, b, rfl⟩ := hp
  refine s_asg1 (lt_ble rfl) e_int ?_
  refine s_asg1 (d := .int ((a * 2862933555777941757 + b * 3037000493 + 29) % 2305843009213693907)) (lt_ble rfl) (by walk_at "ev") ?_
  refine s_for (M := fun δ' => ∃ c x, δ' = [.dat (.int a), .dat (.int b), .dat (.int 2305843009213693907), .dat (.int c), x] ∧ 0 ≤ c ∧ c < 2305843009213693907) (i_rngN (a_one e_int a_nil) (by decide)) (fun ds e => ?_) fun δ' ⟨c, x, e, h1, h2⟩ => ?_
  · refine ⟨fun _ δ' => ∃ c x, δ' = [.dat (.int a), .dat (.int b), .dat (.int 2305843009213693907), .dat (.int c), x] ∧ 0 ≤ c ∧ c < 2305843009213693907, ⟨_, _, rfl, Int.emod_nonneg _ (by decide), Int.emod_lt_of_pos _ (by decide)⟩, fun i d δ' hi hv => ?_, fun δ' h => h⟩
    obtain ⟨c, x, rfl, h1, h2⟩ := hv
    subst e
    obtain ⟨_, rfl⟩ := rangeD_get hi
    refine ⟨[4], _, g_name (lt_ble rfl), n_asg1 (d := .int ((c * c + 11 * c + 4099 * (0 + (i : Int)) + b) % 2305843009213693907)) (lt_ble rfl) (by walk_at "ev") ⟨_, _, rfl, Int.emod_nonneg _ (by decide), Int.emod_lt_of_pos _ (by decide)⟩⟩
  · subst e
    refine n_ret1 (d := .int (c * 2305843009213693907 + (c * 69621 + b) % 2305843009213693907)) (by walk_at "ev") fun _ _ _ => ⟨_, rfl⟩
/-- a number from 0 on below a bound -/
abbrev QBelow (K : PySem.W.Frag) : Sp := Q1 K (fun x => ∃ n : Int, x = .int n ∧ 0 < n ∧ n < 1000000000) fun x d => ∀ n, x = .int n → ∃ k, d = .int k ∧ 0 ≤ k ∧ k < n
theorem d_below {f : Addr} {fd : FuncData} (F : Fun K "_law_below" "_law_below" s_law_below f fd) (T : Txt mg)
    (h_law_kneaded : Fn P w K mg base 1 "_law_kneaded" ["seed", "lap"] (FKnead K)) : FnOk P w K mg base CX0 2 f fd ["pot", "bound"] (QBelow K) := by
  have sc := sc_law_below
  refine F.ok sc (fun vs H Q E h => ?_) (fun cdv A outer s H vs Q E hr h => ?_)
  · obtain ⟨C, a, us, ds, _, _, rfl, _, dq, ⟨x, rfl, _⟩, _⟩ := h
    rw [List.length_cons, dqAll_len dq]
    rfl
  · obtain ⟨C, a, us, ds, hC, ha, rfl, g, dq, ⟨x, rfl, n, rfl, n1, n2⟩, q⟩ := h
    cases dq with
    | cons dx dn =>
      cases dn
      cases dx
      refine ⟨_, (Evl.pss_cut (ps_if (pt_cmpR op_lt (pe_ix ix_list (pv 0) pe_int (fun _ _ => rfl)) (pv 1) (nomark _)) (Evl.pss_cut (ps_par (i := 2) (j := 3) rfl sc.nd rfl rfl (by decide) rfl rfl (pa_cons (pe_ix ix_list (pv 0) pe_int (fun _ _ => rfl)) (pa_cons (pe_ix ix_list (pv 0) pe_int (fun _ _ => rfl)) pa_nil)) rfl)
      (Evl.pss_cut (ps_set (i := 4) sc.nd rfl (by first | exact Or.inl rfl | exact Or.inr rfl) (pe_ifExp (pt_cmpR (op_neD hr.units) (pv 2) (pe_lst pa_nil) (nomark _)) (pe_ix ix_list (pv 2) (pe_op op_mod (pv 3) (pe_callB call_len_seq (by rfl) T.z_len bb_len (pa_cons (pv 2) pa_nil))) (fun _ _ => rfl)) pe_int))
      (Evl.pss_cut (ps_if (pw_or (pt_cmpR op_ge (pv 3) (pe_callB call_len_seq (by rfl) T.z_len bb_len (pa_cons (pv 2) pa_nil)) (nomark _)) (pw_or1 (pt_cmpR op_lt (pv 4) (pe_op op_pow pe_int pe_int) (nomark _)))).pt (pss_one (ps_set (i := 4) sc.nd rfl (by first | exact Or.inl rfl | exact Or.inr rfl) (pe_fn h_law_kneaded (hr.mono (by decide)) (by rfl) (pa_cons (pe_op op_mod (pe_callTy call_int1 (by rfl) T.z_int bb_int (pa_cons (pv 4) pa_nil)) pe_int) (pa_cons (pv 3) pa_nil))))) pss_nil)
      (Evl.pss_cut (ps_asg (pe_op op_add (pv 3) pe_int) (pg_sub (pv 0) pe_int set_list (fun _ => rfl)))
      (Evl.pss_cut (ps_asg (pv 4) (pg_sub (pv 0) pe_int set_list (fun _ => rfl)))
      (pss_one (ps_asg (pv 4) (pg_sub (pv 0) pe_int set_list (fun _ => rfl))))))))) pss_nil)
      (Evl.pss_cut (ps_set (i := 5) sc.nd rfl (by first | exact Or.inl rfl | exact Or.inr rfl) (pe_op op_mod (pe_callTy call_int1 (by rfl) T.z_int bb_int (pa_cons (pe_ix ix_list (pv 0) pe_int (fun _ _ => rfl)) pa_nil)) (pv 1)))
      (Evl.pss_cut (ps_asg (pe_op op_fdiv (pe_ix ix_list (pv 0) pe_int (fun _ _ => rfl)) (pv 1)) (pg_sub (pv 0) pe_int set_list (fun _ => rfl)))
      (Evl.pss_cut (ps_asg (pe_op op_fdiv (pe_ix ix_list (pv 0) pe_int (fun _ _ => rfl)) (pv 1)) (pg_sub (pv 0) pe_int set_list (fun _ => rfl)))
      (pss_one (ps_ret (pv 5))))))), ?_⟩
      obtain ⟨ns, p, m, r, ea, ec, hl⟩ := g.pot a ha
      have nca : C.cl ≠ a := fun z => by
        rw [z, ea] at ec
        have e := congrArg (fun o => match o with | some (HO.lst (x :: _)) => (match x with | V.ref _ => true | _ => false) | _ => false) ec
        cases ns with
        | nil => cases e
        | cons y r => cases e
      -- how the pot may be written
      have put : ∀ {H1 : Hp} {xs : List V}, Go C H H1 → (∃ p m r, xs = [V.ref C.cl, .int p, .int m, .int r]) → Go C H (upd H1 a (.lst xs)) := fun {H1 xs} k ⟨p, m, r, e⟩ => ⟨fun b o nb z => by
        rw [upd_ne fun y => nb (by rw [ha, y])]
        exact k.keep b o nb z, fun a' ha' => by
        have e1 : a' = a := by
          rw [ha] at ha'
          exact (Option.some.inj ha').symm
        obtain ⟨ns', _, _, _, _, z2, z3⟩ := k.pot a ha
        exact ⟨ns', p, m, r, by rw [e1, upd_same, e], by rw [upd_ne nca]; exact z2, z3⟩⟩
      have pot_of : ∀ {H1 : Hp}, Go C H H1 → ∃ (ns : List Int) (p m r : Int), H1 a = some (.lst [.ref C.cl, .int p, .int m, .int r]) ∧ H1 C.cl = some (.lst (ns.map V.int)) ∧ ns.length ≤ 1000 := fun k => k.pot a ha
      -- if pot[3] < bound
      refine ⟨fun σ1 H1 => ∃ x2 x3 x4 x5, σ1 = [some (.ref a), some (.int n), x2, x3, x4, x5] ∧ Go C H H1, ?_, ?_⟩
      · refine ⟨.ref a, rfl, a, _, 3, .int r, rfl, rfl, .inl (.inl ea), rfl, .int n, rfl, r, n, rfl, rfl, _, rfl, ite2 (fun _ => ?_) (fun _ => ⟨_, _, _, _, rfl, .refl g⟩)⟩
        -- cells, place = pot[0], pot[1]
        refine ⟨fun σ1 H1 => ∃ (p : Int) (x4 x5 : Option V), σ1 = [some (.ref a), some (.int n), some (.ref C.cl), some (.int p), x4, x5] ∧ Go C H H1, ⟨.ref a, rfl, a, _, 0, .ref C.cl, rfl, rfl, .inl (.inl ea), rfl, .ref a, rfl, a, _, 1, .int p, rfl, rfl, .inl (.inl ea), rfl, _, _, rfl, _, _, _, rfl, .refl g⟩, ?_⟩
        rintro σ1 H1 ⟨p, x4, x5, rfl, k⟩
        -- amount
        refine ⟨fun σ1 H1 => ∃ (p b : Int) (x5 : Option V), σ1 = [some (.ref a), some (.int n), some (.ref C.cl), some (.int p), some (.int b), x5] ∧ Go C H H1, ?_, ?_⟩
        · obtain ⟨ns, _, _, _, e1, e2, l1⟩ := pot_of k
          refine ⟨.ref C.cl, rfl, Nat.zero_le _, fun l nl => ?_⟩
          have g1 := g.go k
          have k1 : Go C H (upd H1 l (.lst [])) := k.trans (g1.new nl)
          have ec1 : (upd H1 l (.lst [])) C.cl = some (.lst (ns.map V.int)) := by
            rw [upd_ne (ne_of_none e2 nl)]
            exact e2
          have dp : ∀ ns : List Int, DpAll K (upd H1 l (.lst [])) (ns.map V.int) (ns.map PyData.int) := fun ns => by
            induction ns with
            | nil => exact .nil
            | cons x r ih => exact .cons (.int x) ih
          refine ⟨.list (ns.map PyData.int), .list [], .lst (.inl (.inl ec1)) (dp ns), .lst (.inl (.inl upd_same)) .nil, shaped_ints ns, by decide +kernel, _, rfl, ?_⟩
          cases ns with
          | nil => exact iteF ⟨_, _, _, rfl, k1⟩
          | cons x r =>
            refine iteT ?_
            have hlen : (0 : Int) < (((x :: r).map V.int).length : Nat) := by
              rw [List.length_map, List.length_cons]
              omega
            have m0 := Int.emod_nonneg p (Int.ne_of_gt hlen)
            have m1 := Int.emod_lt_of_pos p hlen
            obtain ⟨j, hj⟩ : ∃ j : Nat, p % (((x :: r).map V.int).length : Nat) = (j : Int) := ⟨_, (Int.toNat_of_nonneg m0).symm⟩
            have lt : j < (x :: r).length := by
              rw [List.length_map] at m1 hj
              omega
            refine ⟨.ref C.cl, rfl, .int p, rfl, .ref C.cl, rfl, C.cl, _, rfl, .inl (.inl (.inl ec1)), p, _, rfl, rfl, hlen, C.cl, _, _, .int ((x :: r)[j]'lt), rfl, rfl, .inl (.inl ec1), ?_, _, _, _, rfl, k1⟩
            rw [hj]
            refine atI_nat ?_
            rw [List.getElem?_map, List.getElem?_eq_getElem lt]
            rfl
        · rintro σ1 H1 ⟨p, b, x5, rfl, k⟩
          -- the kneading
          refine ⟨fun σ1 H1 => ∃ (p b : Int) (x5 : Option V), σ1 = [some (.ref a), some (.int n), some (.ref C.cl), some (.int p), some (.int b), x5] ∧ Go C H H1, ?_, ?_⟩
          · obtain ⟨ns, _, _, _, e1, e2, l1⟩ := pot_of k
            have knead : ∀ {Q : V → Hp → Prop}, (∀ c H2, Go C H H2 → Q (.int c) H2) → FKnead K [.int (b % 982451629), .int p] H1 Q E0 := fun {Q} h => by
              have g1 := g.go k
              refine ⟨C, [.int (b % 982451629), .int p], hC, g1, .cons (.int _) (.cons (.int _) .nil), ⟨_, _, rfl, ⟨_, rfl⟩, _, rfl⟩, fun v d H2 k2 dq2 po => ?_⟩
              obtain ⟨c, rfl⟩ := po _ _ rfl
              cases dq2
              exact h c H2 (k.trans k2)
            have body : ∀ {D : Ends}, (∀ c H2, Go C H H2 → D.nx [some (.ref a), some (.int n), some (.ref C.cl), some (.int p), some (.int c), x5] H2) →
                tAsg (tCall (FKnead K) [] E0 (tCons (tOp (rI (fun _ j => 0 < j) fun i j => .int (i % j)) (tCB rIntD (tCons (tVar 4) tNil)) (tC (.int 982451629))) (tCons (tVar 3) tNil))) (gName 4) D [some (.ref a), some (.int n), some (.ref C.cl), some (.int p), some (.int b), x5] H1 := fun {D} h =>
              ⟨.int b, rfl, .inl ⟨b, rfl, b, _, rfl, rfl, (show (0 : Int) < 982451629 by decide), .int p, rfl, knead fun c H2 k2 => h c H2 k2⟩⟩
            refine ⟨.int p, rfl, .ref C.cl, rfl, C.cl, _, rfl, .inl (.inl (.inl e2)), p, _, rfl, rfl, _, rfl, ite2 (fun _ => ?_) fun _ => ?_⟩
            · exact iteT (body fun c H2 k2 => ⟨_, _, _, rfl, k2⟩)
            · refine ⟨.int b, rfl, 10, 16, rfl, rfl, ⟨by decide, by decide, by decide⟩, b, _, rfl, rfl, _, rfl, ite2 (fun _ => ?_) fun _ => ⟨_, _, _, rfl, k⟩⟩
              exact body fun c H2 k2 => ⟨_, _, _, rfl, k2⟩
          · -- the stores
            have store : ∀ {H1 : Hp} (j : Nat) (c : Int), (j = 1 ∨ j = 2 ∨ j = 3) → Go C H H1 → ∃ xs, H1 a = some (.lst xs) ∧ ixN xs.length (j : Int) = some j ∧ Go C H (upd H1 a (.lst (xs.set j (.int c)))) := fun {H1} j c hj k => by
              obtain ⟨ns, p, m, r, e1, e2, l1⟩ := pot_of k
              refine ⟨_, e1, ?_, put k ?_⟩
              · rcases hj with rfl | rfl | rfl <;> rfl
              · rcases hj with rfl | rfl | rfl <;> exact ⟨_, _, _, rfl⟩
            rintro σ1 H1 ⟨p, b, x5, rfl, k⟩
            obtain ⟨xs, s1, s2, s3⟩ := store 1 (p + 1) (.inl rfl) k
            refine ⟨fun σ1 H1 => ∃ (p b : Int) (x5 : Option V), σ1 = [some (.ref a), some (.int n), some (.ref C.cl), some (.int p), some (.int b), x5] ∧ Go C H H1, ⟨.int p, rfl, p, 1, rfl, rfl, .ref a, rfl, a, xs, 1, 1, rfl, rfl, s1, s2, _, _, _, rfl, s3⟩, ?_⟩
            rintro σ1 H1 ⟨p, b, x5, rfl, k⟩
            obtain ⟨xs, s1, s2, s3⟩ := store 2 b (.inr (.inl rfl)) k
            refine ⟨fun σ1 H1 => ∃ (p b : Int) (x5 : Option V), σ1 = [some (.ref a), some (.int n), some (.ref C.cl), some (.int p), some (.int b), x5] ∧ Go C H H1, ⟨.int b, rfl, .ref a, rfl, a, xs, 2, 2, rfl, rfl, s1, s2, _, _, _, rfl, s3⟩, ?_⟩
            rintro σ1 H1 ⟨p, b, x5, rfl, k⟩
            obtain ⟨xs, s1, s2, s3⟩ := store 3 b (.inr (.inr rfl)) k
            exact ⟨.int b, rfl, .ref a, rfl, a, xs, 3, 3, rfl, rfl, s1, s2, _, _, _, _, rfl, s3⟩
      · rintro σ1 H1 ⟨x2, x3, x4, x5, rfl, k⟩
        obtain ⟨ns, p, m, r, e1, e2, l1⟩ := pot_of k
        -- found
        refine ⟨fun σ1 H1 => ∃ (c : Int) (x2 x3 x4 : Option V), (0 ≤ c ∧ c < n) ∧ σ1 = [some (.ref a), some (.int n), x2, x3, x4, some (.int c)] ∧ Go C H H1, ?_, ?_⟩
        · exact ⟨.ref a, rfl, a, _, 2, .int m, rfl, rfl, .inl (.inl e1), rfl, .inl ⟨m, rfl, .int n, rfl, m, n, rfl, rfl, n1, _, _, _, _, ⟨Int.emod_nonneg _ (Int.ne_of_gt n1), Int.emod_lt_of_pos _ n1⟩, rfl, k⟩⟩
        rintro σ1 H1 ⟨c, x2, x3, x4, hc, rfl, k⟩
        obtain ⟨ns, p, m, r, e1, e2, l1⟩ := pot_of k
        have hb : CDiv m n := ⟨n1, by omega⟩
        refine ⟨fun σ1 H1 => ∃ (c : Int) (x2 x3 x4 : Option V), (0 ≤ c ∧ c < n) ∧ σ1 = [some (.ref a), some (.int n), x2, x3, x4, some (.int c)] ∧ Go C H H1, ?_, ?_⟩
        · exact ⟨.ref a, rfl, a, _, 2, .int m, rfl, rfl, .inl (.inl e1), rfl, .int n, rfl, m, n, rfl, rfl, hb, .ref a, rfl, a, _, 2, 2, rfl, rfl, e1, rfl, _, _, _, _, hc, rfl, put k ⟨_, _, _, rfl⟩⟩
        rintro σ1 H1 ⟨c, x2, x3, x4, hc, rfl, k⟩
        obtain ⟨ns, p, m, r, e1, e2, l1⟩ := pot_of k
        have hb : CDiv r n := ⟨n1, by omega⟩
        refine ⟨fun σ1 H1 => ∃ (c : Int) (x2 x3 x4 : Option V), (0 ≤ c ∧ c < n) ∧ σ1 = [some (.ref a), some (.int n), x2, x3, x4, some (.int c)] ∧ Go C H H1, ?_, ?_⟩
        · exact ⟨.ref a, rfl, a, _, 3, .int r, rfl, rfl, .inl (.inl e1), rfl, .int n, rfl, r, n, rfl, rfl, hb, .ref a, rfl, a, _, 3, 3, rfl, rfl, e1, rfl, _, _, _, _, hc, rfl, put k ⟨_, _, _, rfl⟩⟩
        rintro σ1 H1 ⟨c, x2, x3, x4, hc, rfl, k⟩
        exact ⟨.int c, rfl, q _ _ H1 k (.int c) fun x e n' e' => by
          cases e
          cases e'
          exact ⟨c, rfl, hc.1, hc.2⟩⟩
end

end K3
namespace K3
open PySem PySem.Spec PyProof.Rows L2 Xh
section
variable {P : Program} {w : World} {K : PySem.W.Frag} {mg : Str → Option Value} {base : Heap}
abbrev QPick (K : PySem.W.Frag) : Sp := Q1 K (fun x => ∃ ds, x = .list ds ∧ ds ≠ [] ∧ ds.length ≤ 10000) fun x d => ∀ ds, x = .list ds → d ∈ ds
theorem d_pick {f : Addr} {fd : FuncData} (F : Fun K "_law_pick" "_law_pick" s_law_pick f fd) (T : Txt mg)
    (h_law_below : Fn P w K mg base 2 "_law_below" ["pot", "bound"] (QBelow K)) : FnOk P w K mg base CX0 3 f fd ["pot", "items"] (QPick K) := by
  have sc := sc_law_pick
  refine ok_pot F sc (by decide) (fun ds ⟨x, e, _⟩ => by rw [e]; rfl) fun cdv A outer s H E hr => ⟨_, (pss_one (ps_ret (pe_ix ix_list (pv 1) (pe_fn h_law_below (hr.mono (by decide)) (by rfl) (pa_cons (pv 0) (pa_cons (pe_callB call_len_seq (by rfl) T.z_len bb_len (pa_cons (pv 1) pa_nil)) pa_nil))) (fun _ _ => rfl)))), fun ds hp => ?_⟩
  obtain ⟨_, rfl, ds, rfl, hn, hl⟩ := hp
  have h0 : 0 < ds.length := List.length_pos_iff.mpr hn
  refine n_ret (e_op (A := (· = .list ds)) (B := fun d => ∃ k : Int, d = .int k ∧ 0 ≤ k ∧ k < ds.length) (e_var rfl) (fun _ _ => d1 rfl (e_lenL1 (e_var rfl)) (fun x e => ⟨_, e, by omega, by omega⟩) fun x d e h => h _ e) fun a b e1 ⟨k, e2, h1, h2⟩ => ?_)
  subst e1
  subst e2
  obtain ⟨j, rfl⟩ : ∃ j : Nat, k = (j : Int) := ⟨k.toNat, (Int.toNat_of_nonneg h1).symm⟩
  have lt : j < ds.length := by omega
  refine r_ixL (d := ds[j]) (atI_nat (List.getElem?_eq_getElem lt)) fun x e es e' => ?_
  cases e
  cases e'
  exact List.getElem_mem lt
/-- a draw from a list -/
theorem e_pick {δ : Xh.Env} {te : TE} {E : XK} {ds : List PyData} {p : PyData → Prop} {i : Nat} (hi : δ[i]? = some .pot) (h : EvP K te δ (· = .list ds)) (hn : ds ≠ []) (hl : ds.length ≤ 10000) (hp : ∀ d ∈ ds, p d) :
    EvP K (tCall (QPick K) [] E (tCons (tVar i) (tCons te tNil))) δ p := d1 hi h (fun x e => ⟨ds, e, hn, hl⟩) fun x d e q => hp d (q ds e)
/-- .. where the list itself is drawn -/
theorem e_pickP {δ : Xh.Env} {te : TE} {E : XK} {S : List PyData → Prop} {p : PyData → Prop} {i : Nat} (hi : δ[i]? = some .pot) (h : EvP K te δ fun d => ∃ ds, d = .list ds ∧ S ds) (hn : ∀ ds, S ds → ds ≠ [] ∧ ds.length ≤ 10000 ∧ ∀ d ∈ ds, p d) :
    EvP K (tCall (QPick K) [] E (tCons (tVar i) (tCons te tNil))) δ p := d1 hi h (fun x ⟨ds, e, s⟩ => ⟨ds, e, (hn ds s).1, (hn ds s).2.1⟩) fun x d ⟨ds, e, s⟩ q => (hn ds s).2.2 d (q ds e)
theorem e_below {δ : Xh.Env} {te : TE} {E : XK} {n : Int} {i : Nat} (hi : δ[i]? = some .pot) (h : EvP K te δ (· = .int n)) (h0 : 0 < n ∧ n < 1000000000) :
    EvP K (tCall (QBelow K) [] E (tCons (tVar i) (tCons te tNil))) δ fun d => ∃ k : Int, d = .int k ∧ 0 ≤ k ∧ k < n := d1 hi h (fun x e => ⟨n, e, h0⟩) fun x d e q => q n e
theorem d_law_is_number {f : Addr} {fd : FuncData} (F : Fun K "_law_is_number" "_law_is_number" s_law_is_number f fd) (T : Txt mg) : FnOk P w K mg base CX0 1 f fd ["thing", "start", "most"] (FNum K) := by
  have sc := sc_law_is_number
  refine ok_pure F sc (by decide) (fun ds ⟨x, y, z, e, _⟩ => by rw [e]; rfl) fun cdv A outer s H E hr => ⟨_, (pss_one (ps_ret (pe_and (pe_callB (call_isD "int") (by rfl) T.z_isinstance bb_isinstance (pa_cons (pv 0) (pa_cons (pe_bltn (v := .ty "int") (by rfl) T.z_int bb_int rfl) pa_nil))) (pe_and (pe_not (pe_callB (call_isD "bool") (by rfl) T.z_isinstance bb_isinstance (pa_cons (pv 0) (pa_cons (pe_bltn (v := .ty "bool") (by rfl) T.z_bool bb_bool rfl) pa_nil)))) (pe_one (pe_chain op_le op_le (pv 1) (pv 0) (pv 2))))))), fun ds hp => ?_⟩
  obtain ⟨x, _, _, rfl, ⟨a, rfl⟩, b, rfl⟩ := hp
  have fin : ∀ d, d = PyData.bool (isNum x a b) → ∀ x' y' z', [x, PyData.int a, PyData.int b] = [x', y', z'] → ∀ a' b', y' = .int a' → z' = .int b' → d = .bool (isNum x' a' b') := by
    rintro d rfl x' y' z' e a' b' rfl rfl
    cases e
    rfl
  cases x with
  | int i => exact n_ret1 (e_and1 (e_isD1 (e_var rfl) (kInt _)) fun _ => e_and1 (e_not1 (e_isD1 (e_var rfl) (kBool _))) fun _ => e_chain (e_var rfl) (e_var rfl) r_le (fun _ => e_var rfl) (fun h => by
      rw [h]
      exact r_le) fun h => by rw [h]) (fin _ rfl)
  | bool c => exact n_ret1 (e_and1 (e_isD1 (e_var rfl) (kInt _)) fun _ => e_and1 (b := true) (e_not1 (e_isD1 (e_var rfl) (kBool _))) fun h => by cases h) (fin _ rfl)
  | _ => exact n_ret1 (e_and1 (b := true) (e_isD1 (e_var rfl) (kInt _)) fun h => by cases h) (fin _ rfl)
def intOf (d : PyData) : Int := match d with
  | .int i => i
  | _ => 0
def marksOk (l : Int) : List PyData → Bool
  | [] => true
  | m :: r => isNum m (l + 1) 7 && marksOk (intOf m) r
def itemsOf (d : PyData) : List PyData := match d with
  | .tuple ds => ds
  | _ => []
/-- what the law takes for a watcher -/
def isRight (x : PyData) : Bool := match x with
  | .tuple [a, b, c, d, e] => isNum a 1 30 && wideOk b (isNum b (intOf a) 30) && isNum c 0 30 && isNum d (intOf c) 30 && isTup e && marksOk (0 - 1) (itemsOf e)
  | _ => false
theorem ascD_cons (x y : PyData) (r : List PyData) : ascD (x :: y :: r) = (ltP (pairD x y) && ascD (y :: r)) := rfl
theorem asc_above : ∀ (r : List PyData) (j : Int), ascD (.int j :: r) = true → ∀ z ∈ r, ∃ k, z = .int k ∧ j < k
  | [], _, _, z, hz => absurd hz List.not_mem_nil
  | y :: r, j, h, z, hz => by
    rw [ascD_cons, Bool.and_eq_true] at h
    obtain ⟨h1, h2⟩ := h
    cases y with
    | int i =>
      have lt : j < i := of_decide_eq_true h1
      rcases List.mem_cons.mp hz with e | hz
      · exact ⟨i, e, lt⟩
      · obtain ⟨k, e, l⟩ := asc_above r i h2 z hz
        exact ⟨k, e, by omega⟩
    | _ => cases h1
theorem isNum_iff {d : PyData} {a b : Int} : isNum d a b = true ↔ ∃ i, d = .int i ∧ a ≤ i ∧ i ≤ b := by
  constructor
  · intro h
    obtain ⟨i, rfl⟩ := isNum_int h
    have h : (decide (a ≤ i) && decide (i ≤ b)) = true := h
    rw [Bool.and_eq_true, decide_eq_true_eq, decide_eq_true_eq] at h
    exact ⟨i, rfl, h.1, h.2⟩
  · rintro ⟨i, rfl, h1, h2⟩
    show (decide (a ≤ i) && decide (i ≤ b)) = true
    rw [decide_eq_true h1, decide_eq_true h2]
    rfl
theorem marks_asc : ∀ (ms : List PyData) (l : Int), marksOk l ms = true ↔ (∀ z ∈ ms, isNum z (l + 1) 7 = true) ∧ ascD ms = true
  | [], l => ⟨fun _ => ⟨fun z hz => absurd hz List.not_mem_nil, rfl⟩, fun _ => rfl⟩
  | x :: r, l => by
    have ih := marks_asc r (intOf x)
    show (isNum x (l + 1) 7 && marksOk (intOf x) r) = true ↔ _
    rw [Bool.and_eq_true, ih]
    constructor
    · rintro ⟨h1, h2, h3⟩
      obtain ⟨i, rfl, hi1, hi2⟩ := isNum_iff.mp h1
      refine ⟨fun z hz => ?_, ?_⟩
      · rcases List.mem_cons.mp hz with e | hz
        · rw [e]
          exact h1
        · obtain ⟨k, rfl, k1, k2⟩ := isNum_iff.mp (h2 z hz)
          exact isNum_iff.mpr ⟨k, rfl, by have : intOf (.int i) = i := rfl; omega, k2⟩
      · cases r with
        | nil => rfl
        | cons y r =>
          obtain ⟨k, rfl, k1, k2⟩ := isNum_iff.mp (h2 y List.mem_cons_self)
          rw [ascD_cons, h3, Bool.and_true]
          exact decide_eq_true (show i < k by have : intOf (.int i) = i := rfl; omega)
    · rintro ⟨h1, h2⟩
      have hx := h1 x List.mem_cons_self
      obtain ⟨i, rfl, hi1, hi2⟩ := isNum_iff.mp hx
      refine ⟨hx, fun z hz => ?_, ?_⟩
      · obtain ⟨k, e, lt⟩ := asc_above r i h2 z hz
        obtain ⟨k', e', k1, k2⟩ := isNum_iff.mp (h1 z (List.mem_cons_of_mem _ hz))
        rw [e] at e'
        cases e'
        exact isNum_iff.mpr ⟨k, e, by have : intOf (.int i) = i := rfl; omega, k2⟩
      · cases r with
        | nil => rfl
        | cons y r =>
          rw [ascD_cons, Bool.and_eq_true] at h2
          exact h2.2
theorem asc_eq (e : PyData) : isAsc e 7 = (isTup e && marksOk (0 - 1) (itemsOf e)) := by
  cases e with
  | tuple ms =>
    show (ms.all (fun d => isNum d 0 7) && ascD ms) = marksOk (0 - 1) ms
    refine Bool.eq_iff_iff.mpr ?_
    rw [marks_asc, Bool.and_eq_true, List.all_eq_true]
    exact Iff.rfl
  | _ => rfl
theorem watcher_right (x : PyData) : isWatcher x = isRight x := by
  cases x with
  | tuple ds =>
    by_cases h5 : ds.length = 5
    · obtain ⟨a, b, c, d, e, rfl⟩ := five h5
      show (isNum a 1 30 && isNum c 0 30 && wideOk b _ && _ && isAsc e 7) = (isNum a 1 30 && wideOk b (isNum b (intOf a) 30) && isNum c 0 30 && isNum d (intOf c) 30 && isTup e && marksOk (0 - 1) (itemsOf e))
      rw [asc_eq]
      cases ha : isNum a 1 30 with
      | false => rfl
      | true =>
        obtain ⟨g, rfl⟩ := isNum_int ha
        cases hc : isNum c 0 30 with
        | false =>
          show _ = (true && wideOk b (isNum b (intOf (.int g)) 30) && false && _ && _ && _)
          cases wideOk b (isNum b (intOf (.int g)) 30) <;> rfl
        | true =>
          obtain ⟨l, rfl⟩ := isNum_int hc
          show (true && true && wideOk b (isNum b g 30) && isNum d l 30 && (isTup e && marksOk (0 - 1) (itemsOf e))) = (true && wideOk b (isNum b g 30) && true && isNum d l 30 && isTup e && marksOk (0 - 1) (itemsOf e))
          cases wideOk b (isNum b g 30) <;> cases isNum d l 30 <;> cases isTup e <;> rfl
    · match ds, h5 with
      | [], _ => rfl
      | [_], _ => rfl
      | [_, _], _ => rfl
      | [_, _, _], _ => rfl
      | [_, _, _, _], _ => rfl
      | [_, _, _, _, _], h => exact absurd rfl h
      | _ :: _ :: _ :: _ :: _ :: _ :: _, _ => rfl
  | _ => rfl
theorem d_law_is_right {f : Addr} {fd : FuncData} (F : Fun K "_law_is_right" "_law_is_right" s_law_is_right f fd) (T : Txt mg)
    (h_law_is_number : Fn P w K mg base 1 "_law_is_number" ["thing", "start", "most"] (FNum K)) : FnOk P w K mg base CX0 2 f fd ["thing"] (F1 K (fun _ => True) fun x d => d = .bool (isRight x)) := by
  have sc := sc_law_is_right
  refine ok_pure F sc (by decide) (fun ds ⟨x, e, _⟩ => by rw [e]; rfl) fun cdv A outer s H E hr => ⟨_, (pss_cons (ps_if (pw_or (pt_not (pt_val (pe_callB (call_isD "tuple") (by rfl) T.z_isinstance bb_isinstance (pa_cons (pv 0) (pa_cons (pe_bltn (v := .ty "tuple") (by rfl) T.z_tuple bb_tuple rfl) pa_nil))))) (pw_or1 (pt_cmpR op_ne (pe_callB call_len_seq (by rfl) T.z_len bb_len (pa_cons (pv 0) pa_nil)) pe_int (nomark _)))).pt (pss_one (ps_ret pe_bl)) pss_nil)
      (pss_cons (ps_asg (pv 0) (pg_tup rfl (pgs_cons (pg_name (i := 1) sc.nd rfl (by first | exact Or.inl rfl | exact Or.inr rfl)) (pgs_cons (pg_name (i := 2) sc.nd rfl (by first | exact Or.inl rfl | exact Or.inr rfl)) (pgs_cons (pg_name (i := 3) sc.nd rfl (by first | exact Or.inl rfl | exact Or.inr rfl)) (pgs_cons (pg_name (i := 4) sc.nd rfl (by first | exact Or.inl rfl | exact Or.inr rfl)) (pgs_cons (pg_name (i := 5) sc.nd rfl (by first | exact Or.inl rfl | exact Or.inr rfl)) pgs_nil)))))))
      (pss_cons (ps_if (pw_or (pt_not (pt_val (pe_fn h_law_is_number (hr.mono (by decide)) (by rfl) (pa_cons (pv 1) (pa_cons pe_int (pa_cons pe_int pa_nil)))))) (pw_or1 (pw_and (pt_cmpR op_notN1 (pv 2) pe_non (nomark _)) (pw_and1 (pt_not (pt_val (pe_fn h_law_is_number (hr.mono (by decide)) (by rfl) (pa_cons (pv 2) (pa_cons (pv 1) (pa_cons pe_int pa_nil)))))))).pt)).pt (pss_one (ps_ret pe_bl)) pss_nil)
      (pss_cons (ps_if (pw_or (pt_not (pt_val (pe_fn h_law_is_number (hr.mono (by decide)) (by rfl) (pa_cons (pv 3) (pa_cons pe_int (pa_cons pe_int pa_nil)))))) (pw_or (pt_not (pt_val (pe_fn h_law_is_number (hr.mono (by decide)) (by rfl) (pa_cons (pv 4) (pa_cons (pv 3) (pa_cons pe_int pa_nil)))))) (pw_or1 (pt_not (pt_val (pe_callB (call_isD "tuple") (by rfl) T.z_isinstance bb_isinstance (pa_cons (pv 5) (pa_cons (pe_bltn (v := .ty "tuple") (by rfl) T.z_tuple bb_tuple rfl) pa_nil)))))))).pt (pss_one (ps_ret pe_bl)) pss_nil)
      (pss_cons (ps_set (i := 6) sc.nd rfl (by first | exact Or.inl rfl | exact Or.inr rfl) (pe_op op_sub pe_int pe_int))
      (pss_cons (ps_for PassesOwn.never rfl (pi_tup (pv 5)) (pg_name (i := 7) sc.nd rfl (by first | exact Or.inl rfl | exact Or.inr rfl)) (pss_cons (ps_if (pt_not (pt_val (pe_fn h_law_is_number (hr.mono (by decide)) (by rfl) (pa_cons (pv 7) (pa_cons (pe_op op_add (pv 6) pe_int) (pa_cons pe_int pa_nil)))))) (pss_one (ps_ret pe_bl)) pss_nil)
      (pss_one (ps_set (i := 6) sc.nd rfl (by first | exact Or.inl rfl | exact Or.inr rfl) (pv 7)))))
      (pss_one (ps_ret pe_bl)))))))), fun ds hp => ?_⟩
  obtain ⟨x, rfl, _⟩ := hp
  have fin : ∀ d, d = PyData.bool (isRight x) → ∀ x', [x] = [x'] → d = .bool (isRight x') := by
    rintro d rfl x' e
    cases e
    rfl
  cases x with
  | tuple ds =>
    by_cases h5 : ds.length = 5
    · obtain ⟨a, b, c, d, e, rfl⟩ := five h5
      have val : isRight (.tuple [a, b, c, d, e]) = (isNum a 1 30 && wideOk b (isNum b (intOf a) 30) && isNum c 0 30 && isNum d (intOf c) 30 && isTup e && marksOk (0 - 1) (itemsOf e)) := rfl
      refine s_if (b_or1 (b_not1 (b_B1 (e_isD1 (e_var rfl) (kTup _)))) fun _ => e_ne5 (e_var rfl)) (fun h => by cases h) fun _ => ?_
      refine s_asgG (δ1 := fun _ => [.dat (.tuple [a, b, c, d, e]), .dat a, .dat b, .dat c, .dat d, .dat e, .non, .non]) (e_var rfl) (fun d e => by rw [e]; exact g5 (lt_ble rfl) (lt_ble rfl) (lt_ble rfl) (lt_ble rfl) (lt_ble rfl)) fun _ _ => ?_
      cases ha : isNum a 1 30 with
      | false =>
        refine s_if (b_or1 (b := true) (b_not1 (b_B1 (e_num (e_var rfl) e_int e_int))) fun h => by rw [ha] at h; cases h) (fun _ => n_ret1 e_bl (fin _ (by rw [val, ha]; rfl))) fun h => by rw [ha] at h; cases h
      | true =>
        obtain ⟨g, rfl⟩ := isNum_int ha
        refine s_if (b_or1 (b_not1 (b_B1 (e_num (e_var rfl) e_int e_int))) fun _ => b_and1 (b_test1 (e_op1 (e_var rfl) e_non r_notN1)) fun _ => b_not1 (b_B1 (e_num (e_var rfl) (e_var rfl) e_int))) (fun h => n_ret1 e_bl (fin _ ?_)) fun h => ?_
        · rw [val, ha]
          show PyData.bool false = .bool (true && (isNone b || isNum b g 30) && _ && _ && _ && _)
          rw [ha] at h
          cases z1 : isNone b <;> cases z2 : isNum b g 30 <;> rw [z1, z2] at h <;> first | rfl | cases h
        · have hb : wideOk b (isNum b g 30) = true := by
            show (isNone b || isNum b g 30) = true
            rw [ha] at h
            cases z1 : isNone b <;> cases z2 : isNum b g 30 <;> rw [z1, z2] at h <;> first | rfl | cases h
          cases hc : isNum c 0 30 with
          | false =>
            refine s_if (b_or1 (b := true) (b_not1 (b_B1 (e_num (e_var rfl) e_int e_int))) fun h => by rw [hc] at h; cases h) (fun _ => n_ret1 e_bl (fin _ ?_)) fun h => by rw [hc] at h; cases h
            rw [val, ha, hc]
            show PyData.bool false = .bool (true && wideOk b (isNum b g 30) && false && _ && _ && _)
            rw [hb]
            rfl
          | true =>
            obtain ⟨l, rfl⟩ := isNum_int hc
            refine s_if (b_or1 (b_not1 (b_B1 (e_num (e_var rfl) e_int e_int))) fun _ => b_or1 (b_not1 (b_B1 (e_num (e_var rfl) (e_var rfl) e_int))) fun _ => b_not1 (b_B1 (e_isD1 (e_var rfl) (kTup _)))) (fun h => n_ret1 e_bl (fin _ ?_)) fun h => ?_
            · rw [val, ha, hc]
              show PyData.bool false = .bool (true && wideOk b (isNum b g 30) && true && isNum d l 30 && isTup e && _)
              rw [hb]
              rw [hc] at h
              cases z1 : isNum d l 30 <;> cases z2 : isTup e <;> rw [z1, z2] at h <;> first | rfl | cases h
            · have hd : isNum d l 30 = true ∧ isTup e = true := by
                rw [hc] at h
                cases z1 : isNum d l 30 <;> cases z2 : isTup e <;> rw [z1, z2] at h <;> first | exact ⟨rfl, rfl⟩ | cases h
              have val2 : isRight (.tuple [.int g, b, .int l, d, e]) = marksOk (0 - 1) (itemsOf e) := by
                rw [val, ha, hc]
                show (true && wideOk b (isNum b g 30) && true && isNum d l 30 && isTup e && _) = _
                rw [hb, hd.1, hd.2]
                rfl
              obtain ⟨ms, rfl⟩ : ∃ ms, e = .tuple ms := by
                cases e with
                | tuple ms => exact ⟨ms, rfl⟩
                | _ => cases hd.2
              have val3 : isRight (.tuple [.int g, b, .int l, d, .tuple ms]) = marksOk (0 - 1) ms := val2
              refine s_asg1 (lt_ble rfl) (e_op1 e_int e_int r_sub) ?_
              refine s_for (M := fun δ' => ∃ (x y : PyData → Prop), marksOk (0 - 1) ms = true) (i_tup1 (e_var rfl)) (fun ds e => ?_) fun δ' ⟨_, _, h⟩ => n_ret1 e_bl (fin _ (by rw [val3, h]))
              subst e
              refine ⟨fun i δ' => ∃ l' x, δ' = [.dat (.tuple [.int g, b, .int l, d, .tuple ds]), .dat (.int g), .dat b, .dat (.int l), .dat d, .dat (.tuple ds), .dat (.int l'), x] ∧ marksOk (0 - 1) ds = marksOk l' (ds.drop i), ⟨_, _, rfl, rfl⟩, fun i m δ' hi hv => ?_, fun δ' ⟨l', x, e, h⟩ => ⟨fun _ => True, fun _ => True, by
                rw [h, List.drop_length]
                rfl⟩⟩
              obtain ⟨l', x, rfl, hm⟩ := hv
              have dr : ds.drop i = m :: ds.drop (i + 1) := List.drop_eq_getElem?_toList_append.trans (by rw [hi]; rfl)
              have hm2 : marksOk (0 - 1) ds = (isNum m (l' + 1) 7 && marksOk (intOf m) (ds.drop (i + 1))) := by
                rw [hm, dr]
                rfl
              refine ⟨[7], _, g_name (lt_ble rfl), s_if (b_not1 (b_B1 (e_num (e_var rfl) (e_op1 (e_var rfl) e_int r_add) e_int))) (fun h => n_ret1 e_bl (fin _ ?_)) fun h => n_asg1 (lt_ble rfl) (e_var rfl) ?_⟩
              · rw [val3, hm2]
                cases z : isNum m (l' + 1) 7 with
                | false => rfl
                | true =>
                  rw [z] at h
                  cases h
              · cases z : isNum m (l' + 1) 7 with
                | true =>
                  obtain ⟨j, rfl⟩ := isNum_int z
                  rw [z] at hm2
                  exact ⟨j, _, rfl, hm2⟩
                | false =>
                  rw [z] at h
                  cases h
    · have no : isRight (.tuple ds) = false := by
        match ds, h5 with
        | [], _ => rfl
        | [_], _ => rfl
        | [_, _], _ => rfl
        | [_, _, _], _ => rfl
        | [_, _, _, _], _ => rfl
        | [_, _, _, _, _], h => exact absurd rfl h
        | _ :: _ :: _ :: _ :: _ :: _ :: _, _ => rfl
      refine s_if (b_or1 (b_not1 (b_B1 (e_isD1 (e_var rfl) (kTup _)))) fun _ => e_ne5 (e_var rfl)) (fun h => n_ret1 e_bl (fin _ (by rw [no]))) fun h => ?_
      exfalso
      have h : false = !decide ((ds.length : Int) = 5) := h
      rw [decide_eq_false (fun e => h5 (by omega))] at h
      cases h
  | _ => exact s_if (b_or1 (b := true) (b_not1 (b_B1 (e_isD1 (e_var rfl) (kTup _)))) fun h => by cases h) (fun h => n_ret1 e_bl (fin _ rfl)) fun h => by cases h
end

end K3
namespace K3
open PySem PySem.Spec PyProof.Rows L2 Xh
section
variable {P : Program} {w : World} {K : PySem.W.Frag} {mg : Str → Option Value} {base : Heap}
theorem z_pick {δ : Xh.Env} {te : TE} {E : XK} {n k i : Nat} (hi : δ[i]? = some .pot) (h : EvP K te δ (EL n k)) (hk : Nat.ble k 100000 = true) : EvP K (tCall (QPick K) [] E (tCons (tVar i) (tCons te tNil))) δ (Sz n k) :=
  e_pickP (S := fun ds => ds ≠ [] ∧ Szs n k ds) hi (h.imp fun d ⟨ds, e, m, s⟩ => ⟨ds, e, m, s⟩) fun ds ⟨m, s⟩ => ⟨m, by have := s.len; have := Nat.le_of_ble_eq_true hk; omega, fun d hd => s.mem hd⟩
theorem pickA {δ : Xh.Env} {ta : TA} {E : XK} {p : PyData → Prop} {m i : Nat} (hi : δ[i]? = some .pot) (h : EvA K ta δ (AllP p (m + 1))) (hm : Nat.ble (m + 1) 10000 = true) : EvP K (tCall (QPick K) [] E (tCons (tVar i) (tCons (tLst ta) tNil))) δ p :=
  e_pickP (S := fun ds => ds ≠ [] ∧ ds.length ≤ m + 1 ∧ ∀ d ∈ ds, p d) hi ((z_disp h hm).imp fun d ⟨ds, e, m⟩ => ⟨ds, e, m⟩) fun ds s => ⟨s.1, Nat.le_trans s.2.1 (Nat.le_of_ble_eq_true hm), s.2.2⟩
theorem lp_pick {δ : Xh.Env} {te : TE} {E : XK} {p : PyData → Prop} {m i : Nat} (hi : δ[i]? = some .pot) (h : EvP K te δ (LP p m)) (hm : Nat.ble m 10000 = true) : EvP K (tCall (QPick K) [] E (tCons (tVar i) (tCons te tNil))) δ p :=
  e_pickP (S := fun ds => ds ≠ [] ∧ ds.length ≤ m ∧ ∀ d ∈ ds, p d) hi (h.imp fun d ⟨ds, e, m⟩ => ⟨ds, e, m⟩) fun ds s => ⟨s.1, Nat.le_trans s.2.1 (Nat.le_of_ble_eq_true hm), s.2.2⟩
/-! some watcher -/
def inR (a b : Int) (d : PyData) : Prop := ∃ i, d = .int i ∧ a ≤ i ∧ i ≤ b
theorem inR_num {a b : Int} {d : PyData} (h : inR a b d) : isNum d a b = true := isNum_iff.mpr h
theorem ascD_snoc : ∀ {ds : List PyData} {i : Int}, ascD ds = true → (∀ z ∈ ds, ∃ k, z = .int k ∧ k < i) → ascD (ds ++ [.int i]) = true
  | [], _, _, _ => rfl
  | [x], i, _, h => by
    obtain ⟨k, rfl, l⟩ := h x List.mem_cons_self
    show (decide (k < i) && true) = true
    rw [decide_eq_true l]
    rfl
  | x :: y :: r, i, h1, h2 => by
    rw [ascD_cons, Bool.and_eq_true] at h1
    have ih := ascD_snoc (ds := y :: r) (i := i) h1.2 fun z hz => h2 z (List.mem_cons_of_mem _ hz)
    show ascD (x :: y :: (r ++ [.int i])) = true
    rw [ascD_cons, h1.1]
    exact ih
abbrev QWatch (K : PySem.W.Frag) : Sp := Q0 K fun d => isRight d = true
theorem d_some_watcher {f : Addr} {fd : FuncData} (F : Fun K "_law_some_watcher" "_law_some_watcher" s_law_some_watcher f fd) (T : Txt mg)
    (h_law_below : Fn P w K mg base 2 "_law_below" ["pot", "bound"] (QBelow K)) (h_law_pick : Fn P w K mg base 3 "_law_pick" ["pot", "items"] (QPick K)) : FnOk P w K mg base CX0 4 f fd ["pot"] (QWatch K) := by
  have sc := sc_law_some_watcher
  refine ok_pot F sc (by decide) (fun ds e => by rw [e]; rfl) fun cdv A outer s H E hr => ⟨_, (pss_cons (ps_set (i := 1) sc.nd rfl (by first | exact Or.inl rfl | exact Or.inr rfl) (pe_fn h_law_pick (hr.mono (by decide)) (by rfl) (pa_cons (pv 0) (pa_cons (pe_lst (pa_cons pe_int (pa_cons pe_int (pa_cons pe_int (pa_cons pe_int (pa_cons (pe_op op_add pe_int (pe_fn h_law_below (hr.mono (by decide)) (by rfl) (pa_cons (pv 0) (pa_cons pe_int pa_nil)))) pa_nil)))))) pa_nil))))
      (pss_cons (ps_set (i := 2) sc.nd rfl (by first | exact Or.inl rfl | exact Or.inr rfl) (pe_fn h_law_pick (hr.mono (by decide)) (by rfl) (pa_cons (pv 0) (pa_cons (pe_lst (pa_cons pe_int (pa_cons pe_int (pa_cons pe_int (pa_cons (pe_fn h_law_below (hr.mono (by decide)) (by rfl) (pa_cons (pv 0) (pa_cons pe_int pa_nil))) pa_nil))))) pa_nil))))
      (pss_cons (ps_set (i := 3) sc.nd rfl (by first | exact Or.inl rfl | exact Or.inr rfl) (pe_fn h_law_pick (hr.mono (by decide)) (by rfl) (pa_cons (pv 0) (pa_cons (pe_lst (pa_cons pe_non (pa_cons (pv 1) (pa_cons pe_int (pa_cons (pe_op op_add (pv 1) (pe_fn h_law_below (hr.mono (by decide)) (by rfl) (pa_cons (pv 0) (pa_cons (pe_op op_sub pe_int (pv 1)) pa_nil)))) pa_nil))))) pa_nil))))
      (pss_cons (ps_set (i := 4) sc.nd rfl (by first | exact Or.inl rfl | exact Or.inr rfl) (pe_fn h_law_pick (hr.mono (by decide)) (by rfl) (pa_cons (pv 0) (pa_cons (pe_lst (pa_cons (pv 2) (pa_cons pe_int (pa_cons (pe_op op_add (pv 2) (pe_fn h_law_below (hr.mono (by decide)) (by rfl) (pa_cons (pv 0) (pa_cons (pe_op op_sub pe_int (pv 2)) pa_nil)))) pa_nil)))) pa_nil))))
      (pss_one (ps_ret (pe_tup (pa_cons (pv 1) (pa_cons (pv 3) (pa_cons (pv 2) (pa_cons (pv 4) (pa_cons (pe_callTy call_tuple_of (by rfl) T.z_tuple bb_tuple (pa_cons (pe_lc (own := [("one", 5)]) (g := (gName 5)) rfl sc.nd (pi_range1 rfl T.z_range (pa_cons pe_int pa_nil)) (blkOk_by (N := ["pot", "start", "first", "top", "last_one", "one"]) (sc := defScope s_law_some_watcher) (own := [("one", 5)]) (by decide +kernel)) (fun _ _ _ _ _ => (pg_name (i := 5) sc.nd rfl (Or.inl rfl))) (fun _ _ _ _ _ => (pts_one (pt_cmpR op_eq (pe_fn h_law_below (hr.mono (by decide)) (by rfl) (pa_cons (pv 0) (pa_cons pe_int pa_nil))) pe_int (nomark _)))) (fun _ _ _ _ _ => (pv 5))) pa_nil)) pa_nil)))))))))))), fun ds hp => ?_⟩
  subst hp
  refine s_asg (P := inR 1 30) (lt_ble rfl) (pickA rfl (ap_cons (e_int.imp fun d e => ⟨_, e, by decide, by decide⟩) (ap_cons (e_int.imp fun d e => ⟨_, e, by decide, by decide⟩) (ap_cons (e_int.imp fun d e => ⟨_, e, by decide, by decide⟩) (ap_cons (e_int.imp fun d e => ⟨_, e, by decide, by decide⟩)
    (ap_cons (e_op e_int (fun _ _ => e_below rfl e_int (by decide)) fun a b e1 ⟨k, e2, h1, h2⟩ => by
      subst e1
      subst e2
      exact r_I0 (fun _ => .int _) ⟨_, rfl, by omega, by omega⟩) ap_nil))))) rfl) fun d ⟨a, e, a1, a2⟩ => ?_
  subst e
  refine s_asg (P := inR 0 30) (lt_ble rfl) (pickA rfl (ap_cons (e_int.imp fun d e => ⟨_, e, by decide, by decide⟩) (ap_cons (e_int.imp fun d e => ⟨_, e, by decide, by decide⟩) (ap_cons (e_int.imp fun d e => ⟨_, e, by decide, by decide⟩)
    (ap_cons ((e_below rfl e_int (by decide)).imp fun d ⟨k, e, h1, h2⟩ => ⟨k, e, h1, by omega⟩) ap_nil)))) rfl) fun d ⟨c, e, c1, c2⟩ => ?_
  subst e
  have part : ∀ {x : Int} {δ : Xh.Env} {j : Nat}, x ≤ 30 → δ[0]? = some .pot → δ[j]? = some (.dat (.int x)) → EvP K (tOp (rI0 fun i j => .int (i + j)) (tVar j) (tCall (QBelow K) [] E0 (tCons (tVar 0) (tCons (tOp (rI0 fun i j => .int (i - j)) (tC (.int 31)) (tVar j)) tNil)))) δ (inR x 30) ∨ x < 0 := fun {x δ j} hx h0 hj => by
    by_cases hn : x < 0
    · exact .inr hn
    · exact .inl (e_op (e_var hj) (fun _ _ => e_below h0 (e_op1 e_int (e_var hj) r_sub) (by omega)) fun a b e1 ⟨k, e2, h1, h2⟩ => by
        subst e1
        subst e2
        exact r_I0 (fun _ => .int _) ⟨_, rfl, by omega, by omega⟩)
  refine s_asg (P := fun d => d = .none ∨ inR a 30 d) (lt_ble rfl) (pickA rfl (ap_cons (e_non.imp fun d e => .inl e) (ap_cons ((e_var rfl).imp fun d e => .inr ⟨_, e, by omega, by omega⟩) (ap_cons (e_int.imp fun d e => .inr ⟨_, e, by omega, by omega⟩)
    (ap_cons (((part a2 rfl rfl).resolve_right (by omega)).imp fun d h => .inr h) ap_nil)))) rfl) fun b hb => ?_
  refine s_asg (P := inR c 30) (lt_ble rfl) (pickA rfl (ap_cons ((e_var rfl).imp fun d e => ⟨_, e, by omega, by omega⟩) (ap_cons (e_int.imp fun d e => ⟨_, e, by omega, by omega⟩)
    (ap_cons ((part c2 rfl rfl).resolve_right (by omega)) ap_nil))) rfl) fun d ⟨h, e, h1, h2⟩ => ?_
  subst e
  -- the marks
  have marks : EvP K (tCB (rTupD K) (tCons (tLc (iRng1 (tCons (tC (.int 8)) tNil)) (gName 5) (tTest (tOp rEq (tCall (QBelow K) [] E0 (tCons (tVar 0) (tCons (tC (.int 3)) tNil))) (tC (.int 0)))) (tVar 5) [5]) tNil))
      [.pot, .dat (.int a), .dat (.int c), .dat b, .dat (.int h), .non] fun d => ∃ ms, d = .tuple ms ∧ marksOk (0 - 1) ms = true := by
    refine e_call (A := fun as => ∃ ms, as = [.list ms] ∧ marksOk (0 - 1) ms = true) (a_cons (A := fun d => ∃ ms, d = .list ms ∧ marksOk (0 - 1) ms = true) (e_lc (i_rngN (a_one e_int a_nil) (by decide)) fun ds e => ?_) (fun _ _ => a_nil) fun x y ⟨ms, e, q⟩ e2 => ⟨ms, by rw [e, e2], q⟩) fun as ⟨ms, e, q⟩ => by
      subst e
      exact c_tupL ⟨ms, rfl, q⟩
    subst e
    refine ⟨by rw [rangeD_len]; decide, fun i acc => acc.length ≤ i ∧ (∀ z ∈ acc, ∃ k : Int, z = .int k ∧ 0 ≤ k ∧ k < i) ∧ ascD acc = true, ⟨Nat.le_refl _, fun z hz => absurd hz List.not_mem_nil, rfl⟩, fun i acc h => h.1, fun i d hd => ?_, fun acc hacc => ?_⟩
    · obtain ⟨_, rfl⟩ := rangeD_get hd
      refine ⟨[5], _, fun _ h => h, g_name (lt_ble rfl), fun acc ha => ⟨fun _ => True, b_test (P := fun d => ∃ b, d = .bool b) (e_op (e_below rfl e_int (by decide)) (fun _ _ => e_int) fun x y ⟨k, e1, _⟩ e2 => by
          subst e1
          subst e2
          exact r_eq (P := fun d => ∃ b, d = .bool b) rfl rfl rfl ⟨_, rfl⟩) fun d ⟨b, e⟩ => ⟨b, e, trivial⟩, fun _ => (e_var rfl).imp fun d e => ?_, fun _ => ⟨by omega, fun z hz => ?_, ha.2.2⟩⟩⟩
      · subst e
        refine ⟨by rw [List.length_append]; have := ha.1; show _ + 1 ≤ _; omega, fun z hz => ?_, ascD_snoc ha.2.2 fun z hz => ?_⟩
        · rcases List.mem_append.mp hz with hz | hz
          · obtain ⟨k, e, k1, k2⟩ := ha.2.1 z hz
            exact ⟨k, e, k1, by omega⟩
          · cases List.mem_singleton.mp hz
            exact ⟨_, rfl, by omega, by omega⟩
        · obtain ⟨k, e, k1, k2⟩ := ha.2.1 z hz
          exact ⟨k, e, by omega⟩
      · obtain ⟨k, e, k1, k2⟩ := ha.2.1 z hz
        exact ⟨k, e, k1, by omega⟩
    · rw [rangeD_len] at hacc
      refine ⟨acc, rfl, (marks_asc acc (0 - 1)).mpr ⟨fun z hz => ?_, hacc.2.2⟩⟩
      obtain ⟨k, e, k1, k2⟩ := hacc.2.1 z hz
      have k3 : k < 8 := k2
      exact isNum_iff.mpr ⟨k, e, by omega, by omega⟩
  refine n_ret (e_tup (A := fun ds => ∃ ms, ds = [.int a, b, .int c, .int h, .tuple ms] ∧ marksOk (0 - 1) ms = true) ?_ fun ds ⟨ms, e, q⟩ => ?_)
  · refine a_cons (B := fun ds => ∃ ms, ds = [b, .int c, .int h, .tuple ms] ∧ marksOk (0 - 1) ms = true) (e_var rfl) (fun _ _ => ?_) fun x y e ⟨ms, e2, q⟩ => ⟨ms, by rw [e, e2], q⟩
    refine a_cons (B := fun ds => ∃ ms, ds = [.int c, .int h, .tuple ms] ∧ marksOk (0 - 1) ms = true) (e_var rfl) (fun _ _ => ?_) fun x y e ⟨ms, e2, q⟩ => ⟨ms, by rw [e, e2], q⟩
    refine a_cons (B := fun ds => ∃ ms, ds = [.int h, .tuple ms] ∧ marksOk (0 - 1) ms = true) (e_var rfl) (fun _ _ => ?_) fun x y e ⟨ms, e2, q⟩ => ⟨ms, by rw [e, e2], q⟩
    refine a_cons (B := fun ds => ∃ ms, ds = [.tuple ms] ∧ marksOk (0 - 1) ms = true) (e_var rfl) (fun _ _ => ?_) fun x y e ⟨ms, e2, q⟩ => ⟨ms, by rw [e, e2], q⟩
    exact a_cons marks (fun _ _ => a_nil) fun x y ⟨ms, e, q⟩ e2 => ⟨ms, by rw [e, e2], q⟩
  · subst e
    refine ⟨by show 5 ≤ 10000; decide, ?_⟩
    show (isNum (.int a) 1 30 && wideOk b (isNum b a 30) && isNum (.int c) 0 30 && isNum (.int h) c 30 && true && marksOk (0 - 1) ms) = true
    rw [isNum_iff.mpr ⟨a, rfl, a1, a2⟩, isNum_iff.mpr ⟨c, rfl, c1, c2⟩, isNum_iff.mpr ⟨h, rfl, h1, h2⟩, q]
    rcases hb with rfl | hb
    · rfl
    · show (true && (isNone b || isNum b a 30) && true && true && true && true) = true
      rw [inR_num hb, Bool.or_true]
      rfl
end

end K3
namespace K3
open PySem PySem.Spec PyProof.Rows L2 Xh
section
variable {P : Program} {w : World} {K : PySem.W.Frag} {mg : Str → Option Value} {base : Heap}
/-! spoiling -/
abbrev QMud (K : PySem.W.Frag) : Sp := Q2 K (fun x y => ET 1 400 x ∧ Sz 3 100 y) fun _ _ d => Sz 4 1300 d
theorem d_muddled {f : Addr} {fd : FuncData} (F : Fun K "_law_muddled" "_law_muddled" s_law_muddled f fd) (T : Txt mg)
    (h_law_below : Fn P w K mg base 2 "_law_below" ["pot", "bound"] (QBelow K)) (h_law_pick : Fn P w K mg base 3 "_law_pick" ["pot", "items"] (QPick K)) : FnOk P w K mg base CX0 4 f fd ["pot", "row", "odd"] (QMud K) := by
  have sc := sc_law_muddled
  refine ok_pot F sc (by decide) (fun ds ⟨x, y, e, _⟩ => by rw [e]; rfl) fun cdv A outer s H E hr => ⟨_, (pss_cons (ps_set (i := 3) sc.nd rfl (by first | exact Or.inl rfl | exact Or.inr rfl) (pe_fn h_law_below (hr.mono (by decide)) (by rfl) (pa_cons (pv 0) (pa_cons (pe_op op_add (pe_callB call_len_seq (by rfl) T.z_len bb_len (pa_cons (pv 1) pa_nil)) pe_int) pa_nil))))
      (pss_cons (ps_set (i := 4) sc.nd rfl (by first | exact Or.inl rfl | exact Or.inr rfl) (pe_lst (pa_cons (pe_op op_catA (pe_op op_catA (pe_slice sl_tupA (pv 1) po_none (po_some (pv 3))) (pe_revT (pe_slice sl_tupA (pv 1) (po_some (pv 3)) (po_some (pe_op op_add (pv 3) pe_int))))) (pe_slice sl_tupA (pv 1) (po_some (pe_op op_add (pv 3) pe_int)) po_none)) (pa_cons (pe_op op_catA (pe_op op_catA (pe_slice sl_tupA (pv 1) po_none (po_some (pv 3))) (pe_slice sl_tupA (pv 1) (po_some (pv 3)) (po_some (pe_op op_add (pv 3) pe_int)))) (pe_slice sl_tupA (pv 1) (po_some (pv 3)) po_none)) pa_nil))))
      (pss_one (ps_ret (pe_fn h_law_pick (hr.mono (by decide)) (by rfl) (pa_cons (pv 0) (pa_cons (pe_op op_cat (pv 4) (pe_lst (pa_cons (pe_op op_catA (pe_op op_catA (pe_slice sl_tupA (pv 1) po_none (po_some (pv 3))) (pe_tup (pa_cons (pv 2) pa_nil))) (pe_slice sl_tupA (pv 1) (po_some (pv 3)) po_none)) pa_nil))) pa_nil))))))), fun ds hp => ?_⟩
  obtain ⟨_, y, rfl, ⟨rs, rfl, hs⟩, hy⟩ := hp
  have hl := hs.len
  refine s_asg (P := fun d => ∃ k : Int, d = .int k) (lt_ble rfl) ((e_below rfl (e_op1 (e_lenT1 (e_var rfl)) e_int r_add) (by omega)).imp fun d ⟨k, e, _⟩ => ⟨k, e⟩) fun d ⟨k, e⟩ => ?_
  subst e
  have row : ∀ {δ : Xh.Env}, δ[1]? = some (.dat (.tuple rs)) → EvP K (tVar 1) δ (ET 3 400) := fun {δ} h => (e_var h).imp fun d e => ⟨rs, e, hs.mono (by decide) (by decide)⟩
  have head : ∀ {δ : Xh.Env}, δ[1]? = some (.dat (.tuple rs)) → δ[3]? = some (.dat (.int k)) → EvP K (tSl (rSlA K) (tVar 1) tNoPart (tPart (tVar 3))) δ (ET 3 400) := fun {δ} h h3 => z_slT (row h) o_non (o_int (e_var h3))
  have tail : ∀ {δ : Xh.Env}, δ[1]? = some (.dat (.tuple rs)) → δ[3]? = some (.dat (.int k)) → EvP K (tSl (rSlA K) (tVar 1) (tPart (tVar 3)) tNoPart) δ (ET 3 400) := fun {δ} h h3 => z_slT (row h) (o_int (e_var h3)) o_non
  have fit : ∀ {k : Nat} {d : PyData}, k ≤ 1290 → ET 3 k d → Sz 4 1300 d := fun {k d} h e => e.sz.mono (Nat.le_refl _) (by omega)
  refine s_asg (P := LP (Sz 4 1300) 2) (lt_ble rfl) (z_disp (ap_cons (z_m (z_catT (z_catT (head rfl rfl) (z_revT (z_slT (row rfl) (o_int (e_var rfl)) (o_int (e_op1 (e_var rfl) e_int r_add)))) rfl) (z_slT (row rfl) (o_int (e_op1 (e_var rfl) e_int r_add)) o_non) rfl) fun d h => fit (by decide) h)
    (ap_cons (z_m (z_catT (z_catT (head rfl rfl) (z_slT (row rfl) (o_int (e_var rfl)) (o_int (e_op1 (e_var rfl) e_int r_add))) rfl) (tail rfl rfl) rfl) fun d h => fit (by decide) h) ap_nil)) rfl) fun d hd => ?_
  exact n_ret ((lp_pick rfl (lp_cat ((e_var rfl).imp fun d e => by rw [e]; exact hd) (z_disp (ap_cons (z_m (z_catT (z_catT (head rfl rfl) (z_tup (az_cons ((e_var rfl).imp fun d e => by rw [e]; exact hy) az_nil) rfl) rfl) (tail rfl rfl) rfl) fun d h => fit (by decide) h) ap_nil) rfl) rfl) rfl).imp fun d h x y e => h)
theorem marksOk_len : ∀ (ms : List PyData) (l : Int), marksOk l ms = true → l ≤ 7 → (ms.length : Int) + l ≤ 7
  | [], l, _, h => by
    show (0 : Int) + l ≤ 7
    omega
  | m :: r, l, h, hl => by
    have h : (isNum m (l + 1) 7 && marksOk (intOf m) r) = true := h
    rw [Bool.and_eq_true] at h
    obtain ⟨i, rfl, h1, h2⟩ := isNum_iff.mp h.1
    have ih := marksOk_len r i h.2 h2
    rw [List.length_cons]
    omega
theorem num_sz {d : PyData} {a b : Int} (h : isNum d a b = true) (h1 : -1000 ≤ a) (h2 : b ≤ 1000) : Sz 0 40 d := by
  obtain ⟨i, rfl, h3, h4⟩ := isNum_iff.mp h
  refine ⟨decide_eq_true (Nat.lt_of_lt_of_le (show i.natAbs < 1001 by omega) (by decide)), Nat.le_refl _⟩
theorem szs_of {ds : List PyData} {n k : Nat} (h : ∀ d ∈ ds, Sz n k d) : Szs n (ds.length * k) ds := by
  refine ⟨fun d hd => (h d hd).1, ?_⟩
  induction ds with
  | nil => exact Nat.zero_le _
  | cons x r ih =>
    have h1 := ih fun d hd => h d (List.mem_cons_of_mem _ hd)
    have h2 := (h x List.mem_cons_self).2
    show wt x + wts r ≤ (r.length + 1) * k
    rw [Nat.succ_mul]
    omega
/-- what is known of a right watcher -/
theorem right_shape {x : PyData} (h : isRight x = true) : ∃ a b c d ms, x = .tuple [a, b, c, d, .tuple ms] ∧ Szs 1 490 [a, b, c, d, .tuple ms] ∧ Szs 0 320 ms := by
  cases x with
  | tuple ds =>
    by_cases h5 : ds.length = 5
    · obtain ⟨a, b, c, d, e, rfl⟩ := five h5
      have h : (isNum a 1 30 && wideOk b (isNum b (intOf a) 30) && isNum c 0 30 && isNum d (intOf c) 30 && isTup e && marksOk (0 - 1) (itemsOf e)) = true := h
      rw [Bool.and_eq_true, Bool.and_eq_true, Bool.and_eq_true, Bool.and_eq_true, Bool.and_eq_true] at h
      obtain ⟨⟨⟨⟨⟨ha, hb⟩, hc⟩, hd⟩, he⟩, hm⟩ := h
      cases e with
      | tuple ms =>
        have hm : marksOk (0 - 1) ms = true := hm
        obtain ⟨i, rfl, i1, i2⟩ := isNum_iff.mp ha
        obtain ⟨j, rfl, j1, j2⟩ := isNum_iff.mp hc
        have l := marksOk_len ms (0 - 1) hm (by decide)
        have s0 : Szs 0 320 ms := (szs_of fun d hd => num_sz (((marks_asc ms (0 - 1)).mp hm).1 d hd) (by decide) (by decide)).mono (Nat.le_refl _) (by omega)
        have sb : Sz 1 40 b := by
          have hb : (isNone b || isNum b i 30) = true := hb
          rw [Bool.or_eq_true] at hb
          rcases hb with hb | hb
          · cases b with
            | none => exact ⟨rfl, by decide⟩
            | _ => cases hb
          · exact (num_sz hb (by omega) (by decide)).mono (by decide) (Nat.le_refl _)
        have sa := (num_sz ha (by decide) (by decide)).mono (show 0 ≤ 1 by decide) (Nat.le_refl _)
        have sc := (num_sz hc (by decide) (by decide)).mono (show 0 ≤ 1 by decide) (Nat.le_refl _)
        have sd := (num_sz hd (show -1000 ≤ j by omega) (by decide)).mono (show 0 ≤ 1 by decide) (Nat.le_refl _)
        have se : Sz 1 330 (.tuple ms) := ET.sz ⟨ms, rfl, s0⟩
        refine ⟨_, _, _, _, ms, rfl, ⟨fun x hx => ?_, ?_⟩, s0⟩
        · rcases List.mem_cons.mp hx with e | hx
          · rw [e]; exact sa.1
          rcases List.mem_cons.mp hx with e | hx
          · rw [e]; exact sb.1
          rcases List.mem_cons.mp hx with e | hx
          · rw [e]; exact sc.1
          rcases List.mem_cons.mp hx with e | hx
          · rw [e]; exact sd.1
          rcases List.mem_cons.mp hx with e | hx
          · rw [e]; exact se.1
          · cases hx
        · have := sb.2
          have := sd.2
          have := se.2
          show wt (.int i) + (wt b + (wt (.int j) + (wt d + (wt (.tuple ms) + 0)))) ≤ 490
          have e1 : wt (.int i) = 40 := rfl
          have e2 : wt (.int j) = 40 := rfl
          omega
      | _ => cases he
    · exfalso
      match ds, h5 with
      | [], _ => cases h
      | [_], _ => cases h
      | [_, _], _ => cases h
      | [_, _, _], _ => cases h
      | [_, _, _, _], _ => cases h
      | [_, _, _, _, _], h => exact absurd rfl h
      | _ :: _ :: _ :: _ :: _ :: _ :: _, _ => cases h
  | _ => cases h
abbrev QSpoil (K : PySem.W.Frag) : Sp := Q1 K (fun x => isRight x = true) fun _ d => Sz 6 3000 d
theorem d_spoilt {f : Addr} {fd : FuncData} (F : Fun K "_law_spoilt" "_law_spoilt" s_law_spoilt f fd) (T : Txt mg)
    (h_law_below : Fn P w K mg base 2 "_law_below" ["pot", "bound"] (QBelow K)) (h_law_pick : Fn P w K mg base 3 "_law_pick" ["pot", "items"] (QPick K))
    (h_law_muddled : Fn P w K mg base 4 "_law_muddled" ["pot", "row", "odd"] (QMud K)) : FnOk P w K mg base CX0 5 f fd ["pot", "watcher"] (QSpoil K) := by
  have sc := sc_law_spoilt
  refine ok_pot F sc (by decide) (fun ds ⟨x, e, _⟩ => by rw [e]; rfl) fun cdv A outer s H E hr => ⟨_, (pss_cons (ps_par (i := 2) (j := 3) rfl sc.nd rfl rfl (by decide) rfl rfl (pa_cons (pe_fn h_law_below (hr.mono (by decide)) (by rfl) (pa_cons (pv 0) (pa_cons pe_int pa_nil))) (pa_cons (pe_ix ix_tup (pv 1) pe_int (fun _ _ => rfl)) pa_nil)) rfl)
      (pss_cons (ps_set (i := 4) sc.nd rfl (by first | exact Or.inl rfl | exact Or.inr rfl) (pe_lst (pa_cons pe_non (pa_cons pe_bl (pa_cons pe_bl (pa_cons pe_int (pa_cons (pe_op op_sub pe_int pe_int) (pa_cons pe_int (pa_cons pe_str (pa_cons (pe_tup (pa_cons pe_int pa_nil)) (pa_cons (pe_lst pa_nil) (pa_cons pe_int (pa_cons pe_int (pa_cons pe_dnewK pa_nil))))))))))))))
      (pss_cons (ps_set (i := 5) sc.nd rfl (by first | exact Or.inl rfl | exact Or.inr rfl) (pe_lst (pa_cons (pe_op op_catA (pv 3) (pe_tup (pa_cons pe_int pa_nil))) (pa_cons (pe_revT (pv 3)) (pa_cons (pe_callTy call_list_of (by rfl) T.z_list bb_list (pa_cons (pv 3) pa_nil)) (pa_cons (pe_op op_catA (pv 3) (pe_slice sl_tupA (pv 3) po_none (po_some pe_int))) (pa_cons (pe_op op_catA (pe_tup (pa_cons (pe_op op_sub pe_int pe_int) pa_nil)) (pv 3)) (pa_cons (pe_op op_catA (pv 3) (pe_tup (pa_cons pe_non pa_nil))) (pa_cons (pe_tup (pa_cons pe_bl pa_nil)) pa_nil)))))))))
      (pss_cons (ps_set (i := 6) sc.nd rfl (by first | exact Or.inl rfl | exact Or.inr rfl) (pe_lst (pa_cons (pe_slice sl_tupA (pv 1) po_none (po_some pe_int)) (pa_cons (pe_op op_catA (pv 1) (pe_tup (pa_cons pe_int pa_nil))) (pa_cons (pe_callTy call_list_of (by rfl) T.z_list bb_list (pa_cons (pv 1) pa_nil)) (pa_cons (pe_revT (pv 1)) pa_nil))))))
      (pss_cons (ps_set (i := 7) sc.nd rfl (by first | exact Or.inl rfl | exact Or.inr rfl) (pe_fn h_law_muddled (hr.mono (by decide)) (by rfl) (pa_cons (pv 0) (pa_cons (pv 3) (pa_cons (pe_fn h_law_pick (hr.mono (by decide)) (by rfl) (pa_cons (pv 0) (pa_cons (pv 4) pa_nil))) pa_nil)))))
      (pss_cons (ps_set (i := 8) sc.nd rfl (by first | exact Or.inl rfl | exact Or.inr rfl) (pe_op op_catA (pe_op op_catA (pe_slice sl_tupA (pv 1) po_none (po_some (pv 2))) (pe_tup (pa_cons (pe_fn h_law_pick (hr.mono (by decide)) (by rfl) (pa_cons (pv 0) (pa_cons (pv 4) pa_nil))) pa_nil))) (pe_slice sl_tupA (pv 1) (po_some (pe_op op_add (pv 2) pe_int)) po_none)))
      (pss_one (ps_ret (pe_fn h_law_pick (hr.mono (by decide)) (by rfl) (pa_cons (pv 0) (pa_cons (pe_op op_cat (pe_op op_cat (pe_op op_rep (pe_lst (pa_cons (pv 8) pa_nil)) pe_int) (pe_op op_rep (pe_lst (pa_cons (pe_op op_catA (pe_slice sl_tupA (pv 1) po_none (po_some pe_int)) (pe_tup (pa_cons (pe_fn h_law_pick (hr.mono (by decide)) (by rfl) (pa_cons (pv 0) (pa_cons (pe_op op_cat (pv 5) (pe_op op_rep (pe_lst (pa_cons (pv 7) pa_nil)) pe_int)) pa_nil))) pa_nil))) pa_nil)) pe_int)) (pv 6)) pa_nil))))))))))), fun ds hp => ?_⟩
  obtain ⟨x, rfl, hx⟩ := hp
  obtain ⟨a, b, c, d, ms, rfl, sw, sm0⟩ := right_shape hx
  refine s_par (S := fun ds => ∃ k : Int, ds = [.int k, .tuple ms]) (lt_ble rfl) (lt_ble rfl) (a_cons (e_below rfl e_int (by decide)) (fun _ _ => a_one (e_op1 (e_var rfl) e_int (r_ixT1 (i := 4) (d := .tuple ms) rfl)) a_nil) fun x y ⟨k, e, _⟩ e2 => ⟨k, by rw [e, e2]⟩) (fun ds ⟨k, e⟩ => ⟨_, _, e⟩) fun x y ⟨k, e⟩ => ?_
  cases e
  have wat : ∀ {δ : Xh.Env}, δ[1]? = some (.dat (.tuple [a, b, c, d, .tuple ms])) → EvP K (tVar 1) δ (ET 4 490) := fun {δ} h => (e_var h).imp fun d e => ⟨_, e, sw.mono (by decide) (Nat.le_refl _)⟩
  have tho : ∀ {δ : Xh.Env}, δ[3]? = some (.dat (.tuple ms)) → EvP K (tVar 3) δ (ET 4 320) := fun {δ} h => (e_var h).imp fun d e => ⟨_, e, sm0.mono (by decide) (Nat.le_refl _)⟩
  -- odd
  refine s_asg (P := LP (Sz 3 100) 12) (lt_ble rfl) (z_disp (ap_cons (z_c e_non rfl rfl) (ap_cons (z_c e_bl rfl rfl) (ap_cons (z_c e_bl rfl rfl) (ap_cons (z_c e_int rfl rfl) (ap_cons (z_c (e_op1 e_int e_int r_sub) rfl rfl) (ap_cons (z_c e_int rfl rfl) (ap_cons (z_c e_str rfl rfl) (ap_cons (z_c (e_tupD (a_one e_int a_nil) rfl) rfl rfl)
    (ap_cons (z_c (e_lstD a_nil rfl) rfl rfl) (ap_cons (z_c e_int rfl rfl) (ap_cons (z_c e_int rfl rfl) (ap_cons (z_c e_dctD rfl rfl) ap_nil)))))))))))) rfl) fun od hod => ?_
  have odd : ∀ {δ : Xh.Env} {E : XK}, δ[0]? = some .pot → δ[4]? = some (.dat od) → EvP K (tCall (QPick K) [] E (tCons (tVar 0) (tCons (tVar 4) tNil))) δ (Sz 3 100) := fun {δ E} h h4 => lp_pick h ((e_var h4).imp fun d e => by rw [e]; exact hod) rfl
  have f5 : ∀ {k : Nat} {d : PyData}, k ≤ 1300 → ET 4 k d → Sz 5 1310 d := fun {k d} h e => e.sz.mono (Nat.le_refl _) (by omega)
  -- last
  refine s_asg (P := LP (Sz 5 1310) 7) (lt_ble rfl) (z_disp (ap_cons (z_m (z_catT (tho rfl) (z_tup (az_cons (z_c (k := 40) e_int rfl rfl) az_nil) rfl) rfl) fun d h => f5 (by decide) h) (ap_cons (z_m (z_revT (tho rfl)) fun d h => f5 (by decide) h)
    (ap_cons (z_m (z_listT (tho rfl)) fun d h => h.mono (Nat.le_refl _) (by decide)) (ap_cons (z_m (z_catT (tho rfl) (z_slT (tho rfl) o_non (o_int e_int)) rfl) fun d h => f5 (by decide) h)
    (ap_cons (z_m (z_catT (z_tup (az_cons (z_c (k := 40) (e_op1 e_int e_int r_sub) rfl rfl) az_nil) rfl) (tho rfl) rfl) fun d h => f5 (by decide) h) (ap_cons (z_m (z_catT (tho rfl) (z_tup (az_cons (z_c (k := 40) e_non rfl rfl) az_nil) rfl) rfl) fun d h => f5 (by decide) h)
    (ap_cons (z_c (e_tupD (a_one e_bl a_nil) rfl) rfl rfl) ap_nil))))))) rfl) fun la hla => ?_
  -- more
  refine s_asg (P := LP (Sz 6 3000) 4) (lt_ble rfl) (z_disp (ap_cons (z_m (z_slT (wat rfl) o_non (o_int e_int)) fun d h => (f5 (by decide) h).mono (by decide) (by decide)) (ap_cons (z_m (z_catT (wat rfl) (z_tup (az_cons (z_c (k := 40) e_int rfl rfl) az_nil) rfl) rfl) fun d h => (f5 (by decide) h).mono (by decide) (by decide))
    (ap_cons (z_m (z_listT (wat rfl)) fun d h => h.mono (by decide) (by decide)) (ap_cons (z_m (z_revT (wat rfl)) fun d h => (f5 (by decide) h).mono (by decide) (by decide)) ap_nil)))) rfl) fun mo hmo => ?_
  -- mixed, changed
  refine s_asg (P := Sz 4 1300) (lt_ble rfl) (d2 (S := ET 1 400) (T := Sz 3 100) rfl ((e_var rfl).imp fun d e => ⟨ms, e, sm0.mono (by decide) (by decide)⟩) (odd rfl rfl) (fun x y h1 h2 => ⟨h1, h2⟩) fun x y d h1 h2 h => h) fun mi hmi => ?_
  refine s_asg (P := Sz 5 1310) (lt_ble rfl) (z_m (z_catT (z_catT (z_slT (wat rfl) o_non (o_int (e_var rfl))) (z_tup (az_cons ((odd rfl rfl).imp fun d h => h.mono (show 3 ≤ 4 by decide) (Nat.le_refl _)) az_nil) rfl) rfl) (z_slT (wat rfl) (o_int (e_op1 (e_var rfl) e_int r_add)) o_non) rfl) fun d h => f5 (by decide) h) fun ch hch => ?_
  have inner : ∀ {δ : Xh.Env} {E : XK}, δ[0]? = some .pot → δ[5]? = some (.dat la) → δ[7]? = some (.dat mi) →
      EvP K (tCall (QPick K) [] E (tCons (tVar 0) (tCons (tOp rCat (tVar 5) (tOp rRep (tLst (tCons (tVar 7) tNil)) (tC (.int 4)))) tNil))) δ (Sz 5 1310) := fun {δ E} h0 h5 h7 =>
    lp_pick h0 (lp_cat ((e_var h5).imp fun d e => by rw [e]; exact hla) (lp_rep (c := 4) (z_disp (ap_cons ((e_var h7).imp fun d e => by rw [e]; exact hmi.mono (by decide) (by decide)) ap_nil) rfl) e_int ⟨rfl, rfl⟩ rfl) rfl) rfl
  exact n_ret ((lp_pick rfl (lp_cat (lp_cat (lp_rep (c := 6) (z_disp (p := Sz 6 3000) (ap_cons ((e_var rfl).imp fun d e => by rw [e]; exact hch.mono (by decide) (by decide)) ap_nil) rfl) e_int ⟨rfl, rfl⟩ rfl)
    (lp_rep (c := 5) (z_disp (ap_cons (z_m (z_catT ((z_slT (wat rfl) o_non (o_int e_int)).imp fun d ⟨ds, e, s⟩ => ⟨ds, e, s.mono (show 4 ≤ 5 by decide) (Nat.le_refl _)⟩) (z_tup (az_cons (inner rfl rfl rfl) az_nil) rfl) rfl) fun d h => h.sz.mono (Nat.le_refl _) (by decide)) ap_nil) rfl) e_int ⟨rfl, rfl⟩ rfl) rfl) ((e_var rfl).imp fun d e => by rw [e]; exact hmo) rfl) rfl).imp fun d h x e => h)
end

end K3
namespace K3
open PySem PySem.Spec PyProof.Rows L2 Xh
section
variable {P : Program} {w : World} {K : PySem.W.Frag} {mg : Str → Option Value} {base : Heap}
/-- what is known of the class NoWatcher -/
structure NoW (K : PySem.W.Frag) (mg : Str → Option Value) (C : Addr) : Prop where
  g : mg "NoWatcher" = some (.ref C)
  x : PySem.W.excIn K C [.type "ValueError", .type "Exception", .type "BaseException", .type "object"] "ValueError.__new__" = true
  k : PySem.W.keepIn K (.ref C) = true
  b : PySem.W.subIn K (.ref C) (.type "BaseException") = some true
  t : PySem.W.typeIn K (.ref C) = some (.type "type")
  i : PySem.W.isClsIn K C = true
  s : PySem.W.subIn K (.ref C) (.ref C) = some true
  e : PySem.W.exmOne K (.ref C) (.ref C) = some true
abbrev FMade (K : PySem.W.Frag) (cls : Addr) : Sp := PX K cls (fun ds => ds.length = 5 ∧ markLim (.tuple ds)) (fun ds d => d = .tuple ds ∧ isWatcher (.tuple ds) = true) fun ds => isWatcher (.tuple ds) = false
abbrev psMade : List Str := ["gap", "wide", "low", "high", "marks"]
theorem d_made {f cls : Addr} {fd : FuncData} {kws : List (Str × V)} (F : FunD K "made" "made" (defArgs s_made) (defBody s_made) (defScope s_made) [] kws f fd) (T : Txt mg) (Z : NoW K mg cls)
    (h_is_watcher : Fn P w K mg base 4 "is_watcher" ["thing"] (F1 K markLim fun x d => d = .bool (isWatcher x))) : FnOk P w K mg base (L2.CX P w) 5 f fd psMade (FMade K cls) := by
  have sc := sc_made
  refine F.ok sc (fun vs H Q E h => ?_) (fun cdv A outer s H vs Q E hr h => ?_)
  · obtain ⟨C, ds, _, _, dq, ⟨l, _⟩, _⟩ := h
    rw [dqAll_len dq, l]
    rfl
  · obtain ⟨C, ds, hC, g, dq, ⟨l5, lim⟩, ok, bad⟩ := h
    refine ⟨_, pss_cons (ps_set (i := 5) sc.nd rfl (Or.inl rfl) (pe_tup (pa_cons (pv 0) (pa_cons (pv 1) (pa_cons (pv 2) (pa_cons (pv 3) (pa_cons (pv 4) pa_nil)))))))
      (pss_cons (ps_if (pt_not (pt_val (pe_fn h_is_watcher (hr.mono (by decide)) (by rfl) (pa_cons (pv 5) pa_nil))))
        (pss_one (ps_raise rfl (takes_of rfl rfl rfl rfl) (pmk_own PySem.F.excBase_ValueError Z.x Z.g Z.k (raises_own Z.b Z.t) (by rfl)))) pss_nil)
      (pss_one (ps_ret (pv 5)))), ?_⟩
    obtain ⟨a, b, c, d, e, rfl⟩ := five l5
    have c0 : Cells K C (L2.start ["gap", "wide", "low", "high", "marks", "watcher"] vs) H [.dat a, .dat b, .dat c, .dat d, .dat e, .non] := start_cells (N0 := ["gap", "wide", "low", "high", "marks", "watcher"]) (by rw [dqAll_len dq]; exact Nat.le_of_ble_eq_true rfl) dq
    have e1 : EvP K (tTup (tCons (tVar 0) (tCons (tVar 1) (tCons (tVar 2) (tCons (tVar 3) (tCons (tVar 4) tNil)))))) [.dat a, .dat b, .dat c, .dat d, .dat e, .non] (· = .tuple [a, b, c, d, e]) :=
      e_tupD (a_one (e_var rfl) (a_one (e_var rfl) (a_one (e_var rfl) (a_one (e_var rfl) (a_one (e_var rfl) a_nil))))) rfl
    unfold tSeq tAsg gName
    refine e1 C _ H g c0 _ fun v x H1 k1 dx ex => ?_
    subst ex
    have c1' : Cells K C _ H1 _ := (c0.go g k1).set (i := 5) (lt_ble rfl) dx
    have e2 : EvB K (tNot (tB (tCall (F1 K markLim fun x d => d = .bool (isWatcher x)) [] E0 (tCons (tVar 5) tNil)))) [.dat a, .dat b, .dat c, .dat d, .dat e, .dat (.tuple [a, b, c, d, e])] (· = !isWatcher (.tuple [a, b, c, d, e])) :=
      b_not1 (b_B1 (c1 (e_var rfl) lim))
    unfold tIfS
    dsimp only
    refine e2 C _ H1 (g.go k1) c1' _ fun r H2 k2 er => ?_
    cases hw : isWatcher (.tuple [a, b, c, d, e]) with
    | true =>
      rw [hw] at er
      subst er
      refine iteF ?_
      exact ⟨v, by rw [List.getElem?_set_self]; rw [c0.len]; exact lt_ble rfl, ok v _ H2 (k1.trans k2) (k2.dq dx) ⟨rfl, hw⟩⟩
    | false =>
      rw [hw] at er
      subst er
      refine iteT ?_
      exact bad H2 (k1.trans k2) hw
end

end K3
namespace K3
open PySem PySem.Spec PyProof.Rows L2 Xh
section
variable {P : Program} {w : World} {K : PySem.W.Frag} {mg : Str → Option Value} {base : Heap}
/-- the def made, as it stands: its promise, its name, how its keywords bind -/
structure MadeAt (P : Program) (w : World) (K : PySem.W.Frag) (mg : Str → Option Value) (base : Heap) (cls f : Addr) (fd : FuncData) (kws : List (Str × V)) : Prop where
  ok : FnOk P w K mg base (L2.CX P w) 5 f fd psMade (FMade K cls)
  g : mg "made" = some (.ref f)
  k : PySem.W.keepIn K (.ref f) = true
  f : FunD K "made" "made" (defArgs s_made) (defBody s_made) (defScope s_made) [] kws f fd
theorem mk_all {f : Addr} {fd : FuncData} {kws : List (Str × V)} (hk : kws ≠ []) (F : FunD K "made" "made" (defArgs s_made) (defBody s_made) (defScope s_made) [] kws f fd) :
    ∃ mv : List Value, KBn K fd psMade 0 psMade (fun us ws => ws) (fun vs zs => zs) := by
  obtain ⟨mv, h⟩ := F.kbinds0 (ps := psMade) 0 psMade [] (fun {α} us mv ws => ws) hk (fun q h => absurd h List.not_mem_nil) (fun _ _ r => r) fun D doc pm an cdv ct us mv ws h1 h2 h3 => by
    match us, h1, mv, h2, ws, h3 with
    | [], _, [], _, [a, b, c, d, e], _ =>
      show bindArgs _ _ = pure _
      with_unfolding_all rfl
  exact ⟨mv, h⟩
abbrev GWord (K : PySem.W.Frag) : Sp := F1 K (fun x => (∃ ds, x = .tuple ds ∧ ds.length = 5) ∧ Show x ∧ markLim x) fun x d => d = (if isWatcher x then x else .str "watcher")
theorem d_law_word {f fM cls : Addr} {fd fdM : FuncData} {kws : List (Str × V)} (F : Fun K "_law_word" "_law_word" s_law_word f fd) (T : Txt mg) (Z : NoW K mg cls) (M : MadeAt P w K mg base cls fM fdM kws) (hk : kws ≠ []) :
    FnG P w K mg base CX0 6 f fd ["watcher"] (GWord K) := by
  have sc := sc_law_word
  obtain ⟨_, KB⟩ := mk_all hk M.f
  refine ok_pureG F sc (by decide) (fun ds ⟨x, e, _⟩ => by rw [e]; rfl) fun cdv A outer s H E hr gd => ⟨_,
    pss_cons (ps_par (i := 1) (j := 2) rfl sc.nd rfl rfl (by decide) rfl rfl (pa_cons pe_non (pa_cons (pe_callB (call_reprD gd hr.units) (by rfl) T.z_repr bb_repr (pa_cons (pv 0) pa_nil)) pa_nil)) rfl)
    (pss_cons (ps_try_as (tb := fun W => tAsg (tCallN0 5 (FMade K cls) (fun _ zs => zs) (WE W) (tCons (tOp (rIxT K) (tVar 0) (tC (.int 0))) (tCons (tOp (rIxT K) (tVar 0) (tC (.int 1))) (tCons (tOp (rIxT K) (tVar 0) (tC (.int 2))) (tCons (tOp (rIxT K) (tVar 0) (tC (.int 3))) (tCons (tOp (rIxT K) (tVar 0) (tC (.int 4))) tNil)))))) (gName 1)) (ts := fun _ _ _ => tAsg (tC (.str "watcher")) (gName 1)) (i := 3) rfl rfl sc.nd rfl rfl ⟨rfl, by decide, .inl Z.g⟩ takes0
      (fun W pn xe tk _ => pss_one (ps_set (i := 1) sc.nd rfl (Or.inl rfl) (pe_callN0 (E := WE W) M.ok hr (by rfl) M.g M.k KB (fun σ => passAt tk σ)
        (pk_cons (pe_ix ix_tup (pv 0) pe_int (fun _ _ => rfl)) (pk_cons (pe_ix ix_tup (pv 0) pe_int (fun _ _ => rfl)) (pk_cons (pe_ix ix_tup (pv 0) pe_int (fun _ _ => rfl)) (pk_cons (pe_ix ix_tup (pv 0) pe_int (fun _ _ => rfl)) (pk_cons (pe_ix ix_tup (pv 0) pe_int (fun _ _ => rfl)) pk_nil))))))))
      (fun a oe c d pn _ _ => pss_one (ps_set (i := 1) sc.nd rfl (Or.inl rfl) pe_str)))
    (pss_one (ps_ret (pe_ifExp (pt_cmpR op_eq (pe_callB (call_reprD gd hr.units) (by rfl) T.z_repr bb_repr (pa_cons (pv 0) pa_nil)) (pv 2) (nomark _)) (pv 1) pe_str)))), fun ds hp => ?_⟩
  obtain ⟨_, rfl, ⟨ds, rfl, l5⟩, hs, hl⟩ := hp
  obtain ⟨a, b, c, d, e, rfl⟩ := five l5
  have fin : ∀ v, v = (if isWatcher (.tuple [a, b, c, d, e]) then PyData.tuple [a, b, c, d, e] else .str "watcher") → ∀ x', [PyData.tuple [a, b, c, d, e]] = [x'] → v = (if isWatcher x' then x' else .str "watcher") := by
    rintro v rfl x' e
    cases e
    rfl
  refine s_par (S := fun ds => ds = [.none, .str (PyData.tuple [a, b, c, d, e]).shown]) (lt_ble rfl) (lt_ble rfl) (a_one e_non (a_one (e_call1 (a_one (e_var rfl) a_nil) (c_repr hs rfl)) a_nil)) (fun ds e => ⟨_, _, e⟩) fun x y e => ?_
  cases e
  refine n_seq (M := fun δ' => ∃ v, δ' = [.dat (.tuple [a, b, c, d, e]), .dat v, .dat (.str (PyData.tuple [a, b, c, d, e]).shown), .non] ∧ v = (if isWatcher (.tuple [a, b, c, d, e]) then PyData.tuple [a, b, c, d, e] else .str "watcher"))
    (n_try (zs := [a, b, c, d, e]) (z := "watcher") (fun _ => rfl) rfl (lt_ble rfl) (a_one (e_op1 (e_var rfl) e_int (r_ixT1 (i := 0) rfl)) (a_one (e_op1 (e_var rfl) e_int (r_ixT1 (i := 1) rfl)) (a_one (e_op1 (e_var rfl) e_int (r_ixT1 (i := 2) rfl)) (a_one (e_op1 (e_var rfl) e_int (r_ixT1 (i := 3) rfl)) (a_one (e_op1 (e_var rfl) e_int (r_ixT1 (i := 4) rfl)) a_nil)))))
      ⟨rfl, hl⟩ Z.e (fun d ⟨e1, e2⟩ => ⟨d, rfl, by rw [e2, e1]; rfl⟩) fun er => ⟨_, rfl, by rw [er]; rfl⟩) ?_
  rintro δ' ⟨v, rfl, hv⟩
  refine n_ret1 (e_if (β := (· = true)) ((b_test1 (e_op1 (e_call1 (a_one (e_var rfl) a_nil) (c_repr hs rfl)) (e_var rfl) (r_eq rfl rfl rfl rfl))).imp fun b e => by rw [e]; exact decide_eq_true rfl) (fun _ => e_var rfl) fun z => by cases z) (fin _ hv)
end

end K3
namespace K3
open PySem PySem.Spec PyProof.Rows L2 Xh
section
variable {P : Program} {w : World} {K : PySem.W.Frag} {mg : Str → Option Value} {base : Heap}
theorem d_law_pot_of {f : Addr} {fd : FuncData} (F : Fun K "_law_pot_of" "_law_pot_of" s_law_pot_of f fd) (T : Txt mg) : FnOk P w K mg base CX0 1 f fd ["script"] (FPotOf K) := by
  have sc := sc_law_pot_of
  refine F.ok sc (fun vs H Q E ⟨a, ns, e, _⟩ => by rw [e]; rfl) fun cdv A outer s H vs Q E hr h => ?_
  obtain ⟨a, ns, rfl, hS, hl, q⟩ := h
  refine ⟨_, (pss_cons (ps_setLc (i := 1) (own := [("cell", 2)]) (g := (gName 2)) (tt := tYes) rfl sc.nd rfl rfl (sw_true rfl rfl rfl (by decide +kernel)) (pi_list (pe_slice sl_list (pv 0) po_none (po_some pe_int))) (blkOk_by (N := ["script", "cells", "cell", "place"]) (sc := defScope s_law_pot_of) (own := [("cell", 2)]) (by decide +kernel)) (fun _ _ _ _ _ => (pg_name (i := 2) sc.nd rfl (Or.inl rfl))) (fun _ _ _ _ _ => pts_nil) (fun _ _ _ _ _ => (pe_callB call_abs (by rfl) T.z_abs bb_abs (pa_cons (pv 2) pa_nil))))
      (pss_cons (ps_for PassesOwn.never rfl (pi_enum (by rfl) T.z_enumerate (pa_cons (pe_slice sl_list (pv 0) (po_some pe_int) (po_some pe_int)) pa_nil)) (pg_tup rfl (pgs_cons (pg_name (i := 3) sc.nd rfl (by first | exact Or.inl rfl | exact Or.inr rfl)) (pgs_cons (pg_name (i := 2) sc.nd rfl (by first | exact Or.inl rfl | exact Or.inr rfl)) pgs_nil))) (pss_one (ps_asg (pe_op op_add (pe_ix ix_list (pv 1) (pe_op op_mod (pv 3) pe_int) (fun _ _ => rfl)) (pe_callB call_abs (by rfl) T.z_abs bb_abs (pa_cons (pv 2) pa_nil))) (pg_sub (pv 1) (pe_op op_mod (pv 3) pe_int) set_list (fun _ => rfl)))))
      (pss_one (ps_ret (pe_lst (pa_cons (pv 1) (pa_cons pe_int (pa_cons pe_int (pa_cons pe_int pa_nil))))))))), ?_⟩
  obtain ⟨qs, eq, hq⟩ := cut_rest ns
  unfold tSeq tAsg gName
  dsimp only
  refine ⟨V.ref a, rfl, ⟨17, rfl, a, _, rfl, hS, fun p np => ⟨p, rfl, ⟨_, .inl (.inl upd_same)⟩, fun D nD => ?_⟩⟩⟩
  rw [cut_first] at nD ⊢
  have hc : (ns.take 17).length ≤ 63 := by rw [List.length_take]; omega
  have hc17 : 17 < ns.length → (ns.take 17).length = 17 := fun h => by rw [List.length_take]; omega
  revert hc hc17 nD
  generalize ns.take 17 = zs
  intro nD hc hc17
  have pD : p ≠ D := fun e => by rw [e, upd_same] at nD; cases nD
  have nD0 : H D = none := by rw [← upd_ne (H := H) (a := p) (Ne.symm pD)]; exact nD
  refine ⟨fun i m H' => m = zs.length - i ∧ i ≤ zs.length ∧ ∃ acc : List Int, acc.length = i ∧ H' = upd (upd H p (.lst (zs.map V.int))) D (.lst (acc.map V.int)), ⟨_, rfl, Nat.zero_le _, [], rfl, rfl⟩, ?_⟩
  rintro i m H' ⟨rfl, hi, acc, ha, rfl⟩
  have hp : upd (upd H p (.lst (zs.map V.int))) D (.lst (acc.map V.int)) p = some (.lst (zs.map V.int)) := by rw [upd_ne pD, upd_same]
  by_cases hlt : i < zs.length
  · refine .inr ⟨⟨_, _, .inl (.inl hp), ints_get hlt⟩, fun H' => ∃ acc' : List Int, acc'.length = i + 1 ∧ H' = upd (upd H p (.lst (zs.map V.int))) D (.lst (acc'.map V.int)), fun H' ⟨acc', l, e⟩ => ⟨zs.length - (i + 1), by omega, rfl, hlt, acc', l, e⟩, ?_⟩
    rintro x H' ⟨rfl, hx⟩
    cases (hx _ (.inl (.inl hp))).symm.trans (ints_get hlt)
    refine ⟨rfl, ?_⟩
    unfold tYes
    dsimp only
    rw [if_pos rfl]
    refine ⟨_, rfl, _, rfl, acc.map V.int, upd_same, ?_, acc ++ [if zs[i] < 0 then -zs[i] else zs[i]], ?_, ?_⟩
    · rw [List.length_map, ha]
      exact Nat.lt_of_lt_of_le (by omega) (by decide : 100 ≤ sizeLine)
    · rw [List.length_append, ha]
      rfl
    · rw [L2.upd_upd, List.map_append]
      rfl
  · have e : i = zs.length := by omega
    refine .inl ⟨⟨_, .inl (.inl hp), by rw [List.length_map]; omega⟩, ?_⟩
    have s1 : Same H (upd (upd H p (.lst (zs.map V.int))) D (.lst (acc.map V.int))) := (same_new np).trans (same_new nD)
    refine ⟨V.ref a, rfl, ⟨17, rfl, 60, rfl, a, _, rfl, seqL_same s1 hS, fun p2 n2 => ⟨p2, _, rfl, .inl (.inl upd_same), ?_⟩⟩⟩
    rw [eq]
    have D2 : D ≠ p2 := fun z => by rw [← z, upd_same] at n2; cases n2
    refine ⟨fun i m σ' H' => m = qs.length - i ∧ i ≤ qs.length ∧ ∃ (x y : Option V) (cs : List Int), σ' = [some (.ref a), some (.ref D), x, y] ∧ cs.length = zs.length ∧ H' D = some (.lst (cs.map V.int)) ∧ H' p2 = some (.lst (qs.map V.int)) ∧ Same H H',
      ⟨_, rfl, Nat.zero_le _, none, none, acc, rfl, ha.trans e, by rw [upd_ne D2, upd_same], upd_same, s1.trans (same_new n2)⟩, ?_⟩
    rintro i m σ' H' ⟨rfl, hi, x, y, cs, rfl, hcs, hD, hp2, hs⟩
    by_cases hlt : i < qs.length
    · refine .inr ⟨⟨_, _, .inl (.inl hp2), ints_get hlt⟩, fun σ' H' => ∃ (x y : Option V) (cs : List Int), σ' = [some (.ref a), some (.ref D), x, y] ∧ cs.length = zs.length ∧ H' D = some (.lst (cs.map V.int)) ∧ H' p2 = some (.lst (qs.map V.int)) ∧ Same H H',
        fun σ' H' h => ⟨qs.length - (i + 1), by omega, rfl, hlt, h⟩, ?_⟩
      rintro v H' ⟨T', x', rfl, nT, rfl, hx⟩
      cases (hx _ (.inl (.inl hp2))).symm.trans (ints_get hlt)
      have hn : 17 < ns.length := hq fun z => by rw [z] at hlt; cases hlt
      have hz := hc17 hn
      have DT : D ≠ T' := fun z => by rw [← z, hD] at nT; cases nT
      have pT : p2 ≠ T' := fun z => by rw [← z, hp2] at nT; cases nT
      have jb : (i % 17 : Nat) < cs.length := by rw [hcs, hz]; exact Nat.mod_lt _ (by decide)
      have jx : ixN (cs.map V.int).length ((i : Int) % 17) = some (i % 17) := by
        rw [List.length_map]
        exact Evl.ixN_nat (j := i % 17) jb
      have ja : atI (cs.map V.int) ((i : Int) % 17) = some (.int cs[i % 17]) := by
        unfold atI
        rw [jx]
        exact ints_get jb
      refine ⟨T', _, rfl, .inl (.inl upd_same), rfl, _, _, rfl, _, _, rfl, rfl, ?_⟩
      refine ⟨V.ref D, rfl, .int i, rfl, i, 17, rfl, rfl, (by show (0 : Int) < 17; decide), ⟨D, _, _, _, rfl, rfl, .inl (.inl (by rw [upd_ne DT]; exact hD)), ja, _, rfl, _, rfl, _, _, rfl, rfl, ?_⟩⟩
      refine ⟨V.ref D, rfl, .int i, rfl, i, 17, rfl, rfl, (by show (0 : Int) < 17; decide), D, _, _, i % 17, rfl, rfl, by rw [upd_ne DT]; exact hD, jx, ?_⟩
      refine ⟨_, _, cs.set (i % 17) (cs[i % 17] + (if qs[i] < 0 then -qs[i] else qs[i])), rfl, by rw [List.length_set]; exact hcs, ?_, ?_, ?_⟩
      · rw [upd_same, List.map_set]
      · rw [upd_ne (Ne.symm D2), upd_ne pT]
        exact hp2
      · intro b o e
        have b1 : b ≠ D := fun z => by rw [z, nD0] at e; cases e
        have e1 := hs b o e
        have b2 : b ≠ T' := fun z => by rw [z, nT] at e1; cases e1
        rw [upd_ne b1, upd_ne b2]
        exact e1
    · refine .inl ⟨⟨_, .inl (.inl hp2), by rw [List.length_map]; omega⟩, ?_⟩
      refine ⟨V.ref D, rfl, ⟨(by show 4 ≤ sizeLine; decide), fun p3 n3 => q p3 D _ (hs.trans (same_new n3)) ⟨cs, 0, 0, 0, upd_same, ?_, by omega⟩⟩⟩
      rw [upd_ne fun z => by rw [← z, hD] at n3; cases n3]
      exact hD
end

end K3
namespace K3
open PySem PySem.Spec PyProof.Rows L2 Xh
section
variable {P : Program} {w : World} {K : PySem.W.Frag} {mg : Str → Option Value} {base : Heap}
def kwsMade (T : Addr) : List (Str × V) := [("gap", .int 1), ("wide", .non), ("low", .int 0), ("high", .int 0), ("marks", .ref T)]
abbrev dvMade (T : Addr) : List V := [.int 1, .non, .int 0, .int 0, .ref T]
abbrev gV1 (T : Addr) : List V → List V → List V := fun _ zs => [.int 1] ++ (zs ++ [.int 0, .int 0, .ref T])
abbrev gV2 : List V → List V → List V := fun _ zs => [.int 1, .non, .int 0] ++ zs
theorem mk_0 {f T : Addr} {fd : FuncData} (F : FunD K "made" "made" (defArgs s_made) (defBody s_made) (defScope s_made) [] (kwsMade T) f fd) : ∃ ds, Vals (dvMade T) ds ∧ Binds K fd psMade ds :=
  F.binds0 (ps := psMade) 0 (fun e => nomatch e) rfl fun D doc pm an cdv ct us ks h1 h2 => by
    match us, h1, ks, h2 with
    | [], _, [a, b, c, d, e], _ =>
      show KwChain D [("gap", a), ("wide", b), ("low", c), ("high", d), ("marks", e)] _ _
      exact ⟨_, _, _, _, _, _, rfl, rfl, _, _, _, _, _, _, rfl, rfl, _, _, _, _, _, _, rfl, rfl, _, _, _, _, _, _, rfl, rfl, _, _, _, _, _, _, rfl, rfl, rfl⟩
theorem mk_1 {f T : Addr} {fd : FuncData} (F : FunD K "made" "made" (defArgs s_made) (defBody s_made) (defScope s_made) [] (kwsMade T) f fd) :
    ∃ g, KBn K fd psMade 0 ["wide"] g (gV1 T) := by
  obtain ⟨mv, h⟩ := F.kbinds0 (ps := psMade) 0 ["wide"] [("gap", .int 1), ("low", .int 0), ("high", .int 0), ("marks", .ref T)] (fun {α} us mv ws => mv.take 1 ++ (ws ++ mv.drop 1)) (fun e => nomatch e) (fun q h => by
      simp only [List.mem_cons, List.not_mem_nil, or_false] at h
      unfold kwsMade
      rcases h with h | h | h | h <;> rw [h] <;> simp) (fun _ r1 r2 => (r1.take 1).append (r2.append (r1.drop 1))) fun D doc pm an cdv ct us mv ws h1 h2 h3 => by
    match us, h1, mv, h2, ws, h3 with
    | [], _, [a, b, c, d], _, [e], _ =>
      show KwChain D [("gap", a), ("low", b), ("high", c), ("marks", d)] _ _
      exact ⟨_, _, _, _, _, _, rfl, rfl, _, _, _, _, _, _, rfl, rfl, _, _, _, _, _, _, rfl, rfl, _, _, _, _, _, _, rfl, rfl, rfl⟩
  exact ⟨_, h⟩
theorem mk_2 {f T : Addr} {fd : FuncData} (F : FunD K "made" "made" (defArgs s_made) (defBody s_made) (defScope s_made) [] (kwsMade T) f fd) :
    ∃ g, KBn K fd psMade 0 ["high", "marks"] g gV2 := by
  obtain ⟨mv, h⟩ := F.kbinds0 (ps := psMade) 0 ["high", "marks"] [("gap", .int 1), ("wide", .non), ("low", .int 0)] (fun {α} us mv ws => mv ++ ws) (fun e => nomatch e) (fun q h => by
      simp only [List.mem_cons, List.not_mem_nil, or_false] at h
      unfold kwsMade
      rcases h with h | h | h <;> rw [h] <;> simp) (fun _ r1 r2 => r1.append r2) fun D doc pm an cdv ct us mv ws h1 h2 h3 => by
    match us, h1, mv, h2, ws, h3 with
    | [], _, [a, b, c], _, [d, e], _ =>
      show KwChain D [("gap", a), ("wide", b), ("low", c)] _ _
      exact ⟨_, _, _, _, _, _, rfl, rfl, _, _, _, _, _, _, rfl, rfl, _, _, _, _, _, _, rfl, rfl, rfl⟩
  exact ⟨_, h⟩
theorem lim_sz {n k : Nat} {x : PyData} (h : Sz n k x) (hk : k ≤ 100000) : markLim x := by
  rintro a b c d ms rfl
  have h1 := h.2
  have h2 : wt (.tuple ms) ≤ wts [a, b, c, d, .tuple ms] := wt_mem (by simp)
  have h3 : wt (PyData.tuple [a, b, c, d, .tuple ms]) = wts [a, b, c, d, .tuple ms] + 10 := rfl
  have h4 : wt (PyData.tuple ms) = wts ms + 10 := rfl
  have h5 := wts_len ms
  omega
theorem num_flat {d : PyData} {a b : Int} (h : isNum d a b = true) : d.canLay0 = true ∧ d.depth = 0 := by
  obtain ⟨i, rfl, _⟩ := isNum_iff.mp h
  exact ⟨rfl, rfl⟩
theorem flat_all : ∀ ds : List PyData, (∀ d ∈ ds, d.canLay0 = true ∧ d.depth = 0) → PyData.canLayAll0 ds = true ∧ PyData.depthAll ds = 0
  | [], _ => ⟨rfl, rfl⟩
  | x :: r, h => by
    obtain ⟨h1, h2⟩ := h x List.mem_cons_self
    obtain ⟨h3, h4⟩ := flat_all r fun d hd => h d (List.mem_cons_of_mem _ hd)
    exact ⟨show (x.canLay0 && PyData.canLayAll0 r) = true by rw [h1, h3]; rfl, show max x.depth (PyData.depthAll r) = 0 by rw [h2, h4]; rfl⟩
theorem right_shaped {x : PyData} (h : isRight x = true) : SeqAt.shaped x = true := by
  cases x with
  | tuple ds =>
    by_cases h5 : ds.length = 5
    · obtain ⟨a, b, c, d, e, rfl⟩ := five h5
      have h : (isNum a 1 30 && wideOk b (isNum b (intOf a) 30) && isNum c 0 30 && isNum d (intOf c) 30 && isTup e && marksOk (0 - 1) (itemsOf e)) = true := h
      rw [Bool.and_eq_true, Bool.and_eq_true, Bool.and_eq_true, Bool.and_eq_true, Bool.and_eq_true] at h
      obtain ⟨⟨⟨⟨⟨ha, hb⟩, hc⟩, hd⟩, he⟩, hm⟩ := h
      cases e with
      | tuple ms =>
        have hm : marksOk (0 - 1) ms = true := hm
        obtain ⟨m1, m2⟩ := flat_all ms fun d hd => num_flat (((marks_asc ms (0 - 1)).mp hm).1 d hd)
        have fb : b.canLay0 = true ∧ b.depth = 0 := by
          have hb : (isNone b || isNum b (intOf a) 30) = true := hb
          rw [Bool.or_eq_true] at hb
          rcases hb with hb | hb
          · cases b with
            | none => exact ⟨rfl, rfl⟩
            | _ => cases hb
          · exact num_flat hb
        show ((a.canLay0 && (b.canLay0 && (c.canLay0 && (d.canLay0 && (PyData.canLayAll0 ms && true))))) && decide (max a.depth (max b.depth (max c.depth (max d.depth (max (PyData.depthAll ms + 1) 0)))) + 1 ≤ 64)) = true
        rw [(num_flat ha).1, (num_flat ha).2, fb.1, fb.2, (num_flat hc).1, (num_flat hc).2, (num_flat hd).1, (num_flat hd).2, m1, m2]
        rfl
      | _ => cases he
    · match ds, h5 with
      | [], _ => cases h
      | [_], _ => cases h
      | [_, _], _ => cases h
      | [_, _, _], _ => cases h
      | [_, _, _, _], _ => cases h
      | [_, _, _, _, _], z => exact absurd rfl z
      | _ :: _ :: _ :: _ :: _ :: _ :: _, _ => cases h
  | _ => cases h
theorem right_sz {x : PyData} (h : isRight x = true) : Sz 2 500 x := by
  obtain ⟨a, b, c, d, ms, rfl, sw, sm0⟩ := right_shape h
  exact ET.sz ⟨_, rfl, sw⟩
theorem d_law {f fM cls T0 : Addr} {fd fdM : FuncData} (F : Fun K "law" "law" s_law f fd) (T : Txt mg) (M : MadeAt P w K mg base cls fM fdM (kwsMade T0)) (hT : ∀ H, Dq K H (.ref T0) (.tuple []))
    (h_law_pot_of : Fn P w K mg base 1 "_law_pot_of" ["script"] (FPotOf K)) (h_law_some_watcher : Fn P w K mg base 4 "_law_some_watcher" ["pot"] (QWatch K)) (h_law_spoilt : Fn P w K mg base 5 "_law_spoilt" ["pot", "watcher"] (QSpoil K))
    (h_law_is_right : Fn P w K mg base 2 "_law_is_right" ["thing"] (F1 K (fun _ => True) fun x d => d = .bool (isRight x))) (h_is_watcher : Fn P w K mg base 4 "is_watcher" ["thing"] (F1 K markLim fun x d => d = .bool (isWatcher x)))
    (h_law_word : FnGG P w K mg base 6 "_law_word" ["watcher"] (GWord K)) : FnG P w K mg base CX0 7 f fd ["script"] (spLaw K) := by
  have sc := sc_law
  obtain ⟨ds0, v0, B0⟩ := mk_0 M.f
  obtain ⟨g1, KB1⟩ := mk_1 M.f
  obtain ⟨g2, KB2⟩ := mk_2 M.f
  refine okG_law (i := 1) F sc (by decide) (by decide) fun cdv A outer s H E hr gd => ⟨_, (pss_cons (ps_set (i := 1) sc.nd rfl (by first | exact Or.inl rfl | exact Or.inr rfl) (pe_fn h_law_pot_of (hr.mono (by decide)) (by rfl) (pa_cons (pv 0) pa_nil)))
      (pss_cons (ps_if (pw_or (pt_cmpR (op_neQ hr.units) (pe_call0 (E := E0) M.ok (hr.mono (by decide)) (by rfl) M.g M.k B0 v0 passX0) (pe_tup (pa_cons pe_int (pa_cons pe_non (pa_cons pe_int (pa_cons pe_int (pa_cons (pe_tup pa_nil) pa_nil)))))) (nomark _)) (pw_or1 (pt_cmpR (op_neQ hr.units) (pe_callN0 (E := fun _ => E0) M.ok (hr.mono (by decide)) (by rfl) M.g M.k KB1 (fun σ => passX0S σ) (pk_cons pe_int pk_nil)) (pe_tup (pa_cons pe_int (pa_cons pe_int (pa_cons pe_int (pa_cons pe_int (pa_cons (pe_tup pa_nil) pa_nil)))))) (nomark _)))).pt (pss_one (ps_ret pe_bl)) pss_nil)
      (pss_cons (ps_if (pt_cmpR (op_neQ hr.units) (pe_callN0 (E := fun _ => E0) M.ok (hr.mono (by decide)) (by rfl) M.g M.k KB2 (fun σ => passX0S σ) (pk_cons pe_int (pk_cons (pe_tup (pa_cons pe_int pa_nil)) pk_nil))) (pe_tup (pa_cons pe_int (pa_cons pe_non (pa_cons pe_int (pa_cons pe_int (pa_cons (pe_tup (pa_cons pe_int pa_nil)) pa_nil)))))) (nomark _)) (pss_one (ps_ret pe_bl)) pss_nil)
      (pss_cons (ps_for PassesOwn.never rfl (pi_range1 rfl T.z_range (pa_cons pe_int pa_nil)) (pg_name (i := 2) sc.nd rfl (by first | exact Or.inl rfl | exact Or.inr rfl)) (pss_cons (ps_set (i := 3) sc.nd rfl (by first | exact Or.inl rfl | exact Or.inr rfl) (pe_fn h_law_some_watcher (hr.mono (by decide)) (by rfl) (pa_cons (pv 1) pa_nil)))
      (pss_cons (ps_set (i := 4) sc.nd rfl (by first | exact Or.inl rfl | exact Or.inr rfl) (pe_fn h_law_spoilt (hr.mono (by decide)) (by rfl) (pa_cons (pv 1) (pa_cons (pv 3) pa_nil))))
      (pss_cons (ps_set (i := 5) sc.nd rfl (by first | exact Or.inl rfl | exact Or.inr rfl) (pe_ifExp (pt_val (pe_fn h_law_is_right (hr.mono (by decide)) (by rfl) (pa_cons (pv 4) pa_nil))) (pe_fn h_law_spoilt (hr.mono (by decide)) (by rfl) (pa_cons (pv 1) (pa_cons (pv 4) pa_nil))) (pv 4)))
      (pss_one (ps_for PassesOwn.never rfl (pi_list (pe_lst (pa_cons (pv 3) (pa_cons (pv 4) (pa_cons (pv 5) (pa_cons pe_non (pa_cons (pe_tup pa_nil) (pa_cons pe_str (pa_cons pe_dnewK (pa_cons (pe_lst (pa_cons pe_int pa_nil)) pa_nil)))))))))) (pg_name (i := 6) sc.nd rfl (by first | exact Or.inl rfl | exact Or.inr rfl)) (pss_cons (ps_par (i := 7) (j := 8) rfl sc.nd rfl rfl (by decide) rfl rfl (pa_cons (pe_callB (call_reprD gd hr.units) (by rfl) T.z_repr bb_repr (pa_cons (pv 6) pa_nil)) (pa_cons (pe_fn h_law_is_right (hr.mono (by decide)) (by rfl) (pa_cons (pv 6) pa_nil)) pa_nil)) rfl)
      (pss_cons (ps_if (pw_or (pt_cmpR op_ne (pe_callB (call_reprD gd hr.units) (by rfl) T.z_repr bb_repr (pa_cons (pe_fn h_is_watcher (hr.mono (by decide)) (by rfl) (pa_cons (pv 6) pa_nil)) pa_nil)) (pe_callB (call_reprD gd hr.units) (by rfl) T.z_repr bb_repr (pa_cons (pv 8) pa_nil)) (nomark _)) (pw_or1 (pt_cmpR op_ne (pe_callB (call_reprD gd hr.units) (by rfl) T.z_repr bb_repr (pa_cons (pv 6) pa_nil)) (pv 7) (nomark _)))).pt (pss_one (ps_ret pe_bl)) pss_nil)
      (pss_one (ps_if (pw_and (pt_val (pe_callB (call_isD "tuple") (by rfl) T.z_isinstance bb_isinstance (pa_cons (pv 6) (pa_cons (pe_bltn (v := .ty "tuple") (by rfl) T.z_tuple bb_tuple rfl) pa_nil)))) (pw_and (pt_cmpR op_eq (pe_callB call_len_seq (by rfl) T.z_len bb_len (pa_cons (pv 6) pa_nil)) pe_int (nomark _)) (pw_and1 (pt_cmpR (op_neQ hr.units) (pe_fnG h_law_word (hr.mono (by decide)) gd (by rfl) (pa_cons (pv 6) pa_nil)) (pe_ifExp (pt_val (pv 8)) (pv 6) pe_str) (nomark _))))).pt (pss_one (ps_ret pe_bl)) pss_nil))))))))))
      (pss_one (ps_ret pe_bl)))))), ?_⟩
  have ne : ∀ {δ : Xh.Env} {ta tb : TE} {d : PyData}, EvP K ta δ (· = d) → EvP K tb δ (· = d) → SeqAt.shaped d = true → EvB K (tTest (tOp (rNeQ K) ta tb)) δ (· = false) := fun {δ ta tb d} h1 h2 hs =>
    b_test1 (e_op1 h1 h2 (r_neQ hs hs (by rw [SeqAt.eqv_refl d (SeqAt.canLay_of_shaped hs)]; rfl)))
  have lim : ∀ (a b c d : PyData) (ms : List PyData), ms.length ≤ 10 → markLim (.tuple [a, b, c, d, .tuple ms]) := by
    intro a b c d ms h a' b' c' d' ms' e
    cases e
    omega
  have m0 : ∀ {δ : Xh.Env}, EvP K (tCall (FMade K cls) (dvMade T0) E0 tNil) δ (· = .tuple [.int 1, .none, .int 0, .int 0, .tuple []]) := fun {δ} =>
    e_callX0 (ds := [.int 1, .none, .int 0, .int 0, .tuple []]) (fun H => .cons (.int 1) (.cons .non (.cons (.int 0) (.cons (.int 0) (.cons (hT H) .nil))))) ⟨rfl, lim _ _ _ _ _ (Nat.zero_le _)⟩
      (fun e => by cases (show isWatcher (.tuple [.int 1, .none, .int 0, .int 0, .tuple []]) = true from rfl).symm.trans e) fun d e => e.1
  have m1 : ∀ {δ : Xh.Env}, EvP K (tCallN0 1 (FMade K cls) (gV1 T0) (fun _ => E0) (tCons (tC (.int 2)) tNil)) δ (· = .tuple [.int 1, .int 2, .int 0, .int 0, .tuple []]) := fun {δ} =>
    e_callX (zs := [PyData.int 2]) (gD := fun ds => [PyData.int 1] ++ (ds ++ [PyData.int 0, PyData.int 0, PyData.tuple []])) (fun H vs ds h e => show DqAll K H (V.int 1 :: (vs ++ [.int 0, .int 0, .ref T0])) (PyData.int 1 :: (ds ++ [PyData.int 0, PyData.int 0, PyData.tuple []])) from .cons (.int 1) (dqAll_app h (.cons (.int 0) (.cons (.int 0) (.cons (hT H) .nil))))) rfl (a_one e_int a_nil) ⟨rfl, lim _ _ _ _ _ (Nat.zero_le _)⟩
      (fun e => by cases (show isWatcher (.tuple [.int 1, .int 2, .int 0, .int 0, .tuple []]) = true from rfl).symm.trans e) fun d e => e.1
  have m2 : ∀ {δ : Xh.Env}, EvP K (tCallN0 2 (FMade K cls) gV2 (fun _ => E0) (tCons (tC (.int 3)) (tCons (tTup (tCons (tC (.int 1)) tNil)) tNil))) δ (· = .tuple [.int 1, .none, .int 0, .int 3, .tuple [.int 1]]) := fun {δ} =>
    e_callX (zs := [PyData.int 3, PyData.tuple [PyData.int 1]]) (gD := fun ds => [PyData.int 1, PyData.none, PyData.int 0] ++ ds) (fun H vs ds h e => .cons (.int 1) (.cons .non (.cons (.int 0) h))) rfl (a_one e_int (a_one (e_tupD (a_one e_int a_nil) rfl) a_nil)) ⟨rfl, lim _ _ _ _ _ (by decide)⟩
      (fun e => by cases (show isWatcher (.tuple [.int 1, .none, .int 0, .int 3, .tuple [.int 1]]) = true from rfl).symm.trans e) fun d e => e.1
  have e0 : ∀ {δ : Xh.Env}, EvP K (tTup tNil) δ (· = .tuple []) := fun {δ} => e_tupD a_nil rfl
  refine s_if (β := (· = false)) (b_or1 (a := false) (b := false) (ne m0 (e_tupD (a_one e_int (a_one e_non (a_one e_int (a_one e_int (a_one e0 a_nil))))) rfl) rfl) fun _ => ne m1 (e_tupD (a_one e_int (a_one e_int (a_one e_int (a_one e_int (a_one e0 a_nil))))) rfl) rfl) (fun z => nomatch z) fun _ => ?_
  refine s_if (β := (· = false)) (ne m2 (e_tupD (a_one e_int (a_one e_non (a_one e_int (a_one e_int (a_one (e_tupD (a_one e_int a_nil) rfl) a_nil))))) rfl) rfl) (fun z => nomatch z) fun _ => ?_
  have c0 : cellsLaw 9 1 = [.non, .pot, .non, .non, .non, .non, .non, .non, .non] := rfl
  show Xh.Run K _ (cellsLaw 9 1) _ _ _ _
  rw [c0]
  refine n_seq (M := fun _ => True) (n_for (i_rngN (a_one e_int a_nil) (by decide)) fun ds _ => ⟨fun _ δ' => ∃ c1 c2 c3 c4 c5 c6 c7, δ' = [.non, .pot, c1, c2, c3, c4, c5, c6, c7], ⟨_, _, _, _, _, _, _, rfl⟩, ?_, fun _ _ => trivial⟩) ?_
  · rintro i d δ' _ ⟨k1, k2, k3, k4, k5, k6, k7, rfl⟩
    refine ⟨_, _, g_name (lt_ble rfl), ?_⟩
    refine s_asg (P := fun d => isRight d = true) (lt_ble rfl) (d0 rfl) fun x hx => ?_
    refine s_asg (P := Sz 6 3000) (lt_ble rfl) (d1 (S := (· = x)) rfl (e_var rfl) (fun y e => by rw [e]; exact hx) fun y d e h => h) fun y hy => ?_
    refine s_asg (P := Sz 6 3000) (lt_ble rfl) (e_if (β := (· = isRight y)) (b_B1 (c1 (e_var rfl) trivial)) (fun e => d1 (S := (· = y)) rfl (e_var rfl) (fun z e' => by rw [e']; exact e.symm) fun z d e h => h) fun _ => (e_var rfl).imp fun d e => by rw [e]; exact hy) fun z hz => ?_
    have hx6 : Sz 6 3000 x := (right_sz hx).mono (by decide) (by decide)
    have cz : ∀ {δ : Xh.Env} {te : TE} {d : PyData}, EvP K te δ (· = d) → sm 6 d = true → Nat.ble (wt d) 3000 = true → EvP K te δ (Sz 6 3000) := fun {δ te d} h h1 h2 => z_c h h1 h2
    refine n_for (S := fun ds => LP (Sz 6 3000) 8 (.list ds)) (i_list ((z_disp (ap_cons ((e_var rfl).imp fun d e => by rw [e]; exact hx6) (ap_cons ((e_var rfl).imp fun d e => by rw [e]; exact hy) (ap_cons ((e_var rfl).imp fun d e => by rw [e]; exact hz) (ap_cons (cz e_non rfl rfl)
      (ap_cons (cz e0 rfl rfl) (ap_cons (cz e_str rfl rfl) (ap_cons (cz e_dctD rfl rfl) (ap_cons (cz (e_lstD (a_one e_int a_nil) rfl) rfl rfl) ap_nil)))))))) rfl).imp fun d ⟨ds, e, h⟩ => ⟨ds, e, ds, rfl, h⟩)) fun ds hds =>
      ⟨fun _ δ' => ∃ c1 c2 c3 c4 c5 c6 c7, δ' = [.non, .pot, c1, c2, c3, c4, c5, c6, c7], ⟨_, _, _, _, _, _, _, rfl⟩, ?_, fun _ h => h⟩
    rintro j v δ' hv ⟨l1, l2, l3, l4, l5, l6, l7, rfl⟩
    have sv : Sz 6 3000 v := by
      obtain ⟨ds', e, _, _, h⟩ := hds
      cases e
      exact h v (List.mem_of_getElem? hv)
    have sh := sv.show (by decide) (by decide)
    have lv : markLim v := lim_sz sv (by decide)
    have shB : ∀ b : Bool, Show (.bool b) := fun b => Sz.show (n := 1) (k := 100) ⟨rfl, by show 10 ≤ 100; decide⟩ (by decide) (by decide)
    refine ⟨_, _, g_name (lt_ble rfl), ?_⟩
    refine s_par (S := (· = [.str v.shown, .bool (isRight v)])) (lt_ble rfl) (lt_ble rfl) (a_one (e_call1 (a_one (e_var rfl) a_nil) (c_repr sh rfl)) (a_one (c1 (e_var rfl) trivial) a_nil)) (fun ds e => ⟨_, _, e⟩) fun p q e => ?_
    cases e
    refine s_if (β := (· = false)) (b_or1 (a := false) (b := false) (b_test1 (e_op1 (e_call1 (a_one (c1 (e_var rfl) lv) a_nil) (c_repr (shB _) rfl)) (e_call1 (a_one (e_var rfl) a_nil) (c_repr (shB _) rfl)) (r_ne rfl rfl rfl (by rw [watcher_right]; simp))))
      fun _ => b_test1 (e_op1 (e_call1 (a_one (e_var rfl) a_nil) (c_repr sh rfl)) (e_var rfl) (r_ne rfl rfl rfl (by simp)))) (fun z => nomatch z) fun _ => ?_
    refine n_if (β := (· = false)) (b_and (α := (· = isTup v)) (β := (· = false)) (b_B1 (e_isD1 (e_var rfl) (kTup v))) (fun e => ?_) (fun _ => rfl) fun _ _ e => e) (fun z => nomatch z) fun _ => n_next ⟨_, _, _, _, _, _, _, rfl⟩
    cases v with
    | tuple vs =>
      refine b_and (α := (· = decide (V.int (vs.length : Int) = V.int 5))) (β := (· = false)) (b_test1 (e_op1 (e_lenT1 (e_var rfl)) e_int (r_eq rfl rfl rfl rfl))) (fun e => ?_) (fun _ => rfl) fun _ _ e => e
      have h5 : vs.length = 5 := by
        have e1 := of_decide_eq_true e.symm
        injection e1 with e2
        omega
      cases hr' : isRight (.tuple vs) with
      | true =>
        refine ne (d := .tuple vs) ?_ (e_if (β := (· = true)) (b_B1 ((e_var rfl).imp fun d e => by rw [e])) (fun _ => e_var rfl) fun z => nomatch z) (right_shaped hr')
        exact (c1 (e_var rfl) ⟨⟨vs, rfl, h5⟩, sh, lv⟩).imp fun d e => by rw [e, watcher_right, hr']; rfl
      | false =>
        refine ne (d := .str "watcher") ?_ (e_if (β := (· = false)) (b_B1 ((e_var rfl).imp fun d e => by rw [e])) (fun z => nomatch z) fun _ => e_str) (by decide +kernel)
        exact (c1 (e_var rfl) ⟨⟨vs, rfl, h5⟩, sh, lv⟩).imp fun d e => by rw [e, watcher_right, hr']; rfl
    | _ => cases e
  · intro δ' _
    exact n_ret1 e_bl rfl
end

end K3
namespace K3
open PySem PySem.Spec PyProof.Rows L2 Xh
/-! the top -/
structure DefAt (K : PySem.W.Frag) (x : Str) (st : Stmt) : Prop where
  ex : ∃ (f : Addr) (fd : FuncData), PySem.W.nsIn K mainGlobals x = some (some (.ref f)) ∧ Fun K x x st f fd
theorem def_at {K : PySem.W.Frag} {x : Str} {st : Stmt} {f : Addr} {oc : Value} {od an : Option Addr} {osl : Array (Option Value)} {kV doc pm cdv ct : Value} (a : PySem.W.nsIn K mainGlobals x = some (some (.ref f)))
    (l : K.lookup f = some ⟨oc, od, .func (PySem.W.fnOf x x (defArgs st) (defBody st) (defScope st) .none kV doc pm an cdv ct), osl⟩) (c : PySem.W.codeIn K cdv x = true) (k : PySem.W.keepIn K (.ref f) = true) : DefAt K x st :=
  ⟨f, _, a, fun_mk l c k⟩
theorem DefAt.fn {P : Program} {w : World} {K : PySem.W.Frag} {mg : Str → Option Value} {base h : Heap} {x : Str} {st : Stmt} {ps : List Str} {sp : Sp} {k : Nat} (D : DefAt K x st) (X : K.In h) (G : h.Ns mainGlobals mg)
    (ok : ∀ f fd, Fun K x x st f fd → FnOk P w K mg base CX0 k f fd ps sp)
    (b : ∀ (kV doc pm : Value) (an : Option Addr) (cdv ct : Value) (us : List Value), us.length = ps.length → bindArgs (PySem.W.fnOf x x (defArgs st) (defBody st) (defScope st) .none kV doc pm an cdv ct) ⟨us, []⟩ = pure (ps.zip us)) : Fn P w K mg base k x ps sp := by
  obtain ⟨f, fd, a, F⟩ := D.ex
  exact ⟨f, fd, ok f fd F, PySem.W.mg_of X G a, F.kp, F.binds b⟩
theorem DefAt.fnG {P : Program} {w : World} {K : PySem.W.Frag} {mg : Str → Option Value} {base h : Heap} {x : Str} {st : Stmt} {ps : List Str} {sp : Sp} {k : Nat} (D : DefAt K x st) (X : K.In h) (G : h.Ns mainGlobals mg)
    (ok : ∀ f fd, Fun K x x st f fd → FnG P w K mg base CX0 k f fd ps sp)
    (b : ∀ (kV doc pm : Value) (an : Option Addr) (cdv ct : Value) (us : List Value), us.length = ps.length → bindArgs (PySem.W.fnOf x x (defArgs st) (defBody st) (defScope st) .none kV doc pm an cdv ct) ⟨us, []⟩ = pure (ps.zip us)) : FnGG P w K mg base k x ps sp := by
  obtain ⟨f, fd, a, F⟩ := D.ex
  exact ⟨f, fd, ok f fd F, PySem.W.mg_of X G a, F.kp, F.binds b⟩
structure TopK (K : PySem.W.Frag) : Prop where
  z_abs : PySem.W.nsIn K mainGlobals "abs" = some none
  z_all : PySem.W.nsIn K mainGlobals "all" = some none
  z_bool : PySem.W.nsIn K mainGlobals "bool" = some none
  z_enumerate : PySem.W.nsIn K mainGlobals "enumerate" = some none
  z_int : PySem.W.nsIn K mainGlobals "int" = some none
  z_isinstance : PySem.W.nsIn K mainGlobals "isinstance" = some none
  z_len : PySem.W.nsIn K mainGlobals "len" = some none
  z_list : PySem.W.nsIn K mainGlobals "list" = some none
  z_range : PySem.W.nsIn K mainGlobals "range" = some none
  z_repr : PySem.W.nsIn K mainGlobals "repr" = some none
  z_tuple : PySem.W.nsIn K mainGlobals "tuple" = some none
  z_zip : PySem.W.nsIn K mainGlobals "zip" = some none
  m_P : ∃ t, PySem.W.nsIn K mainGlobals "MOST_PLACES" = some (some (.int 8 t))
  m_S : ∃ t, PySem.W.nsIn K mainGlobals "MOST_STEPS" = some (some (.int 30 t))
theorem TopK.txt {K : PySem.W.Frag} {mg : Str → Option Value} {h : Heap} (T : TopK K) (X : K.In h) (G : h.Ns mainGlobals mg) : Txt mg :=
  let n := fun {x : Str} (e : PySem.W.nsIn K mainGlobals x = some none) => PySem.W.mg_none_of X G e
  { z_abs := n T.z_abs, z_all := n T.z_all, z_bool := n T.z_bool, z_enumerate := n T.z_enumerate, z_int := n T.z_int, z_isinstance := n T.z_isinstance, z_len := n T.z_len, z_list := n T.z_list, z_range := n T.z_range, z_repr := n T.z_repr, z_tuple := n T.z_tuple, z_zip := n T.z_zip,
    m_MOST_PLACES := let ⟨t, e⟩ := T.m_P; ⟨t, PySem.W.mg_of X G e⟩, m_MOST_STEPS := let ⟨t, e⟩ := T.m_S; ⟨t, PySem.W.mg_of X G e⟩ }
structure NoWAt (K : PySem.W.Frag) (C : Addr) : Prop where
  g : PySem.W.nsIn K mainGlobals "NoWatcher" = some (some (.ref C))
  x : PySem.W.excIn K C [.type "ValueError", .type "Exception", .type "BaseException", .type "object"] "ValueError.__new__" = true
  k : PySem.W.keepIn K (.ref C) = true
  b : PySem.W.subIn K (.ref C) (.type "BaseException") = some true
  t : PySem.W.typeIn K (.ref C) = some (.type "type")
  i : PySem.W.isClsIn K C = true
  s : PySem.W.subIn K (.ref C) (.ref C) = some true
  d : PySem.W.hasDictIn K C = true
theorem NoWAt.txt {K : PySem.W.Frag} {mg : Str → Option Value} {h : Heap} {C : Addr} (Z : NoWAt K C) (X : K.In h) (G : h.Ns mainGlobals mg) : NoW K mg C :=
  ⟨PySem.W.mg_of X G Z.g, Z.x, Z.k, Z.b, Z.t, Z.i, Z.s, PySem.W.exm_ref Z.b Z.d Z.t Z.s⟩
structure MadeK (K : PySem.W.Frag) : Prop where
  ex : ∃ (f T0 : Addr) (fd : FuncData), PySem.W.nsIn K mainGlobals "made" = some (some (.ref f)) ∧ FunD K "made" "made" (defArgs s_made) (defBody s_made) (defScope s_made) [] (kwsMade T0) f fd ∧ ∀ H, Dq K H (.ref T0) (.tuple [])
theorem made_at {K : PySem.W.Frag} {f D T0 : Addr} {oc : Value} {od an : Option Addr} {osl osl2 : Array (Option Value)} {doc pm cdv ct : Value} {t1 t2 t3 : Tok} {od2 : Option Addr} {n : Nat} (a : PySem.W.nsIn K mainGlobals "made" = some (some (.ref f)))
    (l : K.lookup f = some ⟨oc, od, .func (PySem.W.fnOf "made" "made" (defArgs s_made) (defBody s_made) (defScope s_made) .none (.ref D) doc pm an cdv ct), osl⟩) (c : PySem.W.codeIn K cdv "made" = true) (k : PySem.W.keepIn K (.ref f) = true)
    (q1 : PySem.W.nsIn K D "gap" = some (some (.int 1 t1))) (q2 : PySem.W.nsIn K D "wide" = some (some .none)) (q3 : PySem.W.nsIn K D "low" = some (some (.int 0 t2))) (q4 : PySem.W.nsIn K D "high" = some (some (.int 0 t3))) (q5 : PySem.W.nsIn K D "marks" = some (some (.ref T0)))
    (lT : K.lookup T0 = some ⟨.type "tuple", od2, .seq #[] n, osl2⟩) : MadeK K := by
  refine ⟨f, T0, _, a, ⟨⟨oc, od, .none, .ref D, doc, pm, an, cdv, ct, osl, rfl, l, c, .inl ⟨rfl, rfl⟩, .inr ⟨D, rfl, ?_⟩⟩, k⟩, fun H => .tup (.inr ⟨_, #[], n, lT, rfl, rfl, Nat.zero_le _, .nil⟩) .nil⟩
  intro q hq
  unfold kwsMade at hq
  simp only [List.mem_cons, List.not_mem_nil, or_false] at hq
  rcases hq with h | h | h | h | h <;> rw [h]
  · exact ⟨_, q1, ⟨_, rfl⟩⟩
  · exact ⟨_, q2, rfl⟩
  · exact ⟨_, q3, ⟨_, rfl⟩⟩
  · exact ⟨_, q4, ⟨_, rfl⟩⟩
  · exact ⟨_, q5, rfl⟩
theorem all_mk {P : Program} {w : World} {K : PySem.W.Frag} {h : Heap} {mg : Str → Option Value} {fa C : Addr} (X : K.In h) (G : h.Ns mainGlobals mg) (hfa : mg "law" = some (.ref fa)) (T : TopK K) (Z : NoWAt K C) (M : MadeK K)
    (D1 : DefAt K "is_integer" s_is_integer) (D2 : DefAt K "is_number" s_is_number) (D3 : DefAt K "is_ascending" s_is_ascending) (D4 : DefAt K "is_watcher" s_is_watcher)
    (D5 : DefAt K "_law_kneaded" s_law_kneaded) (D6 : DefAt K "_law_pot_of" s_law_pot_of) (D7 : DefAt K "_law_below" s_law_below) (D8 : DefAt K "_law_pick" s_law_pick) (D9 : DefAt K "_law_is_number" s_law_is_number) (D10 : DefAt K "_law_is_right" s_law_is_right)
    (D11 : DefAt K "_law_some_watcher" s_law_some_watcher) (D12 : DefAt K "_law_muddled" s_law_muddled) (D13 : DefAt K "_law_spoilt" s_law_spoilt) (D14 : DefAt K "_law_word" s_law_word) (D15 : DefAt K "law" s_law) :
    ∃ fd : FuncData, (∀ (s : Shared) (u : Value), BindsTo s fd ⟨[u], []⟩ [("script", u)]) ∧ ∀ base : Heap, K.In base → base.Ns mainGlobals mg → FnG P w K mg base CX0 7 fa fd ["script"] (spLaw K) := by
  obtain ⟨f, fd, a, F⟩ := D15.ex
  have e := hfa.symm.trans (PySem.W.mg_of X G a)
  cases e
  obtain ⟨fM, T0, fdM, aM, FM, hT⟩ := M.ex
  have b := F.binds (ps := ["script"]) fun _ _ _ _ _ _ us hl => match us, hl with | [_], _ => rfl
  have Tx := T.txt X G
  have Zx := Z.txt X G
  refine ⟨fd, fun s u => by obtain ⟨_, _, _, _, _, _, _, _, _, rfl, _⟩ := F.ex; exact .of_eq rfl, fun base _ _ => ?_⟩
  have h1 : Fn P w K mg base _ _ _ _ := D1.fn X G (fun f fd F => d_is_integer F Tx) fun _ _ _ _ _ _ us hl => match us, hl with | [_], _ => rfl
  have h2 : Fn P w K mg base _ _ _ _ := D2.fn X G (fun f fd F => d_is_number F Tx h1) fun _ _ _ _ _ _ us hl => match us, hl with | [_, _, _], _ => rfl
  have h3 : Fn P w K mg base _ _ _ _ := D3.fn X G (fun f fd F => d_is_ascending F Tx h2) fun _ _ _ _ _ _ us hl => match us, hl with | [_, _], _ => rfl
  have h4 : Fn P w K mg base _ _ _ _ := D4.fn X G (fun f fd F => d_is_watcher F Tx h2 h3) fun _ _ _ _ _ _ us hl => match us, hl with | [_], _ => rfl
  have h5 : Fn P w K mg base _ _ _ _ := D5.fn X G (fun f fd F => d_kneaded F Tx) fun _ _ _ _ _ _ us hl => match us, hl with | [_, _], _ => rfl
  have h6 : Fn P w K mg base _ _ _ _ := D6.fn X G (fun f fd F => d_law_pot_of F Tx) fun _ _ _ _ _ _ us hl => match us, hl with | [_], _ => rfl
  have h7 : Fn P w K mg base _ _ _ _ := D7.fn X G (fun f fd F => d_below F Tx h5) fun _ _ _ _ _ _ us hl => match us, hl with | [_, _], _ => rfl
  have h8 : Fn P w K mg base _ _ _ _ := D8.fn X G (fun f fd F => d_pick F Tx h7) fun _ _ _ _ _ _ us hl => match us, hl with | [_, _], _ => rfl
  have h9 : Fn P w K mg base _ _ _ _ := D9.fn X G (fun f fd F => d_law_is_number F Tx) fun _ _ _ _ _ _ us hl => match us, hl with | [_, _, _], _ => rfl
  have h10 : Fn P w K mg base _ _ _ _ := D10.fn X G (fun f fd F => d_law_is_right F Tx h9) fun _ _ _ _ _ _ us hl => match us, hl with | [_], _ => rfl
  have h11 : Fn P w K mg base _ _ _ _ := D11.fn X G (fun f fd F => d_some_watcher F Tx h7 h8) fun _ _ _ _ _ _ us hl => match us, hl with | [_], _ => rfl
  have h12 : Fn P w K mg base _ _ _ _ := D12.fn X G (fun f fd F => d_muddled F Tx h7 h8) fun _ _ _ _ _ _ us hl => match us, hl with | [_, _, _], _ => rfl
  have h13 : Fn P w K mg base _ _ _ _ := D13.fn X G (fun f fd F => d_spoilt F Tx h7 h8 h12) fun _ _ _ _ _ _ us hl => match us, hl with | [_, _], _ => rfl
  have Ma : MadeAt P w K mg base C fM fdM (kwsMade T0) := ⟨d_made FM Tx Zx h4, PySem.W.mg_of X G aM, FM.kp, FM⟩
  have h14 : FnGG P w K mg base _ _ _ _ := D14.fnG X G (fun f fd F => d_law_word F Tx Zx Ma (fun e => nomatch e)) fun _ _ _ _ _ _ us hl => match us, hl with | [_], _ => rfl
  exact d_law F Tx Ma hT h6 h11 h13 h10 h4 h14

end K3
open PySem PySem.W PyProof.Rows
set_option maxHeartbeats 0 in
theorem PySem.Challenge.cw_skidblame_k03_watchers_recognized_holds : PySem.Challenge.rw_skidblame_k03_watchers_recognized.Holds := by
  w_on; o_law; k_head; (case hw => w_witness2)
  k_fill
  refine Xh.walk_ofG (l := PySem.Challenge.rw_skidblame_k03_watchers_recognized) (n := 63) (k := 7) (x := "script") (sp := fun w => Xh.spLaw _) rfl (by decide) rfl ⟨rfl, by decide, by decide⟩ ?im (fun w h Y => PySem.W.kIn_of Y) ?ks ?F (fun w H a ns hl hy hs => ⟨a, ns, rfl, hy, hs, hl, fun _ => rfl⟩)
  case im => first | rfl | decide +kernel
  case ks => intro w; first | k_is | rfl | decide +kernel
  case F =>
    intro w mg fa h KX G hmg
    refine' K3.all_mk KX G hmg ?TT ?ZZ ?MM ?D1 ?D2 ?D3 ?D4 ?D5 ?D6 ?D7 ?D8 ?D9 ?D10 ?D11 ?D12 ?D13 ?D14 ?D15
    case D1 =>
      refine' K3.def_at ?xa1 ?xl1 ?xc1 ?xk1
      (case xa1 => k_is); (case xl1 => k_is); (case xc1 => k_is); (case xk1 => k_is)
    case D2 =>
      refine' K3.def_at ?xa2 ?xl2 ?xc2 ?xk2
      (case xa2 => k_is); (case xl2 => k_is); (case xc2 => k_is); (case xk2 => k_is)
    case D3 =>
      refine' K3.def_at ?xa3 ?xl3 ?xc3 ?xk3
      (case xa3 => k_is); (case xl3 => k_is); (case xc3 => k_is); (case xk3 => k_is)
    case D4 =>
      refine' K3.def_at ?xa4 ?xl4 ?xc4 ?xk4
      (case xa4 => k_is); (case xl4 => k_is); (case xc4 => k_is); (case xk4 => k_is)
    case D5 =>
      refine' K3.def_at ?xa5 ?xl5 ?xc5 ?xk5
      (case xa5 => k_is); (case xl5 => k_is); (case xc5 => k_is); (case xk5 => k_is)
    case D6 =>
      refine' K3.def_at ?xa6 ?xl6 ?xc6 ?xk6
      (case xa6 => k_is); (case xl6 => k_is); (case xc6 => k_is); (case xk6 => k_is)
    case D7 =>
      refine' K3.def_at ?xa7 ?xl7 ?xc7 ?xk7
      (case xa7 => k_is); (case xl7 => k_is); (case xc7 => k_is); (case xk7 => k_is)
    case D8 =>
      refine' K3.def_at ?xa8 ?xl8 ?xc8 ?xk8
      (case xa8 => k_is); (case xl8 => k_is); (case xc8 => k_is); (case xk8 => k_is)
    case D9 =>
      refine' K3.def_at ?xa9 ?xl9 ?xc9 ?xk9
      (case xa9 => k_is); (case xl9 => k_is); (case xc9 => k_is); (case xk9 => k_is)
    case D10 =>
      refine' K3.def_at ?xa10 ?xl10 ?xc10 ?xk10
      (case xa10 => k_is); (case xl10 => k_is); (case xc10 => k_is); (case xk10 => k_is)
    case D11 =>
      refine' K3.def_at ?xa11 ?xl11 ?xc11 ?xk11
      (case xa11 => k_is); (case xl11 => k_is); (case xc11 => k_is); (case xk11 => k_is)
    case D12 =>
      refine' K3.def_at ?xa12 ?xl12 ?xc12 ?xk12
      (case xa12 => k_is); (case xl12 => k_is); (case xc12 => k_is); (case xk12 => k_is)
    case D13 =>
      refine' K3.def_at ?xa13 ?xl13 ?xc13 ?xk13
      (case xa13 => k_is); (case xl13 => k_is); (case xc13 => k_is); (case xk13 => k_is)
    case D14 =>
      refine' K3.def_at ?xa14 ?xl14 ?xc14 ?xk14
      (case xa14 => k_is); (case xl14 => k_is); (case xc14 => k_is); (case xk14 => k_is)
    case D15 =>
      refine' K3.def_at ?xa15 ?xl15 ?xc15 ?xk15
      (case xa15 => k_is); (case xl15 => k_is); (case xc15 => k_is); (case xk15 => k_is)
    case MM =>
      refine' K3.made_at ?ma ?ml ?mc ?mk ?mq1 ?mq2 ?mq3 ?mq4 ?mq5 ?mlT
      (case ma => k_is); (case ml => k_is); (case mc => k_is); (case mk => k_is); (case mq1 => k_is); (case mq2 => k_is); (case mq3 => k_is); (case mq4 => k_is); (case mq5 => k_is); (case mlT => k_is)
    case ZZ =>
      refine' ⟨?za, ?zb, ?zc, ?zd, ?ze, ?zf, ?zg, ?zh⟩
      (case za => k_is); (case zb => k_exc); (case zc => k_is); (case zd => k_is); (case ze => k_is); (case zf => k_is); (case zg => first | k_is | rfl); (case zh => k_is)
    case TT =>
      refine' ⟨?ta, ?tb, ?tc, ?td, ?te, ?tf, ?tg, ?th, ?ti, ?tj, ?tk, ?tl, ?tm, ?tn⟩
      (case ta => k_is); (case tb => k_is); (case tc => k_is); (case td => k_is); (case te => k_is); (case tf => k_is); (case tg => k_is); (case th => k_is); (case ti => k_is); (case tj => k_is); (case tk => k_is); (case tl => k_is); (case tm => exact ⟨_, by k_is⟩); (case tn => exact ⟨_, by k_is⟩)
