import PyProof.Rows.All
import Wide.All
import OpenK.AllK
import Wide.FinOn
import HandS.Base
import HandS.Call
import HandS.List
import HandS.Comp
import HandS.Ends
import HandS.Dict
import HandS.Iter
import HandS.Words
import HandS.ForMost
import HandS.IsInst
import HandS.Evl
import HandS.SetBool
import HandS.TupSets
import HandS.Deep
import HandS.Wide
import HandS.More
import HandS.Lambda
import HandS.EndTab
import KE.KNest
import HandS.Exc
import HandS.ExcIs
import HandS.ExcField
import KE.KExcIs
import HandS.ExcInit
import HandS.WordsExc
import HandS.DictComp
import HandS.SortRule
import HandS.TupLen
import HandS.Style
import HandS.TryMany
import HandS.TupAny
import PySem.Challenge.RW_nevercaught_k05_better_is_an_order
set_option Elab.async false
set_option linter.all false
set_option maxRecDepth 100000
set_option maxHeartbeats 4000000
section
open PySem PySem.Spec PyProof.Rows L2
/-! steps of a reading: `walk_at "rd1"` answers one question, `walk_at "rd"` as many as it can -/
local macro_rules | `(tactic| walk_at "rd cond") => `(tactic| first
  | exact rfl | assumption | omega | (dsimp only; omega)
  | (refine Or.inl ⟨?_, ?_⟩ <;> omega) | (refine Or.inr ⟨?_, ?_⟩ <;> omega)
  | (refine Nat.le_trans (m := 64) ?_ (by decide); simp only [List.length_cons, List.length_nil]; omega)
  | (refine ⟨?_, ?_, ?_⟩ <;> first | omega | decide) | (refine ⟨?_, ?_⟩ <;> first | assumption | omega | decide))
local macro_rules | `(tactic| walk_at "rd1") => `(tactic| first
  | refine ⟨_, rfl, ?_⟩
  | refine ⟨_, _, rfl, rfl, ?_⟩
  | refine Or.inl ⟨_, rfl, ?_⟩
  | refine Or.inr ⟨_, rfl, ?_⟩
  | refine ⟨_, _, _, _, rfl, rfl, SqL.of (by assumption), by rfl, ?_⟩
  | refine ⟨_, _, _, _, rfl, rfl, SqL.of upd_same, by rfl, ?_⟩
  | refine ⟨_, _, _, _, rfl, rfl, by assumption, by rfl, ?_⟩
  | refine ⟨_, _, _, _, rfl, rfl, upd_same, by rfl, ?_⟩
  | refine ⟨_, _, _, _, rfl, rfl, by assumption, by assumption, ?_⟩
  | refine Or.inl ⟨_, _, _, _, rfl, rfl, by assumption, by rfl, ?_⟩
  | refine Or.inr (Or.inl ⟨_, _, _, _, rfl, rfl, by assumption, by rfl, ?_⟩)
  | refine ⟨_, _, _, _, rfl, by decide, by decide, by assumption, ?_⟩
  | refine ⟨_, _, _, rfl, by assumption, ?_⟩
  | refine ⟨_, _, rfl, by assumption, ?_⟩
  | refine ⟨_, _, rfl, .inl (SqL.of (by assumption)), ?_⟩
  | refine ⟨_, _, rfl, .inl (SqL.of upd_same), ?_⟩
  | refine ⟨_, _, rfl, .inl (by assumption), ?_⟩
  | refine ⟨_, _, rfl, .inr (SqT.of (by assumption)), ?_⟩
  | refine ⟨_, _, rfl, .inr (SqT.of upd_same), ?_⟩
  | refine ⟨_, _, rfl, .inr (by assumption), ?_⟩
  | (refine And.intro ?_ ?_; focus (walk_at "rd cond")))
local macro_rules | `(tactic| walk_at "rd") => `(tactic| repeat (walk_at "rd1"))
/-! Kg1: defs that are called while nothing is being shown (no guard runs), so that they may ask repr of lists. -/
namespace Kg
open PySem PySem.Spec PyProof.Rows L2

section
variable {P : Program} {w : World} {K : PySem.W.Frag} {mg : Str → Option Value} {base : Heap} {CX : CXT} {k : Nat} {f : Addr} {fd : FuncData} {ps : List Str} {sp : Sp}
/-- a def's promise, kept where no guard runs around the call -/
structure FnG (P : Program) (w : World) (K : PySem.W.Frag) (mg : Str → Option Value) (base : Heap) (CX : CXT)
    (k : Nat) (f : Addr) (fd : FuncData) (ps : List Str) (sp : Sp) : Prop where
  many : ∀ vs H Q E, sp vs H Q E → vs.length = ps.length
  goes : ∀ (A : Around) (outer : List Env) (s : Shared) (H : Hp) (args : Args) (us : List Value) (vs : List V) (Q : VK) (E : XK),
    Room k A → A.guards = some [] → Env0 P w K mg base A outer s H → BindsTo s fd args (ps.zip us) → Vals vs us →
    sp vs H Q E → codeAny (model P w) A (.call (.ref f) args) (CR CX outer P w H s Q E) s
theorem FnG.of (F : FnOk P w K mg base CX k f fd ps sp) : FnG P w K mg base CX k f fd ps sp :=
  ⟨F.len, fun A outer s H args us vs Q E hr _ => F.run A outer s H args us vs Q E hr⟩
theorem FnG.mono {j : Nat} (F : FnG P w K mg base CX j f fd ps sp) (h : j ≤ k) : FnG P w K mg base CX k f fd ps sp :=
  ⟨F.many, fun A outer s H args us vs Q E hr => F.goes A outer s H args us vs Q E (hr.mono h)⟩
end

theorem guards_deeper (A : Around) (env : Env) : (A.deeper env).guards = A.guards := rfl

section
variable {P : Program} {w : World} {K : PySem.W.Frag} {mg : Str → Option Value} {base : Heap} {CX : CXT} {k : Nat} {f : Addr}
variable {name qual : Str} {pars : Arguments} {body : List Stmt} {sc : Scope} {dV kV doc pm cdv ct oc : Value} {an od : Option Addr} {osl : Array (Option Value)} {N ps : List Str} {sp : Sp}
/-- a def by its body, where no guard runs -/
theorem fnG_of (at_f : K.lookup f = some ⟨oc, od, .func (PySem.W.fnOf name qual pars body sc dV kV doc pm an cdv ct), osl⟩)
    (its_code : PySem.W.codeIn K cdv qual = true) (S : FnScope N ps sc) (many : ∀ vs H Q E, sp vs H Q E → vs.length = ps.length)
    (its_body : ∀ (A : Around) (outer : List Env) (s : Shared) (H : Hp) (vs : List V) (Q : VK) (E : XK),
      Room k (A.deeper (envOfC qual sc s.heap.objs.size f cdv)) → A.guards = some [] → sp vs H Q E →
      ∃ t, PSs (cxOf CX P w K mg base N qual sc f cdv A outer s H E) body t ∧
        t { nx := fun _ H' => Q .non H', rt := Q } (start N vs) H) :
    FnG P w K mg base CX (k + 1) f (PySem.W.fnOf name qual pars body sc dV kV doc pm an cdv ct) ps sp := by
  constructor
  · exact many
  · intro A outer s H args us vs Q E hr hg e0 hb r hs
    have hl := many _ _ _ _ hs
    have old : ∀ b o, base.get? b = some o → s.heap.get? b = some o := fun b o e => (e0.bs b o e).1
    have here : K.In s.heap := e0.mod.kin.keeps old
    have kinds : ∀ y ∈ ps.zip us, sc.names.lookup y.1 = some .local ∨
        (sc.names.lookup y.1 = some .cell ∧ ((cellsFrom (s.heap.objs.size + 1) sc.names []).lookup y.1).isSome = true) := by
      rintro ⟨n, v⟩ hy
      exact (S.par n (List.of_mem_zip hy).1).imp id fun q => ⟨q, PySem.W.cellsFrom_some _ _ _ (.inl q)⟩
    apply codeAny_call_function hr.depth (here _ _ at_f) rfl S.co S.gen rfl (PySem.W.codeRec_of here its_code) (hb _ _ _ _ _)
    apply wpAny_newFunctionEnv_cells S.kind kinds
    intro fun' env he s1
    subst env
    refine ⟨(e0.mod.nolimit.keeps old).keeps s1.toInCall.keep, codeAny_func ?_⟩
    obtain ⟨t, ht, hq⟩ := its_body A outer s H vs Q E (hr.deeper _) hg hs
    have J := inv_start (CX := CX) (E := E) S hr.hd e0 hl r s1
    refine wpAny_mono (ht.run [] _ (start N vs) H _ J hq) ?_ fun e s' z => z
    rintro fl s' hh
    have fin : ∀ {σ' : L2.St} {H' : Hp} {v : V} {u : Value}, Inv (cxOf CX P w K mg base N qual sc f cdv A outer s H E) [] σ' H' s' →
        RelV v u → Q v H' → CE outer P w H s Q u s' := by
      intro σ' H' v u I rv q
      exact ⟨v, H', I.os, I.bare, I.base, I.hok, rv, q⟩
    cases fl with
    | next => exact hh.elim fun σ' z => z.elim fun H' z => fin (v := V.non) (u := Value.none) z.1 rfl z.2
    | ret u => exact hh.elim fun v z => z.elim fun σ' z => z.elim fun H' z => fin z.1 z.2.1 z.2.2
    | brk => exact (hh.elim fun _ z => z.elim fun _ z => z.2).elim
    | cont => exact (hh.elim fun _ z => z.elim fun _ z => z.2).elim
end

section
variable {P : Program} {w : World} {K : PySem.W.Frag} {mg : Str → Option Value} {base : Heap}
theorem okG {x qual : Str} {st : Stmt} {f : Addr} {fd : FuncData} {N ps : List Str} {k : Nat} {sp : Sp} (F : Fun K x qual st f fd)
    (S : FnScope N ps (defScope st)) (many : ∀ vs H Q E, sp vs H Q E → vs.length = ps.length)
    (its_body : ∀ (cdv : Value) (A : Around) (outer : List Env) (s : Shared) (H : Hp) (vs : List V) (Q : VK) (E : XK),
      Room k (A.deeper (envOfC qual (defScope st) s.heap.objs.size f cdv)) → A.guards = some [] → sp vs H Q E →
      ∃ t, PSs (cxOf CX0 P w K mg base N qual (defScope st) f cdv A outer s H E).nox (defBody st) t ∧
        t { nx := fun _ H' => Q .non H', rt := Q } (start N vs) H) : FnG P w K mg base CX0 (k + 1) f fd ps sp := by
  obtain ⟨oc, od, kV, doc, pm, an, cdv, ct, osl, e, lk, hcd⟩ := F.ex
  subst e
  refine fnG_of lk hcd S many ?_
  intro A outer s H vs Q E hr hg hs
  obtain ⟨t, h, q⟩ := its_body cdv A outer s H vs Q E hr hg hs
  exact ⟨t, h.nox, q⟩
end

section
variable {X : Cx} {CX : CXT} {k : Nat} {f : Addr} {fd : FuncData} {ps : List Str} {sp : Sp} {dvs : List V} {ds : List Value} {E : XK} {x : Str} {p pos : Pos} {e : Expr} {es : List Expr} {t : TA}
theorem runG {pins : List (Addr × Obj)} {σ : L2.St} {H : Hp} {s : Shared} {Q : VK} {us : List Value} {vs : List V}
    (F : FnG X.prog X.w X.K X.mg X.base CX k f fd ps sp) (hr : Room k X.A) (gd : X.A.guards = some []) (hb : Binds X.K fd ps ds)
    (hd : Vals dvs ds) (hx : Passes CX X E) (I : Inv X pins σ H s) (r : Vals vs us) (h : sp (vs ++ dvs) H Q E) :
    wpAny (model X.prog X.w) X.A (call (.ref f) us) (EP X pins σ Q) X.xe s := by
  have both : Vals (vs ++ dvs) (us ++ ds) := r.append hd
  have hl : (us ++ ds).length = ps.length := both.length ▸ F.many _ _ _ _ h
  have it := F.goes X.A X.stack s H ⟨us, []⟩ (us ++ ds) (vs ++ dvs) Q E hr gd I.env0 (hb s us I.kIn hl) both h
  refine wpAny_call (codeAny_mono it ?_)
  rintro (e | fl) s' hq
  · exact hx pins σ H s e s' I hq
  · cases fl <;> first | exact I.after hq | exact False.elim hq
theorem pe_callG (F : FnG X.prog X.w X.K X.mg X.base CX k f fd ps sp) (hr : Room k X.A) (gd : X.A.guards = some []) (hg : Gl X x)
    (hm : X.mg x = some (.ref f)) (hk : PySem.W.keepIn X.K (.ref f) = true) (hb : Binds X.K fd ps ds) (hd : Vals dvs ds) (hx : Passes CX X E)
    (ha : PA X (e :: es) t) (hdb : (x == ("__debug__" : Str)) = false := by decide)
    (he : starEach (e :: es) X.env = (false, eval e X.env) :: starEach es X.env := by rfl)
    (hpl : (backTo pos (starEach es X.env)).any (·.1) = false := by rfl) : PE X (.Call (.Name x p) (e :: es) [] pos) (tCall sp dvs E t) := by
  constructor
  intro pins s σ H Q I h
  apply wpAny_Call_Name_kw (ld_glob I hg hm _ hdb)
  refine PySem.W.callWith_K (h₀ := X.base) I.ok.mod.kin hk ?_ he hpl
  refine thn (ha.run pos pins s σ H _ I h) ?_
  rintro us s1 ⟨vs, H1, I1, r, q⟩
  exact ⟨I1.kIn, runG F hr gd hb hd hx I1 r q⟩

/-- f(k = v, ..): keywords alone -/
theorem pe_callKW {ks : List Str} {kws : List Keyword} {g : List Value → List Value → List Value} {gV : List V → List V → List V} {tk : TA}
    (F : FnOk X.prog X.w X.K X.mg X.base CX k f fd ps sp) (hr : Room k X.A) (hg : Gl X x) (hm : X.mg x = some (.ref f))
    (hk : PySem.W.keepIn X.K (.ref f) = true) (hb : KBinds X.K fd ps ks g gV) (hx : Passes CX X E) (hkw : PK X kws tk)
    (hall : (backToKw pos (keywordEach kws X.env)).all (·.1.isSome) = true := by rfl)
    (hks : (backToKw pos (keywordEach kws X.env)).filterMap (·.1) = ks := by rfl) (hdb : (x == ("__debug__" : Str)) = false := by decide)
    (hpl : (backToKw pos (keywordEach kws X.env)).any (·.1.isNone) = false := by rfl) :
    PE X (.Call (.Name x p) [] kws pos) (tCallK sp gV E tNil tk) := by
  constructor
  intro pins s σ H Q I h
  apply wpAny_Call_Name_kw (ld_glob I hg hm _ hdb)
  refine PySem.W.callWith_KW0 (h₀ := X.base) I.ok.mod.kin hk hall ?_ ?_
  · refine thn (hkw.run pos pins s σ H _ I h) ?_
    rintro ws s2 ⟨zs, H2, I2, rz, q2⟩
    refine ⟨I2.kIn, ?_⟩
    rw [hks]
    exact run_fnk (us := []) (vs := []) F hr hb hx I2 .nil rz q2
  · exact hpl
end
end Kg
/-! Kg2: data of any depth (dicts with written keys among them): what stands for it, its repr, its kind. -/
namespace Kg
open PySem PySem.Spec PyProof.Rows L2
open Evl (Ex)

def keyD : Key → PyData
  | .inl i => .int i
  | .inr x => .str x
mutual
inductive Da (K : PySem.W.Frag) (H : Hp) : V → PyData → Prop
  | non : Da K H .non .none
  | bl (b : Bool) : Da K H (.bl b) (.bool b)
  | int (i : Int) : Da K H (.int i) (.int i)
  | str (x : Str) : Da K H (.str x) (.str x)
  | lst {a : Addr} {xs : List V} {ds : List PyData} : SqL K H a xs → DaAll K H xs ds → Da K H (.ref a) (.list ds)
  | tup {a : Addr} {xs : List V} {ds : List PyData} : SqT K H a xs → DaAll K H xs ds → Da K H (.ref a) (.tuple ds)
  | dct {a : Addr} {kvs : List (Key × V)} {ds : List PyData} : H a = some (.dK kvs) → DaAll K H (kvs.map (·.2)) ds →
      Da K H (.ref a) (.dict ((kvs.map fun kv => keyD kv.1).zip ds))
inductive DaAll (K : PySem.W.Frag) (H : Hp) : List V → List PyData → Prop
  | nil : DaAll K H [] []
  | cons {v : V} {vs : List V} {d : PyData} {ds : List PyData} : Da K H v d → DaAll K H vs ds → DaAll K H (v :: vs) (d :: ds)
end
theorem DaAll.len {K : PySem.W.Frag} {H : Hp} : ∀ {vs : List V} {ds : List PyData}, DaAll K H vs ds → vs.length = ds.length
  | _, _, .nil => rfl
  | _, _, .cons _ t => by simp [DaAll.len t]
theorem DaAll.at {K : PySem.W.Frag} {H : Hp} : ∀ {vs : List V} {ds : List PyData} {i : Nat} {v : V}, DaAll K H vs ds → vs[i]? = some v → ∃ d, ds[i]? = some d ∧ Da K H v d
  | _, _, _, _, .nil, h => by simp at h
  | _, _, 0, _, .cons h _, e => ⟨_, rfl, by simp at e; exact e ▸ h⟩
  | _, _, i + 1, _, .cons _ t, e => DaAll.at (i := i) t (by simpa using e)
theorem DaAll.app {K : PySem.W.Frag} {H : Hp} : ∀ {vs ws : List V} {ds es : List PyData}, DaAll K H vs ds → DaAll K H ws es → DaAll K H (vs ++ ws) (ds ++ es)
  | _, _, _, _, .nil, h => h
  | _, _, _, _, .cons h t, g => .cons h (DaAll.app t g)
mutual
theorem Da.mono {K : PySem.W.Frag} {H H' : Hp} (e : Ex H H') : ∀ {v : V} (d : PyData), Da K H v d → Da K H' v d
  | _, .none, .non => .non
  | _, .bool _, .bl b => .bl b
  | _, .int _, .int i => .int i
  | _, .str _, .str x => .str x
  | _, .list ds, .lst h t => .lst (Evl.ex_l e h) (DaAll.mono e ds t)
  | _, .tuple ds, .tup h t => .tup (Evl.ex_t e h) (DaAll.mono e ds t)
  | _, .dict _, .dct h t => .dct (e _ _ h) (DaAll.mono e _ t)
theorem DaAll.mono {K : PySem.W.Frag} {H H' : Hp} (e : Ex H H') : ∀ {vs : List V} (ds : List PyData), DaAll K H vs ds → DaAll K H' vs ds
  | _, [], .nil => .nil
  | _, d :: ds, .cons h t => .cons (Da.mono e d h) (DaAll.mono e ds t)
end
/-- the modules' dict stands, known and not to be written -/
def Sys (H : Hp) : Prop := ∃ o φ, H sysModules = some (.frz o (.ext φ))
theorem Sys.mono {H H' : Hp} (e : Ex H H') (h : Sys H) : Sys H' := by
  obtain ⟨o, φ, h⟩ := h
  exact ⟨o, φ, e _ _ h⟩
/-- it is none of the written part's lists and tuples -/
def OffK (K : PySem.W.Frag) : Prop := K.lookup sysModules = none

section
variable {X : Cx} {pins : List (Addr × Obj)} {σ : L2.St} {H : Hp} {s : Shared}
theorem off_l {K : PySem.W.Frag} {a : Addr} {xs : List V} (y : Sys H) (k : OffK K) (h : SqL K H a xs) : a ≠ sysModules := by
  rintro rfl
  obtain ⟨o, φ, e⟩ := y
  rcases h with (h | ⟨o', h⟩) | ⟨o', _, _, h, _⟩
  · rw [e] at h; cases h
  · rw [e] at h; cases h
  · rw [show K.lookup sysModules = none from k] at h; cases h
theorem pairs_keys {P : Program} {w : World} {h : Heap} : ∀ {es : List DictEntry} {kvs : List (Key × Value)}, Pairs (mixKind P w) es kvs → ReadsAll h (es.map (·.key)) (kvs.map fun kv => keyD kv.1) []
  | _, _, .nil => .nil
  | e :: es, kv :: kvs, .cons g _ t => by
    have r : Reads h e.key (keyD kv.1) [] := by
      rcases keyIs_shape (show keyIs kv.1 e.key = true from g) with ⟨i, t, e1, e2⟩ | ⟨x, t, e1, e2⟩
      · rw [e1, e2]; exact Reads.int i t
      · rw [e1, e2]; exact Reads.str x t
    exact ReadsAll.cons (as := []) (bs := []) r (pairs_keys t)
theorem pairs_vals {P : Program} {w : World} : ∀ {es : List DictEntry} {kvs : List (Key × Value)}, Pairs (mixKind P w) es kvs → es.map (·.val) = kvs.map (·.2)
  | _, _, .nil => rfl
  | _, _, .cons _ e t => by simp [e, pairs_vals t]
theorem kv_vals : ∀ {kvs : List (Key × V)} {vs : List (Key × Value)}, KV kvs vs → Vals (kvs.map (·.2)) (vs.map (·.2)) ∧ vs.map (fun kv => keyD kv.1) = kvs.map fun kv => keyD kv.1
  | _, _, .nil => ⟨.nil, rfl⟩
  | _, _, .cons r t => ⟨.cons r.2 (kv_vals t).1, by simp [r.1, (kv_vals t).2]⟩
theorem zip_fst {α β : Type} : ∀ {xs : List α} {ys : List β}, xs.length = ys.length → (xs.zip ys).map (·.1) = xs
  | [], _, _ => rfl
  | _ :: _, [], h => by simp at h
  | x :: xs, y :: ys, h => by simp [zip_fst (xs := xs) (ys := ys) (by simpa using h)]
theorem zip_snd {α β : Type} : ∀ {xs : List α} {ys : List β}, xs.length = ys.length → (xs.zip ys).map (·.2) = ys
  | [], [], _ => rfl
  | [], _ :: _, h => by simp at h
  | _ :: _, [], h => by simp at h
  | x :: xs, y :: ys, h => by simp [zip_snd (xs := xs) (ys := ys) (by simpa using h)]
mutual
theorem Da.reads (I : Inv X pins σ H s) (y : Sys H) (k : OffK X.K) : ∀ (d : PyData) (v : V) (u : Value), Da X.K H v d → RelV v u → ∃ as, Reads s.heap u d as ∧ sysModules ∉ as
  | .none, _, _, .non, r => by cases r; exact ⟨_, Reads.none, by simp⟩
  | .bool b, _, _, .bl _, r => by cases r; exact ⟨_, Reads.bool b, by simp⟩
  | .int i, _, _, .int _, r => by obtain ⟨t, rfl⟩ := r; exact ⟨_, Reads.int i t, by simp⟩
  | .str x, _, _, .str _, r => by obtain ⟨t, rfl⟩ := r; exact ⟨_, Reads.str x t, by simp⟩
  | .list ds, _, _, .lst (a := a) hs ha, r => by
    cases r
    obtain ⟨its, rv, ⟨o, n, ho, hc, _, hd⟩, _⟩ := I.list hs
    obtain ⟨as, hr, hn⟩ := DaAll.reads I y k ds _ its ha rv
    have na := off_l y k hs
    exact ⟨_, Reads.list ho hc hd hr, by simp [hn, Ne.symm na]⟩
  | .tuple ds, _, _, .tup hs ha, r => by
    cases r
    obtain ⟨its, rv, ⟨o, ho, hc, n, hd⟩, _⟩ := I.tuple hs
    obtain ⟨as, hr, hn⟩ := DaAll.reads I y k ds _ its ha rv
    exact ⟨_, Reads.tuple ho hc hd hr, hn⟩
  | .dict _, _, _, .dct (a := a) (kvs := kvs) (ds := ds) he ha, r => by
    cases r
    obtain ⟨z, hsy, vs, rel, o, es, ep, ho, hx, hd, hk, hp, nd⟩ := I.hok a _ he
    obtain ⟨rv, ek⟩ := kv_vals rel
    obtain ⟨bs, hr, hn⟩ := DaAll.reads I y k ds _ (vs.map (·.2)) ha rv
    have hl : (kvs.map fun kv => keyD kv.1).length = ds.length := by
      rw [List.length_map, ← ha.len, List.length_map]
    have r1 := pairs_keys (h := s.heap) hp
    rw [ek] at r1
    have r2 := pairs_vals hp
    refine ⟨a :: [] ++ bs, Reads.dict ho hx.1 hd (as := []) ?_ ?_, ?_⟩
    · rw [zip_fst hl]; exact r1
    · rw [zip_snd hl, r2]; exact hr
    · have na : a ≠ sysModules := by simpa using hsy
      simp [hn, Ne.symm na]
theorem DaAll.reads (I : Inv X pins σ H s) (y : Sys H) (k : OffK X.K) : ∀ (ds : List PyData) (vs : List V) (us : List Value), DaAll X.K H vs ds → Vals vs us → ∃ as, ReadsAll s.heap us ds as ∧ sysModules ∉ as
  | [], _, _, .nil, r => by cases r; exact ⟨_, ReadsAll.nil, by simp⟩
  | d :: ds, _, _, .cons h1 h2, r => by
    cases r with
    | cons r1 r2 =>
      obtain ⟨as, q1, n1⟩ := Da.reads I y k d _ _ h1 r1
      obtain ⟨bs, q2, n2⟩ := DaAll.reads I y k ds _ _ h2 r2
      exact ⟨_, ReadsAll.cons q1 q2, by simp [n1, n2]⟩
end

/-- repr(x), x of any data -/
def rRepr (K : PySem.W.Frag) : List V → Hp → VK → Prop := fun xs H Q => ∃ x d, xs = [x] ∧ Da K H x d ∧ Sys H ∧ PyData.showable d = true ∧ d.shown.length ≤ sizeLine ∧ d.depth ≤ 60 ∧ Q (.str d.shown) H
theorem cr_repr (gd : X.A.guards = some []) (hu : X.A.units + 64 < cLine) (k : OffK X.K) : CallR X (.builtin "repr") (rRepr X.K) := by
  intro pins s σ H xs us Q I r h
  obtain ⟨x, d, e, hd, y, hs, hz, hdp, q⟩ := h
  subst e
  obtain ⟨u, e, rx⟩ := vals1 r
  subst e
  cases hd with
  | non => cases rx; exact PySem.P.repr_of_none ⟨.str _, H, I.tok _, ⟨_, rfl⟩, by simpa only [PyData.shown] using q⟩
  | bl b => cases rx; exact PySem.P.repr_of_bool ⟨.str _, H, I.tok _, ⟨_, rfl⟩, by simpa only [PyData.shown] using q⟩
  | int i =>
    obtain ⟨t, rfl⟩ := rx
    have hi : i.natAbs.log2 < 1920 := by simpa [PyData.showable] using hs
    exact PySem.P.repr_of_int hi ⟨.str _, H, I.tok _, ⟨_, rfl⟩, by simpa only [PyData.shown] using q⟩
  | str z =>
    obtain ⟨t, rfl⟩ := rx
    exact PySem.P.repr_of_str ⟨.str _, H, I.tok _, ⟨_, rfl⟩, by simpa only [PyData.shown] using q⟩ (by simpa only [PyData.shown] using hz)
  | @lst a ys ds h1 h2 =>
    cases rx
    obtain ⟨as, hr, hn⟩ := Da.reads I y k _ _ _ (Da.lst h1 h2) (show RelV (.ref a) (.ref a) from rfl)
    exact repr_of_reads' hr hs (fun _ => hn) gd (by omega) (fun _ _ e => e) (fun h' t tk kk => ⟨.str _, H, I.kept kk, ⟨_, rfl⟩, q⟩) hz
  | @tup a ys ds h1 h2 =>
    cases rx
    obtain ⟨as, hr, hn⟩ := Da.reads I y k _ _ _ (Da.tup h1 h2) (show RelV (.ref a) (.ref a) from rfl)
    exact repr_of_reads' hr hs (fun _ => hn) gd (by omega) (fun _ _ e => e) (fun h' t tk kk => ⟨.str _, H, I.kept kk, ⟨_, rfl⟩, q⟩) hz
  | @dct a kvs ds h1 h2 =>
    cases rx
    obtain ⟨as, hr, hn⟩ := Da.reads I y k _ _ _ (Da.dct h1 h2) (show RelV (.ref a) (.ref a) from rfl)
    exact repr_of_reads' hr hs (fun _ => hn) gd (by omega) (fun _ _ e => e) (fun h' t tk kk => ⟨.str _, H, I.kept kk, ⟨_, rfl⟩, q⟩) hz
/-- repr of what is no list, no tuple and no dict: no guard is asked -/
def rReprB : List V → Hp → VK → Prop := fun xs H Q => ∃ b, xs = [.bl b] ∧ Q (.str (if b then "True" else "False")) H
theorem cr_reprB : CallR X (.builtin "repr") rReprB := by
  intro pins s σ H xs us Q I r h
  obtain ⟨b, e, q⟩ := h
  subst e
  obtain ⟨u, e, rx⟩ := vals1 r
  subst e
  cases rx
  exact PySem.P.repr_of_bool ⟨.str _, H, I.tok _, ⟨_, rfl⟩, q⟩
end

/-! ### kinds -/
def tyD : PyData → String
  | .none => "NoneType" | .bool _ => "bool" | .int _ => "int" | .str _ => "str" | .list _ => "list" | .tuple _ => "tuple" | .dict _ => "dict"
theorem tyX_of {K : PySem.W.Frag} {H : Hp} {v : V} {d : PyData} (h : Da K H v d) : TyX K H v (.type (tyD d)) := by
  cases h with
  | non => exact .base .non
  | bl b => exact .base (.bl b)
  | int i => exact .base (.int i)
  | str x => exact .base (.str x)
  | lst h1 h2 =>
    rcases h1 with (h | ⟨o, h⟩) | ⟨o, _, _, h, c, _⟩
    · exact .base (.lst h)
    · exact .base (.frz h)
    · exact .kList h c
  | tup h1 h2 =>
    rcases h1 with (h | ⟨o, h⟩) | ⟨o, _, _, h, c, _⟩
    · exact .base (.tup h)
    · exact .fTuple h
    · exact .kTuple h c
  | dct h1 h2 => exact .base (.dK h1)
end Kg
/-! Kg4: set comprehensions whose members are tuples of ints. -/
namespace Kg
open PySem PySem.Spec PyProof.Rows L2 PpSet
section
variable {P : Program} {w : World} {A : Around} {E : Value → Shared → Prop} {s : Shared} {a : Addr}
/-- found.add((..)) -/
theorem set_add_tup {L : List (Addr × List Int)} {es : Array (Int × Value)} {ep : Nat} {t : SetTable} (R : SetTR P w s.heap a L es ep t)
    {x : Addr} {k : List Int} (hx : IsT P w s.heap k x) (hu : A.units + 1 < cLine) (few : L.length + 1 < 64) {Q : Value → Shared → Prop}
    (q : ∀ h' tk L' es' ep' t', Heap.SameBut a s.heap h' → SetTR P w h' a L' es' ep' t' → (k ∈ L.map (·.2) → L' = L) →
      (k ∉ L.map (·.2) → L'.Perm ((x, k) :: L)) → Q .none { s with heap := h', toks := tk }) :
    wpAny (model P w) A (call (.builtin "set.add") [.ref a, .ref x]) Q E s := by
  obtain ⟨o, ho, hex, hd⟩ := R.ob
  refine wpAny_call_entry F.slot_set_add (show s.TypeIs (.ref a) "set" from ⟨o, ho, hex.1⟩) F.entry_set_add ?_ (F.args_set_add_2 _ _)
  unfold Builtin.«set.add» Builtin.Frozenset.oneOther
  simp only [List.isEmpty_nil, bind_assoc]
  unfold Builtin.Frozenset.addrOf setAdd
  refine wpAny_bind (wpAny_pure ?_)
  try dsimp only
  refine wpAny_bind (wpAny_pure ?_)
  try dsimp only
  refine wpAny_bind ?_
  refine wpAny_holding ?_
  have room : A.in1.units < cLine := hu
  refine wpAny_bind (wpAny_pyHash_tuple room hx ?_)
  refine add_at (s := { s with toks := s.toks + (k.length + 1) }) R hx room few ?_
  intro b h' L' es' ep' t' sb R' c1 c2
  show wpAny _ _ (ret Value.none) _ _ _
  exact wpAny_pure ⟨_, rfl, q h' _ L' es' ep' t' sb R' c1 c2⟩
end

section
variable {X : Cx}
theorem addT_ok {pins : List (Addr × Obj)} {σ : L2.St} {H : Hp} {s : Shared} {E : Value → Shared → Prop} {D x : Addr} {L : List (Addr × List Int)} {k : List Int} {Q : Value → Shared → Prop}
    (I : Inv X pins σ H s) (hu : X.A.units + 1 < cLine) (hD : H D = some (SetTO X.prog X.w D L)) (hL : ∀ p ∈ L, SqT X.K H p.1 (p.2.map V.int))
    (hx : SqT X.K H x (k.map V.int)) (few : L.length + 1 < 64)
    (q : ∀ s' L', Inv X pins σ (upd H D (SetTO X.prog X.w D L')) s' → (k ∈ L.map (·.2) → L' = L) → (k ∉ L.map (·.2) → L'.Perm ((x, k) :: L)) → Q .none s') :
    wpAny (model X.prog X.w) X.A (call (.builtin "set.add") [.ref D, .ref x]) Q E s := by
  have R0 : SetT0 X.prog X.w s.heap D L := (I.hok D _ hD).1
  obtain ⟨es, ep, t, R⟩ := R0.full fun p hp => I.isT (hL p hp)
  refine set_add_tup R (I.isT hx) hu few ?_
  intro h' tk L' es' ep' t' sb R' c1 c2
  obtain ⟨o', ho', _⟩ := R'.ob
  refine q _ L' (I.write (e := D) (t' := tk) (by rw [hD]; trivial) (.inl rfl) ?_ ⟨o', ho'⟩ (setTO_new R'.t0)) c1 c2
  exact fun b u hb hu' => (sb.2 b hb).trans hu'

/-- a comprehension's reading: D the new set, L what it holds -/
def tScT (K : PySem.W.Frag) (P : Program) (w : World) (wi : TI) (g : TG) (tt : TT) (te : TE) (vs : List Nat) : TE := fun σ H Q => wi σ H fun J H1 =>
  ∀ D, H1 D = none → ∃ W : Nat → Nat → Hp → Prop, (∃ m, W 0 m (upd H1 D (SetTO P w D []))) ∧
    ∀ i m H, W i m H → (J.stop i H ∧ Q (.ref D) H) ∨
      (J.go i H ∧ ∃ Nx : Hp → Prop, (∀ H', Nx H' → ∃ m', m' < m ∧ W (i + 1) m' H') ∧
        ∀ x H', J.yld i H x H' → g x (wipe σ vs) H' fun σ2 H2 => wipe σ2 vs = wipe σ vs ∧ tt σ2 H2 fun b H3 =>
          if b = true then te σ2 H3 fun y H4 => ∃ (t : Addr) (k : List Int) (L : List (Addr × List Int)), y = .ref t ∧ SqT K H4 t (k.map V.int) ∧
            H4 D = some (SetTO P w D L) ∧ (∀ p ∈ L, SqT K H4 p.1 (p.2.map V.int)) ∧ L.length + 1 < 64 ∧
            ∀ L', (k ∈ L.map (·.2) → L' = L) → (k ∉ L.map (·.2) → L'.Perm ((t, k) :: L)) → Nx (upd H4 D (SetTO P w D L'))
          else Nx H3)

theorem scT_core {pins : List (Addr × Obj)} {s : Shared} {σ : L2.St} {H : Hp} {Q : VK} {el tg iter : Expr} {ifs : List Expr} {sc : Scope} {ow : List (PySem.Str × Nat)} {pos pos' : Pos} {wi : TI} {g : TG} {tt : TT} {te : TE}
    {use : Option (Value → Sem Unit)} {Qf : Value → Shared → Prop} (hu : X.A.units + 1 < cLine) (hc : X.calm = true) (hN : X.N.Nodup) (I : Inv X pins σ H s)
    (hi : PI X tg iter wi) (ok : BlkOk X.N X.env.scope sc ow)
    (pgs : ∀ (s : Shared) (H : Hp) (C : Addr) (cl : List (PySem.Str × Addr)) (fp : List Addr), PG (X.blk s H sc (compEnvC sc cl C X.env) fp) tg g)
    (pts : ∀ (s : Shared) (H : Hp) (C : Addr) (cl : List (PySem.Str × Addr)) (fp : List Addr), PTs (X.blk s H sc (compEnvC sc cl C X.env) fp) ifs tt)
    (pes : ∀ (s : Shared) (H : Hp) (C : Addr) (cl : List (PySem.Str × Addr)) (fp : List Addr), PE (X.blk s H sc (compEnvC sc cl C X.env) fp) el te)
    (hs : ∀ x, foldedSetIterable iter X.env x = pure x) (h : tScT X.K X.prog X.w wi g tt te (ow.map (·.2)) σ H Q)
    (fine : ∀ D C s' m H', Inv X pins σ H' s' → Q (.ref D) H' → s'.heap.Ns C m → FpOk X pins H' C →
      compPost (model X.prog X.w) X.A X.xe use Qf (.ref D) C (.ok .next) s') :
    wpAny (model X.prog X.w) X.A (comprehension (.SetComp el [⟨tg, iter, ifs, 0⟩] sc pos) sc X.env pos' (newSet (.type "set")) false (eval iter X.env) use) Qf X.xe s := by
  have frees : ∀ y ∈ sc.names, y.2 = .free → ∃ c, X.env.cells.lookup y.1 = some c := by
    intro y hy e
    rcases ok.free y hy e with z | z
    · exact I.ok.has _ (.inl z)
    · exact I.ok.has _ (.inr z)
  refine wpAny_comprehension_free (use := use) rfl hs (closure_ok frees) ok.kind (fun y hy e => by rw [ok.uniq y hy, e]) ?_
  refine thn (hi.run pins s σ H _ I h) ?_
  intro xv s1 hx
  refine thn hx ?_
  rintro itv s2 ⟨it, fp, tn, J, H2, e, I2, T, st2, f2, q⟩
  subst e
  refine newSet_ok (newEnv_comp ?_)
  generalize hD : s2.heap.objs.size = D
  obtain ⟨W, ⟨m0, w0⟩, turn⟩ := q D (I2.hok.fresh (Nat.le_of_eq hD))
  generalize hs3 : ({ s2 with heap := s2.heap.push { cls := .type "set", dict := none, data := .set #[] 0 (.fresh 0 0 (!X.w.params.followText "set-order")) } } : Shared) = s3
  have h3 : s3.heap = s2.heap.push { cls := .type "set", dict := none, data := .set #[] 0 (.fresh 0 0 (!X.w.params.followText "set-order")) } := by rw [← hs3]
  have I3 : Inv X pins σ (upd H2 D (SetTO X.prog X.w D [])) s3 := by
    rw [← hs3]
    refine I2.laid (t' := s2.toks) (fun b o e => Heap.get?_push_of_some _ e) (Nat.le_of_eq hD) ?_
    rw [← hD]
    exact setTO_new (setTR_fresh (P := X.prog) (Heap.get?_push_size _ rfl)).t0
  have szs : ∀ b ∈ fp, b < s2.heap.objs.size := by
    intro b hb
    obtain ⟨o, e, _⟩ := T.obj _ _ st2 b hb
    exact Heap.lt_size e
  have f3 : ∀ b ∈ fp, FpOk X pins (upd H2 D (SetTO X.prog X.w D [])) b ∧ b < s3.heap.objs.size := by
    intro b hb
    have lt := szs b hb
    refine ⟨⟨?_, (f2 b hb).2⟩, by rw [h3, Heap.size_push]; exact Nat.lt_succ_of_lt lt⟩
    rw [upd_ne (hD ▸ Nat.ne_of_lt lt)]
    exact (f2 b hb).1
  have st3 : tn 0 s3.heap := T.keep _ _ _ st2 fun b _ o e => h3 ▸ Heap.get?_push_of_some _ e
  have I4 := block_start I3 ok hN f3
  have pg := pgs s3 (upd H2 D (SetTO X.prog X.w D [])) s3.heap.objs.size (cellsFrom (s3.heap.objs.size + 1) sc.names (cloFrom X.env.cells sc.names [])) fp
  have pt := pts s3 (upd H2 D (SetTO X.prog X.w D [])) s3.heap.objs.size (cellsFrom (s3.heap.objs.size + 1) sc.names (cloFrom X.env.cells sc.names [])) fp
  have pe := pes s3 (upd H2 D (SetTO X.prog X.w D [])) s3.heap.objs.size (cellsFrom (s3.heap.objs.size + 1) sc.names (cloFrom X.env.cells sc.names [])) fp
  show codeAny _ _ (.compStart (.SetComp el [⟨tg, iter, ifs, 0⟩] sc pos) 0 (.ref it) (.ref D)
      (compEnvC sc (cellsFrom (s3.heap.objs.size + 1) sc.names (cloFrom X.env.cells sc.names [])) s3.heap.objs.size X.env))
    (compPost (model X.prog X.w) X.A X.xe use Qf (.ref D) s3.heap.objs.size)
    { s3 with heap := pushCells (s3.heap.push { cls := .type "dict", data := .dict #[] }) sc.names }
  have nfp : ∀ b ∈ fp, (upd H2 D (SetTO X.prog X.w D [])) b = none := fun b hb => (f3 b hb).1.1
  generalize hce : compEnvC sc (cellsFrom (s3.heap.objs.size + 1) sc.names (cloFrom X.env.cells sc.names [])) s3.heap.objs.size X.env = ce at I4 pg pt pe ⊢
  have cL : ce.locals = s3.heap.objs.size := hce ▸ rfl
  generalize hH3 : upd H2 D (SetTO X.prog X.w D []) = H3 at I3 I4 pg pt pe w0 nfp f3
  generalize hs4 : ({ s3 with heap := pushCells (s3.heap.push { cls := .type "dict", data := .dict #[] }) sc.names } : Shared) = s4 at I4 ⊢
  have st4 : tn 0 s4.heap := T.keep _ _ _ st3 fun b _ o e => hs4 ▸ pushCells_keeps _ _ _ _ (Heap.get?_push_of_some _ e)
  have stat : ∀ {σ' : L2.St} {H' : Hp} {s' : Shared}, Inv (X.blk s3 H3 sc ce fp) [] σ' H' s' → (∀ b ∈ fp, H' b = none) →
      ∀ b ∈ fp, FpOk (X.blk s3 H3 sc ce fp) [] H' b := by
    intro σ' H' s' J' hn b hb
    exact ⟨hn b hb, (J'.ok.exf b hb).1, J'.ok.exfs b hb, .inl hb, fun x c e => (J'.ok.exf b hb).2 x c e,
      fun p hp => absurd (show p ∈ ([] : List (Addr × Obj)) ++ [] from hp) (by simp)⟩
  have loop : codeAny (model X.prog X.w) X.A (.compLoop (.SetComp el [⟨tg, iter, ifs, 0⟩] sc pos) 0 (.ref it) (.ref D) ce)
      (compPost (model X.prog X.w) X.A X.xe use Qf (.ref D) s3.heap.objs.size) s4 := by
    refine compLoopS_any (fun n s' => ∃ i H', Inv (X.blk s3 H3 sc ce fp) [] (wipe σ (ow.map (·.2))) H' s' ∧
      tn i s'.heap ∧ (∀ b ∈ fp, H' b = none) ∧ W i n H') ?_ m0 ⟨0, H3, I4, st4, nfp, w0⟩
    rintro n s5 ⟨i, H5, I5, st5, n5, w5⟩
    rcases turn i n H5 w5 with ⟨stop, qq⟩ | ⟨go, Nx, hNx, step⟩
    · refine thnF (T.done (X.blk s3 H3 sc ce fp) rfl rfl rfl hc i [] s5 _ H5 (fun _ _ => False) I5 (stat I5 n5) st5 stop) ?_
      rintro r s6 ⟨hr, I6⟩
      subst hr
      have I7 : Inv X pins σ H5 s6 := I3.call' (ch := fp) I6.os I6.base I6.hok I6.bare fun b hb =>
        ⟨(f3 b hb).1.2.2.2.1, (f3 b hb).1.2.1, (f3 b hb).1.2.2.2.2.1, (f3 b hb).1.2.2.2.2.2⟩
      have nC : H5 s3.heap.objs.size = none := cL ▸ (show H5 ce.locals = none from I6.free)
      obtain ⟨m, hn, _⟩ := I6.loc
      have hn : s6.heap.Ns ce.locals m := hn
      rw [cL] at hn
      exact fine D s3.heap.objs.size s6 m H5 I7 qq hn (I3.fpOk (Nat.le_refl _) nC)
    · refine thnF (T.item (X.blk s3 H3 sc ce fp) rfl rfl rfl hc i [] s5 _ H5 (fun _ _ => False) I5 (stat I5 n5) st5 go) ?_
      rintro r s6 ⟨u, hr, h6⟩
      subst hr
      refine thnF h6 ?_
      rintro _ s7 ⟨x, H7, I7, r7, y7, st7, n7⟩
      refine thnF (pg.run _ s7 _ H7 x u _ (I7.pinned (stat I7 n7) (T.obj _ _ st7)) r7 (step x H7 y7)) ?_
      rintro _ s8 ⟨σ8, H8, I8, hw8, q8⟩
      refine thnF (pt.run _ s8 σ8 H8 _ I8 q8) ?_
      rintro b s9 ⟨H9, I9, q9⟩
      have fin : ∀ {s' : Shared} {H' : Hp}, Inv (X.blk s3 H3 sc ce fp) ([] ++ pinsAt fp s7.heap) σ8 H' s' → Nx H' →
          ∃ m, m < n ∧ ∃ i H', Inv (X.blk s3 H3 sc ce fp) [] (wipe σ (ow.map (·.2))) H' s' ∧ tn i s'.heap ∧ (∀ b ∈ fp, H' b = none) ∧ W i m H' := by
        intro s' H' J' nx
        obtain ⟨m', hm, w'⟩ := hNx H' nx
        have pin' : ∀ b ∈ fp, ∀ o, s7.heap.get? b = some o → s'.heap.get? b = some o ∧ H' b = none := by
          intro b hb o e
          have z := J'.pin (b, o) (List.mem_append_right _ (List.mem_append_right _ (mem_pinsAt hb e)))
          exact ⟨z.1, z.2.1⟩
        have hl : (wipe σ (ow.map (·.2))).length = σ8.length := by rw [← hw8, wipe_length]
        refine ⟨m', hm, i + 1, H', (J'.unpinned (pins := [])).weak hl ?_, T.keep _ _ _ st7 fun b hb o e => (pin' b hb o e).1, ?_, w'⟩
        · intro j v e
          rw [← hw8] at e
          exact (wipe_some e).1
        · intro b hb
          obtain ⟨o, e, _⟩ := T.obj _ _ st7 b hb
          exact (pin' b hb o e).2
      cases b with
      | false =>
        simp only [Bool.false_eq_true, if_false] at q9 ⊢
        exact fin I9 q9
      | true =>
        simp only [if_true] at q9 ⊢
        refine thnF (pe.run _ s9 σ8 H9 _ I9 q9) ?_
        rintro z s10 ⟨yv, H10, I10, r10, t, k, L, ey, ht, hD10, hL, few, nx⟩
        subst ey
        cases (show z = Value.ref t from r10)
        refine addT_ok (X := X.blk s3 H3 sc ce fp) I10 hu hD10 hL ht few ?_
        intro s11 L' I11 c1 c2
        exact fin I11 (nx L' c1 c2)
  exact codeAny_compStart_set loop (T.self X.A 0 _ _ _ st4 loop)
/-- {(..) for x in xs}, a value -/
theorem pe_scT {el tg iter : Expr} {ifs : List Expr} {sc : Scope} {ow : List (PySem.Str × Nat)} {pos : Pos} {wi : TI} {g : TG} {tt : TT} {te : TE} (hu : X.A.units + 1 < cLine) (hc : X.calm = true) (hN : X.N.Nodup)
    (hi : PI X tg iter wi) (ok : BlkOk X.N X.env.scope sc ow)
    (pgs : ∀ (s : Shared) (H : Hp) (C : Addr) (cl : List (PySem.Str × Addr)) (fp : List Addr), PG (X.blk s H sc (compEnvC sc cl C X.env) fp) tg g)
    (pts : ∀ (s : Shared) (H : Hp) (C : Addr) (cl : List (PySem.Str × Addr)) (fp : List Addr), PTs (X.blk s H sc (compEnvC sc cl C X.env) fp) ifs tt)
    (pes : ∀ (s : Shared) (H : Hp) (C : Addr) (cl : List (PySem.Str × Addr)) (fp : List Addr), PE (X.blk s H sc (compEnvC sc cl C X.env) fp) el te)
    (hs : ∀ x, foldedSetIterable iter X.env x = pure x := by intro _; rfl) :
    PE X (.SetComp el [⟨tg, iter, ifs, 0⟩] sc pos) (tScT X.K X.prog X.w wi g tt te (ow.map (·.2))) := by
  constructor
  intro pins s σ H Q I h
  rw [eval_SetComp]
  refine scT_core hu hc hN I hi ok pgs pts pes hs h ?_
  intro D C s' m H' I' q hn f
  refine ⟨m, hn, ?_⟩
  intro h'' sb
  obtain ⟨f0, f1, _, f3, f4, f5⟩ := f
  exact ⟨.ref D, H', I'.turned (t' := s'.toks) (fun b o hb e => (sb.2 b hb).trans e) f0 f1 f3 f4 f5, rfl, q⟩
end
/-- the turns of such a comprehension over a list or a tuple that stands -/
theorem scT_seq {P : Program} {w : World} {K : PySem.W.Frag} {J : It} {xs : List V} {g : TG} {tt : TT} {te : TE} {vs : List Nat} {σ : L2.St} {H1 : Hp} {D : Addr} {Qd : Hp → Prop} (Pv : Nat → Hp → Prop)
    (h0 : Pv 0 (upd H1 D (SetTO P w D []))) (stops : ∀ H, Pv xs.length H → J.stop xs.length H) (goes : ∀ i H, i < xs.length → Pv i H → J.go i H)
    (yields : ∀ i H x H', i < xs.length → Pv i H → J.yld i H x H' → H' = H ∧ xs[i]? = some x)
    (hs : ∀ i x H, xs[i]? = some x → Pv i H → g x (wipe σ vs) H fun σ2 H2 => wipe σ2 vs = wipe σ vs ∧ tt σ2 H2 fun b H3 =>
      if b = true then te σ2 H3 fun y H4 => ∃ (t : Addr) (k : List Int) (L : List (Addr × List Int)), y = .ref t ∧ SqT K H4 t (k.map V.int) ∧
        H4 D = some (SetTO P w D L) ∧ (∀ p ∈ L, SqT K H4 p.1 (p.2.map V.int)) ∧ L.length + 1 < 64 ∧
        ∀ L', (k ∈ L.map (·.2) → L' = L) → (k ∉ L.map (·.2) → L'.Perm ((t, k) :: L)) → Pv (i + 1) (upd H4 D (SetTO P w D L'))
      else Pv (i + 1) H3) (hd : ∀ H, Pv xs.length H → Qd H) :
    ∃ W : Nat → Nat → Hp → Prop, (∃ m, W 0 m (upd H1 D (SetTO P w D []))) ∧
      ∀ i m H, W i m H → (J.stop i H ∧ Qd H) ∨
        (J.go i H ∧ ∃ Nx : Hp → Prop, (∀ H', Nx H' → ∃ m', m' < m ∧ W (i + 1) m' H') ∧
          ∀ x H', J.yld i H x H' → g x (wipe σ vs) H' fun σ2 H2 => wipe σ2 vs = wipe σ vs ∧ tt σ2 H2 fun b H3 =>
            if b = true then te σ2 H3 fun y H4 => ∃ (t : Addr) (k : List Int) (L : List (Addr × List Int)), y = .ref t ∧ SqT K H4 t (k.map V.int) ∧
              H4 D = some (SetTO P w D L) ∧ (∀ p ∈ L, SqT K H4 p.1 (p.2.map V.int)) ∧ L.length + 1 < 64 ∧
              ∀ L', (k ∈ L.map (·.2) → L' = L) → (k ∉ L.map (·.2) → L'.Perm ((t, k) :: L)) → Nx (upd H4 D (SetTO P w D L'))
            else Nx H3) := by
  refine ⟨fun i m H => m = xs.length - i ∧ i ≤ xs.length ∧ Pv i H, ⟨xs.length, by simp, Nat.zero_le _, h0⟩, ?_⟩
  rintro i m H ⟨rfl, hi, p⟩
  by_cases lt : i < xs.length
  · refine .inr ⟨goes i H lt p, Pv (i + 1), fun H' p' => ⟨xs.length - (i + 1), by omega, rfl, lt, p'⟩, ?_⟩
    intro x H' y
    obtain ⟨e, hx⟩ := yields i H x H' lt p y
    subst e
    exact hs i x _ hx p
  · obtain rfl : i = xs.length := by omega
    exact .inl ⟨stops H p, hd H p⟩
end Kg
namespace PySem.SeqAt
open PySem
theorem list_eq_no_dict (l b : Addr) (items : Array Value) (es : Array DictEntry) (n n2 : Nat) (dd dd2 : Option Addr) (sl sl2 : Array (Option Value)) :
    Meets (Builtin.«list.__eq__» ⟨[.ref l, .ref b], []⟩) (fun _ R s =>
      s.heap.get? l = some { cls := .type "list", dict := dd, data := .seq items n, slots := sl } ∧
      s.heap.get? b = some { cls := .type "dict", dict := dd2, data := .dict es n2, slots := sl2 } ∧ R (.ok (.ret .notImplemented)) s) := by
  refine .of_wp fun prog w A R s h => ?_
  obtain ⟨hp, g, d, tk, os⟩ := s
  obtain ⟨hl, hb, h⟩ := h
  have f1 := F.sub_dict_list
  wp_walk using wpAny_loadPart' hl, wpAny_loadPart' hb
  exact ⟨_, rfl, h⟩
section
variable {A : Around} {s : Shared}
/-- a dict is no list -/
theorem RcAt.dict_list {l b : Addr} {items : Array Value} {o : Obj} {es : Array DictEntry} {ep : Nat} (ho : s.heap.get? b = some o) (hx : o.ExactDict)
    (hd : o.data = .dict es ep) (hl : s.heap.IsList l items) (hu : A.units < cLine) : RcAt A s (.ref b) (.ref l) false := by
  intro prog w E Q h
  obtain ⟨⟨c1, d1, a1, s1⟩, h1, k1, n1, e1⟩ := id hl
  obtain ⟨c2, d2, a2, s2⟩ := o
  obtain ⟨k2, _⟩ := hx
  simp only at k1 e1 k2 hd
  subst k1 e1 k2 hd
  have ne : b ≠ l := by
    intro e
    rw [e, h1] at ho
    injection ho with e2
    injection e2 with e3
    injection e3 with e4
    exact absurd e4 (by decide)
  have tb : s.TypeIs (.ref b) "dict" := ⟨_, ho, rfl⟩
  refine rc_eq_decline_or (k := false) tb ⟨_, h1, rfl⟩ (by decide) F.sub_list_dict F.slot_dict_eq F.slot_list_eq_refl ?_ ?_ ?_ (.inr hu) h
  · intro Q' hq
    refine wpAny_call_entry F.slot_dict_eq tb F.entry_dict_eq ?_ (F.args_dict_eq_2 _ _)
    show wpAny _ _ (Builtin.Dict.dictSlotArgs "__eq__" ⟨[.ref b, .ref l], []⟩ >>= _) _ _ s
    refine wpAny_bind ?_
    unfold Builtin.Dict.dictSlotArgs
    refine wpAny_bind (wpAny_notOrdered_dict tb ?_)
    show wpAny _ _ (pure (Value.ref b, Value.ref l)) _ _ s
    refine wpAny_pure ?_
    refine wpAny_bind (wpAny_isInstance (T := "list") ⟨_, h1, rfl⟩ F.sub_list_dict ?_)
    simp only [Bool.not_false, if_true]
    first
      | exact wpAny_pure ⟨_, rfl, hq⟩
      | exact wpAny_bind (wpAny_rule (wpAny_pure ⟨_, rfl, hq⟩))
  · intro Q' hq
    exact call_meets F.slot_list_eq_refl ⟨_, h1, rfl⟩ F.entry_list_eq (F.args_list_eq_2 _ _) (list_eq_no_dict l b items es n1 ep d1 d2 s1 s2) ⟨h1, ho, hq⟩
  · intro Q' hq
    exact wpAny_isSame_ref_other' ne ho h1 (by simp) hq
end
end PySem.SeqAt
namespace Kg
open PySem PySem.Spec PyProof.Rows L2
open Evl (Ex)

theorem pi_or {X : Cx} {tg l : Expr} {t1 t2 : TI} (h1 : PI X tg l t1) (h2 : PI X tg l t2) : PI X tg l (fun σ H R => t1 σ H R ∨ t2 σ H R) := by
  constructor
  intro pins s σ H R I h
  exact h.elim (h1.run pins s σ H R I) (h2.run pins s σ H R I)

mutual
theorem Da.dp {K : PySem.W.Frag} {H : Hp} : ∀ (d : PyData) {v : V}, PyData.canLay0 d = true → Da K H v d → Dp K H v d
  | .none, _, _, .non => .non
  | .bool _, _, _, .bl b => .bl b
  | .int _, _, _, .int i => .int i
  | .str _, _, _, .str x => .str x
  | .list ds, _, h, .lst a b => .lst a (DaAll.dp ds (by simpa [PyData.canLay0] using h) b)
  | .tuple ds, _, h, .tup a b => .tup a (DaAll.dp ds (by simpa [PyData.canLay0] using h) b)
  | .dict _, _, h, _ => by simp [PyData.canLay0] at h
theorem DaAll.dp {K : PySem.W.Frag} {H : Hp} : ∀ (ds : List PyData) {vs : List V}, PyData.canLayAll0 ds = true → DaAll K H vs ds → DpAll K H vs ds
  | [], _, _, .nil => .nil
  | d :: ds, _, h, .cons a b => by
    have h2 : d.canLay0 = true ∧ PyData.canLayAll0 ds = true := by simpa [PyData.canLayAll0] using h
    exact .cons (Da.dp d h2.1 a) (DaAll.dp ds h2.2 b)
end
section
variable {X : Cx}
/-- a dict == a list -/
def rEqDL (K : PySem.W.Frag) : R2 := fun x y H Q => ∃ a b kvs ys, x = .ref a ∧ H a = some (.dK kvs) ∧ y = .ref b ∧ SqL K H b ys ∧ Q (.bl false) H
theorem op_eqDL (hu : X.A.units + 64 < cLine) : OpR X (compareOp .Eq) (rEqDL X.K) := by
  intro pins s σ H x y v u Q I rx ry h
  obtain ⟨a, b, kvs, ys, e1, ha, e2, hb, q⟩ := h
  subst e1
  subst e2
  cases (show v = Value.ref a from rx)
  cases (show u = Value.ref b from ry)
  obtain ⟨_, _, vs, _, o, es, ep, ho, hx, hd, _⟩ := I.hok a _ ha
  obtain ⟨its, _, pl, _⟩ := I.list hb
  exact PySem.SeqAt.RcAt.dict_list ho hx hd pl.isList (by omega) X.prog X.w X.xe _ ⟨.bl _, H, I, rfl, q⟩

/-- len of a new set of tuples -/
def rLenST (P : Program) (w : World) : List V → Hp → VK → Prop := fun xs H Q => ∃ a L, xs = [.ref a] ∧ H a = some (SetTO P w a L) ∧ Q (.int (L.length : Int)) H
theorem cr_lenST : CallR X (.builtin "len") (rLenST X.prog X.w) := by
  intro pins s σ H xs us Q I r h
  obtain ⟨a, L, e, ha, q⟩ := h
  subst e
  obtain ⟨u, e, rx⟩ := vals1 r
  subst e
  cases (show u = Value.ref a from rx)
  have R0 : SetT0 X.prog X.w s.heap a L := (I.hok a _ ha).1
  obtain ⟨es, ep, t, ⟨o, ho, hx, hd⟩, hr, tab, _, _, _, room, few⟩ := R0.ex
  have hl : es.size = L.length := by
    have := congrArg List.length hr
    simpa [rowsOf] using this
  have hp : t.place.size = L.length := by
    have := tab.sz
    rwa [List.length_map] at this
  have fits : t.fits es.size = true := by
    unfold SetTable.fits SetTable.fill
    rw [tab.dm]
    simp only [Bool.and_eq_true, beq_iff_eq, decide_eq_true_eq]
    refine ⟨by rw [hp, hl], ?_⟩
    show t.place.size + 0 ≤ t.mask
    omega
  exact call_len_set ho hx hd fits (by rw [hl]; omega) ⟨.int (L.length : Int), H, (I.tok _), ⟨_, by rw [hl]⟩, q⟩
end
section
variable {X : Cx}
/-- a list of anything against a list without items -/
def rEqNil (K : PySem.W.Frag) : R2 := fun x y H Q => ∃ a b xs, x = .ref a ∧ y = .ref b ∧ SqL K H a xs ∧ SqL K H b [] ∧ Q (.bl xs.isEmpty) H
def rNeNil (K : PySem.W.Frag) : R2 := fun x y H Q => ∃ a b xs, x = .ref a ∧ y = .ref b ∧ SqL K H a xs ∧ SqL K H b [] ∧ Q (.bl (!xs.isEmpty)) H
theorem op_eqNil (hu : X.A.units + 64 < cLine) : OpR X (compareOp .Eq) (rEqNil X.K) := by
  intro pins s σ H x y v u Q I rx ry h
  obtain ⟨a, b, xs, e1, e2, ha, hb, q⟩ := h
  subst e1
  subst e2
  cases (show v = Value.ref a from rx)
  cases (show u = Value.ref b from ry)
  obtain ⟨its, r1, pl, _⟩ := I.list ha
  obtain ⟨its2, r2, pl2, _⟩ := I.list hb
  cases r2
  have room : X.A.units < cLine := by omega
  cases r1 with
  | nil =>
    refine SeqAt.RcAt.lists (e := fun _ => true) pl.isList pl2.isList rfl room ?_ X.prog X.w X.xe _ ⟨.bl _, H, I, rfl, q⟩
    intro j h1
    exact absurd h1 (by simp)
  | cons _ _ =>
    exact SeqAt.RcAt.lists_lengths pl.isList pl2.isList (by simp) room X.prog X.w X.xe _ ⟨.bl _, H, I, rfl, q⟩
theorem op_neNil (hu : X.A.units + 64 < cLine) : OpR X (compareOp .NotEq) (rNeNil X.K) := by
  intro pins s σ H x y v u Q I rx ry h
  obtain ⟨a, b, xs, e1, e2, ha, hb, q⟩ := h
  subst e1
  subst e2
  cases (show v = Value.ref a from rx)
  cases (show u = Value.ref b from ry)
  obtain ⟨its, r1, pl, _⟩ := I.list ha
  obtain ⟨its2, r2, pl2, _⟩ := I.list hb
  cases r2
  have room : X.A.units < cLine := by omega
  cases r1 with
  | nil =>
    refine SeqAt.RcNeAt.lists (e := fun _ => true) pl.isList pl2.isList rfl room ?_ X.prog X.w X.xe _ ⟨.bl _, H, I, rfl, q⟩
    intro j h1
    exact absurd h1 (by simp)
  | cons _ _ =>
    exact SeqAt.RcNeAt.lists_lengths pl.isList pl2.isList (by simp) room X.prog X.w X.xe _ ⟨.bl _, H, I, rfl, q⟩
end
/-- a list comprehension over anything of n turns -/
theorem lc_gen {J : It} (n : Nat) {g : TG} {tt : TT} {te : TE} {vs : List Nat} {σ : L2.St} {H1 : Hp} {D : Addr} {Qd : Hp → Prop} (Pv : Nat → Hp → Prop)
    (h0 : Pv 0 (upd H1 D (.lst []))) (stops : ∀ H, Pv n H → J.stop n H) (goes : ∀ i H, i < n → Pv i H → J.go i H)
    (hs : ∀ i x H H', i < n → Pv i H → J.yld i H x H' → g x (wipe σ vs) H' fun σ2 H2 => wipe σ2 vs = wipe σ vs ∧ tt σ2 H2 fun b H3 =>
      if b = true then te σ2 H3 fun y H4 => ∃ acc, H4 D = some (.lst acc) ∧ acc.length < sizeLine ∧ Pv (i + 1) (upd H4 D (.lst (acc ++ [y]))) else Pv (i + 1) H3)
    (hd : ∀ H, Pv n H → Qd H) :
    ∃ W : Nat → Nat → Hp → Prop, (∃ m, W 0 m (upd H1 D (.lst []))) ∧
      ∀ i m H, W i m H → (J.stop i H ∧ Qd H) ∨
        (J.go i H ∧ ∃ Nx : Hp → Prop, (∀ H', Nx H' → ∃ m', m' < m ∧ W (i + 1) m' H') ∧
          ∀ x H', J.yld i H x H' → g x (wipe σ vs) H' fun σ2 H2 => wipe σ2 vs = wipe σ vs ∧ tt σ2 H2 fun b H3 =>
            if b = true then te σ2 H3 fun y H4 => ∃ acc, H4 D = some (.lst acc) ∧ acc.length < sizeLine ∧ Nx (upd H4 D (.lst (acc ++ [y]))) else Nx H3) := by
  refine ⟨fun i m H => m = n - i ∧ i ≤ n ∧ Pv i H, ⟨n, by simp, Nat.zero_le _, h0⟩, ?_⟩
  rintro i m H ⟨rfl, hi, p⟩
  by_cases lt : i < n
  · refine .inr ⟨goes i H lt p, Pv (i + 1), fun H' p' => ⟨n - (i + 1), by omega, rfl, lt, p'⟩, ?_⟩
    intro x H' y
    exact hs i x H H' lt p y
  · obtain rfl : i = n := by omega
    exact .inl ⟨stops H p, hd H p⟩
/-- xs[:n] -/
theorem cut_to (xs : List V) (n : Nat) : cutV xs none (some (n : Int)) = xs.take n := by
  unfold cutV HT.sIx
  simp only []
  have h : ¬ (n : Int) < 0 := by omega
  simp [h]
theorem ifB {c : Bool} {A B : Prop} (h1 : c = true → A) (h2 : c = false → B) : if c = true then A else B := by
  cases c with
  | true => rw [if_pos rfl]; exact h1 rfl
  | false => rw [if_neg Bool.false_ne_true]; exact h2 rfl
theorem ifT {c : Bool} {A B : Prop} (h : c = true) (h1 : A) : if c = true then A else B := by rw [if_pos h]; exact h1
theorem ifF {c : Bool} {A B : Prop} (h : c = false) (h1 : B) : if c = true then A else B := by
  rw [h, if_neg Bool.false_ne_true]; exact h1
/-- the greatest number that a draw makes -/
theorem mix_bound {a b c u v : Int} (h1 : 0 ≤ a) (h2 : a < 2 ^ 32) (h3 : 0 ≤ b) (h4 : b < 2 ^ 24) (h5 : 0 ≤ c) (h6 : c < 2 ^ 20) (h7 : 0 ≤ u) (h8 : u < 2 ^ 20) (h9 : 0 ≤ v) (h10 : v < 2 ^ 20) :
    (a * b + u * c * c + v).natAbs < 2 ^ 64 := by
  have e1 : a * b ≤ 2 ^ 32 * 2 ^ 24 := Int.mul_le_mul (by omega) (by omega) h3 (by decide)
  have e2 : 0 ≤ a * b := Int.mul_nonneg h1 h3
  have e3 : u * c ≤ 2 ^ 20 * 2 ^ 20 := Int.mul_le_mul (by omega) (by omega) h5 (by decide)
  have e4 : 0 ≤ u * c := Int.mul_nonneg h7 h5
  have e5 : u * c * c ≤ 2 ^ 40 * 2 ^ 20 := Int.mul_le_mul (by omega) (by omega) h5 (by decide)
  have e6 : 0 ≤ u * c * c := Int.mul_nonneg e4 h5
  omega
end Kg
/-! Kg6: what is a number, a square, a list of unlike squares, over data. -/
namespace Kg
open PySem PySem.Spec PyProof.Rows L2
open Evl (Ex)
def isI : PyData → Bool
  | .int _ => true
  | _ => false
def isIB : PyData → Bool
  | .int _ => true
  | .bool _ => true
  | _ => false
def isBo : PyData → Bool
  | .bool _ => true
  | _ => false
def isLi : PyData → Bool
  | .list _ => true
  | _ => false
def isTu : PyData → Bool
  | .tuple _ => true
  | _ => false
def seqOf : PyData → Option (List PyData)
  | .list ds => some ds
  | .tuple ds => some ds
  | _ => none
def intOf : PyData → Option Int
  | .int i => some i
  | _ => none
def sqOf (d : PyData) : Option (Int × Int) := match seqOf d with
  | some [a, b] => match intOf a, intOf b with
    | some x, some y => some (x, y)
    | _, _ => none
  | _ => none
def isSq (d : PyData) : Bool := (sqOf d).isSome
def areSq (d : PyData) : Bool := match seqOf d with
  | some ds => ds.all isSq && decide ((ds.map sqOf).Nodup)
  | none => false
theorem isI_of (d : PyData) : isI d = (isIB d && !isBo d) := by cases d <;> rfl
theorem isI_intOf (d : PyData) : isI d = (intOf d).isSome := by cases d <;> rfl
theorem kit_int : ∀ d : PyData, kitB (tyD d) "int" = some (isIB d)
  | .none => (by decide +kernel : kitB "NoneType" "int" = some false)
  | .bool _ => (by decide +kernel : kitB "bool" "int" = some true)
  | .int _ => (by decide +kernel : kitB "int" "int" = some true)
  | .str _ => (by decide +kernel : kitB "str" "int" = some false)
  | .list _ => (by decide +kernel : kitB "list" "int" = some false)
  | .tuple _ => (by decide +kernel : kitB "tuple" "int" = some false)
  | .dict _ => (by decide +kernel : kitB "dict" "int" = some false)
theorem kit_bool : ∀ d : PyData, kitB (tyD d) "bool" = some (isBo d)
  | .none => (by decide +kernel : kitB "NoneType" "bool" = some false)
  | .bool _ => (by decide +kernel : kitB "bool" "bool" = some true)
  | .int _ => (by decide +kernel : kitB "int" "bool" = some false)
  | .str _ => (by decide +kernel : kitB "str" "bool" = some false)
  | .list _ => (by decide +kernel : kitB "list" "bool" = some false)
  | .tuple _ => (by decide +kernel : kitB "tuple" "bool" = some false)
  | .dict _ => (by decide +kernel : kitB "dict" "bool" = some false)
theorem kit_list : ∀ d : PyData, kitB (tyD d) "list" = some (isLi d)
  | .none => (by decide +kernel : kitB "NoneType" "list" = some false)
  | .bool _ => (by decide +kernel : kitB "bool" "list" = some false)
  | .int _ => (by decide +kernel : kitB "int" "list" = some false)
  | .str _ => (by decide +kernel : kitB "str" "list" = some false)
  | .list _ => (by decide +kernel : kitB "list" "list" = some true)
  | .tuple _ => (by decide +kernel : kitB "tuple" "list" = some false)
  | .dict _ => (by decide +kernel : kitB "dict" "list" = some false)
theorem kit_tuple : ∀ d : PyData, kitB (tyD d) "tuple" = some (isTu d)
  | .none => (by decide +kernel : kitB "NoneType" "tuple" = some false)
  | .bool _ => (by decide +kernel : kitB "bool" "tuple" = some false)
  | .int _ => (by decide +kernel : kitB "int" "tuple" = some false)
  | .str _ => (by decide +kernel : kitB "str" "tuple" = some false)
  | .list _ => (by decide +kernel : kitB "list" "tuple" = some false)
  | .tuple _ => (by decide +kernel : kitB "tuple" "tuple" = some true)
  | .dict _ => (by decide +kernel : kitB "dict" "tuple" = some false)
theorem q_bl {Q : VK} {a b : Bool} {H : Hp} (e : a = b) (q : Q (.bl b) H) : Q (.bl a) H := e ▸ q
theorem isi_at {K : PySem.W.Frag} {H : Hp} {v : V} {d : PyData} {T : String} {b : Bool} {Q : VK} (h : Da K H v d) (e : kitB (tyD d) T = some b) (q : Q (.bl b) H) : rIsi K [v, .ty T] H Q :=
  ⟨v, .ty T, _, _, b, rfl, .ty T, tyX_of h, kit_ty e, q⟩
theorem kit_seq {K : PySem.W.Frag} (d : PyData) : PySem.W.kitAny K (.type (tyD d)) [.type "list", .type "tuple"] = some (seqOf d).isSome := by
  refine kitAny_cons (kit_ty (kit_list d)) (fun h => kitAny_cons (kit_ty (kit_tuple d)) (fun h2 => ?_) (fun h2 => ?_)) (fun h => ?_)
  · rw [kitAny_nil]
    cases d <;> simp_all [seqOf, isLi, isTu]
  · cases d <;> simp_all [seqOf, isLi, isTu]
  · cases d <;> simp_all [seqOf, isLi, isTu]
theorem isiT_at {K : PySem.W.Frag} {H : Hp} {v : V} {d : PyData} {tp : Addr} {Q : VK} (h : Da K H v d) (ht : H tp = some (.tup [.ty "list", .ty "tuple"]))
    (q : Q (.bl (seqOf d).isSome) H) : rIsiT K [v, .ref tp] H Q :=
  ⟨v, tp, _, _, _, _, rfl, ht, .cons (.ty _) (.cons (.ty _) .nil), tyX_of h, kit_seq d, q⟩
/-- a list or a tuple: where it stands, its items -/
theorem seq_at {K : PySem.W.Frag} {H : Hp} {v : V} {d : PyData} {ds : List PyData} (h : Da K H v d) (e : seqOf d = some ds) :
    ∃ (a : Addr) (xs : List V), v = .ref a ∧ (SqL K H a xs ∨ SqT K H a xs) ∧ DaAll K H xs ds := by
  cases h with
  | lst h1 h2 => cases e; exact ⟨_, _, rfl, .inl h1, h2⟩
  | tup h1 h2 => cases e; exact ⟨_, _, rfl, .inr h1, h2⟩
  | _ => cases e
/-- a promise: a truth about one thing's data -/
def spB (K : PySem.W.Frag) (f : PyData → Bool) : Sp := fun vs H Q _ => ∃ v d, vs = [v] ∧ Da K H v d ∧ ∀ H', Ex H H' → Q (.bl (f d)) H'
theorem seq_ex {K : PySem.W.Frag} {H H' : Hp} {a : Addr} {xs : List V} (e : Ex H H') (h : SqL K H a xs ∨ SqT K H a xs) : SqL K H' a xs ∨ SqT K H' a xs :=
  h.imp (Evl.ex_l e) (Evl.ex_t e)
/-- an item of a list or a tuple -/
theorem ix_of {K : PySem.W.Frag} {H : Hp} {a : Addr} {xs : List V} {i : Int} {v : V} {Q : VK} (h : SqL K H a xs ∨ SqT K H a xs) (hi : atI xs i = some v) (q : Q v H) : rIx K (.ref a) (.int i) H Q :=
  h.elim (fun h => .inl ⟨_, _, _, _, rfl, rfl, h, hi, q⟩) (fun h => .inr (.inl ⟨_, _, _, _, rfl, rfl, h, hi, q⟩))
theorem sq_two {d a b : PyData} (e : seqOf d = some [a, b]) : isSq d = (isI a && isI b) := by
  unfold isSq sqOf
  rw [e]
  cases a <;> cases b <;> rfl
theorem sq_not {d : PyData} {ds : List PyData} (e : seqOf d = some ds) (h : ds.length ≠ 2) : isSq d = false := by
  unfold isSq sqOf
  rw [e]
  match ds, h with
  | [], _ => rfl
  | [_], _ => rfl
  | [_, _], h => exact absurd rfl h
  | _ :: _ :: _ :: _, _ => rfl
theorem sq_no {d : PyData} (e : seqOf d = none) : isSq d = false := by
  unfold isSq sqOf
  rw [e]
  rfl
theorem da_two {K : PySem.W.Frag} {H : Hp} {xs : List V} {ds : List PyData} (h : DaAll K H xs ds) (hl : xs.length = 2) : ∃ x y a b, xs = [x, y] ∧ ds = [a, b] ∧ Da K H x a ∧ Da K H y b := by
  match xs, ds, h, hl with
  | [x, y], [a, b], .cons h1 (.cons h2 .nil), _ => exact ⟨x, y, a, b, rfl, rfl, h1, h2⟩
end Kg
/-! Kg7: lists without repetition; what a set of squares holds. -/
namespace Kg
open PySem PySem.Spec PyProof.Rows L2
open Evl (Ex)
theorem len_of_sub {α : Type} [DecidableEq α] : ∀ (M N : List α), M.Nodup → (∀ x ∈ M, x ∈ N) → M.length ≤ N.length
  | [], _, _, _ => Nat.zero_le _
  | x :: M, N, hd, hs => by
    have hx : x ∈ N := hs x List.mem_cons_self
    have hd' := List.nodup_cons.mp hd
    have ih := len_of_sub M (N.erase x) hd'.2 fun y hy =>
      (List.mem_erase_of_ne (show y ≠ x from fun e => hd'.1 (by rw [← e]; exact hy))).mpr (hs y (List.mem_cons_of_mem _ hy))
    rw [List.length_erase_of_mem hx] at ih
    have : 0 < N.length := List.length_pos_of_mem hx
    simp only [List.length_cons]
    omega
theorem dup_of {α : Type} [DecidableEq α] : ∀ (N : List α), ¬ N.Nodup → ∃ x, x ∈ N ∧ ∀ y ∈ N, y ∈ N.erase x
  | [], h => absurd List.nodup_nil h
  | a :: N, h => by
    by_cases ha : a ∈ N
    · refine ⟨a, List.mem_cons_self, ?_⟩
      intro y hy
      rw [List.erase_cons_head]
      rcases List.mem_cons.mp hy with e | hy
      · exact e ▸ ha
      · exact hy
    · have hN : ¬ N.Nodup := fun q => h (List.nodup_cons.mpr ⟨ha, q⟩)
      obtain ⟨x, hx, hall⟩ := dup_of N hN
      refine ⟨x, List.mem_cons_of_mem _ hx, ?_⟩
      have ne : ¬ (a == x) = true := by
        intro e
        exact ha (by rw [beq_iff_eq.mp e]; exact hx)
      intro y hy
      rw [List.erase_cons, if_neg ne]
      rcases List.mem_cons.mp hy with e | hy
      · rw [e]; exact List.mem_cons_self
      · exact List.mem_cons_of_mem _ (hall y hy)
/-- as many unlike ones as there are: all are unlike -/
theorem len_iff_nodup {α : Type} [DecidableEq α] {M N : List α} (hd : M.Nodup) (h : ∀ x, x ∈ M ↔ x ∈ N) : M.length = N.length ↔ N.Nodup := by
  constructor
  · intro e
    rcases Classical.em N.Nodup with q | hN
    · exact q
    · obtain ⟨x, hx, hall⟩ := dup_of N hN
      have := len_of_sub M (N.erase x) hd fun y hy => hall y ((h y).mp hy)
      rw [List.length_erase_of_mem hx] at this
      have : 0 < N.length := List.length_pos_of_mem hx
      omega
  · intro hN
    have a := len_of_sub M N hd fun x => (h x).mp
    have b := len_of_sub N M hN fun x => (h x).mpr
    omega
/-- a square's two numbers -/
def keyOf (d : PyData) : List Int := match sqOf d with
  | some (x, y) => [x, y]
  | none => []
theorem keys_nodup {ds : List PyData} (h : ds.all isSq = true) : (ds.map keyOf).Nodup ↔ (ds.map sqOf).Nodup := by
  have inj : ∀ a ∈ ds, ∀ b ∈ ds, keyOf a = keyOf b ↔ sqOf a = sqOf b := by
    intro a ha b hb
    have h1 : isSq a = true := List.all_eq_true.mp h a ha
    have h2 : isSq b = true := List.all_eq_true.mp h b hb
    unfold keyOf
    unfold isSq at h1 h2
    match e1 : sqOf a, e2 : sqOf b with
    | some (x, y), some (z, u) => simp
    | none, _ => rw [e1] at h1; cases h1
    | some _, none => rw [e2] at h2; cases h2
  clear h
  induction ds with
  | nil => simp
  | cons d ds ih =>
    simp only [List.map_cons, List.nodup_cons, List.mem_map, not_exists, not_and]
    have ih' := ih fun a ha b hb => inj a (List.mem_cons_of_mem _ ha) b (List.mem_cons_of_mem _ hb)
    constructor
    · rintro ⟨a, b⟩
      exact ⟨fun x hx e => a x hx ((inj x (List.mem_cons_of_mem _ hx) d List.mem_cons_self).mpr e), ih'.mp b⟩
    · rintro ⟨a, b⟩
      exact ⟨fun x hx e => a x hx ((inj x (List.mem_cons_of_mem _ hx) d List.mem_cons_self).mp e), ih'.mpr b⟩
/-- a square as data: a list or a tuple of its two numbers -/
theorem sq_at {K : PySem.W.Frag} {H : Hp} {v : V} {d : PyData} (h : Da K H v d) (e : isSq d = true) :
    ∃ (a : Addr) (x y : Int), v = .ref a ∧ sqOf d = some (x, y) ∧ (SqL K H a [.int x, .int y] ∨ SqT K H a [.int x, .int y]) := by
  match hs : seqOf d with
  | none => rw [sq_no hs] at e; cases e
  | some ds =>
    by_cases hl : ds.length = 2
    · obtain ⟨a, xs, ev, hq, ha⟩ := seq_at h hs
      obtain ⟨x, y, da, db, e1, e2, h1, h2⟩ := da_two ha (ha.len.trans hl)
      subst e1 e2
      rw [sq_two hs] at e
      obtain ⟨i1, i2⟩ := Bool.and_eq_true_iff.mp e
      cases h1 <;> first | cases i1 | skip
      cases h2 <;> first | cases i2 | skip
      exact ⟨a, _, _, ev, by unfold sqOf; rw [hs]; rfl, hq⟩
    · rw [sq_not hs hl] at e; cases e
/-- what a set of squares holds behind i items -/
structure Held (K : PySem.W.Frag) (P : Program) (w : World) (D : Addr) (H1 : Hp) (ds : List PyData) (i : Nat) (H : Hp) : Prop where
  ex : Ex H1 H
  it : ∃ L : List (Addr × List Int), H D = some (SetTO P w D L) ∧ (∀ p ∈ L, SqT K H p.1 (p.2.map V.int)) ∧
    (∀ k, k ∈ L.map (·.2) ↔ k ∈ (ds.take i).map keyOf) ∧ (L.map (·.2)).Nodup ∧ L.length ≤ i
theorem take_one {α : Type} {l : List α} {i : Nat} {x : α} (h : l[i]? = some x) : l.take (i + 1) = l.take i ++ [x] := by
  rw [List.take_add_one, h]; rfl
theorem Held.turn {K : PySem.W.Frag} {P : Program} {w : World} {D t : Addr} {H1 H2 : Hp} {ds : List PyData} {i : Nat} {d : PyData} {L L' : List (Addr × List Int)}
    (ex : Ex H1 H2) (h0 : H1 D = none) (hd : ds[i]? = some d) (hD : H2 D = some (SetTO P w D L)) (hL : ∀ p ∈ L, SqT K H2 p.1 (p.2.map V.int)) (ht : SqT K H2 t ((keyOf d).map V.int))
    (hk : ∀ k, k ∈ L.map (·.2) ↔ k ∈ (ds.take i).map keyOf) (nd : (L.map (·.2)).Nodup) (hl : L.length ≤ i)
    (c1 : keyOf d ∈ L.map (·.2) → L' = L) (c2 : keyOf d ∉ L.map (·.2) → L'.Perm ((t, keyOf d) :: L)) : Held K P w D H1 ds (i + 1) (upd H2 D (SetTO P w D L')) := by
  have keep : ∀ p xs, SqT K H2 p xs → SqT K (upd H2 D (SetTO P w D L')) p xs := by
    intro p xs h
    rcases h with (h | ⟨o, h⟩) | h
    · refine .inl (.inl ((upd_ne ?_).trans h))
      intro e; rw [e, hD] at h; cases h
    · refine .inl (.inr ⟨o, (upd_ne ?_).trans h⟩)
      intro e; rw [e, hD] at h; cases h
    · exact .inr h
  refine ⟨Evl.Ex.mut ex h0, L', upd_same, ?_, ?_, ?_, ?_⟩
  · intro p hp
    refine keep _ _ ?_
    by_cases c : keyOf d ∈ L.map (·.2)
    · rw [c1 c] at hp; exact hL p hp
    · rcases List.mem_cons.mp ((c2 c).mem_iff.mp hp) with e | hp
      · rw [e]; exact ht
      · exact hL p hp
  · intro k
    rw [take_one hd, List.map_append, List.mem_append]
    by_cases c : keyOf d ∈ L.map (·.2)
    · rw [c1 c, hk]
      constructor
      · exact .inl
      · rintro (h | h)
        · exact h
        · rw [List.map_cons, List.map_nil, List.mem_singleton] at h
          rw [h]; exact (hk _).mp c
    · have pm := (c2 c).map (·.2)
      rw [pm.mem_iff, List.map_cons, List.mem_cons, hk]
      simp only [List.map_cons, List.map_nil, List.mem_singleton]
      exact Or.comm
  · by_cases c : keyOf d ∈ L.map (·.2)
    · rw [c1 c]; exact nd
    · have pm := (c2 c).map (·.2)
      rw [pm.nodup_iff, List.map_cons]
      exact List.nodup_cons.mpr ⟨c, nd⟩
  · by_cases c : keyOf d ∈ L.map (·.2)
    · rw [c1 c]; omega
    · rw [(c2 c).length_eq, List.length_cons]; omega
/-- the pairs of a list of squares -/
def prs (ds : List PyData) : List (Int × Int) := ds.filterMap sqOf
theorem prs_some {ds : List PyData} (h : ds.all isSq = true) : ds.map sqOf = (prs ds).map some := by
  induction ds with
  | nil => rfl
  | cons d ds ih =>
    simp only [List.all_cons, Bool.and_eq_true] at h
    obtain ⟨h1, h2⟩ := h
    unfold isSq at h1
    obtain ⟨z, hz⟩ := Option.isSome_iff_exists.mp h1
    unfold prs
    rw [List.filterMap_cons_some hz, List.map_cons, List.map_cons, hz, ih h2]
    rfl
theorem prs_len {ds : List PyData} (h : ds.all isSq = true) : (prs ds).length = ds.length := by
  have := congrArg List.length (prs_some h)
  simpa using this.symm
theorem prs_at {ds : List PyData} (h : ds.all isSq = true) {i : Nat} {d : PyData} (hd : ds[i]? = some d) : ∃ z, (prs ds)[i]? = some z ∧ sqOf d = some z := by
  have e := congrArg (·[i]?) (prs_some h)
  simp only [List.getElem?_map, hd, Option.map_some] at e
  cases q : (prs ds)[i]? with
  | none => rw [q] at e; cases e
  | some z => rw [q] at e; exact ⟨z, rfl, Option.some.inj e⟩
theorem nodup_some {α : Type} (zs : List α) : (zs.map some).Nodup ↔ zs.Nodup := by
  induction zs with
  | nil => simp
  | cons z zs ih =>
    simp only [List.map_cons, List.nodup_cons, List.mem_map, not_exists, not_and]
    constructor
    · rintro ⟨a, b⟩
      exact ⟨fun hz => a z hz rfl, ih.mp b⟩
    · rintro ⟨a, b⟩
      exact ⟨fun x hx e => a (Option.some.inj e ▸ hx), ih.mpr b⟩
def pairL (z : Int × Int) : PyData := .list [.int z.1, .int z.2]
theorem pairL_shaped (z : Int × Int) : SeqAt.shaped (pairL z) = true := by
  simp [pairL, SeqAt.shaped, PyData.canLay0, PyData.canLayAll0, PyData.depth, PyData.depthAll]
theorem pairLs_lay : ∀ zs : List (Int × Int), PyData.canLayAll0 (zs.map pairL) = true
  | [] => by simp [PyData.canLayAll0]
  | z :: zs => by simp [PyData.canLayAll0, pairLs_lay zs, pairL, PyData.canLay0]
theorem pairLs_depth : ∀ zs : List (Int × Int), PyData.depthAll (zs.map pairL) ≤ 1
  | [] => by simp [PyData.depthAll]
  | z :: zs => by
    have := pairLs_depth zs
    simp only [List.map_cons, PyData.depthAll, pairL, PyData.depth]
    omega
theorem pairLs_shaped (zs : List (Int × Int)) : SeqAt.shaped (.list (zs.map pairL)) = true := by
  have := pairLs_depth zs
  unfold SeqAt.shaped
  rw [PyData.canLay0, pairLs_lay, Bool.true_and, PyData.depth]
  exact decide_eq_true (by omega)
theorem pairL_eqv (z u : Int × Int) : PyData.eqv (pairL z) (pairL u) = decide (z = u) := by
  obtain ⟨a, b⟩ := z
  obtain ⟨c, d⟩ := u
  simp only [pairL, PyData.eqv, PyData.eqvAll, Bool.and_true]
  by_cases h1 : a = c <;> by_cases h2 : b = d <;> simp [h1, h2]
theorem pairLs_any (zs : List (Int × Int)) (u : Int × Int) : ((zs.map pairL).any fun z => PyData.eqv z (pairL u)) = decide (u ∈ zs) := by
  induction zs with
  | nil => simp
  | cons z zs ih =>
    rw [List.map_cons, List.any_cons, ih, pairL_eqv]
    by_cases h : z = u
    · simp [h]
    · have h2 : ¬ u = z := fun e => h e.symm
      simp [h, h2]
theorem nodup_next {α : Type} [DecidableEq α] {zs : List α} {i : Nat} {z : α} (h : zs[i]? = some z) : (zs.take (i + 1)).Nodup ↔ (zs.take i).Nodup ∧ z ∉ zs.take i := by
  rw [take_one h, List.nodup_append]
  constructor
  · rintro ⟨a, _, c⟩
    exact ⟨a, fun hz => c z hz z (List.mem_singleton.mpr rfl) rfl⟩
  · rintro ⟨a, b⟩
    exact ⟨a, by simp, fun x hx y hy e => b (by rw [List.mem_singleton] at hy; rw [← hy, ← e]; exact hx)⟩
/-- rows of two numbers, at their places -/
structure Rows2 (H : Hp) (rs : List Addr) (zs : List (Int × Int)) : Prop where
  len : rs.length = zs.length
  row : ∀ (j : Nat) (r : Addr) (z : Int × Int), rs[j]? = some r → zs[j]? = some z → H r = some (.lst [.int z.1, .int z.2])
theorem Rows2.mono {H H' : Hp} {rs : List Addr} {zs : List (Int × Int)} (e : Ex H H') (h : Rows2 H rs zs) : Rows2 H' rs zs := ⟨h.len, fun j r z a b => e _ _ (h.row j r z a b)⟩
theorem Rows2.dp {K : PySem.W.Frag} {H : Hp} : ∀ {rs : List Addr} {zs : List (Int × Int)}, Rows2 H rs zs → DpAll K H (rs.map V.ref) (zs.map pairL)
  | [], [], _ => .nil
  | [], _ :: _, h => absurd h.len (by simp)
  | _ :: _, [], h => absurd h.len (by simp)
  | r :: rs, z :: zs, h => .cons (.lst (SqL.of (h.row 0 r z rfl rfl)) (.cons (.int _) (.cons (.int _) .nil)))
      (Rows2.dp ⟨by simpa using h.len, fun j r' z' a b => h.row (j + 1) r' z' (by simpa using a) (by simpa using b)⟩)
theorem Rows2.take {H : Hp} {rs : List Addr} {zs : List (Int × Int)} (h : Rows2 H rs zs) (i : Nat) : Rows2 H (rs.take i) (zs.take i) := by
  refine ⟨by simp [h.len], ?_⟩
  intro j r z a b
  by_cases hj : j < i
  · rw [List.getElem?_take_of_lt hj] at a b
    exact h.row j r z a b
  · rw [List.getElem?_take_eq_none (by omega)] at a
    cases a
/-- data that is shown in a short text -/
structure Fit (n : Nat) (d : PyData) : Prop where
  sh : d.showable = true
  lv : d.leavesShort 70 = true
  wt : d.weight ≤ n
  dp : d.depth ≤ 3
theorem Fit.mono {n m : Nat} {d : PyData} (h : Fit n d) (l : n ≤ m) : Fit m d := ⟨h.sh, h.lv, Nat.le_trans h.wt l, h.dp⟩
theorem log_le {n : Nat} (h : n ≤ 2 * 10 ^ 60) : n.log2 ≤ 201 := by
  rcases Nat.eq_zero_or_pos n with e | hp
  · subst e; decide
  · have h1 : n < 2 ^ 202 := Nat.lt_of_le_of_lt h (by decide)
    have := (Nat.log2_lt (by omega)).mpr h1
    omega
theorem fit_int {i : Int} (h : i.natAbs ≤ 2 * 10 ^ 60) : Fit 202 (.int i) where
  sh := by
    have := log_le h
    simp [PyData.showable]
    omega
  lv := by
    have h1 : i.natAbs < 10 ^ 61 := Nat.lt_of_le_of_lt h (by decide)
    have e := int_text_length_le10 (k := 61) (by decide) h1
    simp only [PyData.leavesShort, decide_eq_true_eq]
    show (Str.ofString (toString i)).length ≤ 70
    rw [PySem.ofString_length]
    omega
  wt := by
    have := log_le h
    simp only [PyData.weight]
    split <;> omega
  dp := by simp [PyData.depth]
theorem fit_seq {n : Nat} {ds : List PyData} (m : Nat) (hl : ds.length ≤ m) (h : ∀ d ∈ ds, Fit n d ∧ d.depth ≤ 2) : Fit (m * (n + 1)) (.list ds) ∧ Fit (m * (n + 1)) (.tuple ds) := by
  have a1 : PyData.showableAll ds = true := PySem.Spec.showableAll_of fun d hd => (h d hd).1.sh
  have a2 : ∀ ds : List PyData, (∀ d ∈ ds, Fit n d ∧ d.depth ≤ 2) → PyData.leavesShortAll 70 ds = true ∧ PyData.weightAll ds ≤ ds.length * (n + 1) ∧ PyData.depthAll ds ≤ 2 := by
    intro ds
    induction ds with
    | nil => intro _; simp [PyData.leavesShortAll, PyData.weightAll, PyData.depthAll]
    | cons d ds ih =>
      intro h
      obtain ⟨b1, b2, b3⟩ := ih fun x hx => h x (List.mem_cons_of_mem _ hx)
      obtain ⟨c, c2⟩ := h d List.mem_cons_self
      have := c.wt
      refine ⟨by simp [PyData.leavesShortAll, c.lv, b1], ?_, ?_⟩
      · simp only [PyData.weightAll, List.length_cons, Nat.succ_mul]
        omega
      · simp only [PyData.depthAll]
        omega
  obtain ⟨b1, b2, b3⟩ := a2 ds h
  have b4 : ds.length * (n + 1) ≤ m * (n + 1) := Nat.mul_le_mul_right _ hl
  refine ⟨⟨by simpa [PyData.showable] using a1, by simpa [PyData.leavesShort] using b1, ?_, ?_⟩, ⟨by simpa [PyData.showable] using a1, by simpa [PyData.leavesShort] using b1, ?_, ?_⟩⟩
  · simp only [PyData.weight]; omega
  · simp only [PyData.depth]; omega
  · simp only [PyData.weight]; omega
  · simp only [PyData.depth]; omega
theorem Fit.line {n : Nat} {d : PyData} (h : Fit n d) (hn : n ≤ 200000) : d.shown.length ≤ sizeLine := by
  have := PyData.shown_le 70 (by decide) d h.lv
  have := h.wt
  rw [sizeLine_eq]
  omega
end Kg
/-! Kg3: the end of a law's row: the law's def, called where no guard runs, the modules' dict known. -/
namespace Kg
open PySem PySem.Spec PyProof.Rows L2

/-- what is tracked at the entry: the script and the modules' dict, both known, neither to be written -/
def Only2 (H : Hp) : Prop := ∀ b u, H b = some u → ∃ o u', u = .frz o u'
/-- what the top's callers know of their place -/
structure Entry (K : PySem.W.Frag) (H : Hp) (a : Addr) (ns : List Int) : Prop where
  only : Only2 H
  sys : Sys H
  script : SqL K H a (ns.map V.int)
  ne : a ≠ sysModules

section
variable {P : Program} {w : World} {K : PySem.W.Frag} {mg mb : Str → Option Value} {k : Nat} {fa a : Addr} {fd : FuncData} {x : Str} {sp : Sp} {s₁ : Shared} {vs : List Value} {ns : List Int}
/-- from an abstract heap in which known things alone are tracked -/
theorem call_from (KX : K.In s₁.heap) (hns : s₁.heap.Ns mainGlobals mg) (hb : s₁.heap.Ns builtinsNs mb)
    (hbb : ∀ x : Str, x ≠ "__name__" → mb x = bootBuiltins x) (hlim : s₁.heap.NoLimit) (hg : s₁.gens = #[]) (hr : Room k callerA)
    (F : ∀ base : Heap, K.In base → base.Ns mainGlobals mg → FnG P w K mg base CX0 k fa fd [x] sp)
    (hbind : ∀ (s : Shared) (u : Value), BindsTo s fd ⟨[u], []⟩ [(x, u)])
    (H : Hp) (hO : Only2 H) (hok : HOk P w H s₁.heap) (offK : ∀ b, H b ≠ none → K.lookup b = none)
    (offN : H mainGlobals = none ∧ H builtinsNs = none ∧ H cStatics = none)
    (hsp : sp [.ref a] H (fun v _ => v = .bl true) fun _ _ _ => False) :
    codeAny (model P w) callerA (.call (.ref fa) ⟨[.ref a], []⟩)
      (fun r s' => r = .ok (.ret (.bool true)) ∧ OldK s₁.heap s'.heap ∧ s'.os = s₁.os ∧ AllBare s'.gens) s₁ := by
  have inK : K.In (hidT s₁.heap H) := by
    intro b o e
    refine hidT_get (KX b o e) ?_
    cases q : H b with
    | none => rfl
    | some u => rw [offK b (by rw [q]; simp)] at e; cases e
  have ns_in : ∀ {b : Addr} {m : Str → Option Value}, H b = none → s₁.heap.Ns b m → (hidT s₁.heap H).Ns b m := by
    rintro b m n ⟨o, es, ep, e, d, r⟩
    exact ⟨o, es, ep, hidT_get e n, d, r⟩
  have hM : Mod K mg (hidT s₁.heap H) :=
    ⟨inK, ns_in offN.1 hns, ⟨mb, ns_in offN.2.1 hb, hbb⟩, hlim.elim fun mc z => ⟨mc, ns_in offN.2.2 z.1, z.2⟩⟩
  have e0 : Env0 P w K mg (hidT s₁.heap H) callerA [] s₁ H :=
    ⟨rfl, hM, fun b o e => of_hidT e, Nat.le_of_eq (hidT_size _ _), trivial, fun b hb => absurd (show b ∈ ([] : List Addr) from hb) (by simp), hok, .of_eq hg⟩
  have it := (F _ inK (ns_in offN.1 hns)).goes callerA [] s₁ H ⟨[.ref a], []⟩ [.ref a] [.ref a] _ _ hr rfl e0 (hbind s₁ (.ref a)) (.cons rfl .nil) hsp
  refine codeAny_mono it ?_
  rintro (e | fl) s' h
  · exact False.elim h
  · cases fl with
    | ret u =>
      obtain ⟨v, H', os, bare, un, hok', r', q⟩ := h
      obtain rfl : v = .bl true := q
      obtain rfl : u = Value.bool true := r'
      refine ⟨rfl, OldK.of_keep ?_, os, bare⟩
      intro b o e
      cases q : H b with
      | none => exact un.keep b o e q (fun z => nomatch (show b ∈ ([] : List Addr) from z)) (by simp)
      | some u =>
        obtain ⟨ob, u', rfl⟩ := hO b u q
        have e1 := (hok b _ q).1
        have e2 := (hok' b _ (un.frzs b ob _ q)).1
        rw [e] at e1; cases e1
        exact e2
    | next => exact False.elim h
    | brk => exact False.elim h
    | cont => exact False.elim h

theorem lawG_call (KX : K.In s₁.heap) (hns : s₁.heap.Ns mainGlobals mg) (hb : s₁.heap.Ns builtinsNs mb)
    (hbb : ∀ x : Str, x ≠ "__name__" → mb x = bootBuiltins x) (hlim : s₁.heap.NoLimit) (hg : s₁.gens = #[]) (hmods : ∃ mm, s₁.heap.Ns sysModules mm) (off : OffK K)
    (ha : s₁.heap.get? a = some { cls := .type "list", data := .seq vs.toArray }) (hi : IntsAre vs ns) (hl : ns.length ≤ sizeLine) (hr : Room k callerA)
    (F : ∀ base : Heap, K.In base → base.Ns mainGlobals mg → FnG P w K mg base CX0 k fa fd [x] sp)
    (hbind : ∀ (s : Shared) (u : Value), BindsTo s fd ⟨[u], []⟩ [(x, u)]) (hlow : a ≠ sysModules)
    (hsp : ∀ H : Hp, Entry K H a ns → sp [.ref a] H (fun v _ => v = .bl true) fun _ _ _ => False) :
    codeAny (model P w) callerA (.call (.ref fa) ⟨[.ref a], []⟩)
      (fun r s' => r = .ok (.ret (.bool true)) ∧ OldK s₁.heap s'.heap ∧ s'.os = s₁.os ∧ AllBare s'.gens) s₁ := by
  have rv := vals_ints hi
  have lenV := hi.length
  obtain ⟨mm, om, _, _, hm, _⟩ := hmods
  have isNs : ∀ {b : Addr} {m : Str → Option Value}, s₁.heap.Ns b m → b ≠ a := by
    rintro b m ⟨o, es, ep, e, d, r⟩ rfl
    rw [ha] at e; cases e
    cases (show Data.seq vs.toArray _ = Data.dict es ep from d)
  have n1 : mainGlobals ≠ a := isNs hns
  have n2 : builtinsNs ≠ a := isNs hb
  have n3 : cStatics ≠ a := hlim.elim fun mc z => isNs z.1
  cases hk : K.lookup a with
  | some o =>
    have e := KX a o hk
    rw [ha] at e; cases e
    let H : Hp := fun b => if b = sysModules then some (.frz om (.ext fun _ => True)) else none
    have hH : H sysModules = some (.frz om (.ext fun _ => True)) := if_pos rfl
    have hN : ∀ b, b ≠ sysModules → H b = none := fun b h => if_neg h
    have hU : ∀ b u, H b = some u → b = sysModules ∧ u = .frz om (.ext fun _ => True) := by
      intro b u z
      by_cases h : b = sysModules
      · subst h; rw [hH] at z; cases z; exact ⟨rfl, rfl⟩
      · rw [hN b h] at z; cases z
    refine call_from KX hns hb hbb hlim hg hr F hbind H ?_ ?_ ?_ ⟨hN _ (by decide), hN _ (by decide), hN _ (by decide)⟩ (hsp H ⟨?_, ⟨om, _, hH⟩, ?_, hlow⟩)
    · intro b u z; exact ⟨_, _, (hU b u z).2⟩
    · intro b u z
      obtain ⟨rfl, rfl⟩ := hU b u z
      exact ⟨hm, trivial, ⟨om, hm⟩, fun _ _ _ _ => trivial⟩
    · intro b z
      cases q : H b with
      | none => exact absurd q z
      | some u => rw [(hU b u q).1]; exact off
    · intro b u z; exact ⟨_, _, (hU b u z).2⟩
    · exact .inr ⟨_, vs.toArray, _, hk, rfl, rfl, rfl, by rw [List.size_toArray, lenV]; exact hl, by simpa using rv⟩
  | none =>
    let H : Hp := fun b => if b = sysModules then some (.frz om (.ext fun _ => True)) else if b = a then some (.frz { cls := .type "list", data := .seq vs.toArray } (.lst (ns.map V.int))) else none
    have hH : H sysModules = some (.frz om (.ext fun _ => True)) := if_pos rfl
    have hA : H a = some (.frz { cls := .type "list", data := .seq vs.toArray } (.lst (ns.map V.int))) := (if_neg hlow).trans (if_pos rfl)
    have hN : ∀ b, b ≠ sysModules → b ≠ a → H b = none := fun b h g => (if_neg h).trans (if_neg g)
    have hU : ∀ b u, H b = some u → (b = sysModules ∧ u = .frz om (.ext fun _ => True)) ∨ (b = a ∧ u = .frz { cls := .type "list", data := .seq vs.toArray } (.lst (ns.map V.int))) := by
      intro b u z
      by_cases h : b = sysModules
      · subst h; rw [hH] at z; cases z; exact .inl ⟨rfl, rfl⟩
      · by_cases g : b = a
        · subst g; rw [hA] at z; cases z; exact .inr ⟨rfl, rfl⟩
        · rw [hN b h g] at z; cases z
    have hF : Only2 H := by
      intro b u z
      rcases hU b u z with ⟨_, e⟩ | ⟨_, e⟩ <;> exact ⟨_, _, e⟩
    refine call_from KX hns hb hbb hlim hg hr F hbind H hF ?_ ?_ ⟨hN _ (by decide) n1, hN _ (by decide) n2, hN _ (by decide) n3⟩ (hsp H ⟨hF, ⟨om, _, hH⟩, ?_, hlow⟩)
    · intro b u z
      rcases hU b u z with ⟨rfl, rfl⟩ | ⟨rfl, rfl⟩
      · exact ⟨hm, trivial, ⟨om, hm⟩, fun _ _ _ _ => trivial⟩
      · exact ⟨ha, by rw [List.length_map]; exact hl, vs, _, rv, ha⟩
    · intro b z
      cases q : H b with
      | none => exact absurd q z
      | some u =>
        rcases hU b u q with ⟨e, _⟩ | ⟨e, _⟩
        · rw [e]; exact off
        · rw [e]; exact hk
    · exact .inl (.inr ⟨_, hA⟩)
end

section
open PySem.W PySem.Calls
theorem walkG {l : OpenLaw} {n k : Nat} {q : Program} {loose : List Str} {XP : (Str → Option Value) → Heap → Prop} {YP : World → Heap → Prop}
    {d : DefRec} {K : Params → Frag} {sp : Frag → Sp} {x : Str} (himp : importsNone q = true) (hn : l.most = some n) (hn2 : n ≤ sizeLine) (hdf : d.params.defaults = []) (hr : Room k callerA)
    (hY : ∀ (w : World) (h : Heap), YP w h → (K w.params).In h)
    (F : ∀ (w : World) (mg : Str → Option Value) (fa : Addr) (h : Heap), (K w.params).In h → h.Ns mainGlobals mg → mg d.name = some (.ref fa) →
      OffK (K w.params) ∧ ∃ fd : FuncData, (∀ (s : Shared) (u : Value), BindsTo s fd ⟨[u], []⟩ [(x, u)]) ∧
        ∀ base : Heap, (K w.params).In base → base.Ns mainGlobals mg → FnG l.prog w (K w.params) mg base CX0 k fa fd [x] (sp (K w.params)))
    (hsp : ∀ (K : Frag) (H : Hp) (a : Addr) (ns : List Int), ns.length ≤ n → OffK K → Entry K H a ns → sp K [.ref a] H (fun v _ => v = .bl true) fun _ _ _ => False) :
    WalkO q loose XP YP l.row.toRowW d [] (fun f vs => PySem.call f vs) := by
  intro w s₀ s₁ mg mb G Y fa o pm cd doc dV kV ho hd hcd hD hmg hg args vals as hpre hlay hrd hwl hlo
  cases Dflts.none hD hdf
  cases Dflts.noKw hD
  obtain ⟨a, vs, ns, e1, e2, hobj, hints, hlen⟩ := Att.script_of hn hpre hwl
  subst e1
  subst e2
  have low : a ≠ sysModules := by
    cases hrd with
    | cons r _ =>
      cases r with
      | list h1 h2 h3 h4 => exact beq_eq_false_iff_ne.mp (hlo a (by simp))
  have KX := hY w _ Y
  obtain ⟨off, fd, hb, hF⟩ := F w mg fa _ KX G.T.g hmg
  have it := lawG_call (P := l.prog) KX G.T.g G.T.b G.T.builtins G.T.nolimit hg ((G.T.seer himp).mods.elim fun mm z => ⟨mm, z.1⟩) off hobj hints (Nat.le_trans hlen hn2) hr hF hb low
    fun H e => hsp (K w.params) H a ns hlen off e
  refine enter_call (codeAny_mono it ?_)
  rintro r s' ⟨rfl, h2, h3, h4⟩
  refine ⟨.inl ⟨.bool true, .bool true, [], rfl, fun _ => rfl, .bool true, Att.post_true l _, ?_⟩, h2, h3, h4⟩
  exact fun _ => ⟨List.Pairwise.nil, fun _ hm => nomatch hm⟩
end
end Kg
/-! Kg11: the end of a law's row, some of whose defs hold lambdas: cs, their code objects and these one's tables. -/
namespace Kg
open PySem PySem.Spec PyProof.Rows L2
open PySem.W (tabObj CodeHd)

/-- what the top's callers know of their place -/
structure EntryT (K : PySem.W.Frag) (cs : List (Addr × Addr)) (H : Hp) (a : Addr) (ns : List Int) : Prop where
  sys : Sys H
  script : SqL K H a (ns.map V.int)
  ne : a ≠ sysModules
  tabs : ∀ p ∈ cs, H p.2 = some (.tbl #[])
/-- what a heap must show of the defs with lambdas -/
structure TabsIn (h : Heap) (cs : List (Addr × Addr)) : Prop where
  empty : ∀ p ∈ cs, h.get? p.2 = some (tabObj #[])
  head : ∀ p ∈ cs, CodeHd h p.1 p.2
def Mains (mg : Str → Option Value) (h : Heap) : Prop :=
  ∃ (bm : Addr) (ob : Obj), mg "__builtins__" = some (.ref bm) ∧ bm ≠ builtinsNs ∧ h.get? bm = some ob ∧ ob.cls = .type "module" ∧ ob.dict = some builtinsNs ∧ ob.data = .plain

section
variable {P : Program} {w : World} {K : PySem.W.Frag} {mg mb : Str → Option Value} {k : Nat} {fa a : Addr} {fd : FuncData} {x : Str} {sp : Sp} {s₁ : Shared} {vs : List Value} {ns : List Int} {cs : List (Addr × Addr)}
theorem callT_from (KX : K.In s₁.heap) (hns : s₁.heap.Ns mainGlobals mg) (hb : s₁.heap.Ns builtinsNs mb)
    (hbb : ∀ x : Str, x ≠ "__name__" → mb x = bootBuiltins x) (hlim : s₁.heap.NoLimit) (hg : s₁.gens = #[]) (hr : Room k callerA)
    (T : TabsIn s₁.heap cs) (hbm : Mains mg s₁.heap)
    (F : ∀ base : Heap, K.In base → base.Ns mainGlobals mg → (∀ p ∈ cs, LamX.TabB base mg p.1 p.2) → FnG P w K mg base CX0 k fa fd [x] sp)
    (hbind : ∀ (s : Shared) (u : Value), BindsTo s fd ⟨[u], []⟩ [(x, u)])
    (H : Hp) (kinds : ∀ b u, H b = some u → (∃ o u', u = .frz o u' ∧ ((∃ vs n, o.data = .seq vs n) ∨ ∃ es ep, o.data = .dict es ep) ∧ b ≠ mainGlobals ∧ b ≠ builtinsNs ∧ b ≠ cStatics) ∨ (b ∈ cs.map (·.2) ∧ u = .tbl #[]))
    (htab : ∀ p ∈ cs, H p.2 = some (.tbl #[])) (hok : HOk P w H s₁.heap) (offK : ∀ b, H b ≠ none → K.lookup b = none)
    (hsp : sp [.ref a] H (fun v _ => v = .bl true) fun _ _ _ => False) :
    codeAny (model P w) callerA (.call (.ref fa) ⟨[.ref a], []⟩)
      (fun r s' => r = .ok (.ret (.bool true)) ∧ OldK s₁.heap s'.heap ∧ s'.os = s₁.os ∧ AllBare s'.gens) s₁ := by
  have isTab : ∀ {b : Addr}, b ∈ cs.map (·.2) → ∃ p ∈ cs, p.2 = b ∧ s₁.heap.get? b = some (tabObj #[]) := by
    intro b hb
    obtain ⟨p, hp, e⟩ := List.mem_map.mp hb
    exact ⟨p, hp, e, e ▸ T.empty p hp⟩
  have frzAt : ∀ {b : Addr} {o : Obj} {u : HO}, H b = some (.frz o u) → s₁.heap.get? b = some o := fun e => (hok _ _ e).1
  -- a thing of another kind is not tracked
  have plain : ∀ {b : Addr} {o : Obj}, s₁.heap.get? b = some o → (∀ vs n, o.data ≠ .seq vs n) → (∀ es ep, o.data ≠ .dict es ep) → o.data ≠ .fields #[] → H b = none := by
    intro b o e h1 h2 h3
    cases q : H b with
    | none => rfl
    | some u =>
      rcases kinds b u q with ⟨o', u', rfl, kd, _⟩ | ⟨hb, _⟩
      · have z := frzAt q
        rw [e] at z; cases z
        rcases kd with ⟨v, n, z⟩ | ⟨es, ep, z⟩
        · exact absurd z (h1 _ _)
        · exact absurd z (h2 _ _)
      · obtain ⟨_, _, _, z⟩ := isTab hb
        rw [e] at z; cases z
        exact absurd rfl h3
  have inK : K.In (hidT s₁.heap H) := by
    intro b o e
    refine hidT_get (KX b o e) ?_
    cases q : H b with
    | none => rfl
    | some u => rw [offK b (by rw [q]; simp)] at e; cases e
  have isNs : ∀ {b : Addr} {m : Str → Option Value}, s₁.heap.Ns b m → (b = mainGlobals ∨ b = builtinsNs ∨ b = cStatics) → H b = none := by
    rintro b m ⟨o, es, ep, e, d, _⟩ which
    cases q : H b with
    | none => rfl
    | some u =>
      rcases kinds b u q with ⟨o', u', rfl, _, n1, n2, n3⟩ | ⟨hb, _⟩
      · rcases which with z | z | z
        · exact absurd z n1
        · exact absurd z n2
        · exact absurd z n3
      · obtain ⟨_, _, _, z⟩ := isTab hb
        rw [e] at z; cases z
        cases d
  have ns_in : ∀ {b : Addr} {m : Str → Option Value}, (b = mainGlobals ∨ b = builtinsNs ∨ b = cStatics) → s₁.heap.Ns b m → (hidT s₁.heap H).Ns b m := by
    intro b m wh q
    have n := isNs q wh
    obtain ⟨o, es, ep, e, d, r⟩ := q
    exact ⟨o, es, ep, hidT_get e n, d, r⟩
  have hM : Mod K mg (hidT s₁.heap H) :=
    ⟨inK, ns_in (.inl rfl) hns, ⟨mb, ns_in (.inr (.inl rfl)) hb, hbb⟩, hlim.elim fun mc z => ⟨mc, ns_in (.inr (.inr rfl)) z.1, z.2⟩⟩
  have e0 : Env0 P w K mg (hidT s₁.heap H) callerA [] s₁ H :=
    ⟨rfl, hM, fun b o e => of_hidT e, Nat.le_of_eq (hidT_size _ _), trivial, fun b hb => absurd (show b ∈ ([] : List Addr) from hb) (by simp), hok, .of_eq hg⟩
  have TB : ∀ p ∈ cs, LamX.TabB (hidT s₁.heap H) mg p.1 p.2 := by
    intro p hp
    have tp := T.empty p hp
    constructor
    · obtain ⟨o, us, file, tf, flags, tg, inF, text, tt, e1, r1, r2, r3, more⟩ := T.head p hp
      refine ⟨o, us, file, tf, flags, tg, inF, text, tt, hidT_get e1 (plain e1 ?_ ?_ ?_), r1, r2, r3, more⟩
      · intro v n z; rw [r2] at z; cases z
      · intro v n z; rw [r2] at z; cases z
      · intro z; rw [r2] at z; cases z; simp at r3
    · obtain ⟨bm, ob, b1, b2, b3, b4, b5, b6⟩ := hbm
      refine ⟨bm, ob, b1, b2, ?_, ?_, hidT_get b3 (plain b3 ?_ ?_ ?_), b4, b5, b6⟩
      · rintro rfl
        obtain ⟨o, es, ep, e, d, _⟩ := hns
        rw [e] at b3; cases b3
        rw [d] at b6; cases b6
      · rintro rfl
        rw [tp] at b3; cases b3
        cases b6
      · intro v n z; rw [b6] at z; cases z
      · intro v n z; rw [b6] at z; cases z
      · intro z; rw [b6] at z; cases z
    · intro z
      obtain ⟨o, es, ep, e, d, _⟩ := hns
      rw [z, tp] at e; cases e
      cases d
  have it := (F _ inK (ns_in (.inl rfl) hns) TB).goes callerA [] s₁ H ⟨[.ref a], []⟩ [.ref a] [.ref a] _ _ hr rfl e0 (hbind s₁ (.ref a)) (.cons rfl .nil) hsp
  refine codeAny_mono it ?_
  rintro (e | fl) s' h
  · exact False.elim h
  · cases fl with
    | ret u =>
      obtain ⟨v, H', os, bare, un, hok', r', q⟩ := h
      obtain rfl : v = .bl true := q
      obtain rfl : u = Value.bool true := r'
      have stays : ∀ b o, b ∉ cs.map (·.2) → s₁.heap.get? b = some o → s'.heap.get? b = some o := by
        intro b o nb e
        cases q : H b with
        | none => exact un.keep b o e q (fun z => nomatch (show b ∈ ([] : List Addr) from z)) (by simp)
        | some u =>
          rcases kinds b u q with ⟨ob, u', rfl, _⟩ | ⟨hb, _⟩
          · have e1 := frzAt q
            have e2 := (hok' b _ (un.frzs b ob _ q)).1
            rw [e] at e1; cases e1
            exact e2
          · exact absurd hb nb
      have grew : ∀ p ∈ cs, ∃ more : Array Value, s'.heap.get? p.2 = some (tabObj more) := by
        intro p hp
        obtain ⟨more, z⟩ := un.tbls p.2 #[] (htab p hp)
        exact ⟨_, hok' p.2 _ z⟩
      refine ⟨rfl, ⟨fun b o e => ?_, fun b o e => ?_⟩, os, bare⟩
      · by_cases hb : b ∈ cs.map (·.2)
        · obtain ⟨p, hp, rfl, e'⟩ := isTab hb
          obtain ⟨more, hm⟩ := grew p hp
          rw [e'] at e; cases e
          exact .inr (.inl ⟨((T.head p hp).tab e').isCodeTable, rfl, #[], more, rfl, by rw [Array.empty_append]; exact hm⟩)
        · exact .inl (stays b o hb e)
      · by_cases hb : b ∈ cs.map (·.2)
        · obtain ⟨p, hp, rfl, _⟩ := isTab hb
          obtain ⟨more, hm⟩ := grew p hp
          exact ⟨_, hm⟩
        · exact ⟨o, stays b o hb e⟩
    | next => exact False.elim h
    | brk => exact False.elim h
    | cont => exact False.elim h

theorem lawT_call (KX : K.In s₁.heap) (hns : s₁.heap.Ns mainGlobals mg) (hb : s₁.heap.Ns builtinsNs mb)
    (hbb : ∀ x : Str, x ≠ "__name__" → mb x = bootBuiltins x) (hlim : s₁.heap.NoLimit) (hg : s₁.gens = #[]) (hmods : ∃ mm, s₁.heap.Ns sysModules mm) (off : OffK K)
    (T : TabsIn s₁.heap cs) (hbm : Mains mg s₁.heap) (offT : ∀ p ∈ cs, K.lookup p.2 = none)
    (ha : s₁.heap.get? a = some { cls := .type "list", data := .seq vs.toArray }) (hi : IntsAre vs ns) (hl : ns.length ≤ sizeLine) (hr : Room k callerA)
    (F : ∀ base : Heap, K.In base → base.Ns mainGlobals mg → (∀ p ∈ cs, LamX.TabB base mg p.1 p.2) → FnG P w K mg base CX0 k fa fd [x] sp)
    (hbind : ∀ (s : Shared) (u : Value), BindsTo s fd ⟨[u], []⟩ [(x, u)]) (hlow : a ≠ sysModules)
    (hsp : ∀ H : Hp, EntryT K cs H a ns → sp [.ref a] H (fun v _ => v = .bl true) fun _ _ _ => False) :
    codeAny (model P w) callerA (.call (.ref fa) ⟨[.ref a], []⟩)
      (fun r s' => r = .ok (.ret (.bool true)) ∧ OldK s₁.heap s'.heap ∧ s'.os = s₁.os ∧ AllBare s'.gens) s₁ := by
  have rv := vals_ints hi
  have lenV := hi.length
  obtain ⟨mm, om, ees, eep, hm, hmd, _⟩ := hmods
  let lo : Obj := { cls := .type "list", data := .seq vs.toArray }
  let tr : Bool := (K.lookup a).isNone
  let H : Hp := fun b => if b = sysModules then some (.frz om (.ext fun _ => True)) else if b ∈ cs.map (·.2) then some (.tbl #[]) else if b = a ∧ tr = true then some (.frz lo (.lst (ns.map V.int))) else none
  have isTab : ∀ {b : Addr}, b ∈ cs.map (·.2) → s₁.heap.get? b = some (tabObj #[]) := by
    intro b hb
    obtain ⟨p, hp, e⟩ := List.mem_map.mp hb
    exact e ▸ T.empty p hp
  have sysNot : sysModules ∉ cs.map (·.2) := by
    intro z
    have e := isTab z
    rw [hm] at e; cases e
    cases hmd
  have aNot : a ∉ cs.map (·.2) := by
    intro z
    have e := isTab z
    rw [ha] at e
    have z' : Data.seq vs.toArray _ = Data.fields #[] := congrArg Obj.data (Option.some.inj e)
    cases z'
  have hS : H sysModules = some (.frz om (.ext fun _ => True)) := if_pos rfl
  have hTb : ∀ {b : Addr}, b ∈ cs.map (·.2) → H b = some (.tbl #[]) := by
    intro b hb
    have n : ¬ b = sysModules := fun e => sysNot (e ▸ hb)
    exact (if_neg n).trans (if_pos hb)
  have hA : K.lookup a = none → H a = some (.frz lo (.lst (ns.map V.int))) := by
    intro e
    have t : tr = true := by show (K.lookup a).isNone = true; rw [e]; rfl
    exact (if_neg hlow).trans ((if_neg aNot).trans (if_pos ⟨rfl, t⟩))
  have hU : ∀ b u, H b = some u → (b = sysModules ∧ u = .frz om (.ext fun _ => True)) ∨ (b ∈ cs.map (·.2) ∧ u = .tbl #[]) ∨ (b = a ∧ K.lookup a = none ∧ u = .frz lo (.lst (ns.map V.int))) := by
    intro b u z
    by_cases h1 : b = sysModules
    · subst h1; rw [hS] at z; cases z; exact .inl ⟨rfl, rfl⟩
    · by_cases h2 : b ∈ cs.map (·.2)
      · rw [hTb h2] at z; cases z; exact .inr (.inl ⟨h2, rfl⟩)
      · have z' := (if_neg h1).symm.trans z
        have z'' := (if_neg h2).symm.trans z'
        by_cases h3 : b = a ∧ tr = true
        · have z3 := (if_pos h3).symm.trans z''
          cases z3
          exact .inr (.inr ⟨h3.1, Option.isNone_iff_eq_none.mp h3.2, rfl⟩)
        · have z3 := (if_neg h3).symm.trans z''
          cases z3
  have isNs : ∀ {b : Addr} {m : Str → Option Value}, s₁.heap.Ns b m → b ≠ a := by
    rintro b m ⟨o, es, ep, e, d, r⟩ rfl
    rw [ha] at e; cases e
    cases (show Data.seq vs.toArray _ = Data.dict es ep from d)
  have n1 : a ≠ mainGlobals := (isNs hns).symm
  have n2 : a ≠ builtinsNs := (isNs hb).symm
  have n3 : a ≠ cStatics := hlim.elim fun mc z => (isNs z.1).symm
  refine callT_from KX hns hb hbb hlim hg hr T hbm F hbind H ?_ (fun p hp => hTb (List.mem_map.mpr ⟨p, hp, rfl⟩)) ?_ ?_ (hsp H ⟨⟨om, _, hS⟩, ?_, hlow, fun p hp => hTb (List.mem_map.mpr ⟨p, hp, rfl⟩)⟩)
  · intro b u z
    rcases hU b u z with ⟨rfl, rfl⟩ | h | ⟨rfl, _, rfl⟩
    · exact .inl ⟨_, _, rfl, .inr ⟨ees, eep, hmd⟩, by decide, by decide, by decide⟩
    · exact .inr h
    · exact .inl ⟨_, _, rfl, .inl ⟨_, _, rfl⟩, n1, n2, n3⟩
  · intro b u z
    rcases hU b u z with ⟨rfl, rfl⟩ | ⟨hb, rfl⟩ | ⟨rfl, _, rfl⟩
    · exact ⟨hm, trivial, ⟨om, hm⟩, fun _ _ _ _ => trivial⟩
    · exact isTab hb
    · exact ⟨ha, by rw [List.length_map]; exact hl, vs, _, rv, ha⟩
  · intro b z
    cases q : H b with
    | none => exact absurd q z
    | some u =>
      rcases hU b u q with ⟨e, _⟩ | ⟨hb, _⟩ | ⟨e, hk, _⟩
      · rw [e]; exact off
      · obtain ⟨p, hp, e⟩ := List.mem_map.mp hb
        exact e ▸ offT p hp
      · rw [e]; exact hk
  · cases hk : K.lookup a with
    | none => exact .inl (.inr ⟨_, hA hk⟩)
    | some o =>
      have e := KX a o hk
      rw [ha] at e; cases e
      exact .inr ⟨_, vs.toArray, _, hk, rfl, rfl, rfl, by rw [List.size_toArray, lenV]; exact hl, by simpa using rv⟩
end

section
open PySem.W PySem.Calls
/-- what the text says of the defs with lambdas: their names -/
def NamesTab (q : Program) (K : Frag) (cs : List (Addr × Addr)) : Prop := ∀ p ∈ cs, K.lookup p.2 = none ∧ ∃ (x : Str) (d : DefRec), (recsOf q).find? (fun e => e.name == x) = some d ∧ tabIn K x = some (p.1, p.2)
theorem walkT {l : OpenLaw} {n k : Nat} {q : Program} {loose : List Str} {XP : (Str → Option Value) → Heap → Prop} {YP : World → Heap → Prop}
    {d : DefRec} {K : Params → Frag} {sp : Frag → List (Addr × Addr) → Sp} {x : Str} (himp : importsNone q = true) (hn : l.most = some n) (hn2 : n ≤ sizeLine) (hdf : d.params.defaults = []) (hr : Room k callerA)
    (hY : ∀ (w : World) (h : Heap), YP w h → (K w.params).In h)
    (F : ∀ (w : World) (mg : Str → Option Value) (fa : Addr) (h : Heap), (K w.params).In h → h.Ns mainGlobals mg → mg d.name = some (.ref fa) →
      OffK (K w.params) ∧ ∃ (fd : FuncData) (cs : List (Addr × Addr)), NamesTab q (K w.params) cs ∧ (∀ (s : Shared) (u : Value), BindsTo s fd ⟨[u], []⟩ [(x, u)]) ∧
        ∀ base : Heap, (K w.params).In base → base.Ns mainGlobals mg → (∀ p ∈ cs, LamX.TabB base mg p.1 p.2) → FnG l.prog w (K w.params) mg base CX0 k fa fd [x] (sp (K w.params) cs))
    (hsp : ∀ (K : Frag) (cs : List (Addr × Addr)) (H : Hp) (a : Addr) (ns : List Int), ns.length ≤ n → OffK K → EntryT K cs H a ns → sp K cs [.ref a] H (fun v _ => v = .bl true) fun _ _ _ => False) :
    WalkO q loose XP YP l.row.toRowW d [] (fun f vs => PySem.call f vs) := by
  intro w s₀ s₁ mg mb G Y fa o pm cd doc dV kV ho hd hcd hD hmg hg args vals as hpre hlay hrd hwl hlo
  cases Dflts.none hD hdf
  cases Dflts.noKw hD
  obtain ⟨a, vs, ns, e1, e2, hobj, hints, hlen⟩ := Att.script_of hn hpre hwl
  subst e1
  subst e2
  have low : a ≠ sysModules := by
    cases hrd with
    | cons r _ =>
      cases r with
      | list h1 h2 h3 h4 => exact beq_eq_false_iff_ne.mp (hlo a (by simp))
  have KX := hY w _ Y
  obtain ⟨off, fd, cs, nt, hb, hF⟩ := F w mg fa _ KX G.T.g hmg
  have T : TabsIn s₁.heap cs := ⟨fun p hp => (nt p hp).2.elim fun x z => z.elim fun d z => (tab_of G.T KX z.1 z.2).2, fun p hp => (nt p hp).2.elim fun x z => z.elim fun d z => (tab_of G.T KX z.1 z.2).1⟩
  have it := lawT_call (P := l.prog) KX G.T.g G.T.b G.T.builtins G.T.nolimit hg ((G.T.seer himp).mods.elim fun mm z => ⟨mm, z.1⟩) off T G.T.bmain (fun p hp => (nt p hp).1) hobj hints (Nat.le_trans hlen hn2) hr hF hb low
    fun H e => hsp (K w.params) cs H a ns hlen off e
  refine enter_call (codeAny_mono it ?_)
  rintro r s' ⟨rfl, h2, h3, h4⟩
  refine ⟨.inl ⟨.bool true, .bool true, [], rfl, fun _ => rfl, .bool true, Att.post_true l _, ?_⟩, h2, h3, h4⟩
  exact fun _ => ⟨List.Pairwise.nil, fun _ hm => nomatch hm⟩
end
theorem tab_mk {K : PySem.W.Frag} {x : Str} {f c P : Addr} {oc ot : Value} {od ot' : Option Addr} {fd : FuncData} {sl sl' : Array (Option Value)} {vs : Array Value} (a : PySem.W.nsIn K mainGlobals x = some (some (.ref f)))
    (l : K.lookup f = some ⟨oc, od, .func fd, sl⟩) (hc : fd.code = .ref c) (lc : K.lookup c = some ⟨ot, ot', .fields vs, sl'⟩) (hv : vs[11]? = some (.ref P)) : PySem.W.tabIn K x = some (c, P) := by
  unfold PySem.W.tabIn
  simp only [a, l, hc, lc, hv]
section
variable {P : Program} {w : World} {K : PySem.W.Frag} {mg : Str → Option Value} {base : Heap}
/-- a def by its body, its code object told -/
theorem okGc {x qual : Str} {st : Stmt} {f : Addr} {fd : FuncData} {N ps : List Str} {k : Nat} {sp : Sp} (F : Fun K x qual st f fd)
    (S : FnScope N ps (defScope st)) (many : ∀ vs H Q E, sp vs H Q E → vs.length = ps.length)
    (its_body : ∀ (cdv : Value) (A : Around) (outer : List Env) (s : Shared) (H : Hp) (vs : List V) (Q : VK) (E : XK), fd.code = cdv →
      Room k (A.deeper (envOfC qual (defScope st) s.heap.objs.size f cdv)) → A.guards = some [] → sp vs H Q E →
      ∃ t, PSs (cxOf CX0 P w K mg base N qual (defScope st) f cdv A outer s H E).nox (defBody st) t ∧
        t { nx := fun _ H' => Q .non H', rt := Q } (start N vs) H) : FnG P w K mg base CX0 (k + 1) f fd ps sp := by
  obtain ⟨oc, od, kV, doc, pm, an, cdv, ct, osl, e, lk, hcd⟩ := F.ex
  subst e
  refine fnG_of lk hcd S many ?_
  intro A outer s H vs Q E hr hg hs
  obtain ⟨t, h, q⟩ := its_body cdv A outer s H vs Q E rfl hr hg hs
  exact ⟨t, h.nox, q⟩
end
end Kg
/-! Kg9: an own error that is caught and kept: try: .. except C as n: kept = n; later isinstance(kept, D) and kept.f. -/
namespace Kg
open PySem PySem.Spec PyProof.Rows L2

/-- the object at a is an error of the class at C, with its dict at d -/
def Kept (a C d : Addr) : Heap → Prop := fun h => ∃ (o : Obj) (vs : Array Value), h.get? a = some o ∧ Zc (.ref C) (some d) o ∧ o.data = .fields vs
def kept (a C d : Addr) : HO := .ext (Kept a C d)
theorem kept_ok {P : Program} {w : World} {H : Hp} {h : Heap} {a C d : Addr} (z : Kept a C d h) : ObjOk P w H h a (kept a C d) := by
  refine ⟨z, ?_, ?_⟩
  · obtain ⟨o, _, e, _⟩ := z; exact ⟨o, e⟩
  · rintro h1 h2 ⟨o, vs, e, q, r⟩ k
    exact ⟨o, vs, k o e, q, r⟩
theorem kept_at {P : Program} {w : World} {H : Hp} {h : Heap} {a C d : Addr} (ok : HOk P w H h) (e : H a = some (kept a C d)) : Kept a C d h := by
  have z : ObjOk P w H h a (.ext (Kept a C d)) := ok a _ e
  exact z.1

section
variable {X : Cx} {pins : List (Addr × Obj)} {σ : L2.St} {H : Hp} {s : Shared}
/-- what was not there at the entry may be told of from now on -/
theorem Inv.tell {a : Addr} {o : Obj} {vs : Array Value} {u : HO} (I : Inv X pins σ H s) (at_a : s.heap.get? a = some o) (da : o.data = .fields vs) (na : H a = none)
    (young : X.s_0.heap.get? a = none) (off : a ≠ X.env.locals) (noPin : ∀ p ∈ X.pn ++ pins, p.1 ≠ a) (ok : ∀ H', ObjOk X.prog X.w H' s.heap a u) : Inv X pins σ (upd H a u) s := by
  have was : ∀ {b : Addr} {t : HO}, H b = some t → upd H a u b = some t := by
    intro b t e
    rw [upd_ne (fun z => by rw [z, na] at e; cases e)]
    exact e
  have U := I.base
  have notCell : ∀ x c, X.env.cells.lookup x = some c → c ≠ a := by
    rintro x c e rfl
    obtain ⟨v, o', e1, e2⟩ := I.cell x c e
    rw [at_a] at e1; cases e1
    rw [da] at e2; cases e2
  constructor
  · exact I.ok
  · exact I.os
  · exact I.bare
  · constructor
    · exact U.keep
    · exact U.slot
    · intro b t e n x
      rw [upd_ne (fun z => by rw [z, young] at e; cases e)]
      exact U.free b t e n x
    · exact U.there
    · exact fun b xs e => was (U.tups b xs e)
    · exact fun b t v e => was (U.frzs b t v e)
    · intro b ps e
      obtain ⟨more, q⟩ := U.tbls b ps e
      exact ⟨more, was q⟩
  · exact I.loc
  · exact I.cell
  · rw [upd_ne (Ne.symm off)]; exact I.free
  · intro x c e
    rw [upd_ne (notCell x c e)]
    exact I.freeC x c e
  · intro p hp
    obtain ⟨z1, z2, z3⟩ := I.pin p hp
    exact ⟨z1, (upd_ne (noPin p hp)).trans z2, z3⟩
  · intro b t e
    by_cases hb : b = a
    · subst hb
      rw [upd_same] at e; cases e
      exact ok _
    · rw [upd_ne hb] at e
      exact (I.hok b t e).stay (fun _ _ _ q => q) (fun c q => was q) fun c xs q => was q
  · exact I.len
end

/-- the clause 'except c as n' (n in slot i), whose suite goes on behind the try; every error of the body is of c -/
def wKeep (K : PySem.W.Frag) (c : Value) (i n : Nat) (ts : Addr → Value → Option Addr → TS) (D : Ends) : WX := fun cls d σ H =>
  ∃ C e : Addr, cls = .ref C ∧ d = some e ∧ PySem.W.exmOne K (.ref C) c = some true ∧ (σ.length = n → ∀ a, H a = none →
    ts a (.ref C) (some e) { nx := fun σ' H' => H' a = none ∧ D.nx (σ'.set i none) (upd H' a (kept a C e)), rt := fun _ _ => False, bk := fun _ _ => False, ct := fun _ _ => False } (σ.set i (some (.ref a))) H)

section
variable {X : Cx} {x n : Str} {c : Value} {i : Nat} {body more : List Stmt} {first : Stmt} {np pos pos' : Pos} {tb : WX → TS} {ts : Addr → Value → Option Addr → TS}
theorem ps_try_keep (hs : X.stack = X.env :: X.outer) (hf : X.env.frame = some X.env.locals) (hex : X.ex = []) (nd : X.N.Nodup) (hi : X.N[i]? = some n) (hln : X.env.kindOf n = some .local) (hc : Names X x c)
    (hb : ∀ (W : WX) (pn : List (Addr × Obj)) (xe : Value → Shared → Prop), Takes (X.tr pn xe) W → PassesOwn (model X.prog X.w) X.A X.env xe → PSs (X.tr pn xe) body (tb W))
    (hsu : ∀ (a : Addr) (oe : Obj) (cls : Value) (d : Option Addr) (pn : List (Addr × Obj)), Zc cls d oe → (∃ vs, oe.data = .fields vs) → PSs (X.suite a ((a, oe) :: pn)) (first :: more) (ts a cls d)) :
    PS X (.Try body [.ExceptHandler (some (.Name x np)) (some n) (first :: more) pos'] [] [] pos) (fun D σ H => tb (wKeep X.K c i X.N.length ts D) D σ H) := by
  constructor
  intro pins s σ H D I h
  have ok := I.ok
  have frames : X.A.frames = some (X.env :: X.outer) := hs ▸ ok.frames
  apply wpAny_Try_except
  refine wpAny_mono ((hb (wKeep X.K c i X.N.length ts D) (X.pn ++ pins) _ ?tk PassesOwn.looking).run [] s σ H D (I.toTry _) h) ?done (fun _ _ z => z)
  case done =>
    intro f s1 q
    cases f with
    | next =>
      obtain ⟨σ', H', J, q⟩ := q
      exact wpAny_execs_nil ⟨σ', H', J.ofTry ok, q⟩
    | brk => exact q.elim fun σ' z => z.elim fun H' z => ⟨σ', H', z.1.ofTry ok, z.2⟩
    | cont => exact q.elim fun σ' z => z.elim fun H' z => ⟨σ', H', z.1.ofTry ok, z.2⟩
    | ret u => exact q.elim fun v z => z.elim fun σ' z => z.elim fun H' z => ⟨v, σ', H', z.1.ofTry ok, z.2⟩
  case tk =>
    intro u s' thrown
    obtain ⟨a, B, sI, pins', σ', H', cls, d, eu, J', ground, up, sky, na, os, ag, C, e, ec, ed, match_, go⟩ := thrown
    subst eu ec ed
    have J : Inv X pins σ' H' sI := J'.ofTry ok
    have sky2 : Sky B (X.env :: X.outer) a (Zc (.ref C) (some e)) X.env.locals s'.heap := hs ▸ sky
    show wpAny (model X.prog X.w) X.A (noteFrame (.ref a) X.env) _ _ _
    refine Sky.land Zc.steady frames hf sky2 ?_
    intro h1 fly1 up1
    obtain ⟨oe, vs, at1, zc1, data1⟩ := fly1.there
    have noFrame : a ∉ frs (X.env :: X.outer) := by
      intro hm
      obtain ⟨_, o2, e2, q2⟩ := fly1.2.2.1.mem hm
      rw [at1] at e2; cases e2
      exact q2 _ data1
    have n1 : a ≠ X.env.locals := by
      intro z
      refine noFrame (List.mem_filterMap.mpr ⟨X.env, List.mem_cons_self, ?_⟩)
      rw [hf, z]
    have n2 : a ∉ X.fs := by
      intro hm
      obtain ⟨env, he, q⟩ := List.mem_filterMap.mp hm
      exact noFrame (List.mem_filterMap.mpr ⟨env, List.mem_cons_of_mem _ he, q⟩)
    -- nothing of before is the error
    have notOld : ∀ {b : Addr} {o : Obj}, sI.heap.get? b = some o → b ≠ a := by
      rintro b o hb rfl
      have z := ground b o hb (by rw [hs]; exact noFrame)
      rw [fly1.2.1] at z; cases z
    have young : X.s_0.heap.get? a = none := by
      cases q : X.s_0.heap.get? a with
      | none => rfl
      | some o =>
        obtain ⟨o2, q2⟩ := J.base.there a o q (by rw [hex]; simp)
        exact absurd rfl (notOld q2)
    have noPin : ∀ p ∈ X.pn ++ pins, p.1 ≠ a := fun p hp => notOld (J.pin p hp).1
    have J1 : Inv X pins σ' H' { s' with heap := h1 } := J.landed ground fly1.1 (up.trans up1) os ag
    have S1 := J1.suite at1 data1 na n1 n2
    refine wpAny_handleBy_cons (codeAny_handlers_test ?_) (by intro z; cases z)
    have its_type : PySem.W.Looks (model X.prog X.w) h1 (typeOf (.ref a)) (.ref C) := fun A Q E s k q => wpAny_typeOf_ref (k _ _ at1) (by rw [zc1.1]; exact q)
    have matches_ := PySem.W.exm_one (M := model X.prog X.w) J1.kIn its_type match_
    have clause : ∀ {Q : Value → Shared → Prop} {E : Value → Shared → Prop}, Q c { s' with heap := h1 } →
        wpAny (model X.prog X.w) (X.A.mark (some (.ref a))) (eval (.Name x np) X.env) Q E { s' with heap := h1 } := by
      intro Q E q
      obtain ⟨g, dbg, m⟩ := hc
      rcases m with m | ⟨m, v, nn⟩
      · exact ld_glob (X := X.suite a ((a, oe) :: (X.pn ++ pins))) S1 g m q dbg
      · exact ld_blt (X := X.suite a ((a, oe) :: (X.pn ++ pins))) S1 g m v q nn dbg
    refine clause (matches_.here ?_)
    refine codeAny_handlers_suite_as (HandSPX.lands_againZ fly1 ?_)
    intro h2 fly2 up2
    have J2 : Inv X pins σ' H' { s' with heap := h2 } := J.landed ground fly2.1 ((up.trans up1).trans up2) os ag
    obtain ⟨oe2, vs2, at2, zc2, data2⟩ := fly2.there
    have S2 := J2.suite at2 data2 na n1 n2
    refine store_ok (X := X.suite a ((a, oe2) :: (X.pn ++ pins))) (v := .ref a) S2 nd hi (.inl hln) rfl ?_ (.inr hln)
    intro s5 S5
    refine wpAny_mono ((hsu a oe2 (.ref C) (some e) (X.pn ++ pins) zc2 ⟨_, data2⟩).run [] s5 _ H' _ S5 (go J.len a na)) ?_ (fun _ _ z => z.elim)
    intro f s6 q
    cases f with
    | next =>
      obtain ⟨σ6, H6, S6, n6, q6⟩ := q
      have at6 := (S6.pin (a, oe2) (List.mem_append_left _ List.mem_cons_self)).1
      have I6 : Inv X pins σ6 (upd H6 a (kept a C e)) s6 := Inv.tell (S6.unsuite ok) at6 data2 n6 young n1 noPin fun H' => kept_ok ⟨oe2, vs2, at6, zc2, data2⟩
      exact gone_ok I6 nd hi hln fun s7 J7 => ⟨_, _, J7, q6⟩
    | brk => exact q.elim fun _ z => z.elim fun _ z => z.2.elim
    | cont => exact q.elim fun _ z => z.elim fun _ z => z.2.elim
    | ret u => exact q.elim fun _ z => z.elim fun _ z => z.elim fun _ z => z.2.2.elim
end

/-- isinstance(kept error, c) -/
def rIsK (K : PySem.W.Frag) : List V → Hp → VK → Prop := fun xs H Q => ∃ (a C d : Addr) (fs : List (Str × V)) (c : V) (cv : Value) (b : Bool),
  xs = [.ref a, c] ∧ H a = some (kept a C d) ∧ H d = some (.xd fs) ∧ ExcC K C ∧ ClsV c cv ∧ PySem.W.kitOne K (.ref C) cv = some b ∧ Q (.bl b) H
theorem held_inst {X : Cx} {pins : List (Addr × Obj)} {σ : L2.St} {H : Hp} {s : Shared} {a C d : Addr} {fs : List (Str × V)} (I : Inv X pins σ H s) (e : H a = some (kept a C d)) (ed : H d = some (.xd fs)) :
    ∃ (o od : Obj) (mA : Str → Option Value), PySem.W.InstAt s.heap a o C (some od) ∧ s.heap.Ns1 d mA ∧ s.heap.get? d = some od ∧ ∀ f, RelO (fs.lookup f) (mA f) := by
  obtain ⟨o, vs, at_a, zc, data⟩ := kept_at I.hok e
  have x : ObjOk X.prog X.w H s.heap d (.xd fs) := I.hok d _ ed
  obtain ⟨mA, ns, rel⟩ := x
  have ns' := ns
  obtain ⟨od, es, ep, ho, q⟩ := ns
  refine ⟨o, od, mA, ⟨at_a, zc.1, ?_, ?_⟩, ns', ho, rel⟩
  · unfold PySem.W.notCls; rw [data] <;> rfl
  · rw [zc.2]; exact ho
theorem call_isK {X : Cx} : CallR X (.builtin "isinstance") (rIsK X.K) := by
  intro pins s σ H xs us Q I r h
  obtain ⟨a, C, d, fs, c, cv, b, rfl, e, ed, K, cl, k, q⟩ := h
  obtain ⟨u1, u2, rfl, r1, r2⟩ := vals2 r
  obtain rfl := cl.eq r2
  cases (show u1 = Value.ref a from r1)
  obtain ⟨o, od, mA, inst, _⟩ := held_inst I e ed
  obtain ⟨cd, hcd, _⟩ := PySem.W.any_some K.hd
  refine PySem.W.kia_one (PySem.W.kitx_exc (by rw [hcd]; rfl) K.hg K.hk K.hs K.ha K.hn K.ht K.hm) I.kIn inst k (fun z => nomatch z) ?_
  exact fun tk => ⟨.bl b, H, I.tok tk, rfl, q⟩

/-- (kept error).f -/
def tKeptF (K : PySem.W.Frag) (f : Str) (te : TE) : TE := fun σ H Q => te σ H fun x H1 => ∃ (a C d : Addr) (fs : List (Str × V)) (v : V),
  x = .ref a ∧ H1 a = some (kept a C d) ∧ H1 d = some (.xd fs) ∧ ExcC K C ∧ PySem.W.findIn K (.ref C) f = some none ∧ fs.lookup f = some v ∧ Q v H1
theorem pe_keptF {X : Cx} {e : Expr} {f : Str} {te : TE} {pos : Pos} (he : PE X e te) (hb : attributeBase e f X.env (eval e X.env) = eval e X.env := by rfl) :
    PE X (.Attribute e f pos) (tKeptF X.K f te) := by
  constructor
  intro pins s σ H Q I h
  refine attr_of hb (thn (he.run pins s σ H _ I h) ?_)
  rintro u s1 ⟨x, H1, I1, r, a, C, d, fs, v, rfl, e1, e2, K, hno, hl, q⟩
  cases (show u = Value.ref a from r)
  obtain ⟨o, od, mA, inst, ns, ho, rel⟩ := held_inst I1 e1 e2
  obtain ⟨od2, ho2, look⟩ := lookIn_ns ns
  rw [ho] at ho2; cases ho2
  obtain ⟨w, hw, rw_⟩ := RelO.some_of (v := v) (o := mA f) (by rw [← hl]; exact rel f)
  have found : PySem.W.findObj X.K C (some od) f = some (.value w) := PySem.W.findObj_own K.hd hno rfl (by rw [look, hw])
  exact HandSPX.exc_get I1.kIn inst K.hg K.hk K.hs found (handed_of rw_) ⟨v, H1, I1.tok _, rw_, q⟩
end Kg
namespace Kg
open PySem PySem.Spec PyProof.Rows L2
section
variable {K : PySem.W.Frag} {C D : Addr} {b : Bool}
theorem kit_self : PySem.W.kitOne K (.ref C) (.ref C) = some true := if_pos (by simp)
theorem kit_any {c : Value} (is : PySem.W.isClsIn K D = true) (ty : PySem.W.typeIn K (.ref D) = some (.type "type")) (h : PySem.W.subIn K c (.ref D) = some b) (ne : (c == Value.ref D) = false) :
    PySem.W.kitOne K c (.ref D) = some b := by
  have e : ((PySem.W.clsIn K D).isSome && PySem.W.typeIn K (.ref D) == some (.type "type")) = true := by
    have is' : (PySem.W.clsIn K D).isSome = true := is
    rw [is', ty] <;> rfl
  show (if (c == Value.ref D) = true then some true else if ((PySem.W.clsIn K D).isSome && PySem.W.typeIn K (.ref D) == some (.type "type")) = true then PySem.W.subIn K c (.ref D) else none) = some b
  rw [if_neg (by rw [ne]; decide), if_pos e]
  exact h
theorem exm_any (ex : PySem.W.subIn K (.ref D) (.type "BaseException") = some true) (is : PySem.W.isClsIn K D = true) (ty : PySem.W.typeIn K (.ref D) = some (.type "type")) (h : PySem.W.subIn K (.ref C) (.ref D) = some b) :
    PySem.W.exmOne K (.ref C) (.ref D) = some b := by
  have e1 : (PySem.W.subIn K (.ref D) (.type "BaseException") == some true) = true := by rw [ex] <;> rfl
  have e2 : ((PySem.W.clsIn K D).isSome && PySem.W.typeIn K (.ref D) == some (.type "type")) = true := by
    have is' : (PySem.W.clsIn K D).isSome = true := is
    rw [is', ty] <;> rfl
  show (if (PySem.W.subIn K (.ref D) (.type "BaseException") == some true) = true then (if ((PySem.W.clsIn K D).isSome && PySem.W.typeIn K (.ref D) == some (.type "type")) = true then PySem.W.subIn K (.ref C) (.ref D) else none) else none) = some b
  rw [if_pos e1, if_pos e2]
  exact h
end
/-- isinstance of a plain thing, or of a kept error -/
def rIsH (K : PySem.W.Frag) : List V → Hp → VK → Prop := fun xs H Q => rIsi K xs H Q ∨ rIsK K xs H Q
theorem call_isH {X : Cx} : CallR X (.builtin "isinstance") (rIsH X.K) := by
  intro pins s σ H xs us Q I r h
  rcases h with h | h
  · exact call_isi pins s σ H xs us Q I r h
  · exact call_isK pins s σ H xs us Q I r h
end Kg
namespace K05
open PySem PySem.Spec PyProof.Rows L2 Kg
open Evl (Ex)
def topS (i : Nat) : Stmt := PySem.Challenge.pw_nevercaught_k05_better_is_an_order.main.body.getD i (.Pass ⟨0, 0, 0, 0⟩)
section
abbrev s_BadSquares_init : Stmt := inClass (topS 2) 0
theorem sc_BadSquares_init : FnScope ["self", "part"] ["self", "part"] (defScope s_BadSquares_init) := ⟨rfl, rfl, rfl, by decide +kernel, rfl, by decide +kernel, by decide +kernel⟩
abbrev s_Misfit_init : Stmt := inClass (topS 3) 0
theorem sc_Misfit_init : FnScope ["self", "part"] ["self", "part"] (defScope s_Misfit_init) := ⟨rfl, rfl, rfl, by decide +kernel, rfl, by decide +kernel, by decide +kernel⟩
abbrev s_is_integer : Stmt := topS 5
theorem sc_is_integer : FnScope ["value"] ["value"] (defScope s_is_integer) := ⟨rfl, rfl, rfl, by decide +kernel, rfl, by decide +kernel, by decide +kernel⟩
abbrev s_is_square : Stmt := topS 6
theorem sc_is_square : FnScope ["value"] ["value"] (defScope s_is_square) := ⟨rfl, rfl, rfl, by decide +kernel, rfl, by decide +kernel, by decide +kernel⟩
abbrev s_are_squares : Stmt := topS 7
theorem sc_are_squares : FnScope ["value", "item"] ["value"] (defScope s_are_squares) := ⟨rfl, rfl, rfl, by decide +kernel, rfl, by decide +kernel, by decide +kernel⟩
abbrev s_taken_squares : Stmt := topS 8
theorem sc_taken_squares : FnScope ["squares", "part", "square"] ["squares", "part"] (defScope s_taken_squares) := ⟨rfl, rfl, rfl, by decide +kernel, rfl, by decide +kernel, by decide +kernel⟩
abbrev s_check_right : Stmt := topS 9
theorem sc_check_right : FnScope ["squares", "part", "square"] ["squares", "part"] (defScope s_check_right) := ⟨rfl, rfl, rfl, by decide +kernel, rfl, by decide +kernel, by decide +kernel⟩
abbrev s_is_better : Stmt := topS 11
theorem sc_is_better : FnScope ["one", "other", "burnt", "first", "second", "fires"] ["one", "other", "burnt"] (defScope s_is_better) := ⟨rfl, rfl, rfl, by decide +kernel, rfl, by decide +kernel, by decide +kernel⟩
abbrev s_both : Stmt := topS 12
theorem sc_both : FnScope ["first", "second", "inside", "square"] ["first", "second"] (defScope s_both) := ⟨rfl, rfl, rfl, by decide +kernel, rfl, by decide +kernel, by decide +kernel⟩
abbrev s_edge_of : Stmt := topS 13
theorem sc_edge_of : FnScope ["squares", "inside", "square", "length", "x", "y"] ["squares"] (defScope s_edge_of) := ⟨rfl, rfl, rfl, by decide +kernel, rfl, by decide +kernel, by decide +kernel⟩
abbrev s_rank_of : Stmt := topS 14
theorem sc_rank_of : FnScope ["squares", "fires", "hits"] ["squares", "fires"] (defScope s_rank_of) := ⟨rfl, rfl, rfl, by decide +kernel, rfl, by decide +kernel, by decide +kernel⟩
abbrev s_w_reel : Stmt := topS 16
theorem sc_w_reel : FnScope ["script", "cell"] ["script"] (defScope s_w_reel) := ⟨rfl, rfl, rfl, by decide +kernel, rfl, by decide +kernel, by decide +kernel⟩
abbrev s_w_wind : Stmt := topS 17
theorem sc_w_wind : FnScope ["reel", "many", "left", "turn", "cell", "mixed"] ["reel", "many"] (defScope s_w_wind) := ⟨rfl, rfl, rfl, by decide +kernel, rfl, by decide +kernel, by decide +kernel⟩
abbrev s_w_pick : Stmt := topS 18
theorem sc_w_pick : FnScope ["reel", "some"] ["reel", "some"] (defScope s_w_pick) := ⟨rfl, rfl, rfl, by decide +kernel, rfl, by decide +kernel, by decide +kernel⟩
abbrev s_w_mixed : Stmt := topS 19
theorem sc_w_mixed : FnScope ["reel", "some", "left", "found"] ["reel", "some"] (defScope s_w_mixed) := ⟨rfl, rfl, rfl, by decide +kernel, rfl, by decide +kernel, by decide +kernel⟩
abbrev s_w_drawn : Stmt := topS 20
theorem sc_w_drawn : FnScope ["reel", "low", "dense", "begin", "found", "at"] ["reel"] (defScope s_w_drawn) := ⟨rfl, rfl, rfl, by decide +kernel, rfl, by decide +kernel, by decide +kernel⟩
abbrev s_w_other : Stmt := topS 21
theorem sc_w_other : FnScope ["reel", "one", "way", "square", "by", "x", "y", "found", "turn"] ["reel", "one"] (defScope s_w_other) := ⟨rfl, rfl, rfl, by decide +kernel, rfl, by decide +kernel, by decide +kernel⟩
abbrev s_w_measured : Stmt := topS 22
theorem sc_w_measured : FnScope ["squares", "fire", "up", "x", "y", "across", "many", "square"] ["squares", "fire"] (defScope s_w_measured) := ⟨rfl, rfl, rfl, by decide +kernel, rfl, by decide +kernel, by decide +kernel⟩
abbrev s_w_in_one : Stmt := topS 23
theorem sc_w_in_one : FnScope ["squares", "fire", "measured", "base", "length"] ["squares", "fire"] (defScope s_w_in_one) := ⟨rfl, rfl, rfl, by decide +kernel, rfl, by decide +kernel, by decide +kernel⟩
abbrev s_w_is : Stmt := topS 24
theorem sc_w_is : FnScope ["told", "due"] ["told", "due"] (defScope s_w_is) := ⟨rfl, rfl, rfl, by decide +kernel, rfl, by decide +kernel, by decide +kernel⟩
abbrev s_w_pair_right : Stmt := topS 25
theorem sc_w_pair_right : FnScope ["reel", "one", "other", "fire", "square", "turn", "mine", "its", "kept", "told", "back"] ["reel"] (defScope s_w_pair_right) := ⟨rfl, rfl, rfl, by decide +kernel, rfl, by decide +kernel, by decide +kernel⟩
abbrev s_w_heard : Stmt := topS 26
theorem sc_w_heard : FnScope ["deed", "told", "error"] ["deed"] (defScope s_w_heard) := ⟨rfl, rfl, rfl, by decide +kernel, rfl, by decide +kernel, by decide +kernel⟩
abbrev s_w_refused_right : Stmt := topS 27
theorem sc_w_refused_right : FnScope ["reel", "good", "bad", "left", "heard", "due"] ["reel"] (defScope s_w_refused_right) := ⟨rfl, rfl, rfl, by decide +kernel, rfl, by decide +kernel, by decide +kernel⟩
abbrev s_law : Stmt := topS 28
theorem sc_law : FnScope ["script", "reel", "turn"] ["script"] (defScope s_law) := ⟨rfl, rfl, rfl, by decide +kernel, rfl, by decide +kernel, by decide +kernel⟩
/-- where the text's defs stand, and what it leaves as it was -/
structure Txt (K : PySem.W.Frag) (mg : Str → Option Value) where
  f_BadSquares_init : Addr
  d_BadSquares_init : FuncData
  F_BadSquares_init : Fun K "__init__" "BadSquares.__init__" s_BadSquares_init f_BadSquares_init d_BadSquares_init
  f_Misfit_init : Addr
  d_Misfit_init : FuncData
  F_Misfit_init : Fun K "__init__" "Misfit.__init__" s_Misfit_init f_Misfit_init d_Misfit_init
  f_is_integer : Addr
  d_is_integer : FuncData
  F_is_integer : Fun K "is_integer" "is_integer" s_is_integer f_is_integer d_is_integer
  g_is_integer : mg "is_integer" = some (.ref f_is_integer)
  f_is_square : Addr
  d_is_square : FuncData
  F_is_square : Fun K "is_square" "is_square" s_is_square f_is_square d_is_square
  g_is_square : mg "is_square" = some (.ref f_is_square)
  f_are_squares : Addr
  d_are_squares : FuncData
  F_are_squares : Fun K "are_squares" "are_squares" s_are_squares f_are_squares d_are_squares
  g_are_squares : mg "are_squares" = some (.ref f_are_squares)
  f_taken_squares : Addr
  d_taken_squares : FuncData
  F_taken_squares : Fun K "taken_squares" "taken_squares" s_taken_squares f_taken_squares d_taken_squares
  g_taken_squares : mg "taken_squares" = some (.ref f_taken_squares)
  f_check_right : Addr
  d_check_right : FuncData
  F_check_right : Fun K "check_right" "check_right" s_check_right f_check_right d_check_right
  g_check_right : mg "check_right" = some (.ref f_check_right)
  f_is_better : Addr
  d_is_better : FuncData
  F_is_better : Fun K "is_better" "is_better" s_is_better f_is_better d_is_better
  g_is_better : mg "is_better" = some (.ref f_is_better)
  f_both : Addr
  d_both : FuncData
  F_both : Fun K "both" "both" s_both f_both d_both
  g_both : mg "both" = some (.ref f_both)
  f_edge_of : Addr
  d_edge_of : FuncData
  F_edge_of : Fun K "edge_of" "edge_of" s_edge_of f_edge_of d_edge_of
  g_edge_of : mg "edge_of" = some (.ref f_edge_of)
  f_rank_of : Addr
  d_rank_of : FuncData
  F_rank_of : Fun K "rank_of" "rank_of" s_rank_of f_rank_of d_rank_of
  g_rank_of : mg "rank_of" = some (.ref f_rank_of)
  f_w_reel : Addr
  d_w_reel : FuncData
  F_w_reel : Fun K "_law_reel" "_law_reel" s_w_reel f_w_reel d_w_reel
  g_w_reel : mg "_law_reel" = some (.ref f_w_reel)
  f_w_wind : Addr
  d_w_wind : FuncData
  F_w_wind : Fun K "_law_wind" "_law_wind" s_w_wind f_w_wind d_w_wind
  g_w_wind : mg "_law_wind" = some (.ref f_w_wind)
  f_w_pick : Addr
  d_w_pick : FuncData
  F_w_pick : Fun K "_law_pick" "_law_pick" s_w_pick f_w_pick d_w_pick
  g_w_pick : mg "_law_pick" = some (.ref f_w_pick)
  f_w_mixed : Addr
  d_w_mixed : FuncData
  F_w_mixed : Fun K "_law_mixed" "_law_mixed" s_w_mixed f_w_mixed d_w_mixed
  g_w_mixed : mg "_law_mixed" = some (.ref f_w_mixed)
  f_w_drawn : Addr
  d_w_drawn : FuncData
  F_w_drawn : Fun K "_law_drawn" "_law_drawn" s_w_drawn f_w_drawn d_w_drawn
  g_w_drawn : mg "_law_drawn" = some (.ref f_w_drawn)
  f_w_other : Addr
  d_w_other : FuncData
  F_w_other : Fun K "_law_other" "_law_other" s_w_other f_w_other d_w_other
  g_w_other : mg "_law_other" = some (.ref f_w_other)
  f_w_measured : Addr
  d_w_measured : FuncData
  F_w_measured : Fun K "_law_measured" "_law_measured" s_w_measured f_w_measured d_w_measured
  g_w_measured : mg "_law_measured" = some (.ref f_w_measured)
  f_w_in_one : Addr
  d_w_in_one : FuncData
  F_w_in_one : Fun K "_law_in_one" "_law_in_one" s_w_in_one f_w_in_one d_w_in_one
  g_w_in_one : mg "_law_in_one" = some (.ref f_w_in_one)
  f_w_is : Addr
  d_w_is : FuncData
  F_w_is : Fun K "_law_is" "_law_is" s_w_is f_w_is d_w_is
  g_w_is : mg "_law_is" = some (.ref f_w_is)
  f_w_pair_right : Addr
  d_w_pair_right : FuncData
  F_w_pair_right : Fun K "_law_pair_right" "_law_pair_right" s_w_pair_right f_w_pair_right d_w_pair_right
  g_w_pair_right : mg "_law_pair_right" = some (.ref f_w_pair_right)
  f_w_heard : Addr
  d_w_heard : FuncData
  F_w_heard : Fun K "_law_heard" "_law_heard" s_w_heard f_w_heard d_w_heard
  g_w_heard : mg "_law_heard" = some (.ref f_w_heard)
  f_w_refused_right : Addr
  d_w_refused_right : FuncData
  F_w_refused_right : Fun K "_law_refused_right" "_law_refused_right" s_w_refused_right f_w_refused_right d_w_refused_right
  g_w_refused_right : mg "_law_refused_right" = some (.ref f_w_refused_right)
  f_law : Addr
  d_law : FuncData
  F_law : Fun K "law" "law" s_law f_law d_law
  g_law : mg "law" = some (.ref f_law)
  c_BadSquares : Addr
  gc_BadSquares : mg "BadSquares" = some (.ref c_BadSquares)
  x_BadSquares : OexC K c_BadSquares
  i_BadSquares : PySem.W.findIn K (.ref c_BadSquares) "__init__" = some (some (.ref f_BadSquares_init))
  t_BadSquares : PySem.W.typeIn K (.ref f_BadSquares_init) = some (.type "function")
  n_BadSquares_part : PySem.W.findIn K (.ref c_BadSquares) "part" = some none
  c_Misfit : Addr
  gc_Misfit : mg "Misfit" = some (.ref c_Misfit)
  x_Misfit : OexC K c_Misfit
  i_Misfit : PySem.W.findIn K (.ref c_Misfit) "__init__" = some (some (.ref f_Misfit_init))
  t_Misfit : PySem.W.typeIn K (.ref f_Misfit_init) = some (.type "function")
  n_Misfit_part : PySem.W.findIn K (.ref c_Misfit) "part" = some none
  c_FlightError : Addr
  gc_FlightError : mg "FlightError" = some (.ref c_FlightError)
  e_BadSquares : ExcC K c_BadSquares
  m_BadSquares_BadSquares : PySem.W.exmOne K (.ref c_BadSquares) (.ref c_BadSquares) = some true
  m_BadSquares_FlightError : PySem.W.exmOne K (.ref c_BadSquares) (.ref c_FlightError) = some true
  m_BadSquares_Misfit : PySem.W.exmOne K (.ref c_BadSquares) (.ref c_Misfit) = some false
  e_Misfit : ExcC K c_Misfit
  m_Misfit_BadSquares : PySem.W.exmOne K (.ref c_Misfit) (.ref c_BadSquares) = some false
  m_Misfit_FlightError : PySem.W.exmOne K (.ref c_Misfit) (.ref c_FlightError) = some true
  m_Misfit_Misfit : PySem.W.exmOne K (.ref c_Misfit) (.ref c_Misfit) = some true
  z_abs : mg "abs" = none
  z_all : mg "all" = none
  z_any : mg "any" = none
  z_bool : mg "bool" = none
  z_int : mg "int" = none
  z_isinstance : mg "isinstance" = none
  z_len : mg "len" = none
  z_list : mg "list" = none
  z_range : mg "range" = none
  z_repr : mg "repr" = none
  z_set : mg "set" = none
  z_sorted : mg "sorted" = none
  z_tuple : mg "tuple" = none
variable {K : PySem.W.Frag} {mg : Str → Option Value}
theorem b_BadSquares_init (T : Txt K mg) : Binds K T.d_BadSquares_init ["self", "part"] [] := T.F_BadSquares_init.binds fun _ _ _ _ _ _ us hl => match us, hl with | [_, _], _ => rfl
theorem b_Misfit_init (T : Txt K mg) : Binds K T.d_Misfit_init ["self", "part"] [] := T.F_Misfit_init.binds fun _ _ _ _ _ _ us hl => match us, hl with | [_, _], _ => rfl
theorem b_is_integer (T : Txt K mg) : Binds K T.d_is_integer ["value"] [] := T.F_is_integer.binds fun _ _ _ _ _ _ us hl => match us, hl with | [_], _ => rfl
theorem b_is_square (T : Txt K mg) : Binds K T.d_is_square ["value"] [] := T.F_is_square.binds fun _ _ _ _ _ _ us hl => match us, hl with | [_], _ => rfl
theorem b_are_squares (T : Txt K mg) : Binds K T.d_are_squares ["value"] [] := T.F_are_squares.binds fun _ _ _ _ _ _ us hl => match us, hl with | [_], _ => rfl
theorem b_taken_squares (T : Txt K mg) : Binds K T.d_taken_squares ["squares", "part"] [] := T.F_taken_squares.binds fun _ _ _ _ _ _ us hl => match us, hl with | [_, _], _ => rfl
theorem b_check_right (T : Txt K mg) : Binds K T.d_check_right ["squares", "part"] [] := T.F_check_right.binds fun _ _ _ _ _ _ us hl => match us, hl with | [_, _], _ => rfl
theorem b_is_better (T : Txt K mg) : Binds K T.d_is_better ["one", "other", "burnt"] [] := T.F_is_better.binds fun _ _ _ _ _ _ us hl => match us, hl with | [_, _, _], _ => rfl
theorem b_both (T : Txt K mg) : Binds K T.d_both ["first", "second"] [] := T.F_both.binds fun _ _ _ _ _ _ us hl => match us, hl with | [_, _], _ => rfl
theorem b_edge_of (T : Txt K mg) : Binds K T.d_edge_of ["squares"] [] := T.F_edge_of.binds fun _ _ _ _ _ _ us hl => match us, hl with | [_], _ => rfl
theorem b_rank_of (T : Txt K mg) : Binds K T.d_rank_of ["squares", "fires"] [] := T.F_rank_of.binds fun _ _ _ _ _ _ us hl => match us, hl with | [_, _], _ => rfl
theorem b_w_reel (T : Txt K mg) : Binds K T.d_w_reel ["script"] [] := T.F_w_reel.binds fun _ _ _ _ _ _ us hl => match us, hl with | [_], _ => rfl
theorem b_w_wind (T : Txt K mg) : Binds K T.d_w_wind ["reel", "many"] [] := T.F_w_wind.binds fun _ _ _ _ _ _ us hl => match us, hl with | [_, _], _ => rfl
theorem b_w_pick (T : Txt K mg) : Binds K T.d_w_pick ["reel", "some"] [] := T.F_w_pick.binds fun _ _ _ _ _ _ us hl => match us, hl with | [_, _], _ => rfl
theorem b_w_mixed (T : Txt K mg) : Binds K T.d_w_mixed ["reel", "some"] [] := T.F_w_mixed.binds fun _ _ _ _ _ _ us hl => match us, hl with | [_, _], _ => rfl
theorem b_w_drawn (T : Txt K mg) : Binds K T.d_w_drawn ["reel"] [] := T.F_w_drawn.binds fun _ _ _ _ _ _ us hl => match us, hl with | [_], _ => rfl
theorem b_w_other (T : Txt K mg) : Binds K T.d_w_other ["reel", "one"] [] := T.F_w_other.binds fun _ _ _ _ _ _ us hl => match us, hl with | [_, _], _ => rfl
theorem b_w_measured (T : Txt K mg) : Binds K T.d_w_measured ["squares", "fire"] [] := T.F_w_measured.binds fun _ _ _ _ _ _ us hl => match us, hl with | [_, _], _ => rfl
theorem b_w_in_one (T : Txt K mg) : Binds K T.d_w_in_one ["squares", "fire"] [] := T.F_w_in_one.binds fun _ _ _ _ _ _ us hl => match us, hl with | [_, _], _ => rfl
theorem b_w_is (T : Txt K mg) : Binds K T.d_w_is ["told", "due"] [] := T.F_w_is.binds fun _ _ _ _ _ _ us hl => match us, hl with | [_, _], _ => rfl
theorem b_w_pair_right (T : Txt K mg) : Binds K T.d_w_pair_right ["reel"] [] := T.F_w_pair_right.binds fun _ _ _ _ _ _ us hl => match us, hl with | [_], _ => rfl
theorem b_w_heard (T : Txt K mg) : Binds K T.d_w_heard ["deed"] [] := T.F_w_heard.binds fun _ _ _ _ _ _ us hl => match us, hl with | [_], _ => rfl
theorem b_w_refused_right (T : Txt K mg) : Binds K T.d_w_refused_right ["reel"] [] := T.F_w_refused_right.binds fun _ _ _ _ _ _ us hl => match us, hl with | [_], _ => rfl
theorem b_law (T : Txt K mg) : Binds K T.d_law ["script"] [] := T.F_law.binds fun _ _ _ _ _ _ us hl => match us, hl with | [_], _ => rfl
def pm_is_better_other_burnt_one {α : Type} (us ws : List α) : List α := match us, ws with | [], [v0, v1, v2] => [v2, v0, v1] | _, _ => []
theorem kb_is_better_other_burnt_one (T : Txt K mg) : KBinds K T.d_is_better ["one", "other", "burnt"] ["other", "burnt", "one"] (fun us ws => pm_is_better_other_burnt_one us ws) (fun us ws => pm_is_better_other_burnt_one us ws) := by
  obtain ⟨oc, od, kV, doc, pm, an, cdv, ct, osl, e, lk, hcd⟩ := T.F_is_better.ex
  constructor
  · intro s us ws _ hl
    rcases us with _ | ⟨u, us⟩
    · rcases ws with _ | ⟨v0, _ | ⟨v1, _ | ⟨v2, _ | ⟨v3, ws⟩⟩⟩⟩
      · exact absurd hl (by simp [pm_is_better_other_burnt_one])
      · exact absurd hl (by simp [pm_is_better_other_burnt_one])
      · exact absurd hl (by simp [pm_is_better_other_burnt_one])
      · rw [e]; exact .of_eq rfl
      · exact absurd hl (by simp [pm_is_better_other_burnt_one])
    · exact absurd hl (by simp [pm_is_better_other_burnt_one])
  · intro vs us zs ws r1 r2
    cases r1 with
    | cons _ _ => exact .nil
    | nil =>
      cases r2 with
      | nil => exact .nil
      | cons q0 r2 =>
        cases r2 with
        | nil => exact .nil
        | cons q1 r2 =>
          cases r2 with
          | nil => exact .nil
          | cons q2 r2 =>
            cases r2 with
            | nil => exact (.cons q2 (.cons q0 (.cons q1 .nil)))
            | cons _ _ => exact .nil
end

/-! ### the urn -/
/-- all but the urn stands -/
def Go (j : Addr) (H H' : Hp) : Prop := ∀ a o, a ≠ j → H a = some o → H' a = some o
theorem Go.refl (j : Addr) (H : Hp) : Go j H H := fun _ _ _ h => h
theorem Go.trans {j : Addr} {H H1 H2 : Hp} (a : Go j H H1) (b : Go j H1 H2) : Go j H H2 := fun x o n h => b x o n (a x o n h)
theorem Go.of {j : Addr} {H H' : Hp} (e : Ex H H') : Go j H H' := fun a o _ h => e a o h
theorem Go.upd {j : Addr} {H : Hp} {o : HO} : Go j H (upd H j o) := fun a u n h => (upd_ne n).trans h
/-- the heap without the urn -/
def off (j : Addr) (H : Hp) : Hp := fun a => if a = j then none else H a
theorem off_ne {j a : Addr} {H : Hp} (h : a ≠ j) : off j H a = H a := if_neg h
theorem Go.ex {j : Addr} {H H' : Hp} (g : Go j H H') : Ex (off j H) (off j H') := by
  intro a o h
  by_cases e : a = j
  · subst e; rw [show off a H a = none from if_pos rfl] at h; cases h
  · rw [off_ne e] at h ⊢; exact g a o e h
theorem off_sub (j : Addr) (H : Hp) : Ex (off j H) H := by
  intro a o h
  by_cases e : a = j
  · subst e; rw [show off a H a = none from if_pos rfl] at h; cases h
  · rwa [off_ne e] at h
/-- the urn at j: b draws are left to it; its numbers stand in B, which is never changed -/
structure Urn (K : PySem.W.Frag) (B : Hp) (j : Addr) (b : Nat) (H : Hp) : Prop where
  it : ∃ (c : Addr) (ns : List Int) (at' rest : Int), H j = some (.lst [.ref c, .int at', .int rest]) ∧ SqL K B c (ns.map V.int) ∧ 0 ≤ at' ∧ at' + b ≤ 1000000 ∧ 0 ≤ rest
  ba : Ex B (off j H)
section
variable {K : PySem.W.Frag} {B : Hp} {j : Addr}
theorem Urn.less {b b' : Nat} {H : Hp} (u : Urn K B j b H) (h : b' ≤ b) : Urn K B j b' H := by
  obtain ⟨c, ns, at', rest, h1, h2, h3, h4, h5⟩ := u.it
  exact ⟨⟨c, ns, at', rest, h1, h2, h3, by omega, h5⟩, u.ba⟩
theorem Urn.ex {b : Nat} {H H' : Hp} (u : Urn K B j b H) (e : Ex H H') : Urn K B j b H' := by
  obtain ⟨c, ns, at', rest, h1, h2, h3, h4, h5⟩ := u.it
  exact ⟨⟨c, ns, at', rest, e _ _ h1, h2, h3, h4, h5⟩, u.ba.trans (Go.of e).ex⟩
theorem Urn.there {b : Nat} {H : Hp} (u : Urn K B j b H) : H j ≠ none := by
  obtain ⟨c, ns, a, r, h, _⟩ := u.it
  rw [h]
  exact fun z => nomatch z
theorem Urn.ne {p : Addr} {b : Nat} {H : Hp} (u : Urn K B j b H) (h : H p = none) : p ≠ j := fun e => u.there (e ▸ h)
/-- a thing that was made after the urn may change -/
theorem Urn.mut {D : Addr} {b b2 : Nat} {H H2 : Hp} {o : HO} (u : Urn K B j b H) (u2 : Urn K B j b2 H2) (hD : H2 D = none) : Urn K B j b (L2.upd H D o) := by
  obtain ⟨c, ns, at', rest, h1, h2, h3, h4, h5⟩ := u.it
  refine ⟨⟨c, ns, at', rest, (upd_ne (u2.ne hD).symm).trans h1, h2, h3, h4, h5⟩, fun a x hx => ?_⟩
  have n1 : a ≠ D := by
    rintro rfl
    have := off_sub j _ _ _ (u2.ba _ _ hx)
    rw [hD] at this; cases this
  have h6 := u.ba _ _ hx
  have n2 : a ≠ j := by
    rintro rfl
    rw [show off a H a = none from if_pos rfl] at h6; cases h6
  rw [off_ne n2] at h6 ⊢
  exact (upd_ne n1).trans h6
end
/-- what H' has and H had not -/
def neu (H H' : Hp) : Hp := fun a => match H a with
  | none => H' a
  | some _ => none
theorem neu_at {H H' : Hp} {a : Addr} (h : H a = none) : neu H H' a = H' a := by unfold neu; rw [h]
theorem neu_of {H H' : Hp} {a : Addr} {o : HO} (h : neu H H' a = some o) : H a = none ∧ H' a = some o := by
  unfold neu at h
  cases q : H a with
  | none => rw [q] at h; exact ⟨rfl, h⟩
  | some _ => rw [q] at h; cases h
theorem at_neu {H H' : Hp} {a : Addr} {o : HO} (h : H a = none) (h' : H' a = some o) : neu H H' a = some o := (neu_at h).trans h'
theorem off_at {j a : Addr} {H : Hp} {o : HO} (ne : a ≠ j) (h : H a = some o) : off j H a = some o := (off_ne ne).trans h
section
variable {K : PySem.W.Frag} {B : Hp} {j : Addr} {b : Nat}
theorem Urn.back {H H1 : Hp} {p : Addr} (u : Urn K B j b H1) (g : Go j H H1) (h : H1 p = none) : H p = none := by
  cases q : H p with
  | none => rfl
  | some o => rw [g p o (u.ne h) q] at h; cases h
theorem neu_ex {H H2 H3 H4 : Hp} (u : Urn K B j b H2) (g : Go j H H2) (g' : Go j H3 H4) : Ex (neu H2 H3) (neu H H4) := by
  intro a o h
  obtain ⟨h1, h2⟩ := neu_of h
  exact at_neu (u.back g h1) (g' a o (u.ne h1) h2)
theorem neu_off {H H' : Hp} {D : Addr} (h : H D ≠ none) : Ex (neu H H') (off D H') := by
  intro a o q
  obtain ⟨h1, h2⟩ := neu_of q
  exact off_at (fun e => h (e ▸ h1)) h2
theorem neu_off2 {H H' : Hp} {D : Addr} (u : Urn K B j b H) (h : H D ≠ none) : Ex (neu H H') (off D (off j H')) := by
  intro a o q
  obtain ⟨h1, h2⟩ := neu_of q
  exact off_at (fun e => h (e ▸ h1)) (off_at (fun e => u.there (e ▸ h1)) h2)
end
/-- one draw -/
def spDraw (K : PySem.W.Frag) : Sp := fun vs H Q _ => ∃ (j : Addr) (B : Hp) (b : Nat) (n : Int), vs = [.ref j, .int n] ∧ 0 < n ∧ n.natAbs.log2 < 9000 ∧ Urn K B j (b + 1) H ∧
  ∀ (r : Int) (H' : Hp), 0 ≤ r → r < n → Go j H H' → Urn K B j b H' → Q (.int r) H'

end K05
namespace K05
open PySem PySem.Spec PyProof.Rows L2 Kg
open Evl (Ex)


section
variable {P : Program} {w : World} {K : PySem.W.Frag} {mg : Str → Option Value} {base : Heap}
theorem ints_dp {H : Hp} : ∀ ns : List Int, DpAll K H (ns.map V.int) (ns.map PyData.int)
  | [] => .nil
  | n :: ns => .cons (.int n) (ints_dp ns)
theorem ints_lay : ∀ ns : List Int, PyData.canLayAll0 (ns.map PyData.int) = true
  | [] => by simp [PyData.canLayAll0]
  | n :: ns => by simp [PyData.canLayAll0, PyData.canLay0, ints_lay ns]
theorem ints_depth : ∀ ns : List Int, PyData.depthAll (ns.map PyData.int) = 0
  | [] => by simp [PyData.depthAll]
  | n :: ns => by simp [PyData.depthAll, PyData.depth, ints_depth ns]
theorem ints_shaped (ns : List Int) : SeqAt.shaped (.list (ns.map PyData.int)) = true := by
  simp [SeqAt.shaped, PyData.canLay0, PyData.depth, ints_lay, ints_depth]
theorem ok_draw (T : Txt K mg) : FnOk P w K mg base CX0 1 T.f_w_wind T.d_w_wind ["reel", "many"] (spDraw K) := by
  refine T.F_w_wind.ok sc_w_wind (fun vs H Q E h => ?_) (fun cdv A outer s H vs Q E hr h => ?_)
  · obtain ⟨j, B, b, n, rfl, _⟩ := h
    rfl
  · obtain ⟨j, B, b, n, rfl, hn, hn9, u, k⟩ := h
    have hr1 := hr
    have hu2 := hr.units
    obtain ⟨c, ns, at', rest, hj, hc, h0, h1, h2⟩ := u.it
    have hcO : SqL K (off j H) c (ns.map V.int) := Evl.ex_l u.ba hc
    have hcH : SqL K H c (ns.map V.int) := Evl.ex_l (u.ba.trans (off_sub j H)) hc
    refine ⟨_, (pss_cons (ps_if (pt_cmpR op_gt (pe_ix ix_list (pv 0) pe_int (fun _ _ => rfl)) pe_int (nomark _)) (pss_cons (ps_set (i := 2) sc_w_wind.nd rfl (Or.inl rfl) (pe_callTy call_int1 (by rfl) T.z_int (by decide +kernel) (pa_cons (pe_ix ix_list (pv 0) pe_int (fun _ _ => rfl)) pa_nil)))
  (pss_cons (ps_asg (pe_op op_fdivW (pv 2) (pv 1)) (pg_sub (pv 0) pe_int set_list))
  (pss_one (ps_ret (pe_op op_mod (pe_callTy call_int1 (by rfl) T.z_int (by decide +kernel) (pa_cons (pv 2) pa_nil)) (pv 1)))))) pss_nil)
  (pss_cons (ps_set (i := 3) sc_w_wind.nd rfl (Or.inl rfl) (pe_ix ix_list (pv 0) pe_int (fun _ _ => rfl)))
  (pss_cons (ps_asg (pe_op op_add (pv 3) pe_int) (pg_sub (pv 0) pe_int set_list))
  (pss_cons (ps_set (i := 4) sc_w_wind.nd rfl (Or.inl rfl) (pe_op op_add (pe_op op_mul pe_int (pv 3)) pe_int))
  (Evl.pss_cut (ps_if (pt_cmpR (op_neD hu2) (pe_ix ix_list (pv 0) pe_int (fun _ _ => rfl)) (pe_lst pa_nil) (nomark _)) (pss_one (ps_set (i := 4) sc_w_wind.nd rfl (Or.inl rfl) (pe_ix ix_list (pe_ix ix_list (pv 0) pe_int (fun _ _ => rfl)) (pe_op op_mod (pe_callTy call_int1 (by rfl) T.z_int (by decide +kernel) (pa_cons (pv 3) pa_nil)) (pe_callB call_len_seq (by rfl) T.z_len (by decide +kernel) (pa_cons (pe_ix ix_list (pv 0) pe_int (fun _ _ => rfl)) pa_nil))) (fun _ _ => rfl)))) pss_nil)
  (pss_cons (ps_if (PW.pt (pw_and (pt_cmpR op_lt (pv 3) (pe_callB call_len_seq (by rfl) T.z_len (by decide +kernel) (pa_cons (pe_ix ix_list (pv 0) pe_int (fun _ _ => rfl)) pa_nil)) (nomark _)) (pw_and1 (pt_cmpR op_ge (pe_callB call_abs (by rfl) T.z_abs (by decide +kernel) (pa_cons (pv 4) pa_nil)) (pe_op op_pow pe_int pe_int) (nomark _))))) (pss_cons (ps_set (i := 2) sc_w_wind.nd rfl (Or.inl rfl) (pe_op op_add (pe_op op_mul pe_int (pe_op op_sub (pe_callB call_abs (by rfl) T.z_abs (by decide +kernel) (pa_cons (pe_callTy call_int1 (by rfl) T.z_int (by decide +kernel) (pa_cons (pv 4) pa_nil)) pa_nil)) (pe_op op_pow pe_int pe_int))) (pe_callTy call_int1 (by rfl) T.z_int (by decide +kernel) (pa_cons (pe_cmpR op_lt (pv 4) pe_int (nomark _)) pa_nil))))
  (pss_cons (ps_asg (pe_op op_fdivW (pv 2) (pv 1)) (pg_sub (pv 0) pe_int set_list))
  (pss_one (ps_ret (pe_op op_mod (pe_callTy call_int1 (by rfl) T.z_int (by decide +kernel) (pa_cons (pv 2) pa_nil)) (pv 1)))))) pss_nil)
  (pss_cons (ps_set (i := 5) sc_w_wind.nd rfl (Or.inl rfl) (pe_op op_mod (pe_callTy call_int1 (by rfl) T.z_int (by decide +kernel) (pa_cons (pe_op op_pow (pe_op op_add (pe_op op_add (pe_op op_mod (pe_callTy call_int1 (by rfl) T.z_int (by decide +kernel) (pa_cons (pv 4) pa_nil)) pe_int) (pe_op op_mul pe_int (pv 3))) pe_int) pe_int) pa_nil)) pe_int))
  (pss_cons (ps_set (i := 5) sc_w_wind.nd rfl (Or.inl rfl) (pe_op op_mod (pe_callTy call_int1 (by rfl) T.z_int (by decide +kernel) (pa_cons (pe_op op_pow (pe_op op_add (pe_op op_add (pe_op op_mul (pv 5) (pe_op op_add (pe_op op_mul pe_int (pv 3)) pe_int)) (pe_op op_mul (pe_op op_mul pe_int (pv 3)) (pv 3))) pe_int) pe_int) pa_nil)) pe_int))
  (pss_one (ps_ret (pe_op op_mod (pe_callTy call_int1 (by rfl) T.z_int (by decide +kernel) (pa_cons (pe_op op_fdivW (pv 5) pe_int) pa_nil)) (pv 1)))))))))))), ?_⟩
    walk_at "rd"
    refine ifB (fun c1 => ?_) (fun c1 => ?_)
    · walk_at "rd"
      refine k _ _ (Int.emod_nonneg _ (by omega)) (Int.emod_lt_of_pos _ hn) Go.upd ⟨⟨c, ns, at', rest / n, upd_same, hc, h0, by omega, Int.ediv_nonneg h2 (by omega)⟩, u.ba.trans Go.upd.ex⟩
    · have hcG : SqL K (upd H j (.lst [.ref c, .int (at' + 1), .int rest])) c (ns.map V.int) := Evl.ex_l (off_sub j _) (Evl.ex_l Go.upd.ex hcO)
      walk_at "rd"
      refine ⟨fun σ' H' => ∃ cl : Int, σ' = [some (.ref j), some (.int n), none, some (.int at'), some (.int cl), none] ∧ Go j H H' ∧ H' j = some (.lst [.ref c, .int (at' + 1), .int rest]), ?_, ?_⟩
      · walk_at "rd"
        intro l hl
        have njl : j ≠ l := fun e => by rw [← e, upd_same] at hl; cases hl
        have g2 : Go j H (upd (upd H j (.lst [.ref c, .int (at' + 1), .int rest])) l (.lst [])) := Go.upd.trans (Go.of (Ex.new hl))
        have hj2 : upd (upd H j (.lst [.ref c, .int (at' + 1), .int rest])) l (.lst []) j = some (.lst [.ref c, .int (at' + 1), .int rest]) := (upd_ne njl).trans upd_same
        have hl2 : upd (upd H j (.lst [.ref c, .int (at' + 1), .int rest])) l (.lst []) l = some (.lst []) := upd_same
        have hc2 : SqL K (upd (upd H j (.lst [.ref c, .int (at' + 1), .int rest])) l (.lst [])) c (ns.map V.int) := Evl.ex_l (off_sub j _) (Evl.ex_l g2.ex hcO)
        refine ⟨.list (ns.map .int), .list [], .lst hc2 (ints_dp ns), .lst (SqL.of hl2) .nil, ints_shaped ns, by decide, ?_⟩
        walk_at "rd"
        refine ifB (fun c2 => ?_) (fun c2 => ?_)
        · have ne : ns ≠ [] := by
            rintro rfl
            simp [PyData.eqv, PyData.eqvAll] at c2
          have hlen : 0 < ((ns.map V.int).length : Int) := by
            rw [List.length_map]
            have := List.length_pos_iff.mpr ne
            omega
          have m0 := Int.emod_nonneg at' (show ((ns.map V.int).length : Int) ≠ 0 by omega)
          have m1 := Int.emod_lt_of_pos at' hlen
          obtain ⟨z, hz⟩ : ∃ z, atI (ns.map V.int) (at' % ((ns.map V.int).length : Int)) = some (.int z) := by
            generalize hm : at' % ((ns.map V.int).length : Int) = m at m0 m1
            obtain ⟨z, hz⟩ : ∃ z, ns[m.toNat]? = some z := ⟨_, List.getElem?_eq_getElem (by rw [List.length_map] at m1; omega)⟩
            exact ⟨z, at_of (j := m.toNat) (by omega) (by rw [List.getElem?_map, hz]; rfl)⟩
          walk_at "rd"
          exact hj2
        · exact ⟨_, rfl, g2, hj2⟩
      · rintro σ' H2 ⟨cl, rfl, g2, hj2⟩
        have hc2 : SqL K H2 c (ns.map V.int) := Evl.ex_l (off_sub j _) (Evl.ex_l g2.ex hcO)
        have last : ∀ H3, Go j H H3 → H3 j = some (.lst [.ref c, .int (at' + 1), .int rest]) → ∀ r : Int, 0 ≤ r → r < n → Q (.int r) H3 :=
          fun H3 g3 h3 r r0 r1 => k r H3 r0 r1 g3 ⟨⟨c, ns, at' + 1, rest, h3, hc, by omega, by omega, h2⟩, u.ba.trans g3.ex⟩
        walk_at "rd"
        refine ifB (fun c2 => ?_) (fun c2 => ?_)
        · walk_at "rd"
          refine ifB (fun c3 => ?_) (fun c3 => ?_)
          · walk_at "rd"
            have c4 : (10 : Int) ^ 18 ≤ if cl < 0 then -cl else cl := of_decide_eq_true c3
            refine k _ _ (Int.emod_nonneg _ (by omega)) (Int.emod_lt_of_pos _ hn) (g2.trans Go.upd) ⟨⟨c, ns, at' + 1, _, upd_same, hc, by omega, by omega, Int.ediv_nonneg ?_ (by omega)⟩, u.ba.trans (g2.trans Go.upd).ex⟩
            show (0 : Int) ≤ 2 * ((if cl < 0 then -cl else cl) - 10 ^ 18) + (if decide (cl < 0) = true then 1 else 0)
            split <;> split <;> omega
          · walk_at "rd"
            refine ⟨⟨by decide, by decide, mix_bound (by omega) (by omega) (by omega) (by omega) (by omega) (by omega) (by omega) (by omega) (by omega) (by omega)⟩, ?_⟩
            walk_at "rd"
            exact last _ g2 hj2 _ (Int.emod_nonneg _ (by omega)) (Int.emod_lt_of_pos _ hn)
        · walk_at "rd"
          refine ⟨⟨by decide, by decide, mix_bound (by omega) (by omega) (by omega) (by omega) (by omega) (by omega) (by omega) (by omega) (by omega) (by omega)⟩, ?_⟩
          walk_at "rd"
          exact last _ g2 hj2 _ (Int.emod_nonneg _ (by omega)) (Int.emod_lt_of_pos _ hn)
end
end K05
namespace K05
open PySem PySem.Spec PyProof.Rows L2 Kg
open Evl (Ex)


section
variable {P : Program} {w : World} {K : PySem.W.Frag} {mg : Str → Option Value} {base : Heap}
def spUrn (K : PySem.W.Frag) : Sp := fun vs H Q _ => ∃ (a : Addr) (ns : List Int), vs = [.ref a] ∧ SqL K H a (ns.map V.int) ∧ ns.length ≤ 63 ∧
  ∀ (j : Addr) (B H' : Hp), H j = none → Ex H H' → Ex H B → Urn K B j 1000000 H' → Q (.ref j) H'
theorem ok_urn (T : Txt K mg) : FnOk P w K mg base CX0 1 T.f_w_reel T.d_w_reel ["script"] (spUrn K) := by
  refine T.F_w_reel.ok sc_w_reel (fun vs H Q E h => ?_) (fun cdv A outer s H vs Q E hr h => ?_)
  · obtain ⟨a, ns, rfl, _⟩ := h
    rfl
  · obtain ⟨a, ns, rfl, hs, hl, k⟩ := h
    refine ⟨_, (pss_one (ps_ret (pe_lst (pa_cons (pe_lc (own := [("cell", 1)]) (g := (gName 1)) rfl sc_w_reel.nd (pi_list (pe_slice sl_list (pv 0) po_none (po_some pe_int))) (blkOk_by (own := [("cell", 1)]) (N := ["script", "cell"]) (sc := defScope s_w_reel) (by decide +kernel)) (fun _ _ _ _ _ => (pg_name (i := 1) sc_w_reel.nd rfl (Or.inl rfl))) (fun _ _ _ _ _ => pts_nil) (fun _ _ _ _ _ => (pe_callTy call_int1 (by rfl) T.z_int (by decide +kernel) (pa_cons (pv 1) pa_nil)))) (pa_cons pe_int (pa_cons pe_int pa_nil)))))), ?_⟩
    have small : sizeLine = 16777216 := sizeLine_eq
    walk_at "rd"
    intro p hp
    obtain ⟨ms, hms⟩ : ∃ ms, ms = ns.take 60 := ⟨_, rfl⟩
    have lms : ms.length ≤ 60 := by rw [hms, List.length_take]; omega
    have cut : cutV (ns.map V.int) none (some (60 : Int)) = ms.map V.int := by
      rw [show (60 : Int) = ((60 : Nat) : Int) from rfl, cut_to, hms, List.map_take]
    have e1 : Ex H (upd H p (.lst (cutV (ns.map V.int) none (some (60 : Int))))) := Evl.Ex.new hp
    have h1 : upd H p (.lst (cutV (ns.map V.int) none (some (60 : Int)))) p = some (.lst (ms.map V.int)) := by rw [upd_same, cut]
    refine ⟨p, rfl, ⟨_, SqL.of h1⟩, fun D hD => ?_⟩
    refine lc_list (K := K) (a := p) (xs := ms.map V.int) (fun i H' => Ex (upd H p (.lst (cutV (ns.map V.int) none (some (60 : Int))))) H' ∧ H' D = some (.lst ((ms.take i).map V.int)))
      ⟨Evl.Ex.new hD, upd_same⟩ (fun i H' _ q => SqL.of (q.1 _ _ h1)) ?_ ?_
    · rintro i x H' hi ⟨q1, q2⟩
      rw [List.getElem?_map] at hi
      obtain ⟨z, hz, rfl⟩ := Option.map_eq_some_iff.mp hi
      refine ⟨rfl, ?_⟩
      walk_at "rd"
      refine ⟨_, q2, ?_, Evl.Ex.mut q1 hD, ?_⟩
      · rw [List.length_map, List.length_take]; omega
      · rw [upd_same, take_one hz, List.map_append]; rfl
    · rintro H2 ⟨q1, q2⟩
      rw [List.length_map, List.take_length] at q2
      walk_at "rd"
      intro j hj
      have ej := Evl.Ex.new (o := .lst [.ref D, .int 0, .int 0]) hj
      have hjH : H j = none := Evl.fresh_back (e1.trans q1) hj
      have nDj : D ≠ j := fun e => by rw [← e, q2] at hj; cases hj
      have back : ∀ a o, H a = some o → a ≠ j := fun a o h e => by rw [e, hjH] at h; cases h
      refine k j (off j (upd H2 j (.lst [.ref D, .int 0, .int 0]))) _ hjH (e1.trans (q1.trans ej)) (fun a o h => ?_) ⟨⟨D, ms, 0, 0, upd_same, SqL.of (off_at nDj ((upd_ne nDj).trans q2)), by decide, by decide, by decide⟩, fun a o h => h⟩
      exact off_at (back a o h) ((e1.trans (q1.trans ej)) a o h)
end
end K05
/-! Kg15: sorted of a set of pairs of ints, below zero too. -/
namespace Kg
open PySem PySem.Spec PyProof.Rows L2 Srt
theorem perm_of_map {α β : Type} {f : α → β} {l m : List β} (h : m.Perm l) : ∀ L : List α, m = L.map f → ∃ L' : List α, l = L'.map f ∧ L'.Perm L := by
  induction h with
  | nil =>
    intro L e
    rw [List.map_eq_nil_iff.mp e.symm]
    exact ⟨[], rfl, .nil⟩
  | cons x p ih =>
    intro L e
    cases L with
    | nil => cases e
    | cons y L =>
      rw [List.map_cons] at e
      injection e with e1 e2
      obtain ⟨L', h1, h2⟩ := ih L e2
      exact ⟨y :: L', by rw [List.map_cons, ← h1, e1], h2.cons y⟩
  | swap x y l =>
    intro L e
    match L, e with
    | a :: b :: L, e =>
      rw [List.map_cons, List.map_cons] at e
      injection e with e1 e
      injection e with e2 e3
      exact ⟨b :: a :: L, by rw [List.map_cons, List.map_cons, ← e1, ← e2, ← e3], .swap _ _ _⟩
  | trans p q ih1 ih2 =>
    intro L e
    obtain ⟨L1, h1, h2⟩ := ih1 L e
    obtain ⟨L2, h3, h4⟩ := ih2 L1 h1
    exact ⟨L2, h3, h4.trans h2⟩
section
variable {P : Program} {w : World} {A : Around} {E : Value → Shared → Prop} {s : Shared}
theorem ints_none {l : List Value} {k : List Int} (i : IntsAre l k) (h : k.length = 0) : l = [] := by
  cases i with
  | nil => rfl
  | cons => cases h
theorem ints_two {l : List Value} {k : List Int} (i : IntsAre l k) (h : k.length = 2) : ∃ p q t u, l = [.int p t, .int q u] := by
  cases i with
  | nil => cases h
  | cons p t i =>
    cases i with
    | nil => cases h
    | cons q u i =>
      refine ⟨p, q, t, u, ?_⟩
      rw [ints_none i (by simpa using h)]
theorem isPair_of {h : Heap} {k : List Int} {b : Addr} (x : IsT P w h k b) (l : k.length = 2) : ∃ i j, IsPair h (.ref b) i j := by
  obtain ⟨a, xs, e, ⟨o, ho, hc, n, hd⟩, i⟩ := tupInts_of x
  obtain ⟨p, q, t, u, e2⟩ := ints_two i l
  have e3 : xs = #[.int p t, .int q u] := by rw [← xs.toArray_toList, e2]
  rw [e3] at hd
  exact ⟨p, q, a, o, t, u, n, e, ho, hc, hd⟩
theorem sorted_set2 {a : Addr} {L : List (Addr × List Int)} {es : Array (Int × Value)} {ep : Nat} {t : SetTable} {Q : Value → Shared → Prop} (R : SetTR P w s.heap a L es ep t) (hh : A.handled = none) (two : ∀ p ∈ L, p.2.length = 2)
    (hQ : ∀ s' p (out : List Value) (c : Nat), (∀ b o, s.heap.get? b = some o → s'.heap.get? b = some o) → s'.gens = s.gens → s'.os = s.os → s.heap.objs.size ≤ p →
      s'.heap.get? p = some (seqObj "list" out.toArray c) → (L.map fun q => Value.ref q.1).Perm out → Q (.ref p) s') :
    wpAny (model P w) A (call (.builtin "sorted") [.ref a]) Q E s := by
  obtain ⟨o, ho, hex, hd⟩ := R.ob
  have few := R.few
  have size := R.size
  refine Calls.call_function_entry kind_sorted plain_sorted entry_sorted (args_sorted1 _) ?_
  unfold Builtin.«sorted»
  refine wpAny_bind (m := checkCount "sorted" 1 1 _) (wpAny_pure ?_)
  refine wpAny_bind (collect_set (A := A.in1) hh ⟨o, ho, hex.1, hd⟩ R.fits (by unfold scanBound; omega) R.tab.ris R.led fun s1 vs keep grow g1 o1 pm => ?_)
  have rows : es.toList.map (·.2) = L.map fun q => Value.ref q.1 := by
    rw [R.rows]
    unfold rowsOf
    rw [List.map_map] <;> rfl
  rw [rows] at pm
  have hv : vs.length < 64 := by rw [pm.length_eq, List.length_map]; exact few
  have hz : vs.length ≤ sizeLine := by rw [sizeLine_eq]; omega
  refine wpAny_bind (wpAny_newList ?_ hz)
  have at1 : (s1.heap.push (seqObj "list" vs.toArray 0)).get? s1.heap.objs.size = some (seqObj "list" vs.toArray 0) := Heap.get?_push_size _ rfl
  have more : ∀ b u, s.heap.get? b = some u → (s1.heap.push (seqObj "list" vs.toArray 0)).get? b = some u := fun b u e => Heap.get?_push_of_some _ (keep b u e)
  have ps : ∀ v ∈ vs, ∃ i j, IsPair (s1.heap.push (seqObj "list" vs.toArray 0)) v i j := fun v hv => by
    obtain ⟨q, hq, e⟩ := List.mem_map.mp (pm.mem_iff.mp hv)
    obtain ⟨i, j, p⟩ := isPair_of (R.tup q hq) (two q hq)
    rw [← e]
    exact ⟨i, j, p.keeps fun b u h _ => more b u h⟩
  refine wpAny_bind (wpAny_holding (wpAny_call_entry slot_list_sort ⟨_, at1, rfl⟩ entry_list_sort (list_sort_any (s := { s1 with heap := s1.heap.push (seqObj "list" vs.toArray 0) }) at1 hz
    (fun h2 => pairs_sortable (by omega) ps (fun u hu c => ?_)) fun out po => ⟨_, rfl, ?_⟩) (args_list_sort _)))
  · rw [show (s1.heap.push (seqObj "list" vs.toArray 0)).get? s1.heap.objs.size = some u from hu] at at1
    cases at1
    exact absurd (Value.type.inj c) (by decide)
  obtain ⟨c, hc⟩ := sortedHeap_at (vs := vs) (out := out.toArray) at1
  refine wpAny_pure ⟨_, rfl, hQ _ s1.heap.objs.size out c (fun b u e => ?_) g1 o1 grow hc (po.trans pm).symm⟩
  have lt := Heap.lt_size (keep b u e)
  show (sortedHeap (s1.heap.push (seqObj "list" vs.toArray 0)) s1.heap.objs.size vs out.toArray).get? b = some u
  rw [sortedHeap_old (Nat.ne_of_lt lt) (by rw [size_push']; exact Nat.lt_succ_of_lt lt)]
  exact more b u e
end
section
variable {X : Cx}
/-- sorted(set) of pairs: a new list of the same pairs, none twice -/
def rSortedS2 (K : PySem.W.Frag) (P : Program) (w : World) : List V → Hp → VK → Prop := fun vs H Q => ∃ (a : Addr) (L : List (Addr × List Int)), vs = [V.ref a] ∧ H a = some (SetTO P w a L) ∧ (∀ p ∈ L, SqT K H p.1 (p.2.map V.int)) ∧
  (∀ p ∈ L, p.2.length = 2) ∧
  ∀ (M : List (Addr × List Int)) (p : Addr), M.Perm L → (M.map (·.2)).Nodup → M.length < 64 → H p = none → Q (.ref p) (upd H p (.lst (M.map fun q => V.ref q.1)))
theorem cr_sortedS2 (hc : X.calm = true) : CallR X (.builtin "sorted") (rSortedS2 X.K X.prog X.w) := by
  intro pins s σ H vs us Q I r h
  obtain ⟨a, L, rfl, ha, hk, two, q⟩ := h
  have R0 : SetT0 X.prog X.w s.heap a L := (I.hok a _ ha).1
  obtain ⟨es, ep, t, R⟩ := R0.full fun p hp => I.isT (hk p hp)
  rw [Vals.ref1 r]
  refine sorted_set2 R (I.ok.hd hc) two fun s' p out c k g o hp hg pm => ?_
  obtain ⟨M, rfl, pM⟩ := perm_of_map pm L rfl
  have few : M.length < 64 := by rw [pM.length_eq]; exact R.few
  have len : (M.map fun q => V.ref q.1).length ≤ sizeLine := by rw [List.length_map, sizeLine_eq]; omega
  have fresh : H p = none := I.hok.fresh hp
  have e : s' = { s with heap := s'.heap, gens := s'.gens, drawn := s'.drawn, toks := s'.toks } := by
    cases s'
    cases s
    cases o
    rfl
  rw [e]
  refine ⟨.ref p, _, ?_, rfl, q M p pM ((pM.map (·.2)).nodup_iff.mpr R.nd) few fresh⟩
  exact I.call (ch := []) (Un.laid k hp fresh) (I.hok.laid k hp ⟨len, _, c, vals_of_refs M, hg⟩) (by rw [g]; exact I.bare) (fun _ z => nomatch z)
end
end Kg
/-! Kg8: pairs in their order: one more put at the count of the lesser ones; one order, one list. -/
namespace Kg
/-- lexically less -/
def pLt (a b : Int × Int) : Prop := a.1 < b.1 ∨ (a.1 = b.1 ∧ a.2 < b.2)
instance (a b : Int × Int) : Decidable (pLt a b) := by unfold pLt; exact inferInstance
theorem pLt_trans {a b c : Int × Int} (h : pLt a b) (g : pLt b c) : pLt a c := by
  unfold pLt at *
  omega
theorem pLt_irrefl {a : Int × Int} : ¬ pLt a a := by
  unfold pLt
  omega
theorem pLt_or {a b : Int × Int} (n : a ≠ b) (h : ¬ pLt a b) : pLt b a := by
  unfold pLt at *
  obtain ⟨a1, a2⟩ := a
  obtain ⟨b1, b2⟩ := b
  have : ¬ (a1 = b1 ∧ a2 = b2) := fun ⟨x, y⟩ => n (by rw [x, y])
  dsimp only at *
  omega
def below (z : Int × Int) (L : List (Int × Int)) : Nat := (L.filter fun a => decide (pLt a z)).length
def putIn (z : Int × Int) (L : List (Int × Int)) : List (Int × Int) := L.take (below z L) ++ [z] ++ L.drop (below z L)
theorem below_le (z : Int × Int) (L : List (Int × Int)) : below z L ≤ L.length := List.length_filter_le _ _
theorem putIn_cons_lt {z a : Int × Int} {L : List (Int × Int)} (h : pLt a z) : putIn z (a :: L) = a :: putIn z L := by
  unfold putIn below
  rw [List.filter_cons_of_pos (by simpa using h)]
  simp
theorem below_none {z : Int × Int} {L : List (Int × Int)} (h : ∀ b ∈ L, ¬ pLt b z) : below z L = 0 := by
  unfold below
  rw [List.filter_eq_nil_iff.mpr (fun b hb => by simpa using h b hb)]
  rfl
theorem putIn_front {z : Int × Int} {L : List (Int × Int)} (h : ∀ b ∈ L, ¬ pLt b z) : putIn z L = z :: L := by
  unfold putIn
  rw [below_none h]
  simp
theorem putIn_mem {z b : Int × Int} {L : List (Int × Int)} : b ∈ putIn z L ↔ b = z ∨ b ∈ L := by
  unfold putIn
  rw [List.mem_append, List.mem_append, List.mem_singleton]
  constructor
  · rintro ((h | h) | h)
    · exact .inr (List.mem_of_mem_take h)
    · exact .inl h
    · exact .inr (List.mem_of_mem_drop h)
  · rintro (h | h)
    · exact .inl (.inr h)
    · rw [← List.take_append_drop (below z L) L, List.mem_append] at h
      exact h.imp .inl id
theorem putIn_sorted {z : Int × Int} : ∀ {L : List (Int × Int)}, L.Pairwise pLt → z ∉ L → (putIn z L).Pairwise pLt
  | [], _, _ => by simp [putIn, below]
  | a :: L, h, nz => by
    obtain ⟨h1, h2⟩ := List.pairwise_cons.mp h
    have na : z ≠ a := fun e => nz (e ▸ List.mem_cons_self)
    by_cases c : pLt a z
    · rw [putIn_cons_lt c]
      refine List.pairwise_cons.mpr ⟨fun b hb => ?_, putIn_sorted h2 fun m => nz (List.mem_cons_of_mem _ m)⟩
      rcases putIn_mem.mp hb with rfl | hb
      · exact c
      · exact h1 b hb
    · have za : pLt z a := pLt_or (fun e => na e.symm) c
      rw [putIn_front fun b hb g => by
        rcases List.mem_cons.mp hb with rfl | hb
        · exact c g
        · exact pLt_irrefl (pLt_trans g (pLt_trans za (h1 b hb)))]
      refine List.pairwise_cons.mpr ⟨fun b hb => ?_, h⟩
      rcases List.mem_cons.mp hb with rfl | hb
      · exact za
      · exact pLt_trans za (h1 b hb)
theorem putIn_perm (z : Int × Int) (L : List (Int × Int)) : (putIn z L).Perm (z :: L) := by
  unfold putIn
  refine (List.perm_append_comm.append_right _).trans ?_
  rw [List.append_assoc, List.take_append_drop]
  exact List.Perm.refl _
/-- one order, one list -/
theorem sorted_one : ∀ {L M : List (Int × Int)}, L.Pairwise pLt → M.Pairwise pLt → L.Perm M → L = M
  | [], M, _, _, p => (List.Perm.nil_eq p)
  | a :: L, [], _, _, p => absurd p.length_eq (by simp)
  | a :: L, b :: M, hL, hM, p => by
    obtain ⟨l1, l2⟩ := List.pairwise_cons.mp hL
    obtain ⟨m1, m2⟩ := List.pairwise_cons.mp hM
    have e : a = b := by
      have h1 := p.mem_iff.mp (List.mem_cons_self : a ∈ a :: L)
      have h2 := p.mem_iff.mpr (List.mem_cons_self : b ∈ b :: M)
      rcases List.mem_cons.mp h1 with h1 | h1
      · exact h1
      · rcases List.mem_cons.mp h2 with h2 | h2
        · exact h2.symm
        · exact absurd (pLt_trans (l1 b h2) (m1 a h1)) pLt_irrefl
    subst e
    rw [sorted_one l2 m2 ((List.perm_cons a).mp p)]
end Kg
/-! Kg13: dict comprehensions whose keys are tuples. -/
namespace Kg
open PySem PySem.Spec PyProof.Rows L2
section
variable {X : Cx}
theorem dictSetT_ok {pins : List (Addr × Obj)} {σ : L2.St} {H : Hp} {s : Shared} {E : Value → Shared → Prop} {D t : Addr} {kvs : List (List L2.Key × V)} {k : List L2.Key} {v : V} {r : Value} {Q : Unit → Shared → Prop}
    (I : Inv X pins σ H s) (hu : X.A.units + 1 < cLine) (hD : H D = some (.dT kvs)) (few : kvs.length < sizeLine) (hb : H t = some (.tup (k.map kV))) (rv : RelV v r)
    (h : ∀ s', Inv X pins σ (upd H D (.dT (putK kvs k v))) s' → Q () s') : wpAny (model X.prog X.w) X.A (dictSet D (.ref t) r) Q E s := by
  obtain ⟨z, sys, xs, rel, dd⟩ := dt_of I.hok hD
  have lx : xs.length ≤ sizeLine := Paired.length rel ▸ z
  have lp : (putK kvs k v).length ≤ sizeLine := by have := length_putK kvs k v; omega
  refine wpAny_dictSet_heap (hsz := lx) (Nat.lt_of_le_of_lt (Nat.le_succ _) hu) (key_of I.hok hb) dd ?_
  intro h' dd' sb
  refine h _ ?_
  obtain ⟨q, es, ep, hq, c2, c3, c4, _, c5⟩ := dd'
  refine d_write I (by rw [hD]; exact True.intro) sb ⟨q, hq⟩ ⟨lp, sys, _, (rel.put k hb rv).keeps ?_, q, es, ep, hq, c2, c3, c4, c5⟩
  intro c ys ec
  rw [upd_ne (ne_of ec hD fun z => nomatch z)]
  exact ec
/-- the reading: D the new dict -/
def tDcT (wi : TI) (g : TG) (tt : TT) (tk tv : TE) (vs : List Nat) : TE := fun σ H Q => wi σ H fun J H1 =>
  ∀ D, H1 D = none → ∃ W : Nat → Nat → Hp → Prop, (∃ m, W 0 m (upd H1 D (.dT []))) ∧
    ∀ i m H, W i m H → (J.stop i H ∧ Q (.ref D) H) ∨
      (J.go i H ∧ ∃ Nx : Hp → Prop, (∀ H', Nx H' → ∃ m', m' < m ∧ W (i + 1) m' H') ∧
        ∀ x H', J.yld i H x H' → g x (wipe σ vs) H' fun σ2 H2 => wipe σ2 vs = wipe σ vs ∧ tt σ2 H2 fun b H3 =>
          if b = true then tk σ2 H3 fun y H4 => tv σ2 H4 fun z H5 => ∃ (t : Addr) (k : List L2.Key) (kvs : List (List L2.Key × V)), y = .ref t ∧ H5 t = some (.tup (k.map kV)) ∧
            H5 D = some (.dT kvs) ∧ kvs.length < sizeLine ∧ Nx (upd H5 D (.dT (putK kvs k z)))
          else Nx H3)
theorem dcT_core {pins : List (Addr × Obj)} {s : Shared} {σ : L2.St} {H : Hp} {Q : VK} {kx vx tg iter : Expr} {ifs : List Expr} {sc : Scope} {ow : List (PySem.Str × Nat)} {pos pos' : Pos} {wi : TI} {g : TG} {tt : TT} {tk tv : TE}
    {use : Option (Value → Sem Unit)} {Qf : Value → Shared → Prop} (hu : X.A.units + 1 < cLine) (hc : X.calm = true) (hN : X.N.Nodup) (I : Inv X pins σ H s)
    (hi : PI X tg iter wi) (ok : BlkOk X.N X.env.scope sc ow)
    (pgs : ∀ (s : Shared) (H : Hp) (C : Addr) (cl : List (PySem.Str × Addr)) (fp : List Addr), PG (X.blk s H sc (compEnvC sc cl C X.env) fp) tg g)
    (pts : ∀ (s : Shared) (H : Hp) (C : Addr) (cl : List (PySem.Str × Addr)) (fp : List Addr), PTs (X.blk s H sc (compEnvC sc cl C X.env) fp) ifs tt)
    (pks : ∀ (s : Shared) (H : Hp) (C : Addr) (cl : List (PySem.Str × Addr)) (fp : List Addr), PE (X.blk s H sc (compEnvC sc cl C X.env) fp) kx tk)
    (pvs : ∀ (s : Shared) (H : Hp) (C : Addr) (cl : List (PySem.Str × Addr)) (fp : List Addr), PE (X.blk s H sc (compEnvC sc cl C X.env) fp) vx tv)
    (hs : ∀ x, foldedSetIterable iter X.env x = pure x) (h : tDcT wi g tt tk tv (ow.map (·.2)) σ H Q)
    (fine : ∀ D C s' m H', Inv X pins σ H' s' → Q (.ref D) H' → s'.heap.Ns C m → FpOk X pins H' C →
      compPost (model X.prog X.w) X.A X.xe use Qf (.ref D) C (.ok .next) s') :
    wpAny (model X.prog X.w) X.A (comprehension (.DictComp kx vx [⟨tg, iter, ifs, 0⟩] sc pos) sc X.env pos' newDict false (eval iter X.env) use) Qf X.xe s := by
  have frees : ∀ y ∈ sc.names, y.2 = .free → ∃ c, X.env.cells.lookup y.1 = some c := by
    intro y hy e
    rcases ok.free y hy e with z | z
    · exact I.ok.has _ (.inl z)
    · exact I.ok.has _ (.inr z)
  refine wpAny_comprehension_free (use := use) rfl hs (closure_ok frees) ok.kind (fun y hy e => by rw [ok.uniq y hy, e]) ?_
  refine thn (hi.run pins s σ H _ I h) ?_
  intro xv s1 hx
  refine thn hx ?_
  rintro itv s2 ⟨it, fp, tn, J, H2, e, I2, T, st2, f2, q⟩
  subst e
  refine wpAny_newObj_type (newEnv_comp ?_)
  generalize hD : s2.heap.objs.size = D
  obtain ⟨W, ⟨m0, w0⟩, turn⟩ := q D (I2.hok.fresh (Nat.le_of_eq hD))
  generalize hs3 : ({ s2 with heap := s2.heap.push { cls := .type "dict", data := .dict #[] } } : Shared) = s3
  have h3 : s3.heap = s2.heap.push { cls := .type "dict", data := .dict #[] } := by rw [← hs3]
  have I3 : Inv X pins σ (upd H2 D (.dT [])) s3 := by
    rw [← hs3]
    refine I2.laid (t' := s2.toks) (fun b o e => Heap.get?_push_of_some _ e) (Nat.le_of_eq hD) ?_
    rw [← hD]
    exact dt_empty s2.heap I2.big
  have szs : ∀ b ∈ fp, b < s2.heap.objs.size := by
    intro b hb
    obtain ⟨o, e, _⟩ := T.obj _ _ st2 b hb
    exact Heap.lt_size e
  have f3 : ∀ b ∈ fp, FpOk X pins (upd H2 D (.dT [])) b ∧ b < s3.heap.objs.size := by
    intro b hb
    have lt := szs b hb
    refine ⟨⟨?_, (f2 b hb).2⟩, by rw [h3, Heap.size_push]; exact Nat.lt_succ_of_lt lt⟩
    rw [upd_ne (hD ▸ Nat.ne_of_lt lt)]
    exact (f2 b hb).1
  have st3 : tn 0 s3.heap := T.keep _ _ _ st2 fun b _ o e => h3 ▸ Heap.get?_push_of_some _ e
  have I4 := block_start I3 ok hN f3
  have pg := pgs s3 (upd H2 D (.dT [])) s3.heap.objs.size (cellsFrom (s3.heap.objs.size + 1) sc.names (cloFrom X.env.cells sc.names [])) fp
  have pt := pts s3 (upd H2 D (.dT [])) s3.heap.objs.size (cellsFrom (s3.heap.objs.size + 1) sc.names (cloFrom X.env.cells sc.names [])) fp
  have pk := pks s3 (upd H2 D (.dT [])) s3.heap.objs.size (cellsFrom (s3.heap.objs.size + 1) sc.names (cloFrom X.env.cells sc.names [])) fp
  have pv := pvs s3 (upd H2 D (.dT [])) s3.heap.objs.size (cellsFrom (s3.heap.objs.size + 1) sc.names (cloFrom X.env.cells sc.names [])) fp
  show codeAny _ _ (.compStart (.DictComp kx vx [⟨tg, iter, ifs, 0⟩] sc pos) 0 (.ref it) (.ref D)
      (compEnvC sc (cellsFrom (s3.heap.objs.size + 1) sc.names (cloFrom X.env.cells sc.names [])) s3.heap.objs.size X.env))
    (compPost (model X.prog X.w) X.A X.xe use Qf (.ref D) s3.heap.objs.size)
    { s3 with heap := pushCells (s3.heap.push { cls := .type "dict", data := .dict #[] }) sc.names }
  have nfp : ∀ b ∈ fp, (upd H2 D (.dT [])) b = none := fun b hb => (f3 b hb).1.1
  generalize hce : compEnvC sc (cellsFrom (s3.heap.objs.size + 1) sc.names (cloFrom X.env.cells sc.names [])) s3.heap.objs.size X.env = ce at I4 pg pt pk pv ⊢
  have cL : ce.locals = s3.heap.objs.size := hce ▸ rfl
  generalize hH3 : upd H2 D (.dT []) = H3 at I3 I4 pg pt pk pv w0 nfp f3
  generalize hs4 : ({ s3 with heap := pushCells (s3.heap.push { cls := .type "dict", data := .dict #[] }) sc.names } : Shared) = s4 at I4 ⊢
  have st4 : tn 0 s4.heap := T.keep _ _ _ st3 fun b _ o e => hs4 ▸ pushCells_keeps _ _ _ _ (Heap.get?_push_of_some _ e)
  have stat : ∀ {σ' : L2.St} {H' : Hp} {s' : Shared}, Inv (X.blk s3 H3 sc ce fp) [] σ' H' s' → (∀ b ∈ fp, H' b = none) →
      ∀ b ∈ fp, FpOk (X.blk s3 H3 sc ce fp) [] H' b := by
    intro σ' H' s' J' hn b hb
    exact ⟨hn b hb, (J'.ok.exf b hb).1, J'.ok.exfs b hb, .inl hb, fun x c e => (J'.ok.exf b hb).2 x c e,
      fun p hp => absurd (show p ∈ ([] : List (Addr × Obj)) ++ [] from hp) (by simp)⟩
  have loop : codeAny (model X.prog X.w) X.A (.compLoop (.DictComp kx vx [⟨tg, iter, ifs, 0⟩] sc pos) 0 (.ref it) (.ref D) ce)
      (compPost (model X.prog X.w) X.A X.xe use Qf (.ref D) s3.heap.objs.size) s4 := by
    refine compLoop_anyD (fun n s' => ∃ i H', Inv (X.blk s3 H3 sc ce fp) [] (wipe σ (ow.map (·.2))) H' s' ∧
      tn i s'.heap ∧ (∀ b ∈ fp, H' b = none) ∧ W i n H') ?_ m0 ⟨0, H3, I4, st4, nfp, w0⟩
    rintro n s5 ⟨i, H5, I5, st5, n5, w5⟩
    rcases turn i n H5 w5 with ⟨stop, qq⟩ | ⟨go, Nx, hNx, step⟩
    · refine thnF (T.done (X.blk s3 H3 sc ce fp) rfl rfl rfl hc i [] s5 _ H5 (fun _ _ => False) I5 (stat I5 n5) st5 stop) ?_
      rintro r s6 ⟨hr, I6⟩
      subst hr
      have I7 : Inv X pins σ H5 s6 := I3.call' (ch := fp) I6.os I6.base I6.hok I6.bare fun b hb =>
        ⟨(f3 b hb).1.2.2.2.1, (f3 b hb).1.2.1, (f3 b hb).1.2.2.2.2.1, (f3 b hb).1.2.2.2.2.2⟩
      have nC : H5 s3.heap.objs.size = none := cL ▸ (show H5 ce.locals = none from I6.free)
      obtain ⟨m, hn, _⟩ := I6.loc
      have hn : s6.heap.Ns ce.locals m := hn
      rw [cL] at hn
      exact fine D s3.heap.objs.size s6 m H5 I7 qq hn (I3.fpOk (Nat.le_refl _) nC)
    · refine thnF (T.item (X.blk s3 H3 sc ce fp) rfl rfl rfl hc i [] s5 _ H5 (fun _ _ => False) I5 (stat I5 n5) st5 go) ?_
      rintro r s6 ⟨u, hr, h6⟩
      subst hr
      refine thnF h6 ?_
      rintro _ s7 ⟨x, H7, I7, r7, y7, st7, n7⟩
      refine thnF (pg.run _ s7 _ H7 x u _ (I7.pinned (stat I7 n7) (T.obj _ _ st7)) r7 (step x H7 y7)) ?_
      rintro _ s8 ⟨σ8, H8, I8, hw8, q8⟩
      refine thnF (pt.run _ s8 σ8 H8 _ I8 q8) ?_
      rintro b s9 ⟨H9, I9, q9⟩
      have fin : ∀ {s' : Shared} {H' : Hp}, Inv (X.blk s3 H3 sc ce fp) ([] ++ pinsAt fp s7.heap) σ8 H' s' → Nx H' →
          ∃ m, m < n ∧ ∃ i H', Inv (X.blk s3 H3 sc ce fp) [] (wipe σ (ow.map (·.2))) H' s' ∧ tn i s'.heap ∧ (∀ b ∈ fp, H' b = none) ∧ W i m H' := by
        intro s' H' J' nx
        obtain ⟨m', hm, w'⟩ := hNx H' nx
        have pin' : ∀ b ∈ fp, ∀ o, s7.heap.get? b = some o → s'.heap.get? b = some o ∧ H' b = none := by
          intro b hb o e
          have z := J'.pin (b, o) (List.mem_append_right _ (List.mem_append_right _ (mem_pinsAt hb e)))
          exact ⟨z.1, z.2.1⟩
        have hl : (wipe σ (ow.map (·.2))).length = σ8.length := by rw [← hw8, wipe_length]
        refine ⟨m', hm, i + 1, H', (J'.unpinned (pins := [])).weak hl ?_, T.keep _ _ _ st7 fun b hb o e => (pin' b hb o e).1, ?_, w'⟩
        · intro j v e
          rw [← hw8] at e
          exact (wipe_some e).1
        · intro b hb
          obtain ⟨o, e, _⟩ := T.obj _ _ st7 b hb
          exact (pin' b hb o e).2
      cases b with
      | false =>
        simp only [Bool.false_eq_true, if_false] at q9 ⊢
        exact fin I9 q9
      | true =>
        simp only [if_true] at q9 ⊢
        refine thnF (pk.run _ s9 σ8 H9 _ I9 q9) ?_
        rintro z s10 ⟨yk, H10, I10, r10, q10⟩
        refine thnF (pv.run _ s10 σ8 H10 _ I10 q10) ?_
        rintro z2 s11 ⟨yv, H11, I11, r11, t, k, kvs, ey, ht, hD11, few, nx⟩
        subst ey
        cases (show z = Value.ref t from r10)
        exact dictSetT_ok (X := X.blk s3 H3 sc ce fp) I11 hu hD11 few ht r11 fun s12 I12 => fin I12 nx
  exact codeAny_compStart_dict loop (T.self X.A 0 _ _ _ st4 loop)
/-- {x: v for x in xs}, x a tuple, a value -/
theorem pe_dcT {kx vx tg iter : Expr} {ifs : List Expr} {sc : Scope} {ow : List (PySem.Str × Nat)} {pos : Pos} {wi : TI} {g : TG} {tt : TT} {tk tv : TE} (hu : X.A.units + 1 < cLine) (hc : X.calm = true) (hN : X.N.Nodup)
    (hi : PI X tg iter wi) (ok : BlkOk X.N X.env.scope sc ow)
    (pgs : ∀ (s : Shared) (H : Hp) (C : Addr) (cl : List (PySem.Str × Addr)) (fp : List Addr), PG (X.blk s H sc (compEnvC sc cl C X.env) fp) tg g)
    (pts : ∀ (s : Shared) (H : Hp) (C : Addr) (cl : List (PySem.Str × Addr)) (fp : List Addr), PTs (X.blk s H sc (compEnvC sc cl C X.env) fp) ifs tt)
    (pks : ∀ (s : Shared) (H : Hp) (C : Addr) (cl : List (PySem.Str × Addr)) (fp : List Addr), PE (X.blk s H sc (compEnvC sc cl C X.env) fp) kx tk)
    (pvs : ∀ (s : Shared) (H : Hp) (C : Addr) (cl : List (PySem.Str × Addr)) (fp : List Addr), PE (X.blk s H sc (compEnvC sc cl C X.env) fp) vx tv)
    (hs : ∀ x, foldedSetIterable iter X.env x = pure x := by intro _; rfl) :
    PE X (.DictComp kx vx [⟨tg, iter, ifs, 0⟩] sc pos) (tDcT wi g tt tk tv (ow.map (·.2))) := by
  constructor
  intro pins s σ H Q I h
  rw [arm_eval_DictComp]
  refine dcT_core hu hc hN I hi ok pgs pts pks pvs hs h ?_
  intro D C s' m H' I' q hn f
  refine ⟨m, hn, ?_⟩
  intro h'' sb
  obtain ⟨f0, f1, _, f3, f4, f5⟩ := f
  exact ⟨.ref D, H', I'.turned (t' := s'.toks) (fun b o hb e => (sb.2 b hb).trans e) f0 f1 f3 f4 f5, rfl, q⟩
/-- its turns over a tuple that stands -/
theorem dcT_tup {K : PySem.W.Frag} {a : Addr} {xs : List V} {g : TG} {tt : TT} {tk tv : TE} {vs : List Nat} {σ : L2.St} {H1 : Hp} {D : Addr} {Qd : Hp → Prop} (Pv : Nat → Hp → Prop)
    (h0 : Pv 0 (upd H1 D (.dT []))) (stands : ∀ i H, i ≤ xs.length → Pv i H → SqT K H a xs)
    (hs : ∀ i x H, xs[i]? = some x → Pv i H → g x (wipe σ vs) H fun σ2 H2 => wipe σ2 vs = wipe σ vs ∧ tt σ2 H2 fun b H3 =>
      if b = true then tk σ2 H3 fun y H4 => tv σ2 H4 fun z H5 => ∃ (t : Addr) (k : List L2.Key) (kvs : List (List L2.Key × V)), y = .ref t ∧ H5 t = some (.tup (k.map kV)) ∧
        H5 D = some (.dT kvs) ∧ kvs.length < sizeLine ∧ Pv (i + 1) (upd H5 D (.dT (putK kvs k z)))
      else Pv (i + 1) H3) (hd : ∀ H, Pv xs.length H → Qd H) :
    ∃ W : Nat → Nat → Hp → Prop, (∃ m, W 0 m (upd H1 D (.dT []))) ∧
      ∀ i m H, W i m H → ((Itt K a).stop i H ∧ Qd H) ∨
        ((Itt K a).go i H ∧ ∃ Nx : Hp → Prop, (∀ H', Nx H' → ∃ m', m' < m ∧ W (i + 1) m' H') ∧
          ∀ x H', (Itt K a).yld i H x H' → g x (wipe σ vs) H' fun σ2 H2 => wipe σ2 vs = wipe σ vs ∧ tt σ2 H2 fun b H3 =>
            if b = true then tk σ2 H3 fun y H4 => tv σ2 H4 fun z H5 => ∃ (t : Addr) (k : List L2.Key) (kvs : List (List L2.Key × V)), y = .ref t ∧ H5 t = some (.tup (k.map kV)) ∧
              H5 D = some (.dT kvs) ∧ kvs.length < sizeLine ∧ Nx (upd H5 D (.dT (putK kvs k z)))
            else Nx H3) := by
  refine ⟨fun i m H => m = xs.length - i ∧ i ≤ xs.length ∧ Pv i H, ⟨xs.length, by simp, Nat.zero_le _, h0⟩, ?_⟩
  rintro i m H ⟨rfl, hi, p⟩
  have here := stands i H hi p
  by_cases lt : i < xs.length
  · refine .inr ⟨⟨xs, xs[i], here, by simp [lt]⟩, Pv (i + 1), fun H' p' => ⟨xs.length - (i + 1), by omega, rfl, lt, p'⟩, ?_⟩
    rintro x H' ⟨e, y⟩
    subst e
    exact hs i x _ (y xs here) p
  · obtain rfl : i = xs.length := by omega
    exact .inl ⟨⟨xs, here, Nat.le_refl _⟩, hd H p⟩
end
section
variable {X : Cx}
theorem sw_dict {kx vx : Expr} {gs : List Comprehension} {sc : Scope} {pos py : Pos} {y : Str} {l : Nat} {env : Env} (fn : env.scope.kind = .function) (loc : env.scope.names.lookup y = some .local) (row : (py.line == pos.line) = true)
    (ext : (sc.names.any fun (n, k) => n == y && (k == .local || k == .cell)) = false) : swapsWith (.DictComp kx vx gs sc pos) (some (.Name y py)) l env = pure true := by
  have e1 : env.kindOf y = some .local := loc
  have e2 : env.blockKind = .function := by unfold Env.blockKind; rw [fn]; rfl
  unfold swapsWith
  simp only [e2, e1, ext, Expr.pos, row]
  rfl
/-- y = {x: v for x in xs}, x a tuple -/
theorem ps_setDcT {i : Nat} {y : Str} {py spos : Pos} {kx vx tg iter : Expr} {ifs : List Expr} {sc : Scope} {ow : List (PySem.Str × Nat)} {pos : Pos} {wi : TI} {g : TG} {tt : TT} {tk tv : TE} (hu : X.A.units + 1 < cLine) (hc : X.calm = true) (hN : X.N.Nodup)
    (at_ : X.N[i]? = some y) (loc : X.env.scope.names.lookup y = some .local) (sw : swapsWith (.DictComp kx vx [⟨tg, iter, ifs, 0⟩] sc pos) (some (.Name y py)) spos.line X.env = pure true)
    (hi : PI X tg iter wi) (ok : BlkOk X.N X.env.scope sc ow)
    (pgs : ∀ (s : Shared) (H : Hp) (C : Addr) (cl : List (PySem.Str × Addr)) (fp : List Addr), PG (X.blk s H sc (compEnvC sc cl C X.env) fp) tg g)
    (pts : ∀ (s : Shared) (H : Hp) (C : Addr) (cl : List (PySem.Str × Addr)) (fp : List Addr), PTs (X.blk s H sc (compEnvC sc cl C X.env) fp) ifs tt)
    (pks : ∀ (s : Shared) (H : Hp) (C : Addr) (cl : List (PySem.Str × Addr)) (fp : List Addr), PE (X.blk s H sc (compEnvC sc cl C X.env) fp) kx tk)
    (pvs : ∀ (s : Shared) (H : Hp) (C : Addr) (cl : List (PySem.Str × Addr)) (fp : List Addr), PE (X.blk s H sc (compEnvC sc cl C X.env) fp) vx tv)
    (hs : ∀ x, foldedSetIterable iter X.env x = pure x := by intro _; rfl) :
    PS X (.Assign [.Name y py] (.DictComp kx vx [⟨tg, iter, ifs, 0⟩] sc pos) spos) (tAsg (tDcT wi g tt tk tv (ow.map (·.2))) (gName i)) := by
  constructor
  intro pins s σ H D I h
  rw [exec_Assign_Name_used _ _ _ _ sw]
  have h' : tDcT wi g tt tk tv (ow.map (·.2)) σ H (fun x H1 => gName i x σ H1 D.nx) := h
  refine wpAny_bind (wpAny_standAt (wpAny_bind ?_))
  show wpAny _ X.A (do
    let _ ← comprehension (.DictComp kx vx [⟨tg, iter, ifs, 0⟩] sc pos) sc X.env (firstIterPos [⟨tg, iter, ifs, 0⟩] pos) newDict false (eval iter X.env) (some (assign (.Name y py) X.env))) _ _ s
  refine wpAny_bind (thn (dcT_core (Qf := fun _ s' => SP X pins D .next s') hu hc hN I hi ok pgs pts pks pvs hs h' ?_) fun _ s' z => wpAny_pure (wpAny_pure z))
  intro L C s' m H' I' q hn f
  show wpAny _ _ (assign (.Name y py) X.env (.ref L)) _ _ _
  refine wpAny_assign_Name (store_ok2 (v := .ref L) I' hN at_ (.inl loc) rfl ?_ (.inr loc))
  rintro s2 I2 ⟨a, sb, there⟩
  obtain ⟨f0, f1, _, f3, f4, f5⟩ := f
  have apart : C ≠ a := there.elim (fun z => z ▸ f1) fun z e => f4 y a z e.symm
  refine ⟨m, hn.sameBut sb apart, ?_⟩
  intro h3 sb3
  exact ⟨_, H', I2.turned (t' := s2.toks) (fun b o hb e => (sb3.2 b hb).trans e) f0 f1 f3 f4 f5, q⟩
end
end Kg
/-! Kg14: what a dict of squares holds. -/
namespace Kg
open PySem PySem.Spec PyProof.Rows L2
section
variable {X : Cx}
def rInDT : R2 := fun x y H Q => ∃ (b a : Addr) (k : List L2.Key) (kvs : List (List L2.Key × V)), x = .ref b ∧ y = .ref a ∧ H a = some (.dT kvs) ∧ H b = some (.tup (k.map kV)) ∧ Q (.bl (valV kvs k).isSome) H
def rNotInDT : R2 := fun x y H Q => ∃ (b a : Addr) (k : List L2.Key) (kvs : List (List L2.Key × V)), x = .ref b ∧ y = .ref a ∧ H a = some (.dT kvs) ∧ H b = some (.tup (k.map kV)) ∧ Q (.bl (!(valV kvs k).isSome)) H
theorem op_inDT (hu : X.A.units + 1 < cLine) : OpR X (compareOp .In) rInDT := by
  intro pins s σ H x y v u Q I rx ry h
  obtain ⟨b, a, k, kvs, rfl, rfl, ha, hb, q⟩ := h
  cases (show u = Value.ref a from ry)
  exact d_in hu I (DGet.t ha hb) rx fun s3 I3 => ⟨.bl _, H, I3, rfl, q⟩
theorem op_notInDT (hu : X.A.units + 1 < cLine) : OpR X (compareOp .NotIn) rNotInDT := by
  intro pins s σ H x y v u Q I rx ry h
  obtain ⟨b, a, k, kvs, rfl, rfl, ha, hb, q⟩ := h
  cases (show u = Value.ref a from ry)
  exact d_notIn hu I (DGet.t ha hb) rx fun s3 I3 => ⟨.bl _, H, I3, rfl, q⟩
end
def keyS (z : Int × Int) : List L2.Key := [.inl z.1, .inl z.2]
theorem keyS_inj {z u : Int × Int} : keyS z = keyS u ↔ z = u := by
  obtain ⟨a, b⟩ := z
  obtain ⟨c, d⟩ := u
  simp [keyS]
theorem keyS_kV (z : Int × Int) : (keyS z).map kV = [.int z.1, .int z.2] := rfl
/-- the dict whose keys are these squares -/
def sqD (zs : List (Int × Int)) : List (List L2.Key × V) := zs.map fun z => (keyS z, .bl true)
theorem sqD_val (z : Int × Int) : ∀ zs : List (Int × Int), (valV (sqD zs) (keyS z)).isSome = decide (z ∈ zs)
  | [] => rfl
  | u :: zs => by
    have ih := sqD_val z zs
    unfold valV sqD at ih ⊢
    rw [List.map_cons, List.find?_cons]
    by_cases e : u = z
    · subst e
      simp
    · have : ¬ keyS u = keyS z := fun h => e (keyS_inj.mp h)
      simp only [this, decide_false]
      rw [ih]
      simp [Ne.symm e]
theorem sqD_put {z : Int × Int} {zs : List (Int × Int)} (h : z ∉ zs) : putK (sqD zs) (keyS z) (.bl true) = sqD (zs ++ [z]) := by
  have no : ((sqD zs).any fun kv => decide (kv.1 = keyS z)) = false := by
    rw [List.any_eq_false]
    intro kv hk
    obtain ⟨u, hu, rfl⟩ := List.mem_map.mp hk
    simp only [decide_eq_true_eq]
    intro e
    exact h (keyS_inj.mp e ▸ hu)
  unfold putK
  rw [no]
  simp [sqD]
end Kg
namespace K05
open PySem PySem.Spec PyProof.Rows L2 Kg
open Evl (Ex)


section
variable {P : Program} {w : World} {K : PySem.W.Frag} {mg : Str → Option Value} {base : Heap}
theorem ok_is_integer (T : Txt K mg) : FnOk P w K mg base CX0 1 T.f_is_integer T.d_is_integer ["value"] (spB K isI) := by
  refine T.F_is_integer.ok sc_is_integer (fun vs H Q E h => ?_) (fun cdv A outer s H vs Q E hr h => ?_)
  · obtain ⟨v, d, rfl, _⟩ := h
    rfl
  · obtain ⟨v, d, rfl, hd, k⟩ := h
    refine ⟨_, (pss_one (ps_ret (pe_and (pe_callB call_isi (by rfl) T.z_isinstance (by decide +kernel) (pa_cons (pv 0) (pa_cons (pe_bltn (v := .ty "int") (by rfl) T.z_int (by decide +kernel) rfl) pa_nil))) (pe_one (pe_not (pe_callB call_isi (by rfl) T.z_isinstance (by decide +kernel) (pa_cons (pv 0) (pa_cons (pe_bltn (v := .ty "bool") (by rfl) T.z_bool (by decide +kernel) rfl) pa_nil)))))))), ?_⟩
    have fin : ∀ b, b = isI d → Q (.bl b) H := fun b e => e ▸ k H (Evl.Ex.refl H)
    refine ⟨_, rfl, ?_⟩
    refine ⟨_, _, _, _, _, rfl, .ty _, tyX_of hd, kit_ty (kit_int d), ?_⟩
    refine ⟨_, rfl, ifB (fun c => ?_) (fun c => ?_)⟩
    · refine ⟨_, rfl, ?_⟩
      refine ⟨_, _, _, _, _, rfl, .ty _, tyX_of hd, kit_ty (kit_bool d), ?_⟩
      exact ⟨_, rfl, fin _ (by rw [isI_of, c]; rfl)⟩
    · exact fin _ (by rw [isI_of, c]; rfl)
/-- a bound, or none -/
inductive Bd : V → Option Int → Prop
  | non : Bd .non none
  | int (i : Int) : Bd (.int i) (some i)
def withinD (d : PyData) (lo hi : Option Int) : Bool := match d with
  | .int i => lo.all (· ≤ i) && hi.all (i ≤ ·)
  | _ => false
def spWithin (K : PySem.W.Frag) : Sp := fun vs H Q _ => ∃ v l m d lo hi, vs = [v, l, m] ∧ Da K H v d ∧ Bd l lo ∧ Bd m hi ∧ ∀ H', Ex H H' → Q (.bl (withinD d lo hi)) H'
theorem ok_is_square (T : Txt K mg) : FnOk P w K mg base CX0 2 T.f_is_square T.d_is_square ["value"] (spB K isSq) := by
  have G_is_integer : FnOk P w K mg base CX0 1 T.f_is_integer T.d_is_integer ["value"] (spB K isI) := ok_is_integer T
  refine T.F_is_square.ok sc_is_square (fun vs H Q E h => ?_) (fun cdv A outer s H vs Q E hr h => ?_)
  · obtain ⟨v, d, rfl, _⟩ := h
    rfl
  · obtain ⟨v, d, rfl, hd, k⟩ := h
    have hr1 := hr
    refine ⟨_, (pss_cons (ps_if (PW.pt (pw_or (pt_not (pt_val (pe_callB call_isiT (by rfl) T.z_isinstance (by decide +kernel) (pa_cons (pv 0) (pa_cons (pe_tup (pa_cons (pe_bltn (v := .ty "list") (by rfl) T.z_list (by decide +kernel) rfl) (pa_cons (pe_bltn (v := .ty "tuple") (by rfl) T.z_tuple (by decide +kernel) rfl) pa_nil))) pa_nil))))) (pw_or1 (pt_cmpR op_ne (pe_callB call_len_seq (by rfl) T.z_len (by decide +kernel) (pa_cons (pv 0) pa_nil)) pe_int (nomark _))))) (pss_one (ps_ret pe_bl)) pss_nil)
  (pss_one (ps_ret (pe_and (pe_call G_is_integer hr1 rfl T.g_is_integer T.F_is_integer.kp (b_is_integer T) .nil pass0 (pa_cons (pe_ix ix_seq (pv 0) pe_int (fun _ _ => rfl)) pa_nil)) (pe_one (pe_call G_is_integer hr1 rfl T.g_is_integer T.F_is_integer.kp (b_is_integer T) .nil pass0 (pa_cons (pe_ix ix_seq (pv 0) pe_int (fun _ _ => rfl)) pa_nil))))))), ?_⟩
    refine ⟨_, rfl, (by show 2 ≤ sizeLine; decide), fun tp hp => ?_⟩
    have hd1 := Da.mono (Evl.Ex.new (o := .tup [.ty "list", .ty "tuple"]) hp) d hd
    refine ⟨_, _, _, _, _, _, rfl, upd_same, .cons (.ty _) (.cons (.ty _) .nil), tyX_of hd1, kit_seq d, ?_⟩
    have e1 : Ex H (upd H tp (.tup [.ty "list", .ty "tuple"])) := Evl.Ex.new hp
    have fin : ∀ b H2, b = isSq d → Ex H H2 → Q (.bl b) H2 := fun b H2 e => e ▸ k H2
    refine ⟨_, rfl, ?_⟩
    refine ifB (fun c => ?_) (fun c => ?_)
    · walk_at "rd"
      refine fin _ _ ?_ e1
      cases e : seqOf d with
      | none => rw [sq_no e]
      | some ds => rw [e] at c; cases c
    · obtain ⟨ds, e⟩ : ∃ ds, seqOf d = some ds := by
        cases e : seqOf d with
        | none => rw [e] at c; cases c
        | some ds => exact ⟨ds, rfl⟩
      obtain ⟨a, xs, rfl, hs, ha⟩ := seq_at hd1 e
      walk_at "rd"
      refine ifB (fun c2 => ?_) (fun c2 => ?_)
      · walk_at "rd"
        refine fin _ _ (sq_not e ?_).symm e1
        rw [← ha.len]
        intro hl
        rw [hl] at c2
        exact absurd c2 (by decide)
      · have hl : xs.length = 2 := by
          have := of_decide_eq_true (by simpa using c2 : decide (V.int (xs.length : Int) = V.int 2) = true)
          injection this with this
          omega
        obtain ⟨x, y, d0, d1, rfl, rfl, h0, h1⟩ := da_two ha hl
        rcases hs with hs | hs
        all_goals
          walk_at "rd"
          intro H2 e2
          refine ⟨_, rfl, ifB (fun c3 => ?_) (fun c3 => ?_)⟩
          · have h1' := Da.mono e2 d1 h1
            have hs2 := seq_ex (K := K) e2 (by first | exact Or.inl hs | exact Or.inr hs)
            rcases hs2 with hs2 | hs2
            all_goals
              walk_at "rd"
              refine fun H3 e3 => fin _ _ ?_ ((e1.trans e2).trans e3)
              rw [sq_two e, c3]
              rfl
          · refine fin _ _ ?_ (e1.trans e2)
            rw [sq_two e, c3]
            rfl
end
end K05
namespace K05
open PySem PySem.Spec PyProof.Rows L2 Kg
open Evl (Ex)


section
variable {P : Program} {w : World} {K : PySem.W.Frag} {mg : Str → Option Value} {base : Heap}
def spAre (K : PySem.W.Frag) : Sp := fun vs H Q _ => ∃ v d, vs = [v] ∧ Da K H v d ∧ (∀ ds, seqOf d = some ds → ds.length < 60) ∧ ∀ H', Ex H H' → Q (.bl (areSq d)) H'
theorem ok_are_squares (T : Txt K mg) : FnOk P w K mg base CX0 3 T.f_are_squares T.d_are_squares ["value"] (spAre K) := by
  have G_is_square : FnOk P w K mg base CX0 2 T.f_is_square T.d_is_square ["value"] (spB K isSq) := ok_is_square T
  refine T.F_are_squares.ok sc_are_squares (fun vs H Q E h => ?_) (fun cdv A outer s H vs Q E hr h => ?_)
  · obtain ⟨v, d, rfl, _⟩ := h
    rfl
  · obtain ⟨v, d, rfl, hd, few, k⟩ := h
    have hr1 := hr
    have hu1 := hu_of hr
    refine ⟨_, (pss_cons (ps_if (pt_not (pt_val (pe_callB call_isiT (by rfl) T.z_isinstance (by decide +kernel) (pa_cons (pv 0) (pa_cons (pe_tup (pa_cons (pe_bltn (v := .ty "list") (by rfl) T.z_list (by decide +kernel) rfl) (pa_cons (pe_bltn (v := .ty "tuple") (by rfl) T.z_tuple (by decide +kernel) rfl) pa_nil))) pa_nil))))) (pss_one (ps_ret pe_bl)) pss_nil)
  (pss_cons (ps_if (pt_not (pt_val (pe_callB (cr_all rfl) (by rfl) T.z_all (by decide +kernel) (pa_cons (pe_lc (own := [("item", 1)]) (g := (gName 1)) rfl sc_are_squares.nd (pi_or (pi_list (pv 0)) (pi_tup (pv 0))) (blkOk_by (own := [("item", 1)]) (N := ["value", "item"]) (sc := defScope s_are_squares) (by decide +kernel)) (fun _ _ _ _ _ => (pg_name (i := 1) sc_are_squares.nd rfl (Or.inl rfl))) (fun _ _ _ _ _ => pts_nil) (fun _ _ _ _ _ => (pe_call G_is_square hr1 rfl T.g_is_square T.F_is_square.kp (b_is_square T) .nil pass0 (pa_cons (pv 1) pa_nil)))) pa_nil)))) (pss_one (ps_ret pe_bl)) pss_nil)
  (pss_one (ps_ret (pe_cmpR op_eq (pe_callB cr_lenST (by rfl) T.z_len (by decide +kernel) (pa_cons (pe_scT hu1 rfl sc_are_squares.nd (pi_or (pi_list (pv 0)) (pi_tup (pv 0))) (blkOk_by (own := [("item", 1)]) (N := ["value", "item"]) (sc := defScope s_are_squares) (by decide +kernel)) (fun _ _ _ _ _ => (pg_name (i := 1) sc_are_squares.nd rfl (Or.inl rfl))) (fun _ _ _ _ _ => pts_nil) (fun _ _ _ _ _ => (pe_tup (pa_cons (pe_ix (show IxR _ (rIx K) from ix_seq) (pv 1) pe_int (fun _ _ => rfl)) (pa_cons (pe_ix (show IxR _ (rIx K) from ix_seq) (pv 1) pe_int (fun _ _ => rfl)) pa_nil))))) pa_nil)) (pe_callB call_len_seq (by rfl) T.z_len (by decide +kernel) (pa_cons (pv 0) pa_nil)) (nomark _)))))), ?_⟩
    refine ⟨_, rfl, (by show 2 ≤ sizeLine; decide), fun tp hp => ?_⟩
    have hd1 := Da.mono (Evl.Ex.new (o := .tup [.ty "list", .ty "tuple"]) hp) d hd
    refine ⟨_, _, _, _, _, _, rfl, upd_same, .cons (.ty _) (.cons (.ty _) .nil), tyX_of hd1, kit_seq d, ?_⟩
    have e1 : Ex H (upd H tp (.tup [.ty "list", .ty "tuple"])) := Evl.Ex.new hp
    have fin : ∀ b H2, b = areSq d → Ex H H2 → Q (.bl b) H2 := fun b H2 e => e ▸ k H2
    refine ⟨_, rfl, ?_⟩
    refine ifB (fun c => ?_) (fun c => ?_)
    · walk_at "rd"
      refine fin _ _ ?_ e1
      unfold areSq
      cases e : seqOf d with
      | none => rfl
      | some ds => rw [e] at c; cases c
    · obtain ⟨ds, e⟩ : ∃ ds, seqOf d = some ds := by
        cases e : seqOf d with
        | none => rw [e] at c; cases c
        | some ds => exact ⟨ds, rfl⟩
      have are : areSq d = (ds.all isSq && decide ((ds.map sqOf).Nodup)) := by unfold areSq; rw [e]
      have few := few ds e
      obtain ⟨a, xs, rfl, hs, ha⟩ := seq_at hd1 e
      have hlen := ha.len
      generalize upd H tp (.tup [.ty "list", .ty "tuple"]) = H1 at hd1 e1 hs ha ⊢
      have small : sizeLine = 16777216 := sizeLine_eq
      rcases hs with hs | hs
      · refine Or.inl ?_
        refine ⟨_, rfl, a, rfl, ⟨xs, hs⟩, fun D hD => ?_⟩
        refine lc_list (K := K) (a := a) (xs := xs) (fun i H' => Ex H1 H' ∧ H' D = some (.lst (((ds.take i).map isSq).map V.bl))) ⟨Evl.Ex.new hD, upd_same⟩ (fun i H' _ p => Evl.ex_l p.1 hs) ?_ ?_
        · rintro i x H' hi ⟨p1, p2⟩
          obtain ⟨di, hdi, hx⟩ := ha.at hi
          have lt := (List.getElem?_eq_some_iff.mp hi).1
          refine ⟨rfl, ?_⟩
          refine ⟨_, rfl, x, di, rfl, Da.mono p1 di hx, fun H4 e4 => ?_⟩
          refine ⟨_, e4 D _ p2, ?_, Evl.Ex.mut (p1.trans e4) hD, ?_⟩
          · simp only [List.length_map, List.length_take]
            omega
          · rw [upd_same, take_one hdi]
            simp
        · rintro H2 ⟨p1, p2⟩
          have hall : ((ds.take xs.length).map isSq).all id = ds.all isSq := by
            rw [hlen, List.take_length, List.all_map]; rfl
          refine ⟨D, _, rfl, SqL.of p2, ?_⟩
          rw [hall]
          refine ⟨_, rfl, ?_⟩
          refine ifB (fun c2 => ?_) (fun c2 => ?_)
          · have c3 : ds.all isSq = false := by simpa using c2
            walk_at "rd"
            refine fin _ _ ?_ (e1.trans p1)
            rw [are, c3]
            rfl
          · have c3 : ds.all isSq = true := by simpa using c2
            have hsq : ∀ i x, xs[i]? = some x → ∃ d, ds[i]? = some d ∧ Da K H1 x d ∧ isSq d = true := fun i x hi => by
              obtain ⟨d, hd, hx⟩ := ha.at hi
              exact ⟨d, hd, hx, List.all_eq_true.mp c3 d (List.mem_of_getElem? hd)⟩
            refine Or.inl ?_
            refine ⟨_, rfl, a, rfl, ⟨xs, Evl.ex_l p1 hs⟩, fun D2 hD2 => ?_⟩
            refine scT_seq (xs := xs) (Held K P w D2 H2 ds) ⟨Evl.Ex.new hD2, [], upd_same, by simp, by simp, by simp, by simp⟩ (fun H3 h3 => ⟨xs, Evl.ex_l (p1.trans h3.ex) hs, Nat.le_refl _⟩)
              (fun i H3 hi h3 => ⟨xs, xs[i], Evl.ex_l (p1.trans h3.ex) hs, by simp [hi]⟩) (fun i H3 x H' hi h3 y => ⟨y.1, y.2 xs (Evl.ex_l (p1.trans h3.ex) hs)⟩) ?_ ?_
            · rintro i x H3 hi h3
              obtain ⟨di, hdi, hx, hsd⟩ := hsq i x hi
              have lt := (List.getElem?_eq_some_iff.mp hi).1
              obtain ⟨L, hL, hLt, hLk, hLn, hLl⟩ := h3.it
              obtain ⟨c0, z0, z1, rfl, hsq2, hc0⟩ := sq_at (Da.mono (p1.trans h3.ex) di hx) hsd
              have kq : Kg.keyOf di = [z0, z1] := by unfold Kg.keyOf; rw [hsq2]
              refine ⟨rfl, ?_⟩
              rcases hc0 with hc0 | hc0
              all_goals
                walk_at "rd"
                intro t ht
                have et : Ex H3 (upd H3 t (.tup [.int z0, .int z1])) := Evl.Ex.new ht
                refine ⟨t, Kg.keyOf di, L, rfl, .inl (.inl ?_), et _ _ hL, fun p hp => Evl.ex_t et (hLt p hp), by omega, fun L' c1 c2 => ?_⟩
                · rw [kq]; exact upd_same
                · refine Held.turn (h3.ex.trans et) hD2 hdi (et _ _ hL) (fun p hp => Evl.ex_t et (hLt p hp)) (.inl (.inl ?_)) hLk hLn hLl c1 c2
                  rw [kq]; exact upd_same
            · rintro H3 h3
              obtain ⟨L, hL, hLt, hLk, hLn, hLl⟩ := h3.it
              have hx2 := Evl.ex_l (p1.trans h3.ex) hs
              walk_at "rd"
              refine fin _ _ ?_ ((e1.trans p1).trans h3.ex)
              rw [are, c3, Bool.true_and]
              have iff := len_iff_nodup (M := L.map (·.2)) (N := ds.map Kg.keyOf) hLn (by rw [hlen, List.take_length] at hLk; exact hLk)
              rw [List.length_map, List.length_map, keys_nodup c3] at iff
              have e5 : (V.int (L.length : Int) = V.int (xs.length : Int)) ↔ L.length = ds.length := by
                constructor
                · intro z
                  injection z with z
                  omega
                · intro z
                  rw [z, hlen]
              exact decide_eq_decide.mpr (e5.trans iff)
      · refine Or.inr ?_
        refine ⟨_, rfl, a, rfl, ⟨xs, hs⟩, fun D hD => ?_⟩
        refine lc_tup (K := K) (a := a) (xs := xs) (fun i H' => Ex H1 H' ∧ H' D = some (.lst (((ds.take i).map isSq).map V.bl))) ⟨Evl.Ex.new hD, upd_same⟩ (fun i H' _ p => Evl.ex_t p.1 hs) ?_ ?_
        · rintro i x H' hi ⟨p1, p2⟩
          obtain ⟨di, hdi, hx⟩ := ha.at hi
          have lt := (List.getElem?_eq_some_iff.mp hi).1
          refine ⟨rfl, ?_⟩
          refine ⟨_, rfl, x, di, rfl, Da.mono p1 di hx, fun H4 e4 => ?_⟩
          refine ⟨_, e4 D _ p2, ?_, Evl.Ex.mut (p1.trans e4) hD, ?_⟩
          · simp only [List.length_map, List.length_take]
            omega
          · rw [upd_same, take_one hdi]
            simp
        · rintro H2 ⟨p1, p2⟩
          have hall : ((ds.take xs.length).map isSq).all id = ds.all isSq := by
            rw [hlen, List.take_length, List.all_map]; rfl
          refine ⟨D, _, rfl, SqL.of p2, ?_⟩
          rw [hall]
          refine ⟨_, rfl, ?_⟩
          refine ifB (fun c2 => ?_) (fun c2 => ?_)
          · have c3 : ds.all isSq = false := by simpa using c2
            walk_at "rd"
            refine fin _ _ ?_ (e1.trans p1)
            rw [are, c3]
            rfl
          · have c3 : ds.all isSq = true := by simpa using c2
            have hsq : ∀ i x, xs[i]? = some x → ∃ d, ds[i]? = some d ∧ Da K H1 x d ∧ isSq d = true := fun i x hi => by
              obtain ⟨d, hd, hx⟩ := ha.at hi
              exact ⟨d, hd, hx, List.all_eq_true.mp c3 d (List.mem_of_getElem? hd)⟩
            refine Or.inr ?_
            refine ⟨_, rfl, a, rfl, ⟨xs, Evl.ex_t p1 hs⟩, fun D2 hD2 => ?_⟩
            refine scT_seq (xs := xs) (Held K P w D2 H2 ds) ⟨Evl.Ex.new hD2, [], upd_same, by simp, by simp, by simp, by simp⟩ (fun H3 h3 => ⟨xs, Evl.ex_t (p1.trans h3.ex) hs, Nat.le_refl _⟩)
              (fun i H3 hi h3 => ⟨xs, xs[i], Evl.ex_t (p1.trans h3.ex) hs, by simp [hi]⟩) (fun i H3 x H' hi h3 y => ⟨y.1, y.2 xs (Evl.ex_t (p1.trans h3.ex) hs)⟩) ?_ ?_
            · rintro i x H3 hi h3
              obtain ⟨di, hdi, hx, hsd⟩ := hsq i x hi
              have lt := (List.getElem?_eq_some_iff.mp hi).1
              obtain ⟨L, hL, hLt, hLk, hLn, hLl⟩ := h3.it
              obtain ⟨c0, z0, z1, rfl, hsq2, hc0⟩ := sq_at (Da.mono (p1.trans h3.ex) di hx) hsd
              have kq : Kg.keyOf di = [z0, z1] := by unfold Kg.keyOf; rw [hsq2]
              refine ⟨rfl, ?_⟩
              rcases hc0 with hc0 | hc0
              all_goals
                walk_at "rd"
                intro t ht
                have et : Ex H3 (upd H3 t (.tup [.int z0, .int z1])) := Evl.Ex.new ht
                refine ⟨t, Kg.keyOf di, L, rfl, .inl (.inl ?_), et _ _ hL, fun p hp => Evl.ex_t et (hLt p hp), by omega, fun L' c1 c2 => ?_⟩
                · rw [kq]; exact upd_same
                · refine Held.turn (h3.ex.trans et) hD2 hdi (et _ _ hL) (fun p hp => Evl.ex_t et (hLt p hp)) (.inl (.inl ?_)) hLk hLn hLl c1 c2
                  rw [kq]; exact upd_same
            · rintro H3 h3
              obtain ⟨L, hL, hLt, hLk, hLn, hLl⟩ := h3.it
              have hx2 := Evl.ex_t (p1.trans h3.ex) hs
              walk_at "rd"
              refine fin _ _ ?_ ((e1.trans p1).trans h3.ex)
              rw [are, c3, Bool.true_and]
              have iff := len_iff_nodup (M := L.map (·.2)) (N := ds.map Kg.keyOf) hLn (by rw [hlen, List.take_length] at hLk; exact hLk)
              rw [List.length_map, List.length_map, keys_nodup c3] at iff
              have e5 : (V.int (L.length : Int) = V.int (xs.length : Int)) ↔ L.length = ds.length := by
                constructor
                · intro z
                  injection z with z
                  omega
                · intro z
                  rw [z, hlen]
              exact decide_eq_decide.mpr (e5.trans iff)
end
end K05
namespace K05
open PySem PySem.Spec PyProof.Rows L2 Kg
open Evl (Ex)


section
variable {P : Program} {w : World} {K : PySem.W.Frag} {mg : Str → Option Value} {base : Heap}
/-- what an __init__ that keeps its part does -/
def spKeep (K : PySem.W.Frag) (C : Addr) : Sp := fun vs H Q _ => ∃ (a : Addr) (v : V), vs = [.ref a, v] ∧ H a = some (exo a C none) ∧
  ∀ dx, H dx = none → dx ≠ a → Q .non (upd (upd H dx (exd dx [("part", v)])) a (exo a C (some dx)))
theorem ok_BadSquares_init (T : Txt K mg) : FnOk P w K mg base CX0 1 T.f_BadSquares_init T.d_BadSquares_init ["self", "part"] (spKeep K T.c_BadSquares) := by
  refine T.F_BadSquares_init.ok sc_BadSquares_init (fun vs H Q E h => ?_) (fun cdv A outer s H vs Q E hr h => ?_)
  · obtain ⟨a, v, rfl, _⟩ := h
    rfl
  · obtain ⟨a, v, rfl, ha, k⟩ := h
    refine ⟨_, (pss_one (ps_ost (pv 0) (pv 1))), ?_⟩
    walk_at "rd"
    exact ⟨a, T.c_BadSquares, rfl, T.x_BadSquares, T.n_BadSquares_part, Or.inl ⟨ha, fun dx h1 h2 => k dx h1 h2⟩⟩
theorem ok_Misfit_init (T : Txt K mg) : FnOk P w K mg base CX0 1 T.f_Misfit_init T.d_Misfit_init ["self", "part"] (spKeep K T.c_Misfit) := by
  refine T.F_Misfit_init.ok sc_Misfit_init (fun vs H Q E h => ?_) (fun cdv A outer s H vs Q E hr h => ?_)
  · obtain ⟨a, v, rfl, _⟩ := h
    rfl
  · obtain ⟨a, v, rfl, ha, k⟩ := h
    refine ⟨_, (pss_one (ps_ost (pv 0) (pv 1))), ?_⟩
    walk_at "rd"
    exact ⟨a, T.c_Misfit, rfl, T.x_Misfit, T.n_Misfit_part, Or.inl ⟨ha, fun dx h1 h2 => k dx h1 h2⟩⟩
end
end K05
namespace K05
open PySem PySem.Spec PyProof.Rows L2 Kg
open Evl (Ex)


/-- tuples of two numbers, one by one -/
inductive PL (H : Hp) : List V → List (Int × Int) → Prop
  | nil : PL H [] []
  | cons {t : Addr} {z : Int × Int} {vs : List V} {zs : List (Int × Int)} : H t = some (.tup [.int z.1, .int z.2]) → PL H vs zs → PL H (.ref t :: vs) (z :: zs)
theorem PL.mono {H H' : Hp} (e : Ex H H') : ∀ {vs : List V} {zs : List (Int × Int)}, PL H vs zs → PL H' vs zs
  | _, _, .nil => .nil
  | _, _, .cons h t => .cons (e _ _ h) (PL.mono e t)
theorem PL.app {H : Hp} {ws : List V} {us : List (Int × Int)} (g : PL H ws us) : ∀ {vs : List V} {zs : List (Int × Int)}, PL H vs zs → PL H (vs ++ ws) (zs ++ us)
  | _, _, .nil => g
  | _, _, .cons h t => .cons h (PL.app g t)
theorem PL.len {H : Hp} : ∀ {vs : List V} {zs : List (Int × Int)}, PL H vs zs → vs.length = zs.length
  | _, _, .nil => rfl
  | _, _, .cons _ t => by rw [List.length_cons, List.length_cons, PL.len t]
def kAt (H : Hp) : V → Int × Int
  | .ref t => match H t with
    | some (.tup [.int i, .int j]) => (i, j)
    | _ => (0, 0)
  | _ => (0, 0)
theorem kAt_of {H : Hp} {t : Addr} {z : Int × Int} (h : H t = some (.tup [.int z.1, .int z.2])) : kAt H (.ref t) = z := by
  show (match H t with | some (.tup [.int i, .int j]) => (i, j) | _ => (0, 0)) = z
  rw [h]
theorem PL.keys {H : Hp} : ∀ {vs : List V} {zs : List (Int × Int)}, PL H vs zs → zs = vs.map (kAt H) ∧ ∀ v ∈ vs, ∃ t, v = .ref t ∧ H t = some (.tup [.int (kAt H v).1, .int (kAt H v).2])
  | _, _, .nil => ⟨rfl, by simp⟩
  | _, _, .cons (t := t) (z := z) h r => by
    obtain ⟨a, b⟩ := PL.keys r
    have e := kAt_of h
    refine ⟨by rw [List.map_cons, e, ← a], ?_⟩
    intro v hv
    rcases List.mem_cons.mp hv with rfl | hv
    · exact ⟨t, rfl, by rw [e]; exact h⟩
    · exact b v hv
theorem PL.of {H : Hp} : ∀ {vs : List V}, (∀ v ∈ vs, ∃ t, v = .ref t ∧ H t = some (.tup [.int (kAt H v).1, .int (kAt H v).2])) → PL H vs (vs.map (kAt H))
  | [], _ => .nil
  | v :: vs, h => by
    obtain ⟨t, rfl, ht⟩ := h v List.mem_cons_self
    exact .cons ht (PL.of fun v hv => h v (List.mem_cons_of_mem _ hv))
theorem neu_up {H H' H'' : Hp} (e : Ex H' H'') : Ex (neu H H') (neu H H'') := fun a o h => by
  obtain ⟨h1, h2⟩ := neu_of h
  exact at_neu h1 (e a o h2)
theorem PL.skip {H H' : Hp} {D : Addr} {xs : List V} {o : HO} (hD : H' D = some (.lst xs)) : ∀ {vs : List V} {zs : List (Int × Int)}, PL (neu H H') vs zs → PL (neu H (upd H' D o)) vs zs
  | _, _, .nil => .nil
  | _, _, .cons (t := t) h r => .cons (by
      obtain ⟨h1, h2⟩ := neu_of h
      exact at_neu h1 ((upd_ne fun e => by rw [e, hD] at h2; cases h2).trans h2)) (PL.skip hD r)
section
variable {P : Program} {w : World} {K : PySem.W.Frag} {mg : Str → Option Value} {base : Heap}
/-- squares in their order, as new tuples in a new tuple, or the error -/
def spTakenS (K : PySem.W.Frag) (C : Addr) : Sp := fun vs H Q E => ∃ (v p : V) (d : PyData), vs = [v, p] ∧ Da K H v d ∧ (∀ ds, seqOf d = some ds → ds.length < 60) ∧
  (∀ ds, areSq d = true → seqOf d = some ds → ∀ (T : Addr) (ys : List V) (k : V → Int × Int) (H' : Hp), Ex H H' → H T = none → H' T = some (.tup ys) →
    PL (neu H H') ys (ys.map k) → (ys.map k).Perm (prs ds) → SrtO.Srtd (ltP k) ys → Q (.ref T) H') ∧
  (areSq d = false → ∀ dx H', Ex H H' → H dx = none → H' dx = some (.xd [("part", p)]) → E (.ref C) (some dx) H')
theorem ok_taken_squares (T : Txt K mg) : FnOk P w K mg base (L2.CX P w) 4 T.f_taken_squares T.d_taken_squares ["squares", "part"] (spTakenS K T.c_BadSquares) := by
  have G_BadSquares_init : FnOk P w K mg base CX0 2 T.f_BadSquares_init T.d_BadSquares_init ["self", "part"] (spKeep K T.c_BadSquares) := (ok_BadSquares_init T).mono (by decide)
  have G_are_squares : FnOk P w K mg base CX0 3 T.f_are_squares T.d_are_squares ["value"] (spAre K) := ok_are_squares T
  refine T.F_taken_squares.okX sc_taken_squares (fun vs H Q E h => ?_) (fun cdv A outer s H vs Q E hr h => ?_)
  · obtain ⟨v, p, d, rfl, _⟩ := h
    rfl
  · obtain ⟨v, p, d, rfl, hv, hl, k1, k2⟩ := h
    have hr1 := hr
    refine ⟨_, (pss_cons (ps_if (pt_not (pt_val (pe_call G_are_squares hr1 rfl T.g_are_squares T.F_are_squares.kp (b_are_squares T) .nil pass0 (pa_cons (pv 0) pa_nil)))) (pss_one (ps_raise rfl (takes_of rfl rfl rfl rfl) (pmk_oex T.x_BadSquares T.i_BadSquares T.t_BadSquares G_BadSquares_init hr1 (b_BadSquares_init T) .nil pass0 rfl T.gc_BadSquares (pa_cons (pv 1) pa_nil)))) pss_nil)
  (pss_one (ps_ret (pe_callTy call_tuple_of (by rfl) T.z_tuple (by decide +kernel) (pa_cons (pe_callB cr_sortedPO (by rfl) T.z_sorted (by decide +kernel) (pa_cons (pe_lc (own := [("square", 2)]) (g := (gName 2)) rfl sc_taken_squares.nd (pi_or (pi_list (pv 0)) (pi_tup (pv 0))) (blkOk_by (own := [("square", 2)]) (N := ["squares", "part", "square"]) (sc := defScope s_taken_squares) (by decide +kernel)) (fun _ _ _ _ _ => (pg_name (i := 2) sc_taken_squares.nd rfl (Or.inl rfl))) (fun _ _ _ _ _ => pts_nil) (fun _ _ _ _ _ => (pe_tup (pa_cons (pe_ix (show IxR _ (rIx K) from ix_seq) (pv 2) pe_int (fun _ _ => rfl)) (pa_cons (pe_ix (show IxR _ (rIx K) from ix_seq) (pv 2) pe_int (fun _ _ => rfl)) pa_nil))))) pa_nil)) pa_nil))))), ?_⟩
    walk_at "rd"
    intro H1 e1
    have hv1 := Da.mono e1 d hv
    walk_at "rd"
    refine ifB (fun c1 => ?_) (fun c1 => ?_)
    · have ns : areSq d = false := by simpa using c1
      walk_at "rd"
      intro a ha
      refine ⟨a, p, rfl, upd_same, fun dx hdx ne => ?_⟩
      have hdx1 : H1 dx = none := (upd_ne ne).symm.trans hdx
      refine ⟨rfl, dx, [("part", p)], upd_same, (upd_ne ne).trans upd_same, hdx1, ?_⟩
      refine k2 ns dx _ (fun b o hb => ?_) (Evl.fresh_back e1 hdx1) upd_same
      have hb1 := e1 b o hb
      have n1 : b ≠ a := fun e => by rw [e, ha] at hb1; cases hb1
      have n2 : b ≠ dx := fun e => by rw [e, hdx1] at hb1; cases hb1
      rw [upd_ne n2, del_ne n1, upd_ne n1, upd_ne n2, upd_ne n1]
      exact hb1
    · have sq : areSq d = true := by simpa using c1
      obtain ⟨ds, e⟩ : ∃ ds, seqOf d = some ds := by
        unfold areSq at sq
        cases e : seqOf d with
        | none => rw [e] at sq; cases sq
        | some ds => exact ⟨ds, rfl⟩
      have c3 : ds.all isSq = true := by
        unfold areSq at sq
        rw [e] at sq
        exact (Bool.and_eq_true_iff.mp sq).1
      obtain ⟨a, xs, rfl, hs, ha⟩ := seq_at hv1 e
      have small : sizeLine = 16777216 := sizeLine_eq
      have hlen := ha.len
      have few := hl ds e
      have hpl := prs_len c3
      have hsq : ∀ i x, xs[i]? = some x → ∃ d z, ds[i]? = some d ∧ Da K H1 x d ∧ isSq d = true ∧ (prs ds)[i]? = some z ∧ sqOf d = some z := fun i x hi => by
        obtain ⟨d, hd, hx⟩ := ha.at hi
        obtain ⟨z, h1, h2⟩ := prs_at c3 hd
        exact ⟨d, z, hd, hx, List.all_eq_true.mp c3 d (List.mem_of_getElem? hd), h1, h2⟩
      rcases hs with hs | hs
      · refine Or.inl ?_
        refine ⟨_, rfl, a, rfl, ⟨xs, hs⟩, fun D hD => ?_⟩
        refine lc_list (K := K) (a := a) (xs := xs) (fun i H' => Ex H1 H' ∧ ∃ ys : List V, H' D = some (.lst ys) ∧ PL (neu H H') ys ((prs ds).take i)) ⟨Evl.Ex.new hD, [], upd_same, .nil⟩ (fun i H' _ p => Evl.ex_l p.1 hs) ?_ ?_
        · rintro i x H' hi ⟨r1, ys, r2, r3⟩
          obtain ⟨di, z, hdi, hx, hsd, hz, hz2⟩ := hsq i x hi
          have lt := (List.getElem?_eq_some_iff.mp hi).1
          obtain ⟨c0, z0, z1, rfl, hq, hc0⟩ := sq_at (Da.mono r1 di hx) hsd
          have ez : z = (z0, z1) := Option.some.inj (hz2.symm.trans hq)
          subst ez
          refine ⟨rfl, ?_⟩
          have hrl : ys.length ≤ i := by rw [r3.len, List.length_take]; omega
          walk_at "rd"
          refine ix_of hc0 rfl ?_
          walk_at "rd"
          refine ix_of hc0 rfl ?_
          walk_at "rd"
          intro t ht
          have et : Ex H' (upd H' t (.tup [.int z0, .int z1])) := Evl.Ex.new ht
          refine ⟨ys, et _ _ r2, by omega, Evl.Ex.mut (r1.trans et) hD, ys ++ [.ref t], upd_same, ?_⟩
          rw [take_one hz]
          have row : PL (neu H (upd H' t (.tup [.int z0, .int z1]))) [.ref t] [(z0, z1)] := .cons (z := (z0, z1)) (at_neu (Evl.fresh_back (e1.trans r1) ht) upd_same) .nil
          exact PL.skip (et _ _ r2) (PL.app row (PL.mono (neu_up et) r3))
        · rintro H2 ⟨r1, ys, r2, r3⟩
          rw [hlen, ← hpl, List.take_length] at r3
          obtain ⟨q1, q2⟩ := r3.keys
          refine ⟨D, ys, kAt (neu H H2), rfl, SqL.of r2, fun v hv => ?_, fun ys' l2 hsrt hst hl2 => ?_⟩
          · obtain ⟨t, h1, h2⟩ := q2 v hv
            exact ⟨t, h1, (neu_of h2).2⟩
          have e2 := Evl.Ex.new (o := .lst ys') hl2
          refine ⟨l2, ys', rfl, Or.inl ⟨SqL.of upd_same, fun T hT => ?_⟩⟩
          have e3 := Evl.Ex.new (o := .tup ys') hT
          refine k1 ds sq e T ys' (kAt (neu H H2)) _ (e1.trans (r1.trans (e2.trans e3))) (Evl.fresh_back (e1.trans (r1.trans e2)) hT) upd_same ?_ ?_ hsrt
          · exact PL.mono (neu_up (e2.trans e3)) (PL.of fun v hv => q2 v (hst.perm.mem_iff.mp hv))
          · rw [q1]
            exact hst.perm.map _
      · refine Or.inr ?_
        refine ⟨_, rfl, a, rfl, ⟨xs, hs⟩, fun D hD => ?_⟩
        refine lc_tup (K := K) (a := a) (xs := xs) (fun i H' => Ex H1 H' ∧ ∃ ys : List V, H' D = some (.lst ys) ∧ PL (neu H H') ys ((prs ds).take i)) ⟨Evl.Ex.new hD, [], upd_same, .nil⟩ (fun i H' _ p => Evl.ex_t p.1 hs) ?_ ?_
        · rintro i x H' hi ⟨r1, ys, r2, r3⟩
          obtain ⟨di, z, hdi, hx, hsd, hz, hz2⟩ := hsq i x hi
          have lt := (List.getElem?_eq_some_iff.mp hi).1
          obtain ⟨c0, z0, z1, rfl, hq, hc0⟩ := sq_at (Da.mono r1 di hx) hsd
          have ez : z = (z0, z1) := Option.some.inj (hz2.symm.trans hq)
          subst ez
          refine ⟨rfl, ?_⟩
          have hrl : ys.length ≤ i := by rw [r3.len, List.length_take]; omega
          walk_at "rd"
          refine ix_of hc0 rfl ?_
          walk_at "rd"
          refine ix_of hc0 rfl ?_
          walk_at "rd"
          intro t ht
          have et : Ex H' (upd H' t (.tup [.int z0, .int z1])) := Evl.Ex.new ht
          refine ⟨ys, et _ _ r2, by omega, Evl.Ex.mut (r1.trans et) hD, ys ++ [.ref t], upd_same, ?_⟩
          rw [take_one hz]
          have row : PL (neu H (upd H' t (.tup [.int z0, .int z1]))) [.ref t] [(z0, z1)] := .cons (z := (z0, z1)) (at_neu (Evl.fresh_back (e1.trans r1) ht) upd_same) .nil
          exact PL.skip (et _ _ r2) (PL.app row (PL.mono (neu_up et) r3))
        · rintro H2 ⟨r1, ys, r2, r3⟩
          rw [hlen, ← hpl, List.take_length] at r3
          obtain ⟨q1, q2⟩ := r3.keys
          refine ⟨D, ys, kAt (neu H H2), rfl, SqL.of r2, fun v hv => ?_, fun ys' l2 hsrt hst hl2 => ?_⟩
          · obtain ⟨t, h1, h2⟩ := q2 v hv
            exact ⟨t, h1, (neu_of h2).2⟩
          have e2 := Evl.Ex.new (o := .lst ys') hl2
          refine ⟨l2, ys', rfl, Or.inl ⟨SqL.of upd_same, fun T hT => ?_⟩⟩
          have e3 := Evl.Ex.new (o := .tup ys') hT
          refine k1 ds sq e T ys' (kAt (neu H H2)) _ (e1.trans (r1.trans (e2.trans e3))) (Evl.fresh_back (e1.trans (r1.trans e2)) hT) upd_same ?_ ?_ hsrt
          · exact PL.mono (neu_up (e2.trans e3)) (PL.of fun v hv => q2 v (hst.perm.mem_iff.mp hv))
          · rw [q1]
            exact hst.perm.map _
end
end K05
namespace K05
open PySem PySem.Spec PyProof.Rows L2 Kg
open Evl (Ex)


theorem PL.at {H : Hp} : ∀ {vs : List V} {zs : List (Int × Int)} {i : Nat} {v : V}, PL H vs zs → vs[i]? = some v → ∃ t z, v = .ref t ∧ zs[i]? = some z ∧ H t = some (.tup [.int z.1, .int z.2])
  | _, _, _, _, .nil, h => by simp at h
  | _, _, 0, _, .cons (t := t) (z := z) h _, e => ⟨t, z, by simpa using e.symm, rfl, h⟩
  | _, _, i + 1, _, .cons _ r, e => by
    obtain ⟨t, z, h1, h2, h3⟩ := PL.at (i := i) r (by simpa using e)
    exact ⟨t, z, h1, by simpa using h2, h3⟩
section
variable {P : Program} {w : World} {K : PySem.W.Frag} {mg : Str → Option Value} {base : Heap}
/-- all squares are right ones, or the error -/
def spRight (C : Addr) : Sp := fun vs H Q E => ∃ (t : Addr) (ys : List V) (zs : List (Int × Int)) (p : V), vs = [.ref t, p] ∧ H t = some (.tup ys) ∧ PL H ys zs ∧ zs.length ≤ 60 ∧
  ((∀ z ∈ zs, 0 ≤ z.1) → ∀ H', Ex H H' → Q .non H') ∧ ((∃ z ∈ zs, z.1 < 0) → ∀ dx H', Ex H H' → H dx = none → H' dx = some (.xd [("part", p)]) → E (.ref C) (some dx) H')
theorem ok_check_right (T : Txt K mg) : FnOk P w K mg base (L2.CX P w) 3 T.f_check_right T.d_check_right ["squares", "part"] (spRight T.c_Misfit) := by
  have G_Misfit_init : FnOk P w K mg base CX0 1 T.f_Misfit_init T.d_Misfit_init ["self", "part"] (spKeep K T.c_Misfit) := ok_Misfit_init T
  refine T.F_check_right.okX sc_check_right (fun vs H Q E h => ?_) (fun cdv A outer s H vs Q E hr h => ?_)
  · obtain ⟨t, ys, zs, p, rfl, _⟩ := h
    rfl
  · obtain ⟨t, ys, zs, p, rfl, ht, pl, hz, k1, k2⟩ := h
    have hr1 := hr
    have small : sizeLine = 16777216 := sizeLine_eq
    have lx := pl.len
    refine ⟨_, (pss_one (ps_if (pt_val (pe_callB (cr_any rfl) (by rfl) T.z_any (by decide +kernel) (pa_cons (pe_lc (own := [("square", 2)]) (g := (gName 2)) rfl sc_check_right.nd (pi_tup (pv 0)) (blkOk_by (own := [("square", 2)]) (N := ["squares", "part", "square"]) (sc := defScope s_check_right) (by decide +kernel)) (fun _ _ _ _ _ => (pg_name (i := 2) sc_check_right.nd rfl (Or.inl rfl))) (fun _ _ _ _ _ => pts_nil) (fun _ _ _ _ _ => (pe_cmpR op_lt (pe_ix (show IxR _ (rIxT K) from ix_tup) (pv 2) pe_int (fun _ _ => rfl)) pe_int (nomark _)))) pa_nil))) (pss_one (ps_raise rfl (takes_of rfl rfl rfl rfl) (pmk_oex T.x_Misfit T.i_Misfit T.t_Misfit G_Misfit_init hr1 (b_Misfit_init T) .nil pass0 rfl T.gc_Misfit (pa_cons (pv 1) pa_nil)))) pss_nil)), ?_⟩
    walk_at "rd"
    refine ⟨⟨_, SqT.of ht⟩, fun D hD => ?_⟩
    refine lc_tup (K := K) (a := t) (xs := ys) (fun i H' => Ex H H' ∧ H' D = some (.lst ((zs.take i).map fun z => V.bl (decide (z.1 < 0))))) ⟨Evl.Ex.new hD, upd_same⟩ (fun i H' _ q => SqT.of (q.1 _ _ ht)) ?_ ?_
    · rintro i v H' hv ⟨q1, q2⟩
      obtain ⟨a, z, rfl, hz', ha⟩ := pl.at hv
      have ha' : SqT K H' a [.int z.1, .int z.2] := SqT.of (q1 _ _ ha)
      refine ⟨rfl, ?_⟩
      walk_at "rd"
      refine ⟨_, q2, by simp only [List.length_map, List.length_take]; omega, Evl.Ex.mut q1 hD, ?_⟩
      rw [upd_same, take_one hz', List.map_append]
      rfl
    · rintro H2 ⟨q1, q2⟩
      rw [lx, List.take_length] at q2
      refine ⟨D, zs.map fun z => decide (z.1 < 0), rfl, SqL.of (by rw [q2, List.map_map]; rfl), ?_⟩
      refine ⟨_, rfl, ?_⟩
      have any : (zs.map fun z => decide (z.1 < 0)).any id = true ↔ ∃ z ∈ zs, z.1 < 0 := by
        rw [List.any_map, List.any_eq_true]
        exact ⟨fun ⟨z, h1, h2⟩ => ⟨z, h1, of_decide_eq_true h2⟩, fun ⟨z, h1, h2⟩ => ⟨z, h1, decide_eq_true h2⟩⟩
      refine ifB (fun c => ?_) (fun c => ?_)
      · walk_at "rd"
        intro b hb
        refine ⟨b, p, rfl, upd_same, fun dx hdx ne => ?_⟩
        have hdx1 : H2 dx = none := (upd_ne ne).symm.trans hdx
        refine ⟨rfl, dx, [("part", p)], upd_same, (upd_ne ne).trans upd_same, hdx1, ?_⟩
        refine k2 (any.mp c) dx _ (fun x o hx => ?_) (Evl.fresh_back q1 hdx1) upd_same
        have hx1 := q1 x o hx
        have n1 : x ≠ b := fun e => by rw [e, hb] at hx1; cases hx1
        have n2 : x ≠ dx := fun e => by rw [e, hdx1] at hx1; cases hx1
        rw [upd_ne n2, del_ne n1, upd_ne n1, upd_ne n2, upd_ne n1]
        exact hx1
      · walk_at "rd"
        refine k1 (fun z hz => ?_) H2 q1
        by_cases h : z.1 < 0
        · have := any.mpr ⟨z, hz, h⟩
          rw [c] at this
          cases this
        · omega
/-- the squares of the first that are in the second -/
def spBoth : Sp := fun vs H Q _ => ∃ (t1 t2 : Addr) (ys1 ys2 : List V) (zs1 zs2 : List (Int × Int)), vs = [.ref t1, .ref t2] ∧ H t1 = some (.tup ys1) ∧ PL H ys1 zs1 ∧ H t2 = some (.tup ys2) ∧ PL H ys2 zs2 ∧ zs2.Nodup ∧ zs1.length ≤ 60 ∧ zs2.length ≤ 60 ∧
  ∀ (t : Addr) (ys : List V) (H' : Hp), Ex H H' → H t = none → H' t = some (.tup ys) → PL H' ys (zs1.filter fun z => decide (z ∈ zs2)) → Q (.ref t) H'
theorem ok_both (T : Txt K mg) : FnOk P w K mg base CX0 1 T.f_both T.d_both ["first", "second"] spBoth := by
  refine T.F_both.ok sc_both (fun vs H Q E h => ?_) (fun cdv A outer s H vs Q E hr h => ?_)
  · obtain ⟨t1, t2, ys1, ys2, zs1, zs2, rfl, _⟩ := h
    rfl
  · obtain ⟨t1, t2, ys1, ys2, zs1, zs2, rfl, h1, pl1, h2, pl2, nd2, l1, l2, k⟩ := h
    have hr1 := hr
    have hu1 := hu_of hr
    have small : sizeLine = 16777216 := sizeLine_eq
    have lx1 := pl1.len
    have lx2 := pl2.len
    refine ⟨_, (pss_cons (ps_set (i := 2) sc_both.nd rfl (Or.inr rfl) (pe_dcT hu1 rfl sc_both.nd (pi_tup (pv 1)) (blkOk_by (own := [("square", 3)]) (N := ["first", "second", "inside", "square"]) (sc := defScope s_both) (by decide +kernel)) (fun _ _ _ _ _ => (pg_name (i := 3) sc_both.nd rfl (Or.inl rfl))) (fun _ _ _ _ _ => pts_nil) (fun _ _ _ _ _ => (pv 3)) (fun _ _ _ _ _ => pe_bl)))
  (pss_one (ps_ret (pe_callTy call_tuple_of (by rfl) T.z_tuple (by decide +kernel) (pa_cons (pe_lc (own := [("square", 3)]) (g := (gName 3)) rfl sc_both.nd (pi_tup (pv 0)) (blkOk_by (own := [("square", 3)]) (N := ["first", "second", "inside", "square"]) (sc := defScope s_both) (by decide +kernel)) (fun _ _ _ _ _ => (pg_name (i := 3) sc_both.nd rfl (Or.inl rfl))) (fun _ _ _ _ _ => (pts_one (pt_cmpR (show OpR _ _ rInDT from op_inDT hu1) (pv 3) (pv 2) (by rfl)))) (fun _ _ _ _ _ => (pv 3))) pa_nil))))), ?_⟩
    walk_at "rd"
    refine ⟨⟨_, SqT.of h2⟩, fun D hD => ?_⟩
    refine dcT_tup (K := K) (a := t2) (xs := ys2) (fun i H' => Ex H H' ∧ H' D = some (.dT (sqD (zs2.take i)))) ⟨Evl.Ex.new hD, upd_same⟩ (fun i H' _ q => SqT.of (q.1 _ _ h2)) ?_ ?_
    · rintro i v H' hv ⟨q1, q2⟩
      obtain ⟨a, z, rfl, hz', ha⟩ := pl2.at hv
      refine ⟨rfl, ?_⟩
      walk_at "rd"
      have lt := (List.getElem?_eq_some_iff.mp hz').1
      have new : z ∉ zs2.take i := ((nodup_next hz').mp (nd2.sublist (List.take_sublist _ _))).2
      refine ⟨a, keyS z, _, rfl, q1 _ _ ha, q2, by simp only [sqD, List.length_map, List.length_take]; omega, Evl.Ex.mut q1 hD, ?_⟩
      rw [upd_same, sqD_put new, take_one hz']
    rintro H1 ⟨q1, q2⟩
    rw [lx2, List.take_length] at q2
    walk_at "rd"
    refine ⟨⟨_, SqT.of (q1 _ _ h1)⟩, fun D2 hD2 => ?_⟩
    refine lc_tup (K := K) (a := t1) (xs := ys1) (fun i H' => Ex H1 H' ∧ ∃ acc, H' D2 = some (.lst acc) ∧ PL H acc ((zs1.take i).filter fun z => decide (z ∈ zs2)))
      ⟨Evl.Ex.new hD2, [], upd_same, .nil⟩ (fun i H' _ q => SqT.of ((q1.trans q.1) _ _ h1)) ?_ ?_
    · rintro i v H' hv ⟨r1, acc, r2, r3⟩
      obtain ⟨a, z, rfl, hz', ha⟩ := pl1.at hv
      have lt := (List.getElem?_eq_some_iff.mp hz').1
      refine ⟨rfl, ?_⟩
      walk_at "rd"
      refine ⟨a, D, keyS z, _, rfl, rfl, r1 _ _ q2, (q1.trans r1) _ _ ha, ?_⟩
      rw [sqD_val]
      refine ⟨_, rfl, ?_⟩
      have la : acc.length ≤ 60 := by
        rw [r3.len]
        exact Nat.le_trans (List.length_filter_le _ _) (by rw [List.length_take]; omega)
      rw [take_one hz', List.filter_append]
      refine ifB (fun c => ?_) (fun c => ?_)
      · walk_at "rd"
        refine ⟨acc, r2, by omega, Evl.Ex.mut r1 hD2, acc ++ [.ref a], upd_same, PL.app ?_ r3⟩
        rw [List.filter_cons_of_pos (by simpa using c), List.filter_nil]
        exact .cons ha .nil
      · refine ⟨r1, acc, r2, ?_⟩
        rw [List.filter_cons_of_neg (by simpa using c), List.filter_nil, List.append_nil]
        exact r3
    · rintro H2 ⟨r1, acc, r2, r3⟩
      rw [lx1, List.take_length] at r3
      refine ⟨D2, acc, rfl, Or.inl ⟨SqL.of r2, fun t ht => ?_⟩⟩
      have et := Evl.Ex.new (o := .tup acc) ht
      exact k t acc _ ((q1.trans r1).trans et) (Evl.fresh_back (q1.trans r1) ht) upd_same (r3.mono ((q1.trans r1).trans et))
/-- how much longer one square makes the edge -/
def edge1 (zs : List (Int × Int)) (z : Int × Int) : Int :=
  (if (z.1 + 1, z.2) ∈ zs then 0 else 1) + (if (z.1, z.2 + 1) ∈ zs then 0 else 1) + (if (z.1, z.2 - 1) ∈ zs then 0 else 1) + (if z.1 = 0 then -1 else if (z.1 - 1, z.2) ∈ zs then 0 else 1)
def edge (zs : List (Int × Int)) : Int := (zs.map (edge1 zs)).sum
def spEdge : Sp := fun vs H Q _ => ∃ (t : Addr) (ys : List V) (zs : List (Int × Int)), vs = [.ref t] ∧ H t = some (.tup ys) ∧ PL H ys zs ∧ zs.Nodup ∧ zs.length ≤ 60 ∧ ∀ H', Ex H H' → Q (.int (edge zs)) H'
theorem ok_edge_of (T : Txt K mg) : FnOk P w K mg base CX0 1 T.f_edge_of T.d_edge_of ["squares"] spEdge := by
  refine T.F_edge_of.ok sc_edge_of (fun vs H Q E h => ?_) (fun cdv A outer s H vs Q E hr h => ?_)
  · obtain ⟨t, ys, zs, rfl, _⟩ := h
    rfl
  · obtain ⟨t, ys, zs, rfl, ht, pl, nd, hz, k⟩ := h
    have hr1 := hr
    have hu1 := hu_of hr
    have small : sizeLine = 16777216 := sizeLine_eq
    have lx := pl.len
    refine ⟨_, (pss_cons (ps_setDcT (i := 1) hu1 rfl sc_edge_of.nd rfl rfl (sw_dict rfl rfl rfl (by decide +kernel)) (pi_tup (pv 0)) (blkOk_by (own := [("square", 2)]) (N := ["squares", "inside", "square", "length", "x", "y"]) (sc := defScope s_edge_of) (by decide +kernel)) (fun _ _ _ _ _ => (pg_name (i := 2) sc_edge_of.nd rfl (Or.inl rfl))) (fun _ _ _ _ _ => pts_nil) (fun _ _ _ _ _ => (pv 2)) (fun _ _ _ _ _ => pe_bl))
  (pss_cons (ps_set (i := 3) sc_edge_of.nd rfl (Or.inl rfl) pe_int)
  (pss_cons (ps_for PassesOwn.never rfl (pi_tup (pv 0)) (pg_tup rfl (pgs_cons (pg_name (i := 4) sc_edge_of.nd rfl (Or.inl rfl)) (pgs_cons (pg_name (i := 5) sc_edge_of.nd rfl (Or.inl rfl)) pgs_nil)))
  (Evl.pss_cut (ps_if (pt_cmpR (op_notInDT hu1) (pe_tup (pa_cons (pe_op op_add (pv 4) pe_int) (pa_cons (pv 5) pa_nil))) (pv 1) (by rfl)) (pss_one (ps_aug (i := 3) sc_edge_of.nd rfl (Or.inl rfl) pe_int ip_add)) pss_nil)
  (Evl.pss_cut (ps_if (pt_cmpR (op_notInDT hu1) (pe_tup (pa_cons (pv 4) (pa_cons (pe_op op_add (pv 5) pe_int) pa_nil))) (pv 1) (by rfl)) (pss_one (ps_aug (i := 3) sc_edge_of.nd rfl (Or.inl rfl) pe_int ip_add)) pss_nil)
  (Evl.pss_cut (ps_if (pt_cmpR (op_notInDT hu1) (pe_tup (pa_cons (pv 4) (pa_cons (pe_op op_sub (pv 5) pe_int) pa_nil))) (pv 1) (by rfl)) (pss_one (ps_aug (i := 3) sc_edge_of.nd rfl (Or.inl rfl) pe_int ip_add)) pss_nil)
  (pss_one (ps_if (pt_cmpR op_eq (pv 4) pe_int (nomark _)) (pss_one (ps_aug (i := 3) sc_edge_of.nd rfl (Or.inl rfl) pe_int ip_sub)) (pss_one (ps_if (pt_cmpR (op_notInDT hu1) (pe_tup (pa_cons (pe_op op_sub (pv 4) pe_int) (pa_cons (pv 5) pa_nil))) (pv 1) (by rfl)) (pss_one (ps_aug (i := 3) sc_edge_of.nd rfl (Or.inl rfl) pe_int ip_add)) pss_nil))))))))
  (pss_one (ps_ret (pv 3)))))), ?_⟩
    walk_at "rd"
    refine ⟨⟨_, SqT.of ht⟩, fun D hD => ?_⟩
    refine dcT_tup (K := K) (a := t) (xs := ys) (fun i H' => Ex H H' ∧ H' D = some (.dT (sqD (zs.take i)))) ⟨Evl.Ex.new hD, upd_same⟩ (fun i H' _ q => SqT.of (q.1 _ _ ht)) ?_ ?_
    · rintro i v H' hv ⟨q1, q2⟩
      obtain ⟨a, z, rfl, hz', ha⟩ := pl.at hv
      refine ⟨rfl, ?_⟩
      walk_at "rd"
      have lt := (List.getElem?_eq_some_iff.mp hz').1
      have new : z ∉ zs.take i := ((nodup_next hz').mp (nd.sublist (List.take_sublist _ _))).2
      refine ⟨a, keyS z, _, rfl, q1 _ _ ha, q2, by simp only [sqD, List.length_map, List.length_take]; omega, Evl.Ex.mut q1 hD, ?_⟩
      rw [upd_same, sqD_put new, take_one hz']
    rintro H1 ⟨q1, q2⟩
    rw [lx, List.take_length] at q2
    walk_at "rd"
    refine ⟨⟨_, SqT.of (q1 _ _ ht)⟩, ?_⟩
    refine for_tup (K := K) (a := t) (xs := ys) (fun i σ H' => Ex H1 H' ∧ ∃ x4 x5, σ = [some (.ref t), some (.ref D), none, some (.int ((zs.take i).map (edge1 zs)).sum), x4, x5])
      ⟨fun _ _ h => h, _, _, rfl⟩ (fun i σ H' _ q => SqT.of ((q1.trans q.1) _ _ ht)) ?_ ?_
    · rintro i w σ H' hw ⟨r1, x4, x5, rfl⟩
      obtain ⟨a, z, rfl, hz', ha⟩ := pl.at hw
      obtain ⟨x, y⟩ := z
      have sum1 : ((zs.take (i + 1)).map (edge1 zs)).sum = ((zs.take i).map (edge1 zs)).sum + edge1 zs (x, y) := by
        rw [take_one hz', List.map_append, List.sum_append]
        simp
      generalize hs : ((zs.take i).map (edge1 zs)).sum = s0 at sum1
      refine ⟨a, _, rfl, SqT.of ((q1.trans r1) _ _ ha), rfl, _, _, rfl, _, _, rfl, rfl, ?_⟩
      refine ⟨fun σ' H'' => σ' = [some (.ref t), some (.ref D), none, some (.int (s0 + (if (x + 1, y) ∈ zs then 0 else 1))), some (.int x), some (.int y)] ∧ Ex H1 H'', ?_, ?_⟩
      · have small := small
        walk_at "rd"
        intro tn htn
        have en := Evl.Ex.new (o := .tup [.int (x+1), .int (y)]) htn
        have gn := r1.trans en
        walk_at "rd"
        refine ⟨tn, D, keyS (x+1, y), _, rfl, rfl, gn _ _ q2, upd_same, ?_⟩
        rw [sqD_val]
        refine ⟨_, rfl, ?_⟩
        refine ifB (fun c => ?_) (fun c => ?_)
        · have c : (x + 1, y) ∉ zs := by simpa using c
          walk_at "rd"
          rw [if_neg c]
          exact ⟨rfl, gn⟩
        · have c : (x + 1, y) ∈ zs := by simpa using c
          walk_at "rd"
          rw [if_pos c, Int.add_zero]
          exact ⟨rfl, gn⟩
      rintro σ' H2 ⟨rfl, r2⟩
      refine ⟨fun σ' H'' => σ' = [some (.ref t), some (.ref D), none, some (.int (s0 + (if (x + 1, y) ∈ zs then 0 else 1) + (if (x, y + 1) ∈ zs then 0 else 1))), some (.int x), some (.int y)] ∧ Ex H1 H'', ?_, ?_⟩
      · generalize s0 + (if (x + 1, y) ∈ zs then (0 : Int) else 1) = s1
        walk_at "rd"
        intro tn htn
        have en := Evl.Ex.new (o := .tup [.int (x), .int (y+1)]) htn
        have gn := r2.trans en
        walk_at "rd"
        refine ⟨tn, D, keyS (x, y+1), _, rfl, rfl, gn _ _ q2, upd_same, ?_⟩
        rw [sqD_val]
        refine ⟨_, rfl, ?_⟩
        refine ifB (fun c => ?_) (fun c => ?_)
        · have c : (x, y + 1) ∉ zs := by simpa using c
          walk_at "rd"
          rw [if_neg c]
          exact ⟨rfl, gn⟩
        · have c : (x, y + 1) ∈ zs := by simpa using c
          walk_at "rd"
          rw [if_pos c, Int.add_zero]
          exact ⟨rfl, gn⟩
      rintro σ' H3 ⟨rfl, r3⟩
      refine ⟨fun σ' H'' => σ' = [some (.ref t), some (.ref D), none, some (.int (s0 + (if (x + 1, y) ∈ zs then 0 else 1) + (if (x, y + 1) ∈ zs then 0 else 1) + (if (x, y - 1) ∈ zs then 0 else 1))), some (.int x), some (.int y)] ∧ Ex H1 H'', ?_, ?_⟩
      · generalize s0 + (if (x + 1, y) ∈ zs then (0 : Int) else 1) + (if (x, y + 1) ∈ zs then (0 : Int) else 1) = s1
        walk_at "rd"
        intro tn htn
        have en := Evl.Ex.new (o := .tup [.int (x), .int (y-1)]) htn
        have gn := r3.trans en
        walk_at "rd"
        refine ⟨tn, D, keyS (x, y-1), _, rfl, rfl, gn _ _ q2, upd_same, ?_⟩
        rw [sqD_val]
        refine ⟨_, rfl, ?_⟩
        refine ifB (fun c => ?_) (fun c => ?_)
        · have c : (x, y - 1) ∉ zs := by simpa using c
          walk_at "rd"
          rw [if_neg c]
          exact ⟨rfl, gn⟩
        · have c : (x, y - 1) ∈ zs := by simpa using c
          walk_at "rd"
          rw [if_pos c, Int.add_zero]
          exact ⟨rfl, gn⟩
      rintro σ' H4 ⟨rfl, r4⟩
      have ed : edge1 zs (x, y) = (if (x + 1, y) ∈ zs then (0 : Int) else 1) + (if (x, y + 1) ∈ zs then (0 : Int) else 1) + (if (x, y - 1) ∈ zs then (0 : Int) else 1) + (if x = 0 then -1 else if (x - 1, y) ∈ zs then 0 else 1) := rfl
      have fin : ∀ n : Int, n = s0 + (if (x + 1, y) ∈ zs then (0 : Int) else 1) + (if (x, y + 1) ∈ zs then (0 : Int) else 1) + (if (x, y - 1) ∈ zs then (0 : Int) else 1) + (if x = 0 then -1 else if (x - 1, y) ∈ zs then 0 else 1) → ((zs.take (i + 1)).map (edge1 zs)).sum = n := by
        intro n e
        rw [sum1, ed, e]
        omega
      clear sum1 ed
      generalize s0 + (if (x + 1, y) ∈ zs then (0 : Int) else 1) + (if (x, y + 1) ∈ zs then (0 : Int) else 1) + (if (x, y - 1) ∈ zs then (0 : Int) else 1) = s1 at fin
      walk_at "rd"
      refine ifB (fun c0 => ?_) (fun c0 => ?_)
      · have c0 : x = 0 := by simpa using c0
        walk_at "rd"
        exact ⟨some (.int x), some (.int y), by rw [fin (s1 - 1) (by rw [if_pos c0]; omega)] <;> rfl⟩
      · have c0 : ¬ x = 0 := by simpa using c0
        walk_at "rd"
        intro tn htn
        have en := Evl.Ex.new (o := .tup [.int (x - 1), .int y]) htn
        have gn := r4.trans en
        walk_at "rd"
        refine ⟨tn, D, keyS (x - 1, y), _, rfl, rfl, gn _ _ q2, upd_same, ?_⟩
        rw [sqD_val]
        refine ⟨_, rfl, ?_⟩
        refine ifB (fun c => ?_) (fun c => ?_)
        · have c : (x - 1, y) ∉ zs := by simpa using c
          walk_at "rd"
          exact ⟨some (.int x), some (.int y), by rw [fin (s1 + 1) (by rw [if_neg c0, if_neg c])] <;> rfl⟩
        · have c : (x - 1, y) ∈ zs := by simpa using c
          walk_at "rd"
          exact ⟨some (.int x), some (.int y), by rw [fin s1 (by rw [if_neg c0, if_pos c]; omega)] <;> rfl⟩
    · rintro σ H' ⟨r1, x4, x5, rfl⟩
      walk_at "rd"
      rw [lx, List.take_length]
      exact k _ (q1.trans r1)
def hits (zs fs : List (Int × Int)) : Nat := (zs.filter fun z => decide (z ∈ fs)).length
/-- what makes a wall better, the less the better -/
def rank (zs fs : List (Int × Int)) : List Int := [edge zs - 2 * (hits zs fs : Int), -(hits zs fs : Int), (zs.length : Int)]
def spRank : Sp := fun vs H Q _ => ∃ (t1 t2 : Addr) (ys1 ys2 : List V) (zs fs : List (Int × Int)), vs = [.ref t1, .ref t2] ∧ H t1 = some (.tup ys1) ∧ PL H ys1 zs ∧ zs.Nodup ∧ H t2 = some (.tup ys2) ∧ PL H ys2 fs ∧ fs.Nodup ∧ zs.length ≤ 60 ∧ fs.length ≤ 60 ∧
  ∀ (t : Addr) (H' : Hp), Ex H H' → H t = none → H' t = some (.tup ((rank zs fs).map V.int)) → Q (.ref t) H'
theorem ok_rank_of (T : Txt K mg) : FnOk P w K mg base CX0 2 T.f_rank_of T.d_rank_of ["squares", "fires"] spRank := by
  have G_both : FnOk P w K mg base CX0 1 T.f_both T.d_both ["first", "second"] spBoth := ok_both T
  have G_edge_of : FnOk P w K mg base CX0 1 T.f_edge_of T.d_edge_of ["squares"] spEdge := ok_edge_of T
  refine T.F_rank_of.ok sc_rank_of (fun vs H Q E h => ?_) (fun cdv A outer s H vs Q E hr h => ?_)
  · obtain ⟨t1, t2, ys1, ys2, zs1, zs2, rfl, _⟩ := h
    rfl
  · obtain ⟨t1, t2, ys1, ys2, zs, fs, rfl, h1, pl1, nd1, h2, pl2, nd2, l1, l2, k⟩ := h
    have hr1 := hr
    have small : sizeLine = 16777216 := sizeLine_eq
    have lx1 := pl1.len
    refine ⟨_, (pss_cons (ps_set (i := 2) sc_rank_of.nd rfl (Or.inl rfl) (pe_callB call_len_seq (by rfl) T.z_len (by decide +kernel) (pa_cons (pe_call G_both hr1 rfl T.g_both T.F_both.kp (b_both T) .nil pass0 (pa_cons (pv 0) (pa_cons (pv 1) pa_nil))) pa_nil)))
  (pss_one (ps_ret (pe_tup (pa_cons (pe_op op_sub (pe_call G_edge_of hr1 rfl T.g_edge_of T.F_edge_of.kp (b_edge_of T) .nil pass0 (pa_cons (pv 0) pa_nil)) (pe_op op_mul pe_int (pv 2))) (pa_cons (pe_un un_neg (pv 2)) (pa_cons (pe_callB call_len_seq (by rfl) T.z_len (by decide +kernel) (pa_cons (pv 0) pa_nil)) pa_nil))))))), ?_⟩
    walk_at "rd"
    refine ⟨t1, t2, ys1, ys2, zs, fs, rfl, h1, pl1, h2, pl2, nd2, l1, l2, fun t ys H1 e1 nt ht1 pl => ?_⟩
    have hl : ys.length = hits zs fs := pl.len
    walk_at "rd"
    rw [hl]
    have lh : hits zs fs ≤ 60 := Nat.le_trans (List.length_filter_le _ _) l1
    refine ⟨t1, ys1, zs, rfl, e1 _ _ h1, pl1.mono e1, nd1, l1, fun H2 e2 => ?_⟩
    walk_at "rd"
    have e12 := e1.trans e2
    refine ⟨t1, ys1, rfl, .inr (SqT.of (e12 _ _ h1)), ?_⟩
    walk_at "rd"
    intro r hr'
    have er := Evl.Ex.new (o := .tup [.int (edge zs - 2 * (hits zs fs : Int)), .int (-(hits zs fs : Int)), .int (ys1.length : Int)]) hr'
    refine k r _ (e12.trans er) (Evl.fresh_back e12 hr') ?_
    rw [lx1]
    exact upd_same
end
end K05
namespace K05
open PySem PySem.Spec PyProof.Rows L2 Kg
open Evl (Ex)


theorem sum_perm {l m : List Int} (h : l.Perm m) : l.sum = m.sum := by
  induction h with
  | nil => rfl
  | cons x _ ih => simp [ih]
  | swap x y l => simp; omega
  | trans _ _ a b => exact a.trans b
theorem edge_perm {zs us : List (Int × Int)} (h : zs.Perm us) : edge zs = edge us := by
  unfold edge
  have e : edge1 zs = edge1 us := by
    funext z
    unfold edge1
    simp only [h.mem_iff]
  rw [e]
  exact sum_perm (h.map _)
theorem hits_perm {zs us fs gs : List (Int × Int)} (h : zs.Perm us) (g : fs.Perm gs) : hits zs fs = hits us gs := by
  unfold hits
  have e : (fun z : Int × Int => decide (z ∈ fs)) = fun z => decide (z ∈ gs) := by
    funext z
    exact decide_eq_decide.mpr g.mem_iff
  rw [e]
  exact (h.filter _).length_eq
theorem rank_perm {zs us fs gs : List (Int × Int)} (h : zs.Perm us) (g : fs.Perm gs) : rank zs fs = rank us gs := by
  unfold rank
  rw [edge_perm h, hits_perm h g, h.length_eq]
/-- the squares that a value tells -/
def sqs (d : PyData) : List (Int × Int) := match seqOf d with
  | some ds => prs ds
  | none => []
theorem sqs_of {d : PyData} {ds : List PyData} (h : seqOf d = some ds) : sqs d = prs ds := by unfold sqs; rw [h]
theorem sqs_nodup {d : PyData} (h : areSq d = true) : (sqs d).Nodup := by
  unfold areSq at h
  unfold sqs
  cases e : seqOf d with
  | none => rw [e] at h; cases h
  | some ds =>
    rw [e] at h
    obtain ⟨h1, h2⟩ := Bool.and_eq_true_iff.mp h
    rw [prs_some h1] at h2
    exact (nodup_some _).mp (of_decide_eq_true h2)
inductive Out where
  | bad (p : Str)
  | misfit (p : Str)
  | told (b : Bool)
def better (d1 d2 d3 : PyData) : Out :=
  if areSq d1 = false then .bad "one" else if areSq d2 = false then .bad "other" else if areSq d3 = false then .bad "burnt" else
  if (sqs d1).any (fun z => decide (z.1 < 0)) = true then .misfit "one" else if (sqs d2).any (fun z => decide (z.1 < 0)) = true then .misfit "other" else
  .told (HT.lexLt (rank (sqs d1) (sqs d3)) (rank (sqs d2) (sqs d3)))
def Short (d : PyData) : Prop := ∀ ds, seqOf d = some ds → ds.length < 60
section
variable {P : Program} {w : World} {K : PySem.W.Frag} {mg : Str → Option Value} {base : Heap}
def spBetter (K : PySem.W.Frag) (CB CM : Addr) : Sp := fun vs H Q E => ∃ (v1 v2 v3 : V) (d1 d2 d3 : PyData), vs = [v1, v2, v3] ∧ Da K H v1 d1 ∧ Da K H v2 d2 ∧ Da K H v3 d3 ∧ Short d1 ∧ Short d2 ∧ Short d3 ∧
  (∀ b, better d1 d2 d3 = .told b → ∀ H', Ex H H' → Q (.bl b) H') ∧
  (∀ p, better d1 d2 d3 = .bad p → ∀ dx H', Ex H H' → H dx = none → H' dx = some (.xd [("part", .str p)]) → E (.ref CB) (some dx) H') ∧
  (∀ p, better d1 d2 d3 = .misfit p → ∀ dx H', Ex H H' → H dx = none → H' dx = some (.xd [("part", .str p)]) → E (.ref CM) (some dx) H')
theorem ok_is_better (T : Txt K mg) : FnOk P w K mg base (L2.CX P w) 5 T.f_is_better T.d_is_better ["one", "other", "burnt"] (spBetter K T.c_BadSquares T.c_Misfit) := by
  have G_taken_squares : FnOk P w K mg base (L2.CX P w) 4 T.f_taken_squares T.d_taken_squares ["squares", "part"] (spTakenS K T.c_BadSquares) := ok_taken_squares T
  have G_check_right : FnOk P w K mg base (L2.CX P w) 4 T.f_check_right T.d_check_right ["squares", "part"] (spRight T.c_Misfit) := (ok_check_right T).mono (by decide)
  have G_rank_of : FnOk P w K mg base CX0 4 T.f_rank_of T.d_rank_of ["squares", "fires"] spRank := (ok_rank_of T).mono (by decide)
  refine T.F_is_better.okX sc_is_better (fun vs H Q E h => ?_) (fun cdv A outer s H vs Q E hr h => ?_)
  · obtain ⟨v1, v2, v3, d1, d2, d3, rfl, _⟩ := h
    rfl
  · obtain ⟨v1, v2, v3, d1, d2, d3, rfl, a1, a2, a3, s1, s2, s3, k, kb, km⟩ := h
    have hr1 := hr
    have hu0 : (A.deeper (envOfC "is_better" (defScope s_is_better) s.heap.objs.size T.f_is_better cdv)).units < cLine := by have := hr.un; omega
    refine ⟨_, (pss_cons (ps_set (i := 3) sc_is_better.nd rfl (Or.inl rfl) (pe_call G_taken_squares hr1 rfl T.g_taken_squares T.F_taken_squares.kp (b_taken_squares T) .nil (passes_call (takes_of rfl rfl rfl rfl) (fun _ _ _ _ h => h)) (pa_cons (pv 0) (pa_cons pe_str pa_nil))))
  (pss_cons (ps_set (i := 4) sc_is_better.nd rfl (Or.inl rfl) (pe_call G_taken_squares hr1 rfl T.g_taken_squares T.F_taken_squares.kp (b_taken_squares T) .nil (passes_call (takes_of rfl rfl rfl rfl) (fun _ _ _ _ h => h)) (pa_cons (pv 1) (pa_cons pe_str pa_nil))))
  (pss_cons (ps_set (i := 5) sc_is_better.nd rfl (Or.inl rfl) (pe_call G_taken_squares hr1 rfl T.g_taken_squares T.F_taken_squares.kp (b_taken_squares T) .nil (passes_call (takes_of rfl rfl rfl rfl) (fun _ _ _ _ h => h)) (pa_cons (pv 2) (pa_cons pe_str pa_nil))))
  (pss_cons (ps_expr (pe_call G_check_right hr1 rfl T.g_check_right T.F_check_right.kp (b_check_right T) .nil (passes_call (takes_of rfl rfl rfl rfl) (fun _ _ _ _ h => h)) (pa_cons (pv 3) (pa_cons pe_str pa_nil))))
  (pss_cons (ps_expr (pe_call G_check_right hr1 rfl T.g_check_right T.F_check_right.kp (b_check_right T) .nil (passes_call (takes_of rfl rfl rfl rfl) (fun _ _ _ _ h => h)) (pa_cons (pv 4) (pa_cons pe_str pa_nil))))
  (pss_one (ps_ret (pe_cmpR (op_ltT hu0) (pe_call G_rank_of hr1 rfl T.g_rank_of T.F_rank_of.kp (b_rank_of T) .nil pass0 (pa_cons (pv 3) (pa_cons (pv 5) pa_nil))) (pe_call G_rank_of hr1 rfl T.g_rank_of T.F_rank_of.kp (b_rank_of T) .nil pass0 (pa_cons (pv 4) (pa_cons (pv 5) pa_nil))) (nomark _))))))))), ?_⟩
    walk_at "rd"
    refine ⟨?_, fun no => kb "one" (by unfold better; rw [if_pos no])⟩
    intro ds1 are1 sq1 t1 ys1 k1 H1 e1 n1 h1 pl1 pm1 _
    have pl1 : PL H1 ys1 (ys1.map k1) := pl1.mono fun a o h => (neu_of h).2
    rw [← sqs_of sq1] at pm1
    walk_at "rd"
    refine ⟨v2, .str "other", d2, rfl, Da.mono e1 d2 a2, s2, ?_, fun no dx H' e nx hx => kb "other" (by unfold better; rw [if_neg (by rw [are1]; decide), if_pos no]) dx H' (e1.trans e) (Evl.fresh_back e1 nx) hx⟩
    intro ds2 are2 sq2 t2 ys2 k2 H2 e2 n2 h2 pl2 pm2 _
    have pl2 : PL H2 ys2 (ys2.map k2) := pl2.mono fun a o h => (neu_of h).2
    rw [← sqs_of sq2] at pm2
    have e12 := e1.trans e2
    walk_at "rd"
    refine ⟨v3, .str "burnt", d3, rfl, Da.mono e12 d3 a3, s3, ?_, fun no dx H' e nx hx => kb "burnt" (by unfold better; rw [if_neg (by rw [are1]; decide), if_neg (by rw [are2]; decide), if_pos no]) dx H' (e12.trans e) (Evl.fresh_back e12 nx) hx⟩
    intro ds3 are3 sq3 t3 ys3 k3 H3 e3 n3 h3 pl3 pm3 _
    have pl3 : PL H3 ys3 (ys3.map k3) := pl3.mono fun a o h => (neu_of h).2
    rw [← sqs_of sq3] at pm3
    have e13 := e12.trans e3
    walk_at "rd"
    have few : ∀ {d : PyData} {ds : List PyData} {zs : List (Int × Int)}, seqOf d = some ds → Short d → zs.Perm (sqs d) → zs.length ≤ 60 := by
      intro d ds zs e s pm
      rw [pm.length_eq, sqs_of e]
      have := s ds e
      have : (prs ds).length ≤ ds.length := List.length_filterMap_le _ _
      omega
    have wrong : ∀ {d : PyData} {zs : List (Int × Int)}, zs.Perm (sqs d) → (∃ z ∈ zs, z.1 < 0) → (sqs d).any (fun z => decide (z.1 < 0)) = true := by
      rintro d zs pm ⟨z, hz, hn⟩
      exact List.any_eq_true.mpr ⟨z, pm.mem_iff.mp hz, decide_eq_true hn⟩
    have right : ∀ {d : PyData} {zs : List (Int × Int)}, zs.Perm (sqs d) → (∀ z ∈ zs, 0 ≤ z.1) → ¬ (sqs d).any (fun z => decide (z.1 < 0)) = true := by
      intro d zs pm h c
      obtain ⟨z, hz, hn⟩ := List.any_eq_true.mp c
      have := h z (pm.mem_iff.mpr hz)
      have := of_decide_eq_true hn
      omega
    have o1 : ¬ areSq d1 = false := by rw [are1]; decide
    have o2 : ¬ areSq d2 = false := by rw [are2]; decide
    have o3 : ¬ areSq d3 = false := by rw [are3]; decide
    have f1 := few sq1 s1 pm1
    have f2 := few sq2 s2 pm2
    have f3 := few sq3 s3 pm3
    walk_at "rd"
    refine ⟨t1, ys1, _, .str "one", rfl, (e2.trans e3) _ _ h1, pl1.mono (e2.trans e3), f1, fun r1 H4 e4 => ?_, fun wr dx H' e nx hx => km "one" (by unfold better; rw [if_neg o1, if_neg o2, if_neg o3, if_pos (wrong pm1 wr)]) dx H' (e13.trans e) (Evl.fresh_back e13 nx) hx⟩
    have e14 := e13.trans e4
    walk_at "rd"
    refine ⟨t2, ys2, _, .str "other", rfl, (e3.trans e4) _ _ h2, pl2.mono (e3.trans e4), f2, fun r2 H5 e5 => ?_, fun wr dx H' e nx hx => km "other" (by unfold better; rw [if_neg o1, if_neg o2, if_neg o3, if_neg (right pm1 r1), if_pos (wrong pm2 wr)]) dx H' (e14.trans e) (Evl.fresh_back e14 nx) hx⟩
    have e15 := e14.trans e5
    have w1 := (e2.trans e3).trans (e4.trans e5)
    have w2 := e3.trans (e4.trans e5)
    have w3 := e4.trans e5
    have nd1 := pm1.symm.nodup (sqs_nodup are1)
    have nd2 := pm2.symm.nodup (sqs_nodup are2)
    have nd3 := pm3.symm.nodup (sqs_nodup are3)
    walk_at "rd"
    refine ⟨t1, t3, ys1, ys3, _, _, rfl, w1 _ _ h1, pl1.mono w1, nd1, w3 _ _ h3, pl3.mono w3, nd3, f1, f3, fun r1' H6 e6 _ hr6 => ?_⟩
    walk_at "rd"
    refine ⟨t2, t3, ys2, ys3, _, _, rfl, (w2.trans e6) _ _ h2, pl2.mono (w2.trans e6), nd2, (w3.trans e6) _ _ h3, pl3.mono (w3.trans e6), nd3, f2, f3, fun r2' H7 e7 _ hr7 => ?_⟩
    refine ⟨r1', r2', _, _, rfl, rfl, SqT.of (e7 _ _ hr6), SqT.of hr7, ?_⟩
    rw [rank_perm pm1 pm3, rank_perm pm2 pm3]
    exact k _ (by unfold better; rw [if_neg o1, if_neg o2, if_neg o3, if_neg (right pm1 r1), if_neg (right pm2 r2)]) _ ((e15.trans e6).trans e7)
end
end K05
namespace K05
open PySem PySem.Spec PyProof.Rows L2 Kg
open Evl (Ex)


/-! ### pairs as tuples -/
def pairT (z : Int × Int) : PyData := .tuple [.int z.1, .int z.2]
theorem pairT_shaped (z : Int × Int) : SeqAt.shaped (pairT z) = true := by simp [pairT, SeqAt.shaped, PyData.canLay0, PyData.canLayAll0, PyData.depth, PyData.depthAll]
theorem pairTs_lay : ∀ zs : List (Int × Int), PyData.canLayAll0 (zs.map pairT) = true
  | [] => by simp [PyData.canLayAll0]
  | z :: zs => by simp [PyData.canLayAll0, pairT, PyData.canLay0, pairTs_lay zs]
theorem pairTs_depth : ∀ zs : List (Int × Int), PyData.depthAll (zs.map pairT) ≤ 1
  | [] => by simp [PyData.depthAll]
  | z :: zs => by
    have := pairTs_depth zs
    simp [PyData.depthAll, pairT, PyData.depth]
    omega
theorem pairTs_shaped (zs : List (Int × Int)) : SeqAt.shaped (.list (zs.map pairT)) = true := by
  have := pairTs_depth zs
  simp [SeqAt.shaped, PyData.canLay0, pairTs_lay, PyData.depth]
  omega
theorem pairT_eqv (z u : Int × Int) : PyData.eqv (pairT z) (pairT u) = decide (z = u) := by
  obtain ⟨a, b⟩ := z
  obtain ⟨c, d⟩ := u
  by_cases h1 : a = c <;> by_cases h2 : b = d <;> simp [pairT, PyData.eqv, PyData.eqvAll, h1, h2]
theorem pairTs_any (zs : List (Int × Int)) (u : Int × Int) : ((zs.map pairT).any fun z => PyData.eqv z (pairT u)) = decide (u ∈ zs) := by
  rw [List.any_map]
  by_cases h : u ∈ zs
  · rw [decide_eq_true h, List.any_eq_true]
    exact ⟨u, h, by simp [Function.comp, pairT_eqv]⟩
  · rw [decide_eq_false h, List.any_eq_false]
    intro z hz
    simp only [Function.comp, pairT_eqv, decide_eq_true_eq]
    rintro rfl
    exact h hz
theorem PL.da {K : PySem.W.Frag} {H : Hp} : ∀ {vs : List V} {zs : List (Int × Int)}, PL H vs zs → DaAll K H vs (zs.map pairT)
  | _, _, .nil => .nil
  | _, _, .cons h t => .cons (.tup (SqT.of h) (.cons (.int _) (.cons (.int _) .nil))) (PL.da t)
theorem PL.dp {K : PySem.W.Frag} {H : Hp} {vs : List V} {zs : List (Int × Int)} (h : PL H vs zs) : DpAll K H vs (zs.map pairT) := DaAll.dp _ (pairTs_lay zs) h.da
/-! ### the edge by runs -/
def ups (zs : List (Int × Int)) : Nat := (zs.filter fun z => decide ((z.1, z.2 - 1) ∉ zs)).length
def acrosses (zs : List (Int × Int)) : Nat := (zs.filter fun z => decide (z.1 > 0) && decide ((z.1 - 1, z.2) ∉ zs)).length
theorem count_shift {zs : List (Int × Int)} (nd : zs.Nodup) (f g : Int × Int → Int × Int) (fg : ∀ z, f (g z) = z) (gf : ∀ z, g (f z) = z) :
    (zs.filter fun z => decide (f z ∈ zs)).length = (zs.filter fun z => decide (g z ∈ zs)).length := by
  have one : ∀ (f g : Int × Int → Int × Int), (∀ z, f (g z) = z) → (∀ z, g (f z) = z) → (zs.filter fun z => decide (f z ∈ zs)).length ≤ (zs.filter fun z => decide (g z ∈ zs)).length := by
    intro f g fg gf
    rw [← List.length_map (f := f)]
    refine len_of_sub _ _ ?_ ?_
    · rw [List.nodup_iff_pairwise_ne, List.pairwise_map]
      exact ((nd.sublist List.filter_sublist).imp fun h e => h (by have := congrArg g e; rwa [gf, gf] at this))
    · intro x hx
      obtain ⟨z, hz, rfl⟩ := List.mem_map.mp hx
      obtain ⟨h1, h2⟩ := List.mem_filter.mp hz
      refine List.mem_filter.mpr ⟨of_decide_eq_true h2, ?_⟩
      rw [gf]
      exact decide_eq_true h1
  exact Nat.le_antisymm (one f g fg gf) (one g f gf fg)
theorem sum_split : ∀ {zs : List (Int × Int)} (p : Int × Int → Bool), (zs.map fun z => if p z then (1 : Int) else 0).sum = ((zs.filter p).length : Int)
  | [], _ => rfl
  | z :: zs, p => by
    rw [List.map_cons, List.sum_cons, sum_split p, List.filter_cons]
    cases p z <;> simp <;> omega
theorem sum_add {f g h : Int × Int → Int} : ∀ {zs : List (Int × Int)}, (∀ z ∈ zs, f z = g z + h z) → (zs.map f).sum = (zs.map g).sum + (zs.map h).sum
  | [], _ => rfl
  | z :: zs, e => by
    rw [List.map_cons, List.map_cons, List.map_cons, List.sum_cons, List.sum_cons, List.sum_cons, e z List.mem_cons_self, sum_add fun u hu => e u (List.mem_cons_of_mem _ hu)]
    omega
theorem count_not {zs : List (Int × Int)} (p : Int × Int → Prop) [DecidablePred p] : (zs.filter fun z => decide (p z)).length + (zs.filter fun z => decide (¬ p z)).length = zs.length := by
  induction zs with
  | nil => rfl
  | cons z zs ih =>
    rw [List.filter_cons, List.filter_cons, List.length_cons]
    by_cases h : p z
    · simp only [h, decide_true, not_true, decide_false, if_true, Bool.false_eq_true, if_false, List.length_cons]
      omega
    · simp only [h, decide_true, not_false_eq_true, decide_false, if_true, Bool.false_eq_true, if_false, List.length_cons]
      omega
theorem shift_out {zs : List (Int × Int)} (nd : zs.Nodup) (f g : Int × Int → Int × Int) (fg : ∀ z, f (g z) = z) (gf : ∀ z, g (f z) = z) :
    (zs.filter fun z => decide (f z ∉ zs)).length = (zs.filter fun z => decide (g z ∉ zs)).length := by
  have h1 := count_not (zs := zs) fun z => f z ∈ zs
  have h2 := count_not (zs := zs) fun z => g z ∈ zs
  have h3 := count_shift nd f g fg gf
  omega
theorem edge_runs {zs : List (Int × Int)} (nd : zs.Nodup) (right : ∀ z ∈ zs, 0 ≤ z.1) : edge zs = 2 * (ups zs : Int) + 2 * (acrosses zs : Int) := by
  have out : ∀ f : Int × Int → Int × Int, (zs.map fun z => if f z ∈ zs then (0 : Int) else 1).sum = ((zs.filter fun z => decide (f z ∉ zs)).length : Int) := by
    intro f
    rw [← sum_split]
    congr 1
    refine List.map_congr_left fun z _ => ?_
    by_cases h : f z ∈ zs <;> simp [h]
  have r := out fun z => (z.1 + 1, z.2)
  have u := out fun z => (z.1, z.2 + 1)
  have d := out fun z => (z.1, z.2 - 1)
  have l := out fun z => (z.1 - 1, z.2)
  have rl := shift_out nd (fun z => (z.1 + 1, z.2)) (fun z => (z.1 - 1, z.2)) (by intro z; simp) (by intro z; simp)
  have ud := shift_out nd (fun z => (z.1, z.2 + 1)) (fun z => (z.1, z.2 - 1)) (by intro z; simp) (by intro z; simp)
  have a : (zs.map fun z => if (decide (z.1 > 0) && decide ((z.1 - 1, z.2) ∉ zs)) = true then (1 : Int) else 0).sum = (acrosses zs : Int) := sum_split _
  have t : (zs.map fun z => if z.1 = 0 then (-1 : Int) else if (z.1 - 1, z.2) ∈ zs then 0 else 1).sum + (zs.map fun z => if (z.1 - 1, z.2) ∈ zs then (0 : Int) else 1).sum
      = (zs.map fun z => if (decide (z.1 > 0) && decide ((z.1 - 1, z.2) ∉ zs)) = true then (1 : Int) else 0).sum + (zs.map fun z => if (decide (z.1 > 0) && decide ((z.1 - 1, z.2) ∉ zs)) = true then (1 : Int) else 0).sum := by
    rw [← sum_add (fun _ _ => rfl), ← sum_add (fun _ _ => rfl)]
    congr 1
    refine List.map_congr_left fun z hz => ?_
    have h0 := right z hz
    by_cases h : (z.1 - 1, z.2) ∈ zs
    · have h1 := right _ h
      have h2 : ¬ z.1 = 0 := by intro e; simp only at h1; omega
      simp [h, h2]
    · by_cases e : z.1 = 0
      · have hm : (-1, z.2) ∉ zs := by
          have h' := h
          rw [e] at h'
          simpa using h'
        simp [e, hm]
      · have : z.1 > 0 := by omega
        simp [h, e, this]
  have e : edge zs = ((zs.map fun z => if (z.1 + 1, z.2) ∈ zs then (0 : Int) else 1).sum + (zs.map fun z => if (z.1, z.2 + 1) ∈ zs then (0 : Int) else 1).sum + (zs.map fun z => if (z.1, z.2 - 1) ∈ zs then (0 : Int) else 1).sum)
      + (zs.map fun z => if z.1 = 0 then (-1 : Int) else if (z.1 - 1, z.2) ∈ zs then 0 else 1).sum := by
    rw [← sum_add (fun _ _ => rfl), ← sum_add (fun _ _ => rfl), ← sum_add (fun _ _ => rfl)]
    rfl
  unfold ups
  omega
section
variable {P : Program} {w : World} {K : PySem.W.Frag} {mg : Str → Option Value} {base : Heap}
/-- the law's own measure of a wall: just its rank -/
def spMeas (K : PySem.W.Frag) : Sp := fun vs H Q _ => ∃ (a f : Addr) (xs fs : List V) (zs gs : List (Int × Int)), vs = [.ref a, .ref f] ∧ SqL K H a xs ∧ PL H xs zs ∧ zs.Nodup ∧ (∀ z ∈ zs, 0 ≤ z.1) ∧ SqL K H f fs ∧ PL H fs gs ∧ zs.length ≤ 60 ∧ gs.length ≤ 60 ∧
  ∀ (t : Addr) (H' : Hp), Ex H H' → H t = none → H' t = some (.tup ((rank zs gs).map V.int)) → Q (.ref t) H'
theorem ok_w_measured (T : Txt K mg) : FnOk P w K mg base CX0 1 T.f_w_measured T.d_w_measured ["squares", "fire"] (spMeas K) := by
  refine T.F_w_measured.ok sc_w_measured (fun vs H Q E h => ?_) (fun cdv A outer s H vs Q E hr h => ?_)
  · obtain ⟨a, f, xs, fs, zs, gs, rfl, _⟩ := h
    rfl
  · obtain ⟨a, f, xs, fs, zs, gs, rfl, ha, pl, nd, rt, hf, pf, l1, l2, k⟩ := h
    have hr1 := hr
    have hu65 : (A.deeper (envOfC "_law_measured" (defScope s_w_measured) s.heap.objs.size T.f_w_measured cdv)).units + 65 < cLine := by have := hr.un; omega
    have small : sizeLine = 16777216 := sizeLine_eq
    have lx := pl.len
    refine ⟨_, (Evl.pss_cut (ps_setLc (i := 2) (own := [("x", 3), ("y", 4)]) (g := (gTup K 2 (gCons (gName 3) (gCons (gName 4) gNil)))) rfl sc_w_measured.nd rfl rfl (sw_true rfl rfl rfl (by decide +kernel)) (pi_list (pv 0)) (blkOk_by (own := [("x", 3), ("y", 4)]) (N := ["squares", "fire", "up", "x", "y", "across", "many", "square"]) (sc := defScope s_w_measured) (by decide +kernel)) (fun _ _ _ _ _ => (show PG _ _ (gTup K 2 (gCons (gName 3) (gCons (gName 4) gNil))) from pg_tup rfl (pgs_cons (pg_name (i := 3) sc_w_measured.nd rfl (Or.inl rfl)) (pgs_cons (pg_name (i := 4) sc_w_measured.nd rfl (Or.inl rfl)) pgs_nil)))) (fun _ _ _ _ _ => (pts_one (pt_cmpR (show OpR _ _ (rNotInD K) from op_notInD hu65) (pe_tup (pa_cons (pv 3) (pa_cons (pe_op op_sub (pv 4) pe_int) pa_nil))) (pv 0) (by rfl)))) (fun _ _ _ _ _ => pe_int))
  (Evl.pss_cut (ps_setLc (i := 5) (own := [("x", 3), ("y", 4)]) (g := (gTup K 2 (gCons (gName 3) (gCons (gName 4) gNil)))) rfl sc_w_measured.nd rfl rfl (sw_true rfl rfl rfl (by decide +kernel)) (pi_list (pv 0)) (blkOk_by (own := [("x", 3), ("y", 4)]) (N := ["squares", "fire", "up", "x", "y", "across", "many", "square"]) (sc := defScope s_w_measured) (by decide +kernel)) (fun _ _ _ _ _ => (show PG _ _ (gTup K 2 (gCons (gName 3) (gCons (gName 4) gNil))) from pg_tup rfl (pgs_cons (pg_name (i := 3) sc_w_measured.nd rfl (Or.inl rfl)) (pgs_cons (pg_name (i := 4) sc_w_measured.nd rfl (Or.inl rfl)) pgs_nil)))) (fun _ _ _ _ _ => (pts_one (PW.pt (pw_and (pt_cmpR op_gt (pv 3) pe_int (nomark _)) (pw_and1 (pt_cmpR (show OpR _ _ (rNotInD K) from op_notInD hu65) (pe_tup (pa_cons (pe_op op_sub (pv 3) pe_int) (pa_cons (pv 4) pa_nil))) (pv 0) (by rfl))))))) (fun _ _ _ _ _ => pe_int))
  (Evl.pss_cut (ps_set (i := 6) sc_w_measured.nd rfl (Or.inl rfl) (pe_callB call_len_seq (by rfl) T.z_len (by decide +kernel) (pa_cons (pe_lc (own := [("square", 7)]) (g := (gName 7)) rfl sc_w_measured.nd (pi_list (pv 0)) (blkOk_by (own := [("square", 7)]) (N := ["squares", "fire", "up", "x", "y", "across", "many", "square"]) (sc := defScope s_w_measured) (by decide +kernel)) (fun _ _ _ _ _ => (pg_name (i := 7) sc_w_measured.nd rfl (Or.inl rfl))) (fun _ _ _ _ _ => (pts_one (pt_cmpR (show OpR _ _ (rInD K) from op_inD hu65) (pv 7) (pv 1) (by rfl)))) (fun _ _ _ _ _ => (pv 7))) pa_nil)))
  (pss_one (ps_ret (pe_tup (pa_cons (pe_op op_sub (pe_op op_add (pe_op op_mul pe_int (pe_callB call_len_seq (by rfl) T.z_len (by decide +kernel) (pa_cons (pv 2) pa_nil))) (pe_op op_mul pe_int (pe_callB call_len_seq (by rfl) T.z_len (by decide +kernel) (pa_cons (pv 5) pa_nil)))) (pe_op op_mul pe_int (pv 6))) (pa_cons (pe_un un_neg (pv 6)) (pa_cons (pe_callB call_len_seq (by rfl) T.z_len (by decide +kernel) (pa_cons (pv 0) pa_nil)) pa_nil))))))))), ?_⟩
    have pdp : ∀ {H'}, Ex H H' → Dp K H' (.ref a) (.list (zs.map pairT)) := fun e => .lst (Evl.ex_l e ha) (pl.mono e).dp
    refine ⟨fun σ' H' => ∃ u us, σ' = [some (.ref a), some (.ref f), some (.ref u), none, none, none, none, none] ∧ Ex H H' ∧ H' u = some (.lst us) ∧ us.length = ups zs, ?_, ?_⟩
    · walk_at "rd"
      refine ⟨⟨_, ha⟩, fun D hD => ?_⟩
      refine lc_list (K := K) (a := a) (xs := xs) (fun i H' => Ex H H' ∧ ∃ us, H' D = some (.lst us) ∧ us.length = ((zs.take i).filter fun z => decide ((z.1, z.2 - 1) ∉ zs)).length)
        ⟨Evl.Ex.new hD, [], upd_same, rfl⟩ (fun i H' _ q => Evl.ex_l q.1 ha) ?_ ?_
      · rintro i v H' hv ⟨q1, us, q2, q3⟩
        obtain ⟨t, z, rfl, hz, ht⟩ := pl.at hv
        have lt := (List.getElem?_eq_some_iff.mp hz).1
        have lu : us.length ≤ 60 := by
          rw [q3]
          exact Nat.le_trans (List.length_filter_le _ _) (by rw [List.length_take]; omega)
        rw [take_one hz, List.filter_append, List.length_append]
        refine ⟨t, _, rfl, SqT.of (q1 _ _ ht), rfl, _, _, rfl, _, _, rfl, rfl, rfl, ?_⟩
        walk_at "rd"
        intro tn htn
        have en := Evl.Ex.new (o := .tup [.int z.1, .int (z.2 - 1)]) htn
        walk_at "rd"
        refine ⟨pairT (z.1, z.2 - 1), zs.map pairT, .tup (SqT.of upd_same) (.cons (.int _) (.cons (.int _) .nil)), pdp (q1.trans en), pairT_shaped _, pairTs_shaped _, ?_⟩
        rw [pairTs_any]
        refine ⟨_, rfl, ?_⟩
        refine ifB (fun c => ?_) (fun c => ?_)
        · have c : (z.1, z.2 - 1) ∉ zs := by simpa using c
          walk_at "rd"
          refine ⟨us, en _ _ q2, by omega, Evl.Ex.mut (q1.trans en) hD, us ++ [.int 1], upd_same, ?_⟩
          rw [List.length_append, q3, List.filter_cons_of_pos (by simpa using c)]
          rfl
        · have c : (z.1, z.2 - 1) ∈ zs := by simpa using c
          refine ⟨q1.trans en, us, en _ _ q2, ?_⟩
          rw [q3, List.filter_cons_of_neg (by simpa using c)]
          rfl
      · rintro H1 ⟨q1, us, q2, q3⟩
        rw [lx, List.take_length] at q3
        exact ⟨D, us, rfl, q1, q2, q3⟩
    rintro σ' H1 ⟨u, us, rfl, e1, hu, lu⟩
    refine ⟨fun σ' H' => ∃ w ws, σ' = [some (.ref a), some (.ref f), some (.ref u), none, none, some (.ref w), none, none] ∧ Ex H1 H' ∧ H' w = some (.lst ws) ∧ ws.length = acrosses zs, ?_, ?_⟩
    · walk_at "rd"
      refine ⟨⟨_, Evl.ex_l e1 ha⟩, fun D hD => ?_⟩
      refine lc_list (K := K) (a := a) (xs := xs) (fun i H' => Ex H1 H' ∧ ∃ us, H' D = some (.lst us) ∧ us.length = ((zs.take i).filter fun z => decide (z.1 > 0) && decide ((z.1 - 1, z.2) ∉ zs)).length)
        ⟨Evl.Ex.new hD, [], upd_same, rfl⟩ (fun i H' _ q => Evl.ex_l (e1.trans q.1) ha) ?_ ?_
      · rintro i v H' hv ⟨q1, us', q2, q3⟩
        obtain ⟨t, z, rfl, hz, ht⟩ := pl.at hv
        have lt := (List.getElem?_eq_some_iff.mp hz).1
        have lu' : us'.length ≤ 60 := by
          rw [q3]
          exact Nat.le_trans (List.length_filter_le _ _) (by rw [List.length_take]; omega)
        rw [take_one hz, List.filter_append, List.length_append]
        refine ⟨t, _, rfl, SqT.of ((e1.trans q1) _ _ ht), rfl, _, _, rfl, _, _, rfl, rfl, rfl, ?_⟩
        walk_at "rd"
        refine ifB (fun c0 => ?_) (fun c0 => ?_)
        · have c0 : z.1 > 0 := by simpa using c0
          walk_at "rd"
          intro tn htn
          have en := Evl.Ex.new (o := .tup [.int (z.1 - 1), .int z.2]) htn
          walk_at "rd"
          refine ⟨pairT (z.1 - 1, z.2), zs.map pairT, .tup (SqT.of upd_same) (.cons (.int _) (.cons (.int _) .nil)), pdp ((e1.trans q1).trans en), pairT_shaped _, pairTs_shaped _, ?_⟩
          rw [pairTs_any]
          refine ⟨_, rfl, ?_⟩
          refine ifB (fun c => ?_) (fun c => ?_)
          · have c : (z.1 - 1, z.2) ∉ zs := by simpa using c
            walk_at "rd"
            refine ⟨us', en _ _ q2, by omega, Evl.Ex.mut (q1.trans en) hD, us' ++ [.int 1], upd_same, ?_⟩
            rw [List.length_append, q3, List.filter_cons_of_pos (by simp [c0, c])]
            rfl
          · have c : (z.1 - 1, z.2) ∈ zs := by simpa using c
            refine ⟨q1.trans en, us', en _ _ q2, ?_⟩
            rw [q3, List.filter_cons_of_neg (by simp [c])]
            rfl
        · have c0 : ¬ z.1 > 0 := by simpa using c0
          refine ⟨q1, us', q2, ?_⟩
          rw [q3, List.filter_cons_of_neg (by simp [c0])]
          rfl
      · rintro H2 ⟨q1, us', q2, q3⟩
        rw [lx, List.take_length] at q3
        exact ⟨D, us', rfl, q1, q2, q3⟩
    rintro σ' H2 ⟨w', ws, rfl, e2, hw, lw⟩
    have e12 := e1.trans e2
    refine ⟨fun σ' H' => σ' = [some (.ref a), some (.ref f), some (.ref u), none, none, some (.ref w'), some (.int (hits zs gs : Int)), none] ∧ Ex H2 H', ?_, ?_⟩
    · have fdp : ∀ {H'}, Ex H H' → Dp K H' (.ref f) (.list (gs.map pairT)) := fun e => .lst (Evl.ex_l e hf) (pf.mono e).dp
      walk_at "rd"
      refine ⟨⟨_, Evl.ex_l e12 ha⟩, fun D hD => ?_⟩
      refine lc_list (K := K) (a := a) (xs := xs) (fun i H' => Ex H2 H' ∧ ∃ us, H' D = some (.lst us) ∧ us.length = ((zs.take i).filter fun z => decide (z ∈ gs)).length)
        ⟨Evl.Ex.new hD, [], upd_same, rfl⟩ (fun i H' _ q => Evl.ex_l (e12.trans q.1) ha) ?_ ?_
      · rintro i v H' hv ⟨q1, us', q2, q3⟩
        obtain ⟨t, z, rfl, hz, ht⟩ := pl.at hv
        have lt := (List.getElem?_eq_some_iff.mp hz).1
        have lu' : us'.length ≤ 60 := by
          rw [q3]
          exact Nat.le_trans (List.length_filter_le _ _) (by rw [List.length_take]; omega)
        rw [take_one hz, List.filter_append, List.length_append]
        refine ⟨rfl, ?_⟩
        walk_at "rd"
        refine ⟨pairT z, gs.map pairT, .tup (SqT.of ((e12.trans q1) _ _ ht)) (.cons (.int _) (.cons (.int _) .nil)), fdp (e12.trans q1), pairT_shaped _, pairTs_shaped _, ?_⟩
        rw [pairTs_any]
        refine ⟨_, rfl, ?_⟩
        refine ifB (fun c => ?_) (fun c => ?_)
        · walk_at "rd"
          refine ⟨us', q2, by omega, Evl.Ex.mut q1 hD, us' ++ [.ref t], upd_same, ?_⟩
          rw [List.length_append, q3, List.filter_cons_of_pos (by simpa using c)]
          rfl
        · refine ⟨q1, us', q2, ?_⟩
          rw [q3, List.filter_cons_of_neg (by simpa using c)]
          rfl
      · rintro H3 ⟨q1, us', q2, q3⟩
        rw [lx, List.take_length] at q3
        refine ⟨D, us', rfl, .inl (SqL.of q2), ?_⟩
        walk_at "rd"
        refine ⟨?_, q1⟩
        rw [q3]
        rfl
    rintro σ' H3 ⟨rfl, e3⟩
    have e13 := e12.trans e3
    have hu3 := (e2.trans e3) _ _ hu
    have hw3 := e3 _ _ hw
    have lh : hits zs gs ≤ 60 := Nat.le_trans (List.length_filter_le _ _) l1
    have lu6 : ups zs ≤ 60 := Nat.le_trans (List.length_filter_le _ _) l1
    have la6 : acrosses zs ≤ 60 := Nat.le_trans (List.length_filter_le _ _) l1
    walk_at "rd"
    refine ⟨a, xs, rfl, .inl (Evl.ex_l e13 ha), ?_⟩
    walk_at "rd"
    intro r hr'
    have er := Evl.Ex.new (o := .tup [.int (2 * (us.length : Int) + 2 * (ws.length : Int) - 2 * (hits zs gs : Int)), .int (-(hits zs gs : Int)), .int (xs.length : Int)]) hr'
    refine k r _ (e13.trans er) (Evl.fresh_back e13 hr') ?_
    have e : rank zs gs = [2 * (us.length : Int) + 2 * (ws.length : Int) - 2 * (hits zs gs : Int), -(hits zs gs : Int), (xs.length : Int)] := by
      unfold rank
      rw [edge_runs nd rt, lu, lw, lx]
    rw [e]
    exact upd_same
end
end K05
namespace K05
open PySem PySem.Spec PyProof.Rows L2 Kg
open Evl (Ex)


section
variable {P : Program} {w : World} {K : PySem.W.Frag} {mg : Str → Option Value} {base : Heap}
/-- cost and burnt squares in one number, and the squares -/
def oneN (zs gs : List (Int × Int)) : List Int :=
  [((gs.length : Int) + 1) * ((edge zs - 2 * (hits zs gs : Int)) - 2 * (-(hits zs gs : Int))) + (2 * ((gs.length : Int) + 1) + 1) * (-(hits zs gs : Int)), (zs.length : Int)]
def spOne (K : PySem.W.Frag) : Sp := fun vs H Q _ => ∃ (a f : Addr) (xs fs : List V) (zs gs : List (Int × Int)), vs = [.ref a, .ref f] ∧ SqL K H a xs ∧ PL H xs zs ∧ zs.Nodup ∧ (∀ z ∈ zs, 0 ≤ z.1) ∧ SqL K H f fs ∧ PL H fs gs ∧ zs.length ≤ 60 ∧ gs.length ≤ 60 ∧
  ∀ (t : Addr) (H' : Hp), Ex H H' → H t = none → H' t = some (.tup ((oneN zs gs).map V.int)) → Q (.ref t) H'
theorem ok_w_in_one (T : Txt K mg) : FnOk P w K mg base CX0 2 T.f_w_in_one T.d_w_in_one ["squares", "fire"] (spOne K) := by
  have G_w_measured : FnOk P w K mg base CX0 1 T.f_w_measured T.d_w_measured ["squares", "fire"] (spMeas K) := ok_w_measured T
  refine T.F_w_in_one.ok sc_w_in_one (fun vs H Q E h => ?_) (fun cdv A outer s H vs Q E hr h => ?_)
  · obtain ⟨a, f, xs, fs, zs, gs, rfl, _⟩ := h
    rfl
  · obtain ⟨a, f, xs, fs, zs, gs, rfl, ha, pl, nd, rt, hf, pf, l1, l2, k⟩ := h
    have hr1 := hr
    have small : sizeLine = 16777216 := sizeLine_eq
    have lf := pf.len
    refine ⟨_, (pss_cons (ps_par (i := 2) (j := 3) (by rfl) sc_w_in_one.nd rfl rfl (by decide) rfl rfl (pa_cons (pe_call G_w_measured hr1 rfl T.g_w_measured T.F_w_measured.kp (b_w_measured T) .nil pass0 (pa_cons (pv 0) (pa_cons (pv 1) pa_nil))) (pa_cons (pe_op op_add (pe_callB call_len_seq (by rfl) T.z_len (by decide +kernel) (pa_cons (pv 1) pa_nil)) pe_int) pa_nil)) (by rfl))
  (pss_cons (ps_set (i := 4) sc_w_in_one.nd rfl (Or.inl rfl) (pe_op op_sub (pe_ix ix_tup (pv 2) pe_int (fun _ _ => rfl)) (pe_op op_mul pe_int (pe_ix ix_tup (pv 2) pe_int (fun _ _ => rfl)))))
  (pss_one (ps_ret (pe_tup (pa_cons (pe_op op_add (pe_op op_mul (pv 3) (pv 4)) (pe_op op_mul (pe_op op_add (pe_op op_mul pe_int (pv 3)) pe_int) (pe_ix ix_tup (pv 2) pe_int (fun _ _ => rfl)))) (pa_cons (pe_ix ix_tup (pv 2) pe_int (fun _ _ => rfl)) pa_nil))))))), ?_⟩
    walk_at "rd"
    refine ⟨a, f, xs, fs, zs, gs, rfl, ha, pl, nd, rt, hf, pf, l1, l2, fun t H1 e1 nt ht => ?_⟩
    have lh : hits zs gs ≤ 60 := Nat.le_trans (List.length_filter_le _ _) l1
    have hf1 := Evl.ex_l e1 hf
    have st : SqT K H1 t [.int (edge zs - 2 * (hits zs gs : Int)), .int (-(hits zs gs : Int)), .int (zs.length : Int)] := SqT.of ht
    walk_at "rd"
    refine ⟨_, _, rfl, ?_⟩
    walk_at "rd"
    intro p hp
    refine k p _ (e1.trans (Evl.Ex.new hp)) ?_ ?_
    · cases hpo : H p with
      | none => rfl
      | some o => exact absurd ((e1 _ _ hpo).symm.trans hp) (by simp)
    · rw [upd_same, lf]
      rfl
/-- two truths told alike -/
def spIs : Sp := fun vs H Q _ => ∃ b c : Bool, vs = [.bl b, .bl c] ∧ ∀ H', Ex H H' → Q (.bl (decide (b = c))) H'
theorem ok_w_is (T : Txt K mg) : FnOk P w K mg base CX0 1 T.f_w_is T.d_w_is ["told", "due"] spIs := by
  refine T.F_w_is.ok sc_w_is (fun vs H Q E h => ?_) (fun cdv A outer s H vs Q E hr h => ?_)
  · obtain ⟨b, c, rfl, _⟩ := h
    rfl
  · obtain ⟨b, c, rfl, k⟩ := h
    have hr1 := hr
    refine ⟨_, (pss_one (ps_ret (pe_and (pe_callB call_isi (by rfl) T.z_isinstance (by decide +kernel) (pa_cons (pv 0) (pa_cons (pe_bltn (v := .ty "bool") (by rfl) T.z_bool (by decide +kernel) rfl) pa_nil))) (pe_one (pe_cmpR op_eq (pv 0) (pv 1) (nomark _)))))), ?_⟩
    walk_at "rd"
    refine ⟨.bl b, .ty "bool", _, _, _, rfl, .ty _, .base (.bl _), kit_ty (kit_bool (.bool b)), ?_⟩
    refine ⟨true, rfl, ?_⟩
    rw [if_pos rfl]
    refine ⟨_, rfl, _, rfl, rfl, ?_⟩
    rw [show decide (V.bl b = V.bl c) = decide (b = c) by cases b <;> cases c <;> rfl]
    exact k _ fun _ _ h => h
/-- one of some things -/
def spPick (K : PySem.W.Frag) : Sp := fun vs H Q _ => ∃ (j a : Addr) (B : Hp) (b : Nat) (xs : List V), vs = [.ref j, .ref a] ∧ Urn K B j (b + 1) H ∧ SqL K (off j H) a xs ∧ xs ≠ [] ∧ xs.length ≤ 100 ∧
  ∀ (m : Nat) (v : V) (H' : Hp), xs[m]? = some v → Go j H H' → Urn K B j b H' → Q v H'
theorem ok_w_pick (T : Txt K mg) : FnOk P w K mg base CX0 2 T.f_w_pick T.d_w_pick ["reel", "some"] (spPick K) := by
  have G_w_wind : FnOk P w K mg base CX0 1 T.f_w_wind T.d_w_wind ["reel", "many"] (spDraw K) := ok_draw T
  refine T.F_w_pick.ok sc_w_pick (fun vs H Q E h => ?_) (fun cdv A outer s H vs Q E hr h => ?_)
  · obtain ⟨j, a, B, b, xs, rfl, _⟩ := h
    rfl
  · obtain ⟨j, a, B, b, xs, rfl, u, ha, ne, lx, k⟩ := h
    have hr1 := hr
    have small : sizeLine = 16777216 := sizeLine_eq
    have haH := Evl.ex_l (off_sub j H) ha
    refine ⟨_, (pss_one (ps_ret (pe_ix ix_list (pv 1) (pe_call G_w_wind hr1 rfl T.g_w_wind T.F_w_wind.kp (b_w_wind T) .nil pass0 (pa_cons (pv 0) (pa_cons (pe_callB call_len_seq (by rfl) T.z_len (by decide +kernel) (pa_cons (pv 1) pa_nil)) pa_nil))) (fun _ _ => rfl)))), ?_⟩
    walk_at "rd"
    have hp : 0 < xs.length := by cases xs with | nil => exact absurd rfl ne | cons _ _ => exact Nat.succ_pos _
    refine ⟨j, B, b, _, rfl, by omega, Nat.lt_of_le_of_lt (Nat.log2_le_self _) (by omega), u, fun r H' r0 r1 g u' => ?_⟩
    obtain ⟨m, rfl⟩ : ∃ m : Nat, r = m := ⟨r.toNat, by omega⟩
    have lt : m < xs.length := by omega
    refine ⟨a, xs, m, _, rfl, rfl, Evl.ex_l ((g.ex).trans (off_sub j H')) ha, at_of (j := m) rfl (List.getElem?_eq_getElem lt), k m _ H' (List.getElem?_eq_getElem lt) g u'⟩
end
end K05
namespace K05
open PySem PySem.Spec PyProof.Rows L2 Kg
open Evl (Ex)


section
variable {P : Program} {w : World} {K : PySem.W.Frag} {mg : Str → Option Value} {base : Heap}
theorem Go.mut {j D : Addr} {H H' : Hp} {o : HO} (hD : H D = none) (g : Go j H H') : Go j H (L2.upd H' D o) := fun a x n h => (upd_ne (by rintro rfl; rw [hD] at h; cases h)).trans (g a x n h)
theorem seqIx {m n : Nat} (h : m < n) : seqIndex? (m : Int) n = some m := by
  have e : ¬ (m : Int) < 0 := by omega
  unfold seqIndex?
  simp only [if_neg e]
  simp [h]
theorem erase_perm {α : Type} : ∀ {l : List α} {m : Nat} (h : m < l.length), l.Perm ([l[m]] ++ l.eraseIdx m)
  | x :: l, 0, _ => .refl _
  | x :: l, m + 1, h => by
    have := erase_perm (l := l) (m := m) (by simpa using h)
    exact (this.cons x).trans (.swap _ _ _)
/-- the things in another order -/
def spMix (K : PySem.W.Frag) : Sp := fun vs H Q _ => ∃ (j a : Addr) (B : Hp) (b : Nat) (xs : List V), vs = [.ref j, .ref a] ∧ Urn K B j (b + xs.length) H ∧ SqL K (off j H) a xs ∧ xs.length ≤ 100 ∧
  ∀ (L : Addr) (ys : List V) (H' : Hp), ys.Perm xs → Go j H H' → H L = none → H' L = some (.lst ys) → Urn K B j b H' → Q (.ref L) H'
theorem ok_w_mixed (T : Txt K mg) : FnOk P w K mg base CX0 2 T.f_w_mixed T.d_w_mixed ["reel", "some"] (spMix K) := by
  have G_w_wind : FnOk P w K mg base CX0 1 T.f_w_wind T.d_w_wind ["reel", "many"] (spDraw K) := ok_draw T
  refine T.F_w_mixed.ok sc_w_mixed (fun vs H Q E h => ?_) (fun cdv A outer s H vs Q E hr h => ?_)
  · obtain ⟨j, a, B, b, xs, rfl, _⟩ := h
    rfl
  · obtain ⟨j, a, B, b, xs, rfl, u, ha, lx, k⟩ := h
    have hr1 := hr
    have small : sizeLine = 16777216 := sizeLine_eq
    have hu2 : (A.deeper (envOfC "_law_mixed" (defScope s_w_mixed) s.heap.objs.size T.f_w_mixed cdv)).units + 64 < cLine := by have := hr.un; omega
    have haH := Evl.ex_l (off_sub j H) ha
    refine ⟨_, (pss_cons (ps_par (i := 2) (j := 3) (by rfl) sc_w_mixed.nd rfl rfl (by decide) rfl rfl (pa_cons (pe_callTy call_list_of (by rfl) T.z_list (by decide +kernel) (pa_cons (pv 1) pa_nil)) (pa_cons (pe_lst pa_nil) pa_nil)) (by rfl))
  (pss_cons (ps_while PassesOwn.never (pt_cmpR (op_neNil hu2) (pv 2) (pe_lst pa_nil) (nomark _)) (pss_one (ps_expr (pe_bm PySem.F.plainAttrs_list PySem.F.slot_list_append PySem.F.type_list_append mt_append (pv 3) (pa_cons (pe_bm PySem.F.plainAttrs_list PySem.F.slot_list_pop PySem.F.type_list_pop mt_popAt (pv 2) (pa_cons (pe_call G_w_wind hr1 rfl T.g_w_wind T.F_w_wind.kp (b_w_wind T) .nil pass0 (pa_cons (pv 0) (pa_cons (pe_callB call_len_seq (by rfl) T.z_len (by decide +kernel) (pa_cons (pv 2) pa_nil)) pa_nil))) pa_nil)) pa_nil)))))
  (pss_one (ps_ret (pv 3))))), ?_⟩
    walk_at "rd"
    intro A1 hA1
    walk_at "rd"
    intro D hD
    have nDA : D ≠ A1 := by rintro rfl; rw [upd_same] at hD; cases hD
    have hDH : H D = none := (upd_ne nDA).symm.trans hD
    refine ⟨_, _, rfl, ?_⟩
    refine while_by (fun σ' H' => ∃ ls fs, σ' = [some (.ref j), some (.ref a), some (.ref A1), some (.ref D)] ∧ H' A1 = some (.lst ls) ∧ H' D = some (.lst fs) ∧ (fs ++ ls).Perm xs ∧ Urn K B j (b + ls.length) H' ∧ Go j H H') (fun _ H' => match H' A1 with | some (.lst ls) => ls.length | _ => 0)
      ⟨xs, [], rfl, (upd_ne nDA.symm).trans upd_same, upd_same, .refl _, (u.mut u hA1).ex (Evl.Ex.new hD), (Go.mut hA1 (.refl _ _)).trans (Go.of (Evl.Ex.new hD))⟩ ?_ ?_
    · rintro σ' H' ⟨ls, fs, rfl, h1, h2, pm, u', g⟩
      have ln := pm.length_eq
      rw [List.length_append] at ln
      walk_at "rd"
      intro p hp
      have e0 := Evl.Ex.new (o := .lst []) hp
      refine ⟨A1, p, ls, rfl, rfl, SqL.of (e0 _ _ h1), SqL.of upd_same, _, rfl, ?_⟩
      cases ls with
      | nil =>
        walk_at "rd"
        have hpD : D ≠ p := by rintro rfl; rw [h2] at hp; cases hp
        refine k D fs _ ?_ (g.trans (Go.of e0)) hDH (e0 _ _ h2) (u'.ex e0)
        rwa [List.append_nil] at pm
      | cons y ls =>
        have h1' := e0 _ _ h1
        have h2' := e0 _ _ h2
        have lL : (y :: ls).length = ls.length + 1 := rfl
        walk_at "rd"
        refine ⟨.inl ⟨rfl, _, SqL.of h2'⟩, ?_⟩
        walk_at "rd"
        refine ⟨.inl ⟨rfl, _, SqL.of h1'⟩, ?_⟩
        walk_at "rd"
        refine ⟨j, B, b + ls.length, _, rfl, by omega, Nat.lt_of_le_of_lt (Nat.log2_le_self _) (by omega), by have := u'.ex e0; exact this, fun r H2 r0 r1 g2 u2 => ?_⟩
        obtain ⟨m, rfl⟩ : ∃ m : Nat, r = m := ⟨r.toNat, by omega⟩
        have lt : m < (y :: ls).length := by omega
        have a1 := g2 A1 _ (u.ne hA1) h1'
        have d1 := g2 D _ (u.ne hDH) h2'
        refine ⟨A1, y :: ls, m, m, (y :: ls)[m], rfl, rfl, a1, by omega, by omega, seqIx lt, List.getElem?_eq_getElem lt, ?_⟩
        refine ⟨D, fs, _, rfl, rfl, (upd_ne nDA).trans d1, by omega, ?_⟩
        have le : ((y :: ls).eraseIdx m).length = ls.length := by rw [List.length_eraseIdx, if_pos lt]; rfl
        have ga : Go j H H2 := (g.trans (Go.of e0)).trans g2
        have mm : upd (upd H2 A1 (.lst ((y :: ls).eraseIdx m))) D (.lst (fs ++ [(y :: ls)[m]])) A1 = some (.lst ((y :: ls).eraseIdx m)) := (upd_ne nDA.symm).trans upd_same
        refine ⟨⟨(y :: ls).eraseIdx m, fs ++ [(y :: ls)[m]], rfl, mm, upd_same, ?_, ?_, Go.mut hDH (Go.mut hA1 ga)⟩, ?_⟩
        · refine .trans ?_ pm
          rw [List.append_assoc]
          refine List.Perm.append_left fs ?_
          exact (erase_perm lt).symm
        · rw [le]
          exact (u2.mut u hA1).mut u hDH
        · rw [mm, h1]
          show ((y :: ls).eraseIdx m).length < (y :: ls).length
          omega
    · intro σ H Q Q' hq h
      obtain ⟨x, hx, hz, h⟩ := h
      refine ⟨x, hx, hz, fun p np => ?_⟩
      obtain ⟨a, b, xs, e1, e2, e3, e4, c, e5, q⟩ := h p np
      exact ⟨a, b, xs, e1, e2, e3, e4, c, e5, hq _ _ q⟩
end
end K05
namespace K05
open PySem PySem.Spec PyProof.Rows L2 Kg
open Evl (Ex)


theorem Go.ex' {j : Addr} (D : Addr) {H H' : Hp} (g : Go j H H') : Ex (off D (off j H)) (off D (off j H')) := by
  intro a x h
  by_cases e : a = D
  · subst e; rw [show off a (off j H) a = none from if_pos rfl] at h; cases h
  · rw [off_ne e] at h ⊢; exact g.ex a x h
theorem off_upd {j D : Addr} {H : Hp} {o : HO} : Ex (off D (off j H)) (off D (off j (upd H D o))) := by
  intro a x h
  by_cases e : a = D
  · subst e; rw [show off a (off j H) a = none from if_pos rfl] at h; cases h
  · rw [off_ne e] at h ⊢
    by_cases e2 : a = j
    · subst e2; rw [show off a H a = none from if_pos rfl] at h; cases h
    · rw [off_ne e2] at h ⊢
      exact (upd_ne e).trans h
set_option maxHeartbeats 0 in
/-- squares of the ground near the left half, by a box that grows -/
def Sm (n : Int) (zs : List (Int × Int)) : Prop := ∀ z ∈ zs, 0 ≤ z.1 ∧ z.1 ≤ 3 + n ∧ -2 - n ≤ z.2 ∧ z.2 ≤ 5 + n
section
variable {P : Program} {w : World} {K : PySem.W.Frag} {mg : Str → Option Value} {base : Heap}
/-- a drawn wall -/
def spDrawn (K : PySem.W.Frag) : Sp := fun vs H Q _ => ∃ (j : Addr) (B : Hp) (b : Nat), vs = [.ref j] ∧ Urn K B j (b + 15) H ∧
  ∀ (L : Addr) (ys : List V) (zs : List (Int × Int)) (H' : Hp), Go j H H' → H L = none → H' L = some (.lst ys) → PL (off j H') ys zs → zs.Nodup → Sm 0 zs → zs.length ≤ 12 → Urn K B j b H' → Q (.ref L) H'
theorem ok_w_drawn (T : Txt K mg) : FnOk P w K mg base CX0 3 T.f_w_drawn T.d_w_drawn ["reel"] (spDrawn K) := by
  have G_w_wind : FnOk P w K mg base CX0 2 T.f_w_wind T.d_w_wind ["reel", "many"] (spDraw K) := (ok_draw T).mono (by decide)
  have G_w_pick : FnOk P w K mg base CX0 2 T.f_w_pick T.d_w_pick ["reel", "some"] (spPick K) := ok_w_pick T
  refine T.F_w_drawn.ok sc_w_drawn (fun vs H Q E h => ?_) (fun cdv A outer s H vs Q E hr h => ?_)
  · obtain ⟨j, B, b, rfl, _⟩ := h
    rfl
  · obtain ⟨j, B, b, rfl, u, k⟩ := h
    have hr1 := hr
    have small : sizeLine = 16777216 := sizeLine_eq
    refine ⟨_, (pss_cons (ps_asg (pe_tup (pa_cons (pe_op op_sub (pe_call G_w_wind hr1 rfl T.g_w_wind T.F_w_wind.kp (b_w_wind T) .nil pass0 (pa_cons (pv 0) (pa_cons pe_int pa_nil))) pe_int) (pa_cons (pe_op op_add pe_int (pe_call G_w_wind hr1 rfl T.g_w_wind T.F_w_wind.kp (b_w_wind T) .nil pass0 (pa_cons (pv 0) (pa_cons pe_int pa_nil)))) (pa_cons (pe_call G_w_pick hr1 rfl T.g_w_pick T.F_w_pick.kp (b_w_pick T) .nil pass0 (pa_cons (pv 0) (pa_cons (pe_lst (pa_cons pe_int (pa_cons pe_int (pa_cons pe_int (pa_cons pe_int pa_nil))))) pa_nil))) (pa_cons (pe_lst pa_nil) pa_nil))))) (pg_tup rfl (pgs_cons (pg_name (i := 1) sc_w_drawn.nd rfl (Or.inl rfl)) (pgs_cons (pg_name (i := 2) sc_w_drawn.nd rfl (Or.inl rfl)) (pgs_cons (pg_name (i := 3) sc_w_drawn.nd rfl (Or.inl rfl)) (pgs_cons (pg_name (i := 4) sc_w_drawn.nd rfl (Or.inl rfl)) pgs_nil))))))
  (pss_cons (ps_for PassesOwn.never rfl (pi_range1 (by rfl) T.z_range (pa_cons pe_int pa_nil)) (pg_name (i := 5) sc_w_drawn.nd rfl (Or.inl rfl))
  (pss_one (ps_if (pt_cmpR op_lt (pe_call G_w_wind hr1 rfl T.g_w_wind T.F_w_wind.kp (b_w_wind T) .nil pass0 (pa_cons (pv 0) (pa_cons pe_int pa_nil))) (pv 2) (nomark _)) (pss_one (ps_expr (pe_bm PySem.F.plainAttrs_list PySem.F.slot_list_append PySem.F.type_list_append mt_append (pv 4) (pa_cons (pe_tup (pa_cons (pe_op op_add (pv 3) (pe_op op_fdivW (pv 5) pe_int)) (pa_cons (pe_op op_add (pv 1) (pe_op op_mod (pe_callTy call_int1 (by rfl) T.z_int (by decide +kernel) (pa_cons (pv 5) pa_nil)) pe_int)) pa_nil))) pa_nil)))) pss_nil)))
  (pss_one (ps_ret (pv 4))))), ?_⟩
    walk_at "rd"
    intro r1 H1 r10 r11 g1 u1
    walk_at "rd"
    intro r2 H2 r20 r21 g2 u2
    walk_at "rd"
    intro p hp
    have ep := Evl.Ex.new (o := .lst [V.int 0, V.int 0, V.int 0, V.int 1]) hp
    have npj := u2.ne hp
    refine ⟨j, p, B, b + 12, _, rfl, by have := u2.ex ep; exact this, SqL.of (off_at npj upd_same), by simp, by simp, fun m v H3 hv g3 u3 => ?_⟩
    obtain ⟨bg, rfl, bg0, bg1⟩ : ∃ bg : Int, v = .int bg ∧ 0 ≤ bg ∧ bg ≤ 1 := by
      match m, hv with
      | 0, hv => cases hv; exact ⟨0, rfl, by decide, by decide⟩
      | 1, hv => cases hv; exact ⟨0, rfl, by decide, by decide⟩
      | 2, hv => cases hv; exact ⟨0, rfl, by decide, by decide⟩
      | 3, hv => cases hv; exact ⟨1, rfl, by decide, by decide⟩
      | (n + 4), hv => cases hv
    walk_at "rd"
    intro D hD
    walk_at "rd"
    intro t ht
    walk_at "rd"
    refine ⟨t, _, rfl, SqT.of upd_same, rfl, _, _, rfl, _, _, rfl, _, _, rfl, _, _, rfl, rfl, ?_⟩
    have ntj : t ≠ D := by rintro rfl; rw [upd_same] at ht; cases ht
    generalize hH4 : upd (upd H3 D (HO.lst [])) t (HO.tup [V.int (r1 - 2), V.int (1 + r2), V.int bg, V.ref D]) = H4
    have eD : H4 D = some (.lst []) := by rw [← hH4]; exact (upd_ne ntj.symm).trans upd_same
    have e4 : Ex H3 H4 := by rw [← hH4]; exact (Evl.Ex.new hD).trans (Evl.Ex.new ht)
    have g4 : Go j H H4 := ((g1.trans g2).trans (Go.of ep)).trans (g3.trans (Go.of e4))
    have u4 : Urn K B j (b + 12) H4 := u3.ex e4
    have hDH : H D = none := by
      cases q : H D with
      | none => rfl
      | some o => exact absurd ((((g1.trans g2).trans (Go.of ep)).trans g3 D o (u3.ne hD) q).symm.trans hD) (by simp)
    walk_at "rd"
    refine (for_range (n := 12) (lo := 0) (fun i σ H' => ∃ x5 ys zs, σ = [some (.ref j), some (.int (r1 - 2)), some (.int (1 + r2)), some (.int bg), some (.ref D), x5] ∧ H' D = some (.lst ys) ∧ PL (off D (off j H')) ys zs ∧ zs.Nodup ∧ (∀ z ∈ zs, ∃ m : Nat, m < i ∧ z = (bg + (m : Int) / 4, r1 - 2 + (m : Int) % 4)) ∧ zs.length ≤ i ∧ Go j H H' ∧ Urn K B j (b + (12 - i)) H')
      ⟨_, [], [], rfl, eD, .nil, List.nodup_nil, (by intro z hz; cases hz), Nat.le_refl _, g4, u4⟩ ?_ ?_)
    · rintro i σ H5 hi ⟨x5, ys, zs, rfl, d5, pl, nd, al, ln, g5, u5⟩
      have bud : b + (12 - i) = b + (12 - (i + 1)) + 1 := by omega
      rw [bud] at u5
      walk_at "rd"
      intro r H6 r0 r1' g6 u6
      have d6 := g6 D _ (u.ne hDH) d5
      have g56 : Go j H H6 := g5.trans g6
      have pl6 : PL (off D (off j H6)) ys zs := pl.mono (Go.ex' D g6)
      walk_at "rd"
      refine ifB (fun c1 => ?_) (fun c1 => ?_)
      · walk_at "rd"
        refine ⟨.inl ⟨rfl, _, SqL.of d6⟩, ?_⟩
        walk_at "rd"
        intro t6 ht6
        have e6 := Evl.Ex.new (o := .tup [.int (bg + (0 + (i : Int)) / 4), .int (r1 - 2 + (0 + (i : Int)) % 4)]) ht6
        have n6 : t6 ≠ D := by rintro rfl; rw [d6] at ht6; cases ht6
        have n6j := u6.ne ht6
        walk_at "rd"
        refine ⟨D, ys, _, rfl, rfl, e6 _ _ d6, by have := pl.len; omega, ?_⟩
        refine ⟨_, ys ++ [.ref t6], zs ++ [(bg + (0 + (i : Int)) / 4, r1 - 2 + (0 + (i : Int)) % 4)], rfl, upd_same, ?_, ?_, ?_, ?_, Go.mut hDH (g56.trans (Go.of e6)), (u6.ex e6).mut u hDH⟩
        · refine PL.mono off_upd (PL.app (.cons ?_ .nil) (pl6.mono (Go.ex' D (Go.of e6))))
          exact off_at n6 (off_at n6j upd_same)
        · rw [List.nodup_append]
          refine ⟨nd, by simp, ?_⟩
          intro z hz z2 hz2 e
          rw [List.mem_singleton] at hz2
          obtain ⟨m, h1, h2⟩ := al z hz
          rw [hz2, h2] at e
          have := congrArg Prod.fst e
          have := congrArg Prod.snd e
          simp only at *
          omega
        · intro z hz
          rcases List.mem_append.mp hz with hz | hz
          · obtain ⟨m, h1, h2⟩ := al z hz
            exact ⟨m, by omega, h2⟩
          · rw [List.mem_singleton] at hz
            exact ⟨i, by omega, by rw [hz]; simp⟩
        · rw [List.length_append]
          show zs.length + 1 ≤ i + 1
          omega
      · exact ⟨_, ys, zs, rfl, d6, pl6, nd, fun z hz => by obtain ⟨m, h1, h2⟩ := al z hz; exact ⟨m, by omega, h2⟩, by omega, g56, u6⟩
    · rintro σ H5 ⟨x5, ys, zs, rfl, d5, pl, nd, al, ln, g5, u5⟩
      walk_at "rd"
      refine k D ys zs H5 g5 hDH d5 (pl.mono (off_sub D _)) nd ?_ ln u5
      intro z hz
      obtain ⟨m, h1, rfl⟩ := al z hz
      refine ⟨?_, ?_, ?_, ?_⟩ <;> (simp only; omega)
end
end K05
namespace K05
open PySem PySem.Spec PyProof.Rows L2 Kg
open Evl (Ex)


section
variable {P : Program} {w : World} {K : PySem.W.Frag} {mg : Str → Option Value} {base : Heap}
theorem off_new {j L : Addr} {H : Hp} {o : HO} (hL : H L = none) : Ex (off j H) (off L (off j (L2.upd H L o))) := by
  intro a x h
  have n : a ≠ j := by
    rintro rfl
    rw [show off a H a = none from if_pos rfl] at h; cases h
  rw [off_ne n] at h
  have n2 : a ≠ L := fun e => by rw [e, hL] at h; cases h
  exact off_at n2 (off_at n ((upd_ne n2).trans h))
/-- another wall, like the one or unlike it -/
def spOther (K : PySem.W.Frag) : Sp := fun vs H Q _ => ∃ (j a : Addr) (B : Hp) (b : Nat) (xs : List V) (zs : List (Int × Int)), vs = [.ref j, .ref a] ∧ Urn K B j (b + 20) H ∧ SqL K (off j H) a xs ∧ PL (off j H) xs zs ∧ zs.Nodup ∧ Sm 0 zs ∧ zs.length ≤ 12 ∧
  ∀ (L : Addr) (ys : List V) (us : List (Int × Int)) (H' : Hp), Go j H H' → H L = none → H' L = some (.lst ys) → PL (off j H') ys us → us.Nodup → Sm 3 us → us.length ≤ 15 → Urn K B j b H' → Q (.ref L) H'
theorem ok_w_other (T : Txt K mg) : FnOk P w K mg base CX0 4 T.f_w_other T.d_w_other ["reel", "one"] (spOther K) := by
  have G_w_wind : FnOk P w K mg base CX0 3 T.f_w_wind T.d_w_wind ["reel", "many"] (spDraw K) := (ok_draw T).mono (by decide)
  have G_w_pick : FnOk P w K mg base CX0 3 T.f_w_pick T.d_w_pick ["reel", "some"] (spPick K) := (ok_w_pick T).mono (by decide)
  have G_w_drawn : FnOk P w K mg base CX0 3 T.f_w_drawn T.d_w_drawn ["reel"] (spDrawn K) := ok_w_drawn T
  refine T.F_w_other.ok sc_w_other (fun vs H Q E h => ?_) (fun cdv A outer s H vs Q E hr h => ?_)
  · obtain ⟨j, a, B, b, xs, zs, rfl, _⟩ := h
    rfl
  · obtain ⟨j, a, B, b, xs, zs, rfl, u, ha, pl, nd, sm, lz, k⟩ := h
    have hr1 := hr
    have small : sizeLine = 16777216 := sizeLine_eq
    have hu65 : (A.deeper (envOfC "_law_other" (defScope s_w_other) s.heap.objs.size T.f_w_other cdv)).units + 65 < cLine := by have := hr.un; omega
    refine ⟨_, (pss_cons (ps_set (i := 2) sc_w_other.nd rfl (Or.inl rfl) (pe_call G_w_wind hr1 rfl T.g_w_wind T.F_w_wind.kp (b_w_wind T) .nil pass0 (pa_cons (pv 0) (pa_cons pe_int pa_nil))))
  (pss_cons (ps_if (pt_cmpR op_eq (pv 2) pe_int (nomark _)) (pss_one (ps_ret (pe_call G_w_drawn hr1 rfl T.g_w_drawn T.F_w_drawn.kp (b_w_drawn T) .nil pass0 (pa_cons (pv 0) pa_nil)))) pss_nil)
  (pss_cons (ps_if (pt_cmpR op_eq (pv 2) pe_int (nomark _)) (pss_one (ps_ret (pe_lc (own := [("square", 3)]) (g := (gName 3)) rfl sc_w_other.nd (pi_list (pv 1)) (blkOk_by (own := [("square", 3)]) (N := ["reel", "one", "way", "square", "by", "x", "y", "found", "turn"]) (sc := defScope s_w_other) (by decide +kernel)) (fun _ _ _ _ _ => (pg_name (i := 3) sc_w_other.nd rfl (Or.inl rfl))) (fun _ _ _ _ _ => (pts_one (pt_cmpR op_gt (pe_call G_w_wind hr1 rfl T.g_w_wind T.F_w_wind.kp (b_w_wind T) .nil pass0 (pa_cons (pv 0) (pa_cons pe_int pa_nil))) pe_int (nomark _)))) (fun _ _ _ _ _ => (pv 3))))) pss_nil)
  (pss_cons (ps_if (pt_cmpR op_eq (pv 2) pe_int (nomark _)) (pss_cons (ps_set (i := 4) sc_w_other.nd rfl (Or.inr rfl) (pe_call G_w_wind hr1 rfl T.g_w_wind T.F_w_wind.kp (b_w_wind T) .nil pass0 (pa_cons (pv 0) (pa_cons pe_int pa_nil))))
  (pss_one (ps_ret (pe_lc (own := [("x", 5), ("y", 6)]) (g := (gTup K 2 (gCons (gName 5) (gCons (gName 6) gNil)))) rfl sc_w_other.nd (pi_list (pv 1)) (blkOk_by (own := [("x", 5), ("y", 6)]) (N := ["reel", "one", "way", "square", "by", "x", "y", "found", "turn"]) (sc := defScope s_w_other) (by decide +kernel)) (fun _ _ _ _ _ => (show PG _ _ (gTup K 2 (gCons (gName 5) (gCons (gName 6) gNil))) from pg_tup rfl (pgs_cons (pg_name (i := 5) sc_w_other.nd rfl (Or.inl rfl)) (pgs_cons (pg_name (i := 6) sc_w_other.nd rfl (Or.inl rfl)) pgs_nil)))) (fun _ _ _ _ _ => pts_nil) (fun _ _ _ _ _ => (pe_tup (pa_cons (pv 5) (pa_cons (pe_op op_add (pv 6) (pv 4)) pa_nil)))))))) pss_nil)
  (pss_cons (ps_set (i := 7) sc_w_other.nd rfl (Or.inl rfl) (pe_callTy call_list_of (by rfl) T.z_list (by decide +kernel) (pa_cons (pv 1) pa_nil)))
  (pss_cons (ps_for PassesOwn.never rfl (pi_range1 (by rfl) T.z_range (pa_cons (pe_op op_add pe_int (pe_call G_w_wind hr1 rfl T.g_w_wind T.F_w_wind.kp (b_w_wind T) .nil pass0 (pa_cons (pv 0) (pa_cons pe_int pa_nil)))) pa_nil)) (pg_name (i := 8) sc_w_other.nd rfl (Or.inl rfl))
  (pss_cons (ps_asg (pe_call G_w_pick hr1 rfl T.g_w_pick T.F_w_pick.kp (b_w_pick T) .nil pass0 (pa_cons (pv 0) (pa_cons (pe_op op_cat (pv 7) (pe_lst (pa_cons (pe_tup (pa_cons pe_int (pa_cons pe_int pa_nil))) pa_nil))) pa_nil))) (pg_tup rfl (pgs_cons (pg_name (i := 5) sc_w_other.nd rfl (Or.inl rfl)) (pgs_cons (pg_name (i := 6) sc_w_other.nd rfl (Or.inl rfl)) pgs_nil))))
  (pss_cons (ps_set (i := 3) sc_w_other.nd rfl (Or.inl rfl) (pe_call G_w_pick hr1 rfl T.g_w_pick T.F_w_pick.kp (b_w_pick T) .nil pass0 (pa_cons (pv 0) (pa_cons (pe_lst (pa_cons (pe_tup (pa_cons (pv 5) (pa_cons (pe_op op_add (pv 6) pe_int) pa_nil))) (pa_cons (pe_tup (pa_cons (pv 5) (pa_cons (pe_op op_add (pv 6) pe_int) pa_nil))) (pa_cons (pe_tup (pa_cons (pe_op op_add (pv 5) pe_int) (pa_cons (pv 6) pa_nil))) (pa_cons (pe_tup (pa_cons (pv 5) (pa_cons (pe_op op_sub (pv 6) pe_int) pa_nil))) (pa_cons (pe_tup (pa_cons pe_int (pa_cons (pe_op op_add (pv 6) pe_int) pa_nil))) pa_nil)))))) pa_nil))))
  (pss_one (ps_if (pt_cmpR (show OpR _ _ (rNotInD K) from op_notInD hu65) (pv 3) (pv 7) (by rfl)) (pss_one (ps_expr (pe_bm PySem.F.plainAttrs_list PySem.F.slot_list_append PySem.F.type_list_append mt_append (pv 7) (pa_cons (pv 3) pa_nil)))) pss_nil)))))
  (pss_one (ps_ret (pv 7))))))))), ?_⟩
    walk_at "rd"
    intro wy H1 w0 w1 g1 u1
    have ha1 : SqL K (off j H1) a xs := Evl.ex_l g1.ex ha
    have pl1 : PL (off j H1) xs zs := pl.mono g1.ex
    walk_at "rd"
    refine ifB (fun c1 => ?_) (fun c1 => ?_)
    · walk_at "rd"
      intro L ys us H2 g2 n2 d2 p2 nd2 sm2 l2 u2
      refine k L ys us H2 (g1.trans g2) (u1.back g1 n2) d2 p2 nd2 ?_ (by omega) (u2.less (by omega))
      intro z hz
      have := sm2 z hz
      omega
    · walk_at "rd"
      refine ifB (fun c2 => ?_) (fun c2 => ?_)
      · walk_at "rd"
        refine ⟨⟨_, Evl.ex_l (off_sub j _) ha1⟩, fun D hD => ?_⟩
        have hDH : H D = none := u1.back g1 hD
        refine lc_list (K := K) (a := a) (xs := xs) (fun i H' => Go j H1 H' ∧ Urn K B j (b + 7 + (12 - i)) H' ∧ ∃ us fs, H' D = some (.lst us) ∧ PL (off D (off j H')) us fs ∧ fs.Sublist (zs.take i) ∧ fs.length ≤ i)
          ⟨Go.of (Evl.Ex.new hD), u1.ex (Evl.Ex.new hD), [], [], upd_same, .nil, List.nil_sublist _, Nat.zero_le _⟩ (fun i H' _ q => Evl.ex_l (off_sub j _) (Evl.ex_l q.1.ex ha1)) ?_ ?_
        · rintro i v H' hv ⟨q1, q2, us, fs, q3, q4, q5, q6⟩
          obtain ⟨t, z, rfl, hz, ht⟩ := pl1.at hv
          have lt := (List.getElem?_eq_some_iff.mp hz).1
          have bud : b + 7 + (12 - i) = b + 7 + (12 - (i + 1)) + 1 := by omega
          rw [bud] at q2
          walk_at "rd"
          intro r H2 r0 r1 g2 u2
          have d2 := g2 D _ (u.ne hDH) q3
          have lf := q4.len
          walk_at "rd"
          refine ifB (fun c => ?_) (fun c => ?_)
          · walk_at "rd"
            refine ⟨us, d2, by omega, Go.mut hD (q1.trans g2), u2.mut u hDH, us ++ [.ref t], fs ++ [z], upd_same, ?_, ?_, ?_⟩
            · refine PL.mono off_upd (PL.app (.cons ?_ .nil) (q4.mono (Go.ex' D g2)))
              have ntD : t ≠ D := by rintro rfl; rw [off_sub j _ _ _ ht] at hD; cases hD
              exact off_at ntD ((q1.trans g2).ex _ _ ht)
            · rw [take_one hz]
              exact q5.append (List.Sublist.refl _)
            · rw [List.length_append]
              show fs.length + 1 ≤ i + 1
              omega
          · refine ⟨q1.trans g2, u2, us, fs, d2, q4.mono (Go.ex' D g2), ?_, by omega⟩
            rw [take_one hz]
            exact q5.trans (List.sublist_append_left _ _)
        · rintro H3 ⟨q1, q2, us, fs, q3, q4, q5, q6⟩
          rw [pl1.len, List.take_length] at q5
          refine k D us fs H3 (g1.trans q1) hDH q3 (q4.mono (off_sub D _)) (nd.sublist q5) (fun z hz => ?_) (by have := q5.length_le; omega) (q2.less (by omega))
          have := sm z (q5.subset hz)
          omega
      · walk_at "rd"
        refine ifB (fun c3 => ?_) (fun c3 => ?_)
        · walk_at "rd"
          intro by' H2 b0 b1 g2 u2
          have ha2 : SqL K (off j H2) a xs := Evl.ex_l g2.ex ha1
          have pl2 : PL (off j H2) xs zs := pl1.mono g2.ex
          walk_at "rd"
          refine ⟨⟨_, Evl.ex_l (off_sub j _) ha2⟩, fun D hD => ?_⟩
          have hDH : H D = none := u2.back (g1.trans g2) hD
          refine lc_list (K := K) (a := a) (xs := xs) (fun i H' => Ex H2 H' ∧ ∃ us, H' D = some (.lst us) ∧ PL (off D (off j H')) us ((zs.take i).map fun z => (z.1, z.2 + by')))
            ⟨Evl.Ex.new hD, [], upd_same, .nil⟩ (fun i H' _ q => Evl.ex_l (off_sub j _) (Evl.ex_l (Go.of q.1).ex ha2)) ?_ ?_
          · rintro i v H' hv ⟨q1, us, q3, q4⟩
            obtain ⟨t, z, rfl, hz, ht⟩ := pl2.at hv
            have ht' := q1 _ _ (off_sub j _ _ _ ht)
            have lt := (List.getElem?_eq_some_iff.mp hz).1
            have lf := q4.len
            rw [List.length_map, List.length_take] at lf
            refine ⟨t, _, rfl, SqT.of ht', rfl, _, _, rfl, _, _, rfl, rfl, rfl, ?_⟩
            walk_at "rd"
            intro tn htn
            have en := Evl.Ex.new (o := .tup [.int z.1, .int (z.2 + by')]) htn
            have nD : tn ≠ D := by rintro rfl; rw [q3] at htn; cases htn
            have nj : tn ≠ j := (u2.ex q1).ne htn
            walk_at "rd"
            refine ⟨us, en _ _ q3, by omega, Evl.Ex.mut (q1.trans en) hD, us ++ [.ref tn], upd_same, ?_⟩
            rw [take_one hz, List.map_append]
            exact PL.mono off_upd (PL.app (zs := (zs.take i).map fun z => (z.1, z.2 + by')) (us := [(z.1, z.2 + by')]) (.cons (off_at nD (off_at nj upd_same)) .nil) (q4.mono (Go.ex' D (Go.of en))))
          · rintro H3 ⟨q1, us, q3, q4⟩
            rw [pl2.len, List.take_length] at q4
            refine k D us _ H3 ((g1.trans g2).trans (Go.of q1)) hDH q3 (q4.mono (off_sub D _)) ?_ (fun z hz => ?_) (by rw [List.length_map]; omega) ((u2.ex q1).less (by omega))
            · rw [List.nodup_iff_pairwise_ne, List.pairwise_map]
              refine nd.imp fun h e => h ?_
              have e1 := congrArg Prod.fst e
              have e2 := congrArg Prod.snd e
              simp only at e1 e2
              exact Prod.ext e1 (by omega)
            · obtain ⟨z0, hz0, rfl⟩ := List.mem_map.mp hz
              have := sm z0 hz0
              simp only
              omega
        · walk_at "rd"
          refine ⟨a, xs, rfl, .inl (Evl.ex_l (off_sub j _) ha1), fun F hF => ?_⟩
          have uF : Urn K B j (b + 18 + 1) (upd H1 F (.lst xs)) := u1.ex (Evl.Ex.new hF)
          have hFH : H F = none := u1.back g1 hF
          walk_at "rd"
          intro r H2 r0 r1 g2 u2
          have gF : Go j H (upd H1 F (.lst xs)) := g1.trans (Go.of (Evl.Ex.new hF))
          have f2 := g2 F _ (u.ne hFH) (upd_same (o := .lst xs))
          have p2 : PL (off F (off j H2)) xs zs := (pl1.mono (off_new hF)).mono (Go.ex' F g2)
          have lx := pl1.len
          walk_at "rd"
          refine (for_range (n := (1 + r).toNat) (lo := 0) (fun i σ H' => ∃ x3 x4 x5 x6 x8 ys us, σ = [some (.ref j), some (.ref a), some (.int wy), x3, x4, x5, x6, some (.ref F), x8] ∧ H' F = some (.lst ys) ∧ PL (off F (off j H')) ys us ∧ us.Nodup ∧ Sm i us ∧ us.length ≤ 12 + i ∧ Go j H H' ∧ Urn K B j (b + 6 * (3 - i)) H')
            ⟨_, _, _, _, _, xs, zs, rfl, f2, p2, nd, sm, by omega, gF.trans g2, u2⟩ ?_ ?_)
          · rintro i σ H5 hi ⟨x3, x4, x5, x6, x8, ys, us, rfl, f5, pl, nd, sm, ln, g5, u5⟩
            have bud : b + 6 * (3 - i) = b + 6 * (3 - (i + 1)) + 5 + 1 := by omega
            rw [bud] at u5
            walk_at "rd"
            intro t0 ht0
            have e0 := Evl.Ex.new (o := .tup [.int 0, .int 0]) ht0
            walk_at "rd"
            intro l0 hl0
            have el0 := Evl.Ex.new (o := .lst [.ref t0]) hl0
            have ly := pl.len
            refine ⟨F, l0, ys, [.ref t0], rfl, rfl, el0 _ _ (e0 _ _ f5), upd_same, by rw [small]; simp only [List.length_singleton]; omega, fun l1 hl1 => ?_⟩
            have el1 := Evl.Ex.new (o := .lst (ys ++ [.ref t0])) hl1
            have t05 : upd (upd (upd H5 t0 (.tup [.int 0, .int 0])) l0 (.lst [.ref t0])) l1 (.lst (ys ++ [.ref t0])) t0 = some (.tup [.int 0, .int 0]) := el1 _ _ (el0 _ _ upd_same)
            have l15 : upd (upd (upd H5 t0 (.tup [.int 0, .int 0])) l0 (.lst [.ref t0])) l1 (.lst (ys ++ [.ref t0])) l1 = some (.lst (ys ++ [.ref t0])) := upd_same
            have e6 : Ex H5 (upd (upd (upd H5 t0 (.tup [.int 0, .int 0])) l0 (.lst [.ref t0])) l1 (.lst (ys ++ [.ref t0]))) := (e0.trans el0).trans el1
            have nl1 : l1 ≠ j := ((u5.ex e0).ex el0).ne hl1
            have nt0 : t0 ≠ j := u5.ne ht0
            have nt0F : t0 ≠ F := by rintro rfl; rw [f5] at ht0; cases ht0
            generalize upd (upd (upd H5 t0 (.tup [.int 0, .int 0])) l0 (.lst [.ref t0])) l1 (.lst (ys ++ [.ref t0])) = H6 at t05 l15 e6 ⊢
            have u6 := u5.ex e6
            have p6 : PL (off F (off j H6)) (ys ++ [.ref t0]) (us ++ [(0, 0)]) := PL.app (.cons (off_at nt0F (off_at nt0 t05)) .nil) (pl.mono (Go.ex' F (Go.of e6)))
            walk_at "rd"
            refine ⟨j, l1, B, b + 6 * (3 - (i + 1)) + 5, _, rfl, u6, SqL.of (off_at nl1 l15), by simp, by rw [List.length_append, List.length_singleton]; omega, fun m v H7 hv g7 u7 => ?_⟩
            obtain ⟨t, z, rfl, hz, ht⟩ := p6.at hv
            have bz : 0 ≤ z.1 ∧ z.1 ≤ 3 + (i : Int) ∧ -2 - (i : Int) ≤ z.2 ∧ z.2 ≤ 5 + (i : Int) := by
              rcases List.mem_append.mp (List.mem_of_getElem? hz) with h | h
              · exact sm z h
              · rw [List.mem_singleton] at h
                rw [h]
                omega
            have zt := off_sub j _ _ _ (g7.ex _ _ (off_sub F _ _ _ ht))
            have g57 : Go j H5 H7 := (Go.of e6).trans g7
            have f7 := g57 F _ (u.ne hFH) f5
            have p7 := pl.mono (Go.ex' F g57)
            refine ⟨t, _, rfl, SqT.of zt, rfl, _, _, rfl, _, _, rfl, rfl, ?_⟩
            walk_at "rd"
            intro a1 ha1
            have q1 := Evl.Ex.new (o := .tup [.int (z.1), .int (z.2 + 1)]) ha1
            have w1 : (upd H7 a1 (.tup [.int (z.1), .int (z.2 + 1)])) a1 = some (.tup [.int (z.1), .int (z.2 + 1)]) := upd_same
            walk_at "rd"
            intro a2 ha2
            have q2 := Evl.Ex.new (o := .tup [.int (z.1), .int (z.2 + 1)]) ha2
            have w2 : (upd (upd H7 a1 (.tup [.int (z.1), .int (z.2 + 1)])) a2 (.tup [.int (z.1), .int (z.2 + 1)])) a2 = some (.tup [.int (z.1), .int (z.2 + 1)]) := upd_same
            walk_at "rd"
            intro a3 ha3
            have q3 := Evl.Ex.new (o := .tup [.int (z.1 + 1), .int (z.2)]) ha3
            have w3 : (upd (upd (upd H7 a1 (.tup [.int (z.1), .int (z.2 + 1)])) a2 (.tup [.int (z.1), .int (z.2 + 1)])) a3 (.tup [.int (z.1 + 1), .int (z.2)])) a3 = some (.tup [.int (z.1 + 1), .int (z.2)]) := upd_same
            walk_at "rd"
            intro a4 ha4
            have q4 := Evl.Ex.new (o := .tup [.int (z.1), .int (z.2 - 1)]) ha4
            have w4 : (upd (upd (upd (upd H7 a1 (.tup [.int (z.1), .int (z.2 + 1)])) a2 (.tup [.int (z.1), .int (z.2 + 1)])) a3 (.tup [.int (z.1 + 1), .int (z.2)])) a4 (.tup [.int (z.1), .int (z.2 - 1)])) a4 = some (.tup [.int (z.1), .int (z.2 - 1)]) := upd_same
            walk_at "rd"
            intro a5 ha5
            have q5 := Evl.Ex.new (o := .tup [.int (0), .int (z.2 + 1)]) ha5
            have w5 : (upd (upd (upd (upd (upd H7 a1 (.tup [.int (z.1), .int (z.2 + 1)])) a2 (.tup [.int (z.1), .int (z.2 + 1)])) a3 (.tup [.int (z.1 + 1), .int (z.2)])) a4 (.tup [.int (z.1), .int (z.2 - 1)])) a5 (.tup [.int (0), .int (z.2 + 1)])) a5 = some (.tup [.int (0), .int (z.2 + 1)]) := upd_same
            walk_at "rd"
            intro l2 hl2
            have q6 := Evl.Ex.new (o := .lst [.ref a1, .ref a2, .ref a3, .ref a4, .ref a5]) hl2
            have l25 : (upd (upd (upd (upd (upd (upd H7 a1 (.tup [.int (z.1), .int (z.2 + 1)])) a2 (.tup [.int (z.1), .int (z.2 + 1)])) a3 (.tup [.int (z.1 + 1), .int (z.2)])) a4 (.tup [.int (z.1), .int (z.2 - 1)])) a5 (.tup [.int (0), .int (z.2 + 1)])) l2 (.lst [.ref a1, .ref a2, .ref a3, .ref a4, .ref a5])) l2 = some (.lst [.ref a1, .ref a2, .ref a3, .ref a4, .ref a5]) := upd_same
            have e8 : Ex H7 (upd (upd (upd (upd (upd (upd H7 a1 (.tup [.int (z.1), .int (z.2 + 1)])) a2 (.tup [.int (z.1), .int (z.2 + 1)])) a3 (.tup [.int (z.1 + 1), .int (z.2)])) a4 (.tup [.int (z.1), .int (z.2 - 1)])) a5 (.tup [.int (0), .int (z.2 + 1)])) l2 (.lst [.ref a1, .ref a2, .ref a3, .ref a4, .ref a5])) := ((((q1.trans q2).trans q3).trans q4).trans q5).trans q6
            have v1 : (upd (upd (upd (upd (upd (upd H7 a1 (.tup [.int (z.1), .int (z.2 + 1)])) a2 (.tup [.int (z.1), .int (z.2 + 1)])) a3 (.tup [.int (z.1 + 1), .int (z.2)])) a4 (.tup [.int (z.1), .int (z.2 - 1)])) a5 (.tup [.int (0), .int (z.2 + 1)])) l2 (.lst [.ref a1, .ref a2, .ref a3, .ref a4, .ref a5])) a1 = _ := (q6 _ _ (q5 _ _ (q4 _ _ (q3 _ _ (q2 _ _ w1)))))
            have v2 : (upd (upd (upd (upd (upd (upd H7 a1 (.tup [.int (z.1), .int (z.2 + 1)])) a2 (.tup [.int (z.1), .int (z.2 + 1)])) a3 (.tup [.int (z.1 + 1), .int (z.2)])) a4 (.tup [.int (z.1), .int (z.2 - 1)])) a5 (.tup [.int (0), .int (z.2 + 1)])) l2 (.lst [.ref a1, .ref a2, .ref a3, .ref a4, .ref a5])) a2 = _ := (q6 _ _ (q5 _ _ (q4 _ _ (q3 _ _ w2))))
            have v3 : (upd (upd (upd (upd (upd (upd H7 a1 (.tup [.int (z.1), .int (z.2 + 1)])) a2 (.tup [.int (z.1), .int (z.2 + 1)])) a3 (.tup [.int (z.1 + 1), .int (z.2)])) a4 (.tup [.int (z.1), .int (z.2 - 1)])) a5 (.tup [.int (0), .int (z.2 + 1)])) l2 (.lst [.ref a1, .ref a2, .ref a3, .ref a4, .ref a5])) a3 = _ := (q6 _ _ (q5 _ _ (q4 _ _ w3)))
            have v4 : (upd (upd (upd (upd (upd (upd H7 a1 (.tup [.int (z.1), .int (z.2 + 1)])) a2 (.tup [.int (z.1), .int (z.2 + 1)])) a3 (.tup [.int (z.1 + 1), .int (z.2)])) a4 (.tup [.int (z.1), .int (z.2 - 1)])) a5 (.tup [.int (0), .int (z.2 + 1)])) l2 (.lst [.ref a1, .ref a2, .ref a3, .ref a4, .ref a5])) a4 = _ := (q6 _ _ (q5 _ _ w4))
            have v5 : (upd (upd (upd (upd (upd (upd H7 a1 (.tup [.int (z.1), .int (z.2 + 1)])) a2 (.tup [.int (z.1), .int (z.2 + 1)])) a3 (.tup [.int (z.1 + 1), .int (z.2)])) a4 (.tup [.int (z.1), .int (z.2 - 1)])) a5 (.tup [.int (0), .int (z.2 + 1)])) l2 (.lst [.ref a1, .ref a2, .ref a3, .ref a4, .ref a5])) a5 = _ := (q6 _ _ w5)
            have nl2 : l2 ≠ j := (((((u7.ex q1).ex q2).ex q3).ex q4).ex q5).ne hl2
            have n1 : a1 ≠ j := u7.ne ha1
            have m1 : a1 ≠ F := by rintro rfl; have h := f7; rw [ha1] at h; cases h
            have n2 : a2 ≠ j := (u7.ex q1).ne ha2
            have m2 : a2 ≠ F := by rintro rfl; have h := (q1 _ _ f7); rw [ha2] at h; cases h
            have n3 : a3 ≠ j := ((u7.ex q1).ex q2).ne ha3
            have m3 : a3 ≠ F := by rintro rfl; have h := (q2 _ _ (q1 _ _ f7)); rw [ha3] at h; cases h
            have n4 : a4 ≠ j := (((u7.ex q1).ex q2).ex q3).ne ha4
            have m4 : a4 ≠ F := by rintro rfl; have h := (q3 _ _ (q2 _ _ (q1 _ _ f7))); rw [ha4] at h; cases h
            have n5 : a5 ≠ j := ((((u7.ex q1).ex q2).ex q3).ex q4).ne ha5
            have m5 : a5 ≠ F := by rintro rfl; have h := (q4 _ _ (q3 _ _ (q2 _ _ (q1 _ _ f7)))); rw [ha5] at h; cases h
            generalize upd (upd (upd (upd (upd (upd H7 a1 (.tup [.int (z.1), .int (z.2 + 1)])) a2 (.tup [.int (z.1), .int (z.2 + 1)])) a3 (.tup [.int (z.1 + 1), .int (z.2)])) a4 (.tup [.int (z.1), .int (z.2 - 1)])) a5 (.tup [.int (0), .int (z.2 + 1)])) l2 (.lst [.ref a1, .ref a2, .ref a3, .ref a4, .ref a5]) = H8 at l25 e8 v1 v2 v3 v4 v5 ⊢
            have u8 := u7.ex e8
            have p8 : PL (off F (off j H8)) [.ref a1, .ref a2, .ref a3, .ref a4, .ref a5] [(z.1, z.2 + 1), (z.1, z.2 + 1), (z.1 + 1, z.2), (z.1, z.2 - 1), (0, z.2 + 1)] := (.cons (off_at m1 (off_at n1 v1)) (.cons (off_at m2 (off_at n2 v2)) (.cons (off_at m3 (off_at n3 v3)) (.cons (off_at m4 (off_at n4 v4)) (.cons (off_at m5 (off_at n5 v5)) .nil)))))
            walk_at "rd"
            refine ⟨j, l2, B, b + 6 * (3 - (i + 1)) + 4, _, rfl, u8, SqL.of (off_at nl2 l25), by simp, by simp, fun m2 v2' H9 hv2 g9 u9 => ?_⟩
            obtain ⟨ts, zz, rfl, hz2, ht2⟩ := p8.at hv2
            have bz2 : 0 ≤ zz.1 ∧ zz.1 ≤ 3 + ((i : Int) + 1) ∧ -2 - ((i : Int) + 1) ≤ zz.2 ∧ zz.2 ≤ 5 + ((i : Int) + 1) := by
              have := List.mem_of_getElem? hz2
              simp only [List.mem_cons, List.not_mem_nil, or_false] at this
              rcases this with rfl | rfl | rfl | rfl | rfl <;> (simp only; omega)
            have zt2 := off_sub j _ _ _ (g9.ex _ _ (off_sub F _ _ _ ht2))
            have g79 : Go j H7 H9 := (Go.of e8).trans g9
            have f9 := g79 F _ (u.ne hFH) f7
            have p9 := p7.mono (Go.ex' F g79)
            walk_at "rd"
            refine ⟨pairT zz, us.map pairT, .tup (SqT.of zt2) (.cons (.int _) (.cons (.int _) .nil)), .lst (SqL.of f9) ((p9.mono (off_sub F _)).mono (off_sub j _)).dp, pairT_shaped _, pairTs_shaped _, ?_⟩
            rw [pairTs_any]
            refine ⟨_, rfl, ?_⟩
            have g9' : Go j H H9 := (g5.trans g57).trans g79
            refine ifB (fun c => ?_) (fun c => ?_)
            · have c : zz ∉ us := by simpa using c
              walk_at "rd"
              refine ⟨.inl ⟨rfl, _, SqL.of f9⟩, ?_⟩
              walk_at "rd"
              refine ⟨F, ys, _, rfl, rfl, f9, by omega, ?_⟩
              refine ⟨_, _, _, _, _, ys ++ [.ref ts], us ++ [zz], rfl, upd_same, ?_, ?_, ?_, ?_, Go.mut hFH g9', ((u9.mut u hFH).less (by omega))⟩
              · refine PL.mono off_upd (PL.app (.cons ?_ .nil) p9)
                have nts : ts ≠ F := by rintro rfl; rw [zt2] at f9; cases f9
                exact off_at nts (g9.ex _ _ (off_sub F _ _ _ ht2))
              · rw [List.nodup_append]
                refine ⟨nd, by simp, ?_⟩
                intro x hx y hy e
                rw [List.mem_singleton] at hy
                exact c (by rw [← hy, ← e]; exact hx)
              · intro x hx
                rcases List.mem_append.mp hx with hx | hx
                · have := sm x hx
                  omega
                · rw [List.mem_singleton] at hx
                  rw [hx]
                  omega
              · rw [List.length_append]
                show us.length + 1 ≤ _
                omega
            · refine ⟨_, _, _, _, _, ys, us, rfl, f9, p9, nd, ?_, by omega, g9', u9.less (by omega)⟩
              intro x hx
              have := sm x hx
              omega
          · rintro σ H5 ⟨x3, x4, x5, x6, x8, ys, us, rfl, f5, pl, nd, sm, ln, g5, u5⟩
            walk_at "rd"
            refine k F ys us H5 g5 hFH f5 (pl.mono (off_sub F _)) nd ?_ (by omega) (u5.less (by omega))
            intro z hz
            have := sm z hz
            omega
end
end K05
namespace K05
open PySem PySem.Spec PyProof.Rows L2 Kg
open Evl (Ex)


theorem PL.perm {H : Hp} {xs ys : List V} {zs : List (Int × Int)} (p : ys.Perm xs) (h : PL H xs zs) : ∃ us, PL H ys us ∧ us.Perm zs := by
  obtain ⟨e, al⟩ := h.keys
  refine ⟨ys.map (kAt H), PL.of fun v hv => al v (p.subset hv), ?_⟩
  rw [e]
  exact p.map _
theorem PL.ks {H : Hp} : ∀ {vs : List V} {zs : List (Int × Int)}, PL H vs zs → ∃ ks : List (Addr × List Int), vs = ks.map (fun p => V.ref p.1) ∧ (∀ p ∈ ks, H p.1 = some (.tup (p.2.map V.int))) ∧ ks.map (·.2) = zs.map fun z => [z.1, z.2]
  | _, _, .nil => ⟨[], rfl, (by intro p hp; cases hp), rfl⟩
  | _, _, .cons (t := t) (z := z) h r => by
    obtain ⟨ks, h1, h2, h3⟩ := PL.ks r
    refine ⟨(t, [z.1, z.2]) :: ks, by rw [h1]; rfl, ?_, by rw [List.map_cons, List.map_cons, h3]⟩
    intro p hp
    rcases List.mem_cons.mp hp with rfl | hp
    · exact h
    · exact h2 p hp
theorem PL.back {H : Hp} : ∀ (ks : List (Addr × List Int)), (∀ p ∈ ks, p.2.length = 2 ∧ H p.1 = some (.tup (p.2.map V.int))) → ∃ zs : List (Int × Int), PL H (ks.map fun p => V.ref p.1) zs ∧ ks.map (·.2) = zs.map fun z => [z.1, z.2]
  | [], _ => ⟨[], .nil, rfl⟩
  | (t, k) :: ks, h => by
    obtain ⟨zs, h1, h2⟩ := PL.back ks fun p hp => h p (List.mem_cons_of_mem _ hp)
    obtain ⟨l, ht⟩ := h (t, k) List.mem_cons_self
    match k, l, ht with
    | [x, y], _, ht => exact ⟨(x, y) :: zs, .cons ht h1, by rw [List.map_cons, List.map_cons, h2]⟩
theorem two_inj {zs : List (Int × Int)} (h : (zs.map fun z => [z.1, z.2]).Nodup) : zs.Nodup := by
  rw [List.nodup_iff_pairwise_ne, List.pairwise_map] at h
  exact List.nodup_iff_pairwise_ne.mpr (h.imp fun n e => n (by rw [e]))
theorem Sm.perm {n : Int} {zs us : List (Int × Int)} (p : us.Perm zs) (h : Sm n zs) : Sm n us := fun z hz => h z (p.subset hz)
theorem off1_ex {D : Addr} {H H' : Hp} (e : Ex H H') : Ex (off D H) (off D H') := (Go.of e).ex
theorem off1_sub (D : Addr) (H : Hp) : Ex (off D H) H := off_sub D H
theorem off1_upd {D : Addr} {H : Hp} {o : HO} : Ex (off D H) (off D (upd H D o)) := Go.upd.ex
def pairL (z : Int × Int) : PyData := .list [.int z.1, .int z.2]
theorem filterMap_some' {α : Type} : ∀ l : List α, l.filterMap some = l
  | [] => rfl
  | x :: l => by rw [List.filterMap_cons_some rfl, filterMap_some' l]
theorem are_pairs {f : Int × Int → PyData} (hf : ∀ z, sqOf (f z) = some z) {zs : List (Int × Int)} (nd : zs.Nodup) {d : PyData} (e : seqOf d = some (zs.map f)) : areSq d = true ∧ sqs d = zs := by
  have m : (zs.map f).map sqOf = zs.map some := by
    rw [List.map_map]
    exact List.map_congr_left fun z _ => hf z
  constructor
  · unfold areSq
    rw [e]
    simp only [Bool.and_eq_true, decide_eq_true_eq, List.all_eq_true]
    refine ⟨fun x hx => ?_, ?_⟩
    · obtain ⟨z, _, rfl⟩ := List.mem_map.mp hx
      unfold isSq
      rw [hf]
      rfl
    · rw [m, List.nodup_iff_pairwise_ne, List.pairwise_map]
      exact nd.imp fun h e => h (Option.some.inj e)
  · rw [sqs_of e]
    show (zs.map f).filterMap sqOf = zs
    rw [List.filterMap_map, show sqOf ∘ f = some from funext hf]
    exact filterMap_some' zs
theorem better_told {d1 d2 d3 : PyData} {zs us gs : List (Int × Int)} (h1 : areSq d1 = true ∧ sqs d1 = zs) (h2 : areSq d2 = true ∧ sqs d2 = us) (h3 : areSq d3 = true ∧ sqs d3 = gs)
    (r1 : ∀ z ∈ zs, 0 ≤ z.1) (r2 : ∀ z ∈ us, 0 ≤ z.1) : better d1 d2 d3 = .told (HT.lexLt (rank zs gs) (rank us gs)) := by
  have no : ∀ {l : List (Int × Int)}, (∀ z ∈ l, 0 ≤ z.1) → ¬ l.any (fun z => decide (z.1 < 0)) = true := by
    intro l h c
    obtain ⟨z, hz, hn⟩ := List.any_eq_true.mp c
    have := h z hz
    have := of_decide_eq_true hn
    omega
  unfold better
  rw [if_neg (by rw [h1.1]; decide), if_neg (by rw [h2.1]; decide), if_neg (by rw [h3.1]; decide), h1.2, h2.2, h3.2, if_neg (no r1), if_neg (no r2)]
theorem short_pairs {f : Int × Int → PyData} {zs : List (Int × Int)} {d : PyData} (e : seqOf d = some (zs.map f)) (l : zs.length < 60) : Short d := by
  intro ds h
  rw [e] at h
  rw [← Option.some.inj h, List.length_map]
  exact l
theorem hits_le {zs gs : List (Int × Int)} (nd : zs.Nodup) : hits zs gs ≤ gs.length :=
  len_of_sub _ _ (nd.sublist List.filter_sublist) fun z hz => of_decide_eq_true (List.mem_filter.mp hz).2
theorem one_key {n e h : Int} : (n + 1) * ((e - 2 * h) - 2 * (-h)) + (2 * (n + 1) + 1) * (-h) = (n + 1) * (e - 2 * h) - h := by
  have a : (2 * (n + 1) + 1) * (-h) = (n + 1) * (-2 * h) - h := by
    rw [Int.add_mul, Int.mul_assoc, Int.mul_left_comm]
    have : (2 * -h) = -2 * h := by omega
    rw [this]
    omega
  rw [a, ← Int.add_sub_assoc, ← Int.mul_add]
  congr 2
  omega
theorem key_lt {n a b h k : Int} (h0 : 0 ≤ h) (k0 : 0 ≤ k) (hn : h ≤ n) (kn : k ≤ n) (l : a < b) : (n + 1) * a - h < (n + 1) * b - k := by
  have : (n + 1) * (a + 1) ≤ (n + 1) * b := Int.mul_le_mul_of_nonneg_left (by omega) (by omega)
  rw [Int.mul_add, Int.mul_one] at this
  omega
theorem one_lt {zs us gs : List (Int × Int)} (n1 : zs.Nodup) (n2 : us.Nodup) : HT.lexLt (oneN zs gs) (oneN us gs) = HT.lexLt (rank zs gs) (rank us gs) := by
  have a1 := hits_le (gs := gs) n1
  have a2 := hits_le (gs := gs) n2
  unfold oneN rank
  rw [one_key, one_key]
  generalize edge zs - 2 * (hits zs gs : Int) = a
  generalize edge us - 2 * (hits us gs : Int) = b
  generalize hits zs gs = h at *
  generalize hits us gs = k at *
  generalize (gs.length : Nat) = n at *
  simp only [HT.lexLt_cons, HT.lexLt_nil_nil]
  rcases Int.lt_trichotomy a b with l | l | l
  · have := key_lt (n := n) (h := h) (k := k) (by omega) (by omega) (by omega) (by omega) l
    rw [if_neg (by omega), if_neg (by omega), decide_eq_true this, decide_eq_true l]
  · subst l
    rw [if_pos (rfl : a = a)]
    by_cases e : h = k
    · subst e
      simp
    · rw [if_neg (show ¬ ((n : Int) + 1) * a - h = (n + 1) * a - k by omega), if_neg (show ¬ -(h : Int) = -k by omega)]
      congr 1
      apply propext
      omega
  · have := key_lt (n := n) (h := k) (k := h) (by omega) (by omega) (by omega) (by omega) l
    rw [if_neg (by omega), if_neg (by omega), decide_eq_false (by omega), decide_eq_false (by omega)]
theorem eqvAll_ints : ∀ l m : List Int, PyData.eqvAll (l.map PyData.int) (m.map PyData.int) = decide (l = m)
  | [], [] => by simp [PyData.eqvAll]
  | [], _ :: _ => by simp [PyData.eqvAll]
  | _ :: _, [] => by simp [PyData.eqvAll]
  | x :: l, y :: m => by
    rw [List.map_cons, List.map_cons]
    simp only [PyData.eqvAll, PyData.eqv, eqvAll_ints l m]
    by_cases h1 : x = y <;> by_cases h2 : l = m <;> simp [h1, h2]
theorem eqv_ints (l m : List Int) : PyData.eqv (.tuple (l.map PyData.int)) (.tuple (m.map PyData.int)) = decide (l = m) := by
  simp only [PyData.eqv]
  exact eqvAll_ints l m
theorem rank_shaped (zs gs : List (Int × Int)) : SeqAt.shaped (.tuple ((rank zs gs).map PyData.int)) = true := by
  simp [rank, SeqAt.shaped, PyData.canLay0, PyData.canLayAll0, PyData.depth, PyData.depthAll]
theorem lex_irr : ∀ a : List Int, HT.lexLt a a = false
  | [] => rfl
  | x :: a => by rw [HT.lexLt_cons, if_pos rfl]; exact lex_irr a
theorem lex_three : ∀ (a b : List Int), a.length = b.length → (HT.lexLt a b || HT.lexLt b a) = !decide (a = b)
  | [], [], _ => by simp [HT.lexLt_nil_nil]
  | [], _ :: _, h => nomatch h
  | _ :: _, [], h => nomatch h
  | x :: a, y :: b, h => by
    rw [HT.lexLt_cons, HT.lexLt_cons]
    by_cases e : x = y
    · subst e
      rw [if_pos rfl, if_pos rfl, lex_three a b (by simpa using h)]
      simp
    · rw [if_neg e, if_neg fun z => e z.symm]
      have : (decide (x < y) || decide (y < x)) = true := by
        simp
        omega
      rw [this]
      simp [e]
theorem fit_pairT {z : Int × Int} (h : -10 ≤ z.1 ∧ z.1 ≤ 10 ∧ -10 ≤ z.2 ∧ z.2 ≤ 10) : Fit 406 (pairT z) ∧ (pairT z).depth ≤ 2 := by
  have f := fit_seq (n := 202) (ds := [.int z.1, .int z.2]) 2 (by simp) (fun d hd => by
    rcases List.mem_cons.mp hd with rfl | hd
    · exact ⟨fit_int (Nat.le_trans (m := 10) (by omega) (by decide)), by simp [PyData.depth]⟩
    · rw [List.mem_singleton.mp hd]; exact ⟨fit_int (Nat.le_trans (m := 10) (by omega) (by decide)), by simp [PyData.depth]⟩)
  exact ⟨f.2, by simp [pairT, PyData.depth, PyData.depthAll]⟩
theorem fit_pairs {zs : List (Int × Int)} (h : ∀ z ∈ zs, -10 ≤ z.1 ∧ z.1 ≤ 10 ∧ -10 ≤ z.2 ∧ z.2 ≤ 10) (l : zs.length ≤ 31) : Fit 12617 (.list (zs.map pairT)) ∧ (PyData.list (zs.map pairT)).depth ≤ 2 := by
  have f := fit_seq (n := 406) (ds := zs.map pairT) 31 (by rw [List.length_map]; exact l) (fun d hd => by
    obtain ⟨z, hz, rfl⟩ := List.mem_map.mp hd
    exact fit_pairT (h z hz))
  have := pairTs_depth zs
  exact ⟨f.1, by simp only [PyData.depth]; omega⟩
theorem fit_three (zs us gs : List (Int × Int)) (h1 : ∀ z ∈ zs, -10 ≤ z.1 ∧ z.1 ≤ 10 ∧ -10 ≤ z.2 ∧ z.2 ≤ 10) (h2 : ∀ z ∈ us, -10 ≤ z.1 ∧ z.1 ≤ 10 ∧ -10 ≤ z.2 ∧ z.2 ≤ 10) (h3 : ∀ z ∈ gs, -10 ≤ z.1 ∧ z.1 ≤ 10 ∧ -10 ≤ z.2 ∧ z.2 ≤ 10)
    (l1 : zs.length ≤ 31) (l2 : us.length ≤ 31) (l3 : gs.length ≤ 31) : Fit 40000 (.tuple [.list (zs.map pairT), .list (us.map pairT), .list (gs.map pairT)]) :=
  (fit_seq (n := 12617) 3 (by simp) (fun d hd => by
    simp only [List.mem_cons, List.not_mem_nil, or_false] at hd
    rcases hd with rfl | rfl | rfl
    · exact fit_pairs h1 l1
    · exact fit_pairs h2 l2
    · exact fit_pairs h3 l3)).2.mono (by decide)
section
variable {P : Program} {w : World} {K : PySem.W.Frag} {mg : Str → Option Value} {base : Heap}
/-- two walls are compared as they should be -/
def spPairR (K : PySem.W.Frag) : Sp := fun vs H Q _ => ∃ (j : Addr) (B : Hp) (b : Nat), vs = [.ref j] ∧ OffK K ∧ Urn K B j (b + 150) H ∧ Sys H ∧ sysModules ≠ j ∧
  ∀ H', Go j H H' → Urn K B j b H' → Q (.bl true) H'
theorem ok_w_pair_right (T : Txt K mg) : FnG P w K mg base CX0 6 T.f_w_pair_right T.d_w_pair_right ["reel"] (spPairR K) := by
  have G_w_wind : FnOk P w K mg base CX0 5 T.f_w_wind T.d_w_wind ["reel", "many"] (spDraw K) := (ok_draw T).mono (by decide)
  have G_w_drawn : FnOk P w K mg base CX0 5 T.f_w_drawn T.d_w_drawn ["reel"] (spDrawn K) := (ok_w_drawn T).mono (by decide)
  have G_w_other : FnOk P w K mg base CX0 5 T.f_w_other T.d_w_other ["reel", "one"] (spOther K) := (ok_w_other T).mono (by decide)
  have G_w_mixed : FnOk P w K mg base CX0 5 T.f_w_mixed T.d_w_mixed ["reel", "some"] (spMix K) := (ok_w_mixed T).mono (by decide)
  have G_w_measured : FnOk P w K mg base CX0 5 T.f_w_measured T.d_w_measured ["squares", "fire"] (spMeas K) := (ok_w_measured T).mono (by decide)
  have G_w_in_one : FnOk P w K mg base CX0 5 T.f_w_in_one T.d_w_in_one ["squares", "fire"] (spOne K) := (ok_w_in_one T).mono (by decide)
  have G_w_is : FnOk P w K mg base CX0 5 T.f_w_is T.d_w_is ["told", "due"] spIs := (ok_w_is T).mono (by decide)
  have G_is_better : FnOk P w K mg base (L2.CX P w) 5 T.f_is_better T.d_is_better ["one", "other", "burnt"] (spBetter K T.c_BadSquares T.c_Misfit) := ok_is_better T
  refine okG T.F_w_pair_right sc_w_pair_right (fun vs H Q E h => ?_) (fun cdv A outer s H vs Q E hr gd h => ?_)
  · obtain ⟨j, B, b, rfl, _⟩ := h
    rfl
  · obtain ⟨j, B, b, rfl, off0, u, sys, nsys, k⟩ := h
    have hr1 := hr
    have hu0 : (A.deeper (envOfC "_law_pair_right" (defScope s_w_pair_right) s.heap.objs.size T.f_w_pair_right cdv)).units < cLine := by have := hr.un; omega
    have hu64 : (A.deeper (envOfC "_law_pair_right" (defScope s_w_pair_right) s.heap.objs.size T.f_w_pair_right cdv)).units + 64 < cLine := by have := hr.un; omega
    have small : sizeLine = 16777216 := sizeLine_eq
    refine ⟨_, (Evl.pss_cut (ps_set (i := 1) sc_w_pair_right.nd rfl (Or.inl rfl) (pe_call G_w_mixed hr1 rfl T.g_w_mixed T.F_w_mixed.kp (b_w_mixed T) .nil pass0 (pa_cons (pv 0) (pa_cons (pe_call G_w_drawn hr1 rfl T.g_w_drawn T.F_w_drawn.kp (b_w_drawn T) .nil pass0 (pa_cons (pv 0) pa_nil)) pa_nil))))
  (Evl.pss_cut (ps_set (i := 2) sc_w_pair_right.nd rfl (Or.inl rfl) (pe_call G_w_mixed hr1 rfl T.g_w_mixed T.F_w_mixed.kp (b_w_mixed T) .nil pass0 (pa_cons (pv 0) (pa_cons (pe_call G_w_other hr1 rfl T.g_w_other T.F_w_other.kp (b_w_other T) .nil pass0 (pa_cons (pv 0) (pa_cons (pv 1) pa_nil))) pa_nil))))
  (Evl.pss_cut (ps_setLc (i := 3) (own := [("square", 4)]) (g := (gName 4)) rfl sc_w_pair_right.nd rfl rfl (sw_true rfl rfl rfl (by decide +kernel)) (pi_list (pe_op op_cat (pv 1) (pv 2))) (blkOk_by (own := [("square", 4)]) (N := ["reel", "one", "other", "fire", "square", "turn", "mine", "its", "kept", "told", "back"]) (sc := defScope s_w_pair_right) (by decide +kernel)) (fun _ _ _ _ _ => (pg_name (i := 4) sc_w_pair_right.nd rfl (Or.inl rfl))) (fun _ _ _ _ _ => (pts_one (pt_cmpR op_eq (pe_call G_w_wind hr1 rfl T.g_w_wind T.F_w_wind.kp (b_w_wind T) .nil pass0 (pa_cons (pv 0) (pa_cons pe_int pa_nil))) pe_int (nomark _)))) (fun _ _ _ _ _ => (pv 4)))
  (Evl.pss_cut (ps_set (i := 3) sc_w_pair_right.nd rfl (Or.inl rfl) (pe_op op_cat (pv 3) (pe_lc (own := [("turn", 5)]) (g := (gName 5)) rfl sc_w_pair_right.nd (pi_range1 (by rfl) T.z_range (pa_cons (pe_call G_w_wind hr1 rfl T.g_w_wind T.F_w_wind.kp (b_w_wind T) .nil pass0 (pa_cons (pv 0) (pa_cons pe_int pa_nil))) pa_nil)) (blkOk_by (own := [("turn", 5)]) (N := ["reel", "one", "other", "fire", "square", "turn", "mine", "its", "kept", "told", "back"]) (sc := defScope s_w_pair_right) (by decide +kernel)) (fun _ _ _ _ _ => (pg_name (i := 5) sc_w_pair_right.nd rfl (Or.inl rfl))) (fun _ _ _ _ _ => pts_nil) (fun _ _ _ _ _ => (pe_tup (pa_cons (pe_op op_sub (pe_call G_w_wind hr1 rfl T.g_w_wind T.F_w_wind.kp (b_w_wind T) .nil pass0 (pa_cons (pv 0) (pa_cons pe_int pa_nil))) pe_int) (pa_cons (pe_op op_sub (pe_call G_w_wind hr1 rfl T.g_w_wind T.F_w_wind.kp (b_w_wind T) .nil pass0 (pa_cons (pv 0) (pa_cons pe_int pa_nil))) pe_int) pa_nil)))))))
  (Evl.pss_cut (ps_set (i := 3) sc_w_pair_right.nd rfl (Or.inl rfl) (pe_call G_w_mixed hr1 rfl T.g_w_mixed T.F_w_mixed.kp (b_w_mixed T) .nil pass0 (pa_cons (pv 0) (pa_cons (pe_callB (cr_sortedS2 rfl) (by rfl) T.z_sorted (by decide +kernel) (pa_cons (pe_callTy (cr_setOfT rfl hu64) (by rfl) T.z_set (by decide +kernel) (pa_cons (pv 3) pa_nil)) pa_nil)) pa_nil))))
  (Evl.pss_cut (ps_par (i := 6) (j := 7) (by rfl) sc_w_pair_right.nd rfl rfl (by decide) rfl rfl (pa_cons (pe_call G_w_measured hr1 rfl T.g_w_measured T.F_w_measured.kp (b_w_measured T) .nil pass0 (pa_cons (pv 1) (pa_cons (pv 3) pa_nil))) (pa_cons (pe_call G_w_measured hr1 rfl T.g_w_measured T.F_w_measured.kp (b_w_measured T) .nil pass0 (pa_cons (pv 2) (pa_cons (pv 3) pa_nil))) pa_nil)) (by rfl))
  (Evl.pss_cut (ps_set (i := 8) sc_w_pair_right.nd rfl (Or.inl rfl) (pe_callB (cr_repr gd hu64 off0) (by rfl) T.z_repr (by decide +kernel) (pa_cons (pe_tup (pa_cons (pv 1) (pa_cons (pv 2) (pa_cons (pv 3) pa_nil)))) pa_nil)))
  (Evl.pss_cut (ps_par (i := 9) (j := 10) (by rfl) sc_w_pair_right.nd rfl rfl (by decide) rfl rfl (pa_cons (pe_call G_is_better hr1 rfl T.g_is_better T.F_is_better.kp (b_is_better T) .nil (passes_call LamX.takes0 (fun _ _ _ _ h => h)) (pa_cons (pv 1) (pa_cons (pv 2) (pa_cons (pv 3) pa_nil)))) (pa_cons (pe_callKW G_is_better hr1 rfl T.g_is_better T.F_is_better.kp (kb_is_better_other_burnt_one T) (passes_call LamX.takes0 (fun _ _ _ _ h => h)) (pk_cons (pv 1) (pk_cons (pe_callTy call_tuple_of (by rfl) T.z_tuple (by decide +kernel) (pa_cons (pv 3) pa_nil)) (pk_cons (pe_callTy call_tuple_of (by rfl) T.z_tuple (by decide +kernel) (pa_cons (pe_lc (own := [("square", 4)]) (g := (gName 4)) rfl sc_w_pair_right.nd (pi_list (pv 2)) (blkOk_by (own := [("square", 4)]) (N := ["reel", "one", "other", "fire", "square", "turn", "mine", "its", "kept", "told", "back"]) (sc := defScope s_w_pair_right) (by decide +kernel)) (fun _ _ _ _ _ => (pg_name (i := 4) sc_w_pair_right.nd rfl (Or.inl rfl))) (fun _ _ _ _ _ => pts_nil) (fun _ _ _ _ _ => (pe_callTy (show CallR _ _ (Evl.rListS K) from call_list_of) (by rfl) T.z_list (by decide +kernel) (pa_cons (pv 4) pa_nil)))) pa_nil)) pk_nil)))) pa_nil)) (by rfl))
  (Evl.pss_cut (ps_if (PW.pt (pw_or (pt_not (pt_val (pe_call G_w_is hr1 rfl T.g_w_is T.F_w_is.kp (b_w_is T) .nil pass0 (pa_cons (pv 9) (pa_cons (pe_cmpR (op_ltT hu0) (pv 6) (pv 7) (nomark _)) pa_nil))))) (pw_or (pt_not (pt_val (pe_call G_w_is hr1 rfl T.g_w_is T.F_w_is.kp (b_w_is T) .nil pass0 (pa_cons (pv 10) (pa_cons (pe_cmpR (op_ltT hu0) (pv 7) (pv 6) (nomark _)) pa_nil))))) (pw_or1 (pt_cmpR op_ne (pe_callB (cr_repr gd hu64 off0) (by rfl) T.z_repr (by decide +kernel) (pa_cons (pe_tup (pa_cons (pv 1) (pa_cons (pv 2) (pa_cons (pv 3) pa_nil)))) pa_nil)) (pv 8) (nomark _)))))) (pss_one (ps_ret pe_bl)) pss_nil)
  (Evl.pss_cut (ps_if (pt_not (pt_val (pe_call G_w_is hr1 rfl T.g_w_is T.F_w_is.kp (b_w_is T) .nil pass0 (pa_cons (pv 9) (pa_cons (pe_cmpR (op_ltT hu0) (pe_call G_w_in_one hr1 rfl T.g_w_in_one T.F_w_in_one.kp (b_w_in_one T) .nil pass0 (pa_cons (pv 1) (pa_cons (pv 3) pa_nil))) (pe_call G_w_in_one hr1 rfl T.g_w_in_one T.F_w_in_one.kp (b_w_in_one T) .nil pass0 (pa_cons (pv 2) (pa_cons (pv 3) pa_nil))) (nomark _)) pa_nil))))) (pss_one (ps_ret pe_bl)) pss_nil)
  (pss_one (ps_ret (pe_and (pe_cmpR op_ne (pe_or (pv 9) (pe_one (pv 10))) (pe_cmpR (op_eqD hu64) (pv 6) (pv 7) (nomark _)) (nomark _)) (pe_one (pe_cmpR op_isBl (pe_call G_is_better hr1 rfl T.g_is_better T.F_is_better.kp (b_is_better T) .nil (passes_call LamX.takes0 (fun _ _ _ _ h => h)) (pa_cons (pv 1) (pa_cons (pe_callTy call_list_of (by rfl) T.z_list (by decide +kernel) (pa_cons (pv 1) pa_nil)) (pa_cons (pv 3) pa_nil)))) pe_bl (nomark _)))))))))))))))), ?_⟩
    refine ⟨fun σ' H' => ∃ a1 xs zs, σ' = [some (.ref j), some (.ref a1), none, none, none, none, none, none, none, none, none] ∧ Go j H H' ∧ Urn K B j (b + 123) H' ∧ H a1 = none ∧ H' a1 = some (.lst xs) ∧ PL (off j H') xs zs ∧ zs.Nodup ∧ Sm 0 zs ∧ zs.length ≤ 12, ?_, ?_⟩
    · walk_at "rd"
      intro L ys zs H1 g1 n1 h1 p1 nd sm ln u1
      have lx := p1.len
      have nLj := u.ne n1
      walk_at "rd"
      refine ⟨j, L, B, b + 123, ys, rfl, u1.less (by omega), SqL.of (off_at nLj h1), by omega, fun M ws H2 pm g2 n2 h2 u2 => ?_⟩
      obtain ⟨us, p2, pz⟩ := PL.perm pm p1
      refine ⟨M, ws, us, rfl, g1.trans g2, u2, u1.back g1 n2, h2, p2.mono g2.ex, pz.nodup_iff.mpr nd, sm.perm pz, by rw [pz.length_eq]; omega⟩
    rintro σ' H1 ⟨a1, xs, zs, rfl, g1, u1, na1, ha1, pl1, nd1, sm1, ln1⟩
    have na1j := u.ne na1
    refine ⟨fun σ' H' => ∃ a2 ys us, σ' = [some (.ref j), some (.ref a1), some (.ref a2), none, none, none, none, none, none, none, none] ∧ Go j H1 H' ∧ Urn K B j (b + 88) H' ∧ H1 a2 = none ∧ H' a2 = some (.lst ys) ∧ PL (off j H') ys us ∧ us.Nodup ∧ Sm 3 us ∧ us.length ≤ 15, ?_, ?_⟩
    · walk_at "rd"
      refine ⟨j, a1, B, b + 103, xs, zs, rfl, u1, SqL.of (off_at na1j ha1), pl1, nd1, sm1, ln1, fun L ys us H2 g2 n2 h2 p2 nd sm ln u2 => ?_⟩
      have lx := p2.len
      have nLj := u1.ne n2
      walk_at "rd"
      refine ⟨j, L, B, b + 88, ys, rfl, u2.less (by omega), SqL.of (off_at nLj h2), by omega, fun M ws H3 pm g3 n3 h3 u3 => ?_⟩
      obtain ⟨vs, p3, pz⟩ := PL.perm pm p2
      refine ⟨M, ws, vs, rfl, g2.trans g3, u3, u2.back g2 n3, h3, p3.mono g3.ex, pz.nodup_iff.mpr nd, sm.perm pz, by rw [pz.length_eq]; omega⟩
    rintro σ' H2 ⟨a2, ys, us, rfl, g2, u2, na2, ha2, pl2, nd2, sm2, ln2⟩
    have na2j := u1.ne na2
    have ha1' := g2 a1 _ na1j ha1
    have pl1' := pl1.mono g2.ex
    have l1 := pl1'.len
    have l2 := pl2.len
    refine ⟨fun σ' H' => ∃ f ws gs, σ' = [some (.ref j), some (.ref a1), some (.ref a2), some (.ref f), none, none, none, none, none, none, none] ∧ Go j H2 H' ∧ Urn K B j (b + 61) H' ∧ H2 f = none ∧ H' f = some (.lst ws) ∧ PL (off f (off j H')) ws gs ∧ Sm 3 gs ∧ gs.length ≤ 27, ?_, ?_⟩
    · walk_at "rd"
      intro C hC
      have eC := Evl.Ex.new (o := .lst (xs ++ ys)) hC
      refine ⟨C, rfl, ⟨_, SqL.of upd_same⟩, fun D hD => ?_⟩
      have hDC : D ≠ C := by rintro rfl; rw [upd_same] at hD; cases hD
      have hD2 : H2 D = none := (upd_ne hDC).symm.trans hD
      have eD := Evl.Ex.new (o := .lst []) hD
      have e0 := eC.trans eD
      have plA : PL (off D (off j (upd (upd H2 C (.lst (xs ++ ys))) D (.lst [])))) (xs ++ ys) (zs ++ us) := (PL.app pl2 pl1').mono ((Go.of eC).ex.trans (off_new hD))
      have lA : (zs ++ us).length ≤ 27 := by rw [List.length_append]; omega
      have smA : Sm 3 (zs ++ us) := by
        intro z hz
        rcases List.mem_append.mp hz with hz | hz
        · have := sm1 z hz
          omega
        · exact sm2 z hz
      have nCj := u2.ne hC
      have C2 : upd (upd H2 C (.lst (xs ++ ys))) D (.lst []) C = some (.lst (xs ++ ys)) := eD _ _ upd_same
      have uA : Urn K B j (b + 61 + 27) (upd (upd H2 C (.lst (xs ++ ys))) D (.lst [])) := u2.ex e0
      have D2 : upd (upd H2 C (.lst (xs ++ ys))) D (.lst []) D = some (.lst []) := upd_same
      refine lc_list (K := K) (a := C) (xs := xs ++ ys) (fun i H' => Go j H2 H' ∧ H' C = some (.lst (xs ++ ys)) ∧ PL (off D (off j H')) (xs ++ ys) (zs ++ us) ∧ Urn K B j (b + 61 + (27 - i)) H' ∧ ∃ ws fs, H' D = some (.lst ws) ∧ PL (off D (off j H')) ws fs ∧ Sm 3 fs ∧ fs.length ≤ i)
        ⟨Go.of e0, C2, plA, uA, [], [], D2, .nil, (by intro z hz; cases hz), Nat.zero_le _⟩ (fun i H' _ q => SqL.of q.2.1) ?_ ?_
      · rintro i v H' hv ⟨q1, qC, qA, q2, ws, fs, q3, q4, q5, q6⟩
        obtain ⟨t, z, rfl, hz, ht⟩ := qA.at hv
        have lt := (List.getElem?_eq_some_iff.mp hz).1
        have bud : b + 61 + (27 - i) = b + 61 + (27 - (i + 1)) + 1 := by omega
        rw [bud] at q2
        walk_at "rd"
        intro r H4 r0 r1 g4 u4
        have d4 := g4 D _ (u2.ne hD2) q3
        have lf := q4.len
        walk_at "rd"
        refine ifB (fun c => ?_) (fun c => ?_)
        · walk_at "rd"
          refine ⟨ws, d4, by omega, Go.mut hD2 (q1.trans g4), (upd_ne hDC.symm).trans (g4 C _ nCj qC), (qA.mono (Go.ex' D g4)).mono off_upd, u4.mut u2 hD2, ws ++ [.ref t], fs ++ [z], upd_same, ?_, ?_, ?_⟩
          · exact PL.mono off_upd (PL.app (.cons (Go.ex' D g4 _ _ ht) .nil) (q4.mono (Go.ex' D g4)))
          · intro x hx
            rcases List.mem_append.mp hx with hx | hx
            · exact q5 x hx
            · rw [List.mem_singleton.mp hx]
              exact smA z (List.mem_of_getElem? hz)
          · rw [List.length_append]
            show fs.length + 1 ≤ i + 1
            omega
        · exact ⟨q1.trans g4, g4 C _ nCj qC, qA.mono (Go.ex' D g4), u4, ws, fs, d4, q4.mono (Go.ex' D g4), q5, by omega⟩
      · rintro H4 ⟨q1, qC, qA, q2, ws, fs, q3, q4, q5, q6⟩
        have := qA.len
        exact ⟨D, ws, fs, rfl, q1, q2.less (by omega), hD2, q3, q4, q5, by omega⟩
    rintro σ' H3 ⟨f, ws, gs, rfl, g3, u3, nf, hf, plf, smf, lf⟩
    have nfj := u2.ne nf
    have ll3 := plf.len
    refine ⟨fun σ' H' => ∃ x5 f2 ws gs, σ' = [some (.ref j), some (.ref a1), some (.ref a2), some (.ref f2), none, x5, none, none, none, none, none] ∧ Go j H3 H' ∧ Urn K B j (b + 52) H' ∧ H3 f2 = none ∧ H' f2 = some (.lst ws) ∧ PL (off f2 (off j H')) ws gs ∧ (∀ z ∈ gs, -10 ≤ z.1 ∧ z.1 ≤ 10 ∧ -10 ≤ z.2 ∧ z.2 ≤ 10) ∧ gs.length ≤ 31, ?_, ?_⟩
    · walk_at "rd"
      intro r1 H4 r10 r11 g4 u4
      walk_at "rd"
      intro D hD
      have eD := Evl.Ex.new (o := .lst []) hD
      have hD3 : H3 D = none := u4.back g4 hD
      have hD2 : H2 D = none := u3.back g3 hD3
      have f4 := g4 f _ nfj hf
      have nfD : f ≠ D := by rintro rfl; rw [f4] at hD; cases hD
      refine lc_range (n := r1.toNat) (lo := 0) (fun i H' => Go j H3 H' ∧ H' f = some (.lst ws) ∧ Urn K B j (b + 52 + 2 * (4 - i)) H' ∧ ∃ vs fs, H' D = some (.lst vs) ∧ PL (off D (off j H')) vs fs ∧ (∀ z ∈ fs, -10 ≤ z.1 ∧ z.1 ≤ 10 ∧ -10 ≤ z.2 ∧ z.2 ≤ 10) ∧ fs.length ≤ i)
        ⟨g4.trans (Go.of eD), eD _ _ f4, u4.ex eD, [], [], upd_same, .nil, (by intro z hz; cases hz), Nat.zero_le _⟩ ?_ ?_
      · rintro i H' hi ⟨q1, qf, q2, vs, fs, q3, q4, q5, q6⟩
        have bud : b + 52 + 2 * (4 - i) = b + 52 + 2 * (4 - (i + 1)) + 1 + 1 := by omega
        rw [bud] at q2
        walk_at "rd"
        intro x H5 x0 x1 g5 u5
        walk_at "rd"
        intro y H6 y0 y1 g6 u6
        walk_at "rd"
        intro t ht
        have et := Evl.Ex.new (o := .tup [.int (x - 2), .int (y - 3)]) ht
        have g56 : Go j H' H6 := g5.trans g6
        have d6 := g56 D _ (u3.ne hD3) q3
        have ntD : t ≠ D := by rintro rfl; rw [d6] at ht; cases ht
        have ntj := u6.ne ht
        have lf := q4.len
        walk_at "rd"
        refine ⟨vs, et _ _ d6, by omega, Go.mut hD3 ((q1.trans g56).trans (Go.of et)), (upd_ne nfD).trans (et _ _ (g56 f _ nfj qf)), (u6.ex et).mut u3 hD3, vs ++ [.ref t], fs ++ [(x - 2, y - 3)], upd_same, ?_, ?_, ?_⟩
        · exact PL.mono off_upd (PL.app (us := [(x - 2, y - 3)]) (.cons (off_at ntD (off_at ntj upd_same)) .nil) (q4.mono (Go.ex' D (g56.trans (Go.of et)))))
        · intro z hz
          rcases List.mem_append.mp hz with hz | hz
          · exact q5 z hz
          · rw [List.mem_singleton.mp hz]
            simp only
            omega
        · rw [List.length_append]
          show fs.length + 1 ≤ i + 1
          omega
      · rintro H5 ⟨q1, qf, q2, vs, fs, q3, q4, q5, q6⟩
        have lf := q4.len
        refine ⟨f, D, ws, vs, rfl, rfl, qf, q3, by rw [small]; omega, fun l hl => ?_⟩
        have el := Evl.Ex.new (o := .lst (ws ++ vs)) hl
        have hl3 : H3 l = none := q2.back q1 hl
        refine ⟨_, l, _, gs ++ fs, rfl, q1.trans (Go.of el), (q2.ex el).less (by omega), hl3, upd_same, ?_, ?_, by rw [List.length_append]; omega⟩
        · refine PL.mono (off_new hl) (PL.app (q4.mono (off_sub D _)) ?_)
          exact (plf.mono (off_sub f _)).mono q1.ex
        · intro z hz
          rcases List.mem_append.mp hz with hz | hz
          · have := smf z hz
            omega
          · exact q5 z hz
    rintro σ' H4 ⟨x5, f2, ws2, gs2, rfl, g4, u4, nf2, hf2, plf2, smf2, lf2⟩
    have nf2j := u3.ne nf2
    have ll4 := plf2.len
    refine ⟨fun σ' H' => ∃ f3 ws gs, σ' = [some (.ref j), some (.ref a1), some (.ref a2), some (.ref f3), none, x5, none, none, none, none, none] ∧ Go j H4 H' ∧ Urn K B j (b + 21) H' ∧ H4 f3 = none ∧ H' f3 = some (.lst ws) ∧ PL (off j H') ws gs ∧ gs.Nodup ∧ (∀ z ∈ gs, -10 ≤ z.1 ∧ z.1 ≤ 10 ∧ -10 ≤ z.2 ∧ z.2 ≤ 10) ∧ gs.length ≤ 31, ?_, ?_⟩
    · have plf3 : PL (off j H4) ws2 gs2 := plf2.mono (off_sub f2 _)
      obtain ⟨ks, k1, k2, k3⟩ := PL.ks plf3
      have k2' : ∀ p ∈ ks, SqT K H4 p.1 (p.2.map V.int) := fun p hp => SqT.of (off_sub j _ _ _ (k2 p hp))
      have lk : ks.length = gs2.length := by have := congrArg List.length k3; simpa using this
      have hf2' : SqL K H4 f2 (ks.map fun p => V.ref p.1) := by rw [← k1]; exact SqL.of hf2
      have sz : ∀ p ∈ ks, ∃ z ∈ gs2, p.2 = [z.1, z.2] := fun p hp => by
        have h : p.2 ∈ ks.map (·.2) := List.mem_map.mpr ⟨p, hp, rfl⟩
        rw [k3] at h
        obtain ⟨z, hz, e⟩ := List.mem_map.mp h
        exact ⟨z, hz, e.symm⟩
      walk_at "rd"
      intro S L hS sub all
      have eS := Evl.Ex.new (o := SetTO P w S L) hS
      have two : ∀ p ∈ L, p.2.length = 2 := fun p hp => by
        obtain ⟨z, _, e⟩ := sz p (sub p hp)
        rw [e]
        rfl
      walk_at "rd"
      refine ⟨S, L, rfl, upd_same, fun p hp => SqT.of (eS _ _ (off_sub j _ _ _ (k2 p (sub p hp)))), two, fun M f hM ndM lM hf => ?_⟩
      have ef := Evl.Ex.new (o := .lst (M.map fun q => V.ref q.1)) hf
      have subM : ∀ p ∈ M, p ∈ ks := fun p hp => sub p (hM.subset hp)
      have lM2 : M.length ≤ 31 := by
        have := len_of_sub (M.map (·.2)) (ks.map (·.2)) ndM (fun x hx => by
          obtain ⟨p, hp, e⟩ := List.mem_map.mp hx
          exact List.mem_map.mpr ⟨p, subM p hp, e⟩)
        simp only [List.length_map] at this
        omega
      obtain ⟨zM, pM, eM⟩ := PL.back (H := off j H4) M fun p hp => ⟨two p (hM.subset hp), k2 p (subM p hp)⟩
      have uM := (u4.ex eS).ex ef
      have nfj2 := (u4.ex eS).ne hf
      walk_at "rd"
      refine ⟨j, f, B, b + 21, M.map fun q => V.ref q.1, rfl, uM.less (by rw [List.length_map]; omega), SqL.of (off_at nfj2 upd_same), by rw [List.length_map]; omega, fun f3 ys H5 pm g5 n5 h5 u5 => ?_⟩
      have pM5 := pM.mono ((Go.of (eS.trans ef)).trans g5).ex
      obtain ⟨us5, p5, pz⟩ := PL.perm pm pM5
      have lz := pM.len
      rw [List.length_map] at lz
      refine ⟨f3, ys, us5, rfl, (Go.of (eS.trans ef)).trans g5, u5, uM.back (Go.of (eS.trans ef)) n5, h5, p5, pz.nodup_iff.mpr (two_inj (by rw [← eM]; exact ndM)), ?_, by rw [pz.length_eq]; omega⟩
      intro z hz
      have hz := pz.subset hz
      have h : [z.1, z.2] ∈ M.map (·.2) := by rw [eM]; exact List.mem_map.mpr ⟨z, hz, rfl⟩
      obtain ⟨p, hp, e⟩ := List.mem_map.mp h
      obtain ⟨z2, hz2, e2⟩ := sz p (subM p hp)
      rw [e2] at e
      have e3 : z2 = z := by
        injection e with a1 a2
        injection a2 with a2
        exact Prod.ext a1 a2
      rw [← e3]
      exact smf2 z2 hz2
    rintro σ' H5 ⟨f3, ws3, gs3, rfl, g5, u5, nf3, hf3, plf3, nd3, smf3, lf3⟩
    have nf3j := u4.ne nf3
    have gA : Go j H2 H5 := g3.trans (g4.trans g5)
    have hb1 := gA a1 _ na1j ha1'
    have hb2 := gA a2 _ na2j ha2
    have pb1 := (pl1'.mono gA.ex).mono (off_sub j _)
    have pb2 := (pl2.mono gA.ex).mono (off_sub j _)
    have pb3 := plf3.mono (off_sub j _)
    have r1 : ∀ z ∈ zs, 0 ≤ z.1 := fun z hz => (sm1 z hz).1
    have r2 : ∀ z ∈ us, 0 ≤ z.1 := fun z hz => (sm2 z hz).1
    have gH5 : Go j H H5 := (g1.trans g2).trans gA
    have sys5 : Sys H5 := by
      obtain ⟨o, φ, h⟩ := sys
      exact ⟨o, φ, gH5 _ _ nsys h⟩
    refine ⟨fun σ' H' => ∃ t1 t2, σ' = [some (.ref j), some (.ref a1), some (.ref a2), some (.ref f3), none, x5, some (.ref t1), some (.ref t2), none, none, none] ∧ Ex H5 H' ∧ H' t1 = some (.tup ((rank zs gs3).map V.int)) ∧ H' t2 = some (.tup ((rank us gs3).map V.int)), ?_, ?_⟩
    · walk_at "rd"
      refine ⟨a1, f3, xs, ws3, zs, gs3, rfl, SqL.of hb1, pb1, nd1, r1, SqL.of hf3, pb3, by omega, by omega, fun t1 H6 e6 n6 h6 => ?_⟩
      walk_at "rd"
      refine ⟨a2, f3, ys, ws3, us, gs3, rfl, SqL.of (e6 _ _ hb2), pb2.mono e6, nd2, r2, SqL.of (e6 _ _ hf3), pb3.mono e6, by omega, by omega, fun t2 H7 e7 n7 h7 => ?_⟩
      exact ⟨_, _, rfl, t1, t2, rfl, e6.trans e7, e7 _ _ h6, h7⟩
    rintro σ' H6 ⟨t1, t2, rfl, e6, ht1, ht2⟩
    obtain ⟨d, fit, daD⟩ : ∃ d : PyData, Fit 40000 d ∧ ∀ t H', Ex H5 H' → H' t = some (.tup [.ref a1, .ref a2, .ref f3]) → Da K H' (.ref t) d := by
      refine ⟨.tuple [.list (zs.map pairT), .list (us.map pairT), .list (gs3.map pairT)], fit_three zs us gs3 (fun z hz => ?_) (fun z hz => ?_) (fun z hz => ?_) (by omega) (by omega) (by omega), fun t H' e h => .tup (SqT.of h) (.cons (.lst (SqL.of (e _ _ hb1)) (pb1.mono e).da) (.cons (.lst (SqL.of (e _ _ hb2)) (pb2.mono e).da) (.cons (.lst (SqL.of (e _ _ hf3)) (pb3.mono e).da) .nil)))⟩
      · have := sm1 z hz
        omega
      · have := sm2 z hz
        omega
      · have := smf3 z hz
        omega
    have sys6 := Sys.mono e6 sys5
    refine ⟨fun σ' H' => σ' = [some (.ref j), some (.ref a1), some (.ref a2), some (.ref f3), none, x5, some (.ref t1), some (.ref t2), some (.str d.shown), none, none] ∧ Ex H6 H', ?_, ?_⟩
    · walk_at "rd"
      intro t ht
      have et := Evl.Ex.new (o := .tup [.ref a1, .ref a2, .ref f3]) ht
      walk_at "rd"
      refine ⟨_, d, rfl, daD _ _ (e6.trans et) upd_same, Sys.mono et sys6, fit.sh, fit.line (by decide), by have := fit.dp; omega, ?_⟩
      walk_at "rd"
      exact et
    rintro σ' H7 ⟨rfl, e7⟩
    have e57 := e6.trans e7
    have a1Z := are_pairs (f := pairT) (fun _ => rfl) nd1 (d := .list (zs.map pairT)) rfl
    have a1U := are_pairs (f := pairT) (fun _ => rfl) nd2 (d := .list (us.map pairT)) rfl
    have a1G := are_pairs (f := pairT) (fun _ => rfl) nd3 (d := .list (gs3.map pairT)) rfl
    have a2U := are_pairs (f := pairL) (fun _ => rfl) nd2 (d := .tuple (us.map pairL)) rfl
    have a2G := are_pairs (f := pairT) (fun _ => rfl) nd3 (d := .tuple (gs3.map pairT)) rfl
    have out1 := better_told a1Z a1U a1G r1 r2
    have out2 := better_told a2U a1Z a2G r2 r1
    refine ⟨fun σ' H' => σ' = [some (.ref j), some (.ref a1), some (.ref a2), some (.ref f3), none, x5, some (.ref t1), some (.ref t2), some (.str d.shown), some (.bl (HT.lexLt (rank zs gs3) (rank us gs3))), some (.bl (HT.lexLt (rank us gs3) (rank zs gs3)))] ∧ Ex H7 H', ?_, ?_⟩
    · walk_at "rd"
      have c1 := SqL.of (K := K) (e57 _ _ hb1)
      refine ⟨_, _, _, _, _, _, rfl, .lst (SqL.of (e57 _ _ hb1)) (pb1.mono e57).da, .lst (SqL.of (e57 _ _ hb2)) (pb2.mono e57).da, .lst (SqL.of (e57 _ _ hf3)) (pb3.mono e57).da, short_pairs rfl (by omega), short_pairs rfl (by omega), short_pairs rfl (by omega),
        fun b1 hb H8 e8 => ?_, (fun p hp => by rw [out1] at hp; cases hp), (fun p hp => by rw [out1] at hp; cases hp)⟩
      rw [out1] at hb
      cases hb
      have e58 := e57.trans e8
      have hb3 := SqL.of (K := K) (e58 _ _ hf3)
      walk_at "rd"
      refine ⟨f3, ws3, rfl, .inl ⟨hb3, fun bt hbt => ?_⟩⟩
      have eb := Evl.Ex.new (o := .tup ws3) hbt
      have e59 := e58.trans eb
      walk_at "rd"
      refine ⟨⟨_, SqL.of (e59 _ _ hb2)⟩, fun D hD => ?_⟩
      have pb2' := pb2.mono e59
      have hbt' : upd H8 bt (HO.tup ws3) bt = some (.tup ws3) := upd_same
      have hb2' := e59 _ _ hb2
      generalize upd H8 bt (HO.tup ws3) = HB at *
      refine lc_list (K := K) (a := a2) (xs := ys) (fun i H' => Ex HB H' ∧ ∃ vs, H' D = some (.lst vs) ∧ DaAll K (off D H') vs ((us.take i).map pairL) ∧ vs.length = (us.take i).length)
        ⟨Evl.Ex.new hD, [], upd_same, .nil, rfl⟩ (fun i H' _ q => SqL.of (q.1 _ _ hb2')) ?_ ?_
      · rintro i v H' hv ⟨q1, vs, q3, q4, q5⟩
        obtain ⟨t, z, rfl, hz, ht⟩ := pb2'.at hv
        have ht' := q1 _ _ ht
        rw [List.length_take] at q5
        walk_at "rd"
        intro l hl
        have el := Evl.Ex.new (o := .lst [.int z.1, .int z.2]) hl
        have nlD : l ≠ D := by rintro rfl; rw [q3] at hl; cases hl
        refine ⟨vs, el _ _ q3, by omega, Evl.Ex.mut (q1.trans el) hD, vs ++ [.ref l], upd_same, ?_, ?_⟩
        · rw [take_one hz, List.map_append]
          refine DaAll.app (DaAll.mono off1_upd _ (DaAll.mono (off1_ex el) _ q4)) (.cons (.lst (SqL.of (off_at nlD ((upd_ne nlD).trans upd_same))) (.cons (.int _) (.cons (.int _) .nil))) .nil)
        · rw [take_one hz, List.length_append, List.length_append, List.length_take, q5]
          rfl
      · rintro H9 ⟨q1, vs, q3, q4, q5⟩
        rw [pb2'.len, List.take_length] at q4
        refine ⟨D, vs, rfl, .inl ⟨SqL.of q3, fun T hT => ?_⟩⟩
        have eT := Evl.Ex.new (o := .tup vs) hT
        have e10 := (e59.trans q1).trans eT
        refine ⟨.ref T, .ref a1, .ref bt, .tuple (us.map pairL), .list (zs.map pairT), .tuple (gs3.map pairT), rfl, .tup (SqT.of upd_same) ?_, .lst (SqL.of (e10 _ _ hb1)) (pb1.mono e10).da, .tup (SqT.of (eT _ _ (q1 _ _ hbt'))) (pb3.mono e10).da, short_pairs (f := pairL) rfl (by omega), short_pairs (f := pairT) rfl (by omega), short_pairs (f := pairT) rfl (by omega),
          fun b2 hb H10 e10 => ?_, (fun p hp => by rw [out2] at hp; cases hp), (fun p hp => by rw [out2] at hp; cases hp)⟩
        · exact DaAll.mono eT _ (DaAll.mono (off1_sub D H9) _ q4)
        · rw [out2] at hb
          cases hb
          exact ⟨_, _, rfl, rfl, e8.trans (eb.trans (q1.trans (eT.trans e10)))⟩
    rintro σ' H8 ⟨rfl, e8⟩
    have e58 := e57.trans e8
    have ct1 := SqT.of (K := K) ((e7.trans e8) _ _ ht1)
    have ct2 := SqT.of (K := K) ((e7.trans e8) _ _ ht2)
    refine ⟨fun σ' H' => σ' = [some (.ref j), some (.ref a1), some (.ref a2), some (.ref f3), none, x5, some (.ref t1), some (.ref t2), some (.str d.shown), some (.bl (HT.lexLt (rank zs gs3) (rank us gs3))), some (.bl (HT.lexLt (rank us gs3) (rank zs gs3)))] ∧ Ex H8 H', ?_, ?_⟩
    · have hs8 := Sys.mono (e7.trans e8) sys6
      walk_at "rd"
      refine ⟨_, _, rfl, fun H9 e9 => ⟨_, rfl, ?_⟩⟩
      refine ifB (fun c => absurd c (by simp)) (fun c => ?_)
      have ct1' := Evl.ex_t e9 ct1
      have ct2' := Evl.ex_t e9 ct2
      walk_at "rd"
      refine ⟨_, _, rfl, fun H10 e10 => ⟨_, rfl, ?_⟩⟩
      refine ifB (fun c => absurd c (by simp)) (fun c => ?_)
      walk_at "rd"
      intro t ht
      have et := Evl.Ex.new (o := .tup [.ref a1, .ref a2, .ref f3]) ht
      have ea := e9.trans (e10.trans et)
      walk_at "rd"
      refine ⟨_, d, rfl, daD _ _ (e58.trans ea) upd_same, Sys.mono ea hs8, fit.sh, fit.line (by decide), by have := fit.dp; omega, ?_⟩
      walk_at "rd"
      refine ifB (fun c => absurd c (by simp)) (fun c => ?_)
      exact ⟨rfl, ea⟩
    rintro σ' H9 ⟨rfl, e9⟩
    have e59 := e58.trans e9
    have ot1 := Evl.ex_t e9 ct1
    have ot2 := Evl.ex_t e9 ct2
    refine ⟨fun σ' H' => σ' = [some (.ref j), some (.ref a1), some (.ref a2), some (.ref f3), none, x5, some (.ref t1), some (.ref t2), some (.str d.shown), some (.bl (HT.lexLt (rank zs gs3) (rank us gs3))), some (.bl (HT.lexLt (rank us gs3) (rank zs gs3)))] ∧ Ex H9 H', ?_, ?_⟩
    · walk_at "rd"
      refine ⟨a1, f3, xs, ws3, zs, gs3, rfl, SqL.of (e59 _ _ hb1), pb1.mono e59, nd1, r1, SqL.of (e59 _ _ hf3), pb3.mono e59, by omega, by omega, fun o1 H10 e10 n10 h10 => ?_⟩
      have e510 := e59.trans e10
      walk_at "rd"
      refine ⟨a2, f3, ys, ws3, us, gs3, rfl, SqL.of (e510 _ _ hb2), pb2.mono e510, nd2, r2, SqL.of (e510 _ _ hf3), pb3.mono e510, by omega, by omega, fun o2 H11 e11 n11 h11 => ?_⟩
      refine ⟨o1, o2, _, _, rfl, rfl, SqT.of (e11 _ _ h10), SqT.of h11, ?_⟩
      rw [one_lt nd1 nd2]
      refine ⟨_, _, rfl, fun H12 e12 => ⟨_, rfl, ?_⟩⟩
      refine ifB (fun c => absurd c (by simp)) (fun c => ?_)
      exact ⟨rfl, e10.trans (e11.trans e12)⟩
    rintro σ' H10 ⟨rfl, e10⟩
    have e510 := e59.trans e10
    have pt1 := Evl.ex_t e10 ot1
    have pt2 := Evl.ex_t e10 ot2
    walk_at "rd"
    have three := lex_three (rank zs gs3) (rank us gs3) rfl
    have out3 := better_told a1Z a1Z a1G r1 r1
    have gX : Go j H H10 := gH5.trans (Go.of e510)
    have uX : Urn K B j b H10 := (u5.ex e510).less (by omega)
    refine ifB (fun c1 => ?_) (fun c1 => ?_)
    · rw [c1, Bool.true_or] at three
      have q : decide (rank zs gs3 = rank us gs3) = false := by
        cases h : decide (rank zs gs3 = rank us gs3) with
        | false => rfl
        | true => rw [h] at three; cases three
      walk_at "rd"
      refine ⟨.tuple ((rank zs gs3).map PyData.int), .tuple ((rank us gs3).map PyData.int), .tup pt1 (.cons (.int _) (.cons (.int _) (.cons (.int _) .nil))), .tup pt2 (.cons (.int _) (.cons (.int _) (.cons (.int _) .nil))), rank_shaped _ _, rank_shaped _ _, ?_⟩
      rw [eqv_ints, q]
      refine ⟨rfl, ?_⟩
      refine ⟨_, rfl, ?_⟩
      refine ifB (fun c => ?_) (fun c => absurd c (by simp))
      walk_at "rd"
      have hl1 := SqL.of (K := K) (e510 _ _ hb1)
      refine ⟨a1, xs, rfl, .inl hl1, fun l hl => ?_⟩
      have el := Evl.Ex.new (o := .lst xs) hl
      have e511 := e510.trans el
      walk_at "rd"
      refine ⟨.ref a1, .ref l, .ref f3, .list (zs.map pairT), .list (zs.map pairT), .list (gs3.map pairT), rfl, .lst (SqL.of (e511 _ _ hb1)) (pb1.mono e511).da, .lst (SqL.of upd_same) (pb1.mono e511).da, .lst (SqL.of (e511 _ _ hf3)) (pb3.mono e511).da, short_pairs (f := pairT) rfl (by omega), short_pairs (f := pairT) rfl (by omega), short_pairs (f := pairT) rfl (by omega),
        fun b3 hb H11 e11 => ?_, (fun p hp => by rw [out3] at hp; cases hp), (fun p hp => by rw [out3] at hp; cases hp)⟩
      rw [out3] at hb
      cases hb
      refine ⟨_, _, rfl, rfl, ?_⟩
      rw [lex_irr]
      exact k H11 (gX.trans (Go.of (el.trans e11))) (uX.ex (el.trans e11))
    · rw [c1, Bool.false_or] at three
      rw [three]
      walk_at "rd"
      refine ⟨.tuple ((rank zs gs3).map PyData.int), .tuple ((rank us gs3).map PyData.int), .tup pt1 (.cons (.int _) (.cons (.int _) (.cons (.int _) .nil))), .tup pt2 (.cons (.int _) (.cons (.int _) (.cons (.int _) .nil))), rank_shaped _ _, rank_shaped _ _, ?_⟩
      rw [eqv_ints]
      refine ⟨rfl, ?_⟩
      refine ⟨_, rfl, ?_⟩
      refine ifB (fun c => ?_) (fun c => absurd c (by generalize decide (rank zs gs3 = rank us gs3) = q; cases q <;> simp))
      walk_at "rd"
      have hl1 := SqL.of (K := K) (e510 _ _ hb1)
      refine ⟨a1, xs, rfl, .inl hl1, fun l hl => ?_⟩
      have el := Evl.Ex.new (o := .lst xs) hl
      have e511 := e510.trans el
      walk_at "rd"
      refine ⟨.ref a1, .ref l, .ref f3, .list (zs.map pairT), .list (zs.map pairT), .list (gs3.map pairT), rfl, .lst (SqL.of (e511 _ _ hb1)) (pb1.mono e511).da, .lst (SqL.of upd_same) (pb1.mono e511).da, .lst (SqL.of (e511 _ _ hf3)) (pb3.mono e511).da, short_pairs (f := pairT) rfl (by omega), short_pairs (f := pairT) rfl (by omega), short_pairs (f := pairT) rfl (by omega),
        fun b3 hb H11 e11 => ?_, (fun p hp => by rw [out3] at hp; cases hp), (fun p hp => by rw [out3] at hp; cases hp)⟩
      rw [out3] at hb
      cases hb
      refine ⟨_, _, rfl, rfl, ?_⟩
      rw [lex_irr]
      exact k H11 (gX.trans (Go.of (el.trans e11))) (uX.ex (el.trans e11))
end
end K05
/-! Kg16: several except clauses, each with the name n (in slot i) or without; an exception that no clause takes is not handed on. -/
namespace Kg
open PySem PySem.Spec PyProof.Rows L2
/-- a clause: its class, whether it names the error, its suite's reading -/
structure Cl where
  c : Value
  named : Bool
  ts : Addr → Value → Option Addr → TS
/-- behind a named clause the name is gone -/
def gone (i : Nat) (D : Ends) : Ends := { nx := fun σ' H' => D.nx (σ'.set i none) H', rt := D.rt, bk := fun σ' H' => D.bk (σ'.set i none) H', ct := fun σ' H' => D.ct (σ'.set i none) H' }
def wCl (K : PySem.W.Frag) (i n : Nat) (D : Ends) : List Cl → WX
  | [] => fun _ _ _ _ => False
  | l :: r => fun cls d σ H => ∃ b, PySem.W.exmOne K cls l.c = some b ∧
      (b = true → σ.length = n → ∀ a, H a = none → if l.named = true then l.ts a cls d (gone i D) (σ.set i (some (.ref a))) H else l.ts a cls d D σ H) ∧ (b = false → wCl K i n D r cls d σ H)
inductive ClOk (X : Cx) (n : Str) : List ExceptHandler → List Cl → Prop
  | nil : ClOk X n [] []
  | plain {x : Str} {c : Value} {ts : Addr → Value → Option Addr → TS} {first : Stmt} {more : List Stmt} {np pos : Pos} {hs : List ExceptHandler} {ls : List Cl} (hc : Names X x c)
      (hsu : ∀ (a : Addr) (oe : Obj) (cls : Value) (d : Option Addr) (pn : List (Addr × Obj)), Zc cls d oe → (∃ vs, oe.data = .fields vs) → PSs (X.suite a ((a, oe) :: pn)) (first :: more) (ts a cls d)) (r : ClOk X n hs ls) :
      ClOk X n (.ExceptHandler (some (.Name x np)) none (first :: more) pos :: hs) (⟨c, false, ts⟩ :: ls)
  | as {x : Str} {c : Value} {ts : Addr → Value → Option Addr → TS} {first : Stmt} {more : List Stmt} {np pos : Pos} {hs : List ExceptHandler} {ls : List Cl} (hc : Names X x c)
      (hsu : ∀ (a : Addr) (oe : Obj) (cls : Value) (d : Option Addr) (pn : List (Addr × Obj)), Zc cls d oe → (∃ vs, oe.data = .fields vs) → PSs (X.suite a ((a, oe) :: pn)) (first :: more) (ts a cls d)) (r : ClOk X n hs ls) :
      ClOk X n (.ExceptHandler (some (.Name x np)) (some n) (first :: more) pos :: hs) (⟨c, true, ts⟩ :: ls)
section
variable {X : Cx} {n : Str} {i : Nat} {body : List Stmt} {h0 : ExceptHandler} {hds : List ExceptHandler} {ls : List Cl} {pos : Pos} {tb : WX → TS}
theorem ps_try_cl (hs : X.stack = X.env :: X.outer) (hf : X.env.frame = some X.env.locals) (nd : X.N.Nodup) (hi : X.N[i]? = some n) (hln : X.env.kindOf n = some .local)
    (hb : ∀ (W : WX) (pn : List (Addr × Obj)) (xe : Value → Shared → Prop), Takes (X.tr pn xe) W → PassesOwn (model X.prog X.w) X.A X.env xe → PSs (X.tr pn xe) body (tb W))
    (hh : ClOk X n (h0 :: hds) ls) : PS X (.Try body (h0 :: hds) [] [] pos) (fun D σ H => tb (wCl X.K i X.N.length D ls) D σ H) := by
  constructor
  intro pins s σ H D I h
  have ok := I.ok
  have frames : X.A.frames = some (X.env :: X.outer) := hs ▸ ok.frames
  apply wpAny_Try_except
  refine wpAny_mono ((hb (wCl X.K i X.N.length D ls) (X.pn ++ pins) _ ?tk PassesOwn.looking).run [] s σ H D (I.toTry _) h) ?done (fun _ _ z => z)
  case done =>
    intro f s1 q
    cases f with
    | next =>
      obtain ⟨σ', H', J, q⟩ := q
      exact wpAny_execs_nil ⟨σ', H', J.ofTry ok, q⟩
    | brk => exact q.elim fun σ' z => z.elim fun H' z => ⟨σ', H', z.1.ofTry ok, z.2⟩
    | cont => exact q.elim fun σ' z => z.elim fun H' z => ⟨σ', H', z.1.ofTry ok, z.2⟩
    | ret u => exact q.elim fun v z => z.elim fun σ' z => z.elim fun H' z => ⟨v, σ', H', z.1.ofTry ok, z.2⟩
  case tk =>
    intro u s' thrown
    obtain ⟨a, B, sI, pins', σ', H', cls, d, eu, J', ground, up, sky, na, os, ag, go⟩ := thrown
    subst eu
    have J : Inv X pins σ' H' sI := J'.ofTry ok
    have sky2 : Sky B (X.env :: X.outer) a (Zc cls d) X.env.locals s'.heap := hs ▸ sky
    show wpAny (model X.prog X.w) X.A (noteFrame (.ref a) X.env) _ _ _
    refine Sky.land Zc.steady frames hf sky2 ?_
    intro h1 fly1 up1
    obtain ⟨oe, vs, at1, zc1, data1⟩ := fly1.there
    have noFrame : a ∉ frs (X.env :: X.outer) := by
      intro hm
      obtain ⟨_, o2, e2, q2⟩ := fly1.2.2.1.mem hm
      rw [at1] at e2; cases e2
      exact q2 _ data1
    have n1 : a ≠ X.env.locals := by
      intro z
      refine noFrame (List.mem_filterMap.mpr ⟨X.env, List.mem_cons_self, ?_⟩)
      rw [hf, z]
    have n2 : a ∉ X.fs := by
      intro hm
      obtain ⟨env, he, q⟩ := List.mem_filterMap.mp hm
      exact noFrame (List.mem_filterMap.mpr ⟨env, List.mem_cons_of_mem _ he, q⟩)
    have J1 : Inv X pins σ' H' { s' with heap := h1 } := J.landed ground fly1.1 (up.trans up1) os ag
    have S1 := J1.suite at1 data1 na n1 n2
    have its_type : PySem.W.Looks (model X.prog X.w) h1 (typeOf (.ref a)) cls := fun A Q E s k q => wpAny_typeOf_ref (k _ _ at1) (by rw [zc1.1]; exact q)
    have clause : ∀ {x : Str} {c : Value} {np : Pos} {Q : Value → Shared → Prop} {E : Value → Shared → Prop}, Names X x c → Q c { s' with heap := h1 } →
        wpAny (model X.prog X.w) (X.A.mark (some (.ref a))) (eval (.Name x np) X.env) Q E { s' with heap := h1 } := by
      intro x c np Q E hc q
      obtain ⟨g, dbg, m⟩ := hc
      rcases m with m | ⟨m, v, nn⟩
      · exact ld_glob (X := X.suite a ((a, oe) :: (X.pn ++ pins))) S1 g m q dbg
      · exact ld_blt (X := X.suite a ((a, oe) :: (X.pn ++ pins))) S1 g m v q nn dbg
    -- the suite, once its clause has matched
    have each : ∀ {hs' : List ExceptHandler} {ls' : List Cl}, ClOk X n hs' ls' → wCl X.K i X.N.length D ls' cls d σ' H' →
        wpAny (model X.prog X.w) X.A (handleBy (.ref a) X.env hs') (SP X pins D) X.xe { s' with heap := h1 } := by
      intro hs' ls' hk
      induction hk with
      | nil => exact fun w => w.elim
      | plain hc hsu r ih =>
        rintro ⟨b, match_, yes, no⟩
        refine wpAny_handleBy_cons (codeAny_handlers_test ?_) (by intro z; cases z)
        refine clause hc ((PySem.W.exm_one (M := model X.prog X.w) J1.kIn its_type match_).here ?_)
        cases b with
        | false => exact ih (no rfl)
        | true =>
          refine codeAny_handlers_suite (HandSPX.lands_againZ fly1 ?_)
          intro h2 fly2 up2
          have J2 : Inv X pins σ' H' { s' with heap := h2 } := J.landed ground fly2.1 ((up.trans up1).trans up2) os ag
          obtain ⟨oe2, vs2, at2, zc2, data2⟩ := fly2.there
          have S2 := J2.suite at2 data2 na n1 n2
          refine wpAny_mono ((hsu a oe2 cls d (X.pn ++ pins) zc2 ⟨_, data2⟩).run [] _ _ H' _ S2 (yes rfl J.len a na)) ?_ (fun _ _ z => z.elim)
          intro f s6 q
          cases f with
          | next => exact q.elim fun σ6 z => z.elim fun H6 z => ⟨σ6, H6, z.1.unsuite ok, z.2⟩
          | brk => exact q.elim fun σ6 z => z.elim fun H6 z => ⟨σ6, H6, z.1.unsuite ok, z.2⟩
          | cont => exact q.elim fun σ6 z => z.elim fun H6 z => ⟨σ6, H6, z.1.unsuite ok, z.2⟩
          | ret u => exact q.elim fun v z => z.elim fun σ6 z => z.elim fun H6 z => ⟨v, σ6, H6, z.1.unsuite ok, z.2⟩
      | as hc hsu r ih =>
        rintro ⟨b, match_, yes, no⟩
        refine wpAny_handleBy_cons (codeAny_handlers_test ?_) (by intro z; cases z)
        refine clause hc ((PySem.W.exm_one (M := model X.prog X.w) J1.kIn its_type match_).here ?_)
        cases b with
        | false => exact ih (no rfl)
        | true =>
          refine codeAny_handlers_suite_as (HandSPX.lands_againZ fly1 ?_)
          intro h2 fly2 up2
          have J2 : Inv X pins σ' H' { s' with heap := h2 } := J.landed ground fly2.1 ((up.trans up1).trans up2) os ag
          obtain ⟨oe2, vs2, at2, zc2, data2⟩ := fly2.there
          have S2 := J2.suite at2 data2 na n1 n2
          refine store_ok (X := X.suite a ((a, oe2) :: (X.pn ++ pins))) (v := .ref a) S2 nd hi (.inl hln) rfl ?_ (.inr hln)
          intro s5 S5
          refine wpAny_mono ((hsu a oe2 cls d (X.pn ++ pins) zc2 ⟨_, data2⟩).run [] s5 _ H' _ S5 (yes rfl J.len a na)) ?_ (fun _ _ z => z.elim)
          intro f s6 q
          cases f with
          | next =>
            obtain ⟨σ6, H6, S6, q6⟩ := q
            exact gone_ok (S6.unsuite ok) nd hi hln fun s7 J7 => ⟨_, _, J7, q6⟩
          | brk =>
            obtain ⟨σ6, H6, S6, q6⟩ := q
            exact gone_ok (S6.unsuite ok) nd hi hln fun s7 J7 => ⟨_, _, J7, q6⟩
          | cont =>
            obtain ⟨σ6, H6, S6, q6⟩ := q
            exact gone_ok (S6.unsuite ok) nd hi hln fun s7 J7 => ⟨_, _, J7, q6⟩
          | ret u =>
            obtain ⟨v6, σ6, H6, S6, r6, q6⟩ := q
            exact gone_ok (S6.unsuite ok) nd hi hln fun s7 J7 => ⟨_, _, _, J7, r6, q6⟩
    exact each hh go
end
end Kg
namespace K05
open PySem PySem.Spec PyProof.Rows L2 Kg LamX
open Evl (Ex)


def tAsk (f c' : Addr) (q : Str) (tl : XK → Hp → VK → Prop) : WX → TS := fun W D σ H => ∃ Ech : XK, (∀ cls d σ' H', Ech cls d H' → W cls d σ' H') ∧ σ[0]? = some (some (.ref f)) ∧ H c' = some (CodeO c' q) ∧ tl Ech H (fun _ H' => D.nx σ H')
/-- what the deed's error gives -/
def EHeard (cB cM : Addr) (Q : VK) : XK := fun cls d H' => ∃ (e : Addr) (p : Str), d = some e ∧ H' e = some (.xd [("part", .str p)]) ∧
  ((cls = .ref cB ∧ ∀ (t : Addr) (H2 : Hp), Ex H' H2 → H' t = none → H2 t = some (.tup [.str "BadSquares", .str p]) → Q (.ref t) H2) ∨
   (cls = .ref cM ∧ ∀ (t : Addr) (H2 : Hp), Ex H' H2 → H' t = none → H2 t = some (.tup [.str "Misfit", .str p]) → Q (.ref t) H2))
def THeard (cB cM : Addr) : (XK → Hp → VK → Prop) → Hp → VK → Prop := fun tl H Q => ∀ (E : XK) (N : VK), (∀ cls d H', EHeard cB cM Q cls d H' → E cls d H') → (∀ v H', Q .non H' → N v H') → tl E H N
theorem heard_gives {X : Cx} (T : Txt X.K X.mg) {g : Addr} {cdg : Value} {q : Str} : GivesTo X ["deed", "told", "error"] "_law_heard" (defScope s_w_heard) g cdg (defBody s_w_heard) "deed" q (THeard T.c_BadSquares T.c_Misfit) := by
  intro f c' s H Q tl act hc h
  have ask_body : ∀ (p1 p2 p3 : Pos) (W : WX) (pn : List (Addr × Obj)) (xe : Value → Shared → Prop), Takes ((cxOf C8.CX0 X.prog X.w X.K X.mg X.base ["deed", "told", "error"] "_law_heard" (defScope s_w_heard) g cdg X.A X.stack s H C8.E0).tr pn xe) W →
      PSs ((cxOf C8.CX0 X.prog X.w X.K X.mg X.base ["deed", "told", "error"] "_law_heard" (defScope s_w_heard) g cdg X.A X.stack s H C8.E0).tr pn xe) [.Expr (.Call (.Name "deed" p1) [] [] p2) p3] (tAsk f c' q tl W) := by
    intro p1 p2 p3 W pn xe tk
    constructor
    rintro pins s' σ H' D I ⟨Ech, hW, h1, h2, h3⟩
    exact (pss_one (ps_expr (act W pn xe Ech p1 p2 tk hW))).run pins s' σ H' D I ⟨h1, h2, h3⟩
  refine ⟨_, (pss_cons (ps_set (i := 1) sc_w_heard.nd rfl (Or.inl rfl) pe_non)
  (pss_cons (ps_try_cl (X := (cxOf C8.CX0 X.prog X.w X.K X.mg X.base ["deed", "told", "error"] "_law_heard" (defScope s_w_heard) g cdg X.A X.stack s H C8.E0).nox) (tb := tAsk f c' q tl) (i := 2) rfl rfl sc_w_heard.nd rfl rfl (fun W pn xe tk _ => ask_body _ _ _ W pn xe tk) (.as ⟨rfl, by decide, .inl T.gc_BadSquares⟩ (fun a oe cls d pn hz hf => (pss_one (ps_set (i := 1) sc_w_heard.nd rfl (Or.inl rfl) (pe_tup (pa_cons pe_str (pa_cons (pe_xf (C := T.c_BadSquares) ⟨T.e_BadSquares.hg, T.e_BadSquares.hk, T.e_BadSquares.hs, T.e_BadSquares.hd⟩ T.n_BadSquares_part hz hf (pv 2)) pa_nil)))))) (.as ⟨rfl, by decide, .inl T.gc_Misfit⟩ (fun a oe cls d pn hz hf => (pss_one (ps_set (i := 1) sc_w_heard.nd rfl (Or.inl rfl) (pe_tup (pa_cons pe_str (pa_cons (pe_xf (C := T.c_Misfit) ⟨T.e_Misfit.hg, T.e_Misfit.hk, T.e_Misfit.hs, T.e_Misfit.hd⟩ T.n_Misfit_part hz hf (pv 2)) pa_nil)))))) (.plain ⟨rfl, by decide, .inl T.gc_FlightError⟩ (fun a oe cls d pn hz hf => (pss_one (ps_set (i := 1) sc_w_heard.nd rfl (Or.inl rfl) (pe_tup (pa_cons pe_str (pa_cons pe_str pa_nil)))))) .nil))))
  (pss_one (ps_ret (pv 1))))), ?_⟩
  refine ⟨EHeard T.c_BadSquares T.c_Misfit Q, ?_, rfl, hc, h _ _ (fun _ _ _ z => z) ?_⟩
  · rintro cls d σ' H' ⟨e, p, rfl, he, hh⟩
    rcases hh with ⟨rfl, hh⟩ | ⟨rfl, hh⟩
    · refine ⟨true, T.m_BadSquares_BadSquares, fun _ hl a ha => ?_, (fun z => absurd z (by decide))⟩
      rw [if_pos rfl]
      match σ', hl with
      | [x0, x1, x2], _ =>
        walk_at "rd"
        refine ⟨e, _, _, rfl, he, rfl, ?_⟩
        walk_at "rd"
        intro t ht
        exact ⟨_, rfl, hh t _ (Ex.new ht) ht upd_same⟩
    · refine ⟨false, T.m_Misfit_BadSquares, (fun z => absurd z (by decide)), fun _ => ?_⟩
      refine ⟨true, T.m_Misfit_Misfit, fun _ hl a ha => ?_, (fun z => absurd z (by decide))⟩
      rw [if_pos rfl]
      match σ', hl with
      | [x0, x1, x2], _ =>
        walk_at "rd"
        refine ⟨e, _, _, rfl, he, rfl, ?_⟩
        walk_at "rd"
        intro t ht
        exact ⟨_, rfl, hh t _ (Ex.new ht) ht upd_same⟩
  · intro v H' q
    exact ⟨_, rfl, q⟩
theorem pe_w_heard {X : Cx} {k : Nat} {c P : Addr} {params : Arguments} {body : Expr} {scope : Scope} {t : XK → TE} {p lpos pos : Pos} (T : Txt X.K X.mg) (TB : TabB X.base X.mg c P) (hcode : X.env.code = .ref c) (hr : Room (k + 2) X.A) (hg : Gl X "_law_heard")
    (L : LamS X.env.scope scope) (hdef : defaultsOf params X.env = ([], []))
    (hbind : ∀ (q : Str) (cl : List (Str × Addr)) (pm cv ctv : Value), bindArgs (PySem.W.kla_fn "<lambda>" q params body scope cl pm cv ctv) ⟨[], []⟩ = pure [])
    (hbody : ∀ (A : Around) (outer : List Env) (s : Shared) (H : Hp) (E : XK) (f c' : Addr), Room k (A.deeper (lamEnv X scope s.heap.objs.size f c')) → PE (lamCx X A outer s H E scope f c') body (t E)) :
    PE X (.Call (.Name "_law_heard" p) [.Lambda params body scope lpos] [] pos) (tLam [(P, X.env.qual ++ "<lambda>")] (THeard T.c_BadSquares T.c_Misfit) t) := by
  obtain ⟨oc, od, kV, doc, pm, an, cdv, ct, osl, e, lk, hcd⟩ := T.F_w_heard.ex
  have hb := b_w_heard T
  rw [e] at hb lk
  refine pe_lamcall (a := "deed") (Ng := ["deed", "told", "error"]) hg T.g_w_heard T.F_w_heard.kp lk hcd hb sc_w_heard rfl (.inl rfl) (heard_gives T) TB hcode (List.mem_singleton.mpr rfl) (fun p hp _ => by rw [List.mem_singleton.mp hp]) hr L hdef hbind hbody
end K05
namespace K05
open PySem PySem.Spec PyProof.Rows L2 Kg LamX
open Evl (Ex)
/-! ### all but the tables of code objects -/
def noT (H : Hp) : Hp := fun a => match H a with
  | some (.tbl _) => none
  | o => o
theorem noT_of {H : Hp} {a : Addr} {o : HO} (h : noT H a = some o) : H a = some o ∧ ∀ ps, o ≠ .tbl ps := by
  unfold noT at h
  split at h
  · cases h
  · rename_i n
    exact ⟨h, fun ps e => n ps (by rw [h, e])⟩
theorem noT_at {H : Hp} {a : Addr} {o : HO} (h : H a = some o) (n : ∀ ps, o ≠ .tbl ps) : noT H a = some o := by
  unfold noT
  rw [h]
  split
  · rename_i ps e
    exact absurd (Option.some.inj e) (n ps)
  · rfl
theorem noT_sub (H : Hp) : Ex (noT H) H := fun a o h => (noT_of h).1
theorem noT_extN {H H' : Hp} (e : ExtN H H') : Ex (noT H) (noT H') := fun a o h => noT_at (e a o (noT_of h).1 (noT_of h).2) (noT_of h).2
theorem noT_ex {H H' : Hp} (e : Ex H H') : Ex (noT H) (noT H') := noT_extN (ExtN.of e)
theorem noT_l {K : PySem.W.Frag} {H : Hp} {c : Addr} {xs : List V} (h : SqL K H c xs) : SqL K (noT H) c xs := by
  rcases h with (h | ⟨o, h⟩) | h
  · exact .inl (.inl (noT_at h fun ps z => nomatch z))
  · exact .inl (.inr ⟨o, noT_at h fun ps z => nomatch z⟩)
  · exact .inr h
section
variable {K : PySem.W.Frag} {B : Hp} {j : Addr} {b : Nat} {H H' : Hp}
theorem Urn.noT (u : Urn K B j b H) : Urn K (K05.noT B) j b H := by
  obtain ⟨c, ns, at', rest, h1, h2, h3⟩ := u.it
  exact ⟨⟨c, ns, at', rest, h1, noT_l h2, h3⟩, (noT_sub B).trans u.ba⟩
theorem Urn.extN (u : Urn K (K05.noT B) j b H) (e : ExtN H H') : Urn K (K05.noT B) j b H' := by
  obtain ⟨c, ns, at', rest, h1, h2, h3⟩ := u.it
  refine ⟨⟨c, ns, at', rest, e _ _ h1 (fun ps z => nomatch z), h2, h3⟩, fun a o h => ?_⟩
  have n := (noT_of h).2
  have h := u.ba a o h
  by_cases ea : a = j
  · subst ea; rw [show off a H a = none from if_pos rfl] at h; cases h
  · rw [off_ne ea] at h ⊢
    exact e a o h n
theorem Sys.extN (h : Sys H) (e : ExtN H H') : Sys H' := by
  obtain ⟨o, φ, h⟩ := h
  exact ⟨o, φ, e _ _ h fun ps z => nomatch z⟩
theorem Tabs.go {T : List (Addr × Str)} {vs : List V} (t : Tabs T H) (hj : H j = some (.lst vs)) (g : Go j H H') : Tabs T H' := by
  have ne : ∀ {a : Addr} {o : HO}, H a = some o → (∀ xs, o ≠ .lst xs) → H' a = some o := by
    intro a o h n
    refine g a o ?_ h
    rintro rfl
    rw [hj] at h; cases h
    exact n _ rfl
  intro p hp
  obtain ⟨ps, h1, h2, h3⟩ := t p hp
  refine ⟨ps, ne h1 (fun xs z => nomatch z), h2, fun pos cv h => ?_⟩
  obtain ⟨c, e, hc⟩ := h3 pos cv h
  refine ⟨c, e, ne hc ?_⟩
  intro xs z
  unfold CodeO at z
  cases z
end
theorem noT_t {K : PySem.W.Frag} {H : Hp} {c : Addr} {xs : List V} (h : SqT K H c xs) : SqT K (noT H) c xs := by
  rcases h with h | h
  · rcases h with h | ⟨o, h⟩
    · exact .inl (.inl (noT_at h fun ps z => nomatch z))
    · exact .inl (.inr ⟨o, noT_at h fun ps z => nomatch z⟩)
  · exact .inr h
mutual
theorem Da.noT {K : PySem.W.Frag} {H : Hp} : ∀ {v : V} (d : PyData), Da K H v d → Da K (K05.noT H) v d
  | _, .none, .non => .non
  | _, .bool _, .bl b => .bl b
  | _, .int _, .int i => .int i
  | _, .str _, .str x => .str x
  | _, .list ds, .lst h t => .lst (noT_l h) (DaAll.noT ds t)
  | _, .tuple ds, .tup h t => .tup (noT_t h) (DaAll.noT ds t)
  | _, .dict _, .dct h t => .dct (noT_at h fun ps z => nomatch z) (DaAll.noT _ t)
theorem DaAll.noT {K : PySem.W.Frag} {H : Hp} : ∀ {vs : List V} (ds : List PyData), DaAll K H vs ds → DaAll K (K05.noT H) vs ds
  | _, [], .nil => .nil
  | _, d :: ds, .cons h t => .cons (Da.noT d h) (DaAll.noT ds t)
end
theorem ex_extN {G H H' : Hp} (g : Ex (noT G) H) (e : ExtN H H') : Ex (noT G) H' := fun a o h => e a o (g a o h) (noT_of h).2
end K05
namespace K05
open PySem PySem.Spec PyProof.Rows L2 Kg LamX
open Evl (Ex)


theorem DaAll.perm {K : PySem.W.Frag} {H : Hp} {xs ys : List V} (p : ys.Perm xs) : ∀ {ds : List PyData}, DaAll K H xs ds → ∃ es, DaAll K H ys es ∧ es.Perm ds := by
  induction p with
  | nil => exact fun h => ⟨_, h, .refl _⟩
  | cons x _ ih =>
    intro ds h
    cases h with
    | cons a b =>
      obtain ⟨es, h1, h2⟩ := ih b
      exact ⟨_, .cons a h1, h2.cons _⟩
  | swap x y l =>
    intro ds h
    cases h with
    | cons a b =>
      cases b with
      | cons b c => exact ⟨_, .cons b (.cons a c), .swap _ _ _⟩
  | trans _ _ i1 i2 =>
    intro ds h
    obtain ⟨es, h1, h2⟩ := i2 h
    obtain ⟨fs, h3, h4⟩ := i1 h1
    exact ⟨fs, h3, h4.trans h2⟩
theorem left_are {r r' : Int} (r0 : 0 ≤ r) {es : List PyData} (p : es.Perm [pairT (0, 3), pairL (1, 3), pairT (-1 - r, r' - 4)]) :
    areSq (.list es) = true ∧ (sqs (.list es)).any (fun z => decide (z.1 < 0)) = true := by
  have m := p.map sqOf
  have e : [pairT (0, 3), pairL (1, 3), pairT (-1 - r, r' - 4)].map sqOf = [some (0, 3), some (1, 3), some (-1 - r, r' - 4)] := rfl
  rw [e] at m
  constructor
  · unfold areSq
    show (es.all isSq && decide ((es.map sqOf).Nodup)) = true
    simp only [Bool.and_eq_true, decide_eq_true_eq, List.all_eq_true]
    refine ⟨fun x hx => ?_, m.nodup_iff.mpr ?_⟩
    · have := p.subset hx
      simp only [List.mem_cons, List.not_mem_nil, or_false] at this
      rcases this with rfl | rfl | rfl <;> rfl
    · simp
      omega
  · have q : (sqs (.list es)).Perm [(0, 3), (1, 3), (-1 - r, r' - 4)] := p.filterMap sqOf
    refine List.any_eq_true.mpr ⟨(-1 - r, r' - 4), q.mem_iff.mpr (by simp), ?_⟩
    simp only [decide_eq_true_eq]
    omega
theorem extN_off {D : Addr} {H H1 : Hp} (e : ExtN H H1) : Ex (noT (off D H)) (off D H1) := by
  intro a o h
  obtain ⟨h1, n⟩ := noT_of h
  by_cases q : a = D
  · subst q; rw [show off a H a = none from if_pos rfl] at h1; cases h1
  · rw [off_ne q] at h1 ⊢
    exact e a o h1 n
section
variable {K : PySem.W.Frag} {cB cM : Addr} {v1 v2 v3 : V} {d1 d2 d3 : PyData} {q : Str} {H : Hp} {N Q : VK} {E : XK}
theorem bad_heard (a1 : Da K H v1 d1) (a2 : Da K H v2 d2) (a3 : Da K H v3 d3) (s1 : Short d1) (s2 : Short d2) (s3 : Short d3) (o : better d1 d2 d3 = .bad q)
    (hE : ∀ cls d H', EHeard cB cM Q cls d H' → E cls d H') (c : ∀ (t : Addr) (H2 : Hp), Ex H H2 → H t = none → H2 t = some (.tup [.str "BadSquares", .str q]) → Q (.ref t) H2) : spBetter K cB cM [v1, v2, v3] H N E := by
  refine ⟨v1, v2, v3, d1, d2, d3, rfl, a1, a2, a3, s1, s2, s3, (fun b hb => by rw [o] at hb; cases hb), (fun p hp dx H' e nx hx => ?_), (fun p hp => by rw [o] at hp; cases hp)⟩
  rw [o] at hp
  cases hp
  exact hE _ _ _ ⟨dx, q, rfl, hx, .inl ⟨rfl, fun t H2 e2 nt ht => c t H2 (e.trans e2) (Evl.fresh_back e nt) ht⟩⟩
theorem misfit_heard (a1 : Da K H v1 d1) (a2 : Da K H v2 d2) (a3 : Da K H v3 d3) (s1 : Short d1) (s2 : Short d2) (s3 : Short d3) (o : better d1 d2 d3 = .misfit q)
    (hE : ∀ cls d H', EHeard cB cM Q cls d H' → E cls d H') (c : ∀ (t : Addr) (H2 : Hp), Ex H H2 → H t = none → H2 t = some (.tup [.str "Misfit", .str q]) → Q (.ref t) H2) : spBetter K cB cM [v1, v2, v3] H N E := by
  refine ⟨v1, v2, v3, d1, d2, d3, rfl, a1, a2, a3, s1, s2, s3, (fun b hb => by rw [o] at hb; cases hb), (fun p hp => by rw [o] at hp; cases hp), (fun p hp dx H' e nx hx => ?_)⟩
  rw [o] at hp
  cases hp
  exact hE _ _ _ ⟨dx, q, rfl, hx, .inr ⟨rfl, fun t H2 e2 nt ht => c t H2 (e.trans e2) (Evl.fresh_back e nt) ht⟩⟩
theorem told_heard {b : Bool} (a1 : Da K H v1 d1) (a2 : Da K H v2 d2) (a3 : Da K H v3 d3) (s1 : Short d1) (s2 : Short d2) (s3 : Short d3) (o : better d1 d2 d3 = .told b)
    (_hE : ∀ cls d H', EHeard cB cM Q cls d H' → E cls d H') (hN : ∀ v H', Q .non H' → N v H') (c : ∀ (H2 : Hp), Ex H H2 → Q .non H2) : spBetter K cB cM [v1, v2, v3] H N E := by
  refine ⟨v1, v2, v3, d1, d2, d3, rfl, a1, a2, a3, s1, s2, s3, (fun b hb H' e => hN _ _ (c H' e)), (fun p hp => by rw [o] at hp; cases hp), (fun p hp => by rw [o] at hp; cases hp)⟩
end
section
variable {P : Program} {w : World} {K : PySem.W.Frag} {mg : Str → Option Value} {base : Heap}
/-- what is refused is refused in order -/
def spRefR (K : PySem.W.Frag) (p : Addr) : Sp := fun vs H Q _ => ∃ (j : Addr) (B : Hp) (b : Nat), vs = [.ref j] ∧ Urn K (noT B) j (b + 20) H ∧ H p = some (.tbl #[]) ∧ ∀ H', Q (.bl true) H'
theorem ok_w_refused_right (T : Txt K mg) {c p : Addr} (hcode : T.d_w_refused_right.code = .ref c) (TB : LamX.TabB base mg c p) : FnG P w K mg base CX0 8 T.f_w_refused_right T.d_w_refused_right ["reel"] (spRefR K p) := by
  have G_w_wind : FnOk P w K mg base CX0 5 T.f_w_wind T.d_w_wind ["reel", "many"] (spDraw K) := (ok_draw T).mono (by decide)
  have G_w_pick : FnOk P w K mg base CX0 5 T.f_w_pick T.d_w_pick ["reel", "some"] (spPick K) := (ok_w_pick T).mono (by decide)
  have G_w_mixed : FnOk P w K mg base CX0 5 T.f_w_mixed T.d_w_mixed ["reel", "some"] (spMix K) := (ok_w_mixed T).mono (by decide)
  have G_is_better : FnOk P w K mg base (L2.CX P w) 5 T.f_is_better T.d_is_better ["one", "other", "burnt"] (spBetter K T.c_BadSquares T.c_Misfit) := ok_is_better T
  refine okGc T.F_w_refused_right sc_w_refused_right (k := 7) (fun vs H Q E h => ?_) (fun cdv A outer s H vs Q E hcd hr gd h => ?_)
  · obtain ⟨j, B, b, rfl, _⟩ := h
    rfl
  · obtain ⟨j, B, b, rfl, u, hp, k⟩ := h
    have hr2 := hr
    have hr1 := hr.mono (j := 5) (by decide)
    have hu64 : (A.deeper (envOfC "_law_refused_right" (defScope s_w_refused_right) s.heap.objs.size T.f_w_refused_right cdv)).units + 64 < cLine := by have := hr.un; omega
    have small : sizeLine = 16777216 := sizeLine_eq
    have hcode : (cxOf CX0 P w K mg base ["reel", "good", "bad", "left", "heard", "due"] "_law_refused_right" (defScope s_w_refused_right) T.f_w_refused_right cdv A outer s H E).nox.env.code = .ref c := hcd.symm.trans hcode
    let q : Str := (envOfC "_law_refused_right" (defScope s_w_refused_right) s.heap.objs.size T.f_w_refused_right cdv).qual ++ "<lambda>"
    refine ⟨_, (Evl.pss_cut (ps_set (i := 1) sc_w_refused_right.nd rfl (Or.inr rfl) (pe_lst (pa_cons (pe_tup (pa_cons pe_int (pa_cons pe_int pa_nil))) (pa_cons (pe_lst (pa_cons pe_int (pa_cons pe_int pa_nil))) pa_nil))))
  (Evl.pss_cut (ps_set (i := 2) sc_w_refused_right.nd rfl (Or.inr rfl) (pe_call G_w_pick hr1 rfl T.g_w_pick T.F_w_pick.kp (b_w_pick T) .nil pass0 (pa_cons (pv 0) (pa_cons (pe_lst (pa_cons pe_non (pa_cons pe_int (pa_cons pe_str (pa_cons pe_dnewK (pa_cons (pe_lst (pa_cons (pe_tup (pa_cons pe_int (pa_cons pe_int pa_nil))) (pa_cons (pe_lst (pa_cons pe_int (pa_cons pe_int pa_nil))) pa_nil))) (pa_cons (pe_lst (pa_cons (pe_tup (pa_cons pe_int (pa_cons pe_int (pa_cons pe_int pa_nil)))) pa_nil)) (pa_cons (pe_lst (pa_cons (pe_tup (pa_cons pe_bl (pa_cons pe_int pa_nil))) pa_nil)) (pa_cons (pe_tup (pa_cons (pe_tup (pa_cons pe_int (pa_cons pe_int pa_nil))) (pa_cons pe_non pa_nil))) pa_nil))))))))) pa_nil))))
  (Evl.pss_cut (ps_set (i := 3) sc_w_refused_right.nd rfl (Or.inr rfl) (pe_call G_w_mixed hr1 rfl T.g_w_mixed T.F_w_mixed.kp (b_w_mixed T) .nil pass0 (pa_cons (pv 0) (pa_cons (pe_op op_cat (pv 1) (pe_lst (pa_cons (pe_tup (pa_cons (pe_op op_sub (pe_un un_neg pe_int) (pe_call G_w_wind hr1 rfl T.g_w_wind T.F_w_wind.kp (b_w_wind T) .nil pass0 (pa_cons (pv 0) (pa_cons pe_int pa_nil)))) (pa_cons (pe_op op_sub (pe_call G_w_wind hr1 rfl T.g_w_wind T.F_w_wind.kp (b_w_wind T) .nil pass0 (pa_cons (pv 0) (pa_cons pe_int pa_nil))) pe_int) pa_nil))) pa_nil))) pa_nil))))
  (Evl.pss_cut (ps_set (i := 4) sc_w_refused_right.nd rfl (Or.inl rfl) (pe_lst (pa_cons (pe_w_heard T TB hcode hr2 rfl (LamX.lamS_by (show LamX.lamSB (defScope s_w_refused_right) _ = true from by decide +kernel)) rfl (fun _ _ _ _ _ => rfl) (fun A outer s H E f c' hr1 => (pe_call G_is_better hr1 rfl T.g_is_better T.F_is_better.kp (b_is_better T) .nil (passes_call (takes_of rfl rfl rfl rfl) (fun _ _ _ _ h => h)) (pa_cons (pv 2) (pa_cons (pv 2) (pa_cons (pv 2) pa_nil)))))) pa_nil)))
  (Evl.pss_cut (ps_expr (pe_bm PySem.F.plainAttrs_list PySem.F.slot_list_append PySem.F.type_list_append mt_append (pv 4) (pa_cons (pe_w_heard T TB hcode hr2 rfl (LamX.lamS_by (show LamX.lamSB (defScope s_w_refused_right) _ = true from by decide +kernel)) rfl (fun _ _ _ _ _ => rfl) (fun A outer s H E f c' hr1 => (pe_call G_is_better hr1 rfl T.g_is_better T.F_is_better.kp (b_is_better T) .nil (passes_call (takes_of rfl rfl rfl rfl) (fun _ _ _ _ h => h)) (pa_cons (pv 3) (pa_cons (pv 2) (pa_cons (pv 2) pa_nil)))))) pa_nil)))
  (Evl.pss_cut (ps_expr (pe_bm PySem.F.plainAttrs_list PySem.F.slot_list_append PySem.F.type_list_append mt_append (pv 4) (pa_cons (pe_w_heard T TB hcode hr2 rfl (LamX.lamS_by (show LamX.lamSB (defScope s_w_refused_right) _ = true from by decide +kernel)) rfl (fun _ _ _ _ _ => rfl) (fun A outer s H E f c' hr1 => (pe_call G_is_better hr1 rfl T.g_is_better T.F_is_better.kp (b_is_better T) .nil (passes_call (takes_of rfl rfl rfl rfl) (fun _ _ _ _ h => h)) (pa_cons (pv 3) (pa_cons (pv 3) (pa_cons (pv 2) pa_nil)))))) pa_nil)))
  (Evl.pss_cut (ps_expr (pe_bm PySem.F.plainAttrs_list PySem.F.slot_list_append PySem.F.type_list_append mt_append (pv 4) (pa_cons (pe_w_heard T TB hcode hr2 rfl (LamX.lamS_by (show LamX.lamSB (defScope s_w_refused_right) _ = true from by decide +kernel)) rfl (fun _ _ _ _ _ => rfl) (fun A outer s H E f c' hr1 => (pe_call G_is_better hr1 rfl T.g_is_better T.F_is_better.kp (b_is_better T) .nil (passes_call (takes_of rfl rfl rfl rfl) (fun _ _ _ _ h => h)) (pa_cons (pv 3) (pa_cons (pv 3) (pa_cons (pv 3) pa_nil)))))) pa_nil)))
  (Evl.pss_cut (ps_expr (pe_bm PySem.F.plainAttrs_list PySem.F.slot_list_append PySem.F.type_list_append mt_append (pv 4) (pa_cons (pe_w_heard T TB hcode hr2 rfl (LamX.lamS_by (show LamX.lamSB (defScope s_w_refused_right) _ = true from by decide +kernel)) rfl (fun _ _ _ _ _ => rfl) (fun A outer s H E f c' hr1 => (pe_call G_is_better hr1 rfl T.g_is_better T.F_is_better.kp (b_is_better T) .nil (passes_call (takes_of rfl rfl rfl rfl) (fun _ _ _ _ h => h)) (pa_cons (pv 1) (pa_cons (pv 3) (pa_cons (pv 3) pa_nil)))))) pa_nil)))
  (Evl.pss_cut (ps_expr (pe_bm PySem.F.plainAttrs_list PySem.F.slot_list_append PySem.F.type_list_append mt_append (pv 4) (pa_cons (pe_w_heard T TB hcode hr2 rfl (LamX.lamS_by (show LamX.lamSB (defScope s_w_refused_right) _ = true from by decide +kernel)) rfl (fun _ _ _ _ _ => rfl) (fun A outer s H E f c' hr1 => (pe_call G_is_better hr1 rfl T.g_is_better T.F_is_better.kp (b_is_better T) .nil (passes_call (takes_of rfl rfl rfl rfl) (fun _ _ _ _ h => h)) (pa_cons (pv 1) (pa_cons (pe_lst pa_nil) (pa_cons (pv 3) pa_nil)))))) pa_nil)))
  (Evl.pss_cut (ps_expr (pe_bm PySem.F.plainAttrs_list PySem.F.slot_list_append PySem.F.type_list_append mt_append (pv 4) (pa_cons (pe_w_heard T TB hcode hr2 rfl (LamX.lamS_by (show LamX.lamSB (defScope s_w_refused_right) _ = true from by decide +kernel)) rfl (fun _ _ _ _ _ => rfl) (fun A outer s H E f c' hr1 => (pe_call G_is_better hr1 rfl T.g_is_better T.F_is_better.kp (b_is_better T) .nil (passes_call (takes_of rfl rfl rfl rfl) (fun _ _ _ _ h => h)) (pa_cons (pv 1) (pa_cons (pv 2) (pa_cons (pv 3) pa_nil)))))) pa_nil)))
  (pss_cons (ps_set (i := 5) sc_w_refused_right.nd rfl (Or.inl rfl) (pe_lst (pa_cons (pe_tup (pa_cons pe_str (pa_cons pe_str pa_nil))) (pa_cons (pe_tup (pa_cons pe_str (pa_cons pe_str pa_nil))) (pa_cons (pe_tup (pa_cons pe_str (pa_cons pe_str pa_nil))) (pa_cons (pe_tup (pa_cons pe_str (pa_cons pe_str pa_nil))) (pa_cons (pe_tup (pa_cons pe_str (pa_cons pe_str pa_nil))) pa_nil)))))))
  (pss_one (ps_ret (pe_cmpR (op_eqD hu64) (pv 4) (pe_op op_cat (pv 5) (pe_lst (pa_cons pe_non (pa_cons (pe_tup (pa_cons pe_str (pa_cons pe_str pa_nil))) pa_nil)))) (nomark _))))))))))))))), ?_⟩
    refine ⟨fun σ' H' => ∃ g t l, σ' = [some (.ref j), some (.ref g), none, none, none, none] ∧ Ex H H' ∧ H g = none ∧ H t = none ∧ H l = none ∧ H' g = some (.lst [.ref t, .ref l]) ∧ H' t = some (.tup [.int 0, .int 3]) ∧ H' l = some (.lst [.int 1, .int 3]), ?_, ?_⟩
    · walk_at "rd"
      intro t ht
      have et := Evl.Ex.new (o := .tup [.int 0, .int 3]) ht
      walk_at "rd"
      intro l hl
      have el := Evl.Ex.new (o := .lst [.int 1, .int 3]) hl
      walk_at "rd"
      intro g hg
      have eg := Evl.Ex.new (o := .lst [.ref t, .ref l]) hg
      exact ⟨g, t, l, rfl, (et.trans el).trans eg, Evl.fresh_back (et.trans el) hg, ht, Evl.fresh_back et hl, upd_same, eg _ _ (el _ _ upd_same), eg _ _ upd_same⟩
    rintro σ' H1 ⟨g, t, l, rfl, e1, ng, nt, nl, hg, ht, hl⟩
    have u1 := u.ex e1
    have hp1 := e1 _ _ hp
    refine ⟨fun σ' H' => ∃ v d, σ' = [some (.ref j), some (.ref g), some v, none, none, none] ∧ Go j H1 H' ∧ Urn K (noT B) j (b + 15) H' ∧ Da K (off j H') v d ∧ areSq d = false ∧ Short d, ?_, ?_⟩
    · walk_at "rd"
      intro p1 hp1'
      have x1 := Evl.Ex.new (o := .dK []) hp1'
      have y1 : upd H1 p1 (.dK []) p1 = some (.dK []) := upd_same
      have n1 : p1 ≠ j := u1.ne hp1'
      generalize upd H1 p1 (.dK []) = G1 at x1 y1 ⊢
      have w1 := u1.ex x1
      walk_at "rd"
      intro p2 hp2'
      have x2 := Evl.Ex.new (o := .tup [.int 0, .int 3]) hp2'
      have y2 : upd G1 p2 (.tup [.int 0, .int 3]) p2 = some (.tup [.int 0, .int 3]) := upd_same
      have n2 : p2 ≠ j := w1.ne hp2'
      generalize upd G1 p2 (.tup [.int 0, .int 3]) = G2 at x2 y2 ⊢
      have w2 := w1.ex x2
      walk_at "rd"
      intro p3 hp3'
      have x3 := Evl.Ex.new (o := .lst [.int 0, .int 3]) hp3'
      have y3 : upd G2 p3 (.lst [.int 0, .int 3]) p3 = some (.lst [.int 0, .int 3]) := upd_same
      have n3 : p3 ≠ j := w2.ne hp3'
      generalize upd G2 p3 (.lst [.int 0, .int 3]) = G3 at x3 y3 ⊢
      have w3 := w2.ex x3
      walk_at "rd"
      intro p4 hp4'
      have x4 := Evl.Ex.new (o := .lst [.ref p2, .ref p3]) hp4'
      have y4 : upd G3 p4 (.lst [.ref p2, .ref p3]) p4 = some (.lst [.ref p2, .ref p3]) := upd_same
      have n4 : p4 ≠ j := w3.ne hp4'
      generalize upd G3 p4 (.lst [.ref p2, .ref p3]) = G4 at x4 y4 ⊢
      have w4 := w3.ex x4
      walk_at "rd"
      intro p5 hp5'
      have x5 := Evl.Ex.new (o := .tup [.int 0, .int 3, .int 1]) hp5'
      have y5 : upd G4 p5 (.tup [.int 0, .int 3, .int 1]) p5 = some (.tup [.int 0, .int 3, .int 1]) := upd_same
      have n5 : p5 ≠ j := w4.ne hp5'
      generalize upd G4 p5 (.tup [.int 0, .int 3, .int 1]) = G5 at x5 y5 ⊢
      have w5 := w4.ex x5
      walk_at "rd"
      intro p6 hp6'
      have x6 := Evl.Ex.new (o := .lst [.ref p5]) hp6'
      have y6 : upd G5 p6 (.lst [.ref p5]) p6 = some (.lst [.ref p5]) := upd_same
      have n6 : p6 ≠ j := w5.ne hp6'
      generalize upd G5 p6 (.lst [.ref p5]) = G6 at x6 y6 ⊢
      have w6 := w5.ex x6
      walk_at "rd"
      intro p7 hp7'
      have x7 := Evl.Ex.new (o := .tup [.bl false, .int 3]) hp7'
      have y7 : upd G6 p7 (.tup [.bl false, .int 3]) p7 = some (.tup [.bl false, .int 3]) := upd_same
      have n7 : p7 ≠ j := w6.ne hp7'
      generalize upd G6 p7 (.tup [.bl false, .int 3]) = G7 at x7 y7 ⊢
      have w7 := w6.ex x7
      walk_at "rd"
      intro p8 hp8'
      have x8 := Evl.Ex.new (o := .lst [.ref p7]) hp8'
      have y8 : upd G7 p8 (.lst [.ref p7]) p8 = some (.lst [.ref p7]) := upd_same
      have n8 : p8 ≠ j := w7.ne hp8'
      generalize upd G7 p8 (.lst [.ref p7]) = G8 at x8 y8 ⊢
      have w8 := w7.ex x8
      walk_at "rd"
      intro p9 hp9'
      have x9 := Evl.Ex.new (o := .tup [.int 0, .int 3]) hp9'
      have y9 : upd G8 p9 (.tup [.int 0, .int 3]) p9 = some (.tup [.int 0, .int 3]) := upd_same
      have n9 : p9 ≠ j := w8.ne hp9'
      generalize upd G8 p9 (.tup [.int 0, .int 3]) = G9 at x9 y9 ⊢
      have w9 := w8.ex x9
      walk_at "rd"
      intro p10 hp10'
      have x10 := Evl.Ex.new (o := .tup [.ref p9, .non]) hp10'
      have y10 : upd G9 p10 (.tup [.ref p9, .non]) p10 = some (.tup [.ref p9, .non]) := upd_same
      have n10 : p10 ≠ j := w9.ne hp10'
      generalize upd G9 p10 (.tup [.ref p9, .non]) = G10 at x10 y10 ⊢
      have w10 := w9.ex x10
      walk_at "rd"
      intro p11 hp11'
      have x11 := Evl.Ex.new (o := .lst [.non, .int 3, .str "0 3", .ref p1, .ref p4, .ref p6, .ref p8, .ref p10]) hp11'
      have y11 : upd G10 p11 (.lst [.non, .int 3, .str "0 3", .ref p1, .ref p4, .ref p6, .ref p8, .ref p10]) p11 = some (.lst [.non, .int 3, .str "0 3", .ref p1, .ref p4, .ref p6, .ref p8, .ref p10]) := upd_same
      have n11 : p11 ≠ j := w10.ne hp11'
      generalize upd G10 p11 (.lst [.non, .int 3, .str "0 3", .ref p1, .ref p4, .ref p6, .ref p8, .ref p10]) = G11 at x11 y11 ⊢
      have w11 := w10.ex x11
      have z1 : off j G11 p1 = _ := off_at n1 (x11 _ _ (x10 _ _ (x9 _ _ (x8 _ _ (x7 _ _ (x6 _ _ (x5 _ _ (x4 _ _ (x3 _ _ (x2 _ _ y1))))))))))
      have z2 : off j G11 p2 = _ := off_at n2 (x11 _ _ (x10 _ _ (x9 _ _ (x8 _ _ (x7 _ _ (x6 _ _ (x5 _ _ (x4 _ _ (x3 _ _ y2)))))))))
      have z3 : off j G11 p3 = _ := off_at n3 (x11 _ _ (x10 _ _ (x9 _ _ (x8 _ _ (x7 _ _ (x6 _ _ (x5 _ _ (x4 _ _ y3))))))))
      have z4 : off j G11 p4 = _ := off_at n4 (x11 _ _ (x10 _ _ (x9 _ _ (x8 _ _ (x7 _ _ (x6 _ _ (x5 _ _ y4)))))))
      have z5 : off j G11 p5 = _ := off_at n5 (x11 _ _ (x10 _ _ (x9 _ _ (x8 _ _ (x7 _ _ (x6 _ _ y5))))))
      have z6 : off j G11 p6 = _ := off_at n6 (x11 _ _ (x10 _ _ (x9 _ _ (x8 _ _ (x7 _ _ y6)))))
      have z7 : off j G11 p7 = _ := off_at n7 (x11 _ _ (x10 _ _ (x9 _ _ (x8 _ _ y7))))
      have z8 : off j G11 p8 = _ := off_at n8 (x11 _ _ (x10 _ _ (x9 _ _ y8)))
      have z9 : off j G11 p9 = _ := off_at n9 (x11 _ _ (x10 _ _ y9))
      have z10 : off j G11 p10 = _ := off_at n10 (x11 _ _ y10)
      have z11 : off j G11 p11 = _ := off_at n11 y11
      have tot : Ex H1 G11 := ((((((((((x1.trans x2).trans x3).trans x4).trans x5).trans x6).trans x7).trans x8).trans x9).trans x10).trans x11)
      walk_at "rd"
      refine ⟨j, p11, _, b + 19, _, rfl, w11, SqL.of z11, by simp, by simp, fun m v H2 hv g2 u2 => ?_⟩
      have s1 := g2.ex _ _ z1
      have s2 := g2.ex _ _ z2
      have s3 := g2.ex _ _ z3
      have s4 := g2.ex _ _ z4
      have s5 := g2.ex _ _ z5
      have s6 := g2.ex _ _ z6
      have s7 := g2.ex _ _ z7
      have s8 := g2.ex _ _ z8
      have s9 := g2.ex _ _ z9
      have s10 := g2.ex _ _ z10
      have fin : ∀ (d : PyData), Da K (off j H2) v d → areSq d = false → Short d → _ := fun d dv nd sd => (⟨v, d, rfl, (Go.of tot).trans g2, u2.less (by omega), dv, nd, sd⟩ : ∃ v' d', ([some (.ref j), some (.ref g), none, none, none, none] : L2.St).set 2 (some v) = [some (.ref j), some (.ref g), some v', none, none, none] ∧ Go j H1 H2 ∧ Urn K (noT B) j (b + 15) H2 ∧ Da K (off j H2) v' d' ∧ areSq d' = false ∧ Short d')
      match m, hv with
      | 0, hv => cases hv; exact fin (.none) (.non) (by decide +kernel) (by intro ds h; cases h <;> decide)
      | 1, hv => cases hv; exact fin (.int 3) (.int 3) (by decide +kernel) (by intro ds h; cases h <;> decide)
      | 2, hv => cases hv; exact fin (.str "0 3") (.str _) (by decide +kernel) (by intro ds h; cases h <;> decide)
      | 3, hv => cases hv; exact fin (.dict []) (.dct (kvs := []) (ds := []) s1 .nil) (by decide +kernel) (by intro ds h; cases h <;> decide)
      | 4, hv => cases hv; exact fin (.list [.tuple [.int 0, .int 3], .list [.int 0, .int 3]]) (.lst (SqL.of s4) (.cons (.tup (SqT.of s2) (.cons (.int _) (.cons (.int _) .nil))) (.cons (.lst (SqL.of s3) (.cons (.int _) (.cons (.int _) .nil))) .nil))) (by decide +kernel) (by intro ds h; cases h <;> decide)
      | 5, hv => cases hv; exact fin (.list [.tuple [.int 0, .int 3, .int 1]]) (.lst (SqL.of s6) (.cons (.tup (SqT.of s5) (.cons (.int _) (.cons (.int _) (.cons (.int _) .nil)))) .nil)) (by decide +kernel) (by intro ds h; cases h <;> decide)
      | 6, hv => cases hv; exact fin (.list [.tuple [.bool false, .int 3]]) (.lst (SqL.of s8) (.cons (.tup (SqT.of s7) (.cons (.bl _) (.cons (.int _) .nil))) .nil)) (by decide +kernel) (by intro ds h; cases h <;> decide)
      | 7, hv => cases hv; exact fin (.tuple [.tuple [.int 0, .int 3], .none]) (.tup (SqT.of s10) (.cons (.tup (SqT.of s9) (.cons (.int _) (.cons (.int _) .nil))) (.cons .non .nil))) (by decide +kernel) (by intro ds h; cases h <;> decide)
      | (n + 8), hv => cases hv
    rintro σ' H2 ⟨v, d, rfl, g2, u2, dv, nd, sd⟩
    have hg2 := g2 g _ (u.ne ng) hg
    have ht2 := g2 t _ (u.ne nt) ht
    have hl2 := g2 l _ (u.ne nl) hl
    have hp2 : H2 p = some (.tbl #[]) := g2 p _ (by rintro rfl; obtain ⟨_, _, _, _, h, _⟩ := u.it; rw [hp] at h; cases h) hp1
    refine ⟨fun σ' H' => ∃ L ds, σ' = [some (.ref j), some (.ref g), some v, some (.ref L), none, none] ∧ Go j H2 H' ∧ Da K H' (.ref L) (.list ds) ∧ areSq (.list ds) = true ∧ (sqs (.list ds)).any (fun z => decide (z.1 < 0)) = true ∧ Short (.list ds), ?_, ?_⟩
    · walk_at "rd"
      intro r H3 r0 r1 g3 u3
      walk_at "rd"
      intro r' H4 r0' r1' g4 u4
      walk_at "rd"
      intro t1 ht1
      have e1' := Evl.Ex.new (o := .tup [.int (-1 - r), .int (r' - 4)]) ht1
      have n1 := u4.ne ht1
      have f1 : off j (upd H4 t1 (.tup [.int (-1 - r), .int (r' - 4)])) t1 = some (.tup [.int (-1 - r), .int (r' - 4)]) := off_at n1 upd_same
      walk_at "rd"
      intro l1 hl1
      have e2' := Evl.Ex.new (o := .lst [.ref t1]) hl1
      have g24 : Go j H2 H4 := g3.trans g4
      have gg := (e1'.trans e2') _ _ (g24 g _ (u.ne ng) hg2)
      have n2 := (u4.ex e1').ne hl1
      refine ⟨g, l1, [.ref t, .ref l], [.ref t1], rfl, rfl, gg, upd_same, by rw [small]; simp, fun l2 hz2 => ?_⟩
      have e3' := Evl.Ex.new (o := .lst ([.ref t, .ref l] ++ [.ref t1])) hz2
      have eA := (e1'.trans e2').trans e3'
      have n3 := ((u4.ex e1').ex e2').ne hz2
      have uA := u4.ex eA
      walk_at "rd"
      refine ⟨j, l2, noT B, b, [.ref t, .ref l, .ref t1], rfl, uA.less (by simp), SqL.of (off_at n3 upd_same), by simp, fun L ys H5 pm g5 n5 h5 u5 => ?_⟩
      have q1 := off_sub j _ _ _ (g5.ex _ _ ((Go.of eA).ex _ _ (g24.ex _ _ (off_at (u.ne nt) ht2))))
      have q2 := off_sub j _ _ _ (g5.ex _ _ ((Go.of eA).ex _ _ (g24.ex _ _ (off_at (u.ne nl) hl2))))
      have q3 := off_sub j _ _ _ (g5.ex _ _ ((Go.of (e2'.trans e3')).ex _ _ f1))
      have da3 : DaAll K H5 [.ref t, .ref l, .ref t1] [pairT (0, 3), pairL (1, 3), pairT (-1 - r, r' - 4)] :=
        .cons (.tup (SqT.of q1) (.cons (.int _) (.cons (.int _) .nil))) (.cons (.lst (SqL.of q2) (.cons (.int _) (.cons (.int _) .nil))) (.cons (.tup (SqT.of q3) (.cons (.int _) (.cons (.int _) .nil))) .nil))
      obtain ⟨es, daE, pE⟩ := DaAll.perm pm da3
      obtain ⟨k1, k2⟩ := left_are (r := r) (r' := r') r0 pE
      refine ⟨L, es, rfl, (g24.trans (Go.of eA)).trans g5, .lst (SqL.of h5) daE, k1, k2, ?_⟩
      intro ds h
      cases h
      rw [pE.length_eq]
      simp
    rintro σ' H3 ⟨L, ds, rfl, g3, dL, aL, nL, sL⟩
    have dv3 := Da.noT _ (Da.mono (off_sub j _) _ (Da.mono g3.ex _ dv))
    have hg3 := g3 g _ (u.ne ng) hg2
    have ht3 := g3 t _ (u.ne nt) ht2
    have hl3 := g3 l _ (u.ne nl) hl2
    have dG3 : Da K (noT H3) (.ref g) (.list [pairT (0, 3), pairL (1, 3)]) := Da.noT _ (.lst (SqL.of hg3) (.cons (.tup (SqT.of ht3) (.cons (.int _) (.cons (.int _) .nil))) (.cons (.lst (SqL.of hl3) (.cons (.int _) (.cons (.int _) .nil))) .nil)))
    have dL3 := Da.noT _ dL
    have aG : areSq (.list [pairT (0, 3), pairL (1, 3)]) = true := by decide +kernel
    have nG : ¬ (sqs (.list [pairT (0, 3), pairL (1, 3)])).any (fun z => decide (z.1 < 0)) = true := by decide +kernel
    have aE : areSq (.list []) = true := by decide +kernel
    have nE : ¬ (sqs (.list [])).any (fun z => decide (z.1 < 0)) = true := by decide +kernel
    have sG : Short (.list [pairT (0, 3), pairL (1, 3)]) := by intro ds h; cases h; decide
    have sE : Short (.list []) := by intro ds h; cases h; decide
    have fL : ¬ areSq (.list ds) = false := by rw [aL]; decide
    have fG : ¬ areSq (.list [pairT (0, 3), pairL (1, 3)]) = false := by rw [aG]; decide
    have fE : ¬ areSq (.list []) = false := by rw [aE]; decide
    have o1 : better d d d = .bad "one" := by unfold better; rw [if_pos nd]
    have o2 : better (.list ds) d d = .bad "other" := by unfold better; rw [if_neg fL, if_pos nd]
    have o3 : better (.list ds) (.list ds) d = .bad "burnt" := by unfold better; rw [if_neg fL, if_neg fL, if_pos nd]
    have o4 : better (.list ds) (.list ds) (.list ds) = .misfit "one" := by unfold better; rw [if_neg fL, if_neg fL, if_neg fL, if_pos nL]
    have o5 : better (.list [pairT (0, 3), pairL (1, 3)]) (.list ds) (.list ds) = .misfit "other" := by unfold better; rw [if_neg fG, if_neg fL, if_neg fL, if_neg nG, if_pos nL]
    have o6 : ∃ b, better (.list [pairT (0, 3), pairL (1, 3)]) (.list []) (.list ds) = .told b := ⟨_, by unfold better; rw [if_neg fG, if_neg fE, if_neg fL, if_neg nG, if_neg nE]⟩
    obtain ⟨b6, o6⟩ := o6
    have o7 : better (.list [pairT (0, 3), pairL (1, 3)]) d (.list ds) = .bad "other" := by unfold better; rw [if_neg fG, if_pos nd]
    have hp3 : H3 p = some (.tbl #[]) := g3 p _ (by rintro rfl; obtain ⟨_, _, _, _, h, _⟩ := u.it; rw [hp] at h; cases h) hp2
    have tab : LamX.Tabs [(p, q)] H3 := by
      intro r hr
      rw [List.mem_singleton.mp hr]
      exact LamX.TabS.nil hp3
    refine ⟨fun σ' H' => ∃ D vs, σ' = [some (.ref j), some (.ref g), some v, some (.ref L), some (.ref D), none] ∧ noT H3 D = none ∧ Ex (noT H3) H' ∧ H' D = some (.lst vs) ∧ vs.length = 1 ∧ DaAll K (off D H') vs [.tuple [.str "BadSquares", .str "one"]] ∧ LamX.Tabs [(p, q)] H', ?_, ?_⟩
    · walk_at "rd"
      intro H4 eN T4 E4 N4 hE hN
      have w4 := ex_extN (noT_sub H3) eN
      walk_at "rd"
      refine bad_heard (Da.mono w4 _ dv3) (Da.mono w4 _ dv3) (Da.mono w4 _ dv3) sd sd sd o1 hE (fun a H5 e5 na ha => ?_)
      walk_at "rd"
      intro D hD
      have eD := Evl.Ex.new (o := .lst [.ref a]) hD
      have w6 := (w4.trans e5)
      have naD : a ≠ D := by rintro rfl; rw [hD] at ha; cases ha
      exact ⟨D, [.ref a], rfl, Evl.fresh_back w6 hD, w6.trans eD, upd_same, rfl, .cons (.tup (SqT.of (off_at naD (eD _ _ ha))) (.cons (.str _) (.cons (.str _) .nil))) .nil, LamX.Tabs.ext (LamX.Tabs.ext T4 e5) eD⟩
    rintro σ' H4 ⟨D, vs, rfl, nD, w4, hD, lv, dD, T4⟩
    refine ⟨fun σ' H' => ∃ vs, σ' = [some (.ref j), some (.ref g), some v, some (.ref L), some (.ref D), none] ∧ Ex (noT H3) H' ∧ H' D = some (.lst vs) ∧ vs.length = 2 ∧ DaAll K (off D H') vs [.tuple [.str "BadSquares", .str "one"], .tuple [.str "BadSquares", .str "other"]] ∧ LamX.Tabs [(p, q)] H', ?_, ?_⟩
    · walk_at "rd"
      refine ⟨.inl ⟨rfl, _, SqL.of hD⟩, ?_⟩
      walk_at "rd"
      intro H5 eN T5 E5 N5 hE hN
      have w5 := ex_extN w4 eN
      have h5 : H5 D = some (.lst vs) := eN _ _ hD fun ps z => nomatch z
      have d5 := DaAll.mono (extN_off eN) _ (DaAll.noT _ dD)
      walk_at "rd"
      refine bad_heard (Da.mono w5 _ dL3) (Da.mono w5 _ dv3) (Da.mono w5 _ dv3) sL sd sd o2 hE (fun a H6 e6 na ha => ?_)
      have naD : a ≠ D := by rintro rfl; rw [h5] at na; cases na
      have h6 := e6 _ _ h5
      refine ⟨D, vs, _, rfl, rfl, h6, by rw [small]; omega, ?_⟩
      exact ⟨vs ++ [.ref a], rfl, Evl.Ex.mut (w5.trans e6) nD, upd_same, by rw [List.length_append, lv]; rfl, DaAll.app (DaAll.mono off1_upd _ (DaAll.mono (off1_ex e6) _ d5)) (.cons (.tup (SqT.of (off_at naD ((upd_ne naD).trans ha))) (.cons (.str _) (.cons (.str _) .nil))) .nil), K05.Tabs.go (LamX.Tabs.ext T5 e6) h6 Go.upd⟩
    clear lv dD T4 hD w4
    rintro σ' H4 ⟨vs, rfl, w4, hD, lv, dD, T4⟩
    refine ⟨fun σ' H' => ∃ vs, σ' = [some (.ref j), some (.ref g), some v, some (.ref L), some (.ref D), none] ∧ Ex (noT H3) H' ∧ H' D = some (.lst vs) ∧ vs.length = 3 ∧ DaAll K (off D H') vs [.tuple [.str "BadSquares", .str "one"], .tuple [.str "BadSquares", .str "other"], .tuple [.str "BadSquares", .str "burnt"]] ∧ LamX.Tabs [(p, q)] H', ?_, ?_⟩
    · walk_at "rd"
      refine ⟨.inl ⟨rfl, _, SqL.of hD⟩, ?_⟩
      walk_at "rd"
      intro H5 eN T5 E5 N5 hE hN
      have w5 := ex_extN w4 eN
      have h5 : H5 D = some (.lst vs) := eN _ _ hD fun ps z => nomatch z
      have d5 := DaAll.mono (extN_off eN) _ (DaAll.noT _ dD)
      walk_at "rd"
      refine bad_heard (Da.mono w5 _ dL3) (Da.mono w5 _ dL3) (Da.mono w5 _ dv3) sL sL sd o3 hE (fun a H6 e6 na ha => ?_)
      have naD : a ≠ D := by rintro rfl; rw [h5] at na; cases na
      have h6 := e6 _ _ h5
      refine ⟨D, vs, _, rfl, rfl, h6, by rw [small]; omega, ?_⟩
      exact ⟨vs ++ [.ref a], rfl, Evl.Ex.mut (w5.trans e6) nD, upd_same, by rw [List.length_append, lv]; rfl, DaAll.app (DaAll.mono off1_upd _ (DaAll.mono (off1_ex e6) _ d5)) (.cons (.tup (SqT.of (off_at naD ((upd_ne naD).trans ha))) (.cons (.str _) (.cons (.str _) .nil))) .nil), K05.Tabs.go (LamX.Tabs.ext T5 e6) h6 Go.upd⟩
    clear lv dD T4 hD w4
    rintro σ' H4 ⟨vs, rfl, w4, hD, lv, dD, T4⟩
    refine ⟨fun σ' H' => ∃ vs, σ' = [some (.ref j), some (.ref g), some v, some (.ref L), some (.ref D), none] ∧ Ex (noT H3) H' ∧ H' D = some (.lst vs) ∧ vs.length = 4 ∧ DaAll K (off D H') vs [.tuple [.str "BadSquares", .str "one"], .tuple [.str "BadSquares", .str "other"], .tuple [.str "BadSquares", .str "burnt"], .tuple [.str "Misfit", .str "one"]] ∧ LamX.Tabs [(p, q)] H', ?_, ?_⟩
    · walk_at "rd"
      refine ⟨.inl ⟨rfl, _, SqL.of hD⟩, ?_⟩
      walk_at "rd"
      intro H5 eN T5 E5 N5 hE hN
      have w5 := ex_extN w4 eN
      have h5 : H5 D = some (.lst vs) := eN _ _ hD fun ps z => nomatch z
      have d5 := DaAll.mono (extN_off eN) _ (DaAll.noT _ dD)
      walk_at "rd"
      refine misfit_heard (Da.mono w5 _ dL3) (Da.mono w5 _ dL3) (Da.mono w5 _ dL3) sL sL sL o4 hE (fun a H6 e6 na ha => ?_)
      have naD : a ≠ D := by rintro rfl; rw [h5] at na; cases na
      have h6 := e6 _ _ h5
      refine ⟨D, vs, _, rfl, rfl, h6, by rw [small]; omega, ?_⟩
      exact ⟨vs ++ [.ref a], rfl, Evl.Ex.mut (w5.trans e6) nD, upd_same, by rw [List.length_append, lv]; rfl, DaAll.app (DaAll.mono off1_upd _ (DaAll.mono (off1_ex e6) _ d5)) (.cons (.tup (SqT.of (off_at naD ((upd_ne naD).trans ha))) (.cons (.str _) (.cons (.str _) .nil))) .nil), K05.Tabs.go (LamX.Tabs.ext T5 e6) h6 Go.upd⟩
    clear lv dD T4 hD w4
    rintro σ' H4 ⟨vs, rfl, w4, hD, lv, dD, T4⟩
    refine ⟨fun σ' H' => ∃ vs, σ' = [some (.ref j), some (.ref g), some v, some (.ref L), some (.ref D), none] ∧ Ex (noT H3) H' ∧ H' D = some (.lst vs) ∧ vs.length = 5 ∧ DaAll K (off D H') vs [.tuple [.str "BadSquares", .str "one"], .tuple [.str "BadSquares", .str "other"], .tuple [.str "BadSquares", .str "burnt"], .tuple [.str "Misfit", .str "one"], .tuple [.str "Misfit", .str "other"]] ∧ LamX.Tabs [(p, q)] H', ?_, ?_⟩
    · walk_at "rd"
      refine ⟨.inl ⟨rfl, _, SqL.of hD⟩, ?_⟩
      walk_at "rd"
      intro H5 eN T5 E5 N5 hE hN
      have w5 := ex_extN w4 eN
      have h5 : H5 D = some (.lst vs) := eN _ _ hD fun ps z => nomatch z
      have d5 := DaAll.mono (extN_off eN) _ (DaAll.noT _ dD)
      walk_at "rd"
      refine misfit_heard (Da.mono w5 _ dG3) (Da.mono w5 _ dL3) (Da.mono w5 _ dL3) sG sL sL o5 hE (fun a H6 e6 na ha => ?_)
      have naD : a ≠ D := by rintro rfl; rw [h5] at na; cases na
      have h6 := e6 _ _ h5
      refine ⟨D, vs, _, rfl, rfl, h6, by rw [small]; omega, ?_⟩
      exact ⟨vs ++ [.ref a], rfl, Evl.Ex.mut (w5.trans e6) nD, upd_same, by rw [List.length_append, lv]; rfl, DaAll.app (DaAll.mono off1_upd _ (DaAll.mono (off1_ex e6) _ d5)) (.cons (.tup (SqT.of (off_at naD ((upd_ne naD).trans ha))) (.cons (.str _) (.cons (.str _) .nil))) .nil), K05.Tabs.go (LamX.Tabs.ext T5 e6) h6 Go.upd⟩
    clear lv dD T4 hD w4
    rintro σ' H4 ⟨vs, rfl, w4, hD, lv, dD, T4⟩
    refine ⟨fun σ' H' => ∃ vs, σ' = [some (.ref j), some (.ref g), some v, some (.ref L), some (.ref D), none] ∧ Ex (noT H3) H' ∧ H' D = some (.lst vs) ∧ vs.length = 6 ∧ DaAll K (off D H') vs [.tuple [.str "BadSquares", .str "one"], .tuple [.str "BadSquares", .str "other"], .tuple [.str "BadSquares", .str "burnt"], .tuple [.str "Misfit", .str "one"], .tuple [.str "Misfit", .str "other"], .none] ∧ LamX.Tabs [(p, q)] H', ?_, ?_⟩
    · walk_at "rd"
      refine ⟨.inl ⟨rfl, _, SqL.of hD⟩, ?_⟩
      walk_at "rd"
      intro H5 eN T5 E5 N5 hE hN
      have w5 := ex_extN w4 eN
      have h5 : H5 D = some (.lst vs) := eN _ _ hD fun ps z => nomatch z
      have d5 := DaAll.mono (extN_off eN) _ (DaAll.noT _ dD)
      walk_at "rd"
      intro pe hpe
      have ee := Evl.Ex.new (o := .lst []) hpe
      have w5 := w5.trans ee
      have h5 := ee _ _ h5
      have d5 := DaAll.mono (off1_ex ee) _ d5
      have T5 := LamX.Tabs.ext T5 ee
      walk_at "rd"
      refine told_heard (Da.mono w5 _ dG3) (.lst (SqL.of upd_same) .nil) (Da.mono w5 _ dL3) sG sE sL o6 hE hN (fun H6 e6 => ?_)
      have h6 := e6 _ _ h5
      refine ⟨D, vs, _, rfl, rfl, h6, by rw [small]; omega, ?_⟩
      exact ⟨vs ++ [.non], rfl, Evl.Ex.mut (w5.trans e6) nD, upd_same, by rw [List.length_append, lv]; rfl, DaAll.app (DaAll.mono off1_upd _ (DaAll.mono (off1_ex e6) _ d5)) (.cons .non .nil), K05.Tabs.go (LamX.Tabs.ext T5 e6) h6 Go.upd⟩
    clear lv dD T4 hD w4
    rintro σ' H4 ⟨vs, rfl, w4, hD, lv, dD, T4⟩
    refine ⟨fun σ' H' => ∃ vs, σ' = [some (.ref j), some (.ref g), some v, some (.ref L), some (.ref D), none] ∧ Ex (noT H3) H' ∧ H' D = some (.lst vs) ∧ vs.length = 7 ∧ DaAll K (off D H') vs [.tuple [.str "BadSquares", .str "one"], .tuple [.str "BadSquares", .str "other"], .tuple [.str "BadSquares", .str "burnt"], .tuple [.str "Misfit", .str "one"], .tuple [.str "Misfit", .str "other"], .none, .tuple [.str "BadSquares", .str "other"]] ∧ LamX.Tabs [(p, q)] H', ?_, ?_⟩
    · walk_at "rd"
      refine ⟨.inl ⟨rfl, _, SqL.of hD⟩, ?_⟩
      walk_at "rd"
      intro H5 eN T5 E5 N5 hE hN
      have w5 := ex_extN w4 eN
      have h5 : H5 D = some (.lst vs) := eN _ _ hD fun ps z => nomatch z
      have d5 := DaAll.mono (extN_off eN) _ (DaAll.noT _ dD)
      walk_at "rd"
      refine bad_heard (Da.mono w5 _ dG3) (Da.mono w5 _ dv3) (Da.mono w5 _ dL3) sG sd sL o7 hE (fun a H6 e6 na ha => ?_)
      have naD : a ≠ D := by rintro rfl; rw [h5] at na; cases na
      have h6 := e6 _ _ h5
      refine ⟨D, vs, _, rfl, rfl, h6, by rw [small]; omega, ?_⟩
      exact ⟨vs ++ [.ref a], rfl, Evl.Ex.mut (w5.trans e6) nD, upd_same, by rw [List.length_append, lv]; rfl, DaAll.app (DaAll.mono off1_upd _ (DaAll.mono (off1_ex e6) _ d5)) (.cons (.tup (SqT.of (off_at naD ((upd_ne naD).trans ha))) (.cons (.str _) (.cons (.str _) .nil))) .nil), K05.Tabs.go (LamX.Tabs.ext T5 e6) h6 Go.upd⟩
    clear lv dD T4 hD w4
    rintro σ' H4 ⟨vs, rfl, w4, hD, lv, dD, T4⟩
    walk_at "rd"
    intro p1 hp1'
    have x1 := Evl.Ex.new (o := .tup [.str "BadSquares", .str "one"]) hp1'
    have y1 : upd H4 p1 (.tup [.str "BadSquares", .str "one"]) p1 = some (.tup [.str "BadSquares", .str "one"]) := upd_same
    generalize upd H4 p1 (.tup [.str "BadSquares", .str "one"]) = G1 at x1 y1 ⊢
    walk_at "rd"
    intro p2 hp2'
    have x2 := Evl.Ex.new (o := .tup [.str "BadSquares", .str "other"]) hp2'
    have y2 : upd G1 p2 (.tup [.str "BadSquares", .str "other"]) p2 = some (.tup [.str "BadSquares", .str "other"]) := upd_same
    generalize upd G1 p2 (.tup [.str "BadSquares", .str "other"]) = G2 at x2 y2 ⊢
    walk_at "rd"
    intro p3 hp3'
    have x3 := Evl.Ex.new (o := .tup [.str "BadSquares", .str "burnt"]) hp3'
    have y3 : upd G2 p3 (.tup [.str "BadSquares", .str "burnt"]) p3 = some (.tup [.str "BadSquares", .str "burnt"]) := upd_same
    generalize upd G2 p3 (.tup [.str "BadSquares", .str "burnt"]) = G3 at x3 y3 ⊢
    walk_at "rd"
    intro p4 hp4'
    have x4 := Evl.Ex.new (o := .tup [.str "Misfit", .str "one"]) hp4'
    have y4 : upd G3 p4 (.tup [.str "Misfit", .str "one"]) p4 = some (.tup [.str "Misfit", .str "one"]) := upd_same
    generalize upd G3 p4 (.tup [.str "Misfit", .str "one"]) = G4 at x4 y4 ⊢
    walk_at "rd"
    intro p5 hp5'
    have x5 := Evl.Ex.new (o := .tup [.str "Misfit", .str "other"]) hp5'
    have y5 : upd G4 p5 (.tup [.str "Misfit", .str "other"]) p5 = some (.tup [.str "Misfit", .str "other"]) := upd_same
    generalize upd G4 p5 (.tup [.str "Misfit", .str "other"]) = G5 at x5 y5 ⊢
    walk_at "rd"
    intro p6 hp6'
    have x6 := Evl.Ex.new (o := .lst [.ref p1, .ref p2, .ref p3, .ref p4, .ref p5]) hp6'
    have y6 : upd G5 p6 (.lst [.ref p1, .ref p2, .ref p3, .ref p4, .ref p5]) p6 = some (.lst [.ref p1, .ref p2, .ref p3, .ref p4, .ref p5]) := upd_same
    generalize upd G5 p6 (.lst [.ref p1, .ref p2, .ref p3, .ref p4, .ref p5]) = G6 at x6 y6 ⊢
    walk_at "rd"
    intro p7 hp7'
    have x7 := Evl.Ex.new (o := .tup [.str "BadSquares", .str "other"]) hp7'
    have y7 : upd G6 p7 (.tup [.str "BadSquares", .str "other"]) p7 = some (.tup [.str "BadSquares", .str "other"]) := upd_same
    generalize upd G6 p7 (.tup [.str "BadSquares", .str "other"]) = G7 at x7 y7 ⊢
    walk_at "rd"
    intro p8 hp8'
    have x8 := Evl.Ex.new (o := .lst [.non, .ref p7]) hp8'
    have y8 : upd G7 p8 (.lst [.non, .ref p7]) p8 = some (.lst [.non, .ref p7]) := upd_same
    generalize upd G7 p8 (.lst [.non, .ref p7]) = G8 at x8 y8 ⊢
    refine ⟨p6, p8, [.ref p1, .ref p2, .ref p3, .ref p4, .ref p5], [.non, .ref p7], rfl, rfl, (x8 _ _ (x7 _ _ y6)), y8, by rw [small]; simp, fun p9 hp9' => ?_⟩
    have x9 := Evl.Ex.new (o := .lst ([.ref p1, .ref p2, .ref p3, .ref p4, .ref p5] ++ [.non, .ref p7])) hp9'
    have y9 : upd G8 p9 (.lst ([.ref p1, .ref p2, .ref p3, .ref p4, .ref p5] ++ [.non, .ref p7])) p9 = some (.lst [.ref p1, .ref p2, .ref p3, .ref p4, .ref p5, .non, .ref p7]) := upd_same
    generalize upd G8 p9 (.lst ([.ref p1, .ref p2, .ref p3, .ref p4, .ref p5] ++ [.non, .ref p7])) = G9 at x9 y9 ⊢
    have tot := ((((((((x1.trans x2).trans x3).trans x4).trans x5).trans x6).trans x7).trans x8).trans x9)
    have dL9 : DaAll K G9 vs [.tuple [.str "BadSquares", .str "one"], .tuple [.str "BadSquares", .str "other"], .tuple [.str "BadSquares", .str "burnt"], .tuple [.str "Misfit", .str "one"], .tuple [.str "Misfit", .str "other"], .none, .tuple [.str "BadSquares", .str "other"]] := DaAll.mono tot _ (DaAll.mono (off1_sub D H4) _ dD)
    have dR9 : DaAll K G9 [.ref p1, .ref p2, .ref p3, .ref p4, .ref p5, .non, .ref p7] [.tuple [.str "BadSquares", .str "one"], .tuple [.str "BadSquares", .str "other"], .tuple [.str "BadSquares", .str "burnt"], .tuple [.str "Misfit", .str "one"], .tuple [.str "Misfit", .str "other"], .none, .tuple [.str "BadSquares", .str "other"]] := (.cons (.tup (SqT.of (x9 _ _ (x8 _ _ (x7 _ _ (x6 _ _ (x5 _ _ (x4 _ _ (x3 _ _ (x2 _ _ y1))))))))) (.cons (.str _) (.cons (.str _) .nil))) (.cons (.tup (SqT.of (x9 _ _ (x8 _ _ (x7 _ _ (x6 _ _ (x5 _ _ (x4 _ _ (x3 _ _ y2)))))))) (.cons (.str _) (.cons (.str _) .nil))) (.cons (.tup (SqT.of (x9 _ _ (x8 _ _ (x7 _ _ (x6 _ _ (x5 _ _ (x4 _ _ y3))))))) (.cons (.str _) (.cons (.str _) .nil))) (.cons (.tup (SqT.of (x9 _ _ (x8 _ _ (x7 _ _ (x6 _ _ (x5 _ _ y4)))))) (.cons (.str _) (.cons (.str _) .nil))) (.cons (.tup (SqT.of (x9 _ _ (x8 _ _ (x7 _ _ (x6 _ _ y5))))) (.cons (.str _) (.cons (.str _) .nil))) (.cons .non (.cons (.tup (SqT.of (x9 _ _ (x8 _ _ y7))) (.cons (.str _) (.cons (.str _) .nil))) .nil)))))))
    refine ⟨.list [.tuple [.str "BadSquares", .str "one"], .tuple [.str "BadSquares", .str "other"], .tuple [.str "BadSquares", .str "burnt"], .tuple [.str "Misfit", .str "one"], .tuple [.str "Misfit", .str "other"], .none, .tuple [.str "BadSquares", .str "other"]], .list [.tuple [.str "BadSquares", .str "one"], .tuple [.str "BadSquares", .str "other"], .tuple [.str "BadSquares", .str "burnt"], .tuple [.str "Misfit", .str "one"], .tuple [.str "Misfit", .str "other"], .none, .tuple [.str "BadSquares", .str "other"]], .lst (SqL.of (tot _ _ hD)) (DaAll.dp _ (by decide +kernel) dL9), .lst (SqL.of y9) (DaAll.dp _ (by decide +kernel) dR9), by decide +kernel, by decide +kernel, ?_⟩
    rw [show PyData.eqv (.list [.tuple [.str "BadSquares", .str "one"], .tuple [.str "BadSquares", .str "other"], .tuple [.str "BadSquares", .str "burnt"], .tuple [.str "Misfit", .str "one"], .tuple [.str "Misfit", .str "other"], .none, .tuple [.str "BadSquares", .str "other"]]) (.list [.tuple [.str "BadSquares", .str "one"], .tuple [.str "BadSquares", .str "other"], .tuple [.str "BadSquares", .str "burnt"], .tuple [.str "Misfit", .str "one"], .tuple [.str "Misfit", .str "other"], .none, .tuple [.str "BadSquares", .str "other"]]) = true by decide +kernel]
    exact k _
end
end K05
namespace K05
open PySem PySem.Spec PyProof.Rows L2 Kg LamX
open Evl (Ex)


section
variable {K : PySem.W.Frag} {cB cM : Addr} {v1 v2 v3 : V} {d1 d2 d3 : PyData} {H : Hp} {Q : VK} {E : XK}
theorem told_of {b : Bool} (o : better d1 d2 d3 = .told b) (c : ∀ (H2 : Hp), Q (.bl b) H2) : ∀ b', better d1 d2 d3 = .told b' → ∀ H', Ex H H' → Q (.bl b') H' := by
  intro b' hb H' _
  rw [o] at hb
  cases hb
  exact c H'
theorem no_bad {b : Bool} (o : better d1 d2 d3 = .told b) {R : Str → Prop} : ∀ p, better d1 d2 d3 = .bad p → R p := fun p hp => by rw [o] at hp; cases hp
theorem no_misfit {b : Bool} (o : better d1 d2 d3 = .told b) {R : Str → Prop} : ∀ p, better d1 d2 d3 = .misfit p → R p := fun p hp => by rw [o] at hp; cases hp
end
theorem one_are : areSq (.list [pairT (0, 7)]) = true ∧ sqs (.list [pairT (0, 7)]) = [(0, 7)] := are_pairs (f := pairT) (fun _ => rfl) (zs := [(0, 7)]) (by simp) rfl
theorem no_are : areSq (.list []) = true ∧ sqs (.list []) = [] := are_pairs (f := pairT) (fun _ => rfl) (zs := []) (by simp) rfl
theorem first_told : better (.list [pairT (0, 7)]) (.list []) (.list [pairT (0, 7)]) = .told true := by
  rw [better_told one_are no_are one_are (by simp) (by simp)]
  exact congrArg Out.told (by decide +kernel)
theorem second_told : better (.list []) (.list [pairT (0, 7)]) (.list []) = .told true := by
  rw [better_told no_are one_are no_are (by simp) (by simp)]
  exact congrArg Out.told (by decide +kernel)
theorem third_told : better (.list []) (.list []) (.list []) = .told false := by
  rw [better_told no_are no_are no_are (by simp) (by simp)]
  exact congrArg Out.told (by decide +kernel)
theorem short_one : Short (.list [pairT (0, 7)]) := by intro ds h; cases h; decide
theorem short_no : Short (.list []) := by intro ds h; cases h; decide
section
variable {P : Program} {w : World} {K : PySem.W.Frag} {mg : Str → Option Value} {base : Heap}
def spLaw (K : PySem.W.Frag) (cs : List (Addr × Addr)) : Sp := fun vs H Q _ => ∃ (a : Addr) (ns : List Int), vs = [.ref a] ∧ ns.length ≤ 63 ∧ OffK K ∧ EntryT K cs H a ns ∧ ∀ H', Q (.bl true) H'
theorem ok_law (T : Txt K mg) {c p : Addr} (hcode : T.d_w_refused_right.code = .ref c) (TB : LamX.TabB base mg c p) : FnG P w K mg base CX0 9 T.f_law T.d_law ["script"] (spLaw K [(c, p)]) := by
  have G_w_reel : FnOk P w K mg base CX0 8 T.f_w_reel T.d_w_reel ["script"] (spUrn K) := (ok_urn T).mono (by decide)
  have G_w_pair_right : FnG P w K mg base CX0 8 T.f_w_pair_right T.d_w_pair_right ["reel"] (spPairR K) := (ok_w_pair_right T).mono (by decide)
  have G_w_refused_right : FnG P w K mg base CX0 8 T.f_w_refused_right T.d_w_refused_right ["reel"] (spRefR K p) := ok_w_refused_right T hcode TB
  have G_is_better : FnOk P w K mg base (L2.CX P w) 8 T.f_is_better T.d_is_better ["one", "other", "burnt"] (spBetter K T.c_BadSquares T.c_Misfit) := (ok_is_better T).mono (by decide)
  refine okG T.F_law sc_law (k := 8) (fun vs H Q E h => ?_) (fun cdv A outer s H vs Q E hr gd h => ?_)
  · obtain ⟨a, ns, rfl, _⟩ := h
    rfl
  · obtain ⟨a, ns, rfl, hl, off0, en, k⟩ := h
    have hr1 := hr
    have small : sizeLine = 16777216 := sizeLine_eq
    refine ⟨_, (pss_cons (ps_set (i := 1) sc_law.nd rfl (Or.inl rfl) (pe_call G_w_reel hr1 rfl T.g_w_reel T.F_w_reel.kp (b_w_reel T) .nil pass0 (pa_cons (pv 0) pa_nil)))
  (pss_cons (ps_for PassesOwn.never rfl (pi_range1 (by rfl) T.z_range (pa_cons pe_int pa_nil)) (pg_name (i := 2) sc_law.nd rfl (Or.inl rfl))
  (pss_one (ps_if (pt_not (pt_val (pe_callG G_w_pair_right hr1 gd rfl T.g_w_pair_right T.F_w_pair_right.kp (b_w_pair_right T) .nil pass0 (pa_cons (pv 1) pa_nil)))) (pss_one (ps_ret pe_bl)) pss_nil)))
  (pss_cons (ps_if (pt_not (pt_val (pe_callG G_w_refused_right hr1 gd rfl T.g_w_refused_right T.F_w_refused_right.kp (b_w_refused_right T) .nil pass0 (pa_cons (pv 1) pa_nil)))) (pss_one (ps_ret pe_bl)) pss_nil)
  (pss_one (ps_ret (pe_and (pe_cmpR op_isBl (pe_call G_is_better hr1 rfl T.g_is_better T.F_is_better.kp (b_is_better T) .nil (passes_call LamX.takes0 (fun _ _ _ _ h => h)) (pa_cons (pe_lst (pa_cons (pe_tup (pa_cons pe_int (pa_cons pe_int pa_nil))) pa_nil)) (pa_cons (pe_lst pa_nil) (pa_cons (pe_lst (pa_cons (pe_tup (pa_cons pe_int (pa_cons pe_int pa_nil))) pa_nil)) pa_nil)))) pe_bl (nomark _)) (pe_and (pe_cmpR op_isBl (pe_call G_is_better hr1 rfl T.g_is_better T.F_is_better.kp (b_is_better T) .nil (passes_call LamX.takes0 (fun _ _ _ _ h => h)) (pa_cons (pe_lst pa_nil) (pa_cons (pe_lst (pa_cons (pe_tup (pa_cons pe_int (pa_cons pe_int pa_nil))) pa_nil)) (pa_cons (pe_lst pa_nil) pa_nil)))) pe_bl (nomark _)) (pe_one (pe_cmpR op_isBl (pe_call G_is_better hr1 rfl T.g_is_better T.F_is_better.kp (b_is_better T) .nil (passes_call LamX.takes0 (fun _ _ _ _ h => h)) (pa_cons (pe_lst pa_nil) (pa_cons (pe_lst pa_nil) (pa_cons (pe_lst pa_nil) pa_nil)))) pe_bl (nomark _)))))))))), ?_⟩
    walk_at "rd"
    refine ⟨a, ns, rfl, en.script, hl, fun j B0 H1 hj e1 eB u => ?_⟩
    have u := u.noT
    have hp1 : H1 p = some (.tbl #[]) := e1 _ _ (en.tabs (c, p) (List.mem_singleton.mpr rfl))
    have nsys : sysModules ≠ j := fun e => by
      obtain ⟨o, φ, h⟩ := en.sys
      rw [e, hj] at h; cases h
    have npj : p ≠ j := fun e => by
      have h := en.tabs (c, p) (List.mem_singleton.mpr rfl)
      rw [show (c, p).2 = p from rfl, e, hj] at h; cases h
    have sys1 : Sys H1 := en.sys.mono e1
    walk_at "rd"
    refine (for_range (n := 4) (lo := 0) (fun i σ H' => Go j H1 H' ∧ Urn K (noT B0) j (1000 - 200 * i) H' ∧ ∃ x2, σ = [some (.ref a), some (.ref j), x2])
      ⟨Go.refl j _, u.less (by decide), _, rfl⟩ ?_ ?_)
    · rintro i σ H2 hi ⟨g2, u2, x2, rfl⟩
      have sys2 : Sys H2 := by
        obtain ⟨o, φ, h⟩ := sys1
        exact ⟨o, φ, g2 _ _ nsys h⟩
      walk_at "rd"
      refine ⟨j, noT B0, 1000 - 200 * (i + 1), rfl, off0, u2.less (by omega), sys2, nsys, fun H3 g3 u3 => ⟨_, rfl, ?_⟩⟩
      refine ifB (fun c => absurd c (by decide)) (fun c => ?_)
      exact ⟨g2.trans g3, u3, _, rfl⟩
    · rintro σ H2 ⟨g2, u2, x2, rfl⟩
      walk_at "rd"
      refine ⟨g2 p _ npj hp1, fun H3 => ?_⟩
      refine ⟨_, rfl, ?_⟩
      refine ifB (fun c => absurd c (by decide)) (fun c => ?_)
      walk_at "rd"
      intro t1 ht1
      have xt1 := Evl.Ex.new (o := .tup [.int 0, .int 7]) ht1
      have yt1 : upd H3 t1 (.tup [.int 0, .int 7]) t1 = some (.tup [.int 0, .int 7]) := upd_same
      generalize upd H3 t1 (.tup [.int 0, .int 7]) = Gt1 at xt1 yt1 ⊢
      walk_at "rd"
      intro l1 hl1
      have xl1 := Evl.Ex.new (o := .lst [.ref t1]) hl1
      have yl1 : upd Gt1 l1 (.lst [.ref t1]) l1 = some (.lst [.ref t1]) := upd_same
      generalize upd Gt1 l1 (.lst [.ref t1]) = Gl1 at xl1 yl1 ⊢
      walk_at "rd"
      intro l2 hl2
      have xl2 := Evl.Ex.new (o := .lst []) hl2
      have yl2 : upd Gl1 l2 (.lst []) l2 = some (.lst []) := upd_same
      generalize upd Gl1 l2 (.lst []) = Gl2 at xl2 yl2 ⊢
      walk_at "rd"
      intro t3 ht3
      have xt3 := Evl.Ex.new (o := .tup [.int 0, .int 7]) ht3
      have yt3 : upd Gl2 t3 (.tup [.int 0, .int 7]) t3 = some (.tup [.int 0, .int 7]) := upd_same
      generalize upd Gl2 t3 (.tup [.int 0, .int 7]) = Gt3 at xt3 yt3 ⊢
      walk_at "rd"
      intro l3 hl3
      have xl3 := Evl.Ex.new (o := .lst [.ref t3]) hl3
      have yl3 : upd Gt3 l3 (.lst [.ref t3]) l3 = some (.lst [.ref t3]) := upd_same
      generalize upd Gt3 l3 (.lst [.ref t3]) = Gl3 at xl3 yl3 ⊢
      walk_at "rd"
      refine ⟨_, _, _, _, _, _, rfl, (.lst (SqL.of (xl3 _ _ (xt3 _ _ (xl2 _ _ yl1)))) (.cons (.tup (SqT.of (xl3 _ _ (xt3 _ _ (xl2 _ _ (xl1 _ _ yt1))))) (.cons (.int _) (.cons (.int _) .nil))) .nil)), (.lst (SqL.of (xl3 _ _ (xt3 _ _ yl2))) .nil), (.lst (SqL.of yl3) (.cons (.tup (SqT.of (xl3 _ _ yt3)) (.cons (.int _) (.cons (.int _) .nil))) .nil)), short_one, short_no, short_one, (fun b' hb H4 _ => ?_), (fun p hp => nomatch (first_told).symm.trans hp), (fun p hp => nomatch (first_told).symm.trans hp)⟩
      cases (first_told).symm.trans hb
      refine ⟨_, _, rfl, rfl, ?_⟩
      refine ⟨_, rfl, ?_⟩
      refine ifB (fun c => ?_) (fun c => absurd c (by decide))
      walk_at "rd"
      intro l4 hl4
      have xl4 := Evl.Ex.new (o := .lst []) hl4
      have yl4 : upd H4 l4 (.lst []) l4 = some (.lst []) := upd_same
      generalize upd H4 l4 (.lst []) = Gl4 at xl4 yl4 ⊢
      walk_at "rd"
      intro t5 ht5
      have xt5 := Evl.Ex.new (o := .tup [.int 0, .int 7]) ht5
      have yt5 : upd Gl4 t5 (.tup [.int 0, .int 7]) t5 = some (.tup [.int 0, .int 7]) := upd_same
      generalize upd Gl4 t5 (.tup [.int 0, .int 7]) = Gt5 at xt5 yt5 ⊢
      walk_at "rd"
      intro l5 hl5
      have xl5 := Evl.Ex.new (o := .lst [.ref t5]) hl5
      have yl5 : upd Gt5 l5 (.lst [.ref t5]) l5 = some (.lst [.ref t5]) := upd_same
      generalize upd Gt5 l5 (.lst [.ref t5]) = Gl5 at xl5 yl5 ⊢
      walk_at "rd"
      intro l6 hl6
      have xl6 := Evl.Ex.new (o := .lst []) hl6
      have yl6 : upd Gl5 l6 (.lst []) l6 = some (.lst []) := upd_same
      generalize upd Gl5 l6 (.lst []) = Gl6 at xl6 yl6 ⊢
      walk_at "rd"
      refine ⟨_, _, _, _, _, _, rfl, (.lst (SqL.of (xl6 _ _ (xl5 _ _ (xt5 _ _ yl4)))) .nil), (.lst (SqL.of (xl6 _ _ yl5)) (.cons (.tup (SqT.of (xl6 _ _ (xl5 _ _ yt5))) (.cons (.int _) (.cons (.int _) .nil))) .nil)), (.lst (SqL.of yl6) .nil), short_no, short_one, short_no, (fun b' hb H5 _ => ?_), (fun p hp => nomatch (second_told).symm.trans hp), (fun p hp => nomatch (second_told).symm.trans hp)⟩
      cases (second_told).symm.trans hb
      refine ⟨_, _, rfl, rfl, ?_⟩
      refine ⟨_, rfl, ?_⟩
      refine ifB (fun c => ?_) (fun c => absurd c (by decide))
      walk_at "rd"
      intro l7 hl7
      have xl7 := Evl.Ex.new (o := .lst []) hl7
      have yl7 : upd H5 l7 (.lst []) l7 = some (.lst []) := upd_same
      generalize upd H5 l7 (.lst []) = Gl7 at xl7 yl7 ⊢
      walk_at "rd"
      intro l8 hl8
      have xl8 := Evl.Ex.new (o := .lst []) hl8
      have yl8 : upd Gl7 l8 (.lst []) l8 = some (.lst []) := upd_same
      generalize upd Gl7 l8 (.lst []) = Gl8 at xl8 yl8 ⊢
      walk_at "rd"
      intro l9 hl9
      have xl9 := Evl.Ex.new (o := .lst []) hl9
      have yl9 : upd Gl8 l9 (.lst []) l9 = some (.lst []) := upd_same
      generalize upd Gl8 l9 (.lst []) = Gl9 at xl9 yl9 ⊢
      walk_at "rd"
      refine ⟨_, _, _, _, _, _, rfl, (.lst (SqL.of (xl9 _ _ (xl8 _ _ yl7))) .nil), (.lst (SqL.of (xl9 _ _ yl8)) .nil), (.lst (SqL.of yl9) .nil), short_no, short_no, short_no, (fun b' hb H6 _ => ?_), (fun p hp => nomatch (third_told).symm.trans hp), (fun p hp => nomatch (third_told).symm.trans hp)⟩
      cases (third_told).symm.trans hb
      exact ⟨_, _, rfl, rfl, k H6⟩
end
end K05
namespace K05
open PySem PySem.Spec PyProof.Rows L2 Kg
theorem all_mk {l : PySem.W.OpenLaw} {w : World} {K : PySem.W.Frag} {h : Heap} {mg : Str → Option Value} {fa : Addr} {q : Program} {dr : DefRec} (hrec : (recsOf q).find? (fun e : DefRec => e.name == ("_law_refused_right" : Str)) = some dr) (X : K.In h) (G : h.Ns mainGlobals mg) (hfa : mg "law" = some (.ref fa))
    {c_BadSquares : Addr}
    {c_Misfit : Addr}
    {c_FlightError : Addr}
    {nm_BadSquares q_BadSquares : Str} {N_BadSquares : Addr} {bs_BadSquares : List Value} {sn_BadSquares : List Str} {sub_BadSquares : List Value} {ab_BadSquares : Bool} {col_BadSquares : Option Bool} {dd_BadSquares : Option Addr} {k0_BadSquares k1_BadSquares k2_BadSquares k3_BadSquares k5_BadSquares : Option Value}
    {nm_Misfit q_Misfit : Str} {N_Misfit : Addr} {bs_Misfit : List Value} {sn_Misfit : List Str} {sub_Misfit : List Value} {ab_Misfit : Bool} {col_Misfit : Option Bool} {dd_Misfit : Option Addr} {k0_Misfit k1_Misfit k2_Misfit k3_Misfit k5_Misfit : Option Value}
    {f0 : Addr} {od0 an0 : Option Addr} {sl0 : Array (Option Value)} {oc0 kV0 dc0 pm0 cd0 ct0 : Value}
    {f1 : Addr} {od1 an1 : Option Addr} {sl1 : Array (Option Value)} {oc1 kV1 dc1 pm1 cd1 ct1 : Value}
    {f2 : Addr} {od2 an2 : Option Addr} {sl2 : Array (Option Value)} {oc2 kV2 dc2 pm2 cd2 ct2 : Value}
    {f3 : Addr} {od3 an3 : Option Addr} {sl3 : Array (Option Value)} {oc3 kV3 dc3 pm3 cd3 ct3 : Value}
    {f4 : Addr} {od4 an4 : Option Addr} {sl4 : Array (Option Value)} {oc4 kV4 dc4 pm4 cd4 ct4 : Value}
    {f5 : Addr} {od5 an5 : Option Addr} {sl5 : Array (Option Value)} {oc5 kV5 dc5 pm5 cd5 ct5 : Value}
    {f6 : Addr} {od6 an6 : Option Addr} {sl6 : Array (Option Value)} {oc6 kV6 dc6 pm6 cd6 ct6 : Value}
    {f7 : Addr} {od7 an7 : Option Addr} {sl7 : Array (Option Value)} {oc7 kV7 dc7 pm7 cd7 ct7 : Value}
    {f8 : Addr} {od8 an8 : Option Addr} {sl8 : Array (Option Value)} {oc8 kV8 dc8 pm8 cd8 ct8 : Value}
    {f9 : Addr} {od9 an9 : Option Addr} {sl9 : Array (Option Value)} {oc9 kV9 dc9 pm9 cd9 ct9 : Value}
    {f10 : Addr} {od10 an10 : Option Addr} {sl10 : Array (Option Value)} {oc10 kV10 dc10 pm10 cd10 ct10 : Value}
    {f11 : Addr} {od11 an11 : Option Addr} {sl11 : Array (Option Value)} {oc11 kV11 dc11 pm11 cd11 ct11 : Value}
    {f12 : Addr} {od12 an12 : Option Addr} {sl12 : Array (Option Value)} {oc12 kV12 dc12 pm12 cd12 ct12 : Value}
    {f13 : Addr} {od13 an13 : Option Addr} {sl13 : Array (Option Value)} {oc13 kV13 dc13 pm13 cd13 ct13 : Value}
    {f14 : Addr} {od14 an14 : Option Addr} {sl14 : Array (Option Value)} {oc14 kV14 dc14 pm14 cd14 ct14 : Value}
    {f15 : Addr} {od15 an15 : Option Addr} {sl15 : Array (Option Value)} {oc15 kV15 dc15 pm15 cd15 ct15 : Value}
    {f16 : Addr} {od16 an16 : Option Addr} {sl16 : Array (Option Value)} {oc16 kV16 dc16 pm16 cd16 ct16 : Value}
    {f17 : Addr} {od17 an17 : Option Addr} {sl17 : Array (Option Value)} {oc17 kV17 dc17 pm17 cd17 ct17 : Value}
    {f18 : Addr} {od18 an18 : Option Addr} {sl18 : Array (Option Value)} {oc18 kV18 dc18 pm18 cd18 ct18 : Value}
    {f19 : Addr} {od19 an19 : Option Addr} {sl19 : Array (Option Value)} {oc19 kV19 dc19 pm19 cd19 ct19 : Value}
    {f20 : Addr} {od20 an20 : Option Addr} {sl20 : Array (Option Value)} {oc20 kV20 dc20 pm20 cd20 ct20 : Value}
    {f21 : Addr} {od21 an21 : Option Addr} {sl21 : Array (Option Value)} {oc21 kV21 dc21 pm21 cd21 ct21 : Value}
    {f22 : Addr} {od22 an22 : Option Addr} {sl22 : Array (Option Value)} {oc22 kV22 dc22 pm22 cd22 ct22 : Value}
    {f23 : Addr} {od23 an23 : Option Addr} {sl23 : Array (Option Value)} {oc23 kV23 dc23 pm23 cd23 ct23 : Value}
    {cT_w_refused_right PT_w_refused_right : Addr} {oT_w_refused_right : Value} {dT_w_refused_right : Option Addr} {vT_w_refused_right : Array Value} {sT_w_refused_right : Array (Option Value)}
    (a2 : PySem.W.nsIn K mainGlobals "is_integer" = some (some (.ref f2)))
    (l2 : K.lookup f2 = some ⟨oc2, od2, .func (PySem.W.fnOf "is_integer" "is_integer" (defArgs s_is_integer) (defBody s_is_integer) (defScope s_is_integer) .none kV2 dc2 pm2 an2 cd2 ct2), sl2⟩)
    (c2 : PySem.W.codeIn K cd2 "is_integer" = true)
    (k2 : PySem.W.keepIn K (.ref f2) = true)
    (a3 : PySem.W.nsIn K mainGlobals "is_square" = some (some (.ref f3)))
    (l3 : K.lookup f3 = some ⟨oc3, od3, .func (PySem.W.fnOf "is_square" "is_square" (defArgs s_is_square) (defBody s_is_square) (defScope s_is_square) .none kV3 dc3 pm3 an3 cd3 ct3), sl3⟩)
    (c3 : PySem.W.codeIn K cd3 "is_square" = true)
    (k3 : PySem.W.keepIn K (.ref f3) = true)
    (a4 : PySem.W.nsIn K mainGlobals "are_squares" = some (some (.ref f4)))
    (l4 : K.lookup f4 = some ⟨oc4, od4, .func (PySem.W.fnOf "are_squares" "are_squares" (defArgs s_are_squares) (defBody s_are_squares) (defScope s_are_squares) .none kV4 dc4 pm4 an4 cd4 ct4), sl4⟩)
    (c4 : PySem.W.codeIn K cd4 "are_squares" = true)
    (k4 : PySem.W.keepIn K (.ref f4) = true)
    (a5 : PySem.W.nsIn K mainGlobals "taken_squares" = some (some (.ref f5)))
    (l5 : K.lookup f5 = some ⟨oc5, od5, .func (PySem.W.fnOf "taken_squares" "taken_squares" (defArgs s_taken_squares) (defBody s_taken_squares) (defScope s_taken_squares) .none kV5 dc5 pm5 an5 cd5 ct5), sl5⟩)
    (c5 : PySem.W.codeIn K cd5 "taken_squares" = true)
    (k5 : PySem.W.keepIn K (.ref f5) = true)
    (a6 : PySem.W.nsIn K mainGlobals "check_right" = some (some (.ref f6)))
    (l6 : K.lookup f6 = some ⟨oc6, od6, .func (PySem.W.fnOf "check_right" "check_right" (defArgs s_check_right) (defBody s_check_right) (defScope s_check_right) .none kV6 dc6 pm6 an6 cd6 ct6), sl6⟩)
    (c6 : PySem.W.codeIn K cd6 "check_right" = true)
    (k6 : PySem.W.keepIn K (.ref f6) = true)
    (a7 : PySem.W.nsIn K mainGlobals "is_better" = some (some (.ref f7)))
    (l7 : K.lookup f7 = some ⟨oc7, od7, .func (PySem.W.fnOf "is_better" "is_better" (defArgs s_is_better) (defBody s_is_better) (defScope s_is_better) .none kV7 dc7 pm7 an7 cd7 ct7), sl7⟩)
    (c7 : PySem.W.codeIn K cd7 "is_better" = true)
    (k7 : PySem.W.keepIn K (.ref f7) = true)
    (a8 : PySem.W.nsIn K mainGlobals "both" = some (some (.ref f8)))
    (l8 : K.lookup f8 = some ⟨oc8, od8, .func (PySem.W.fnOf "both" "both" (defArgs s_both) (defBody s_both) (defScope s_both) .none kV8 dc8 pm8 an8 cd8 ct8), sl8⟩)
    (c8 : PySem.W.codeIn K cd8 "both" = true)
    (k8 : PySem.W.keepIn K (.ref f8) = true)
    (a9 : PySem.W.nsIn K mainGlobals "edge_of" = some (some (.ref f9)))
    (l9 : K.lookup f9 = some ⟨oc9, od9, .func (PySem.W.fnOf "edge_of" "edge_of" (defArgs s_edge_of) (defBody s_edge_of) (defScope s_edge_of) .none kV9 dc9 pm9 an9 cd9 ct9), sl9⟩)
    (c9 : PySem.W.codeIn K cd9 "edge_of" = true)
    (k9 : PySem.W.keepIn K (.ref f9) = true)
    (a10 : PySem.W.nsIn K mainGlobals "rank_of" = some (some (.ref f10)))
    (l10 : K.lookup f10 = some ⟨oc10, od10, .func (PySem.W.fnOf "rank_of" "rank_of" (defArgs s_rank_of) (defBody s_rank_of) (defScope s_rank_of) .none kV10 dc10 pm10 an10 cd10 ct10), sl10⟩)
    (c10 : PySem.W.codeIn K cd10 "rank_of" = true)
    (k10 : PySem.W.keepIn K (.ref f10) = true)
    (a11 : PySem.W.nsIn K mainGlobals "_law_reel" = some (some (.ref f11)))
    (l11 : K.lookup f11 = some ⟨oc11, od11, .func (PySem.W.fnOf "_law_reel" "_law_reel" (defArgs s_w_reel) (defBody s_w_reel) (defScope s_w_reel) .none kV11 dc11 pm11 an11 cd11 ct11), sl11⟩)
    (c11 : PySem.W.codeIn K cd11 "_law_reel" = true)
    (k11 : PySem.W.keepIn K (.ref f11) = true)
    (a12 : PySem.W.nsIn K mainGlobals "_law_wind" = some (some (.ref f12)))
    (l12 : K.lookup f12 = some ⟨oc12, od12, .func (PySem.W.fnOf "_law_wind" "_law_wind" (defArgs s_w_wind) (defBody s_w_wind) (defScope s_w_wind) .none kV12 dc12 pm12 an12 cd12 ct12), sl12⟩)
    (c12 : PySem.W.codeIn K cd12 "_law_wind" = true)
    (k12 : PySem.W.keepIn K (.ref f12) = true)
    (a13 : PySem.W.nsIn K mainGlobals "_law_pick" = some (some (.ref f13)))
    (l13 : K.lookup f13 = some ⟨oc13, od13, .func (PySem.W.fnOf "_law_pick" "_law_pick" (defArgs s_w_pick) (defBody s_w_pick) (defScope s_w_pick) .none kV13 dc13 pm13 an13 cd13 ct13), sl13⟩)
    (c13 : PySem.W.codeIn K cd13 "_law_pick" = true)
    (k13 : PySem.W.keepIn K (.ref f13) = true)
    (a14 : PySem.W.nsIn K mainGlobals "_law_mixed" = some (some (.ref f14)))
    (l14 : K.lookup f14 = some ⟨oc14, od14, .func (PySem.W.fnOf "_law_mixed" "_law_mixed" (defArgs s_w_mixed) (defBody s_w_mixed) (defScope s_w_mixed) .none kV14 dc14 pm14 an14 cd14 ct14), sl14⟩)
    (c14 : PySem.W.codeIn K cd14 "_law_mixed" = true)
    (k14 : PySem.W.keepIn K (.ref f14) = true)
    (a15 : PySem.W.nsIn K mainGlobals "_law_drawn" = some (some (.ref f15)))
    (l15 : K.lookup f15 = some ⟨oc15, od15, .func (PySem.W.fnOf "_law_drawn" "_law_drawn" (defArgs s_w_drawn) (defBody s_w_drawn) (defScope s_w_drawn) .none kV15 dc15 pm15 an15 cd15 ct15), sl15⟩)
    (c15 : PySem.W.codeIn K cd15 "_law_drawn" = true)
    (k15 : PySem.W.keepIn K (.ref f15) = true)
    (a16 : PySem.W.nsIn K mainGlobals "_law_other" = some (some (.ref f16)))
    (l16 : K.lookup f16 = some ⟨oc16, od16, .func (PySem.W.fnOf "_law_other" "_law_other" (defArgs s_w_other) (defBody s_w_other) (defScope s_w_other) .none kV16 dc16 pm16 an16 cd16 ct16), sl16⟩)
    (c16 : PySem.W.codeIn K cd16 "_law_other" = true)
    (k16 : PySem.W.keepIn K (.ref f16) = true)
    (a17 : PySem.W.nsIn K mainGlobals "_law_measured" = some (some (.ref f17)))
    (l17 : K.lookup f17 = some ⟨oc17, od17, .func (PySem.W.fnOf "_law_measured" "_law_measured" (defArgs s_w_measured) (defBody s_w_measured) (defScope s_w_measured) .none kV17 dc17 pm17 an17 cd17 ct17), sl17⟩)
    (c17 : PySem.W.codeIn K cd17 "_law_measured" = true)
    (k17 : PySem.W.keepIn K (.ref f17) = true)
    (a18 : PySem.W.nsIn K mainGlobals "_law_in_one" = some (some (.ref f18)))
    (l18 : K.lookup f18 = some ⟨oc18, od18, .func (PySem.W.fnOf "_law_in_one" "_law_in_one" (defArgs s_w_in_one) (defBody s_w_in_one) (defScope s_w_in_one) .none kV18 dc18 pm18 an18 cd18 ct18), sl18⟩)
    (c18 : PySem.W.codeIn K cd18 "_law_in_one" = true)
    (k18 : PySem.W.keepIn K (.ref f18) = true)
    (a19 : PySem.W.nsIn K mainGlobals "_law_is" = some (some (.ref f19)))
    (l19 : K.lookup f19 = some ⟨oc19, od19, .func (PySem.W.fnOf "_law_is" "_law_is" (defArgs s_w_is) (defBody s_w_is) (defScope s_w_is) .none kV19 dc19 pm19 an19 cd19 ct19), sl19⟩)
    (c19 : PySem.W.codeIn K cd19 "_law_is" = true)
    (k19 : PySem.W.keepIn K (.ref f19) = true)
    (a20 : PySem.W.nsIn K mainGlobals "_law_pair_right" = some (some (.ref f20)))
    (l20 : K.lookup f20 = some ⟨oc20, od20, .func (PySem.W.fnOf "_law_pair_right" "_law_pair_right" (defArgs s_w_pair_right) (defBody s_w_pair_right) (defScope s_w_pair_right) .none kV20 dc20 pm20 an20 cd20 ct20), sl20⟩)
    (c20 : PySem.W.codeIn K cd20 "_law_pair_right" = true)
    (k20 : PySem.W.keepIn K (.ref f20) = true)
    (a21 : PySem.W.nsIn K mainGlobals "_law_heard" = some (some (.ref f21)))
    (l21 : K.lookup f21 = some ⟨oc21, od21, .func (PySem.W.fnOf "_law_heard" "_law_heard" (defArgs s_w_heard) (defBody s_w_heard) (defScope s_w_heard) .none kV21 dc21 pm21 an21 cd21 ct21), sl21⟩)
    (c21 : PySem.W.codeIn K cd21 "_law_heard" = true)
    (k21 : PySem.W.keepIn K (.ref f21) = true)
    (a22 : PySem.W.nsIn K mainGlobals "_law_refused_right" = some (some (.ref f22)))
    (l22 : K.lookup f22 = some ⟨oc22, od22, .func (PySem.W.fnOf "_law_refused_right" "_law_refused_right" (defArgs s_w_refused_right) (defBody s_w_refused_right) (defScope s_w_refused_right) .none kV22 dc22 pm22 an22 cd22 ct22), sl22⟩)
    (c22 : PySem.W.codeIn K cd22 "_law_refused_right" = true)
    (k22 : PySem.W.keepIn K (.ref f22) = true)
    (a23 : PySem.W.nsIn K mainGlobals "law" = some (some (.ref f23)))
    (l23 : K.lookup f23 = some ⟨oc23, od23, .func (PySem.W.fnOf "law" "law" (defArgs s_law) (defBody s_law) (defScope s_law) .none kV23 dc23 pm23 an23 cd23 ct23), sl23⟩)
    (c23 : PySem.W.codeIn K cd23 "law" = true)
    (k23 : PySem.W.keepIn K (.ref f23) = true)
    (aC_BadSquares : PySem.W.nsIn K mainGlobals "BadSquares" = some (some (.ref c_BadSquares)))
    (isC_BadSquares : PySem.W.isClsIn K c_BadSquares = true)
    (aC_Misfit : PySem.W.nsIn K mainGlobals "Misfit" = some (some (.ref c_Misfit)))
    (isC_Misfit : PySem.W.isClsIn K c_Misfit = true)
    (aC_FlightError : PySem.W.nsIn K mainGlobals "FlightError" = some (some (.ref c_FlightError)))
    (isC_FlightError : PySem.W.isClsIn K c_FlightError = true)
    (tyC_FlightError : PySem.W.typeIn K (.ref c_FlightError) = some (.type "type"))
    (exC_FlightError : PySem.W.subIn K (.ref c_FlightError) (.type "BaseException") = some true)
    (x_BadSquares : K.lookup c_BadSquares = some (excClassObj nm_BadSquares q_BadSquares c_BadSquares N_BadSquares bs_BadSquares [.ref c_FlightError, .type "ValueError", .type "Exception", .type "BaseException", .type "object"] true sn_BadSquares sub_BadSquares ab_BadSquares col_BadSquares dd_BadSquares k0_BadSquares k1_BadSquares k2_BadSquares k3_BadSquares k5_BadSquares "ValueError.__new__"))
    (sa_BadSquares : PySem.W.findIn K (.ref c_BadSquares) "__setattr__" = some (some (.builtin "object.__setattr__")))
    (exC_BadSquares : PySem.W.subIn K (.ref c_BadSquares) (.type "BaseException") = some true)
    (tyC_BadSquares : PySem.W.typeIn K (.ref c_BadSquares) = some (.type "type"))
    (kC_BadSquares : PySem.W.keepIn K (.ref c_BadSquares) = true)
    (i_BadSquares : PySem.W.findIn K (.ref c_BadSquares) "__init__" = some (some (.ref f0)))
    (t_BadSquares : PySem.W.typeIn K (.ref f0) = some (.type "function"))
    (n_BadSquares_part : PySem.W.findIn K (.ref c_BadSquares) "part" = some none)
    (ga_BadSquares : PySem.W.findIn K (.ref c_BadSquares) "__getattribute__" = some (some (.builtin "BaseException.__getattribute__")))
    (gg_BadSquares : PySem.W.findIn K (.ref c_BadSquares) "__getattr__" = some none)
    (hd_BadSquares : PySem.W.hasDictIn K c_BadSquares = true)
    (ha_BadSquares : PySem.W.findIn K (.ref c_BadSquares) "__class__" = some (some (.builtin "object.__class__")))
    (hm_BadSquares : PySem.W.mroIn K c_BadSquares (.type "object") = some true)
    (s_BadSquares_BadSquares : PySem.W.subIn K (.ref c_BadSquares) (.ref c_BadSquares) = some true)
    (s_BadSquares_FlightError : PySem.W.subIn K (.ref c_BadSquares) (.ref c_FlightError) = some true)
    (s_BadSquares_Misfit : PySem.W.subIn K (.ref c_BadSquares) (.ref c_Misfit) = some false)
    (x_Misfit : K.lookup c_Misfit = some (excClassObj nm_Misfit q_Misfit c_Misfit N_Misfit bs_Misfit [.ref c_FlightError, .type "ValueError", .type "Exception", .type "BaseException", .type "object"] true sn_Misfit sub_Misfit ab_Misfit col_Misfit dd_Misfit k0_Misfit k1_Misfit k2_Misfit k3_Misfit k5_Misfit "ValueError.__new__"))
    (sa_Misfit : PySem.W.findIn K (.ref c_Misfit) "__setattr__" = some (some (.builtin "object.__setattr__")))
    (exC_Misfit : PySem.W.subIn K (.ref c_Misfit) (.type "BaseException") = some true)
    (tyC_Misfit : PySem.W.typeIn K (.ref c_Misfit) = some (.type "type"))
    (kC_Misfit : PySem.W.keepIn K (.ref c_Misfit) = true)
    (i_Misfit : PySem.W.findIn K (.ref c_Misfit) "__init__" = some (some (.ref f1)))
    (t_Misfit : PySem.W.typeIn K (.ref f1) = some (.type "function"))
    (n_Misfit_part : PySem.W.findIn K (.ref c_Misfit) "part" = some none)
    (ga_Misfit : PySem.W.findIn K (.ref c_Misfit) "__getattribute__" = some (some (.builtin "BaseException.__getattribute__")))
    (gg_Misfit : PySem.W.findIn K (.ref c_Misfit) "__getattr__" = some none)
    (hd_Misfit : PySem.W.hasDictIn K c_Misfit = true)
    (ha_Misfit : PySem.W.findIn K (.ref c_Misfit) "__class__" = some (some (.builtin "object.__class__")))
    (hm_Misfit : PySem.W.mroIn K c_Misfit (.type "object") = some true)
    (s_Misfit_BadSquares : PySem.W.subIn K (.ref c_Misfit) (.ref c_BadSquares) = some false)
    (s_Misfit_FlightError : PySem.W.subIn K (.ref c_Misfit) (.ref c_FlightError) = some true)
    (s_Misfit_Misfit : PySem.W.subIn K (.ref c_Misfit) (.ref c_Misfit) = some true)
    (hn_ : PySem.W.specialIn K (.builtin "object.__class__") "__get__" = some (some (.builtin "getset_descriptor.__get__")))
    (ht_ : PySem.W.takesIn K (.builtin "object.__class__") = some true)
    (l0 : K.lookup f0 = some ⟨oc0, od0, .func (PySem.W.fnOf "__init__" "BadSquares.__init__" (defArgs s_BadSquares_init) (defBody s_BadSquares_init) (defScope s_BadSquares_init) .none kV0 dc0 pm0 an0 cd0 ct0), sl0⟩)
    (c0 : PySem.W.codeIn K cd0 "BadSquares.__init__" = true)
    (k0 : PySem.W.keepIn K (.ref f0) = true)
    (l1 : K.lookup f1 = some ⟨oc1, od1, .func (PySem.W.fnOf "__init__" "Misfit.__init__" (defArgs s_Misfit_init) (defBody s_Misfit_init) (defScope s_Misfit_init) .none kV1 dc1 pm1 an1 cd1 ct1), sl1⟩)
    (c1 : PySem.W.codeIn K cd1 "Misfit.__init__" = true)
    (k1 : PySem.W.keepIn K (.ref f1) = true)
    (y_abs : PySem.W.nsIn K mainGlobals "abs" = some none)
    (y_all : PySem.W.nsIn K mainGlobals "all" = some none)
    (y_any : PySem.W.nsIn K mainGlobals "any" = some none)
    (y_bool : PySem.W.nsIn K mainGlobals "bool" = some none)
    (y_int : PySem.W.nsIn K mainGlobals "int" = some none)
    (y_isinstance : PySem.W.nsIn K mainGlobals "isinstance" = some none)
    (y_len : PySem.W.nsIn K mainGlobals "len" = some none)
    (y_list : PySem.W.nsIn K mainGlobals "list" = some none)
    (y_range : PySem.W.nsIn K mainGlobals "range" = some none)
    (y_repr : PySem.W.nsIn K mainGlobals "repr" = some none)
    (y_set : PySem.W.nsIn K mainGlobals "set" = some none)
    (y_sorted : PySem.W.nsIn K mainGlobals "sorted" = some none)
    (y_tuple : PySem.W.nsIn K mainGlobals "tuple" = some none)
    (ct_w_refused_right : cd22 = .ref cT_w_refused_right)
    (lt_w_refused_right : K.lookup cT_w_refused_right = some ⟨oT_w_refused_right, dT_w_refused_right, .fields vT_w_refused_right, sT_w_refused_right⟩)
    (vt_w_refused_right : vT_w_refused_right[11]? = some (.ref PT_w_refused_right))
    (nt_w_refused_right : K.lookup PT_w_refused_right = none)
    (ym : K.lookup sysModules = none) :
    OffK K ∧ ∃ (fd : FuncData) (cs : List (Addr × Addr)), NamesTab q K cs ∧ (∀ (s : Shared) (v : Value), BindsTo s fd ⟨[v], []⟩ [("script", v)]) ∧
      ∀ base : Heap, K.In base → base.Ns mainGlobals mg → (∀ p ∈ cs, LamX.TabB base mg p.1 p.2) → FnG l.prog w K mg base CX0 9 fa fd ["script"] (spLaw K cs) := by
  have e := hfa.symm.trans (PySem.W.mg_of X G a23)
  cases e
  let T : Txt K mg := {
    f_BadSquares_init := _, d_BadSquares_init := _, F_BadSquares_init := fun_mk (st := s_BadSquares_init) l0 c0 k0,
    f_Misfit_init := _, d_Misfit_init := _, F_Misfit_init := fun_mk (st := s_Misfit_init) l1 c1 k1,
    f_is_integer := _, d_is_integer := _, F_is_integer := fun_mk (st := s_is_integer) l2 c2 k2, g_is_integer := PySem.W.mg_of X G a2,
    f_is_square := _, d_is_square := _, F_is_square := fun_mk (st := s_is_square) l3 c3 k3, g_is_square := PySem.W.mg_of X G a3,
    f_are_squares := _, d_are_squares := _, F_are_squares := fun_mk (st := s_are_squares) l4 c4 k4, g_are_squares := PySem.W.mg_of X G a4,
    f_taken_squares := _, d_taken_squares := _, F_taken_squares := fun_mk (st := s_taken_squares) l5 c5 k5, g_taken_squares := PySem.W.mg_of X G a5,
    f_check_right := _, d_check_right := _, F_check_right := fun_mk (st := s_check_right) l6 c6 k6, g_check_right := PySem.W.mg_of X G a6,
    f_is_better := _, d_is_better := _, F_is_better := fun_mk (st := s_is_better) l7 c7 k7, g_is_better := PySem.W.mg_of X G a7,
    f_both := _, d_both := _, F_both := fun_mk (st := s_both) l8 c8 k8, g_both := PySem.W.mg_of X G a8,
    f_edge_of := _, d_edge_of := _, F_edge_of := fun_mk (st := s_edge_of) l9 c9 k9, g_edge_of := PySem.W.mg_of X G a9,
    f_rank_of := _, d_rank_of := _, F_rank_of := fun_mk (st := s_rank_of) l10 c10 k10, g_rank_of := PySem.W.mg_of X G a10,
    f_w_reel := _, d_w_reel := _, F_w_reel := fun_mk (st := s_w_reel) l11 c11 k11, g_w_reel := PySem.W.mg_of X G a11,
    f_w_wind := _, d_w_wind := _, F_w_wind := fun_mk (st := s_w_wind) l12 c12 k12, g_w_wind := PySem.W.mg_of X G a12,
    f_w_pick := _, d_w_pick := _, F_w_pick := fun_mk (st := s_w_pick) l13 c13 k13, g_w_pick := PySem.W.mg_of X G a13,
    f_w_mixed := _, d_w_mixed := _, F_w_mixed := fun_mk (st := s_w_mixed) l14 c14 k14, g_w_mixed := PySem.W.mg_of X G a14,
    f_w_drawn := _, d_w_drawn := _, F_w_drawn := fun_mk (st := s_w_drawn) l15 c15 k15, g_w_drawn := PySem.W.mg_of X G a15,
    f_w_other := _, d_w_other := _, F_w_other := fun_mk (st := s_w_other) l16 c16 k16, g_w_other := PySem.W.mg_of X G a16,
    f_w_measured := _, d_w_measured := _, F_w_measured := fun_mk (st := s_w_measured) l17 c17 k17, g_w_measured := PySem.W.mg_of X G a17,
    f_w_in_one := _, d_w_in_one := _, F_w_in_one := fun_mk (st := s_w_in_one) l18 c18 k18, g_w_in_one := PySem.W.mg_of X G a18,
    f_w_is := _, d_w_is := _, F_w_is := fun_mk (st := s_w_is) l19 c19 k19, g_w_is := PySem.W.mg_of X G a19,
    f_w_pair_right := _, d_w_pair_right := _, F_w_pair_right := fun_mk (st := s_w_pair_right) l20 c20 k20, g_w_pair_right := PySem.W.mg_of X G a20,
    f_w_heard := _, d_w_heard := _, F_w_heard := fun_mk (st := s_w_heard) l21 c21 k21, g_w_heard := PySem.W.mg_of X G a21,
    f_w_refused_right := _, d_w_refused_right := _, F_w_refused_right := fun_mk (st := s_w_refused_right) l22 c22 k22, g_w_refused_right := PySem.W.mg_of X G a22,
    f_law := _, d_law := _, F_law := fun_mk (st := s_law) l23 c23 k23, g_law := PySem.W.mg_of X G a23,
    c_BadSquares := _, gc_BadSquares := PySem.W.mg_of X G aC_BadSquares,
    c_Misfit := _, gc_Misfit := PySem.W.mg_of X G aC_Misfit,
    c_FlightError := _, gc_FlightError := PySem.W.mg_of X G aC_FlightError,
    x_BadSquares := ⟨⟨_, _, _, _, _, _, _, _, _, _, _, _, _, _, _, x_BadSquares, rfl⟩, sa_BadSquares, exC_BadSquares, tyC_BadSquares, kC_BadSquares⟩,
    i_BadSquares := i_BadSquares, t_BadSquares := t_BadSquares,
    n_BadSquares_part := n_BadSquares_part,
    e_BadSquares := ⟨ga_BadSquares, gg_BadSquares, exC_BadSquares, hd_BadSquares, ha_BadSquares, hn_, ht_, hm_BadSquares⟩,
    m_BadSquares_BadSquares := exm_any exC_BadSquares isC_BadSquares tyC_BadSquares s_BadSquares_BadSquares,
    m_BadSquares_FlightError := exm_any exC_FlightError isC_FlightError tyC_FlightError s_BadSquares_FlightError,
    m_BadSquares_Misfit := exm_any exC_Misfit isC_Misfit tyC_Misfit s_BadSquares_Misfit,
    x_Misfit := ⟨⟨_, _, _, _, _, _, _, _, _, _, _, _, _, _, _, x_Misfit, rfl⟩, sa_Misfit, exC_Misfit, tyC_Misfit, kC_Misfit⟩,
    i_Misfit := i_Misfit, t_Misfit := t_Misfit,
    n_Misfit_part := n_Misfit_part,
    e_Misfit := ⟨ga_Misfit, gg_Misfit, exC_Misfit, hd_Misfit, ha_Misfit, hn_, ht_, hm_Misfit⟩,
    m_Misfit_BadSquares := exm_any exC_BadSquares isC_BadSquares tyC_BadSquares s_Misfit_BadSquares,
    m_Misfit_FlightError := exm_any exC_FlightError isC_FlightError tyC_FlightError s_Misfit_FlightError,
    m_Misfit_Misfit := exm_any exC_Misfit isC_Misfit tyC_Misfit s_Misfit_Misfit,
    z_abs := PySem.W.mg_none_of X G y_abs,
    z_all := PySem.W.mg_none_of X G y_all,
    z_any := PySem.W.mg_none_of X G y_any,
    z_bool := PySem.W.mg_none_of X G y_bool,
    z_int := PySem.W.mg_none_of X G y_int,
    z_isinstance := PySem.W.mg_none_of X G y_isinstance,
    z_len := PySem.W.mg_none_of X G y_len,
    z_list := PySem.W.mg_none_of X G y_list,
    z_range := PySem.W.mg_none_of X G y_range,
    z_repr := PySem.W.mg_none_of X G y_repr,
    z_set := PySem.W.mg_none_of X G y_set,
    z_sorted := PySem.W.mg_none_of X G y_sorted,
    z_tuple := PySem.W.mg_none_of X G y_tuple }
  have hc : T.d_w_refused_right.code = .ref cT_w_refused_right := ct_w_refused_right
  have tb_law : PySem.W.tabIn K "_law_refused_right" = some (cT_w_refused_right, PT_w_refused_right) := tab_mk a22 l22 ct_w_refused_right lt_w_refused_right vt_w_refused_right
  refine ⟨ym, T.d_law, [(cT_w_refused_right, PT_w_refused_right)], ?_, fun s v => .of_eq rfl, fun base _ _ tb => ok_law T hc (tb (cT_w_refused_right, PT_w_refused_right) (List.mem_singleton.mpr rfl))⟩
  intro p hp
  cases List.mem_singleton.mp hp
  exact ⟨nt_w_refused_right, "_law_refused_right", _, hrec, tb_law⟩
theorem room : Room 9 callerA := ⟨rfl, by decide, by decide⟩
end K05

open PySem PySem.W PyProof.Rows in
set_option maxRecDepth 100000 in
set_option maxHeartbeats 0 in
theorem PySem.Challenge.cw_nevercaught_k05_better_is_an_order_holds : PySem.Challenge.rw_nevercaught_k05_better_is_an_order.Holds := by
  w_on; o_law; k_head; (case hw => w_witness2)
  k_fill
  refine Kg.walkT (l := PySem.Challenge.rw_nevercaught_k05_better_is_an_order) (n := 63) (k := 9) (x := "script") (sp := fun K cs => K05.spLaw K cs) (by decide +kernel) rfl (by decide) rfl K05.room (fun w h Y => PySem.W.km_in_of Y) ?F (fun K cs H a ns hl off e => ⟨a, ns, rfl, hl, off, e, fun _ => rfl⟩)
  case F =>
    intro w mg fa h KX G hmg
    refine' K05.all_mk ?hrec KX G hmg ?a2 ?l2 ?c2 ?k2 ?a3 ?l3 ?c3 ?k3 ?a4 ?l4 ?c4 ?k4 ?a5 ?l5 ?c5 ?k5 ?a6 ?l6 ?c6 ?k6 ?a7 ?l7 ?c7 ?k7 ?a8 ?l8 ?c8 ?k8 ?a9 ?l9 ?c9 ?k9 ?a10 ?l10 ?c10 ?k10 ?a11 ?l11 ?c11 ?k11 ?a12 ?l12 ?c12 ?k12 ?a13 ?l13 ?c13 ?k13 ?a14 ?l14 ?c14 ?k14 ?a15 ?l15 ?c15 ?k15 ?a16 ?l16 ?c16 ?k16 ?a17 ?l17 ?c17 ?k17 ?a18 ?l18 ?c18 ?k18 ?a19 ?l19 ?c19 ?k19 ?a20 ?l20 ?c20 ?k20 ?a21 ?l21 ?c21 ?k21 ?a22 ?l22 ?c22 ?k22 ?a23 ?l23 ?c23 ?k23 ?aC_BadSquares ?isC_BadSquares ?aC_Misfit ?isC_Misfit ?aC_FlightError ?isC_FlightError ?tyC_FlightError ?exC_FlightError ?x_BadSquares ?sa_BadSquares ?exC_BadSquares ?tyC_BadSquares ?kC_BadSquares ?i_BadSquares ?t_BadSquares ?n_BadSquares_part ?ga_BadSquares ?gg_BadSquares ?hd_BadSquares ?ha_BadSquares ?hm_BadSquares ?s_BadSquares_BadSquares ?s_BadSquares_FlightError ?s_BadSquares_Misfit ?x_Misfit ?sa_Misfit ?exC_Misfit ?tyC_Misfit ?kC_Misfit ?i_Misfit ?t_Misfit ?n_Misfit_part ?ga_Misfit ?gg_Misfit ?hd_Misfit ?ha_Misfit ?hm_Misfit ?s_Misfit_BadSquares ?s_Misfit_FlightError ?s_Misfit_Misfit ?hn_ ?ht_ ?l0 ?c0 ?k0 ?l1 ?c1 ?k1 ?y_abs ?y_all ?y_any ?y_bool ?y_int ?y_isinstance ?y_len ?y_list ?y_range ?y_repr ?y_set ?y_sorted ?y_tuple ?ct_w_refused_right ?lt_w_refused_right ?vt_w_refused_right ?nt_w_refused_right ?ym
    (case hrec => rfl)
    (case a2 => k_is)
    (case l2 => k_is)
    (case c2 => k_is)
    (case k2 => k_is)
    (case a3 => k_is)
    (case l3 => k_is)
    (case c3 => k_is)
    (case k3 => k_is)
    (case a4 => k_is)
    (case l4 => k_is)
    (case c4 => k_is)
    (case k4 => k_is)
    (case a5 => k_is)
    (case l5 => k_is)
    (case c5 => k_is)
    (case k5 => k_is)
    (case a6 => k_is)
    (case l6 => k_is)
    (case c6 => k_is)
    (case k6 => k_is)
    (case a7 => k_is)
    (case l7 => k_is)
    (case c7 => k_is)
    (case k7 => k_is)
    (case a8 => k_is)
    (case l8 => k_is)
    (case c8 => k_is)
    (case k8 => k_is)
    (case a9 => k_is)
    (case l9 => k_is)
    (case c9 => k_is)
    (case k9 => k_is)
    (case a10 => k_is)
    (case l10 => k_is)
    (case c10 => k_is)
    (case k10 => k_is)
    (case a11 => k_is)
    (case l11 => k_is)
    (case c11 => k_is)
    (case k11 => k_is)
    (case a12 => k_is)
    (case l12 => k_is)
    (case c12 => k_is)
    (case k12 => k_is)
    (case a13 => k_is)
    (case l13 => k_is)
    (case c13 => k_is)
    (case k13 => k_is)
    (case a14 => k_is)
    (case l14 => k_is)
    (case c14 => k_is)
    (case k14 => k_is)
    (case a15 => k_is)
    (case l15 => k_is)
    (case c15 => k_is)
    (case k15 => k_is)
    (case a16 => k_is)
    (case l16 => k_is)
    (case c16 => k_is)
    (case k16 => k_is)
    (case a17 => k_is)
    (case l17 => k_is)
    (case c17 => k_is)
    (case k17 => k_is)
    (case a18 => k_is)
    (case l18 => k_is)
    (case c18 => k_is)
    (case k18 => k_is)
    (case a19 => k_is)
    (case l19 => k_is)
    (case c19 => k_is)
    (case k19 => k_is)
    (case a20 => k_is)
    (case l20 => k_is)
    (case c20 => k_is)
    (case k20 => k_is)
    (case a21 => k_is)
    (case l21 => k_is)
    (case c21 => k_is)
    (case k21 => k_is)
    (case a22 => k_is)
    (case l22 => k_is)
    (case c22 => k_is)
    (case k22 => k_is)
    (case a23 => k_is)
    (case l23 => k_is)
    (case c23 => k_is)
    (case k23 => k_is)
    (case aC_BadSquares => k_is)
    (case isC_BadSquares => k_is)
    (case aC_Misfit => k_is)
    (case isC_Misfit => k_is)
    (case aC_FlightError => k_is)
    (case isC_FlightError => k_is)
    (case tyC_FlightError => k_is)
    (case exC_FlightError => k_is)
    (case x_BadSquares => k_is)
    (case sa_BadSquares => k_is)
    (case exC_BadSquares => k_is)
    (case tyC_BadSquares => k_is)
    (case kC_BadSquares => k_is)
    (case i_BadSquares => k_is)
    (case t_BadSquares => k_is)
    (case n_BadSquares_part => k_is)
    (case ga_BadSquares => k_is)
    (case gg_BadSquares => k_is)
    (case hd_BadSquares => k_is)
    (case ha_BadSquares => k_is)
    (case hm_BadSquares => k_is)
    (case s_BadSquares_BadSquares => k_is)
    (case s_BadSquares_FlightError => k_is)
    (case s_BadSquares_Misfit => k_is)
    (case x_Misfit => k_is)
    (case sa_Misfit => k_is)
    (case exC_Misfit => k_is)
    (case tyC_Misfit => k_is)
    (case kC_Misfit => k_is)
    (case i_Misfit => k_is)
    (case t_Misfit => k_is)
    (case n_Misfit_part => k_is)
    (case ga_Misfit => k_is)
    (case gg_Misfit => k_is)
    (case hd_Misfit => k_is)
    (case ha_Misfit => k_is)
    (case hm_Misfit => k_is)
    (case s_Misfit_BadSquares => k_is)
    (case s_Misfit_FlightError => k_is)
    (case s_Misfit_Misfit => k_is)
    (case hn_ => k_is)
    (case ht_ => k_is)
    (case l0 => k_is)
    (case c0 => k_is)
    (case k0 => k_is)
    (case l1 => k_is)
    (case c1 => k_is)
    (case k1 => k_is)
    (case y_abs => k_is)
    (case y_all => k_is)
    (case y_any => k_is)
    (case y_bool => k_is)
    (case y_int => k_is)
    (case y_isinstance => k_is)
    (case y_len => k_is)
    (case y_list => k_is)
    (case y_range => k_is)
    (case y_repr => k_is)
    (case y_set => k_is)
    (case y_sorted => k_is)
    (case y_tuple => k_is)
    (case ct_w_refused_right => rfl)
    (case lt_w_refused_right => k_is)
    (case vt_w_refused_right => rfl)
    (case nt_w_refused_right => rfl)
    (case ym => rfl)
#print axioms PySem.Challenge.cw_nevercaught_k05_better_is_an_order_holds
