import PyProof.Rows.All
import Wide.All
import OpenK.AllK
import Wide.FinOn
import HandS.Base
import HandS.Call
import HandS.List
import HandS.Comp
import HandS.Ends
import HandS.Dict
import HandS.Iter
import HandS.Words
import HandS.ForMost
import HandS.IsInst
import HandS.Evl
import HandS.SetBool
import HandS.TupSets
import HandS.Deep
import HandS.Wide
import HandS.More
import HandS.Lambda
import HandS.EndTab
import KE.KNest
import HandS.Exc
import HandS.ExcIs
import HandS.ExcField
import KE.KExcIs
import HandS.ExcInit
import HandS.WordsExc
import HandS.TupAny
import KE.KRevSl
import KE.KDictDisplayH
import HandS.SortRule
import PySem.Challenge.RW_nevercaught_k03_squares_and_neighbours
set_option Elab.async false
set_option linter.all false
set_option maxRecDepth 100000
set_option maxHeartbeats 4000000
section
open PySem PySem.Spec PyProof.Rows L2
/-! steps of a reading: `walk_at "rd1"` answers one question, `walk_at "rd"` as many as it can -/
local macro_rules | `(tactic| walk_at "rd cond") => `(tactic| first
  | exact rfl | assumption | omega | (dsimp only; omega)
  | (refine Or.inl ⟨?_, ?_⟩ <;> omega) | (refine Or.inr ⟨?_, ?_⟩ <;> omega)
  | (refine Nat.le_trans (m := 64) ?_ (by decide); simp only [List.length_cons, List.length_nil]; omega)
  | (refine ⟨?_, ?_, ?_⟩ <;> first | omega | decide) | (refine ⟨?_, ?_⟩ <;> first | assumption | omega | decide))
local macro_rules | `(tactic| walk_at "rd1") => `(tactic| first
  | refine ⟨_, rfl, ?_⟩
  | refine ⟨_, _, rfl, rfl, ?_⟩
  | refine Or.inl ⟨_, rfl, ?_⟩
  | refine Or.inr ⟨_, rfl, ?_⟩
  | refine ⟨_, _, _, _, rfl, rfl, SqL.of (by assumption), by rfl, ?_⟩
  | refine ⟨_, _, _, _, rfl, rfl, SqL.of upd_same, by rfl, ?_⟩
  | refine ⟨_, _, _, _, rfl, rfl, by assumption, by rfl, ?_⟩
  | refine ⟨_, _, _, _, rfl, rfl, upd_same, by rfl, ?_⟩
  | refine ⟨_, _, _, _, rfl, rfl, by assumption, by assumption, ?_⟩
  | refine Or.inl ⟨_, _, _, _, rfl, rfl, by assumption, by rfl, ?_⟩
  | refine Or.inr (Or.inl ⟨_, _, _, _, rfl, rfl, by assumption, by rfl, ?_⟩)
  | refine ⟨_, _, _, _, rfl, by decide, by decide, by assumption, ?_⟩
  | refine ⟨_, _, _, rfl, by assumption, ?_⟩
  | refine ⟨_, _, rfl, by assumption, ?_⟩
  | refine ⟨_, _, rfl, .inl (SqL.of (by assumption)), ?_⟩
  | refine ⟨_, _, rfl, .inl (SqL.of upd_same), ?_⟩
  | refine ⟨_, _, rfl, .inl (by assumption), ?_⟩
  | refine ⟨_, _, rfl, .inr (SqT.of (by assumption)), ?_⟩
  | refine ⟨_, _, rfl, .inr (SqT.of upd_same), ?_⟩
  | refine ⟨_, _, rfl, .inr (by assumption), ?_⟩
  | (refine And.intro ?_ ?_; focus (walk_at "rd cond")))
local macro_rules | `(tactic| walk_at "rd") => `(tactic| repeat (walk_at "rd1"))
/-! Kg1: defs that are called while nothing is being shown (no guard runs), so that they may ask repr of lists. -/
namespace Kg
open PySem PySem.Spec PyProof.Rows L2

section
variable {P : Program} {w : World} {K : PySem.W.Frag} {mg : Str → Option Value} {base : Heap} {CX : CXT} {k : Nat} {f : Addr} {fd : FuncData} {ps : List Str} {sp : Sp}
/-- a def's promise, kept where no guard runs around the call -/
structure FnG (P : Program) (w : World) (K : PySem.W.Frag) (mg : Str → Option Value) (base : Heap) (CX : CXT)
    (k : Nat) (f : Addr) (fd : FuncData) (ps : List Str) (sp : Sp) : Prop where
  many : ∀ vs H Q E, sp vs H Q E → vs.length = ps.length
  goes : ∀ (A : Around) (outer : List Env) (s : Shared) (H : Hp) (args : Args) (us : List Value) (vs : List V) (Q : VK) (E : XK),
    Room k A → A.guards = some [] → Env0 P w K mg base A outer s H → BindsTo s fd args (ps.zip us) → Vals vs us →
    sp vs H Q E → codeAny (model P w) A (.call (.ref f) args) (CR CX outer P w H s Q E) s
theorem FnG.of (F : FnOk P w K mg base CX k f fd ps sp) : FnG P w K mg base CX k f fd ps sp :=
  ⟨F.len, fun A outer s H args us vs Q E hr _ => F.run A outer s H args us vs Q E hr⟩
theorem FnG.mono {j : Nat} (F : FnG P w K mg base CX j f fd ps sp) (h : j ≤ k) : FnG P w K mg base CX k f fd ps sp :=
  ⟨F.many, fun A outer s H args us vs Q E hr => F.goes A outer s H args us vs Q E (hr.mono h)⟩
end

theorem guards_deeper (A : Around) (env : Env) : (A.deeper env).guards = A.guards := rfl

section
variable {P : Program} {w : World} {K : PySem.W.Frag} {mg : Str → Option Value} {base : Heap} {CX : CXT} {k : Nat} {f : Addr}
variable {name qual : Str} {pars : Arguments} {body : List Stmt} {sc : Scope} {dV kV doc pm cdv ct oc : Value} {an od : Option Addr} {osl : Array (Option Value)} {N ps : List Str} {sp : Sp}
/-- a def by its body, where no guard runs -/
theorem fnG_of (at_f : K.lookup f = some ⟨oc, od, .func (PySem.W.fnOf name qual pars body sc dV kV doc pm an cdv ct), osl⟩)
    (its_code : PySem.W.codeIn K cdv qual = true) (S : FnScope N ps sc) (many : ∀ vs H Q E, sp vs H Q E → vs.length = ps.length)
    (its_body : ∀ (A : Around) (outer : List Env) (s : Shared) (H : Hp) (vs : List V) (Q : VK) (E : XK),
      Room k (A.deeper (envOfC qual sc s.heap.objs.size f cdv)) → A.guards = some [] → sp vs H Q E →
      ∃ t, PSs (cxOf CX P w K mg base N qual sc f cdv A outer s H E) body t ∧
        t { nx := fun _ H' => Q .non H', rt := Q } (start N vs) H) :
    FnG P w K mg base CX (k + 1) f (PySem.W.fnOf name qual pars body sc dV kV doc pm an cdv ct) ps sp := by
  constructor
  · exact many
  · intro A outer s H args us vs Q E hr hg e0 hb r hs
    have hl := many _ _ _ _ hs
    have old : ∀ b o, base.get? b = some o → s.heap.get? b = some o := fun b o e => (e0.bs b o e).1
    have here : K.In s.heap := e0.mod.kin.keeps old
    have kinds : ∀ y ∈ ps.zip us, sc.names.lookup y.1 = some .local ∨
        (sc.names.lookup y.1 = some .cell ∧ ((cellsFrom (s.heap.objs.size + 1) sc.names []).lookup y.1).isSome = true) := by
      rintro ⟨n, v⟩ hy
      exact (S.par n (List.of_mem_zip hy).1).imp id fun q => ⟨q, PySem.W.cellsFrom_some _ _ _ (.inl q)⟩
    apply codeAny_call_function hr.depth (here _ _ at_f) rfl S.co S.gen rfl (PySem.W.codeRec_of here its_code) (hb _ _ _ _ _)
    apply wpAny_newFunctionEnv_cells S.kind kinds
    intro fun' env he s1
    subst env
    refine ⟨(e0.mod.nolimit.keeps old).keeps s1.toInCall.keep, codeAny_func ?_⟩
    obtain ⟨t, ht, hq⟩ := its_body A outer s H vs Q E (hr.deeper _) hg hs
    have J := inv_start (CX := CX) (E := E) S hr.hd e0 hl r s1
    refine wpAny_mono (ht.run [] _ (start N vs) H _ J hq) ?_ fun e s' z => z
    rintro fl s' hh
    have fin : ∀ {σ' : L2.St} {H' : Hp} {v : V} {u : Value}, Inv (cxOf CX P w K mg base N qual sc f cdv A outer s H E) [] σ' H' s' →
        RelV v u → Q v H' → CE outer P w H s Q u s' := by
      intro σ' H' v u I rv q
      exact ⟨v, H', I.os, I.bare, I.base, I.hok, rv, q⟩
    cases fl with
    | next => exact hh.elim fun σ' z => z.elim fun H' z => fin (v := V.non) (u := Value.none) z.1 rfl z.2
    | ret u => exact hh.elim fun v z => z.elim fun σ' z => z.elim fun H' z => fin z.1 z.2.1 z.2.2
    | brk => exact (hh.elim fun _ z => z.elim fun _ z => z.2).elim
    | cont => exact (hh.elim fun _ z => z.elim fun _ z => z.2).elim
end

section
variable {P : Program} {w : World} {K : PySem.W.Frag} {mg : Str → Option Value} {base : Heap}
theorem okG {x qual : Str} {st : Stmt} {f : Addr} {fd : FuncData} {N ps : List Str} {k : Nat} {sp : Sp} (F : Fun K x qual st f fd)
    (S : FnScope N ps (defScope st)) (many : ∀ vs H Q E, sp vs H Q E → vs.length = ps.length)
    (its_body : ∀ (cdv : Value) (A : Around) (outer : List Env) (s : Shared) (H : Hp) (vs : List V) (Q : VK) (E : XK),
      Room k (A.deeper (envOfC qual (defScope st) s.heap.objs.size f cdv)) → A.guards = some [] → sp vs H Q E →
      ∃ t, PSs (cxOf CX0 P w K mg base N qual (defScope st) f cdv A outer s H E).nox (defBody st) t ∧
        t { nx := fun _ H' => Q .non H', rt := Q } (start N vs) H) : FnG P w K mg base CX0 (k + 1) f fd ps sp := by
  obtain ⟨oc, od, kV, doc, pm, an, cdv, ct, osl, e, lk, hcd⟩ := F.ex
  subst e
  refine fnG_of lk hcd S many ?_
  intro A outer s H vs Q E hr hg hs
  obtain ⟨t, h, q⟩ := its_body cdv A outer s H vs Q E hr hg hs
  exact ⟨t, h.nox, q⟩
end

section
variable {X : Cx} {CX : CXT} {k : Nat} {f : Addr} {fd : FuncData} {ps : List Str} {sp : Sp} {dvs : List V} {ds : List Value} {E : XK} {x : Str} {p pos : Pos} {e : Expr} {es : List Expr} {t : TA}
theorem runG {pins : List (Addr × Obj)} {σ : L2.St} {H : Hp} {s : Shared} {Q : VK} {us : List Value} {vs : List V}
    (F : FnG X.prog X.w X.K X.mg X.base CX k f fd ps sp) (hr : Room k X.A) (gd : X.A.guards = some []) (hb : Binds X.K fd ps ds)
    (hd : Vals dvs ds) (hx : Passes CX X E) (I : Inv X pins σ H s) (r : Vals vs us) (h : sp (vs ++ dvs) H Q E) :
    wpAny (model X.prog X.w) X.A (call (.ref f) us) (EP X pins σ Q) X.xe s := by
  have both : Vals (vs ++ dvs) (us ++ ds) := r.append hd
  have hl : (us ++ ds).length = ps.length := both.length ▸ F.many _ _ _ _ h
  have it := F.goes X.A X.stack s H ⟨us, []⟩ (us ++ ds) (vs ++ dvs) Q E hr gd I.env0 (hb s us I.kIn hl) both h
  refine wpAny_call (codeAny_mono it ?_)
  rintro (e | fl) s' hq
  · exact hx pins σ H s e s' I hq
  · cases fl <;> first | exact I.after hq | exact False.elim hq
theorem pe_callG (F : FnG X.prog X.w X.K X.mg X.base CX k f fd ps sp) (hr : Room k X.A) (gd : X.A.guards = some []) (hg : Gl X x)
    (hm : X.mg x = some (.ref f)) (hk : PySem.W.keepIn X.K (.ref f) = true) (hb : Binds X.K fd ps ds) (hd : Vals dvs ds) (hx : Passes CX X E)
    (ha : PA X (e :: es) t) (hdb : (x == ("__debug__" : Str)) = false := by decide)
    (he : starEach (e :: es) X.env = (false, eval e X.env) :: starEach es X.env := by rfl)
    (hpl : (backTo pos (starEach es X.env)).any (·.1) = false := by rfl) : PE X (.Call (.Name x p) (e :: es) [] pos) (tCall sp dvs E t) := by
  constructor
  intro pins s σ H Q I h
  apply wpAny_Call_Name_kw (ld_glob I hg hm _ hdb)
  refine PySem.W.callWith_K (h₀ := X.base) I.ok.mod.kin hk ?_ he hpl
  refine thn (ha.run pos pins s σ H _ I h) ?_
  rintro us s1 ⟨vs, H1, I1, r, q⟩
  exact ⟨I1.kIn, runG F hr gd hb hd hx I1 r q⟩

/-- f(k = v, ..): keywords alone -/
theorem pe_callKW {ks : List Str} {kws : List Keyword} {g : List Value → List Value → List Value} {gV : List V → List V → List V} {tk : TA}
    (F : FnOk X.prog X.w X.K X.mg X.base CX k f fd ps sp) (hr : Room k X.A) (hg : Gl X x) (hm : X.mg x = some (.ref f))
    (hk : PySem.W.keepIn X.K (.ref f) = true) (hb : KBinds X.K fd ps ks g gV) (hx : Passes CX X E) (hkw : PK X kws tk)
    (hall : (backToKw pos (keywordEach kws X.env)).all (·.1.isSome) = true := by rfl)
    (hks : (backToKw pos (keywordEach kws X.env)).filterMap (·.1) = ks := by rfl) (hdb : (x == ("__debug__" : Str)) = false := by decide)
    (hpl : (backToKw pos (keywordEach kws X.env)).any (·.1.isNone) = false := by rfl) :
    PE X (.Call (.Name x p) [] kws pos) (tCallK sp gV E tNil tk) := by
  constructor
  intro pins s σ H Q I h
  apply wpAny_Call_Name_kw (ld_glob I hg hm _ hdb)
  refine PySem.W.callWith_KW0 (h₀ := X.base) I.ok.mod.kin hk hall ?_ ?_
  · refine thn (hkw.run pos pins s σ H _ I h) ?_
    rintro ws s2 ⟨zs, H2, I2, rz, q2⟩
    refine ⟨I2.kIn, ?_⟩
    rw [hks]
    exact run_fnk (us := []) (vs := []) F hr hb hx I2 .nil rz q2
  · exact hpl
end
end Kg
/-! Kg2: data of any depth (dicts with written keys among them): what stands for it, its repr, its kind. -/
namespace Kg
open PySem PySem.Spec PyProof.Rows L2
open Evl (Ex)

def keyD : Key → PyData
  | .inl i => .int i
  | .inr x => .str x
mutual
inductive Da (K : PySem.W.Frag) (H : Hp) : V → PyData → Prop
  | non : Da K H .non .none
  | bl (b : Bool) : Da K H (.bl b) (.bool b)
  | int (i : Int) : Da K H (.int i) (.int i)
  | str (x : Str) : Da K H (.str x) (.str x)
  | lst {a : Addr} {xs : List V} {ds : List PyData} : SqL K H a xs → DaAll K H xs ds → Da K H (.ref a) (.list ds)
  | tup {a : Addr} {xs : List V} {ds : List PyData} : SqT K H a xs → DaAll K H xs ds → Da K H (.ref a) (.tuple ds)
  | dct {a : Addr} {kvs : List (Key × V)} {ds : List PyData} : H a = some (.dK kvs) → DaAll K H (kvs.map (·.2)) ds →
      Da K H (.ref a) (.dict ((kvs.map fun kv => keyD kv.1).zip ds))
inductive DaAll (K : PySem.W.Frag) (H : Hp) : List V → List PyData → Prop
  | nil : DaAll K H [] []
  | cons {v : V} {vs : List V} {d : PyData} {ds : List PyData} : Da K H v d → DaAll K H vs ds → DaAll K H (v :: vs) (d :: ds)
end
theorem DaAll.len {K : PySem.W.Frag} {H : Hp} : ∀ {vs : List V} {ds : List PyData}, DaAll K H vs ds → vs.length = ds.length
  | _, _, .nil => rfl
  | _, _, .cons _ t => by simp [DaAll.len t]
theorem DaAll.at {K : PySem.W.Frag} {H : Hp} : ∀ {vs : List V} {ds : List PyData} {i : Nat} {v : V}, DaAll K H vs ds → vs[i]? = some v → ∃ d, ds[i]? = some d ∧ Da K H v d
  | _, _, _, _, .nil, h => by simp at h
  | _, _, 0, _, .cons h _, e => ⟨_, rfl, by simp at e; exact e ▸ h⟩
  | _, _, i + 1, _, .cons _ t, e => DaAll.at (i := i) t (by simpa using e)
theorem DaAll.app {K : PySem.W.Frag} {H : Hp} : ∀ {vs ws : List V} {ds es : List PyData}, DaAll K H vs ds → DaAll K H ws es → DaAll K H (vs ++ ws) (ds ++ es)
  | _, _, _, _, .nil, h => h
  | _, _, _, _, .cons h t, g => .cons h (DaAll.app t g)
mutual
theorem Da.mono {K : PySem.W.Frag} {H H' : Hp} (e : Ex H H') : ∀ {v : V} (d : PyData), Da K H v d → Da K H' v d
  | _, .none, .non => .non
  | _, .bool _, .bl b => .bl b
  | _, .int _, .int i => .int i
  | _, .str _, .str x => .str x
  | _, .list ds, .lst h t => .lst (Evl.ex_l e h) (DaAll.mono e ds t)
  | _, .tuple ds, .tup h t => .tup (Evl.ex_t e h) (DaAll.mono e ds t)
  | _, .dict _, .dct h t => .dct (e _ _ h) (DaAll.mono e _ t)
theorem DaAll.mono {K : PySem.W.Frag} {H H' : Hp} (e : Ex H H') : ∀ {vs : List V} (ds : List PyData), DaAll K H vs ds → DaAll K H' vs ds
  | _, [], .nil => .nil
  | _, d :: ds, .cons h t => .cons (Da.mono e d h) (DaAll.mono e ds t)
end
/-- the modules' dict stands, known and not to be written -/
def Sys (H : Hp) : Prop := ∃ o φ, H sysModules = some (.frz o (.ext φ))
theorem Sys.mono {H H' : Hp} (e : Ex H H') (h : Sys H) : Sys H' := by
  obtain ⟨o, φ, h⟩ := h
  exact ⟨o, φ, e _ _ h⟩
/-- it is none of the written part's lists and tuples -/
def OffK (K : PySem.W.Frag) : Prop := K.lookup sysModules = none

section
variable {X : Cx} {pins : List (Addr × Obj)} {σ : L2.St} {H : Hp} {s : Shared}
theorem off_l {K : PySem.W.Frag} {a : Addr} {xs : List V} (y : Sys H) (k : OffK K) (h : SqL K H a xs) : a ≠ sysModules := by
  rintro rfl
  obtain ⟨o, φ, e⟩ := y
  rcases h with (h | ⟨o', h⟩) | ⟨o', _, _, h, _⟩
  · rw [e] at h; cases h
  · rw [e] at h; cases h
  · rw [show K.lookup sysModules = none from k] at h; cases h
theorem pairs_keys {P : Program} {w : World} {h : Heap} : ∀ {es : List DictEntry} {kvs : List (Key × Value)}, Pairs (mixKind P w) es kvs → ReadsAll h (es.map (·.key)) (kvs.map fun kv => keyD kv.1) []
  | _, _, .nil => .nil
  | e :: es, kv :: kvs, .cons g _ t => by
    have r : Reads h e.key (keyD kv.1) [] := by
      rcases keyIs_shape (show keyIs kv.1 e.key = true from g) with ⟨i, t, e1, e2⟩ | ⟨x, t, e1, e2⟩
      · rw [e1, e2]; exact Reads.int i t
      · rw [e1, e2]; exact Reads.str x t
    exact ReadsAll.cons (as := []) (bs := []) r (pairs_keys t)
theorem pairs_vals {P : Program} {w : World} : ∀ {es : List DictEntry} {kvs : List (Key × Value)}, Pairs (mixKind P w) es kvs → es.map (·.val) = kvs.map (·.2)
  | _, _, .nil => rfl
  | _, _, .cons _ e t => by simp [e, pairs_vals t]
theorem kv_vals : ∀ {kvs : List (Key × V)} {vs : List (Key × Value)}, KV kvs vs → Vals (kvs.map (·.2)) (vs.map (·.2)) ∧ vs.map (fun kv => keyD kv.1) = kvs.map fun kv => keyD kv.1
  | _, _, .nil => ⟨.nil, rfl⟩
  | _, _, .cons r t => ⟨.cons r.2 (kv_vals t).1, by simp [r.1, (kv_vals t).2]⟩
theorem zip_fst {α β : Type} : ∀ {xs : List α} {ys : List β}, xs.length = ys.length → (xs.zip ys).map (·.1) = xs
  | [], _, _ => rfl
  | _ :: _, [], h => by simp at h
  | x :: xs, y :: ys, h => by simp [zip_fst (xs := xs) (ys := ys) (by simpa using h)]
theorem zip_snd {α β : Type} : ∀ {xs : List α} {ys : List β}, xs.length = ys.length → (xs.zip ys).map (·.2) = ys
  | [], [], _ => rfl
  | [], _ :: _, h => by simp at h
  | _ :: _, [], h => by simp at h
  | x :: xs, y :: ys, h => by simp [zip_snd (xs := xs) (ys := ys) (by simpa using h)]
mutual
theorem Da.reads (I : Inv X pins σ H s) (y : Sys H) (k : OffK X.K) : ∀ (d : PyData) (v : V) (u : Value), Da X.K H v d → RelV v u → ∃ as, Reads s.heap u d as ∧ sysModules ∉ as
  | .none, _, _, .non, r => by cases r; exact ⟨_, Reads.none, by simp⟩
  | .bool b, _, _, .bl _, r => by cases r; exact ⟨_, Reads.bool b, by simp⟩
  | .int i, _, _, .int _, r => by obtain ⟨t, rfl⟩ := r; exact ⟨_, Reads.int i t, by simp⟩
  | .str x, _, _, .str _, r => by obtain ⟨t, rfl⟩ := r; exact ⟨_, Reads.str x t, by simp⟩
  | .list ds, _, _, .lst (a := a) hs ha, r => by
    cases r
    obtain ⟨its, rv, ⟨o, n, ho, hc, _, hd⟩, _⟩ := I.list hs
    obtain ⟨as, hr, hn⟩ := DaAll.reads I y k ds _ its ha rv
    have na := off_l y k hs
    exact ⟨_, Reads.list ho hc hd hr, by simp [hn, Ne.symm na]⟩
  | .tuple ds, _, _, .tup hs ha, r => by
    cases r
    obtain ⟨its, rv, ⟨o, ho, hc, n, hd⟩, _⟩ := I.tuple hs
    obtain ⟨as, hr, hn⟩ := DaAll.reads I y k ds _ its ha rv
    exact ⟨_, Reads.tuple ho hc hd hr, hn⟩
  | .dict _, _, _, .dct (a := a) (kvs := kvs) (ds := ds) he ha, r => by
    cases r
    obtain ⟨z, hsy, vs, rel, o, es, ep, ho, hx, hd, hk, hp, nd⟩ := I.hok a _ he
    obtain ⟨rv, ek⟩ := kv_vals rel
    obtain ⟨bs, hr, hn⟩ := DaAll.reads I y k ds _ (vs.map (·.2)) ha rv
    have hl : (kvs.map fun kv => keyD kv.1).length = ds.length := by
      rw [List.length_map, ← ha.len, List.length_map]
    have r1 := pairs_keys (h := s.heap) hp
    rw [ek] at r1
    have r2 := pairs_vals hp
    refine ⟨a :: [] ++ bs, Reads.dict ho hx.1 hd (as := []) ?_ ?_, ?_⟩
    · rw [zip_fst hl]; exact r1
    · rw [zip_snd hl, r2]; exact hr
    · have na : a ≠ sysModules := by simpa using hsy
      simp [hn, Ne.symm na]
theorem DaAll.reads (I : Inv X pins σ H s) (y : Sys H) (k : OffK X.K) : ∀ (ds : List PyData) (vs : List V) (us : List Value), DaAll X.K H vs ds → Vals vs us → ∃ as, ReadsAll s.heap us ds as ∧ sysModules ∉ as
  | [], _, _, .nil, r => by cases r; exact ⟨_, ReadsAll.nil, by simp⟩
  | d :: ds, _, _, .cons h1 h2, r => by
    cases r with
    | cons r1 r2 =>
      obtain ⟨as, q1, n1⟩ := Da.reads I y k d _ _ h1 r1
      obtain ⟨bs, q2, n2⟩ := DaAll.reads I y k ds _ _ h2 r2
      exact ⟨_, ReadsAll.cons q1 q2, by simp [n1, n2]⟩
end

/-- repr(x), x of any data -/
def rRepr (K : PySem.W.Frag) : List V → Hp → VK → Prop := fun xs H Q => ∃ x d, xs = [x] ∧ Da K H x d ∧ Sys H ∧ PyData.showable d = true ∧ d.shown.length ≤ sizeLine ∧ d.depth ≤ 60 ∧ Q (.str d.shown) H
theorem cr_repr (gd : X.A.guards = some []) (hu : X.A.units + 64 < cLine) (k : OffK X.K) : CallR X (.builtin "repr") (rRepr X.K) := by
  intro pins s σ H xs us Q I r h
  obtain ⟨x, d, e, hd, y, hs, hz, hdp, q⟩ := h
  subst e
  obtain ⟨u, e, rx⟩ := vals1 r
  subst e
  cases hd with
  | non => cases rx; exact PySem.P.repr_of_none ⟨.str _, H, I.tok _, ⟨_, rfl⟩, by simpa only [PyData.shown] using q⟩
  | bl b => cases rx; exact PySem.P.repr_of_bool ⟨.str _, H, I.tok _, ⟨_, rfl⟩, by simpa only [PyData.shown] using q⟩
  | int i =>
    obtain ⟨t, rfl⟩ := rx
    have hi : i.natAbs.log2 < 1920 := by simpa [PyData.showable] using hs
    exact PySem.P.repr_of_int hi ⟨.str _, H, I.tok _, ⟨_, rfl⟩, by simpa only [PyData.shown] using q⟩
  | str z =>
    obtain ⟨t, rfl⟩ := rx
    exact PySem.P.repr_of_str ⟨.str _, H, I.tok _, ⟨_, rfl⟩, by simpa only [PyData.shown] using q⟩ (by simpa only [PyData.shown] using hz)
  | @lst a ys ds h1 h2 =>
    cases rx
    obtain ⟨as, hr, hn⟩ := Da.reads I y k _ _ _ (Da.lst h1 h2) (show RelV (.ref a) (.ref a) from rfl)
    exact repr_of_reads' hr hs (fun _ => hn) gd (by omega) (fun _ _ e => e) (fun h' t tk kk => ⟨.str _, H, I.kept kk, ⟨_, rfl⟩, q⟩) hz
  | @tup a ys ds h1 h2 =>
    cases rx
    obtain ⟨as, hr, hn⟩ := Da.reads I y k _ _ _ (Da.tup h1 h2) (show RelV (.ref a) (.ref a) from rfl)
    exact repr_of_reads' hr hs (fun _ => hn) gd (by omega) (fun _ _ e => e) (fun h' t tk kk => ⟨.str _, H, I.kept kk, ⟨_, rfl⟩, q⟩) hz
  | @dct a kvs ds h1 h2 =>
    cases rx
    obtain ⟨as, hr, hn⟩ := Da.reads I y k _ _ _ (Da.dct h1 h2) (show RelV (.ref a) (.ref a) from rfl)
    exact repr_of_reads' hr hs (fun _ => hn) gd (by omega) (fun _ _ e => e) (fun h' t tk kk => ⟨.str _, H, I.kept kk, ⟨_, rfl⟩, q⟩) hz
/-- repr of what is no list, no tuple and no dict: no guard is asked -/
def rReprB : List V → Hp → VK → Prop := fun xs H Q => ∃ b, xs = [.bl b] ∧ Q (.str (if b then "True" else "False")) H
theorem cr_reprB : CallR X (.builtin "repr") rReprB := by
  intro pins s σ H xs us Q I r h
  obtain ⟨b, e, q⟩ := h
  subst e
  obtain ⟨u, e, rx⟩ := vals1 r
  subst e
  cases rx
  exact PySem.P.repr_of_bool ⟨.str _, H, I.tok _, ⟨_, rfl⟩, q⟩
end

/-! ### kinds -/
def tyD : PyData → String
  | .none => "NoneType" | .bool _ => "bool" | .int _ => "int" | .str _ => "str" | .list _ => "list" | .tuple _ => "tuple" | .dict _ => "dict"
theorem tyX_of {K : PySem.W.Frag} {H : Hp} {v : V} {d : PyData} (h : Da K H v d) : TyX K H v (.type (tyD d)) := by
  cases h with
  | non => exact .base .non
  | bl b => exact .base (.bl b)
  | int i => exact .base (.int i)
  | str x => exact .base (.str x)
  | lst h1 h2 =>
    rcases h1 with (h | ⟨o, h⟩) | ⟨o, _, _, h, c, _⟩
    · exact .base (.lst h)
    · exact .base (.frz h)
    · exact .kList h c
  | tup h1 h2 =>
    rcases h1 with (h | ⟨o, h⟩) | ⟨o, _, _, h, c, _⟩
    · exact .base (.tup h)
    · exact .fTuple h
    · exact .kTuple h c
  | dct h1 h2 => exact .base (.dK h1)
end Kg
/-! Kg4: set comprehensions whose members are tuples of ints. -/
namespace Kg
open PySem PySem.Spec PyProof.Rows L2 PpSet
section
variable {P : Program} {w : World} {A : Around} {E : Value → Shared → Prop} {s : Shared} {a : Addr}
/-- found.add((..)) -/
theorem set_add_tup {L : List (Addr × List Int)} {es : Array (Int × Value)} {ep : Nat} {t : SetTable} (R : SetTR P w s.heap a L es ep t)
    {x : Addr} {k : List Int} (hx : IsT P w s.heap k x) (hu : A.units + 1 < cLine) (few : L.length + 1 < 64) {Q : Value → Shared → Prop}
    (q : ∀ h' tk L' es' ep' t', Heap.SameBut a s.heap h' → SetTR P w h' a L' es' ep' t' → (k ∈ L.map (·.2) → L' = L) →
      (k ∉ L.map (·.2) → L'.Perm ((x, k) :: L)) → Q .none { s with heap := h', toks := tk }) :
    wpAny (model P w) A (call (.builtin "set.add") [.ref a, .ref x]) Q E s := by
  obtain ⟨o, ho, hex, hd⟩ := R.ob
  refine wpAny_call_entry F.slot_set_add (show s.TypeIs (.ref a) "set" from ⟨o, ho, hex.1⟩) F.entry_set_add ?_ (F.args_set_add_2 _ _)
  unfold Builtin.«set.add» Builtin.Frozenset.oneOther
  simp only [List.isEmpty_nil, bind_assoc]
  unfold Builtin.Frozenset.addrOf setAdd
  refine wpAny_bind (wpAny_pure ?_)
  try dsimp only
  refine wpAny_bind (wpAny_pure ?_)
  try dsimp only
  refine wpAny_bind ?_
  refine wpAny_holding ?_
  have room : A.in1.units < cLine := hu
  refine wpAny_bind (wpAny_pyHash_tuple room hx ?_)
  refine add_at (s := { s with toks := s.toks + (k.length + 1) }) R hx room few ?_
  intro b h' L' es' ep' t' sb R' c1 c2
  show wpAny _ _ (ret Value.none) _ _ _
  exact wpAny_pure ⟨_, rfl, q h' _ L' es' ep' t' sb R' c1 c2⟩
end

section
variable {X : Cx}
theorem addT_ok {pins : List (Addr × Obj)} {σ : L2.St} {H : Hp} {s : Shared} {E : Value → Shared → Prop} {D x : Addr} {L : List (Addr × List Int)} {k : List Int} {Q : Value → Shared → Prop}
    (I : Inv X pins σ H s) (hu : X.A.units + 1 < cLine) (hD : H D = some (SetTO X.prog X.w D L)) (hL : ∀ p ∈ L, SqT X.K H p.1 (p.2.map V.int))
    (hx : SqT X.K H x (k.map V.int)) (few : L.length + 1 < 64)
    (q : ∀ s' L', Inv X pins σ (upd H D (SetTO X.prog X.w D L')) s' → (k ∈ L.map (·.2) → L' = L) → (k ∉ L.map (·.2) → L'.Perm ((x, k) :: L)) → Q .none s') :
    wpAny (model X.prog X.w) X.A (call (.builtin "set.add") [.ref D, .ref x]) Q E s := by
  have R0 : SetT0 X.prog X.w s.heap D L := (I.hok D _ hD).1
  obtain ⟨es, ep, t, R⟩ := R0.full fun p hp => I.isT (hL p hp)
  refine set_add_tup R (I.isT hx) hu few ?_
  intro h' tk L' es' ep' t' sb R' c1 c2
  obtain ⟨o', ho', _⟩ := R'.ob
  refine q _ L' (I.write (e := D) (t' := tk) (by rw [hD]; trivial) (.inl rfl) ?_ ⟨o', ho'⟩ (setTO_new R'.t0)) c1 c2
  exact fun b u hb hu' => (sb.2 b hb).trans hu'

/-- a comprehension's reading: D the new set, L what it holds -/
def tScT (K : PySem.W.Frag) (P : Program) (w : World) (wi : TI) (g : TG) (tt : TT) (te : TE) (vs : List Nat) : TE := fun σ H Q => wi σ H fun J H1 =>
  ∀ D, H1 D = none → ∃ W : Nat → Nat → Hp → Prop, (∃ m, W 0 m (upd H1 D (SetTO P w D []))) ∧
    ∀ i m H, W i m H → (J.stop i H ∧ Q (.ref D) H) ∨
      (J.go i H ∧ ∃ Nx : Hp → Prop, (∀ H', Nx H' → ∃ m', m' < m ∧ W (i + 1) m' H') ∧
        ∀ x H', J.yld i H x H' → g x (wipe σ vs) H' fun σ2 H2 => wipe σ2 vs = wipe σ vs ∧ tt σ2 H2 fun b H3 =>
          if b = true then te σ2 H3 fun y H4 => ∃ (t : Addr) (k : List Int) (L : List (Addr × List Int)), y = .ref t ∧ SqT K H4 t (k.map V.int) ∧
            H4 D = some (SetTO P w D L) ∧ (∀ p ∈ L, SqT K H4 p.1 (p.2.map V.int)) ∧ L.length + 1 < 64 ∧
            ∀ L', (k ∈ L.map (·.2) → L' = L) → (k ∉ L.map (·.2) → L'.Perm ((t, k) :: L)) → Nx (upd H4 D (SetTO P w D L'))
          else Nx H3)

theorem scT_core {pins : List (Addr × Obj)} {s : Shared} {σ : L2.St} {H : Hp} {Q : VK} {el tg iter : Expr} {ifs : List Expr} {sc : Scope} {ow : List (PySem.Str × Nat)} {pos pos' : Pos} {wi : TI} {g : TG} {tt : TT} {te : TE}
    {use : Option (Value → Sem Unit)} {Qf : Value → Shared → Prop} (hu : X.A.units + 1 < cLine) (hc : X.calm = true) (hN : X.N.Nodup) (I : Inv X pins σ H s)
    (hi : PI X tg iter wi) (ok : BlkOk X.N X.env.scope sc ow)
    (pgs : ∀ (s : Shared) (H : Hp) (C : Addr) (cl : List (PySem.Str × Addr)) (fp : List Addr), PG (X.blk s H sc (compEnvC sc cl C X.env) fp) tg g)
    (pts : ∀ (s : Shared) (H : Hp) (C : Addr) (cl : List (PySem.Str × Addr)) (fp : List Addr), PTs (X.blk s H sc (compEnvC sc cl C X.env) fp) ifs tt)
    (pes : ∀ (s : Shared) (H : Hp) (C : Addr) (cl : List (PySem.Str × Addr)) (fp : List Addr), PE (X.blk s H sc (compEnvC sc cl C X.env) fp) el te)
    (hs : ∀ x, foldedSetIterable iter X.env x = pure x) (h : tScT X.K X.prog X.w wi g tt te (ow.map (·.2)) σ H Q)
    (fine : ∀ D C s' m H', Inv X pins σ H' s' → Q (.ref D) H' → s'.heap.Ns C m → FpOk X pins H' C →
      compPost (model X.prog X.w) X.A X.xe use Qf (.ref D) C (.ok .next) s') :
    wpAny (model X.prog X.w) X.A (comprehension (.SetComp el [⟨tg, iter, ifs, 0⟩] sc pos) sc X.env pos' (newSet (.type "set")) false (eval iter X.env) use) Qf X.xe s := by
  have frees : ∀ y ∈ sc.names, y.2 = .free → ∃ c, X.env.cells.lookup y.1 = some c := by
    intro y hy e
    rcases ok.free y hy e with z | z
    · exact I.ok.has _ (.inl z)
    · exact I.ok.has _ (.inr z)
  refine wpAny_comprehension_free (use := use) rfl hs (closure_ok frees) ok.kind (fun y hy e => by rw [ok.uniq y hy, e]) ?_
  refine thn (hi.run pins s σ H _ I h) ?_
  intro xv s1 hx
  refine thn hx ?_
  rintro itv s2 ⟨it, fp, tn, J, H2, e, I2, T, st2, f2, q⟩
  subst e
  refine newSet_ok (newEnv_comp ?_)
  generalize hD : s2.heap.objs.size = D
  obtain ⟨W, ⟨m0, w0⟩, turn⟩ := q D (I2.hok.fresh (Nat.le_of_eq hD))
  generalize hs3 : ({ s2 with heap := s2.heap.push { cls := .type "set", dict := none, data := .set #[] 0 (.fresh 0 0 (!X.w.params.followText "set-order")) } } : Shared) = s3
  have h3 : s3.heap = s2.heap.push { cls := .type "set", dict := none, data := .set #[] 0 (.fresh 0 0 (!X.w.params.followText "set-order")) } := by rw [← hs3]
  have I3 : Inv X pins σ (upd H2 D (SetTO X.prog X.w D [])) s3 := by
    rw [← hs3]
    refine I2.laid (t' := s2.toks) (fun b o e => Heap.get?_push_of_some _ e) (Nat.le_of_eq hD) ?_
    rw [← hD]
    exact setTO_new (setTR_fresh (P := X.prog) (Heap.get?_push_size _ rfl)).t0
  have szs : ∀ b ∈ fp, b < s2.heap.objs.size := by
    intro b hb
    obtain ⟨o, e, _⟩ := T.obj _ _ st2 b hb
    exact Heap.lt_size e
  have f3 : ∀ b ∈ fp, FpOk X pins (upd H2 D (SetTO X.prog X.w D [])) b ∧ b < s3.heap.objs.size := by
    intro b hb
    have lt := szs b hb
    refine ⟨⟨?_, (f2 b hb).2⟩, by rw [h3, Heap.size_push]; exact Nat.lt_succ_of_lt lt⟩
    rw [upd_ne (hD ▸ Nat.ne_of_lt lt)]
    exact (f2 b hb).1
  have st3 : tn 0 s3.heap := T.keep _ _ _ st2 fun b _ o e => h3 ▸ Heap.get?_push_of_some _ e
  have I4 := block_start I3 ok hN f3
  have pg := pgs s3 (upd H2 D (SetTO X.prog X.w D [])) s3.heap.objs.size (cellsFrom (s3.heap.objs.size + 1) sc.names (cloFrom X.env.cells sc.names [])) fp
  have pt := pts s3 (upd H2 D (SetTO X.prog X.w D [])) s3.heap.objs.size (cellsFrom (s3.heap.objs.size + 1) sc.names (cloFrom X.env.cells sc.names [])) fp
  have pe := pes s3 (upd H2 D (SetTO X.prog X.w D [])) s3.heap.objs.size (cellsFrom (s3.heap.objs.size + 1) sc.names (cloFrom X.env.cells sc.names [])) fp
  show codeAny _ _ (.compStart (.SetComp el [⟨tg, iter, ifs, 0⟩] sc pos) 0 (.ref it) (.ref D)
      (compEnvC sc (cellsFrom (s3.heap.objs.size + 1) sc.names (cloFrom X.env.cells sc.names [])) s3.heap.objs.size X.env))
    (compPost (model X.prog X.w) X.A X.xe use Qf (.ref D) s3.heap.objs.size)
    { s3 with heap := pushCells (s3.heap.push { cls := .type "dict", data := .dict #[] }) sc.names }
  have nfp : ∀ b ∈ fp, (upd H2 D (SetTO X.prog X.w D [])) b = none := fun b hb => (f3 b hb).1.1
  generalize hce : compEnvC sc (cellsFrom (s3.heap.objs.size + 1) sc.names (cloFrom X.env.cells sc.names [])) s3.heap.objs.size X.env = ce at I4 pg pt pe ⊢
  have cL : ce.locals = s3.heap.objs.size := hce ▸ rfl
  generalize hH3 : upd H2 D (SetTO X.prog X.w D []) = H3 at I3 I4 pg pt pe w0 nfp f3
  generalize hs4 : ({ s3 with heap := pushCells (s3.heap.push { cls := .type "dict", data := .dict #[] }) sc.names } : Shared) = s4 at I4 ⊢
  have st4 : tn 0 s4.heap := T.keep _ _ _ st3 fun b _ o e => hs4 ▸ pushCells_keeps _ _ _ _ (Heap.get?_push_of_some _ e)
  have stat : ∀ {σ' : L2.St} {H' : Hp} {s' : Shared}, Inv (X.blk s3 H3 sc ce fp) [] σ' H' s' → (∀ b ∈ fp, H' b = none) →
      ∀ b ∈ fp, FpOk (X.blk s3 H3 sc ce fp) [] H' b := by
    intro σ' H' s' J' hn b hb
    exact ⟨hn b hb, (J'.ok.exf b hb).1, J'.ok.exfs b hb, .inl hb, fun x c e => (J'.ok.exf b hb).2 x c e,
      fun p hp => absurd (show p ∈ ([] : List (Addr × Obj)) ++ [] from hp) (by simp)⟩
  have loop : codeAny (model X.prog X.w) X.A (.compLoop (.SetComp el [⟨tg, iter, ifs, 0⟩] sc pos) 0 (.ref it) (.ref D) ce)
      (compPost (model X.prog X.w) X.A X.xe use Qf (.ref D) s3.heap.objs.size) s4 := by
    refine compLoopS_any (fun n s' => ∃ i H', Inv (X.blk s3 H3 sc ce fp) [] (wipe σ (ow.map (·.2))) H' s' ∧
      tn i s'.heap ∧ (∀ b ∈ fp, H' b = none) ∧ W i n H') ?_ m0 ⟨0, H3, I4, st4, nfp, w0⟩
    rintro n s5 ⟨i, H5, I5, st5, n5, w5⟩
    rcases turn i n H5 w5 with ⟨stop, qq⟩ | ⟨go, Nx, hNx, step⟩
    · refine thnF (T.done (X.blk s3 H3 sc ce fp) rfl rfl rfl hc i [] s5 _ H5 (fun _ _ => False) I5 (stat I5 n5) st5 stop) ?_
      rintro r s6 ⟨hr, I6⟩
      subst hr
      have I7 : Inv X pins σ H5 s6 := I3.call' (ch := fp) I6.os I6.base I6.hok I6.bare fun b hb =>
        ⟨(f3 b hb).1.2.2.2.1, (f3 b hb).1.2.1, (f3 b hb).1.2.2.2.2.1, (f3 b hb).1.2.2.2.2.2⟩
      have nC : H5 s3.heap.objs.size = none := cL ▸ (show H5 ce.locals = none from I6.free)
      obtain ⟨m, hn, _⟩ := I6.loc
      have hn : s6.heap.Ns ce.locals m := hn
      rw [cL] at hn
      exact fine D s3.heap.objs.size s6 m H5 I7 qq hn (I3.fpOk (Nat.le_refl _) nC)
    · refine thnF (T.item (X.blk s3 H3 sc ce fp) rfl rfl rfl hc i [] s5 _ H5 (fun _ _ => False) I5 (stat I5 n5) st5 go) ?_
      rintro r s6 ⟨u, hr, h6⟩
      subst hr
      refine thnF h6 ?_
      rintro _ s7 ⟨x, H7, I7, r7, y7, st7, n7⟩
      refine thnF (pg.run _ s7 _ H7 x u _ (I7.pinned (stat I7 n7) (T.obj _ _ st7)) r7 (step x H7 y7)) ?_
      rintro _ s8 ⟨σ8, H8, I8, hw8, q8⟩
      refine thnF (pt.run _ s8 σ8 H8 _ I8 q8) ?_
      rintro b s9 ⟨H9, I9, q9⟩
      have fin : ∀ {s' : Shared} {H' : Hp}, Inv (X.blk s3 H3 sc ce fp) ([] ++ pinsAt fp s7.heap) σ8 H' s' → Nx H' →
          ∃ m, m < n ∧ ∃ i H', Inv (X.blk s3 H3 sc ce fp) [] (wipe σ (ow.map (·.2))) H' s' ∧ tn i s'.heap ∧ (∀ b ∈ fp, H' b = none) ∧ W i m H' := by
        intro s' H' J' nx
        obtain ⟨m', hm, w'⟩ := hNx H' nx
        have pin' : ∀ b ∈ fp, ∀ o, s7.heap.get? b = some o → s'.heap.get? b = some o ∧ H' b = none := by
          intro b hb o e
          have z := J'.pin (b, o) (List.mem_append_right _ (List.mem_append_right _ (mem_pinsAt hb e)))
          exact ⟨z.1, z.2.1⟩
        have hl : (wipe σ (ow.map (·.2))).length = σ8.length := by rw [← hw8, wipe_length]
        refine ⟨m', hm, i + 1, H', (J'.unpinned (pins := [])).weak hl ?_, T.keep _ _ _ st7 fun b hb o e => (pin' b hb o e).1, ?_, w'⟩
        · intro j v e
          rw [← hw8] at e
          exact (wipe_some e).1
        · intro b hb
          obtain ⟨o, e, _⟩ := T.obj _ _ st7 b hb
          exact (pin' b hb o e).2
      cases b with
      | false =>
        simp only [Bool.false_eq_true, if_false] at q9 ⊢
        exact fin I9 q9
      | true =>
        simp only [if_true] at q9 ⊢
        refine thnF (pe.run _ s9 σ8 H9 _ I9 q9) ?_
        rintro z s10 ⟨yv, H10, I10, r10, t, k, L, ey, ht, hD10, hL, few, nx⟩
        subst ey
        cases (show z = Value.ref t from r10)
        refine addT_ok (X := X.blk s3 H3 sc ce fp) I10 hu hD10 hL ht few ?_
        intro s11 L' I11 c1 c2
        exact fin I11 (nx L' c1 c2)
  exact codeAny_compStart_set loop (T.self X.A 0 _ _ _ st4 loop)
/-- {(..) for x in xs}, a value -/
theorem pe_scT {el tg iter : Expr} {ifs : List Expr} {sc : Scope} {ow : List (PySem.Str × Nat)} {pos : Pos} {wi : TI} {g : TG} {tt : TT} {te : TE} (hu : X.A.units + 1 < cLine) (hc : X.calm = true) (hN : X.N.Nodup)
    (hi : PI X tg iter wi) (ok : BlkOk X.N X.env.scope sc ow)
    (pgs : ∀ (s : Shared) (H : Hp) (C : Addr) (cl : List (PySem.Str × Addr)) (fp : List Addr), PG (X.blk s H sc (compEnvC sc cl C X.env) fp) tg g)
    (pts : ∀ (s : Shared) (H : Hp) (C : Addr) (cl : List (PySem.Str × Addr)) (fp : List Addr), PTs (X.blk s H sc (compEnvC sc cl C X.env) fp) ifs tt)
    (pes : ∀ (s : Shared) (H : Hp) (C : Addr) (cl : List (PySem.Str × Addr)) (fp : List Addr), PE (X.blk s H sc (compEnvC sc cl C X.env) fp) el te)
    (hs : ∀ x, foldedSetIterable iter X.env x = pure x := by intro _; rfl) :
    PE X (.SetComp el [⟨tg, iter, ifs, 0⟩] sc pos) (tScT X.K X.prog X.w wi g tt te (ow.map (·.2))) := by
  constructor
  intro pins s σ H Q I h
  rw [eval_SetComp]
  refine scT_core hu hc hN I hi ok pgs pts pes hs h ?_
  intro D C s' m H' I' q hn f
  refine ⟨m, hn, ?_⟩
  intro h'' sb
  obtain ⟨f0, f1, _, f3, f4, f5⟩ := f
  exact ⟨.ref D, H', I'.turned (t' := s'.toks) (fun b o hb e => (sb.2 b hb).trans e) f0 f1 f3 f4 f5, rfl, q⟩
end
/-- the turns of such a comprehension over a list or a tuple that stands -/
theorem scT_seq {P : Program} {w : World} {K : PySem.W.Frag} {J : It} {xs : List V} {g : TG} {tt : TT} {te : TE} {vs : List Nat} {σ : L2.St} {H1 : Hp} {D : Addr} {Qd : Hp → Prop} (Pv : Nat → Hp → Prop)
    (h0 : Pv 0 (upd H1 D (SetTO P w D []))) (stops : ∀ H, Pv xs.length H → J.stop xs.length H) (goes : ∀ i H, i < xs.length → Pv i H → J.go i H)
    (yields : ∀ i H x H', i < xs.length → Pv i H → J.yld i H x H' → H' = H ∧ xs[i]? = some x)
    (hs : ∀ i x H, xs[i]? = some x → Pv i H → g x (wipe σ vs) H fun σ2 H2 => wipe σ2 vs = wipe σ vs ∧ tt σ2 H2 fun b H3 =>
      if b = true then te σ2 H3 fun y H4 => ∃ (t : Addr) (k : List Int) (L : List (Addr × List Int)), y = .ref t ∧ SqT K H4 t (k.map V.int) ∧
        H4 D = some (SetTO P w D L) ∧ (∀ p ∈ L, SqT K H4 p.1 (p.2.map V.int)) ∧ L.length + 1 < 64 ∧
        ∀ L', (k ∈ L.map (·.2) → L' = L) → (k ∉ L.map (·.2) → L'.Perm ((t, k) :: L)) → Pv (i + 1) (upd H4 D (SetTO P w D L'))
      else Pv (i + 1) H3) (hd : ∀ H, Pv xs.length H → Qd H) :
    ∃ W : Nat → Nat → Hp → Prop, (∃ m, W 0 m (upd H1 D (SetTO P w D []))) ∧
      ∀ i m H, W i m H → (J.stop i H ∧ Qd H) ∨
        (J.go i H ∧ ∃ Nx : Hp → Prop, (∀ H', Nx H' → ∃ m', m' < m ∧ W (i + 1) m' H') ∧
          ∀ x H', J.yld i H x H' → g x (wipe σ vs) H' fun σ2 H2 => wipe σ2 vs = wipe σ vs ∧ tt σ2 H2 fun b H3 =>
            if b = true then te σ2 H3 fun y H4 => ∃ (t : Addr) (k : List Int) (L : List (Addr × List Int)), y = .ref t ∧ SqT K H4 t (k.map V.int) ∧
              H4 D = some (SetTO P w D L) ∧ (∀ p ∈ L, SqT K H4 p.1 (p.2.map V.int)) ∧ L.length + 1 < 64 ∧
              ∀ L', (k ∈ L.map (·.2) → L' = L) → (k ∉ L.map (·.2) → L'.Perm ((t, k) :: L)) → Nx (upd H4 D (SetTO P w D L'))
            else Nx H3) := by
  refine ⟨fun i m H => m = xs.length - i ∧ i ≤ xs.length ∧ Pv i H, ⟨xs.length, by simp, Nat.zero_le _, h0⟩, ?_⟩
  rintro i m H ⟨rfl, hi, p⟩
  by_cases lt : i < xs.length
  · refine .inr ⟨goes i H lt p, Pv (i + 1), fun H' p' => ⟨xs.length - (i + 1), by omega, rfl, lt, p'⟩, ?_⟩
    intro x H' y
    obtain ⟨e, hx⟩ := yields i H x H' lt p y
    subst e
    exact hs i x _ hx p
  · obtain rfl : i = xs.length := by omega
    exact .inl ⟨stops H p, hd H p⟩
end Kg
namespace PySem.SeqAt
open PySem
theorem list_eq_no_dict (l b : Addr) (items : Array Value) (es : Array DictEntry) (n n2 : Nat) (dd dd2 : Option Addr) (sl sl2 : Array (Option Value)) :
    Meets (Builtin.«list.__eq__» ⟨[.ref l, .ref b], []⟩) (fun _ R s =>
      s.heap.get? l = some { cls := .type "list", dict := dd, data := .seq items n, slots := sl } ∧
      s.heap.get? b = some { cls := .type "dict", dict := dd2, data := .dict es n2, slots := sl2 } ∧ R (.ok (.ret .notImplemented)) s) := by
  refine .of_wp fun prog w A R s h => ?_
  obtain ⟨hp, g, d, tk, os⟩ := s
  obtain ⟨hl, hb, h⟩ := h
  have f1 := F.sub_dict_list
  wp_walk using wpAny_loadPart' hl, wpAny_loadPart' hb
  exact ⟨_, rfl, h⟩
section
variable {A : Around} {s : Shared}
/-- a dict is no list -/
theorem RcAt.dict_list {l b : Addr} {items : Array Value} {o : Obj} {es : Array DictEntry} {ep : Nat} (ho : s.heap.get? b = some o) (hx : o.ExactDict)
    (hd : o.data = .dict es ep) (hl : s.heap.IsList l items) (hu : A.units < cLine) : RcAt A s (.ref b) (.ref l) false := by
  intro prog w E Q h
  obtain ⟨⟨c1, d1, a1, s1⟩, h1, k1, n1, e1⟩ := id hl
  obtain ⟨c2, d2, a2, s2⟩ := o
  obtain ⟨k2, _⟩ := hx
  simp only at k1 e1 k2 hd
  subst k1 e1 k2 hd
  have ne : b ≠ l := by
    intro e
    rw [e, h1] at ho
    injection ho with e2
    injection e2 with e3
    injection e3 with e4
    exact absurd e4 (by decide)
  have tb : s.TypeIs (.ref b) "dict" := ⟨_, ho, rfl⟩
  refine rc_eq_decline_or (k := false) tb ⟨_, h1, rfl⟩ (by decide) F.sub_list_dict F.slot_dict_eq F.slot_list_eq_refl ?_ ?_ ?_ (.inr hu) h
  · intro Q' hq
    refine wpAny_call_entry F.slot_dict_eq tb F.entry_dict_eq ?_ (F.args_dict_eq_2 _ _)
    show wpAny _ _ (Builtin.Dict.dictSlotArgs "__eq__" ⟨[.ref b, .ref l], []⟩ >>= _) _ _ s
    refine wpAny_bind ?_
    unfold Builtin.Dict.dictSlotArgs
    refine wpAny_bind (wpAny_notOrdered_dict tb ?_)
    show wpAny _ _ (pure (Value.ref b, Value.ref l)) _ _ s
    refine wpAny_pure ?_
    refine wpAny_bind (wpAny_isInstance (T := "list") ⟨_, h1, rfl⟩ F.sub_list_dict ?_)
    simp only [Bool.not_false, if_true]
    first
      | exact wpAny_pure ⟨_, rfl, hq⟩
      | exact wpAny_bind (wpAny_rule (wpAny_pure ⟨_, rfl, hq⟩))
  · intro Q' hq
    exact call_meets F.slot_list_eq_refl ⟨_, h1, rfl⟩ F.entry_list_eq (F.args_list_eq_2 _ _) (list_eq_no_dict l b items es n1 ep d1 d2 s1 s2) ⟨h1, ho, hq⟩
  · intro Q' hq
    exact wpAny_isSame_ref_other' ne ho h1 (by simp) hq
end
end PySem.SeqAt
namespace Kg
open PySem PySem.Spec PyProof.Rows L2
open Evl (Ex)

theorem pi_or {X : Cx} {tg l : Expr} {t1 t2 : TI} (h1 : PI X tg l t1) (h2 : PI X tg l t2) : PI X tg l (fun σ H R => t1 σ H R ∨ t2 σ H R) := by
  constructor
  intro pins s σ H R I h
  exact h.elim (h1.run pins s σ H R I) (h2.run pins s σ H R I)

mutual
theorem Da.dp {K : PySem.W.Frag} {H : Hp} : ∀ (d : PyData) {v : V}, PyData.canLay0 d = true → Da K H v d → Dp K H v d
  | .none, _, _, .non => .non
  | .bool _, _, _, .bl b => .bl b
  | .int _, _, _, .int i => .int i
  | .str _, _, _, .str x => .str x
  | .list ds, _, h, .lst a b => .lst a (DaAll.dp ds (by simpa [PyData.canLay0] using h) b)
  | .tuple ds, _, h, .tup a b => .tup a (DaAll.dp ds (by simpa [PyData.canLay0] using h) b)
  | .dict _, _, h, _ => by simp [PyData.canLay0] at h
theorem DaAll.dp {K : PySem.W.Frag} {H : Hp} : ∀ (ds : List PyData) {vs : List V}, PyData.canLayAll0 ds = true → DaAll K H vs ds → DpAll K H vs ds
  | [], _, _, .nil => .nil
  | d :: ds, _, h, .cons a b => by
    have h2 : d.canLay0 = true ∧ PyData.canLayAll0 ds = true := by simpa [PyData.canLayAll0] using h
    exact .cons (Da.dp d h2.1 a) (DaAll.dp ds h2.2 b)
end
section
variable {X : Cx}
/-- a dict == a list -/
def rEqDL (K : PySem.W.Frag) : R2 := fun x y H Q => ∃ a b kvs ys, x = .ref a ∧ H a = some (.dK kvs) ∧ y = .ref b ∧ SqL K H b ys ∧ Q (.bl false) H
theorem op_eqDL (hu : X.A.units + 64 < cLine) : OpR X (compareOp .Eq) (rEqDL X.K) := by
  intro pins s σ H x y v u Q I rx ry h
  obtain ⟨a, b, kvs, ys, e1, ha, e2, hb, q⟩ := h
  subst e1
  subst e2
  cases (show v = Value.ref a from rx)
  cases (show u = Value.ref b from ry)
  obtain ⟨_, _, vs, _, o, es, ep, ho, hx, hd, _⟩ := I.hok a _ ha
  obtain ⟨its, _, pl, _⟩ := I.list hb
  exact PySem.SeqAt.RcAt.dict_list ho hx hd pl.isList (by omega) X.prog X.w X.xe _ ⟨.bl _, H, I, rfl, q⟩

/-- len of a new set of tuples -/
def rLenST (P : Program) (w : World) : List V → Hp → VK → Prop := fun xs H Q => ∃ a L, xs = [.ref a] ∧ H a = some (SetTO P w a L) ∧ Q (.int (L.length : Int)) H
theorem cr_lenST : CallR X (.builtin "len") (rLenST X.prog X.w) := by
  intro pins s σ H xs us Q I r h
  obtain ⟨a, L, e, ha, q⟩ := h
  subst e
  obtain ⟨u, e, rx⟩ := vals1 r
  subst e
  cases (show u = Value.ref a from rx)
  have R0 : SetT0 X.prog X.w s.heap a L := (I.hok a _ ha).1
  obtain ⟨es, ep, t, ⟨o, ho, hx, hd⟩, hr, tab, _, _, _, room, few⟩ := R0.ex
  have hl : es.size = L.length := by
    have := congrArg List.length hr
    simpa [rowsOf] using this
  have hp : t.place.size = L.length := by
    have := tab.sz
    rwa [List.length_map] at this
  have fits : t.fits es.size = true := by
    unfold SetTable.fits SetTable.fill
    rw [tab.dm]
    simp only [Bool.and_eq_true, beq_iff_eq, decide_eq_true_eq]
    refine ⟨by rw [hp, hl], ?_⟩
    show t.place.size + 0 ≤ t.mask
    omega
  exact call_len_set ho hx hd fits (by rw [hl]; omega) ⟨.int (L.length : Int), H, (I.tok _), ⟨_, by rw [hl]⟩, q⟩
end
section
variable {X : Cx}
/-- a list of anything against a list without items -/
def rEqNil (K : PySem.W.Frag) : R2 := fun x y H Q => ∃ a b xs, x = .ref a ∧ y = .ref b ∧ SqL K H a xs ∧ SqL K H b [] ∧ Q (.bl xs.isEmpty) H
def rNeNil (K : PySem.W.Frag) : R2 := fun x y H Q => ∃ a b xs, x = .ref a ∧ y = .ref b ∧ SqL K H a xs ∧ SqL K H b [] ∧ Q (.bl (!xs.isEmpty)) H
theorem op_eqNil (hu : X.A.units + 64 < cLine) : OpR X (compareOp .Eq) (rEqNil X.K) := by
  intro pins s σ H x y v u Q I rx ry h
  obtain ⟨a, b, xs, e1, e2, ha, hb, q⟩ := h
  subst e1
  subst e2
  cases (show v = Value.ref a from rx)
  cases (show u = Value.ref b from ry)
  obtain ⟨its, r1, pl, _⟩ := I.list ha
  obtain ⟨its2, r2, pl2, _⟩ := I.list hb
  cases r2
  have room : X.A.units < cLine := by omega
  cases r1 with
  | nil =>
    refine SeqAt.RcAt.lists (e := fun _ => true) pl.isList pl2.isList rfl room ?_ X.prog X.w X.xe _ ⟨.bl _, H, I, rfl, q⟩
    intro j h1
    exact absurd h1 (by simp)
  | cons _ _ =>
    exact SeqAt.RcAt.lists_lengths pl.isList pl2.isList (by simp) room X.prog X.w X.xe _ ⟨.bl _, H, I, rfl, q⟩
theorem op_neNil (hu : X.A.units + 64 < cLine) : OpR X (compareOp .NotEq) (rNeNil X.K) := by
  intro pins s σ H x y v u Q I rx ry h
  obtain ⟨a, b, xs, e1, e2, ha, hb, q⟩ := h
  subst e1
  subst e2
  cases (show v = Value.ref a from rx)
  cases (show u = Value.ref b from ry)
  obtain ⟨its, r1, pl, _⟩ := I.list ha
  obtain ⟨its2, r2, pl2, _⟩ := I.list hb
  cases r2
  have room : X.A.units < cLine := by omega
  cases r1 with
  | nil =>
    refine SeqAt.RcNeAt.lists (e := fun _ => true) pl.isList pl2.isList rfl room ?_ X.prog X.w X.xe _ ⟨.bl _, H, I, rfl, q⟩
    intro j h1
    exact absurd h1 (by simp)
  | cons _ _ =>
    exact SeqAt.RcNeAt.lists_lengths pl.isList pl2.isList (by simp) room X.prog X.w X.xe _ ⟨.bl _, H, I, rfl, q⟩
end
/-- a list comprehension over anything of n turns -/
theorem lc_gen {J : It} (n : Nat) {g : TG} {tt : TT} {te : TE} {vs : List Nat} {σ : L2.St} {H1 : Hp} {D : Addr} {Qd : Hp → Prop} (Pv : Nat → Hp → Prop)
    (h0 : Pv 0 (upd H1 D (.lst []))) (stops : ∀ H, Pv n H → J.stop n H) (goes : ∀ i H, i < n → Pv i H → J.go i H)
    (hs : ∀ i x H H', i < n → Pv i H → J.yld i H x H' → g x (wipe σ vs) H' fun σ2 H2 => wipe σ2 vs = wipe σ vs ∧ tt σ2 H2 fun b H3 =>
      if b = true then te σ2 H3 fun y H4 => ∃ acc, H4 D = some (.lst acc) ∧ acc.length < sizeLine ∧ Pv (i + 1) (upd H4 D (.lst (acc ++ [y]))) else Pv (i + 1) H3)
    (hd : ∀ H, Pv n H → Qd H) :
    ∃ W : Nat → Nat → Hp → Prop, (∃ m, W 0 m (upd H1 D (.lst []))) ∧
      ∀ i m H, W i m H → (J.stop i H ∧ Qd H) ∨
        (J.go i H ∧ ∃ Nx : Hp → Prop, (∀ H', Nx H' → ∃ m', m' < m ∧ W (i + 1) m' H') ∧
          ∀ x H', J.yld i H x H' → g x (wipe σ vs) H' fun σ2 H2 => wipe σ2 vs = wipe σ vs ∧ tt σ2 H2 fun b H3 =>
            if b = true then te σ2 H3 fun y H4 => ∃ acc, H4 D = some (.lst acc) ∧ acc.length < sizeLine ∧ Nx (upd H4 D (.lst (acc ++ [y]))) else Nx H3) := by
  refine ⟨fun i m H => m = n - i ∧ i ≤ n ∧ Pv i H, ⟨n, by simp, Nat.zero_le _, h0⟩, ?_⟩
  rintro i m H ⟨rfl, hi, p⟩
  by_cases lt : i < n
  · refine .inr ⟨goes i H lt p, Pv (i + 1), fun H' p' => ⟨n - (i + 1), by omega, rfl, lt, p'⟩, ?_⟩
    intro x H' y
    exact hs i x H H' lt p y
  · obtain rfl : i = n := by omega
    exact .inl ⟨stops H p, hd H p⟩
/-- xs[:n] -/
theorem cut_to (xs : List V) (n : Nat) : cutV xs none (some (n : Int)) = xs.take n := by
  unfold cutV HT.sIx
  simp only []
  have h : ¬ (n : Int) < 0 := by omega
  simp [h]
theorem ifB {c : Bool} {A B : Prop} (h1 : c = true → A) (h2 : c = false → B) : if c = true then A else B := by
  cases c with
  | true => rw [if_pos rfl]; exact h1 rfl
  | false => rw [if_neg Bool.false_ne_true]; exact h2 rfl
theorem ifT {c : Bool} {A B : Prop} (h : c = true) (h1 : A) : if c = true then A else B := by rw [if_pos h]; exact h1
theorem ifF {c : Bool} {A B : Prop} (h : c = false) (h1 : B) : if c = true then A else B := by
  rw [h, if_neg Bool.false_ne_true]; exact h1
/-- the greatest number that a draw makes -/
theorem mix_bound {a b c u v : Int} (h1 : 0 ≤ a) (h2 : a < 2 ^ 32) (h3 : 0 ≤ b) (h4 : b < 2 ^ 24) (h5 : 0 ≤ c) (h6 : c < 2 ^ 20) (h7 : 0 ≤ u) (h8 : u < 2 ^ 20) (h9 : 0 ≤ v) (h10 : v < 2 ^ 20) :
    (a * b + u * c * c + v).natAbs < 2 ^ 64 := by
  have e1 : a * b ≤ 2 ^ 32 * 2 ^ 24 := Int.mul_le_mul (by omega) (by omega) h3 (by decide)
  have e2 : 0 ≤ a * b := Int.mul_nonneg h1 h3
  have e3 : u * c ≤ 2 ^ 20 * 2 ^ 20 := Int.mul_le_mul (by omega) (by omega) h5 (by decide)
  have e4 : 0 ≤ u * c := Int.mul_nonneg h7 h5
  have e5 : u * c * c ≤ 2 ^ 40 * 2 ^ 20 := Int.mul_le_mul (by omega) (by omega) h5 (by decide)
  have e6 : 0 ≤ u * c * c := Int.mul_nonneg e4 h5
  omega
end Kg
/-! Kg6: what is a number, a square, a list of unlike squares, over data. -/
namespace Kg
open PySem PySem.Spec PyProof.Rows L2
open Evl (Ex)
def isI : PyData → Bool
  | .int _ => true
  | _ => false
def isIB : PyData → Bool
  | .int _ => true
  | .bool _ => true
  | _ => false
def isBo : PyData → Bool
  | .bool _ => true
  | _ => false
def isLi : PyData → Bool
  | .list _ => true
  | _ => false
def isTu : PyData → Bool
  | .tuple _ => true
  | _ => false
def seqOf : PyData → Option (List PyData)
  | .list ds => some ds
  | .tuple ds => some ds
  | _ => none
def intOf : PyData → Option Int
  | .int i => some i
  | _ => none
def sqOf (d : PyData) : Option (Int × Int) := match seqOf d with
  | some [a, b] => match intOf a, intOf b with
    | some x, some y => some (x, y)
    | _, _ => none
  | _ => none
def isSq (d : PyData) : Bool := (sqOf d).isSome
def areSq (d : PyData) : Bool := match seqOf d with
  | some ds => ds.all isSq && decide ((ds.map sqOf).Nodup)
  | none => false
theorem isI_of (d : PyData) : isI d = (isIB d && !isBo d) := by cases d <;> rfl
theorem isI_intOf (d : PyData) : isI d = (intOf d).isSome := by cases d <;> rfl
theorem kit_int : ∀ d : PyData, kitB (tyD d) "int" = some (isIB d)
  | .none => (by decide +kernel : kitB "NoneType" "int" = some false)
  | .bool _ => (by decide +kernel : kitB "bool" "int" = some true)
  | .int _ => (by decide +kernel : kitB "int" "int" = some true)
  | .str _ => (by decide +kernel : kitB "str" "int" = some false)
  | .list _ => (by decide +kernel : kitB "list" "int" = some false)
  | .tuple _ => (by decide +kernel : kitB "tuple" "int" = some false)
  | .dict _ => (by decide +kernel : kitB "dict" "int" = some false)
theorem kit_bool : ∀ d : PyData, kitB (tyD d) "bool" = some (isBo d)
  | .none => (by decide +kernel : kitB "NoneType" "bool" = some false)
  | .bool _ => (by decide +kernel : kitB "bool" "bool" = some true)
  | .int _ => (by decide +kernel : kitB "int" "bool" = some false)
  | .str _ => (by decide +kernel : kitB "str" "bool" = some false)
  | .list _ => (by decide +kernel : kitB "list" "bool" = some false)
  | .tuple _ => (by decide +kernel : kitB "tuple" "bool" = some false)
  | .dict _ => (by decide +kernel : kitB "dict" "bool" = some false)
theorem kit_list : ∀ d : PyData, kitB (tyD d) "list" = some (isLi d)
  | .none => (by decide +kernel : kitB "NoneType" "list" = some false)
  | .bool _ => (by decide +kernel : kitB "bool" "list" = some false)
  | .int _ => (by decide +kernel : kitB "int" "list" = some false)
  | .str _ => (by decide +kernel : kitB "str" "list" = some false)
  | .list _ => (by decide +kernel : kitB "list" "list" = some true)
  | .tuple _ => (by decide +kernel : kitB "tuple" "list" = some false)
  | .dict _ => (by decide +kernel : kitB "dict" "list" = some false)
theorem kit_tuple : ∀ d : PyData, kitB (tyD d) "tuple" = some (isTu d)
  | .none => (by decide +kernel : kitB "NoneType" "tuple" = some false)
  | .bool _ => (by decide +kernel : kitB "bool" "tuple" = some false)
  | .int _ => (by decide +kernel : kitB "int" "tuple" = some false)
  | .str _ => (by decide +kernel : kitB "str" "tuple" = some false)
  | .list _ => (by decide +kernel : kitB "list" "tuple" = some false)
  | .tuple _ => (by decide +kernel : kitB "tuple" "tuple" = some true)
  | .dict _ => (by decide +kernel : kitB "dict" "tuple" = some false)
theorem q_bl {Q : VK} {a b : Bool} {H : Hp} (e : a = b) (q : Q (.bl b) H) : Q (.bl a) H := e ▸ q
theorem isi_at {K : PySem.W.Frag} {H : Hp} {v : V} {d : PyData} {T : String} {b : Bool} {Q : VK} (h : Da K H v d) (e : kitB (tyD d) T = some b) (q : Q (.bl b) H) : rIsi K [v, .ty T] H Q :=
  ⟨v, .ty T, _, _, b, rfl, .ty T, tyX_of h, kit_ty e, q⟩
theorem kit_seq {K : PySem.W.Frag} (d : PyData) : PySem.W.kitAny K (.type (tyD d)) [.type "list", .type "tuple"] = some (seqOf d).isSome := by
  refine kitAny_cons (kit_ty (kit_list d)) (fun h => kitAny_cons (kit_ty (kit_tuple d)) (fun h2 => ?_) (fun h2 => ?_)) (fun h => ?_)
  · rw [kitAny_nil]
    cases d <;> simp_all [seqOf, isLi, isTu]
  · cases d <;> simp_all [seqOf, isLi, isTu]
  · cases d <;> simp_all [seqOf, isLi, isTu]
theorem isiT_at {K : PySem.W.Frag} {H : Hp} {v : V} {d : PyData} {tp : Addr} {Q : VK} (h : Da K H v d) (ht : H tp = some (.tup [.ty "list", .ty "tuple"]))
    (q : Q (.bl (seqOf d).isSome) H) : rIsiT K [v, .ref tp] H Q :=
  ⟨v, tp, _, _, _, _, rfl, ht, .cons (.ty _) (.cons (.ty _) .nil), tyX_of h, kit_seq d, q⟩
/-- a list or a tuple: where it stands, its items -/
theorem seq_at {K : PySem.W.Frag} {H : Hp} {v : V} {d : PyData} {ds : List PyData} (h : Da K H v d) (e : seqOf d = some ds) :
    ∃ (a : Addr) (xs : List V), v = .ref a ∧ (SqL K H a xs ∨ SqT K H a xs) ∧ DaAll K H xs ds := by
  cases h with
  | lst h1 h2 => cases e; exact ⟨_, _, rfl, .inl h1, h2⟩
  | tup h1 h2 => cases e; exact ⟨_, _, rfl, .inr h1, h2⟩
  | _ => cases e
/-- a promise: a truth about one thing's data -/
def spB (K : PySem.W.Frag) (f : PyData → Bool) : Sp := fun vs H Q _ => ∃ v d, vs = [v] ∧ Da K H v d ∧ ∀ H', Ex H H' → Q (.bl (f d)) H'
theorem seq_ex {K : PySem.W.Frag} {H H' : Hp} {a : Addr} {xs : List V} (e : Ex H H') (h : SqL K H a xs ∨ SqT K H a xs) : SqL K H' a xs ∨ SqT K H' a xs :=
  h.imp (Evl.ex_l e) (Evl.ex_t e)
/-- an item of a list or a tuple -/
theorem ix_of {K : PySem.W.Frag} {H : Hp} {a : Addr} {xs : List V} {i : Int} {v : V} {Q : VK} (h : SqL K H a xs ∨ SqT K H a xs) (hi : atI xs i = some v) (q : Q v H) : rIx K (.ref a) (.int i) H Q :=
  h.elim (fun h => .inl ⟨_, _, _, _, rfl, rfl, h, hi, q⟩) (fun h => .inr (.inl ⟨_, _, _, _, rfl, rfl, h, hi, q⟩))
theorem sq_two {d a b : PyData} (e : seqOf d = some [a, b]) : isSq d = (isI a && isI b) := by
  unfold isSq sqOf
  rw [e]
  cases a <;> cases b <;> rfl
theorem sq_not {d : PyData} {ds : List PyData} (e : seqOf d = some ds) (h : ds.length ≠ 2) : isSq d = false := by
  unfold isSq sqOf
  rw [e]
  match ds, h with
  | [], _ => rfl
  | [_], _ => rfl
  | [_, _], h => exact absurd rfl h
  | _ :: _ :: _ :: _, _ => rfl
theorem sq_no {d : PyData} (e : seqOf d = none) : isSq d = false := by
  unfold isSq sqOf
  rw [e]
  rfl
theorem da_two {K : PySem.W.Frag} {H : Hp} {xs : List V} {ds : List PyData} (h : DaAll K H xs ds) (hl : xs.length = 2) : ∃ x y a b, xs = [x, y] ∧ ds = [a, b] ∧ Da K H x a ∧ Da K H y b := by
  match xs, ds, h, hl with
  | [x, y], [a, b], .cons h1 (.cons h2 .nil), _ => exact ⟨x, y, a, b, rfl, rfl, h1, h2⟩
end Kg
/-! Kg7: lists without repetition; what a set of squares holds. -/
namespace Kg
open PySem PySem.Spec PyProof.Rows L2
open Evl (Ex)
theorem len_of_sub {α : Type} [DecidableEq α] : ∀ (M N : List α), M.Nodup → (∀ x ∈ M, x ∈ N) → M.length ≤ N.length
  | [], _, _, _ => Nat.zero_le _
  | x :: M, N, hd, hs => by
    have hx : x ∈ N := hs x List.mem_cons_self
    have hd' := List.nodup_cons.mp hd
    have ih := len_of_sub M (N.erase x) hd'.2 fun y hy =>
      (List.mem_erase_of_ne (show y ≠ x from fun e => hd'.1 (by rw [← e]; exact hy))).mpr (hs y (List.mem_cons_of_mem _ hy))
    rw [List.length_erase_of_mem hx] at ih
    have : 0 < N.length := List.length_pos_of_mem hx
    simp only [List.length_cons]
    omega
theorem dup_of {α : Type} [DecidableEq α] : ∀ (N : List α), ¬ N.Nodup → ∃ x, x ∈ N ∧ ∀ y ∈ N, y ∈ N.erase x
  | [], h => absurd List.nodup_nil h
  | a :: N, h => by
    by_cases ha : a ∈ N
    · refine ⟨a, List.mem_cons_self, ?_⟩
      intro y hy
      rw [List.erase_cons_head]
      rcases List.mem_cons.mp hy with e | hy
      · exact e ▸ ha
      · exact hy
    · have hN : ¬ N.Nodup := fun q => h (List.nodup_cons.mpr ⟨ha, q⟩)
      obtain ⟨x, hx, hall⟩ := dup_of N hN
      refine ⟨x, List.mem_cons_of_mem _ hx, ?_⟩
      have ne : ¬ (a == x) = true := by
        intro e
        exact ha (by rw [beq_iff_eq.mp e]; exact hx)
      intro y hy
      rw [List.erase_cons, if_neg ne]
      rcases List.mem_cons.mp hy with e | hy
      · rw [e]; exact List.mem_cons_self
      · exact List.mem_cons_of_mem _ (hall y hy)
/-- as many unlike ones as there are: all are unlike -/
theorem len_iff_nodup {α : Type} [DecidableEq α] {M N : List α} (hd : M.Nodup) (h : ∀ x, x ∈ M ↔ x ∈ N) : M.length = N.length ↔ N.Nodup := by
  constructor
  · intro e
    rcases Classical.em N.Nodup with q | hN
    · exact q
    · obtain ⟨x, hx, hall⟩ := dup_of N hN
      have := len_of_sub M (N.erase x) hd fun y hy => hall y ((h y).mp hy)
      rw [List.length_erase_of_mem hx] at this
      have : 0 < N.length := List.length_pos_of_mem hx
      omega
  · intro hN
    have a := len_of_sub M N hd fun x => (h x).mp
    have b := len_of_sub N M hN fun x => (h x).mpr
    omega
/-- a square's two numbers -/
def keyOf (d : PyData) : List Int := match sqOf d with
  | some (x, y) => [x, y]
  | none => []
theorem keys_nodup {ds : List PyData} (h : ds.all isSq = true) : (ds.map keyOf).Nodup ↔ (ds.map sqOf).Nodup := by
  have inj : ∀ a ∈ ds, ∀ b ∈ ds, keyOf a = keyOf b ↔ sqOf a = sqOf b := by
    intro a ha b hb
    have h1 : isSq a = true := List.all_eq_true.mp h a ha
    have h2 : isSq b = true := List.all_eq_true.mp h b hb
    unfold keyOf
    unfold isSq at h1 h2
    match e1 : sqOf a, e2 : sqOf b with
    | some (x, y), some (z, u) => simp
    | none, _ => rw [e1] at h1; cases h1
    | some _, none => rw [e2] at h2; cases h2
  clear h
  induction ds with
  | nil => simp
  | cons d ds ih =>
    simp only [List.map_cons, List.nodup_cons, List.mem_map, not_exists, not_and]
    have ih' := ih fun a ha b hb => inj a (List.mem_cons_of_mem _ ha) b (List.mem_cons_of_mem _ hb)
    constructor
    · rintro ⟨a, b⟩
      exact ⟨fun x hx e => a x hx ((inj x (List.mem_cons_of_mem _ hx) d List.mem_cons_self).mpr e), ih'.mp b⟩
    · rintro ⟨a, b⟩
      exact ⟨fun x hx e => a x hx ((inj x (List.mem_cons_of_mem _ hx) d List.mem_cons_self).mp e), ih'.mpr b⟩
/-- a square as data: a list or a tuple of its two numbers -/
theorem sq_at {K : PySem.W.Frag} {H : Hp} {v : V} {d : PyData} (h : Da K H v d) (e : isSq d = true) :
    ∃ (a : Addr) (x y : Int), v = .ref a ∧ sqOf d = some (x, y) ∧ (SqL K H a [.int x, .int y] ∨ SqT K H a [.int x, .int y]) := by
  match hs : seqOf d with
  | none => rw [sq_no hs] at e; cases e
  | some ds =>
    by_cases hl : ds.length = 2
    · obtain ⟨a, xs, ev, hq, ha⟩ := seq_at h hs
      obtain ⟨x, y, da, db, e1, e2, h1, h2⟩ := da_two ha (ha.len.trans hl)
      subst e1 e2
      rw [sq_two hs] at e
      obtain ⟨i1, i2⟩ := Bool.and_eq_true_iff.mp e
      cases h1 <;> first | cases i1 | skip
      cases h2 <;> first | cases i2 | skip
      exact ⟨a, _, _, ev, by unfold sqOf; rw [hs]; rfl, hq⟩
    · rw [sq_not hs hl] at e; cases e
/-- what a set of squares holds behind i items -/
structure Held (K : PySem.W.Frag) (P : Program) (w : World) (D : Addr) (H1 : Hp) (ds : List PyData) (i : Nat) (H : Hp) : Prop where
  ex : Ex H1 H
  it : ∃ L : List (Addr × List Int), H D = some (SetTO P w D L) ∧ (∀ p ∈ L, SqT K H p.1 (p.2.map V.int)) ∧
    (∀ k, k ∈ L.map (·.2) ↔ k ∈ (ds.take i).map keyOf) ∧ (L.map (·.2)).Nodup ∧ L.length ≤ i
theorem take_one {α : Type} {l : List α} {i : Nat} {x : α} (h : l[i]? = some x) : l.take (i + 1) = l.take i ++ [x] := by
  rw [List.take_add_one, h]; rfl
theorem Held.turn {K : PySem.W.Frag} {P : Program} {w : World} {D t : Addr} {H1 H2 : Hp} {ds : List PyData} {i : Nat} {d : PyData} {L L' : List (Addr × List Int)}
    (ex : Ex H1 H2) (h0 : H1 D = none) (hd : ds[i]? = some d) (hD : H2 D = some (SetTO P w D L)) (hL : ∀ p ∈ L, SqT K H2 p.1 (p.2.map V.int)) (ht : SqT K H2 t ((keyOf d).map V.int))
    (hk : ∀ k, k ∈ L.map (·.2) ↔ k ∈ (ds.take i).map keyOf) (nd : (L.map (·.2)).Nodup) (hl : L.length ≤ i)
    (c1 : keyOf d ∈ L.map (·.2) → L' = L) (c2 : keyOf d ∉ L.map (·.2) → L'.Perm ((t, keyOf d) :: L)) : Held K P w D H1 ds (i + 1) (upd H2 D (SetTO P w D L')) := by
  have keep : ∀ p xs, SqT K H2 p xs → SqT K (upd H2 D (SetTO P w D L')) p xs := by
    intro p xs h
    rcases h with (h | ⟨o, h⟩) | h
    · refine .inl (.inl ((upd_ne ?_).trans h))
      intro e; rw [e, hD] at h; cases h
    · refine .inl (.inr ⟨o, (upd_ne ?_).trans h⟩)
      intro e; rw [e, hD] at h; cases h
    · exact .inr h
  refine ⟨Evl.Ex.mut ex h0, L', upd_same, ?_, ?_, ?_, ?_⟩
  · intro p hp
    refine keep _ _ ?_
    by_cases c : keyOf d ∈ L.map (·.2)
    · rw [c1 c] at hp; exact hL p hp
    · rcases List.mem_cons.mp ((c2 c).mem_iff.mp hp) with e | hp
      · rw [e]; exact ht
      · exact hL p hp
  · intro k
    rw [take_one hd, List.map_append, List.mem_append]
    by_cases c : keyOf d ∈ L.map (·.2)
    · rw [c1 c, hk]
      constructor
      · exact .inl
      · rintro (h | h)
        · exact h
        · rw [List.map_cons, List.map_nil, List.mem_singleton] at h
          rw [h]; exact (hk _).mp c
    · have pm := (c2 c).map (·.2)
      rw [pm.mem_iff, List.map_cons, List.mem_cons, hk]
      simp only [List.map_cons, List.map_nil, List.mem_singleton]
      exact Or.comm
  · by_cases c : keyOf d ∈ L.map (·.2)
    · rw [c1 c]; exact nd
    · have pm := (c2 c).map (·.2)
      rw [pm.nodup_iff, List.map_cons]
      exact List.nodup_cons.mpr ⟨c, nd⟩
  · by_cases c : keyOf d ∈ L.map (·.2)
    · rw [c1 c]; omega
    · rw [(c2 c).length_eq, List.length_cons]; omega
/-- the pairs of a list of squares -/
def prs (ds : List PyData) : List (Int × Int) := ds.filterMap sqOf
theorem prs_some {ds : List PyData} (h : ds.all isSq = true) : ds.map sqOf = (prs ds).map some := by
  induction ds with
  | nil => rfl
  | cons d ds ih =>
    simp only [List.all_cons, Bool.and_eq_true] at h
    obtain ⟨h1, h2⟩ := h
    unfold isSq at h1
    obtain ⟨z, hz⟩ := Option.isSome_iff_exists.mp h1
    unfold prs
    rw [List.filterMap_cons_some hz, List.map_cons, List.map_cons, hz, ih h2]
    rfl
theorem prs_len {ds : List PyData} (h : ds.all isSq = true) : (prs ds).length = ds.length := by
  have := congrArg List.length (prs_some h)
  simpa using this.symm
theorem prs_at {ds : List PyData} (h : ds.all isSq = true) {i : Nat} {d : PyData} (hd : ds[i]? = some d) : ∃ z, (prs ds)[i]? = some z ∧ sqOf d = some z := by
  have e := congrArg (·[i]?) (prs_some h)
  simp only [List.getElem?_map, hd, Option.map_some] at e
  cases q : (prs ds)[i]? with
  | none => rw [q] at e; cases e
  | some z => rw [q] at e; exact ⟨z, rfl, Option.some.inj e⟩
theorem nodup_some {α : Type} (zs : List α) : (zs.map some).Nodup ↔ zs.Nodup := by
  induction zs with
  | nil => simp
  | cons z zs ih =>
    simp only [List.map_cons, List.nodup_cons, List.mem_map, not_exists, not_and]
    constructor
    · rintro ⟨a, b⟩
      exact ⟨fun hz => a z hz rfl, ih.mp b⟩
    · rintro ⟨a, b⟩
      exact ⟨fun x hx e => a (Option.some.inj e ▸ hx), ih.mpr b⟩
def pairL (z : Int × Int) : PyData := .list [.int z.1, .int z.2]
theorem pairL_shaped (z : Int × Int) : SeqAt.shaped (pairL z) = true := by
  simp [pairL, SeqAt.shaped, PyData.canLay0, PyData.canLayAll0, PyData.depth, PyData.depthAll]
theorem pairLs_lay : ∀ zs : List (Int × Int), PyData.canLayAll0 (zs.map pairL) = true
  | [] => by simp [PyData.canLayAll0]
  | z :: zs => by simp [PyData.canLayAll0, pairLs_lay zs, pairL, PyData.canLay0]
theorem pairLs_depth : ∀ zs : List (Int × Int), PyData.depthAll (zs.map pairL) ≤ 1
  | [] => by simp [PyData.depthAll]
  | z :: zs => by
    have := pairLs_depth zs
    simp only [List.map_cons, PyData.depthAll, pairL, PyData.depth]
    omega
theorem pairLs_shaped (zs : List (Int × Int)) : SeqAt.shaped (.list (zs.map pairL)) = true := by
  have := pairLs_depth zs
  unfold SeqAt.shaped
  rw [PyData.canLay0, pairLs_lay, Bool.true_and, PyData.depth]
  exact decide_eq_true (by omega)
theorem pairL_eqv (z u : Int × Int) : PyData.eqv (pairL z) (pairL u) = decide (z = u) := by
  obtain ⟨a, b⟩ := z
  obtain ⟨c, d⟩ := u
  simp only [pairL, PyData.eqv, PyData.eqvAll, Bool.and_true]
  by_cases h1 : a = c <;> by_cases h2 : b = d <;> simp [h1, h2]
theorem pairLs_any (zs : List (Int × Int)) (u : Int × Int) : ((zs.map pairL).any fun z => PyData.eqv z (pairL u)) = decide (u ∈ zs) := by
  induction zs with
  | nil => simp
  | cons z zs ih =>
    rw [List.map_cons, List.any_cons, ih, pairL_eqv]
    by_cases h : z = u
    · simp [h]
    · have h2 : ¬ u = z := fun e => h e.symm
      simp [h, h2]
theorem nodup_next {α : Type} [DecidableEq α] {zs : List α} {i : Nat} {z : α} (h : zs[i]? = some z) : (zs.take (i + 1)).Nodup ↔ (zs.take i).Nodup ∧ z ∉ zs.take i := by
  rw [take_one h, List.nodup_append]
  constructor
  · rintro ⟨a, _, c⟩
    exact ⟨a, fun hz => c z hz z (List.mem_singleton.mpr rfl) rfl⟩
  · rintro ⟨a, b⟩
    exact ⟨a, by simp, fun x hx y hy e => b (by rw [List.mem_singleton] at hy; rw [← hy, ← e]; exact hx)⟩
/-- rows of two numbers, at their places -/
structure Rows2 (H : Hp) (rs : List Addr) (zs : List (Int × Int)) : Prop where
  len : rs.length = zs.length
  row : ∀ (j : Nat) (r : Addr) (z : Int × Int), rs[j]? = some r → zs[j]? = some z → H r = some (.lst [.int z.1, .int z.2])
theorem Rows2.mono {H H' : Hp} {rs : List Addr} {zs : List (Int × Int)} (e : Ex H H') (h : Rows2 H rs zs) : Rows2 H' rs zs := ⟨h.len, fun j r z a b => e _ _ (h.row j r z a b)⟩
theorem Rows2.dp {K : PySem.W.Frag} {H : Hp} : ∀ {rs : List Addr} {zs : List (Int × Int)}, Rows2 H rs zs → DpAll K H (rs.map V.ref) (zs.map pairL)
  | [], [], _ => .nil
  | [], _ :: _, h => absurd h.len (by simp)
  | _ :: _, [], h => absurd h.len (by simp)
  | r :: rs, z :: zs, h => .cons (.lst (SqL.of (h.row 0 r z rfl rfl)) (.cons (.int _) (.cons (.int _) .nil)))
      (Rows2.dp ⟨by simpa using h.len, fun j r' z' a b => h.row (j + 1) r' z' (by simpa using a) (by simpa using b)⟩)
theorem Rows2.take {H : Hp} {rs : List Addr} {zs : List (Int × Int)} (h : Rows2 H rs zs) (i : Nat) : Rows2 H (rs.take i) (zs.take i) := by
  refine ⟨by simp [h.len], ?_⟩
  intro j r z a b
  by_cases hj : j < i
  · rw [List.getElem?_take_of_lt hj] at a b
    exact h.row j r z a b
  · rw [List.getElem?_take_eq_none (by omega)] at a
    cases a
/-- data that is shown in a short text -/
structure Fit (n : Nat) (d : PyData) : Prop where
  sh : d.showable = true
  lv : d.leavesShort 70 = true
  wt : d.weight ≤ n
  dp : d.depth ≤ 3
theorem Fit.mono {n m : Nat} {d : PyData} (h : Fit n d) (l : n ≤ m) : Fit m d := ⟨h.sh, h.lv, Nat.le_trans h.wt l, h.dp⟩
theorem log_le {n : Nat} (h : n ≤ 2 * 10 ^ 60) : n.log2 ≤ 201 := by
  rcases Nat.eq_zero_or_pos n with e | hp
  · subst e; decide
  · have h1 : n < 2 ^ 202 := Nat.lt_of_le_of_lt h (by decide)
    have := (Nat.log2_lt (by omega)).mpr h1
    omega
theorem fit_int {i : Int} (h : i.natAbs ≤ 2 * 10 ^ 60) : Fit 202 (.int i) where
  sh := by
    have := log_le h
    simp [PyData.showable]
    omega
  lv := by
    have h1 : i.natAbs < 10 ^ 61 := Nat.lt_of_le_of_lt h (by decide)
    have e := int_text_length_le10 (k := 61) (by decide) h1
    simp only [PyData.leavesShort, decide_eq_true_eq]
    show (Str.ofString (toString i)).length ≤ 70
    rw [PySem.ofString_length]
    omega
  wt := by
    have := log_le h
    simp only [PyData.weight]
    split <;> omega
  dp := by simp [PyData.depth]
theorem fit_seq {n : Nat} {ds : List PyData} (m : Nat) (hl : ds.length ≤ m) (h : ∀ d ∈ ds, Fit n d ∧ d.depth ≤ 2) : Fit (m * (n + 1)) (.list ds) ∧ Fit (m * (n + 1)) (.tuple ds) := by
  have a1 : PyData.showableAll ds = true := PySem.Spec.showableAll_of fun d hd => (h d hd).1.sh
  have a2 : ∀ ds : List PyData, (∀ d ∈ ds, Fit n d ∧ d.depth ≤ 2) → PyData.leavesShortAll 70 ds = true ∧ PyData.weightAll ds ≤ ds.length * (n + 1) ∧ PyData.depthAll ds ≤ 2 := by
    intro ds
    induction ds with
    | nil => intro _; simp [PyData.leavesShortAll, PyData.weightAll, PyData.depthAll]
    | cons d ds ih =>
      intro h
      obtain ⟨b1, b2, b3⟩ := ih fun x hx => h x (List.mem_cons_of_mem _ hx)
      obtain ⟨c, c2⟩ := h d List.mem_cons_self
      have := c.wt
      refine ⟨by simp [PyData.leavesShortAll, c.lv, b1], ?_, ?_⟩
      · simp only [PyData.weightAll, List.length_cons, Nat.succ_mul]
        omega
      · simp only [PyData.depthAll]
        omega
  obtain ⟨b1, b2, b3⟩ := a2 ds h
  have b4 : ds.length * (n + 1) ≤ m * (n + 1) := Nat.mul_le_mul_right _ hl
  refine ⟨⟨by simpa [PyData.showable] using a1, by simpa [PyData.leavesShort] using b1, ?_, ?_⟩, ⟨by simpa [PyData.showable] using a1, by simpa [PyData.leavesShort] using b1, ?_, ?_⟩⟩
  · simp only [PyData.weight]; omega
  · simp only [PyData.depth]; omega
  · simp only [PyData.weight]; omega
  · simp only [PyData.depth]; omega
theorem Fit.line {n : Nat} {d : PyData} (h : Fit n d) (hn : n ≤ 200000) : d.shown.length ≤ sizeLine := by
  have := PyData.shown_le 70 (by decide) d h.lv
  have := h.wt
  rw [sizeLine_eq]
  omega
end Kg
/-! Kg3: the end of a law's row: the law's def, called where no guard runs, the modules' dict known. -/
namespace Kg
open PySem PySem.Spec PyProof.Rows L2

/-- what is tracked at the entry: the script and the modules' dict, both known, neither to be written -/
def Only2 (H : Hp) : Prop := ∀ b u, H b = some u → ∃ o u', u = .frz o u'
/-- what the top's callers know of their place -/
structure Entry (K : PySem.W.Frag) (H : Hp) (a : Addr) (ns : List Int) : Prop where
  only : Only2 H
  sys : Sys H
  script : SqL K H a (ns.map V.int)
  ne : a ≠ sysModules

section
variable {P : Program} {w : World} {K : PySem.W.Frag} {mg mb : Str → Option Value} {k : Nat} {fa a : Addr} {fd : FuncData} {x : Str} {sp : Sp} {s₁ : Shared} {vs : List Value} {ns : List Int}
/-- from an abstract heap in which known things alone are tracked -/
theorem call_from (KX : K.In s₁.heap) (hns : s₁.heap.Ns mainGlobals mg) (hb : s₁.heap.Ns builtinsNs mb)
    (hbb : ∀ x : Str, x ≠ "__name__" → mb x = bootBuiltins x) (hlim : s₁.heap.NoLimit) (hg : s₁.gens = #[]) (hr : Room k callerA)
    (F : ∀ base : Heap, K.In base → base.Ns mainGlobals mg → FnG P w K mg base CX0 k fa fd [x] sp)
    (hbind : ∀ (s : Shared) (u : Value), BindsTo s fd ⟨[u], []⟩ [(x, u)])
    (H : Hp) (hO : Only2 H) (hok : HOk P w H s₁.heap) (offK : ∀ b, H b ≠ none → K.lookup b = none)
    (offN : H mainGlobals = none ∧ H builtinsNs = none ∧ H cStatics = none)
    (hsp : sp [.ref a] H (fun v _ => v = .bl true) fun _ _ _ => False) :
    codeAny (model P w) callerA (.call (.ref fa) ⟨[.ref a], []⟩)
      (fun r s' => r = .ok (.ret (.bool true)) ∧ OldK s₁.heap s'.heap ∧ s'.os = s₁.os ∧ AllBare s'.gens) s₁ := by
  have inK : K.In (hidT s₁.heap H) := by
    intro b o e
    refine hidT_get (KX b o e) ?_
    cases q : H b with
    | none => rfl
    | some u => rw [offK b (by rw [q]; simp)] at e; cases e
  have ns_in : ∀ {b : Addr} {m : Str → Option Value}, H b = none → s₁.heap.Ns b m → (hidT s₁.heap H).Ns b m := by
    rintro b m n ⟨o, es, ep, e, d, r⟩
    exact ⟨o, es, ep, hidT_get e n, d, r⟩
  have hM : Mod K mg (hidT s₁.heap H) :=
    ⟨inK, ns_in offN.1 hns, ⟨mb, ns_in offN.2.1 hb, hbb⟩, hlim.elim fun mc z => ⟨mc, ns_in offN.2.2 z.1, z.2⟩⟩
  have e0 : Env0 P w K mg (hidT s₁.heap H) callerA [] s₁ H :=
    ⟨rfl, hM, fun b o e => of_hidT e, Nat.le_of_eq (hidT_size _ _), trivial, fun b hb => absurd (show b ∈ ([] : List Addr) from hb) (by simp), hok, .of_eq hg⟩
  have it := (F _ inK (ns_in offN.1 hns)).goes callerA [] s₁ H ⟨[.ref a], []⟩ [.ref a] [.ref a] _ _ hr rfl e0 (hbind s₁ (.ref a)) (.cons rfl .nil) hsp
  refine codeAny_mono it ?_
  rintro (e | fl) s' h
  · exact False.elim h
  · cases fl with
    | ret u =>
      obtain ⟨v, H', os, bare, un, hok', r', q⟩ := h
      obtain rfl : v = .bl true := q
      obtain rfl : u = Value.bool true := r'
      refine ⟨rfl, OldK.of_keep ?_, os, bare⟩
      intro b o e
      cases q : H b with
      | none => exact un.keep b o e q (fun z => nomatch (show b ∈ ([] : List Addr) from z)) (by simp)
      | some u =>
        obtain ⟨ob, u', rfl⟩ := hO b u q
        have e1 := (hok b _ q).1
        have e2 := (hok' b _ (un.frzs b ob _ q)).1
        rw [e] at e1; cases e1
        exact e2
    | next => exact False.elim h
    | brk => exact False.elim h
    | cont => exact False.elim h

theorem lawG_call (KX : K.In s₁.heap) (hns : s₁.heap.Ns mainGlobals mg) (hb : s₁.heap.Ns builtinsNs mb)
    (hbb : ∀ x : Str, x ≠ "__name__" → mb x = bootBuiltins x) (hlim : s₁.heap.NoLimit) (hg : s₁.gens = #[]) (hmods : ∃ mm, s₁.heap.Ns sysModules mm) (off : OffK K)
    (ha : s₁.heap.get? a = some { cls := .type "list", data := .seq vs.toArray }) (hi : IntsAre vs ns) (hl : ns.length ≤ sizeLine) (hr : Room k callerA)
    (F : ∀ base : Heap, K.In base → base.Ns mainGlobals mg → FnG P w K mg base CX0 k fa fd [x] sp)
    (hbind : ∀ (s : Shared) (u : Value), BindsTo s fd ⟨[u], []⟩ [(x, u)]) (hlow : a ≠ sysModules)
    (hsp : ∀ H : Hp, Entry K H a ns → sp [.ref a] H (fun v _ => v = .bl true) fun _ _ _ => False) :
    codeAny (model P w) callerA (.call (.ref fa) ⟨[.ref a], []⟩)
      (fun r s' => r = .ok (.ret (.bool true)) ∧ OldK s₁.heap s'.heap ∧ s'.os = s₁.os ∧ AllBare s'.gens) s₁ := by
  have rv := vals_ints hi
  have lenV := hi.length
  obtain ⟨mm, om, _, _, hm, _⟩ := hmods
  have isNs : ∀ {b : Addr} {m : Str → Option Value}, s₁.heap.Ns b m → b ≠ a := by
    rintro b m ⟨o, es, ep, e, d, r⟩ rfl
    rw [ha] at e; cases e
    cases (show Data.seq vs.toArray _ = Data.dict es ep from d)
  have n1 : mainGlobals ≠ a := isNs hns
  have n2 : builtinsNs ≠ a := isNs hb
  have n3 : cStatics ≠ a := hlim.elim fun mc z => isNs z.1
  cases hk : K.lookup a with
  | some o =>
    have e := KX a o hk
    rw [ha] at e; cases e
    let H : Hp := fun b => if b = sysModules then some (.frz om (.ext fun _ => True)) else none
    have hH : H sysModules = some (.frz om (.ext fun _ => True)) := if_pos rfl
    have hN : ∀ b, b ≠ sysModules → H b = none := fun b h => if_neg h
    have hU : ∀ b u, H b = some u → b = sysModules ∧ u = .frz om (.ext fun _ => True) := by
      intro b u z
      by_cases h : b = sysModules
      · subst h; rw [hH] at z; cases z; exact ⟨rfl, rfl⟩
      · rw [hN b h] at z; cases z
    refine call_from KX hns hb hbb hlim hg hr F hbind H ?_ ?_ ?_ ⟨hN _ (by decide), hN _ (by decide), hN _ (by decide)⟩ (hsp H ⟨?_, ⟨om, _, hH⟩, ?_, hlow⟩)
    · intro b u z; exact ⟨_, _, (hU b u z).2⟩
    · intro b u z
      obtain ⟨rfl, rfl⟩ := hU b u z
      exact ⟨hm, trivial, ⟨om, hm⟩, fun _ _ _ _ => trivial⟩
    · intro b z
      cases q : H b with
      | none => exact absurd q z
      | some u => rw [(hU b u q).1]; exact off
    · intro b u z; exact ⟨_, _, (hU b u z).2⟩
    · exact .inr ⟨_, vs.toArray, _, hk, rfl, rfl, rfl, by rw [List.size_toArray, lenV]; exact hl, by simpa using rv⟩
  | none =>
    let H : Hp := fun b => if b = sysModules then some (.frz om (.ext fun _ => True)) else if b = a then some (.frz { cls := .type "list", data := .seq vs.toArray } (.lst (ns.map V.int))) else none
    have hH : H sysModules = some (.frz om (.ext fun _ => True)) := if_pos rfl
    have hA : H a = some (.frz { cls := .type "list", data := .seq vs.toArray } (.lst (ns.map V.int))) := (if_neg hlow).trans (if_pos rfl)
    have hN : ∀ b, b ≠ sysModules → b ≠ a → H b = none := fun b h g => (if_neg h).trans (if_neg g)
    have hU : ∀ b u, H b = some u → (b = sysModules ∧ u = .frz om (.ext fun _ => True)) ∨ (b = a ∧ u = .frz { cls := .type "list", data := .seq vs.toArray } (.lst (ns.map V.int))) := by
      intro b u z
      by_cases h : b = sysModules
      · subst h; rw [hH] at z; cases z; exact .inl ⟨rfl, rfl⟩
      · by_cases g : b = a
        · subst g; rw [hA] at z; cases z; exact .inr ⟨rfl, rfl⟩
        · rw [hN b h g] at z; cases z
    have hF : Only2 H := by
      intro b u z
      rcases hU b u z with ⟨_, e⟩ | ⟨_, e⟩ <;> exact ⟨_, _, e⟩
    refine call_from KX hns hb hbb hlim hg hr F hbind H hF ?_ ?_ ⟨hN _ (by decide) n1, hN _ (by decide) n2, hN _ (by decide) n3⟩ (hsp H ⟨hF, ⟨om, _, hH⟩, ?_, hlow⟩)
    · intro b u z
      rcases hU b u z with ⟨rfl, rfl⟩ | ⟨rfl, rfl⟩
      · exact ⟨hm, trivial, ⟨om, hm⟩, fun _ _ _ _ => trivial⟩
      · exact ⟨ha, by rw [List.length_map]; exact hl, vs, _, rv, ha⟩
    · intro b z
      cases q : H b with
      | none => exact absurd q z
      | some u =>
        rcases hU b u q with ⟨e, _⟩ | ⟨e, _⟩
        · rw [e]; exact off
        · rw [e]; exact hk
    · exact .inl (.inr ⟨_, hA⟩)
end

section
open PySem.W PySem.Calls
theorem walkG {l : OpenLaw} {n k : Nat} {q : Program} {loose : List Str} {XP : (Str → Option Value) → Heap → Prop} {YP : World → Heap → Prop}
    {d : DefRec} {K : Params → Frag} {sp : Frag → Sp} {x : Str} (himp : importsNone q = true) (hn : l.most = some n) (hn2 : n ≤ sizeLine) (hdf : d.params.defaults = []) (hr : Room k callerA)
    (hY : ∀ (w : World) (h : Heap), YP w h → (K w.params).In h)
    (F : ∀ (w : World) (mg : Str → Option Value) (fa : Addr) (h : Heap), (K w.params).In h → h.Ns mainGlobals mg → mg d.name = some (.ref fa) →
      OffK (K w.params) ∧ ∃ fd : FuncData, (∀ (s : Shared) (u : Value), BindsTo s fd ⟨[u], []⟩ [(x, u)]) ∧
        ∀ base : Heap, (K w.params).In base → base.Ns mainGlobals mg → FnG l.prog w (K w.params) mg base CX0 k fa fd [x] (sp (K w.params)))
    (hsp : ∀ (K : Frag) (H : Hp) (a : Addr) (ns : List Int), ns.length ≤ n → OffK K → Entry K H a ns → sp K [.ref a] H (fun v _ => v = .bl true) fun _ _ _ => False) :
    WalkO q loose XP YP l.row.toRowW d [] (fun f vs => PySem.call f vs) := by
  intro w s₀ s₁ mg mb G Y fa o pm cd doc dV kV ho hd hcd hD hmg hg args vals as hpre hlay hrd hwl hlo
  cases Dflts.none hD hdf
  cases Dflts.noKw hD
  obtain ⟨a, vs, ns, e1, e2, hobj, hints, hlen⟩ := Att.script_of hn hpre hwl
  subst e1
  subst e2
  have low : a ≠ sysModules := by
    cases hrd with
    | cons r _ =>
      cases r with
      | list h1 h2 h3 h4 => exact beq_eq_false_iff_ne.mp (hlo a (by simp))
  have KX := hY w _ Y
  obtain ⟨off, fd, hb, hF⟩ := F w mg fa _ KX G.T.g hmg
  have it := lawG_call (P := l.prog) KX G.T.g G.T.b G.T.builtins G.T.nolimit hg ((G.T.seer himp).mods.elim fun mm z => ⟨mm, z.1⟩) off hobj hints (Nat.le_trans hlen hn2) hr hF hb low
    fun H e => hsp (K w.params) H a ns hlen off e
  refine enter_call (codeAny_mono it ?_)
  rintro r s' ⟨rfl, h2, h3, h4⟩
  refine ⟨.inl ⟨.bool true, .bool true, [], rfl, fun _ => rfl, .bool true, Att.post_true l _, ?_⟩, h2, h3, h4⟩
  exact fun _ => ⟨List.Pairwise.nil, fun _ hm => nomatch hm⟩
end
end Kg
/-! Kg11: the end of a law's row, some of whose defs hold lambdas: cs, their code objects and these one's tables. -/
namespace Kg
open PySem PySem.Spec PyProof.Rows L2
open PySem.W (tabObj CodeHd)

/-- what the top's callers know of their place -/
structure EntryT (K : PySem.W.Frag) (cs : List (Addr × Addr)) (H : Hp) (a : Addr) (ns : List Int) : Prop where
  sys : Sys H
  script : SqL K H a (ns.map V.int)
  ne : a ≠ sysModules
  tabs : ∀ p ∈ cs, H p.2 = some (.tbl #[])
/-- what a heap must show of the defs with lambdas -/
structure TabsIn (h : Heap) (cs : List (Addr × Addr)) : Prop where
  empty : ∀ p ∈ cs, h.get? p.2 = some (tabObj #[])
  head : ∀ p ∈ cs, CodeHd h p.1 p.2
def Mains (mg : Str → Option Value) (h : Heap) : Prop :=
  ∃ (bm : Addr) (ob : Obj), mg "__builtins__" = some (.ref bm) ∧ bm ≠ builtinsNs ∧ h.get? bm = some ob ∧ ob.cls = .type "module" ∧ ob.dict = some builtinsNs ∧ ob.data = .plain

section
variable {P : Program} {w : World} {K : PySem.W.Frag} {mg mb : Str → Option Value} {k : Nat} {fa a : Addr} {fd : FuncData} {x : Str} {sp : Sp} {s₁ : Shared} {vs : List Value} {ns : List Int} {cs : List (Addr × Addr)}
theorem callT_from (KX : K.In s₁.heap) (hns : s₁.heap.Ns mainGlobals mg) (hb : s₁.heap.Ns builtinsNs mb)
    (hbb : ∀ x : Str, x ≠ "__name__" → mb x = bootBuiltins x) (hlim : s₁.heap.NoLimit) (hg : s₁.gens = #[]) (hr : Room k callerA)
    (T : TabsIn s₁.heap cs) (hbm : Mains mg s₁.heap)
    (F : ∀ base : Heap, K.In base → base.Ns mainGlobals mg → (∀ p ∈ cs, LamX.TabB base mg p.1 p.2) → FnG P w K mg base CX0 k fa fd [x] sp)
    (hbind : ∀ (s : Shared) (u : Value), BindsTo s fd ⟨[u], []⟩ [(x, u)])
    (H : Hp) (kinds : ∀ b u, H b = some u → (∃ o u', u = .frz o u' ∧ ((∃ vs n, o.data = .seq vs n) ∨ ∃ es ep, o.data = .dict es ep) ∧ b ≠ mainGlobals ∧ b ≠ builtinsNs ∧ b ≠ cStatics) ∨ (b ∈ cs.map (·.2) ∧ u = .tbl #[]))
    (htab : ∀ p ∈ cs, H p.2 = some (.tbl #[])) (hok : HOk P w H s₁.heap) (offK : ∀ b, H b ≠ none → K.lookup b = none)
    (hsp : sp [.ref a] H (fun v _ => v = .bl true) fun _ _ _ => False) :
    codeAny (model P w) callerA (.call (.ref fa) ⟨[.ref a], []⟩)
      (fun r s' => r = .ok (.ret (.bool true)) ∧ OldK s₁.heap s'.heap ∧ s'.os = s₁.os ∧ AllBare s'.gens) s₁ := by
  have isTab : ∀ {b : Addr}, b ∈ cs.map (·.2) → ∃ p ∈ cs, p.2 = b ∧ s₁.heap.get? b = some (tabObj #[]) := by
    intro b hb
    obtain ⟨p, hp, e⟩ := List.mem_map.mp hb
    exact ⟨p, hp, e, e ▸ T.empty p hp⟩
  have frzAt : ∀ {b : Addr} {o : Obj} {u : HO}, H b = some (.frz o u) → s₁.heap.get? b = some o := fun e => (hok _ _ e).1
  -- a thing of another kind is not tracked
  have plain : ∀ {b : Addr} {o : Obj}, s₁.heap.get? b = some o → (∀ vs n, o.data ≠ .seq vs n) → (∀ es ep, o.data ≠ .dict es ep) → o.data ≠ .fields #[] → H b = none := by
    intro b o e h1 h2 h3
    cases q : H b with
    | none => rfl
    | some u =>
      rcases kinds b u q with ⟨o', u', rfl, kd, _⟩ | ⟨hb, _⟩
      · have z := frzAt q
        rw [e] at z; cases z
        rcases kd with ⟨v, n, z⟩ | ⟨es, ep, z⟩
        · exact absurd z (h1 _ _)
        · exact absurd z (h2 _ _)
      · obtain ⟨_, _, _, z⟩ := isTab hb
        rw [e] at z; cases z
        exact absurd rfl h3
  have inK : K.In (hidT s₁.heap H) := by
    intro b o e
    refine hidT_get (KX b o e) ?_
    cases q : H b with
    | none => rfl
    | some u => rw [offK b (by rw [q]; simp)] at e; cases e
  have isNs : ∀ {b : Addr} {m : Str → Option Value}, s₁.heap.Ns b m → (b = mainGlobals ∨ b = builtinsNs ∨ b = cStatics) → H b = none := by
    rintro b m ⟨o, es, ep, e, d, _⟩ which
    cases q : H b with
    | none => rfl
    | some u =>
      rcases kinds b u q with ⟨o', u', rfl, _, n1, n2, n3⟩ | ⟨hb, _⟩
      · rcases which with z | z | z
        · exact absurd z n1
        · exact absurd z n2
        · exact absurd z n3
      · obtain ⟨_, _, _, z⟩ := isTab hb
        rw [e] at z; cases z
        cases d
  have ns_in : ∀ {b : Addr} {m : Str → Option Value}, (b = mainGlobals ∨ b = builtinsNs ∨ b = cStatics) → s₁.heap.Ns b m → (hidT s₁.heap H).Ns b m := by
    intro b m wh q
    have n := isNs q wh
    obtain ⟨o, es, ep, e, d, r⟩ := q
    exact ⟨o, es, ep, hidT_get e n, d, r⟩
  have hM : Mod K mg (hidT s₁.heap H) :=
    ⟨inK, ns_in (.inl rfl) hns, ⟨mb, ns_in (.inr (.inl rfl)) hb, hbb⟩, hlim.elim fun mc z => ⟨mc, ns_in (.inr (.inr rfl)) z.1, z.2⟩⟩
  have e0 : Env0 P w K mg (hidT s₁.heap H) callerA [] s₁ H :=
    ⟨rfl, hM, fun b o e => of_hidT e, Nat.le_of_eq (hidT_size _ _), trivial, fun b hb => absurd (show b ∈ ([] : List Addr) from hb) (by simp), hok, .of_eq hg⟩
  have TB : ∀ p ∈ cs, LamX.TabB (hidT s₁.heap H) mg p.1 p.2 := by
    intro p hp
    have tp := T.empty p hp
    constructor
    · obtain ⟨o, us, file, tf, flags, tg, inF, text, tt, e1, r1, r2, r3, more⟩ := T.head p hp
      refine ⟨o, us, file, tf, flags, tg, inF, text, tt, hidT_get e1 (plain e1 ?_ ?_ ?_), r1, r2, r3, more⟩
      · intro v n z; rw [r2] at z; cases z
      · intro v n z; rw [r2] at z; cases z
      · intro z; rw [r2] at z; cases z; simp at r3
    · obtain ⟨bm, ob, b1, b2, b3, b4, b5, b6⟩ := hbm
      refine ⟨bm, ob, b1, b2, ?_, ?_, hidT_get b3 (plain b3 ?_ ?_ ?_), b4, b5, b6⟩
      · rintro rfl
        obtain ⟨o, es, ep, e, d, _⟩ := hns
        rw [e] at b3; cases b3
        rw [d] at b6; cases b6
      · rintro rfl
        rw [tp] at b3; cases b3
        cases b6
      · intro v n z; rw [b6] at z; cases z
      · intro v n z; rw [b6] at z; cases z
      · intro z; rw [b6] at z; cases z
    · intro z
      obtain ⟨o, es, ep, e, d, _⟩ := hns
      rw [z, tp] at e; cases e
      cases d
  have it := (F _ inK (ns_in (.inl rfl) hns) TB).goes callerA [] s₁ H ⟨[.ref a], []⟩ [.ref a] [.ref a] _ _ hr rfl e0 (hbind s₁ (.ref a)) (.cons rfl .nil) hsp
  refine codeAny_mono it ?_
  rintro (e | fl) s' h
  · exact False.elim h
  · cases fl with
    | ret u =>
      obtain ⟨v, H', os, bare, un, hok', r', q⟩ := h
      obtain rfl : v = .bl true := q
      obtain rfl : u = Value.bool true := r'
      have stays : ∀ b o, b ∉ cs.map (·.2) → s₁.heap.get? b = some o → s'.heap.get? b = some o := by
        intro b o nb e
        cases q : H b with
        | none => exact un.keep b o e q (fun z => nomatch (show b ∈ ([] : List Addr) from z)) (by simp)
        | some u =>
          rcases kinds b u q with ⟨ob, u', rfl, _⟩ | ⟨hb, _⟩
          · have e1 := frzAt q
            have e2 := (hok' b _ (un.frzs b ob _ q)).1
            rw [e] at e1; cases e1
            exact e2
          · exact absurd hb nb
      have grew : ∀ p ∈ cs, ∃ more : Array Value, s'.heap.get? p.2 = some (tabObj more) := by
        intro p hp
        obtain ⟨more, z⟩ := un.tbls p.2 #[] (htab p hp)
        exact ⟨_, hok' p.2 _ z⟩
      refine ⟨rfl, ⟨fun b o e => ?_, fun b o e => ?_⟩, os, bare⟩
      · by_cases hb : b ∈ cs.map (·.2)
        · obtain ⟨p, hp, rfl, e'⟩ := isTab hb
          obtain ⟨more, hm⟩ := grew p hp
          rw [e'] at e; cases e
          exact .inr (.inl ⟨((T.head p hp).tab e').isCodeTable, rfl, #[], more, rfl, by rw [Array.empty_append]; exact hm⟩)
        · exact .inl (stays b o hb e)
      · by_cases hb : b ∈ cs.map (·.2)
        · obtain ⟨p, hp, rfl, _⟩ := isTab hb
          obtain ⟨more, hm⟩ := grew p hp
          exact ⟨_, hm⟩
        · exact ⟨o, stays b o hb e⟩
    | next => exact False.elim h
    | brk => exact False.elim h
    | cont => exact False.elim h

theorem lawT_call (KX : K.In s₁.heap) (hns : s₁.heap.Ns mainGlobals mg) (hb : s₁.heap.Ns builtinsNs mb)
    (hbb : ∀ x : Str, x ≠ "__name__" → mb x = bootBuiltins x) (hlim : s₁.heap.NoLimit) (hg : s₁.gens = #[]) (hmods : ∃ mm, s₁.heap.Ns sysModules mm) (off : OffK K)
    (T : TabsIn s₁.heap cs) (hbm : Mains mg s₁.heap) (offT : ∀ p ∈ cs, K.lookup p.2 = none)
    (ha : s₁.heap.get? a = some { cls := .type "list", data := .seq vs.toArray }) (hi : IntsAre vs ns) (hl : ns.length ≤ sizeLine) (hr : Room k callerA)
    (F : ∀ base : Heap, K.In base → base.Ns mainGlobals mg → (∀ p ∈ cs, LamX.TabB base mg p.1 p.2) → FnG P w K mg base CX0 k fa fd [x] sp)
    (hbind : ∀ (s : Shared) (u : Value), BindsTo s fd ⟨[u], []⟩ [(x, u)]) (hlow : a ≠ sysModules)
    (hsp : ∀ H : Hp, EntryT K cs H a ns → sp [.ref a] H (fun v _ => v = .bl true) fun _ _ _ => False) :
    codeAny (model P w) callerA (.call (.ref fa) ⟨[.ref a], []⟩)
      (fun r s' => r = .ok (.ret (.bool true)) ∧ OldK s₁.heap s'.heap ∧ s'.os = s₁.os ∧ AllBare s'.gens) s₁ := by
  have rv := vals_ints hi
  have lenV := hi.length
  obtain ⟨mm, om, ees, eep, hm, hmd, _⟩ := hmods
  let lo : Obj := { cls := .type "list", data := .seq vs.toArray }
  let tr : Bool := (K.lookup a).isNone
  let H : Hp := fun b => if b = sysModules then some (.frz om (.ext fun _ => True)) else if b ∈ cs.map (·.2) then some (.tbl #[]) else if b = a ∧ tr = true then some (.frz lo (.lst (ns.map V.int))) else none
  have isTab : ∀ {b : Addr}, b ∈ cs.map (·.2) → s₁.heap.get? b = some (tabObj #[]) := by
    intro b hb
    obtain ⟨p, hp, e⟩ := List.mem_map.mp hb
    exact e ▸ T.empty p hp
  have sysNot : sysModules ∉ cs.map (·.2) := by
    intro z
    have e := isTab z
    rw [hm] at e; cases e
    cases hmd
  have aNot : a ∉ cs.map (·.2) := by
    intro z
    have e := isTab z
    rw [ha] at e
    have z' : Data.seq vs.toArray _ = Data.fields #[] := congrArg Obj.data (Option.some.inj e)
    cases z'
  have hS : H sysModules = some (.frz om (.ext fun _ => True)) := if_pos rfl
  have hTb : ∀ {b : Addr}, b ∈ cs.map (·.2) → H b = some (.tbl #[]) := by
    intro b hb
    have n : ¬ b = sysModules := fun e => sysNot (e ▸ hb)
    exact (if_neg n).trans (if_pos hb)
  have hA : K.lookup a = none → H a = some (.frz lo (.lst (ns.map V.int))) := by
    intro e
    have t : tr = true := by show (K.lookup a).isNone = true; rw [e]; rfl
    exact (if_neg hlow).trans ((if_neg aNot).trans (if_pos ⟨rfl, t⟩))
  have hU : ∀ b u, H b = some u → (b = sysModules ∧ u = .frz om (.ext fun _ => True)) ∨ (b ∈ cs.map (·.2) ∧ u = .tbl #[]) ∨ (b = a ∧ K.lookup a = none ∧ u = .frz lo (.lst (ns.map V.int))) := by
    intro b u z
    by_cases h1 : b = sysModules
    · subst h1; rw [hS] at z; cases z; exact .inl ⟨rfl, rfl⟩
    · by_cases h2 : b ∈ cs.map (·.2)
      · rw [hTb h2] at z; cases z; exact .inr (.inl ⟨h2, rfl⟩)
      · have z' := (if_neg h1).symm.trans z
        have z'' := (if_neg h2).symm.trans z'
        by_cases h3 : b = a ∧ tr = true
        · have z3 := (if_pos h3).symm.trans z''
          cases z3
          exact .inr (.inr ⟨h3.1, Option.isNone_iff_eq_none.mp h3.2, rfl⟩)
        · have z3 := (if_neg h3).symm.trans z''
          cases z3
  have isNs : ∀ {b : Addr} {m : Str → Option Value}, s₁.heap.Ns b m → b ≠ a := by
    rintro b m ⟨o, es, ep, e, d, r⟩ rfl
    rw [ha] at e; cases e
    cases (show Data.seq vs.toArray _ = Data.dict es ep from d)
  have n1 : a ≠ mainGlobals := (isNs hns).symm
  have n2 : a ≠ builtinsNs := (isNs hb).symm
  have n3 : a ≠ cStatics := hlim.elim fun mc z => (isNs z.1).symm
  refine callT_from KX hns hb hbb hlim hg hr T hbm F hbind H ?_ (fun p hp => hTb (List.mem_map.mpr ⟨p, hp, rfl⟩)) ?_ ?_ (hsp H ⟨⟨om, _, hS⟩, ?_, hlow, fun p hp => hTb (List.mem_map.mpr ⟨p, hp, rfl⟩)⟩)
  · intro b u z
    rcases hU b u z with ⟨rfl, rfl⟩ | h | ⟨rfl, _, rfl⟩
    · exact .inl ⟨_, _, rfl, .inr ⟨ees, eep, hmd⟩, by decide, by decide, by decide⟩
    · exact .inr h
    · exact .inl ⟨_, _, rfl, .inl ⟨_, _, rfl⟩, n1, n2, n3⟩
  · intro b u z
    rcases hU b u z with ⟨rfl, rfl⟩ | ⟨hb, rfl⟩ | ⟨rfl, _, rfl⟩
    · exact ⟨hm, trivial, ⟨om, hm⟩, fun _ _ _ _ => trivial⟩
    · exact isTab hb
    · exact ⟨ha, by rw [List.length_map]; exact hl, vs, _, rv, ha⟩
  · intro b z
    cases q : H b with
    | none => exact absurd q z
    | some u =>
      rcases hU b u q with ⟨e, _⟩ | ⟨hb, _⟩ | ⟨e, hk, _⟩
      · rw [e]; exact off
      · obtain ⟨p, hp, e⟩ := List.mem_map.mp hb
        exact e ▸ offT p hp
      · rw [e]; exact hk
  · cases hk : K.lookup a with
    | none => exact .inl (.inr ⟨_, hA hk⟩)
    | some o =>
      have e := KX a o hk
      rw [ha] at e; cases e
      exact .inr ⟨_, vs.toArray, _, hk, rfl, rfl, rfl, by rw [List.size_toArray, lenV]; exact hl, by simpa using rv⟩
end

section
open PySem.W PySem.Calls
/-- what the text says of the defs with lambdas: their names -/
def NamesTab (q : Program) (K : Frag) (cs : List (Addr × Addr)) : Prop := ∀ p ∈ cs, K.lookup p.2 = none ∧ ∃ (x : Str) (d : DefRec), (recsOf q).find? (fun e => e.name == x) = some d ∧ tabIn K x = some (p.1, p.2)
theorem walkT {l : OpenLaw} {n k : Nat} {q : Program} {loose : List Str} {XP : (Str → Option Value) → Heap → Prop} {YP : World → Heap → Prop}
    {d : DefRec} {K : Params → Frag} {sp : Frag → List (Addr × Addr) → Sp} {x : Str} (himp : importsNone q = true) (hn : l.most = some n) (hn2 : n ≤ sizeLine) (hdf : d.params.defaults = []) (hr : Room k callerA)
    (hY : ∀ (w : World) (h : Heap), YP w h → (K w.params).In h)
    (F : ∀ (w : World) (mg : Str → Option Value) (fa : Addr) (h : Heap), (K w.params).In h → h.Ns mainGlobals mg → mg d.name = some (.ref fa) →
      OffK (K w.params) ∧ ∃ (fd : FuncData) (cs : List (Addr × Addr)), NamesTab q (K w.params) cs ∧ (∀ (s : Shared) (u : Value), BindsTo s fd ⟨[u], []⟩ [(x, u)]) ∧
        ∀ base : Heap, (K w.params).In base → base.Ns mainGlobals mg → (∀ p ∈ cs, LamX.TabB base mg p.1 p.2) → FnG l.prog w (K w.params) mg base CX0 k fa fd [x] (sp (K w.params) cs))
    (hsp : ∀ (K : Frag) (cs : List (Addr × Addr)) (H : Hp) (a : Addr) (ns : List Int), ns.length ≤ n → OffK K → EntryT K cs H a ns → sp K cs [.ref a] H (fun v _ => v = .bl true) fun _ _ _ => False) :
    WalkO q loose XP YP l.row.toRowW d [] (fun f vs => PySem.call f vs) := by
  intro w s₀ s₁ mg mb G Y fa o pm cd doc dV kV ho hd hcd hD hmg hg args vals as hpre hlay hrd hwl hlo
  cases Dflts.none hD hdf
  cases Dflts.noKw hD
  obtain ⟨a, vs, ns, e1, e2, hobj, hints, hlen⟩ := Att.script_of hn hpre hwl
  subst e1
  subst e2
  have low : a ≠ sysModules := by
    cases hrd with
    | cons r _ =>
      cases r with
      | list h1 h2 h3 h4 => exact beq_eq_false_iff_ne.mp (hlo a (by simp))
  have KX := hY w _ Y
  obtain ⟨off, fd, cs, nt, hb, hF⟩ := F w mg fa _ KX G.T.g hmg
  have T : TabsIn s₁.heap cs := ⟨fun p hp => (nt p hp).2.elim fun x z => z.elim fun d z => (tab_of G.T KX z.1 z.2).2, fun p hp => (nt p hp).2.elim fun x z => z.elim fun d z => (tab_of G.T KX z.1 z.2).1⟩
  have it := lawT_call (P := l.prog) KX G.T.g G.T.b G.T.builtins G.T.nolimit hg ((G.T.seer himp).mods.elim fun mm z => ⟨mm, z.1⟩) off T G.T.bmain (fun p hp => (nt p hp).1) hobj hints (Nat.le_trans hlen hn2) hr hF hb low
    fun H e => hsp (K w.params) cs H a ns hlen off e
  refine enter_call (codeAny_mono it ?_)
  rintro r s' ⟨rfl, h2, h3, h4⟩
  refine ⟨.inl ⟨.bool true, .bool true, [], rfl, fun _ => rfl, .bool true, Att.post_true l _, ?_⟩, h2, h3, h4⟩
  exact fun _ => ⟨List.Pairwise.nil, fun _ hm => nomatch hm⟩
end
theorem tab_mk {K : PySem.W.Frag} {x : Str} {f c P : Addr} {oc ot : Value} {od ot' : Option Addr} {fd : FuncData} {sl sl' : Array (Option Value)} {vs : Array Value} (a : PySem.W.nsIn K mainGlobals x = some (some (.ref f)))
    (l : K.lookup f = some ⟨oc, od, .func fd, sl⟩) (hc : fd.code = .ref c) (lc : K.lookup c = some ⟨ot, ot', .fields vs, sl'⟩) (hv : vs[11]? = some (.ref P)) : PySem.W.tabIn K x = some (c, P) := by
  unfold PySem.W.tabIn
  simp only [a, l, hc, lc, hv]
section
variable {P : Program} {w : World} {K : PySem.W.Frag} {mg : Str → Option Value} {base : Heap}
/-- a def by its body, its code object told -/
theorem okGc {x qual : Str} {st : Stmt} {f : Addr} {fd : FuncData} {N ps : List Str} {k : Nat} {sp : Sp} (F : Fun K x qual st f fd)
    (S : FnScope N ps (defScope st)) (many : ∀ vs H Q E, sp vs H Q E → vs.length = ps.length)
    (its_body : ∀ (cdv : Value) (A : Around) (outer : List Env) (s : Shared) (H : Hp) (vs : List V) (Q : VK) (E : XK), fd.code = cdv →
      Room k (A.deeper (envOfC qual (defScope st) s.heap.objs.size f cdv)) → A.guards = some [] → sp vs H Q E →
      ∃ t, PSs (cxOf CX0 P w K mg base N qual (defScope st) f cdv A outer s H E).nox (defBody st) t ∧
        t { nx := fun _ H' => Q .non H', rt := Q } (start N vs) H) : FnG P w K mg base CX0 (k + 1) f fd ps sp := by
  obtain ⟨oc, od, kV, doc, pm, an, cdv, ct, osl, e, lk, hcd⟩ := F.ex
  subst e
  refine fnG_of lk hcd S many ?_
  intro A outer s H vs Q E hr hg hs
  obtain ⟨t, h, q⟩ := its_body cdv A outer s H vs Q E rfl hr hg hs
  exact ⟨t, h.nox, q⟩
end
end Kg
/-! Kg9: an own error that is caught and kept: try: .. except C as n: kept = n; later isinstance(kept, D) and kept.f. -/
namespace Kg
open PySem PySem.Spec PyProof.Rows L2

/-- the object at a is an error of the class at C, with its dict at d -/
def Kept (a C d : Addr) : Heap → Prop := fun h => ∃ (o : Obj) (vs : Array Value), h.get? a = some o ∧ Zc (.ref C) (some d) o ∧ o.data = .fields vs
def kept (a C d : Addr) : HO := .ext (Kept a C d)
theorem kept_ok {P : Program} {w : World} {H : Hp} {h : Heap} {a C d : Addr} (z : Kept a C d h) : ObjOk P w H h a (kept a C d) := by
  refine ⟨z, ?_, ?_⟩
  · obtain ⟨o, _, e, _⟩ := z; exact ⟨o, e⟩
  · rintro h1 h2 ⟨o, vs, e, q, r⟩ k
    exact ⟨o, vs, k o e, q, r⟩
theorem kept_at {P : Program} {w : World} {H : Hp} {h : Heap} {a C d : Addr} (ok : HOk P w H h) (e : H a = some (kept a C d)) : Kept a C d h := by
  have z : ObjOk P w H h a (.ext (Kept a C d)) := ok a _ e
  exact z.1

section
variable {X : Cx} {pins : List (Addr × Obj)} {σ : L2.St} {H : Hp} {s : Shared}
/-- what was not there at the entry may be told of from now on -/
theorem Inv.tell {a : Addr} {o : Obj} {vs : Array Value} {u : HO} (I : Inv X pins σ H s) (at_a : s.heap.get? a = some o) (da : o.data = .fields vs) (na : H a = none)
    (young : X.s_0.heap.get? a = none) (off : a ≠ X.env.locals) (noPin : ∀ p ∈ X.pn ++ pins, p.1 ≠ a) (ok : ∀ H', ObjOk X.prog X.w H' s.heap a u) : Inv X pins σ (upd H a u) s := by
  have was : ∀ {b : Addr} {t : HO}, H b = some t → upd H a u b = some t := by
    intro b t e
    rw [upd_ne (fun z => by rw [z, na] at e; cases e)]
    exact e
  have U := I.base
  have notCell : ∀ x c, X.env.cells.lookup x = some c → c ≠ a := by
    rintro x c e rfl
    obtain ⟨v, o', e1, e2⟩ := I.cell x c e
    rw [at_a] at e1; cases e1
    rw [da] at e2; cases e2
  constructor
  · exact I.ok
  · exact I.os
  · exact I.bare
  · constructor
    · exact U.keep
    · exact U.slot
    · intro b t e n x
      rw [upd_ne (fun z => by rw [z, young] at e; cases e)]
      exact U.free b t e n x
    · exact U.there
    · exact fun b xs e => was (U.tups b xs e)
    · exact fun b t v e => was (U.frzs b t v e)
    · intro b ps e
      obtain ⟨more, q⟩ := U.tbls b ps e
      exact ⟨more, was q⟩
  · exact I.loc
  · exact I.cell
  · rw [upd_ne (Ne.symm off)]; exact I.free
  · intro x c e
    rw [upd_ne (notCell x c e)]
    exact I.freeC x c e
  · intro p hp
    obtain ⟨z1, z2, z3⟩ := I.pin p hp
    exact ⟨z1, (upd_ne (noPin p hp)).trans z2, z3⟩
  · intro b t e
    by_cases hb : b = a
    · subst hb
      rw [upd_same] at e; cases e
      exact ok _
    · rw [upd_ne hb] at e
      exact (I.hok b t e).stay (fun _ _ _ q => q) (fun c q => was q) fun c xs q => was q
  · exact I.len
end

/-- the clause 'except c as n' (n in slot i), whose suite goes on behind the try; every error of the body is of c -/
def wKeep (K : PySem.W.Frag) (c : Value) (i n : Nat) (ts : Addr → Value → Option Addr → TS) (D : Ends) : WX := fun cls d σ H =>
  ∃ C e : Addr, cls = .ref C ∧ d = some e ∧ PySem.W.exmOne K (.ref C) c = some true ∧ (σ.length = n → ∀ a, H a = none →
    ts a (.ref C) (some e) { nx := fun σ' H' => H' a = none ∧ D.nx (σ'.set i none) (upd H' a (kept a C e)), rt := fun _ _ => False, bk := fun _ _ => False, ct := fun _ _ => False } (σ.set i (some (.ref a))) H)

section
variable {X : Cx} {x n : Str} {c : Value} {i : Nat} {body more : List Stmt} {first : Stmt} {np pos pos' : Pos} {tb : WX → TS} {ts : Addr → Value → Option Addr → TS}
theorem ps_try_keep (hs : X.stack = X.env :: X.outer) (hf : X.env.frame = some X.env.locals) (hex : X.ex = []) (nd : X.N.Nodup) (hi : X.N[i]? = some n) (hln : X.env.kindOf n = some .local) (hc : Names X x c)
    (hb : ∀ (W : WX) (pn : List (Addr × Obj)) (xe : Value → Shared → Prop), Takes (X.tr pn xe) W → PassesOwn (model X.prog X.w) X.A X.env xe → PSs (X.tr pn xe) body (tb W))
    (hsu : ∀ (a : Addr) (oe : Obj) (cls : Value) (d : Option Addr) (pn : List (Addr × Obj)), Zc cls d oe → (∃ vs, oe.data = .fields vs) → PSs (X.suite a ((a, oe) :: pn)) (first :: more) (ts a cls d)) :
    PS X (.Try body [.ExceptHandler (some (.Name x np)) (some n) (first :: more) pos'] [] [] pos) (fun D σ H => tb (wKeep X.K c i X.N.length ts D) D σ H) := by
  constructor
  intro pins s σ H D I h
  have ok := I.ok
  have frames : X.A.frames = some (X.env :: X.outer) := hs ▸ ok.frames
  apply wpAny_Try_except
  refine wpAny_mono ((hb (wKeep X.K c i X.N.length ts D) (X.pn ++ pins) _ ?tk PassesOwn.looking).run [] s σ H D (I.toTry _) h) ?done (fun _ _ z => z)
  case done =>
    intro f s1 q
    cases f with
    | next =>
      obtain ⟨σ', H', J, q⟩ := q
      exact wpAny_execs_nil ⟨σ', H', J.ofTry ok, q⟩
    | brk => exact q.elim fun σ' z => z.elim fun H' z => ⟨σ', H', z.1.ofTry ok, z.2⟩
    | cont => exact q.elim fun σ' z => z.elim fun H' z => ⟨σ', H', z.1.ofTry ok, z.2⟩
    | ret u => exact q.elim fun v z => z.elim fun σ' z => z.elim fun H' z => ⟨v, σ', H', z.1.ofTry ok, z.2⟩
  case tk =>
    intro u s' thrown
    obtain ⟨a, B, sI, pins', σ', H', cls, d, eu, J', ground, up, sky, na, os, ag, C, e, ec, ed, match_, go⟩ := thrown
    subst eu ec ed
    have J : Inv X pins σ' H' sI := J'.ofTry ok
    have sky2 : Sky B (X.env :: X.outer) a (Zc (.ref C) (some e)) X.env.locals s'.heap := hs ▸ sky
    show wpAny (model X.prog X.w) X.A (noteFrame (.ref a) X.env) _ _ _
    refine Sky.land Zc.steady frames hf sky2 ?_
    intro h1 fly1 up1
    obtain ⟨oe, vs, at1, zc1, data1⟩ := fly1.there
    have noFrame : a ∉ frs (X.env :: X.outer) := by
      intro hm
      obtain ⟨_, o2, e2, q2⟩ := fly1.2.2.1.mem hm
      rw [at1] at e2; cases e2
      exact q2 _ data1
    have n1 : a ≠ X.env.locals := by
      intro z
      refine noFrame (List.mem_filterMap.mpr ⟨X.env, List.mem_cons_self, ?_⟩)
      rw [hf, z]
    have n2 : a ∉ X.fs := by
      intro hm
      obtain ⟨env, he, q⟩ := List.mem_filterMap.mp hm
      exact noFrame (List.mem_filterMap.mpr ⟨env, List.mem_cons_of_mem _ he, q⟩)
    -- nothing of before is the error
    have notOld : ∀ {b : Addr} {o : Obj}, sI.heap.get? b = some o → b ≠ a := by
      rintro b o hb rfl
      have z := ground b o hb (by rw [hs]; exact noFrame)
      rw [fly1.2.1] at z; cases z
    have young : X.s_0.heap.get? a = none := by
      cases q : X.s_0.heap.get? a with
      | none => rfl
      | some o =>
        obtain ⟨o2, q2⟩ := J.base.there a o q (by rw [hex]; simp)
        exact absurd rfl (notOld q2)
    have noPin : ∀ p ∈ X.pn ++ pins, p.1 ≠ a := fun p hp => notOld (J.pin p hp).1
    have J1 : Inv X pins σ' H' { s' with heap := h1 } := J.landed ground fly1.1 (up.trans up1) os ag
    have S1 := J1.suite at1 data1 na n1 n2
    refine wpAny_handleBy_cons (codeAny_handlers_test ?_) (by intro z; cases z)
    have its_type : PySem.W.Looks (model X.prog X.w) h1 (typeOf (.ref a)) (.ref C) := fun A Q E s k q => wpAny_typeOf_ref (k _ _ at1) (by rw [zc1.1]; exact q)
    have matches_ := PySem.W.exm_one (M := model X.prog X.w) J1.kIn its_type match_
    have clause : ∀ {Q : Value → Shared → Prop} {E : Value → Shared → Prop}, Q c { s' with heap := h1 } →
        wpAny (model X.prog X.w) (X.A.mark (some (.ref a))) (eval (.Name x np) X.env) Q E { s' with heap := h1 } := by
      intro Q E q
      obtain ⟨g, dbg, m⟩ := hc
      rcases m with m | ⟨m, v, nn⟩
      · exact ld_glob (X := X.suite a ((a, oe) :: (X.pn ++ pins))) S1 g m q dbg
      · exact ld_blt (X := X.suite a ((a, oe) :: (X.pn ++ pins))) S1 g m v q nn dbg
    refine clause (matches_.here ?_)
    refine codeAny_handlers_suite_as (HandSPX.lands_againZ fly1 ?_)
    intro h2 fly2 up2
    have J2 : Inv X pins σ' H' { s' with heap := h2 } := J.landed ground fly2.1 ((up.trans up1).trans up2) os ag
    obtain ⟨oe2, vs2, at2, zc2, data2⟩ := fly2.there
    have S2 := J2.suite at2 data2 na n1 n2
    refine store_ok (X := X.suite a ((a, oe2) :: (X.pn ++ pins))) (v := .ref a) S2 nd hi (.inl hln) rfl ?_ (.inr hln)
    intro s5 S5
    refine wpAny_mono ((hsu a oe2 (.ref C) (some e) (X.pn ++ pins) zc2 ⟨_, data2⟩).run [] s5 _ H' _ S5 (go J.len a na)) ?_ (fun _ _ z => z.elim)
    intro f s6 q
    cases f with
    | next =>
      obtain ⟨σ6, H6, S6, n6, q6⟩ := q
      have at6 := (S6.pin (a, oe2) (List.mem_append_left _ List.mem_cons_self)).1
      have I6 : Inv X pins σ6 (upd H6 a (kept a C e)) s6 := Inv.tell (S6.unsuite ok) at6 data2 n6 young n1 noPin fun H' => kept_ok ⟨oe2, vs2, at6, zc2, data2⟩
      exact gone_ok I6 nd hi hln fun s7 J7 => ⟨_, _, J7, q6⟩
    | brk => exact q.elim fun _ z => z.elim fun _ z => z.2.elim
    | cont => exact q.elim fun _ z => z.elim fun _ z => z.2.elim
    | ret u => exact q.elim fun _ z => z.elim fun _ z => z.elim fun _ z => z.2.2.elim
end

/-- isinstance(kept error, c) -/
def rIsK (K : PySem.W.Frag) : List V → Hp → VK → Prop := fun xs H Q => ∃ (a C d : Addr) (fs : List (Str × V)) (c : V) (cv : Value) (b : Bool),
  xs = [.ref a, c] ∧ H a = some (kept a C d) ∧ H d = some (.xd fs) ∧ ExcC K C ∧ ClsV c cv ∧ PySem.W.kitOne K (.ref C) cv = some b ∧ Q (.bl b) H
theorem held_inst {X : Cx} {pins : List (Addr × Obj)} {σ : L2.St} {H : Hp} {s : Shared} {a C d : Addr} {fs : List (Str × V)} (I : Inv X pins σ H s) (e : H a = some (kept a C d)) (ed : H d = some (.xd fs)) :
    ∃ (o od : Obj) (mA : Str → Option Value), PySem.W.InstAt s.heap a o C (some od) ∧ s.heap.Ns1 d mA ∧ s.heap.get? d = some od ∧ ∀ f, RelO (fs.lookup f) (mA f) := by
  obtain ⟨o, vs, at_a, zc, data⟩ := kept_at I.hok e
  have x : ObjOk X.prog X.w H s.heap d (.xd fs) := I.hok d _ ed
  obtain ⟨mA, ns, rel⟩ := x
  have ns' := ns
  obtain ⟨od, es, ep, ho, q⟩ := ns
  refine ⟨o, od, mA, ⟨at_a, zc.1, ?_, ?_⟩, ns', ho, rel⟩
  · unfold PySem.W.notCls; rw [data] <;> rfl
  · rw [zc.2]; exact ho
theorem call_isK {X : Cx} : CallR X (.builtin "isinstance") (rIsK X.K) := by
  intro pins s σ H xs us Q I r h
  obtain ⟨a, C, d, fs, c, cv, b, rfl, e, ed, K, cl, k, q⟩ := h
  obtain ⟨u1, u2, rfl, r1, r2⟩ := vals2 r
  obtain rfl := cl.eq r2
  cases (show u1 = Value.ref a from r1)
  obtain ⟨o, od, mA, inst, _⟩ := held_inst I e ed
  obtain ⟨cd, hcd, _⟩ := PySem.W.any_some K.hd
  refine PySem.W.kia_one (PySem.W.kitx_exc (by rw [hcd]; rfl) K.hg K.hk K.hs K.ha K.hn K.ht K.hm) I.kIn inst k (fun z => nomatch z) ?_
  exact fun tk => ⟨.bl b, H, I.tok tk, rfl, q⟩

/-- (kept error).f -/
def tKeptF (K : PySem.W.Frag) (f : Str) (te : TE) : TE := fun σ H Q => te σ H fun x H1 => ∃ (a C d : Addr) (fs : List (Str × V)) (v : V),
  x = .ref a ∧ H1 a = some (kept a C d) ∧ H1 d = some (.xd fs) ∧ ExcC K C ∧ PySem.W.findIn K (.ref C) f = some none ∧ fs.lookup f = some v ∧ Q v H1
theorem pe_keptF {X : Cx} {e : Expr} {f : Str} {te : TE} {pos : Pos} (he : PE X e te) (hb : attributeBase e f X.env (eval e X.env) = eval e X.env := by rfl) :
    PE X (.Attribute e f pos) (tKeptF X.K f te) := by
  constructor
  intro pins s σ H Q I h
  refine attr_of hb (thn (he.run pins s σ H _ I h) ?_)
  rintro u s1 ⟨x, H1, I1, r, a, C, d, fs, v, rfl, e1, e2, K, hno, hl, q⟩
  cases (show u = Value.ref a from r)
  obtain ⟨o, od, mA, inst, ns, ho, rel⟩ := held_inst I1 e1 e2
  obtain ⟨od2, ho2, look⟩ := lookIn_ns ns
  rw [ho] at ho2; cases ho2
  obtain ⟨w, hw, rw_⟩ := RelO.some_of (v := v) (o := mA f) (by rw [← hl]; exact rel f)
  have found : PySem.W.findObj X.K C (some od) f = some (.value w) := PySem.W.findObj_own K.hd hno rfl (by rw [look, hw])
  exact HandSPX.exc_get I1.kIn inst K.hg K.hk K.hs found (handed_of rw_) ⟨v, H1, I1.tok _, rw_, q⟩
end Kg
namespace Kg
open PySem PySem.Spec PyProof.Rows L2
section
variable {K : PySem.W.Frag} {C D : Addr} {b : Bool}
theorem kit_self : PySem.W.kitOne K (.ref C) (.ref C) = some true := if_pos (by simp)
theorem kit_any {c : Value} (is : PySem.W.isClsIn K D = true) (ty : PySem.W.typeIn K (.ref D) = some (.type "type")) (h : PySem.W.subIn K c (.ref D) = some b) (ne : (c == Value.ref D) = false) :
    PySem.W.kitOne K c (.ref D) = some b := by
  have e : ((PySem.W.clsIn K D).isSome && PySem.W.typeIn K (.ref D) == some (.type "type")) = true := by
    have is' : (PySem.W.clsIn K D).isSome = true := is
    rw [is', ty] <;> rfl
  show (if (c == Value.ref D) = true then some true else if ((PySem.W.clsIn K D).isSome && PySem.W.typeIn K (.ref D) == some (.type "type")) = true then PySem.W.subIn K c (.ref D) else none) = some b
  rw [if_neg (by rw [ne]; decide), if_pos e]
  exact h
theorem exm_any (ex : PySem.W.subIn K (.ref D) (.type "BaseException") = some true) (is : PySem.W.isClsIn K D = true) (ty : PySem.W.typeIn K (.ref D) = some (.type "type")) (h : PySem.W.subIn K (.ref C) (.ref D) = some b) :
    PySem.W.exmOne K (.ref C) (.ref D) = some b := by
  have e1 : (PySem.W.subIn K (.ref D) (.type "BaseException") == some true) = true := by rw [ex] <;> rfl
  have e2 : ((PySem.W.clsIn K D).isSome && PySem.W.typeIn K (.ref D) == some (.type "type")) = true := by
    have is' : (PySem.W.clsIn K D).isSome = true := is
    rw [is', ty] <;> rfl
  show (if (PySem.W.subIn K (.ref D) (.type "BaseException") == some true) = true then (if ((PySem.W.clsIn K D).isSome && PySem.W.typeIn K (.ref D) == some (.type "type")) = true then PySem.W.subIn K (.ref C) (.ref D) else none) else none) = some b
  rw [if_pos e1, if_pos e2]
  exact h
end
/-- isinstance of a plain thing, or of a kept error -/
def rIsH (K : PySem.W.Frag) : List V → Hp → VK → Prop := fun xs H Q => rIsi K xs H Q ∨ rIsK K xs H Q
theorem call_isH {X : Cx} : CallR X (.builtin "isinstance") (rIsH X.K) := by
  intro pins s σ H xs us Q I r h
  rcases h with h | h
  · exact call_isi pins s σ H xs us Q I r h
  · exact call_isK pins s σ H xs us Q I r h
end Kg
namespace K03
open PySem PySem.Spec PyProof.Rows L2 Kg
open Evl (Ex)
def topS (i : Nat) : Stmt := PySem.Challenge.pw_nevercaught_k03_squares_and_neighbours.main.body.getD i (.Pass ⟨0, 0, 0, 0⟩)
section
abbrev s_BadSquare_init : Stmt := inClass (topS 2) 0
theorem sc_BadSquare_init : FnScope ["self", "part"] ["self", "part"] (defScope s_BadSquare_init) := ⟨rfl, rfl, rfl, by decide +kernel, rfl, by decide +kernel, by decide +kernel⟩
abbrev s_BadSquares_init : Stmt := inClass (topS 3) 0
theorem sc_BadSquares_init : FnScope ["self", "part"] ["self", "part"] (defScope s_BadSquares_init) := ⟨rfl, rfl, rfl, by decide +kernel, rfl, by decide +kernel, by decide +kernel⟩
abbrev s_is_integer : Stmt := topS 5
theorem sc_is_integer : FnScope ["value"] ["value"] (defScope s_is_integer) := ⟨rfl, rfl, rfl, by decide +kernel, rfl, by decide +kernel, by decide +kernel⟩
abbrev s_is_square : Stmt := topS 6
theorem sc_is_square : FnScope ["value"] ["value"] (defScope s_is_square) := ⟨rfl, rfl, rfl, by decide +kernel, rfl, by decide +kernel, by decide +kernel⟩
abbrev s_are_squares : Stmt := topS 7
theorem sc_are_squares : FnScope ["value", "item"] ["value"] (defScope s_are_squares) := ⟨rfl, rfl, rfl, by decide +kernel, rfl, by decide +kernel, by decide +kernel⟩
abbrev s_squares_of : Stmt := topS 8
theorem sc_squares_of : FnScope ["values"] ["values"] (defScope s_squares_of) := ⟨rfl, rfl, rfl, by decide +kernel, rfl, by decide +kernel, by decide +kernel⟩
abbrev s_around : Stmt := topS 9
theorem sc_around : FnScope ["square"] ["square"] (defScope s_around) := ⟨rfl, rfl, rfl, by decide +kernel, rfl, by decide +kernel, by decide +kernel⟩
abbrev s_neighbours : Stmt := topS 10
theorem sc_neighbours : FnScope ["square", "x", "y"] ["square"] (defScope s_neighbours) := ⟨rfl, rfl, rfl, by decide +kernel, rfl, by decide +kernel, by decide +kernel⟩
abbrev s_taken_square : Stmt := topS 11
theorem sc_taken_square : FnScope ["square", "part"] ["square", "part"] (defScope s_taken_square) := ⟨rfl, rfl, rfl, by decide +kernel, rfl, by decide +kernel, by decide +kernel⟩
abbrev s_taken_squares : Stmt := topS 12
theorem sc_taken_squares : FnScope ["squares", "part", "square"] ["squares", "part"] (defScope s_taken_squares) := ⟨rfl, rfl, rfl, by decide +kernel, rfl, by decide +kernel, by decide +kernel⟩
abbrev s_w_tub : Stmt := topS 14
theorem sc_w_tub : FnScope ["script", "cell"] ["script"] (defScope s_w_tub) := ⟨rfl, rfl, rfl, by decide +kernel, rfl, by decide +kernel, by decide +kernel⟩
abbrev s_w_dip : Stmt := topS 15
theorem sc_w_dip : FnScope ["jar", "many", "rest", "at", "cell", "mixed"] ["jar", "many"] (defScope s_w_dip) := ⟨rfl, rfl, rfl, by decide +kernel, rfl, by decide +kernel, by decide +kernel⟩
abbrev s_w_square : Stmt := topS 16
theorem sc_w_square : FnScope ["tub", "size"] ["tub"] (defScope s_w_square) := ⟨rfl, rfl, rfl, by decide +kernel, rfl, by decide +kernel, by decide +kernel⟩
abbrev s_w_odd : Stmt := topS 17
theorem sc_w_odd : FnScope ["tub"] ["tub"] (defScope s_w_odd) := ⟨rfl, rfl, rfl, by decide +kernel, rfl, by decide +kernel, by decide +kernel⟩
abbrev s_w_ordered : Stmt := topS 18
theorem sc_w_ordered : FnScope ["some", "found", "square", "at", "other"] ["some"] (defScope s_w_ordered) := ⟨rfl, rfl, rfl, by decide +kernel, rfl, by decide +kernel, by decide +kernel⟩
abbrev s_w_heard : Stmt := topS 19
theorem sc_w_heard : FnScope ["ask", "caught", "error"] ["ask"] (defScope s_w_heard) := ⟨rfl, rfl, rfl, by decide +kernel, rfl, by decide +kernel, by decide +kernel⟩
abbrev s_law : Stmt := topS 20
theorem sc_law : FnScope ["script", "tub", "turn", "some", "spot", "square", "passed", "kept", "due", "told", "at", "bent", "value", "x", "y", "each"] ["script"] (defScope s_law) := ⟨rfl, rfl, rfl, by decide +kernel, rfl, by decide +kernel, by decide +kernel⟩
/-- where the text's defs stand, and what it leaves as it was -/
structure Txt (K : PySem.W.Frag) (mg : Str → Option Value) where
  f_BadSquare_init : Addr
  d_BadSquare_init : FuncData
  F_BadSquare_init : Fun K "__init__" "BadSquare.__init__" s_BadSquare_init f_BadSquare_init d_BadSquare_init
  f_BadSquares_init : Addr
  d_BadSquares_init : FuncData
  F_BadSquares_init : Fun K "__init__" "BadSquares.__init__" s_BadSquares_init f_BadSquares_init d_BadSquares_init
  f_is_integer : Addr
  d_is_integer : FuncData
  F_is_integer : Fun K "is_integer" "is_integer" s_is_integer f_is_integer d_is_integer
  g_is_integer : mg "is_integer" = some (.ref f_is_integer)
  f_is_square : Addr
  d_is_square : FuncData
  F_is_square : Fun K "is_square" "is_square" s_is_square f_is_square d_is_square
  g_is_square : mg "is_square" = some (.ref f_is_square)
  f_are_squares : Addr
  d_are_squares : FuncData
  F_are_squares : Fun K "are_squares" "are_squares" s_are_squares f_are_squares d_are_squares
  g_are_squares : mg "are_squares" = some (.ref f_are_squares)
  f_squares_of : Addr
  d_squares_of : FuncData
  F_squares_of : Fun K "squares_of" "squares_of" s_squares_of f_squares_of d_squares_of
  g_squares_of : mg "squares_of" = some (.ref f_squares_of)
  f_around : Addr
  d_around : FuncData
  F_around : Fun K "around" "around" s_around f_around d_around
  g_around : mg "around" = some (.ref f_around)
  f_neighbours : Addr
  d_neighbours : FuncData
  F_neighbours : Fun K "neighbours" "neighbours" s_neighbours f_neighbours d_neighbours
  g_neighbours : mg "neighbours" = some (.ref f_neighbours)
  f_taken_square : Addr
  d_taken_square : FuncData
  F_taken_square : Fun K "taken_square" "taken_square" s_taken_square f_taken_square d_taken_square
  g_taken_square : mg "taken_square" = some (.ref f_taken_square)
  f_taken_squares : Addr
  d_taken_squares : FuncData
  F_taken_squares : Fun K "taken_squares" "taken_squares" s_taken_squares f_taken_squares d_taken_squares
  g_taken_squares : mg "taken_squares" = some (.ref f_taken_squares)
  f_w_tub : Addr
  d_w_tub : FuncData
  F_w_tub : Fun K "_law_tub" "_law_tub" s_w_tub f_w_tub d_w_tub
  g_w_tub : mg "_law_tub" = some (.ref f_w_tub)
  f_w_dip : Addr
  d_w_dip : FuncData
  F_w_dip : Fun K "_law_dip" "_law_dip" s_w_dip f_w_dip d_w_dip
  g_w_dip : mg "_law_dip" = some (.ref f_w_dip)
  f_w_square : Addr
  d_w_square : FuncData
  F_w_square : Fun K "_law_square" "_law_square" s_w_square f_w_square d_w_square
  g_w_square : mg "_law_square" = some (.ref f_w_square)
  f_w_odd : Addr
  d_w_odd : FuncData
  F_w_odd : Fun K "_law_odd" "_law_odd" s_w_odd f_w_odd d_w_odd
  g_w_odd : mg "_law_odd" = some (.ref f_w_odd)
  f_w_ordered : Addr
  d_w_ordered : FuncData
  F_w_ordered : Fun K "_law_ordered" "_law_ordered" s_w_ordered f_w_ordered d_w_ordered
  g_w_ordered : mg "_law_ordered" = some (.ref f_w_ordered)
  f_w_heard : Addr
  d_w_heard : FuncData
  F_w_heard : Fun K "_law_heard" "_law_heard" s_w_heard f_w_heard d_w_heard
  g_w_heard : mg "_law_heard" = some (.ref f_w_heard)
  f_law : Addr
  d_law : FuncData
  F_law : Fun K "law" "law" s_law f_law d_law
  g_law : mg "law" = some (.ref f_law)
  c_BadSquare : Addr
  gc_BadSquare : mg "BadSquare" = some (.ref c_BadSquare)
  x_BadSquare : OexC K c_BadSquare
  i_BadSquare : PySem.W.findIn K (.ref c_BadSquare) "__init__" = some (some (.ref f_BadSquare_init))
  t_BadSquare : PySem.W.typeIn K (.ref f_BadSquare_init) = some (.type "function")
  n_BadSquare_part : PySem.W.findIn K (.ref c_BadSquare) "part" = some none
  c_BadSquares : Addr
  gc_BadSquares : mg "BadSquares" = some (.ref c_BadSquares)
  x_BadSquares : OexC K c_BadSquares
  i_BadSquares : PySem.W.findIn K (.ref c_BadSquares) "__init__" = some (some (.ref f_BadSquares_init))
  t_BadSquares : PySem.W.typeIn K (.ref f_BadSquares_init) = some (.type "function")
  n_BadSquares_part : PySem.W.findIn K (.ref c_BadSquares) "part" = some none
  c_FlightError : Addr
  gc_FlightError : mg "FlightError" = some (.ref c_FlightError)
  e_BadSquare : ExcC K c_BadSquare
  m_BadSquare_FlightError : PySem.W.exmOne K (.ref c_BadSquare) (.ref c_FlightError) = some true
  k_BadSquare_BadSquare : PySem.W.kitOne K (.ref c_BadSquare) (.ref c_BadSquare) = some true
  k_BadSquare_BadSquares : PySem.W.kitOne K (.ref c_BadSquare) (.ref c_BadSquares) = some false
  e_BadSquares : ExcC K c_BadSquares
  m_BadSquares_FlightError : PySem.W.exmOne K (.ref c_BadSquares) (.ref c_FlightError) = some true
  k_BadSquares_BadSquare : PySem.W.kitOne K (.ref c_BadSquares) (.ref c_BadSquare) = some false
  k_BadSquares_BadSquares : PySem.W.kitOne K (.ref c_BadSquares) (.ref c_BadSquares) = some true
  kn_BadSquare : PySem.W.kitOne K (.type "NoneType") (.ref c_BadSquare) = some false
  kn_BadSquares : PySem.W.kitOne K (.type "NoneType") (.ref c_BadSquares) = some false
  z_abs : mg "abs" = none
  z_all : mg "all" = none
  z_bool : mg "bool" = none
  z_int : mg "int" = none
  z_isinstance : mg "isinstance" = none
  z_len : mg "len" = none
  z_list : mg "list" = none
  z_range : mg "range" = none
  z_repr : mg "repr" = none
  z_sorted : mg "sorted" = none
  z_tuple : mg "tuple" = none
variable {K : PySem.W.Frag} {mg : Str → Option Value}
theorem b_BadSquare_init (T : Txt K mg) : Binds K T.d_BadSquare_init ["self", "part"] [] := T.F_BadSquare_init.binds fun _ _ _ _ _ _ us hl => match us, hl with | [_, _], _ => rfl
theorem b_BadSquares_init (T : Txt K mg) : Binds K T.d_BadSquares_init ["self", "part"] [] := T.F_BadSquares_init.binds fun _ _ _ _ _ _ us hl => match us, hl with | [_, _], _ => rfl
theorem b_is_integer (T : Txt K mg) : Binds K T.d_is_integer ["value"] [] := T.F_is_integer.binds fun _ _ _ _ _ _ us hl => match us, hl with | [_], _ => rfl
theorem b_is_square (T : Txt K mg) : Binds K T.d_is_square ["value"] [] := T.F_is_square.binds fun _ _ _ _ _ _ us hl => match us, hl with | [_], _ => rfl
theorem b_are_squares (T : Txt K mg) : Binds K T.d_are_squares ["value"] [] := T.F_are_squares.binds fun _ _ _ _ _ _ us hl => match us, hl with | [_], _ => rfl
theorem b_squares_of (T : Txt K mg) : Binds K T.d_squares_of ["values"] [] := T.F_squares_of.binds fun _ _ _ _ _ _ us hl => match us, hl with | [_], _ => rfl
theorem b_around (T : Txt K mg) : Binds K T.d_around ["square"] [] := T.F_around.binds fun _ _ _ _ _ _ us hl => match us, hl with | [_], _ => rfl
theorem b_neighbours (T : Txt K mg) : Binds K T.d_neighbours ["square"] [] := T.F_neighbours.binds fun _ _ _ _ _ _ us hl => match us, hl with | [_], _ => rfl
theorem b_taken_square (T : Txt K mg) : Binds K T.d_taken_square ["square", "part"] [] := T.F_taken_square.binds fun _ _ _ _ _ _ us hl => match us, hl with | [_, _], _ => rfl
theorem b_taken_squares (T : Txt K mg) : Binds K T.d_taken_squares ["squares", "part"] [] := T.F_taken_squares.binds fun _ _ _ _ _ _ us hl => match us, hl with | [_, _], _ => rfl
theorem b_w_tub (T : Txt K mg) : Binds K T.d_w_tub ["script"] [] := T.F_w_tub.binds fun _ _ _ _ _ _ us hl => match us, hl with | [_], _ => rfl
theorem b_w_dip (T : Txt K mg) : Binds K T.d_w_dip ["jar", "many"] [] := T.F_w_dip.binds fun _ _ _ _ _ _ us hl => match us, hl with | [_, _], _ => rfl
theorem b_w_square (T : Txt K mg) : Binds K T.d_w_square ["tub"] [] := T.F_w_square.binds fun _ _ _ _ _ _ us hl => match us, hl with | [_], _ => rfl
theorem b_w_odd (T : Txt K mg) : Binds K T.d_w_odd ["tub"] [] := T.F_w_odd.binds fun _ _ _ _ _ _ us hl => match us, hl with | [_], _ => rfl
theorem b_w_ordered (T : Txt K mg) : Binds K T.d_w_ordered ["some"] [] := T.F_w_ordered.binds fun _ _ _ _ _ _ us hl => match us, hl with | [_], _ => rfl
theorem b_w_heard (T : Txt K mg) : Binds K T.d_w_heard ["ask"] [] := T.F_w_heard.binds fun _ _ _ _ _ _ us hl => match us, hl with | [_], _ => rfl
theorem b_law (T : Txt K mg) : Binds K T.d_law ["script"] [] := T.F_law.binds fun _ _ _ _ _ _ us hl => match us, hl with | [_], _ => rfl
def pm_squares_of_values {α : Type} (us ws : List α) : List α := match us, ws with | [], [v0] => [v0] | _, _ => []
theorem kb_squares_of_values (T : Txt K mg) : KBinds K T.d_squares_of ["values"] ["values"] (fun us ws => pm_squares_of_values us ws) (fun us ws => pm_squares_of_values us ws) := by
  obtain ⟨oc, od, kV, doc, pm, an, cdv, ct, osl, e, lk, hcd⟩ := T.F_squares_of.ex
  constructor
  · intro s us ws _ hl
    rcases us with _ | ⟨u, us⟩
    · rcases ws with _ | ⟨v0, _ | ⟨v1, ws⟩⟩
      · exact absurd hl (by simp [pm_squares_of_values])
      · rw [e]; exact .of_eq rfl
      · exact absurd hl (by simp [pm_squares_of_values])
    · exact absurd hl (by simp [pm_squares_of_values])
  · intro vs us zs ws r1 r2
    cases r1 with
    | cons _ _ => exact .nil
    | nil =>
      cases r2 with
      | nil => exact .nil
      | cons q0 r2 =>
        cases r2 with
        | nil => exact (.cons q0 .nil)
        | cons _ _ => exact .nil
def pm_around_square {α : Type} (us ws : List α) : List α := match us, ws with | [], [v0] => [v0] | _, _ => []
theorem kb_around_square (T : Txt K mg) : KBinds K T.d_around ["square"] ["square"] (fun us ws => pm_around_square us ws) (fun us ws => pm_around_square us ws) := by
  obtain ⟨oc, od, kV, doc, pm, an, cdv, ct, osl, e, lk, hcd⟩ := T.F_around.ex
  constructor
  · intro s us ws _ hl
    rcases us with _ | ⟨u, us⟩
    · rcases ws with _ | ⟨v0, _ | ⟨v1, ws⟩⟩
      · exact absurd hl (by simp [pm_around_square])
      · rw [e]; exact .of_eq rfl
      · exact absurd hl (by simp [pm_around_square])
    · exact absurd hl (by simp [pm_around_square])
  · intro vs us zs ws r1 r2
    cases r1 with
    | cons _ _ => exact .nil
    | nil =>
      cases r2 with
      | nil => exact .nil
      | cons q0 r2 =>
        cases r2 with
        | nil => exact (.cons q0 .nil)
        | cons _ _ => exact .nil
end

/-! ### the urn -/
/-- all but the urn stands -/
def Go (j : Addr) (H H' : Hp) : Prop := ∀ a o, a ≠ j → H a = some o → H' a = some o
theorem Go.refl (j : Addr) (H : Hp) : Go j H H := fun _ _ _ h => h
theorem Go.trans {j : Addr} {H H1 H2 : Hp} (a : Go j H H1) (b : Go j H1 H2) : Go j H H2 := fun x o n h => b x o n (a x o n h)
theorem Go.of {j : Addr} {H H' : Hp} (e : Ex H H') : Go j H H' := fun a o _ h => e a o h
theorem Go.upd {j : Addr} {H : Hp} {o : HO} : Go j H (upd H j o) := fun a u n h => (upd_ne n).trans h
/-- the heap without the urn -/
def off (j : Addr) (H : Hp) : Hp := fun a => if a = j then none else H a
theorem off_ne {j a : Addr} {H : Hp} (h : a ≠ j) : off j H a = H a := if_neg h
theorem Go.ex {j : Addr} {H H' : Hp} (g : Go j H H') : Ex (off j H) (off j H') := by
  intro a o h
  by_cases e : a = j
  · subst e; rw [show off a H a = none from if_pos rfl] at h; cases h
  · rw [off_ne e] at h ⊢; exact g a o e h
theorem off_sub (j : Addr) (H : Hp) : Ex (off j H) H := by
  intro a o h
  by_cases e : a = j
  · subst e; rw [show off a H a = none from if_pos rfl] at h; cases h
  · rwa [off_ne e] at h
/-- the urn at j: b draws are left to it; its numbers stand in B, which is never changed -/
structure Urn (K : PySem.W.Frag) (B : Hp) (j : Addr) (b : Nat) (H : Hp) : Prop where
  it : ∃ (c : Addr) (ns : List Int) (at' rest : Int), H j = some (.lst [.ref c, .int at', .int rest]) ∧ SqL K B c (ns.map V.int) ∧ 0 ≤ at' ∧ at' + b ≤ 1000000 ∧ 0 ≤ rest
  ba : Ex B (off j H)
section
variable {K : PySem.W.Frag} {B : Hp} {j : Addr}
theorem Urn.less {b b' : Nat} {H : Hp} (u : Urn K B j b H) (h : b' ≤ b) : Urn K B j b' H := by
  obtain ⟨c, ns, at', rest, h1, h2, h3, h4, h5⟩ := u.it
  exact ⟨⟨c, ns, at', rest, h1, h2, h3, by omega, h5⟩, u.ba⟩
theorem Urn.ex {b : Nat} {H H' : Hp} (u : Urn K B j b H) (e : Ex H H') : Urn K B j b H' := by
  obtain ⟨c, ns, at', rest, h1, h2, h3, h4, h5⟩ := u.it
  exact ⟨⟨c, ns, at', rest, e _ _ h1, h2, h3, h4, h5⟩, u.ba.trans (Go.of e).ex⟩
theorem Urn.there {b : Nat} {H : Hp} (u : Urn K B j b H) : H j ≠ none := by
  obtain ⟨c, ns, a, r, h, _⟩ := u.it
  rw [h]
  exact fun z => nomatch z
theorem Urn.ne {p : Addr} {b : Nat} {H : Hp} (u : Urn K B j b H) (h : H p = none) : p ≠ j := fun e => u.there (e ▸ h)
/-- a thing that was made after the urn may change -/
theorem Urn.mut {D : Addr} {b b2 : Nat} {H H2 : Hp} {o : HO} (u : Urn K B j b H) (u2 : Urn K B j b2 H2) (hD : H2 D = none) : Urn K B j b (L2.upd H D o) := by
  obtain ⟨c, ns, at', rest, h1, h2, h3, h4, h5⟩ := u.it
  refine ⟨⟨c, ns, at', rest, (upd_ne (u2.ne hD).symm).trans h1, h2, h3, h4, h5⟩, fun a x hx => ?_⟩
  have n1 : a ≠ D := by
    rintro rfl
    have := off_sub j _ _ _ (u2.ba _ _ hx)
    rw [hD] at this; cases this
  have h6 := u.ba _ _ hx
  have n2 : a ≠ j := by
    rintro rfl
    rw [show off a H a = none from if_pos rfl] at h6; cases h6
  rw [off_ne n2] at h6 ⊢
  exact (upd_ne n1).trans h6
end
/-- what H' has and H had not -/
def neu (H H' : Hp) : Hp := fun a => match H a with
  | none => H' a
  | some _ => none
theorem neu_at {H H' : Hp} {a : Addr} (h : H a = none) : neu H H' a = H' a := by unfold neu; rw [h]
theorem neu_of {H H' : Hp} {a : Addr} {o : HO} (h : neu H H' a = some o) : H a = none ∧ H' a = some o := by
  unfold neu at h
  cases q : H a with
  | none => rw [q] at h; exact ⟨rfl, h⟩
  | some _ => rw [q] at h; cases h
theorem at_neu {H H' : Hp} {a : Addr} {o : HO} (h : H a = none) (h' : H' a = some o) : neu H H' a = some o := (neu_at h).trans h'
theorem off_at {j a : Addr} {H : Hp} {o : HO} (ne : a ≠ j) (h : H a = some o) : off j H a = some o := (off_ne ne).trans h
section
variable {K : PySem.W.Frag} {B : Hp} {j : Addr} {b : Nat}
theorem Urn.back {H H1 : Hp} {p : Addr} (u : Urn K B j b H1) (g : Go j H H1) (h : H1 p = none) : H p = none := by
  cases q : H p with
  | none => rfl
  | some o => rw [g p o (u.ne h) q] at h; cases h
theorem neu_ex {H H2 H3 H4 : Hp} (u : Urn K B j b H2) (g : Go j H H2) (g' : Go j H3 H4) : Ex (neu H2 H3) (neu H H4) := by
  intro a o h
  obtain ⟨h1, h2⟩ := neu_of h
  exact at_neu (u.back g h1) (g' a o (u.ne h1) h2)
theorem neu_off {H H' : Hp} {D : Addr} (h : H D ≠ none) : Ex (neu H H') (off D H') := by
  intro a o q
  obtain ⟨h1, h2⟩ := neu_of q
  exact off_at (fun e => h (e ▸ h1)) h2
theorem neu_off2 {H H' : Hp} {D : Addr} (u : Urn K B j b H) (h : H D ≠ none) : Ex (neu H H') (off D (off j H')) := by
  intro a o q
  obtain ⟨h1, h2⟩ := neu_of q
  exact off_at (fun e => h (e ▸ h1)) (off_at (fun e => u.there (e ▸ h1)) h2)
end
/-- one draw -/
def spDraw (K : PySem.W.Frag) : Sp := fun vs H Q _ => ∃ (j : Addr) (B : Hp) (b : Nat) (n : Int), vs = [.ref j, .int n] ∧ 0 < n ∧ n.natAbs.log2 < 9000 ∧ Urn K B j (b + 1) H ∧
  ∀ (r : Int) (H' : Hp), 0 ≤ r → r < n → Go j H H' → Urn K B j b H' → Q (.int r) H'

end K03
namespace K03
open PySem PySem.Spec PyProof.Rows L2 Kg LamX
open Evl (Ex)


def tAsk (f c' : Addr) (q : Str) (tl : XK → Hp → VK → Prop) : WX → TS := fun W D σ H => ∃ Ech : XK, (∀ cls d σ' H', Ech cls d H' → W cls d σ' H') ∧ σ[0]? = some (some (.ref f)) ∧ H c' = some (CodeO c' q) ∧ tl Ech H (fun _ H' => D.nx σ H')
/-- what the lambda's error gives -/
def EHeard (cB cS : Addr) (Q : VK) : XK := fun cls d H' => ∃ (e : Addr) (p : Str), d = some e ∧ H' e = some (.xd [("part", .str p)]) ∧
  ((cls = .ref cB ∧ ∀ (t : Addr) (H2 : Hp), Ex H' H2 → H' t = none → H2 t = some (.tup [.str "square", .str p]) → Q (.ref t) H2) ∨
   (cls = .ref cS ∧ ∀ (t : Addr) (H2 : Hp), Ex H' H2 → H' t = none → H2 t = some (.tup [.str "squares", .str p]) → Q (.ref t) H2))
def THeard (cB cS : Addr) : (XK → Hp → VK → Prop) → Hp → VK → Prop := fun tl H Q => ∀ (E : XK) (N : VK), (∀ cls d H', EHeard cB cS Q cls d H' → E cls d H') → (∀ v H', Q .non H' → N v H') → tl E H N
theorem heard_gives {X : Cx} (T : Txt X.K X.mg) {g : Addr} {cdg : Value} {q : Str} : GivesTo X ["ask", "caught", "error"] "_law_heard" (defScope s_w_heard) g cdg (defBody s_w_heard) "ask" q (THeard T.c_BadSquare T.c_BadSquares) := by
  intro f c' s H Q tl act hc h
  have ask_body : ∀ (p1 p2 p3 : Pos) (W : WX) (pn : List (Addr × Obj)) (xe : Value → Shared → Prop), Takes ((cxOf C8.CX0 X.prog X.w X.K X.mg X.base ["ask", "caught", "error"] "_law_heard" (defScope s_w_heard) g cdg X.A X.stack s H C8.E0).tr pn xe) W →
      PSs ((cxOf C8.CX0 X.prog X.w X.K X.mg X.base ["ask", "caught", "error"] "_law_heard" (defScope s_w_heard) g cdg X.A X.stack s H C8.E0).tr pn xe) [.Expr (.Call (.Name "ask" p1) [] [] p2) p3] (tAsk f c' q tl W) := by
    intro p1 p2 p3 W pn xe tk
    constructor
    rintro pins s' σ H' D I ⟨Ech, hW, h1, h2, h3⟩
    exact (pss_one (ps_expr (act W pn xe Ech p1 p2 tk hW))).run pins s' σ H' D I ⟨h1, h2, h3⟩
  refine ⟨_, (pss_cons (ps_set (i := 1) sc_w_heard.nd rfl (Or.inl rfl) pe_non)
    (pss_cons (ps_try_keep (X := (cxOf C8.CX0 X.prog X.w X.K X.mg X.base ["ask", "caught", "error"] "_law_heard" (defScope s_w_heard) g cdg X.A X.stack s H C8.E0).nox) (i := 2) (tb := tAsk f c' q tl) rfl rfl rfl sc_w_heard.nd rfl rfl ⟨rfl, by decide, .inl T.gc_FlightError⟩ (fun W pn xe tk _ => ask_body _ _ _ W pn xe tk) (fun a oe cls d pn hz hf => (pss_one (ps_set (i := 1) sc_w_heard.nd rfl (Or.inl rfl) (pv 2)))))
    (pss_cons (ps_if (pt_val (pe_callB call_isH (by rfl) T.z_isinstance (by decide +kernel) (pa_cons (pv 1) (pa_cons (pe_glob (v := .ref T.c_BadSquare) rfl T.gc_BadSquare rfl) pa_nil)))) (pss_one (ps_ret (pe_tup (pa_cons pe_str (pa_cons (pe_keptF (pv 1)) pa_nil))))) pss_nil)
  (pss_cons (ps_if (pt_val (pe_callB call_isH (by rfl) T.z_isinstance (by decide +kernel) (pa_cons (pv 1) (pa_cons (pe_glob (v := .ref T.c_BadSquares) rfl T.gc_BadSquares rfl) pa_nil)))) (pss_one (ps_ret (pe_tup (pa_cons pe_str (pa_cons (pe_keptF (pv 1)) pa_nil))))) pss_nil)
  (pss_one (ps_ret (pe_ifExp (pt_cmpR op_isN (pv 1) pe_non (nomark _)) pe_non (pe_tup (pa_cons pe_str (pa_cons pe_non pa_nil)))))))))), ?_⟩
  refine ⟨EHeard T.c_BadSquare T.c_BadSquares Q, ?_, rfl, hc, h _ _ (fun _ _ _ z => z) ?_⟩
  · rintro cls d σ' H' ⟨e, p, rfl, he, hh⟩
    rcases hh with ⟨rfl, hh⟩ | ⟨rfl, hh⟩
    · refine ⟨T.c_BadSquare, e, rfl, rfl, T.m_BadSquare_FlightError, ?_⟩
      intro hl a ha
      match σ', hl with
      | [x0, x1, x2], _ =>
        walk_at "rd"
        have nea : e ≠ a := ne_of_none he ha
        have eH : Ex H' (upd H' a (kept a T.c_BadSquare e)) := Ex.new ha
        refine .inr ⟨a, T.c_BadSquare, e, _, _, _, true, rfl, upd_same, eH _ _ he, T.e_BadSquare, .own _, T.k_BadSquare_BadSquare, ?_⟩
        walk_at "rd"
        refine ⟨a, T.c_BadSquare, e, _, _, rfl, upd_same, eH _ _ he, T.e_BadSquare, T.n_BadSquare_part, rfl, ?_⟩
        walk_at "rd"
        intro t ht
        exact hh t _ (eH.trans (Ex.new ht)) (by rw [upd_ne (fun z => by rw [z, upd_same] at ht; cases ht)] at ht; exact ht) upd_same
    · refine ⟨T.c_BadSquares, e, rfl, rfl, T.m_BadSquares_FlightError, ?_⟩
      intro hl a ha
      match σ', hl with
      | [x0, x1, x2], _ =>
        walk_at "rd"
        have nea : e ≠ a := ne_of_none he ha
        have eH : Ex H' (upd H' a (kept a T.c_BadSquares e)) := Ex.new ha
        refine .inr ⟨a, T.c_BadSquares, e, _, _, _, false, rfl, upd_same, eH _ _ he, T.e_BadSquares, .own _, T.k_BadSquares_BadSquare, ?_⟩
        walk_at "rd"
        refine .inr ⟨a, T.c_BadSquares, e, _, _, _, true, rfl, upd_same, eH _ _ he, T.e_BadSquares, .own _, T.k_BadSquares_BadSquares, ?_⟩
        walk_at "rd"
        refine ⟨a, T.c_BadSquares, e, _, _, rfl, upd_same, eH _ _ he, T.e_BadSquares, T.n_BadSquares_part, rfl, ?_⟩
        walk_at "rd"
        intro t ht
        exact hh t _ (eH.trans (Ex.new ht)) (by rw [upd_ne (fun z => by rw [z, upd_same] at ht; cases ht)] at ht; exact ht) upd_same
  · intro v H' q
    walk_at "rd"
    refine .inl ⟨.non, _, _, _, false, rfl, .own _, .base .non, T.kn_BadSquare, ?_⟩
    walk_at "rd"
    refine .inl ⟨.non, _, _, _, false, rfl, .own _, .base .non, T.kn_BadSquares, ?_⟩
    walk_at "rd"
    exact ifB (fun _ => q) (fun c => by simp at c)
theorem pe_w_heard {X : Cx} {k : Nat} {c P : Addr} {params : Arguments} {body : Expr} {scope : Scope} {t : XK → TE} {p lpos pos : Pos} (T : Txt X.K X.mg) (TB : TabB X.base X.mg c P) (hcode : X.env.code = .ref c) (hr : Room (k + 2) X.A) (hg : Gl X "_law_heard")
    (L : LamS X.env.scope scope) (hdef : defaultsOf params X.env = ([], []))
    (hbind : ∀ (q : Str) (cl : List (Str × Addr)) (pm cv ctv : Value), bindArgs (PySem.W.kla_fn "<lambda>" q params body scope cl pm cv ctv) ⟨[], []⟩ = pure [])
    (hbody : ∀ (A : Around) (outer : List Env) (s : Shared) (H : Hp) (E : XK) (f c' : Addr), Room k (A.deeper (lamEnv X scope s.heap.objs.size f c')) → PE (lamCx X A outer s H E scope f c') body (t E)) :
    PE X (.Call (.Name "_law_heard" p) [.Lambda params body scope lpos] [] pos) (tLam [(P, X.env.qual ++ "<lambda>")] (THeard T.c_BadSquare T.c_BadSquares) t) := by
  obtain ⟨oc, od, kV, doc, pm, an, cdv, ct, osl, e, lk, hcd⟩ := T.F_w_heard.ex
  have hb := b_w_heard T
  rw [e] at hb lk
  refine pe_lamcall (a := "ask") (Ng := ["ask", "caught", "error"]) hg T.g_w_heard T.F_w_heard.kp lk hcd hb sc_w_heard rfl (.inl rfl) (heard_gives T) TB hcode (List.mem_singleton.mpr rfl) (fun p hp _ => by rw [List.mem_singleton.mp hp]) hr L hdef hbind hbody
end K03
/-! Kg8: pairs in their order: one more put at the count of the lesser ones; one order, one list. -/
namespace Kg
/-- lexically less -/
def pLt (a b : Int × Int) : Prop := a.1 < b.1 ∨ (a.1 = b.1 ∧ a.2 < b.2)
instance (a b : Int × Int) : Decidable (pLt a b) := by unfold pLt; exact inferInstance
theorem pLt_trans {a b c : Int × Int} (h : pLt a b) (g : pLt b c) : pLt a c := by
  unfold pLt at *
  omega
theorem pLt_irrefl {a : Int × Int} : ¬ pLt a a := by
  unfold pLt
  omega
theorem pLt_or {a b : Int × Int} (n : a ≠ b) (h : ¬ pLt a b) : pLt b a := by
  unfold pLt at *
  obtain ⟨a1, a2⟩ := a
  obtain ⟨b1, b2⟩ := b
  have : ¬ (a1 = b1 ∧ a2 = b2) := fun ⟨x, y⟩ => n (by rw [x, y])
  dsimp only at *
  omega
def below (z : Int × Int) (L : List (Int × Int)) : Nat := (L.filter fun a => decide (pLt a z)).length
def putIn (z : Int × Int) (L : List (Int × Int)) : List (Int × Int) := L.take (below z L) ++ [z] ++ L.drop (below z L)
theorem below_le (z : Int × Int) (L : List (Int × Int)) : below z L ≤ L.length := List.length_filter_le _ _
theorem putIn_cons_lt {z a : Int × Int} {L : List (Int × Int)} (h : pLt a z) : putIn z (a :: L) = a :: putIn z L := by
  unfold putIn below
  rw [List.filter_cons_of_pos (by simpa using h)]
  simp
theorem below_none {z : Int × Int} {L : List (Int × Int)} (h : ∀ b ∈ L, ¬ pLt b z) : below z L = 0 := by
  unfold below
  rw [List.filter_eq_nil_iff.mpr (fun b hb => by simpa using h b hb)]
  rfl
theorem putIn_front {z : Int × Int} {L : List (Int × Int)} (h : ∀ b ∈ L, ¬ pLt b z) : putIn z L = z :: L := by
  unfold putIn
  rw [below_none h]
  simp
theorem putIn_mem {z b : Int × Int} {L : List (Int × Int)} : b ∈ putIn z L ↔ b = z ∨ b ∈ L := by
  unfold putIn
  rw [List.mem_append, List.mem_append, List.mem_singleton]
  constructor
  · rintro ((h | h) | h)
    · exact .inr (List.mem_of_mem_take h)
    · exact .inl h
    · exact .inr (List.mem_of_mem_drop h)
  · rintro (h | h)
    · exact .inl (.inr h)
    · rw [← List.take_append_drop (below z L) L, List.mem_append] at h
      exact h.imp .inl id
theorem putIn_sorted {z : Int × Int} : ∀ {L : List (Int × Int)}, L.Pairwise pLt → z ∉ L → (putIn z L).Pairwise pLt
  | [], _, _ => by simp [putIn, below]
  | a :: L, h, nz => by
    obtain ⟨h1, h2⟩ := List.pairwise_cons.mp h
    have na : z ≠ a := fun e => nz (e ▸ List.mem_cons_self)
    by_cases c : pLt a z
    · rw [putIn_cons_lt c]
      refine List.pairwise_cons.mpr ⟨fun b hb => ?_, putIn_sorted h2 fun m => nz (List.mem_cons_of_mem _ m)⟩
      rcases putIn_mem.mp hb with rfl | hb
      · exact c
      · exact h1 b hb
    · have za : pLt z a := pLt_or (fun e => na e.symm) c
      rw [putIn_front fun b hb g => by
        rcases List.mem_cons.mp hb with rfl | hb
        · exact c g
        · exact pLt_irrefl (pLt_trans g (pLt_trans za (h1 b hb)))]
      refine List.pairwise_cons.mpr ⟨fun b hb => ?_, h⟩
      rcases List.mem_cons.mp hb with rfl | hb
      · exact za
      · exact pLt_trans za (h1 b hb)
theorem putIn_perm (z : Int × Int) (L : List (Int × Int)) : (putIn z L).Perm (z :: L) := by
  unfold putIn
  refine (List.perm_append_comm.append_right _).trans ?_
  rw [List.append_assoc, List.take_append_drop]
  exact List.Perm.refl _
/-- one order, one list -/
theorem sorted_one : ∀ {L M : List (Int × Int)}, L.Pairwise pLt → M.Pairwise pLt → L.Perm M → L = M
  | [], M, _, _, p => (List.Perm.nil_eq p)
  | a :: L, [], _, _, p => absurd p.length_eq (by simp)
  | a :: L, b :: M, hL, hM, p => by
    obtain ⟨l1, l2⟩ := List.pairwise_cons.mp hL
    obtain ⟨m1, m2⟩ := List.pairwise_cons.mp hM
    have e : a = b := by
      have h1 := p.mem_iff.mp (List.mem_cons_self : a ∈ a :: L)
      have h2 := p.mem_iff.mpr (List.mem_cons_self : b ∈ b :: M)
      rcases List.mem_cons.mp h1 with h1 | h1
      · exact h1
      · rcases List.mem_cons.mp h2 with h2 | h2
        · exact h2.symm
        · exact absurd (pLt_trans (l1 b h2) (m1 a h1)) pLt_irrefl
    subst e
    rw [sorted_one l2 m2 ((List.perm_cons a).mp p)]
end Kg
/-! Kg10: x[::-1] of a list or a tuple of any items. -/
namespace Kg
open PySem PySem.Spec PyProof.Rows L2
theorem back_pick (xs : Array Value) (n : Nat) (h : xs.size = n) : (List.range n).filterMap (fun (m : Nat) => xs[(((n : Int) - 1) + (m : Int) * (-1)).toNat]?) = xs.toList.reverse := by
  subst h
  have e1 : (fun (m : Nat) => xs[(((xs.size : Int) - 1) + (m : Int) * (-1)).toNat]?) = (fun i : Nat => xs[i]?) ∘ fun m => xs.size - 1 - m := by
    funext m
    have : (((xs.size : Int) - 1) + (m : Int) * (-1)).toNat = xs.size - 1 - m := by omega
    simp only [Function.comp, this]
  rw [e1, ← List.filterMap_map, PySem.W.krv_range, List.filterMap_reverse, PySem.W.krv_all]
theorem vals_reverse : ∀ {xs : List V} {us : List Value}, Vals xs us → Vals xs.reverse us.reverse
  | _, _, .nil => .nil
  | _, _, .cons r t => by
    rw [List.reverse_cons, List.reverse_cons]
    exact (vals_reverse t).append (.cons r .nil)
section
variable {prog : Program} {w : World} {A : Around} {E : Value → Shared → Prop} {s : Shared}
theorem back_applied {sl : Addr} {vk : Value} {n : Nat} {Q : Int × Int × Nat → Shared → Prop} (hs : s.heap.IsSliceOf sl .none .none vk) (pk : IsPart vk (some (-1)))
    (h : Q ((n : Int) - 1, -1, n) s) : wpAny (model prog w) A (Builtin.Slice.sliceApplied (.ref sl) (pure (n : Int))) Q E s := by
  obtain ⟨o, here, _, parts⟩ := hs
  unfold Builtin.Slice.sliceApplied Builtin.Slice.sliceFields
  refine wpAny_bind (wpAny_bind (wpAny_field here parts (x := .none) rfl (wpAny_bind (wpAny_field here parts (x := .none) rfl (wpAny_bind (wpAny_field here parts (x := vk) rfl (wpAny_pure ?_)))))))
  refine wpAny_bind (HT.slicePart_ pk ?_)
  show wpAny _ _ (if ((-1 : Int) == 0) = true then _ else _) _ _ s
  rw [if_neg (show ¬ (((-1 : Int) == 0) = true) by decide)]
  refine wpAny_bind (slicePart_none (wpAny_bind (slicePart_none (wpAny_bind (wpAny_pure ?_)))))
  show wpAny _ _ (match Builtin.Slice.sliceAdjust none none (-1) (n : Int) with | (lo, hi) => pure (lo, (-1 : Int), Builtin.Slice.slicePlaces lo hi (-1))) _ _ s
  have e1 : Builtin.Slice.sliceAdjust none none (-1) (n : Int) = ((n : Int) - 1, -1) := by
    unfold Builtin.Slice.sliceAdjust
    simp
    try omega
  have e2 : Builtin.Slice.slicePlaces ((n : Int) - 1) (-1) (-1) = n := by
    unfold Builtin.Slice.slicePlaces
    have c : ¬ ((-1 : Int) > 0) := by decide
    simp only [c, if_false]
    split <;> simp <;> omega
  rw [e1]
  show wpAny _ _ (pure ((n : Int) - 1, (-1 : Int), Builtin.Slice.slicePlaces ((n : Int) - 1) (-1) (-1))) _ _ s
  rw [e2]
  exact wpAny_pure h
theorem tuple_back {t sl : Addr} {items : Array Value} {vk : Value} {Q : Value → Shared → Prop} (tup : IsTup s.heap t items) (hs : s.heap.IsSliceOf sl .none .none vk) (pk : IsPart vk (some (-1)))
    (fits : items.size ≤ sizeLine) (h : Q (.ref s.heap.objs.size) { s with heap := s.heap.push { cls := .type "tuple", data := .seq items.toList.reverse.toArray } }) :
    wpAny (model prog w) A (getItem (.ref t) (.ref sl)) Q E s := by
  have fits' : sizeOk (.seq items.toList.reverse.toArray) := by
    show items.toList.reverse.toArray.size ≤ sizeLine
    simpa using fits
  have isSlice : s.TypeIs (.ref sl) "slice" := hs.elim fun o z => ⟨o, z.1, z.2.1⟩
  unfold getItem
  try with_reducible refine wpAny_holding ?_
  first | refine wpAny_bind (wpAny_pure ?_) | skip
  refine wpAny_bind (wpAny_sequenceKey tup.typeIs (by decide) ?_)
  refine wpAny_bind (wpAny_callSpecial?_slot (name := Str.ofString "__getitem__") tup.typeIs PyProof.Rows.slot_tuple_getitem (wpAny_call_entry PyProof.Rows.slot_tuple_getitem tup.typeIs entry_tuple_getitem ?_ (args_tuple_getitem _ _)))
  show wpAny _ _ (Builtin.Tuple.tupleItemsOf (.ref t) >>= _) _ _ s
  refine wpAny_bind (tupleItemsOf_ tup ?_)
  refine wpAny_bind (wpAny_typeOf isSlice ?_)
  rw [if_pos (by decide)]
  refine wpAny_bind (back_applied hs pk ?_)
  have no : ¬ ((((items.size : Int) - 1) == 0 && (-1 : Int) == 1 && items.size == items.size) = true) := by
    rw [show ((-1 : Int) == 1) = false by decide, Bool.and_false, Bool.false_and]
    exact Bool.false_ne_true
  show wpAny _ _ (if (((items.size : Int) - 1) == 0 && (-1 : Int) == 1 && items.size == items.size) = true then _ else _) _ _ s
  rw [if_neg no, back_pick items items.size rfl]
  first
    | exact wpAny_bind (m := Builtin.Tuple.tupleExact _) (wpAny_newObj_type (wpAny_pure ⟨_, rfl, wpAny_pure h⟩) fits')
    | exact wpAny_bind (m := Builtin.Tuple.tupleExact _) (wpAny_newObj_type (wpAny_bind (wpAny_pure (wpAny_pure ⟨_, rfl, wpAny_pure h⟩))) fits')
    | exact wpAny_bind (wpAny_bind (m := Builtin.Tuple.tupleExact _) (wpAny_newObj_type (wpAny_pure (wpAny_pure ⟨_, rfl, wpAny_pure h⟩)) fits'))
    | exact wpAny_bind (wpAny_bind (m := Builtin.Tuple.tupleExact _) (wpAny_newObj_type (wpAny_pure ⟨_, rfl, wpAny_pure h⟩) fits'))
end
/-- x[::-1] -/
def tBack (K : PySem.W.Frag) (te : TE) (tk : TO) : TE := fun σ H Q => te σ H fun x H1 => tk σ H1 fun o H2 => o = some (-1) ∧ ∃ a xs, x = .ref a ∧
  ((SqL K H2 a xs ∧ ∀ p, H2 p = none → Q (.ref p) (upd H2 p (.lst xs.reverse))) ∨ (SqT K H2 a xs ∧ ∀ p, H2 p = none → Q (.ref p) (upd H2 p (.tup xs.reverse))))
theorem pe_back {X : Cx} {e st : Expr} {te : TE} {tk : TO} {pos p2 : Pos} (he : PE X e te) (hk : PO X (some st) tk) : PE X (.Subscript e (.Slice none none (some st) p2) pos) (tBack X.K te tk) := by
  constructor
  intro pins s σ H Q I h
  refine Subscript_ (thn (he.run pins s σ H _ I h) ?_)
  rintro v s1 ⟨x, H1, I1, r1, q1⟩
  refine wpAny_Slice ?_
  rw [evalPart_none]
  refine wpAny_pure (wpAny_pure ?_)
  refine thn (hk.run pins s1 σ H1 _ I1 q1) ?_
  rintro vk s3 ⟨o, H3, I3, pk, rfl, a, xs, rfl, q⟩
  cases (show v = Value.ref a from r1)
  let hp := s3.heap.push { cls := .type "slice", data := .fields #[.none, .none, vk] }
  have I4 : Inv X pins σ H3 { s3 with heap := hp } := I3.kept (t' := s3.toks) fun b ob z => Heap.get?_push_of_some _ z
  have hs : hp.IsSliceOf s3.heap.objs.size .none .none vk := Heap.IsSliceOf.new ..
  have laid : ∀ {o : HO} {ob : Obj}, ObjOk X.prog X.w (upd H3 hp.objs.size o) (hp.push ob) hp.objs.size o →
      Inv X pins σ (upd H3 hp.objs.size o) { s3 with heap := hp.push ob } := fun z => I4.laid (t' := s3.toks) (fun b ob z => Heap.get?_push_of_some _ z) (Nat.le_refl _) z
  have new : H3 hp.objs.size = none := I4.hok.fresh (Nat.le_refl _)
  rcases q with ⟨sq, q⟩ | ⟨sq, q⟩
  · obtain ⟨its, r, ht, hz⟩ := I4.list sq
    have len := r.length
    refine tail_any (ops := [.ref a, .ref s3.heap.objs.size]) (T := "list") ht.isList.typeIs slot_list_getitem.lookup ?_ (by with_unfolding_all rfl)
    refine wpAny_getItem_list_slice ht.isList hs .none .none pk (by decide) ?_ (by rw [List.size_toArray]; omega)
    rw [PySem.W.krv_pick]
    refine ⟨.ref hp.objs.size, _, laid (o := .lst xs.reverse) ?_, rfl, q _ new⟩
    exact ⟨by rw [List.length_reverse]; exact hz, _, 0, vals_reverse r, Heap.get?_push_size _ rfl⟩
  · obtain ⟨its, r, ht, hz⟩ := I4.tuple sq
    have len := r.length
    refine tail_any (ops := [.ref a, .ref s3.heap.objs.size]) (T := "tuple") ht.typeIs PyProof.Rows.slot_tuple_getitem.lookup ?_ (by with_unfolding_all rfl)
    refine tuple_back ht hs pk (by rw [List.size_toArray]; omega) ?_
    refine ⟨.ref hp.objs.size, _, laid (o := .tup xs.reverse) ?_, rfl, q _ new⟩
    exact ⟨by rw [List.length_reverse]; exact hz, _, vals_reverse r, IsTup.new _ _⟩
end Kg
/-! Kg12: {k: v}, k a tuple of ints and texts. -/
namespace Kg
open PySem PySem.Spec PyProof.Rows L2
/-- the reading: the new dict stands empty while key and value are made -/
def tDisp1 (tk tv : TE) : TE := fun σ H Q => ∀ p, H p = none → tk σ (upd H p (.dT [])) fun x H1 => tv σ H1 fun y H2 => ∃ (b : Addr) (k : List L2.Key), x = .ref b ∧ H2 p = some (.dT []) ∧ H2 b = some (.tup (k.map kV)) ∧ Q (.ref p) (upd H2 p (.dT [(k, y)]))
theorem pe_disp1T {X : Cx} {ek ev : Expr} {pos : Pos} {tk tv : TE} (hu : X.A.units + 1 < cLine) (hk : PE X ek tk) (hv : PE X ev tv) : PE X (.Dict [some ek] [ev] pos) (tDisp1 tk tv) := by
  constructor
  intro pins s σ H Q I q
  let d := s.heap.objs.size
  have hn : H d = none := I.hok.fresh (Nat.le_refl _)
  have I1 := I.laid (a := d) (o := .dT []) (h' := s.heap.push { cls := .type "dict", data := .dict #[] }) (t' := s.toks) (fun _ _ q => Heap.get?_push_of_some _ q) (Nat.le_refl _) (dt_empty s.heap I.big)
  rw [arm_eval_Dict, zip_pairTrees [some ek] [ev] X.env pos rfl rfl, dictDisplay_pairs (pairTrees [some ek] [ev] X.env pos) (by intro z; cases z) (show 1 < 17 by decide)]
  refine wpAny_bind (wpAny_standAt (wpAny_bind (wpAny_subDictH (knd := tupleKind (mixKind X.prog X.w)) (Nat.lt_of_le_of_lt (Nat.le_succ _) hu) (show 1 ≤ 15 by decide) ?_)))
  refine pairTrees_cons_walk ?_
  refine thn (hk.run pins _ σ _ _ I1 (q _ hn)) ?_
  rintro kv s1 ⟨x, H1, J1, r1, q1⟩
  refine thn (hv.run pins _ σ _ _ J1 q1) ?_
  rintro vv s2 ⟨y, H2, J2, r2, b, k, rfl, hp, hb, q2⟩
  cases (show kv = Value.ref b from r1)
  refine pairTrees_nil_walk ?_
  obtain ⟨_, sys, xs, rel, dd⟩ := dt_of J2.hok hp
  cases rel
  refine ⟨[(k, b, vv)], ⟨rfl, rfl, key_of J2.hok hb, trivial⟩, dd, ?_⟩
  rintro h' tk ⟨o, es, ep, ho, c1, c2, c3, c4, c5⟩ hs
  refine wpAny_pure ⟨.ref d, _, ?_, rfl, q2⟩
  refine J2.write (t' := tk) (x := d) (e := d) (o := .dT [(k, y)]) (by rw [hp]; exact True.intro) (.inl rfl) (fun c u n e => (hs.2 c n).trans e) ⟨o, ho⟩ ?_
  refine ⟨show 1 ≤ sizeLine by rw [sizeLine_eq]; decide, sys, [(k, b, vv)], .cons ⟨rfl, ?_, r2⟩ .nil, o, es, ep, ho, c1, c2, c3, c5⟩
  rw [upd_ne (ne_of hb hp (fun z => nomatch z))]
  exact hb
end Kg
namespace K03
open PySem PySem.Spec PyProof.Rows L2 Kg
open Evl (Ex)


section
variable {P : Program} {w : World} {K : PySem.W.Frag} {mg : Str → Option Value} {base : Heap}
theorem ok_is_integer (T : Txt K mg) : FnOk P w K mg base CX0 1 T.f_is_integer T.d_is_integer ["value"] (spB K isI) := by
  refine T.F_is_integer.ok sc_is_integer (fun vs H Q E h => ?_) (fun cdv A outer s H vs Q E hr h => ?_)
  · obtain ⟨v, d, rfl, _⟩ := h
    rfl
  · obtain ⟨v, d, rfl, hd, k⟩ := h
    refine ⟨_, (pss_one (ps_ret (pe_and (pe_callB call_isi (by rfl) T.z_isinstance (by decide +kernel) (pa_cons (pv 0) (pa_cons (pe_bltn (v := .ty "int") (by rfl) T.z_int (by decide +kernel) rfl) pa_nil))) (pe_one (pe_not (pe_callB call_isi (by rfl) T.z_isinstance (by decide +kernel) (pa_cons (pv 0) (pa_cons (pe_bltn (v := .ty "bool") (by rfl) T.z_bool (by decide +kernel) rfl) pa_nil)))))))), ?_⟩
    have fin : ∀ b, b = isI d → Q (.bl b) H := fun b e => e ▸ k H (Evl.Ex.refl H)
    refine ⟨_, rfl, ?_⟩
    refine ⟨_, _, _, _, _, rfl, .ty _, tyX_of hd, kit_ty (kit_int d), ?_⟩
    refine ⟨_, rfl, ifB (fun c => ?_) (fun c => ?_)⟩
    · refine ⟨_, rfl, ?_⟩
      refine ⟨_, _, _, _, _, rfl, .ty _, tyX_of hd, kit_ty (kit_bool d), ?_⟩
      exact ⟨_, rfl, fin _ (by rw [isI_of, c]; rfl)⟩
    · exact fin _ (by rw [isI_of, c]; rfl)
/-- a bound, or none -/
inductive Bd : V → Option Int → Prop
  | non : Bd .non none
  | int (i : Int) : Bd (.int i) (some i)
def withinD (d : PyData) (lo hi : Option Int) : Bool := match d with
  | .int i => lo.all (· ≤ i) && hi.all (i ≤ ·)
  | _ => false
def spWithin (K : PySem.W.Frag) : Sp := fun vs H Q _ => ∃ v l m d lo hi, vs = [v, l, m] ∧ Da K H v d ∧ Bd l lo ∧ Bd m hi ∧ ∀ H', Ex H H' → Q (.bl (withinD d lo hi)) H'
theorem ok_is_square (T : Txt K mg) : FnOk P w K mg base CX0 2 T.f_is_square T.d_is_square ["value"] (spB K isSq) := by
  have G_is_integer : FnOk P w K mg base CX0 1 T.f_is_integer T.d_is_integer ["value"] (spB K isI) := ok_is_integer T
  refine T.F_is_square.ok sc_is_square (fun vs H Q E h => ?_) (fun cdv A outer s H vs Q E hr h => ?_)
  · obtain ⟨v, d, rfl, _⟩ := h
    rfl
  · obtain ⟨v, d, rfl, hd, k⟩ := h
    have hr1 := hr
    refine ⟨_, (pss_cons (ps_if (PW.pt (pw_or (pt_not (pt_val (pe_callB call_isiT (by rfl) T.z_isinstance (by decide +kernel) (pa_cons (pv 0) (pa_cons (pe_tup (pa_cons (pe_bltn (v := .ty "list") (by rfl) T.z_list (by decide +kernel) rfl) (pa_cons (pe_bltn (v := .ty "tuple") (by rfl) T.z_tuple (by decide +kernel) rfl) pa_nil))) pa_nil))))) (pw_or1 (pt_cmpR op_ne (pe_callB call_len_seq (by rfl) T.z_len (by decide +kernel) (pa_cons (pv 0) pa_nil)) pe_int (nomark _))))) (pss_one (ps_ret pe_bl)) pss_nil)
  (pss_one (ps_ret (pe_and (pe_call G_is_integer hr1 rfl T.g_is_integer T.F_is_integer.kp (b_is_integer T) .nil pass0 (pa_cons (pe_ix ix_seq (pv 0) pe_int (fun _ _ => rfl)) pa_nil)) (pe_one (pe_call G_is_integer hr1 rfl T.g_is_integer T.F_is_integer.kp (b_is_integer T) .nil pass0 (pa_cons (pe_ix ix_seq (pv 0) pe_int (fun _ _ => rfl)) pa_nil))))))), ?_⟩
    refine ⟨_, rfl, (by show 2 ≤ sizeLine; decide), fun tp hp => ?_⟩
    have hd1 := Da.mono (Evl.Ex.new (o := .tup [.ty "list", .ty "tuple"]) hp) d hd
    refine ⟨_, _, _, _, _, _, rfl, upd_same, .cons (.ty _) (.cons (.ty _) .nil), tyX_of hd1, kit_seq d, ?_⟩
    have e1 : Ex H (upd H tp (.tup [.ty "list", .ty "tuple"])) := Evl.Ex.new hp
    have fin : ∀ b H2, b = isSq d → Ex H H2 → Q (.bl b) H2 := fun b H2 e => e ▸ k H2
    refine ⟨_, rfl, ?_⟩
    refine ifB (fun c => ?_) (fun c => ?_)
    · walk_at "rd"
      refine fin _ _ ?_ e1
      cases e : seqOf d with
      | none => rw [sq_no e]
      | some ds => rw [e] at c; cases c
    · obtain ⟨ds, e⟩ : ∃ ds, seqOf d = some ds := by
        cases e : seqOf d with
        | none => rw [e] at c; cases c
        | some ds => exact ⟨ds, rfl⟩
      obtain ⟨a, xs, rfl, hs, ha⟩ := seq_at hd1 e
      walk_at "rd"
      refine ifB (fun c2 => ?_) (fun c2 => ?_)
      · walk_at "rd"
        refine fin _ _ (sq_not e ?_).symm e1
        rw [← ha.len]
        intro hl
        rw [hl] at c2
        exact absurd c2 (by decide)
      · have hl : xs.length = 2 := by
          have := of_decide_eq_true (by simpa using c2 : decide (V.int (xs.length : Int) = V.int 2) = true)
          injection this with this
          omega
        obtain ⟨x, y, d0, d1, rfl, rfl, h0, h1⟩ := da_two ha hl
        rcases hs with hs | hs
        all_goals
          walk_at "rd"
          intro H2 e2
          refine ⟨_, rfl, ifB (fun c3 => ?_) (fun c3 => ?_)⟩
          · have h1' := Da.mono e2 d1 h1
            have hs2 := seq_ex (K := K) e2 (by first | exact Or.inl hs | exact Or.inr hs)
            rcases hs2 with hs2 | hs2
            all_goals
              walk_at "rd"
              refine fun H3 e3 => fin _ _ ?_ ((e1.trans e2).trans e3)
              rw [sq_two e, c3]
              rfl
          · refine fin _ _ ?_ (e1.trans e2)
            rw [sq_two e, c3]
            rfl
end
end K03
namespace K03
open PySem PySem.Spec PyProof.Rows L2 Kg
open Evl (Ex)


section
variable {P : Program} {w : World} {K : PySem.W.Frag} {mg : Str → Option Value} {base : Heap}
def spAre (K : PySem.W.Frag) : Sp := fun vs H Q _ => ∃ v d, vs = [v] ∧ Da K H v d ∧ (∀ ds, seqOf d = some ds → ds.length < 60) ∧ ∀ H', Ex H H' → Q (.bl (areSq d)) H'
theorem ok_are_squares (T : Txt K mg) : FnOk P w K mg base CX0 3 T.f_are_squares T.d_are_squares ["value"] (spAre K) := by
  have G_is_square : FnOk P w K mg base CX0 2 T.f_is_square T.d_is_square ["value"] (spB K isSq) := ok_is_square T
  refine T.F_are_squares.ok sc_are_squares (fun vs H Q E h => ?_) (fun cdv A outer s H vs Q E hr h => ?_)
  · obtain ⟨v, d, rfl, _⟩ := h
    rfl
  · obtain ⟨v, d, rfl, hd, few, k⟩ := h
    have hr1 := hr
    have hu1 := hu_of hr
    refine ⟨_, (pss_cons (ps_if (pt_not (pt_val (pe_callB call_isiT (by rfl) T.z_isinstance (by decide +kernel) (pa_cons (pv 0) (pa_cons (pe_tup (pa_cons (pe_bltn (v := .ty "list") (by rfl) T.z_list (by decide +kernel) rfl) (pa_cons (pe_bltn (v := .ty "tuple") (by rfl) T.z_tuple (by decide +kernel) rfl) pa_nil))) pa_nil))))) (pss_one (ps_ret pe_bl)) pss_nil)
  (pss_cons (ps_if (pt_not (pt_val (pe_callB (cr_all rfl) (by rfl) T.z_all (by decide +kernel) (pa_cons (pe_lc (own := [("item", 1)]) (g := (gName 1)) rfl sc_are_squares.nd (pi_or (pi_list (pv 0)) (pi_tup (pv 0))) (blkOk_by (own := [("item", 1)]) (N := ["value", "item"]) (sc := defScope s_are_squares) (by decide +kernel)) (fun _ _ _ _ _ => (pg_name (i := 1) sc_are_squares.nd rfl (Or.inl rfl))) (fun _ _ _ _ _ => pts_nil) (fun _ _ _ _ _ => (pe_call G_is_square hr1 rfl T.g_is_square T.F_is_square.kp (b_is_square T) .nil pass0 (pa_cons (pv 1) pa_nil)))) pa_nil)))) (pss_one (ps_ret pe_bl)) pss_nil)
  (pss_one (ps_ret (pe_cmpR op_eq (pe_callB cr_lenST (by rfl) T.z_len (by decide +kernel) (pa_cons (pe_scT hu1 rfl sc_are_squares.nd (pi_or (pi_list (pv 0)) (pi_tup (pv 0))) (blkOk_by (own := [("item", 1)]) (N := ["value", "item"]) (sc := defScope s_are_squares) (by decide +kernel)) (fun _ _ _ _ _ => (pg_name (i := 1) sc_are_squares.nd rfl (Or.inl rfl))) (fun _ _ _ _ _ => pts_nil) (fun _ _ _ _ _ => (pe_tup (pa_cons (pe_ix (show IxR _ (rIx K) from ix_seq) (pv 1) pe_int (fun _ _ => rfl)) (pa_cons (pe_ix (show IxR _ (rIx K) from ix_seq) (pv 1) pe_int (fun _ _ => rfl)) pa_nil))))) pa_nil)) (pe_callB call_len_seq (by rfl) T.z_len (by decide +kernel) (pa_cons (pv 0) pa_nil)) (nomark _)))))), ?_⟩
    refine ⟨_, rfl, (by show 2 ≤ sizeLine; decide), fun tp hp => ?_⟩
    have hd1 := Da.mono (Evl.Ex.new (o := .tup [.ty "list", .ty "tuple"]) hp) d hd
    refine ⟨_, _, _, _, _, _, rfl, upd_same, .cons (.ty _) (.cons (.ty _) .nil), tyX_of hd1, kit_seq d, ?_⟩
    have e1 : Ex H (upd H tp (.tup [.ty "list", .ty "tuple"])) := Evl.Ex.new hp
    have fin : ∀ b H2, b = areSq d → Ex H H2 → Q (.bl b) H2 := fun b H2 e => e ▸ k H2
    refine ⟨_, rfl, ?_⟩
    refine ifB (fun c => ?_) (fun c => ?_)
    · walk_at "rd"
      refine fin _ _ ?_ e1
      unfold areSq
      cases e : seqOf d with
      | none => rfl
      | some ds => rw [e] at c; cases c
    · obtain ⟨ds, e⟩ : ∃ ds, seqOf d = some ds := by
        cases e : seqOf d with
        | none => rw [e] at c; cases c
        | some ds => exact ⟨ds, rfl⟩
      have are : areSq d = (ds.all isSq && decide ((ds.map sqOf).Nodup)) := by unfold areSq; rw [e]
      have few := few ds e
      obtain ⟨a, xs, rfl, hs, ha⟩ := seq_at hd1 e
      have hlen := ha.len
      generalize upd H tp (.tup [.ty "list", .ty "tuple"]) = H1 at hd1 e1 hs ha ⊢
      have small : sizeLine = 16777216 := sizeLine_eq
      rcases hs with hs | hs
      · refine Or.inl ?_
        refine ⟨_, rfl, a, rfl, ⟨xs, hs⟩, fun D hD => ?_⟩
        refine lc_list (K := K) (a := a) (xs := xs) (fun i H' => Ex H1 H' ∧ H' D = some (.lst (((ds.take i).map isSq).map V.bl))) ⟨Evl.Ex.new hD, upd_same⟩ (fun i H' _ p => Evl.ex_l p.1 hs) ?_ ?_
        · rintro i x H' hi ⟨p1, p2⟩
          obtain ⟨di, hdi, hx⟩ := ha.at hi
          have lt := (List.getElem?_eq_some_iff.mp hi).1
          refine ⟨rfl, ?_⟩
          refine ⟨_, rfl, x, di, rfl, Da.mono p1 di hx, fun H4 e4 => ?_⟩
          refine ⟨_, e4 D _ p2, ?_, Evl.Ex.mut (p1.trans e4) hD, ?_⟩
          · simp only [List.length_map, List.length_take]
            omega
          · rw [upd_same, take_one hdi]
            simp
        · rintro H2 ⟨p1, p2⟩
          have hall : ((ds.take xs.length).map isSq).all id = ds.all isSq := by
            rw [hlen, List.take_length, List.all_map]; rfl
          refine ⟨D, _, rfl, SqL.of p2, ?_⟩
          rw [hall]
          refine ⟨_, rfl, ?_⟩
          refine ifB (fun c2 => ?_) (fun c2 => ?_)
          · have c3 : ds.all isSq = false := by simpa using c2
            walk_at "rd"
            refine fin _ _ ?_ (e1.trans p1)
            rw [are, c3]
            rfl
          · have c3 : ds.all isSq = true := by simpa using c2
            have hsq : ∀ i x, xs[i]? = some x → ∃ d, ds[i]? = some d ∧ Da K H1 x d ∧ isSq d = true := fun i x hi => by
              obtain ⟨d, hd, hx⟩ := ha.at hi
              exact ⟨d, hd, hx, List.all_eq_true.mp c3 d (List.mem_of_getElem? hd)⟩
            refine Or.inl ?_
            refine ⟨_, rfl, a, rfl, ⟨xs, Evl.ex_l p1 hs⟩, fun D2 hD2 => ?_⟩
            refine scT_seq (xs := xs) (Held K P w D2 H2 ds) ⟨Evl.Ex.new hD2, [], upd_same, by simp, by simp, by simp, by simp⟩ (fun H3 h3 => ⟨xs, Evl.ex_l (p1.trans h3.ex) hs, Nat.le_refl _⟩)
              (fun i H3 hi h3 => ⟨xs, xs[i], Evl.ex_l (p1.trans h3.ex) hs, by simp [hi]⟩) (fun i H3 x H' hi h3 y => ⟨y.1, y.2 xs (Evl.ex_l (p1.trans h3.ex) hs)⟩) ?_ ?_
            · rintro i x H3 hi h3
              obtain ⟨di, hdi, hx, hsd⟩ := hsq i x hi
              have lt := (List.getElem?_eq_some_iff.mp hi).1
              obtain ⟨L, hL, hLt, hLk, hLn, hLl⟩ := h3.it
              obtain ⟨c0, z0, z1, rfl, hsq2, hc0⟩ := sq_at (Da.mono (p1.trans h3.ex) di hx) hsd
              have kq : Kg.keyOf di = [z0, z1] := by unfold Kg.keyOf; rw [hsq2]
              refine ⟨rfl, ?_⟩
              rcases hc0 with hc0 | hc0
              all_goals
                walk_at "rd"
                intro t ht
                have et : Ex H3 (upd H3 t (.tup [.int z0, .int z1])) := Evl.Ex.new ht
                refine ⟨t, Kg.keyOf di, L, rfl, .inl (.inl ?_), et _ _ hL, fun p hp => Evl.ex_t et (hLt p hp), by omega, fun L' c1 c2 => ?_⟩
                · rw [kq]; exact upd_same
                · refine Held.turn (h3.ex.trans et) hD2 hdi (et _ _ hL) (fun p hp => Evl.ex_t et (hLt p hp)) (.inl (.inl ?_)) hLk hLn hLl c1 c2
                  rw [kq]; exact upd_same
            · rintro H3 h3
              obtain ⟨L, hL, hLt, hLk, hLn, hLl⟩ := h3.it
              have hx2 := Evl.ex_l (p1.trans h3.ex) hs
              walk_at "rd"
              refine fin _ _ ?_ ((e1.trans p1).trans h3.ex)
              rw [are, c3, Bool.true_and]
              have iff := len_iff_nodup (M := L.map (·.2)) (N := ds.map Kg.keyOf) hLn (by rw [hlen, List.take_length] at hLk; exact hLk)
              rw [List.length_map, List.length_map, keys_nodup c3] at iff
              have e5 : (V.int (L.length : Int) = V.int (xs.length : Int)) ↔ L.length = ds.length := by
                constructor
                · intro z
                  injection z with z
                  omega
                · intro z
                  rw [z, hlen]
              exact decide_eq_decide.mpr (e5.trans iff)
      · refine Or.inr ?_
        refine ⟨_, rfl, a, rfl, ⟨xs, hs⟩, fun D hD => ?_⟩
        refine lc_tup (K := K) (a := a) (xs := xs) (fun i H' => Ex H1 H' ∧ H' D = some (.lst (((ds.take i).map isSq).map V.bl))) ⟨Evl.Ex.new hD, upd_same⟩ (fun i H' _ p => Evl.ex_t p.1 hs) ?_ ?_
        · rintro i x H' hi ⟨p1, p2⟩
          obtain ⟨di, hdi, hx⟩ := ha.at hi
          have lt := (List.getElem?_eq_some_iff.mp hi).1
          refine ⟨rfl, ?_⟩
          refine ⟨_, rfl, x, di, rfl, Da.mono p1 di hx, fun H4 e4 => ?_⟩
          refine ⟨_, e4 D _ p2, ?_, Evl.Ex.mut (p1.trans e4) hD, ?_⟩
          · simp only [List.length_map, List.length_take]
            omega
          · rw [upd_same, take_one hdi]
            simp
        · rintro H2 ⟨p1, p2⟩
          have hall : ((ds.take xs.length).map isSq).all id = ds.all isSq := by
            rw [hlen, List.take_length, List.all_map]; rfl
          refine ⟨D, _, rfl, SqL.of p2, ?_⟩
          rw [hall]
          refine ⟨_, rfl, ?_⟩
          refine ifB (fun c2 => ?_) (fun c2 => ?_)
          · have c3 : ds.all isSq = false := by simpa using c2
            walk_at "rd"
            refine fin _ _ ?_ (e1.trans p1)
            rw [are, c3]
            rfl
          · have c3 : ds.all isSq = true := by simpa using c2
            have hsq : ∀ i x, xs[i]? = some x → ∃ d, ds[i]? = some d ∧ Da K H1 x d ∧ isSq d = true := fun i x hi => by
              obtain ⟨d, hd, hx⟩ := ha.at hi
              exact ⟨d, hd, hx, List.all_eq_true.mp c3 d (List.mem_of_getElem? hd)⟩
            refine Or.inr ?_
            refine ⟨_, rfl, a, rfl, ⟨xs, Evl.ex_t p1 hs⟩, fun D2 hD2 => ?_⟩
            refine scT_seq (xs := xs) (Held K P w D2 H2 ds) ⟨Evl.Ex.new hD2, [], upd_same, by simp, by simp, by simp, by simp⟩ (fun H3 h3 => ⟨xs, Evl.ex_t (p1.trans h3.ex) hs, Nat.le_refl _⟩)
              (fun i H3 hi h3 => ⟨xs, xs[i], Evl.ex_t (p1.trans h3.ex) hs, by simp [hi]⟩) (fun i H3 x H' hi h3 y => ⟨y.1, y.2 xs (Evl.ex_t (p1.trans h3.ex) hs)⟩) ?_ ?_
            · rintro i x H3 hi h3
              obtain ⟨di, hdi, hx, hsd⟩ := hsq i x hi
              have lt := (List.getElem?_eq_some_iff.mp hi).1
              obtain ⟨L, hL, hLt, hLk, hLn, hLl⟩ := h3.it
              obtain ⟨c0, z0, z1, rfl, hsq2, hc0⟩ := sq_at (Da.mono (p1.trans h3.ex) di hx) hsd
              have kq : Kg.keyOf di = [z0, z1] := by unfold Kg.keyOf; rw [hsq2]
              refine ⟨rfl, ?_⟩
              rcases hc0 with hc0 | hc0
              all_goals
                walk_at "rd"
                intro t ht
                have et : Ex H3 (upd H3 t (.tup [.int z0, .int z1])) := Evl.Ex.new ht
                refine ⟨t, Kg.keyOf di, L, rfl, .inl (.inl ?_), et _ _ hL, fun p hp => Evl.ex_t et (hLt p hp), by omega, fun L' c1 c2 => ?_⟩
                · rw [kq]; exact upd_same
                · refine Held.turn (h3.ex.trans et) hD2 hdi (et _ _ hL) (fun p hp => Evl.ex_t et (hLt p hp)) (.inl (.inl ?_)) hLk hLn hLl c1 c2
                  rw [kq]; exact upd_same
            · rintro H3 h3
              obtain ⟨L, hL, hLt, hLk, hLn, hLl⟩ := h3.it
              have hx2 := Evl.ex_t (p1.trans h3.ex) hs
              walk_at "rd"
              refine fin _ _ ?_ ((e1.trans p1).trans h3.ex)
              rw [are, c3, Bool.true_and]
              have iff := len_iff_nodup (M := L.map (·.2)) (N := ds.map Kg.keyOf) hLn (by rw [hlen, List.take_length] at hLk; exact hLk)
              rw [List.length_map, List.length_map, keys_nodup c3] at iff
              have e5 : (V.int (L.length : Int) = V.int (xs.length : Int)) ↔ L.length = ds.length := by
                constructor
                · intro z
                  injection z with z
                  omega
                · intro z
                  rw [z, hlen]
              exact decide_eq_decide.mpr (e5.trans iff)
end
end K03
namespace K03
open PySem PySem.Spec PyProof.Rows L2 Kg
open Evl (Ex)


section
variable {P : Program} {w : World} {K : PySem.W.Frag} {mg : Str → Option Value} {base : Heap}
theorem ints_dp {H : Hp} : ∀ ns : List Int, DpAll K H (ns.map V.int) (ns.map PyData.int)
  | [] => .nil
  | n :: ns => .cons (.int n) (ints_dp ns)
theorem ints_lay : ∀ ns : List Int, PyData.canLayAll0 (ns.map PyData.int) = true
  | [] => by simp [PyData.canLayAll0]
  | n :: ns => by simp [PyData.canLayAll0, PyData.canLay0, ints_lay ns]
theorem ints_depth : ∀ ns : List Int, PyData.depthAll (ns.map PyData.int) = 0
  | [] => by simp [PyData.depthAll]
  | n :: ns => by simp [PyData.depthAll, PyData.depth, ints_depth ns]
theorem ints_shaped (ns : List Int) : SeqAt.shaped (.list (ns.map PyData.int)) = true := by
  simp [SeqAt.shaped, PyData.canLay0, PyData.depth, ints_lay, ints_depth]
theorem ok_draw (T : Txt K mg) : FnOk P w K mg base CX0 1 T.f_w_dip T.d_w_dip ["jar", "many"] (spDraw K) := by
  refine T.F_w_dip.ok sc_w_dip (fun vs H Q E h => ?_) (fun cdv A outer s H vs Q E hr h => ?_)
  · obtain ⟨j, B, b, n, rfl, _⟩ := h
    rfl
  · obtain ⟨j, B, b, n, rfl, hn, hn9, u, k⟩ := h
    have hr1 := hr
    have hu2 := hr.units
    obtain ⟨c, ns, at', rest, hj, hc, h0, h1, h2⟩ := u.it
    have hcO : SqL K (off j H) c (ns.map V.int) := Evl.ex_l u.ba hc
    have hcH : SqL K H c (ns.map V.int) := Evl.ex_l (u.ba.trans (off_sub j H)) hc
    refine ⟨_, (pss_cons (ps_if (pt_cmpR op_gt (pe_ix ix_list (pv 0) pe_int (fun _ _ => rfl)) pe_int (nomark _)) (pss_cons (ps_set (i := 2) sc_w_dip.nd rfl (Or.inl rfl) (pe_callTy call_int1 (by rfl) T.z_int (by decide +kernel) (pa_cons (pe_ix ix_list (pv 0) pe_int (fun _ _ => rfl)) pa_nil)))
  (pss_cons (ps_asg (pe_op op_fdivW (pv 2) (pv 1)) (pg_sub (pv 0) pe_int set_list))
  (pss_one (ps_ret (pe_op op_mod (pe_callTy call_int1 (by rfl) T.z_int (by decide +kernel) (pa_cons (pv 2) pa_nil)) (pv 1)))))) pss_nil)
  (pss_cons (ps_set (i := 3) sc_w_dip.nd rfl (Or.inl rfl) (pe_ix ix_list (pv 0) pe_int (fun _ _ => rfl)))
  (pss_cons (ps_asg (pe_op op_add (pv 3) pe_int) (pg_sub (pv 0) pe_int set_list))
  (pss_cons (ps_set (i := 4) sc_w_dip.nd rfl (Or.inl rfl) (pe_op op_add (pe_op op_mul pe_int (pv 3)) pe_int))
  (Evl.pss_cut (ps_if (pt_cmpR (op_neD hu2) (pe_ix ix_list (pv 0) pe_int (fun _ _ => rfl)) (pe_lst pa_nil) (nomark _)) (pss_one (ps_set (i := 4) sc_w_dip.nd rfl (Or.inl rfl) (pe_ix ix_list (pe_ix ix_list (pv 0) pe_int (fun _ _ => rfl)) (pe_op op_mod (pe_callTy call_int1 (by rfl) T.z_int (by decide +kernel) (pa_cons (pv 3) pa_nil)) (pe_callB call_len_seq (by rfl) T.z_len (by decide +kernel) (pa_cons (pe_ix ix_list (pv 0) pe_int (fun _ _ => rfl)) pa_nil))) (fun _ _ => rfl)))) pss_nil)
  (pss_cons (ps_if (PW.pt (pw_and (pt_cmpR op_lt (pv 3) (pe_callB call_len_seq (by rfl) T.z_len (by decide +kernel) (pa_cons (pe_ix ix_list (pv 0) pe_int (fun _ _ => rfl)) pa_nil)) (nomark _)) (pw_and1 (pt_cmpR op_ge (pe_callB call_abs (by rfl) T.z_abs (by decide +kernel) (pa_cons (pv 4) pa_nil)) (pe_op op_pow pe_int pe_int) (nomark _))))) (pss_cons (ps_set (i := 2) sc_w_dip.nd rfl (Or.inl rfl) (pe_op op_add (pe_op op_mul pe_int (pe_op op_sub (pe_callB call_abs (by rfl) T.z_abs (by decide +kernel) (pa_cons (pv 4) pa_nil)) (pe_op op_pow pe_int pe_int))) (pe_callTy call_int1 (by rfl) T.z_int (by decide +kernel) (pa_cons (pe_cmpR op_lt (pv 4) pe_int (nomark _)) pa_nil))))
  (pss_cons (ps_asg (pe_op op_fdivW (pe_callTy call_int1 (by rfl) T.z_int (by decide +kernel) (pa_cons (pv 2) pa_nil)) (pv 1)) (pg_sub (pv 0) pe_int set_list))
  (pss_one (ps_ret (pe_op op_mod (pe_callTy call_int1 (by rfl) T.z_int (by decide +kernel) (pa_cons (pv 2) pa_nil)) (pv 1)))))) pss_nil)
  (pss_cons (ps_set (i := 5) sc_w_dip.nd rfl (Or.inl rfl) (pe_op op_mod (pe_callTy call_int1 (by rfl) T.z_int (by decide +kernel) (pa_cons (pe_op op_pow (pe_op op_add (pe_op op_add (pe_op op_mod (pe_callTy call_int1 (by rfl) T.z_int (by decide +kernel) (pa_cons (pv 4) pa_nil)) pe_int) (pe_op op_mul pe_int (pv 3))) pe_int) pe_int) pa_nil)) pe_int))
  (pss_cons (ps_set (i := 5) sc_w_dip.nd rfl (Or.inl rfl) (pe_op op_mod (pe_callTy call_int1 (by rfl) T.z_int (by decide +kernel) (pa_cons (pe_op op_pow (pe_op op_add (pe_op op_add (pe_op op_mul (pv 5) (pe_op op_add (pe_op op_mul pe_int (pv 3)) pe_int)) (pe_op op_mul (pe_op op_mul pe_int (pv 3)) (pv 3))) pe_int) pe_int) pa_nil)) pe_int))
  (pss_one (ps_ret (pe_op op_mod (pe_callTy call_int1 (by rfl) T.z_int (by decide +kernel) (pa_cons (pe_op op_fdivW (pv 5) pe_int) pa_nil)) (pv 1)))))))))))), ?_⟩
    walk_at "rd"
    refine ifB (fun c1 => ?_) (fun c1 => ?_)
    · walk_at "rd"
      refine k _ _ (Int.emod_nonneg _ (by omega)) (Int.emod_lt_of_pos _ hn) Go.upd ⟨⟨c, ns, at', rest / n, upd_same, hc, h0, by omega, Int.ediv_nonneg h2 (by omega)⟩, u.ba.trans Go.upd.ex⟩
    · have hcG : SqL K (upd H j (.lst [.ref c, .int (at' + 1), .int rest])) c (ns.map V.int) := Evl.ex_l (off_sub j _) (Evl.ex_l Go.upd.ex hcO)
      walk_at "rd"
      refine ⟨fun σ' H' => ∃ cl : Int, σ' = [some (.ref j), some (.int n), none, some (.int at'), some (.int cl), none] ∧ Go j H H' ∧ H' j = some (.lst [.ref c, .int (at' + 1), .int rest]), ?_, ?_⟩
      · walk_at "rd"
        intro l hl
        have njl : j ≠ l := fun e => by rw [← e, upd_same] at hl; cases hl
        have g2 : Go j H (upd (upd H j (.lst [.ref c, .int (at' + 1), .int rest])) l (.lst [])) := Go.upd.trans (Go.of (Ex.new hl))
        have hj2 : upd (upd H j (.lst [.ref c, .int (at' + 1), .int rest])) l (.lst []) j = some (.lst [.ref c, .int (at' + 1), .int rest]) := (upd_ne njl).trans upd_same
        have hl2 : upd (upd H j (.lst [.ref c, .int (at' + 1), .int rest])) l (.lst []) l = some (.lst []) := upd_same
        have hc2 : SqL K (upd (upd H j (.lst [.ref c, .int (at' + 1), .int rest])) l (.lst [])) c (ns.map V.int) := Evl.ex_l (off_sub j _) (Evl.ex_l g2.ex hcO)
        refine ⟨.list (ns.map .int), .list [], .lst hc2 (ints_dp ns), .lst (SqL.of hl2) .nil, ints_shaped ns, by decide, ?_⟩
        walk_at "rd"
        refine ifB (fun c2 => ?_) (fun c2 => ?_)
        · have ne : ns ≠ [] := by
            rintro rfl
            simp [PyData.eqv, PyData.eqvAll] at c2
          have hlen : 0 < ((ns.map V.int).length : Int) := by
            rw [List.length_map]
            have := List.length_pos_iff.mpr ne
            omega
          have m0 := Int.emod_nonneg at' (show ((ns.map V.int).length : Int) ≠ 0 by omega)
          have m1 := Int.emod_lt_of_pos at' hlen
          obtain ⟨z, hz⟩ : ∃ z, atI (ns.map V.int) (at' % ((ns.map V.int).length : Int)) = some (.int z) := by
            generalize hm : at' % ((ns.map V.int).length : Int) = m at m0 m1
            obtain ⟨z, hz⟩ : ∃ z, ns[m.toNat]? = some z := ⟨_, List.getElem?_eq_getElem (by rw [List.length_map] at m1; omega)⟩
            exact ⟨z, at_of (j := m.toNat) (by omega) (by rw [List.getElem?_map, hz]; rfl)⟩
          walk_at "rd"
          exact hj2
        · exact ⟨_, rfl, g2, hj2⟩
      · rintro σ' H2 ⟨cl, rfl, g2, hj2⟩
        have hc2 : SqL K H2 c (ns.map V.int) := Evl.ex_l (off_sub j _) (Evl.ex_l g2.ex hcO)
        have last : ∀ H3, Go j H H3 → H3 j = some (.lst [.ref c, .int (at' + 1), .int rest]) → ∀ r : Int, 0 ≤ r → r < n → Q (.int r) H3 :=
          fun H3 g3 h3 r r0 r1 => k r H3 r0 r1 g3 ⟨⟨c, ns, at' + 1, rest, h3, hc, by omega, by omega, h2⟩, u.ba.trans g3.ex⟩
        walk_at "rd"
        refine ifB (fun c2 => ?_) (fun c2 => ?_)
        · walk_at "rd"
          refine ifB (fun c3 => ?_) (fun c3 => ?_)
          · walk_at "rd"
            have c4 : (10 : Int) ^ 18 ≤ if cl < 0 then -cl else cl := of_decide_eq_true c3
            refine k _ _ (Int.emod_nonneg _ (by omega)) (Int.emod_lt_of_pos _ hn) (g2.trans Go.upd) ⟨⟨c, ns, at' + 1, _, upd_same, hc, by omega, by omega, Int.ediv_nonneg ?_ (by omega)⟩, u.ba.trans (g2.trans Go.upd).ex⟩
            show (0 : Int) ≤ 2 * ((if cl < 0 then -cl else cl) - 10 ^ 18) + (if decide (cl < 0) = true then 1 else 0)
            split <;> split <;> omega
          · walk_at "rd"
            refine ⟨⟨by decide, by decide, mix_bound (by omega) (by omega) (by omega) (by omega) (by omega) (by omega) (by omega) (by omega) (by omega) (by omega)⟩, ?_⟩
            walk_at "rd"
            exact last _ g2 hj2 _ (Int.emod_nonneg _ (by omega)) (Int.emod_lt_of_pos _ hn)
        · walk_at "rd"
          refine ⟨⟨by decide, by decide, mix_bound (by omega) (by omega) (by omega) (by omega) (by omega) (by omega) (by omega) (by omega) (by omega) (by omega)⟩, ?_⟩
          walk_at "rd"
          exact last _ g2 hj2 _ (Int.emod_nonneg _ (by omega)) (Int.emod_lt_of_pos _ hn)
end
end K03
namespace K03
open PySem PySem.Spec PyProof.Rows L2 Kg
open Evl (Ex)


section
variable {P : Program} {w : World} {K : PySem.W.Frag} {mg : Str → Option Value} {base : Heap}
def spUrn (K : PySem.W.Frag) : Sp := fun vs H Q _ => ∃ (a : Addr) (ns : List Int), vs = [.ref a] ∧ SqL K H a (ns.map V.int) ∧ ns.length ≤ 63 ∧
  ∀ (j : Addr) (B H' : Hp), H j = none → Ex H H' → Ex H B → Urn K B j 1000000 H' → Q (.ref j) H'
theorem ok_urn (T : Txt K mg) : FnOk P w K mg base CX0 1 T.f_w_tub T.d_w_tub ["script"] (spUrn K) := by
  refine T.F_w_tub.ok sc_w_tub (fun vs H Q E h => ?_) (fun cdv A outer s H vs Q E hr h => ?_)
  · obtain ⟨a, ns, rfl, _⟩ := h
    rfl
  · obtain ⟨a, ns, rfl, hs, hl, k⟩ := h
    refine ⟨_, (pss_one (ps_ret (pe_lst (pa_cons (pe_lc (own := [("cell", 1)]) (g := (gName 1)) rfl sc_w_tub.nd (pi_list (pe_slice sl_list (pv 0) po_none (po_some pe_int))) (blkOk_by (own := [("cell", 1)]) (N := ["script", "cell"]) (sc := defScope s_w_tub) (by decide +kernel)) (fun _ _ _ _ _ => (pg_name (i := 1) sc_w_tub.nd rfl (Or.inl rfl))) (fun _ _ _ _ _ => pts_nil) (fun _ _ _ _ _ => (pe_callTy call_int1 (by rfl) T.z_int (by decide +kernel) (pa_cons (pv 1) pa_nil)))) (pa_cons pe_int (pa_cons pe_int pa_nil)))))), ?_⟩
    have small : sizeLine = 16777216 := sizeLine_eq
    walk_at "rd"
    intro p hp
    have cut : cutV (ns.map V.int) none (some (63 : Int)) = ns.map V.int := by
      rw [show (63 : Int) = ((63 : Nat) : Int) from rfl, cut_to, List.take_of_length_le (by rw [List.length_map]; exact hl)]
    have e1 : Ex H (upd H p (.lst (cutV (ns.map V.int) none (some (63 : Int))))) := Evl.Ex.new hp
    have h1 : upd H p (.lst (cutV (ns.map V.int) none (some (63 : Int)))) p = some (.lst (ns.map V.int)) := by rw [upd_same, cut]
    refine ⟨p, rfl, ⟨_, SqL.of h1⟩, fun D hD => ?_⟩
    refine lc_list (K := K) (a := p) (xs := ns.map V.int) (fun i H' => Ex (upd H p (.lst (cutV (ns.map V.int) none (some (63 : Int))))) H' ∧ H' D = some (.lst ((ns.take i).map V.int)))
      ⟨Evl.Ex.new hD, upd_same⟩ (fun i H' _ q => SqL.of (q.1 _ _ h1)) ?_ ?_
    · rintro i x H' hi ⟨q1, q2⟩
      rw [List.getElem?_map] at hi
      obtain ⟨z, hz, rfl⟩ := Option.map_eq_some_iff.mp hi
      refine ⟨rfl, ?_⟩
      walk_at "rd"
      refine ⟨_, q2, ?_, Evl.Ex.mut q1 hD, ?_⟩
      · rw [List.length_map, List.length_take]; omega
      · rw [upd_same, take_one hz, List.map_append]; rfl
    · rintro H2 ⟨q1, q2⟩
      rw [List.length_map, List.take_length] at q2
      walk_at "rd"
      intro j hj
      have ej := Evl.Ex.new (o := .lst [.ref D, .int 0, .int 0]) hj
      have hjH : H j = none := Evl.fresh_back (e1.trans q1) hj
      have nDj : D ≠ j := fun e => by rw [← e, q2] at hj; cases hj
      have back : ∀ a o, H a = some o → a ≠ j := fun a o h e => by rw [e, hjH] at h; cases h
      refine k j (off j (upd H2 j (.lst [.ref D, .int 0, .int 0]))) _ hjH (e1.trans (q1.trans ej)) (fun a o h => ?_) ⟨⟨D, ns, 0, 0, upd_same, SqL.of (off_at nDj ((upd_ne nDj).trans q2)), by decide, by decide, by decide⟩, fun a o h => h⟩
      exact off_at (back a o h) ((e1.trans (q1.trans ej)) a o h)
end
end K03
namespace K03
open PySem PySem.Spec PyProof.Rows L2 Kg
open Evl (Ex)


section
variable {P : Program} {w : World} {K : PySem.W.Frag} {mg : Str → Option Value} {base : Heap}
/-- the four about (x, y) -/
def nbD (x y : Int) : PyData := .tuple [.tuple [.int (x + 1), .int y], .tuple [.int (x - 1), .int y], .tuple [.int x, .int (y + 1)], .tuple [.int x, .int (y - 1)]]
def spNb (K : PySem.W.Frag) : Sp := fun vs H Q _ => ∃ (p : Addr) (x y : Int), vs = [.ref p] ∧ SqT K H p [.int x, .int y] ∧
  ∀ (v : V) (H' : Hp), Da K (neu H H') v (nbD x y) → Ex H H' → Q v H'
theorem ok_neighbours (T : Txt K mg) : FnOk P w K mg base CX0 1 T.f_neighbours T.d_neighbours ["square"] (spNb K) := by
  refine T.F_neighbours.ok sc_neighbours (fun vs H Q E h => ?_) (fun cdv A outer s H vs Q E hr h => ?_)
  · obtain ⟨p, x, y, rfl, _⟩ := h
    rfl
  · obtain ⟨p, x, y, rfl, hp, k⟩ := h
    have hr1 := hr
    refine ⟨_, (pss_cons (ps_asg (pv 0) (pg_tup rfl (pgs_cons (pg_name (i := 1) sc_neighbours.nd rfl (Or.inl rfl)) (pgs_cons (pg_name (i := 2) sc_neighbours.nd rfl (Or.inl rfl)) pgs_nil))))
  (pss_one (ps_ret (pe_tup (pa_cons (pe_tup (pa_cons (pe_op op_add (pv 1) pe_int) (pa_cons (pv 2) pa_nil))) (pa_cons (pe_tup (pa_cons (pe_op op_sub (pv 1) pe_int) (pa_cons (pv 2) pa_nil))) (pa_cons (pe_tup (pa_cons (pv 1) (pa_cons (pe_op op_add (pv 2) pe_int) pa_nil))) (pa_cons (pe_tup (pa_cons (pv 1) (pa_cons (pe_op op_sub (pv 2) pe_int) pa_nil))) pa_nil)))))))), ?_⟩
    refine ⟨_, rfl, ?_⟩
    refine ⟨p, _, rfl, hp, rfl, _, _, rfl, _, _, rfl, rfl, ?_⟩
    walk_at "rd"
    intro p1 hp1
    have ep1 : Ex H (upd H p1 (.tup [.int (x+1),.int y])) := Evl.Ex.new hp1
    have ap1 : upd H p1 (.tup [.int (x+1),.int y]) p1 = some (.tup [.int (x+1),.int y]) := upd_same
    generalize upd H p1 (.tup [.int (x+1),.int y]) = A1 at ep1 ap1 ⊢
    walk_at "rd"
    intro p2 hp2
    have ep2 : Ex A1 (upd A1 p2 (.tup [.int (x-1),.int y])) := Evl.Ex.new hp2
    have ap2 : upd A1 p2 (.tup [.int (x-1),.int y]) p2 = some (.tup [.int (x-1),.int y]) := upd_same
    generalize upd A1 p2 (.tup [.int (x-1),.int y]) = A2 at ep2 ap2 ⊢
    walk_at "rd"
    intro p3 hp3
    have ep3 : Ex A2 (upd A2 p3 (.tup [.int x,.int (y+1)])) := Evl.Ex.new hp3
    have ap3 : upd A2 p3 (.tup [.int x,.int (y+1)]) p3 = some (.tup [.int x,.int (y+1)]) := upd_same
    generalize upd A2 p3 (.tup [.int x,.int (y+1)]) = A3 at ep3 ap3 ⊢
    walk_at "rd"
    intro p4 hp4
    have ep4 : Ex A3 (upd A3 p4 (.tup [.int x,.int (y-1)])) := Evl.Ex.new hp4
    have ap4 : upd A3 p4 (.tup [.int x,.int (y-1)]) p4 = some (.tup [.int x,.int (y-1)]) := upd_same
    generalize upd A3 p4 (.tup [.int x,.int (y-1)]) = A4 at ep4 ap4 ⊢
    walk_at "rd"
    intro l hl
    have el : Ex A4 (upd A4 l (.tup [.ref p1,.ref p2,.ref p3,.ref p4])) := Evl.Ex.new hl
    have al : upd A4 l (.tup [.ref p1,.ref p2,.ref p3,.ref p4]) l = some (.tup [.ref p1,.ref p2,.ref p3,.ref p4]) := upd_same
    generalize upd A4 l (.tup [.ref p1,.ref p2,.ref p3,.ref p4]) = A5 at el al ⊢
    have f4 := el
    have f3 := ep4.trans f4
    have f2 := ep3.trans f3
    have f1 := ep2.trans f2
    have f0 := ep1.trans f1
    have m2 := Evl.fresh_back ep1 hp2
    have m3 := Evl.fresh_back (ep1.trans ep2) hp3
    have m4 := Evl.fresh_back ((ep1.trans ep2).trans ep3) hp4
    have ml := Evl.fresh_back (((ep1.trans ep2).trans ep3).trans ep4) hl
    refine k _ _ (.tup (SqT.of (at_neu ml al)) (.cons (.tup (SqT.of (at_neu hp1 (f1 _ _ ap1))) (.cons (.int _) (.cons (.int _) .nil)))
      (.cons (.tup (SqT.of (at_neu m2 (f2 _ _ ap2))) (.cons (.int _) (.cons (.int _) .nil)))
      (.cons (.tup (SqT.of (at_neu m3 (f3 _ _ ap3))) (.cons (.int _) (.cons (.int _) .nil)))
      (.cons (.tup (SqT.of (at_neu m4 (f4 _ _ ap4))) (.cons (.int _) (.cons (.int _) .nil))) .nil))))) f0
end
end K03
namespace K03
open PySem PySem.Spec PyProof.Rows L2 Kg
open Evl (Ex)


section
variable {P : Program} {w : World} {K : PySem.W.Frag} {mg : Str → Option Value} {base : Heap}
/-- what an __init__ that keeps its part does -/
def spKeep (K : PySem.W.Frag) (C : Addr) : Sp := fun vs H Q _ => ∃ (a : Addr) (v : V), vs = [.ref a, v] ∧ H a = some (exo a C none) ∧
  ∀ dx, H dx = none → dx ≠ a → Q .non (upd (upd H dx (exd dx [("part", v)])) a (exo a C (some dx)))
theorem ok_BadSquare_init (T : Txt K mg) : FnOk P w K mg base CX0 1 T.f_BadSquare_init T.d_BadSquare_init ["self", "part"] (spKeep K T.c_BadSquare) := by
  refine T.F_BadSquare_init.ok sc_BadSquare_init (fun vs H Q E h => ?_) (fun cdv A outer s H vs Q E hr h => ?_)
  · obtain ⟨a, v, rfl, _⟩ := h
    rfl
  · obtain ⟨a, v, rfl, ha, k⟩ := h
    refine ⟨_, (pss_one (ps_ost (pv 0) (pv 1))), ?_⟩
    walk_at "rd"
    exact ⟨a, T.c_BadSquare, rfl, T.x_BadSquare, T.n_BadSquare_part, Or.inl ⟨ha, fun dx h1 h2 => k dx h1 h2⟩⟩
theorem ok_BadSquares_init (T : Txt K mg) : FnOk P w K mg base CX0 1 T.f_BadSquares_init T.d_BadSquares_init ["self", "part"] (spKeep K T.c_BadSquares) := by
  refine T.F_BadSquares_init.ok sc_BadSquares_init (fun vs H Q E h => ?_) (fun cdv A outer s H vs Q E hr h => ?_)
  · obtain ⟨a, v, rfl, _⟩ := h
    rfl
  · obtain ⟨a, v, rfl, ha, k⟩ := h
    refine ⟨_, (pss_one (ps_ost (pv 0) (pv 1))), ?_⟩
    walk_at "rd"
    exact ⟨a, T.c_BadSquares, rfl, T.x_BadSquares, T.n_BadSquares_part, Or.inl ⟨ha, fun dx h1 h2 => k dx h1 h2⟩⟩
/-- a square as a new tuple, or the error that names its part -/
def spTaken (K : PySem.W.Frag) (C : Addr) : Sp := fun vs H Q E => ∃ (v p : V) (d : PyData), vs = [v, p] ∧ Da K H v d ∧
  (∀ x y t H', sqOf d = some (x, y) → Ex H H' → H t = none → H' t = some (.tup [.int x, .int y]) → Q (.ref t) H') ∧
  (isSq d = false → ∀ dx H', Ex H H' → H dx = none → H' dx = some (.xd [("part", p)]) → E (.ref C) (some dx) H')
theorem ok_taken_square (T : Txt K mg) : FnOk P w K mg base (L2.CX P w) 3 T.f_taken_square T.d_taken_square ["square", "part"] (spTaken K T.c_BadSquare) := by
  have G_BadSquare_init : FnOk P w K mg base CX0 1 T.f_BadSquare_init T.d_BadSquare_init ["self", "part"] (spKeep K T.c_BadSquare) := ok_BadSquare_init T
  have G_is_square : FnOk P w K mg base CX0 2 T.f_is_square T.d_is_square ["value"] (spB K isSq) := ok_is_square T
  refine T.F_taken_square.okX sc_taken_square (fun vs H Q E h => ?_) (fun cdv A outer s H vs Q E hr h => ?_)
  · obtain ⟨v, p, d, rfl, _⟩ := h
    rfl
  · obtain ⟨v, p, d, rfl, hv, k1, k2⟩ := h
    have hr1 := hr
    refine ⟨_, (pss_cons (ps_if (pt_not (pt_val (pe_call G_is_square hr1 rfl T.g_is_square T.F_is_square.kp (b_is_square T) .nil pass0 (pa_cons (pv 0) pa_nil)))) (pss_one (ps_raise rfl (takes_of rfl rfl rfl rfl) (pmk_oex T.x_BadSquare T.i_BadSquare T.t_BadSquare G_BadSquare_init hr1 (b_BadSquare_init T) .nil pass0 rfl T.gc_BadSquare (pa_cons (pv 1) pa_nil)))) pss_nil)
  (pss_one (ps_ret (pe_tup (pa_cons (pe_ix ix_seq (pv 0) pe_int (fun _ _ => rfl)) (pa_cons (pe_ix ix_seq (pv 0) pe_int (fun _ _ => rfl)) pa_nil)))))), ?_⟩
    walk_at "rd"
    intro H1 e1
    have hv1 := Da.mono e1 d hv
    walk_at "rd"
    refine ifB (fun c1 => ?_) (fun c1 => ?_)
    · have ns : isSq d = false := by simpa using c1
      walk_at "rd"
      intro a ha
      refine ⟨a, p, rfl, upd_same, fun dx hdx ne => ?_⟩
      have hdx1 : H1 dx = none := (upd_ne ne).symm.trans hdx
      refine ⟨rfl, dx, [("part", p)], upd_same, (upd_ne ne).trans upd_same, hdx1, ?_⟩
      refine k2 ns dx _ (fun b o hb => ?_) (Evl.fresh_back e1 hdx1) upd_same
      have hb1 := e1 b o hb
      have n1 : b ≠ a := fun e => by rw [e, ha] at hb1; cases hb1
      have n2 : b ≠ dx := fun e => by rw [e, hdx1] at hb1; cases hb1
      rw [upd_ne n2, del_ne n1, upd_ne n1, upd_ne n2, upd_ne n1]
      exact hb1
    · have sq : isSq d = true := by simpa using c1
      obtain ⟨b, x, y, rfl, hs, hq⟩ := sq_at hv1 sq
      walk_at "rd"
      refine ix_of hq rfl ?_
      walk_at "rd"
      refine ix_of hq rfl ?_
      walk_at "rd"
      intro t ht
      exact k1 x y t _ hs (e1.trans (Evl.Ex.new ht)) (Evl.fresh_back e1 ht) upd_same
/-- the four about a square, or the error -/
def spAround (K : PySem.W.Frag) (C : Addr) : Sp := fun vs H Q E => ∃ (v : V) (d : PyData), vs = [v] ∧ Da K H v d ∧
  (∀ x y v' H', sqOf d = some (x, y) → Ex H H' → Da K (neu H H') v' (nbD x y) → Q v' H') ∧
  (isSq d = false → ∀ dx H', Ex H H' → H dx = none → H' dx = some (.xd [("part", .str "square")]) → E (.ref C) (some dx) H')
theorem ok_around (T : Txt K mg) : FnOk P w K mg base (L2.CX P w) 4 T.f_around T.d_around ["square"] (spAround K T.c_BadSquare) := by
  have G_taken_square : FnOk P w K mg base (L2.CX P w) 3 T.f_taken_square T.d_taken_square ["square", "part"] (spTaken K T.c_BadSquare) := ok_taken_square T
  have G_neighbours : FnOk P w K mg base CX0 3 T.f_neighbours T.d_neighbours ["square"] (spNb K) := (ok_neighbours T).mono (by decide)
  refine T.F_around.okX sc_around (fun vs H Q E h => ?_) (fun cdv A outer s H vs Q E hr h => ?_)
  · obtain ⟨v, d, rfl, _⟩ := h
    rfl
  · obtain ⟨v, d, rfl, hv, k1, k2⟩ := h
    have hr1 := hr
    refine ⟨_, (pss_one (ps_ret (pe_call G_neighbours hr1 rfl T.g_neighbours T.F_neighbours.kp (b_neighbours T) .nil pass0 (pa_cons (pe_call G_taken_square hr1 rfl T.g_taken_square T.F_taken_square.kp (b_taken_square T) .nil (passes_call (takes_of rfl rfl rfl rfl) (fun _ _ _ _ h => h)) (pa_cons (pv 0) (pa_cons pe_str pa_nil))) pa_nil)))), ?_⟩
    walk_at "rd"
    refine ⟨fun x y t H1 hs e1 h0 ht => ?_, k2⟩
    refine ⟨t, x, y, rfl, SqT.of ht, fun v' H2 hv' e2 => k1 x y v' H2 hs (e1.trans e2) (Da.mono (fun a o h => ?_) _ hv')⟩
    obtain ⟨h1, h2⟩ := neu_of h
    exact at_neu (Evl.fresh_back e1 h1) h2
end
end K03
namespace K03
open PySem PySem.Spec PyProof.Rows L2 Kg
open Evl (Ex)


/-- tuples of two numbers, one by one -/
inductive PL (H : Hp) : List V → List (Int × Int) → Prop
  | nil : PL H [] []
  | cons {t : Addr} {z : Int × Int} {vs : List V} {zs : List (Int × Int)} : H t = some (.tup [.int z.1, .int z.2]) → PL H vs zs → PL H (.ref t :: vs) (z :: zs)
theorem PL.mono {H H' : Hp} (e : Ex H H') : ∀ {vs : List V} {zs : List (Int × Int)}, PL H vs zs → PL H' vs zs
  | _, _, .nil => .nil
  | _, _, .cons h t => .cons (e _ _ h) (PL.mono e t)
theorem PL.app {H : Hp} {ws : List V} {us : List (Int × Int)} (g : PL H ws us) : ∀ {vs : List V} {zs : List (Int × Int)}, PL H vs zs → PL H (vs ++ ws) (zs ++ us)
  | _, _, .nil => g
  | _, _, .cons h t => .cons h (PL.app g t)
theorem PL.len {H : Hp} : ∀ {vs : List V} {zs : List (Int × Int)}, PL H vs zs → vs.length = zs.length
  | _, _, .nil => rfl
  | _, _, .cons _ t => by rw [List.length_cons, List.length_cons, PL.len t]
def kAt (H : Hp) : V → Int × Int
  | .ref t => match H t with
    | some (.tup [.int i, .int j]) => (i, j)
    | _ => (0, 0)
  | _ => (0, 0)
theorem kAt_of {H : Hp} {t : Addr} {z : Int × Int} (h : H t = some (.tup [.int z.1, .int z.2])) : kAt H (.ref t) = z := by
  show (match H t with | some (.tup [.int i, .int j]) => (i, j) | _ => (0, 0)) = z
  rw [h]
theorem PL.keys {H : Hp} : ∀ {vs : List V} {zs : List (Int × Int)}, PL H vs zs → zs = vs.map (kAt H) ∧ ∀ v ∈ vs, ∃ t, v = .ref t ∧ H t = some (.tup [.int (kAt H v).1, .int (kAt H v).2])
  | _, _, .nil => ⟨rfl, by simp⟩
  | _, _, .cons (t := t) (z := z) h r => by
    obtain ⟨a, b⟩ := PL.keys r
    have e := kAt_of h
    refine ⟨by rw [List.map_cons, e, ← a], ?_⟩
    intro v hv
    rcases List.mem_cons.mp hv with rfl | hv
    · exact ⟨t, rfl, by rw [e]; exact h⟩
    · exact b v hv
theorem PL.of {H : Hp} : ∀ {vs : List V}, (∀ v ∈ vs, ∃ t, v = .ref t ∧ H t = some (.tup [.int (kAt H v).1, .int (kAt H v).2])) → PL H vs (vs.map (kAt H))
  | [], _ => .nil
  | v :: vs, h => by
    obtain ⟨t, rfl, ht⟩ := h v List.mem_cons_self
    exact .cons ht (PL.of fun v hv => h v (List.mem_cons_of_mem _ hv))
theorem neu_up {H H' H'' : Hp} (e : Ex H' H'') : Ex (neu H H') (neu H H'') := fun a o h => by
  obtain ⟨h1, h2⟩ := neu_of h
  exact at_neu h1 (e a o h2)
theorem PL.skip {H H' : Hp} {D : Addr} {xs : List V} {o : HO} (hD : H' D = some (.lst xs)) : ∀ {vs : List V} {zs : List (Int × Int)}, PL (neu H H') vs zs → PL (neu H (upd H' D o)) vs zs
  | _, _, .nil => .nil
  | _, _, .cons (t := t) h r => .cons (by
      obtain ⟨h1, h2⟩ := neu_of h
      exact at_neu h1 ((upd_ne fun e => by rw [e, hD] at h2; cases h2).trans h2)) (PL.skip hD r)
section
variable {P : Program} {w : World} {K : PySem.W.Frag} {mg : Str → Option Value} {base : Heap}
/-- squares in their order, as new tuples in a new tuple, or the error -/
def spTakenS (K : PySem.W.Frag) (C : Addr) : Sp := fun vs H Q E => ∃ (v p : V) (d : PyData), vs = [v, p] ∧ Da K H v d ∧ (∀ ds, seqOf d = some ds → ds.length < 60) ∧
  (∀ ds, areSq d = true → seqOf d = some ds → ∀ (T : Addr) (ys : List V) (k : V → Int × Int) (H' : Hp), Ex H H' → H T = none → H' T = some (.tup ys) →
    PL (neu H H') ys (ys.map k) → (ys.map k).Perm (prs ds) → SrtO.Srtd (ltP k) ys → Q (.ref T) H') ∧
  (areSq d = false → ∀ dx H', Ex H H' → H dx = none → H' dx = some (.xd [("part", p)]) → E (.ref C) (some dx) H')
theorem ok_taken_squares (T : Txt K mg) : FnOk P w K mg base (L2.CX P w) 4 T.f_taken_squares T.d_taken_squares ["squares", "part"] (spTakenS K T.c_BadSquares) := by
  have G_BadSquares_init : FnOk P w K mg base CX0 2 T.f_BadSquares_init T.d_BadSquares_init ["self", "part"] (spKeep K T.c_BadSquares) := (ok_BadSquares_init T).mono (by decide)
  have G_are_squares : FnOk P w K mg base CX0 3 T.f_are_squares T.d_are_squares ["value"] (spAre K) := ok_are_squares T
  refine T.F_taken_squares.okX sc_taken_squares (fun vs H Q E h => ?_) (fun cdv A outer s H vs Q E hr h => ?_)
  · obtain ⟨v, p, d, rfl, _⟩ := h
    rfl
  · obtain ⟨v, p, d, rfl, hv, hl, k1, k2⟩ := h
    have hr1 := hr
    refine ⟨_, (pss_cons (ps_if (pt_not (pt_val (pe_call G_are_squares hr1 rfl T.g_are_squares T.F_are_squares.kp (b_are_squares T) .nil pass0 (pa_cons (pv 0) pa_nil)))) (pss_one (ps_raise rfl (takes_of rfl rfl rfl rfl) (pmk_oex T.x_BadSquares T.i_BadSquares T.t_BadSquares G_BadSquares_init hr1 (b_BadSquares_init T) .nil pass0 rfl T.gc_BadSquares (pa_cons (pv 1) pa_nil)))) pss_nil)
  (pss_one (ps_ret (pe_callTy call_tuple_of (by rfl) T.z_tuple (by decide +kernel) (pa_cons (pe_callB cr_sortedPO (by rfl) T.z_sorted (by decide +kernel) (pa_cons (pe_lc (own := [("square", 2)]) (g := (gName 2)) rfl sc_taken_squares.nd (pi_or (pi_list (pv 0)) (pi_tup (pv 0))) (blkOk_by (own := [("square", 2)]) (N := ["squares", "part", "square"]) (sc := defScope s_taken_squares) (by decide +kernel)) (fun _ _ _ _ _ => (pg_name (i := 2) sc_taken_squares.nd rfl (Or.inl rfl))) (fun _ _ _ _ _ => pts_nil) (fun _ _ _ _ _ => (pe_tup (pa_cons (pe_ix (show IxR _ (rIx K) from ix_seq) (pv 2) pe_int (fun _ _ => rfl)) (pa_cons (pe_ix (show IxR _ (rIx K) from ix_seq) (pv 2) pe_int (fun _ _ => rfl)) pa_nil))))) pa_nil)) pa_nil))))), ?_⟩
    walk_at "rd"
    intro H1 e1
    have hv1 := Da.mono e1 d hv
    walk_at "rd"
    refine ifB (fun c1 => ?_) (fun c1 => ?_)
    · have ns : areSq d = false := by simpa using c1
      walk_at "rd"
      intro a ha
      refine ⟨a, p, rfl, upd_same, fun dx hdx ne => ?_⟩
      have hdx1 : H1 dx = none := (upd_ne ne).symm.trans hdx
      refine ⟨rfl, dx, [("part", p)], upd_same, (upd_ne ne).trans upd_same, hdx1, ?_⟩
      refine k2 ns dx _ (fun b o hb => ?_) (Evl.fresh_back e1 hdx1) upd_same
      have hb1 := e1 b o hb
      have n1 : b ≠ a := fun e => by rw [e, ha] at hb1; cases hb1
      have n2 : b ≠ dx := fun e => by rw [e, hdx1] at hb1; cases hb1
      rw [upd_ne n2, del_ne n1, upd_ne n1, upd_ne n2, upd_ne n1]
      exact hb1
    · have sq : areSq d = true := by simpa using c1
      obtain ⟨ds, e⟩ : ∃ ds, seqOf d = some ds := by
        unfold areSq at sq
        cases e : seqOf d with
        | none => rw [e] at sq; cases sq
        | some ds => exact ⟨ds, rfl⟩
      have c3 : ds.all isSq = true := by
        unfold areSq at sq
        rw [e] at sq
        exact (Bool.and_eq_true_iff.mp sq).1
      obtain ⟨a, xs, rfl, hs, ha⟩ := seq_at hv1 e
      have small : sizeLine = 16777216 := sizeLine_eq
      have hlen := ha.len
      have few := hl ds e
      have hpl := prs_len c3
      have hsq : ∀ i x, xs[i]? = some x → ∃ d z, ds[i]? = some d ∧ Da K H1 x d ∧ isSq d = true ∧ (prs ds)[i]? = some z ∧ sqOf d = some z := fun i x hi => by
        obtain ⟨d, hd, hx⟩ := ha.at hi
        obtain ⟨z, h1, h2⟩ := prs_at c3 hd
        exact ⟨d, z, hd, hx, List.all_eq_true.mp c3 d (List.mem_of_getElem? hd), h1, h2⟩
      rcases hs with hs | hs
      · refine Or.inl ?_
        refine ⟨_, rfl, a, rfl, ⟨xs, hs⟩, fun D hD => ?_⟩
        refine lc_list (K := K) (a := a) (xs := xs) (fun i H' => Ex H1 H' ∧ ∃ ys : List V, H' D = some (.lst ys) ∧ PL (neu H H') ys ((prs ds).take i)) ⟨Evl.Ex.new hD, [], upd_same, .nil⟩ (fun i H' _ p => Evl.ex_l p.1 hs) ?_ ?_
        · rintro i x H' hi ⟨r1, ys, r2, r3⟩
          obtain ⟨di, z, hdi, hx, hsd, hz, hz2⟩ := hsq i x hi
          have lt := (List.getElem?_eq_some_iff.mp hi).1
          obtain ⟨c0, z0, z1, rfl, hq, hc0⟩ := sq_at (Da.mono r1 di hx) hsd
          have ez : z = (z0, z1) := Option.some.inj (hz2.symm.trans hq)
          subst ez
          refine ⟨rfl, ?_⟩
          have hrl : ys.length ≤ i := by rw [r3.len, List.length_take]; omega
          walk_at "rd"
          refine ix_of hc0 rfl ?_
          walk_at "rd"
          refine ix_of hc0 rfl ?_
          walk_at "rd"
          intro t ht
          have et : Ex H' (upd H' t (.tup [.int z0, .int z1])) := Evl.Ex.new ht
          refine ⟨ys, et _ _ r2, by omega, Evl.Ex.mut (r1.trans et) hD, ys ++ [.ref t], upd_same, ?_⟩
          rw [take_one hz]
          have row : PL (neu H (upd H' t (.tup [.int z0, .int z1]))) [.ref t] [(z0, z1)] := .cons (z := (z0, z1)) (at_neu (Evl.fresh_back (e1.trans r1) ht) upd_same) .nil
          exact PL.skip (et _ _ r2) (PL.app row (PL.mono (neu_up et) r3))
        · rintro H2 ⟨r1, ys, r2, r3⟩
          rw [hlen, ← hpl, List.take_length] at r3
          obtain ⟨q1, q2⟩ := r3.keys
          refine ⟨D, ys, kAt (neu H H2), rfl, SqL.of r2, fun v hv => ?_, fun ys' l2 hsrt hst hl2 => ?_⟩
          · obtain ⟨t, h1, h2⟩ := q2 v hv
            exact ⟨t, h1, (neu_of h2).2⟩
          have e2 := Evl.Ex.new (o := .lst ys') hl2
          refine ⟨l2, ys', rfl, Or.inl ⟨SqL.of upd_same, fun T hT => ?_⟩⟩
          have e3 := Evl.Ex.new (o := .tup ys') hT
          refine k1 ds sq e T ys' (kAt (neu H H2)) _ (e1.trans (r1.trans (e2.trans e3))) (Evl.fresh_back (e1.trans (r1.trans e2)) hT) upd_same ?_ ?_ hsrt
          · exact PL.mono (neu_up (e2.trans e3)) (PL.of fun v hv => q2 v (hst.perm.mem_iff.mp hv))
          · rw [q1]
            exact hst.perm.map _
      · refine Or.inr ?_
        refine ⟨_, rfl, a, rfl, ⟨xs, hs⟩, fun D hD => ?_⟩
        refine lc_tup (K := K) (a := a) (xs := xs) (fun i H' => Ex H1 H' ∧ ∃ ys : List V, H' D = some (.lst ys) ∧ PL (neu H H') ys ((prs ds).take i)) ⟨Evl.Ex.new hD, [], upd_same, .nil⟩ (fun i H' _ p => Evl.ex_t p.1 hs) ?_ ?_
        · rintro i x H' hi ⟨r1, ys, r2, r3⟩
          obtain ⟨di, z, hdi, hx, hsd, hz, hz2⟩ := hsq i x hi
          have lt := (List.getElem?_eq_some_iff.mp hi).1
          obtain ⟨c0, z0, z1, rfl, hq, hc0⟩ := sq_at (Da.mono r1 di hx) hsd
          have ez : z = (z0, z1) := Option.some.inj (hz2.symm.trans hq)
          subst ez
          refine ⟨rfl, ?_⟩
          have hrl : ys.length ≤ i := by rw [r3.len, List.length_take]; omega
          walk_at "rd"
          refine ix_of hc0 rfl ?_
          walk_at "rd"
          refine ix_of hc0 rfl ?_
          walk_at "rd"
          intro t ht
          have et : Ex H' (upd H' t (.tup [.int z0, .int z1])) := Evl.Ex.new ht
          refine ⟨ys, et _ _ r2, by omega, Evl.Ex.mut (r1.trans et) hD, ys ++ [.ref t], upd_same, ?_⟩
          rw [take_one hz]
          have row : PL (neu H (upd H' t (.tup [.int z0, .int z1]))) [.ref t] [(z0, z1)] := .cons (z := (z0, z1)) (at_neu (Evl.fresh_back (e1.trans r1) ht) upd_same) .nil
          exact PL.skip (et _ _ r2) (PL.app row (PL.mono (neu_up et) r3))
        · rintro H2 ⟨r1, ys, r2, r3⟩
          rw [hlen, ← hpl, List.take_length] at r3
          obtain ⟨q1, q2⟩ := r3.keys
          refine ⟨D, ys, kAt (neu H H2), rfl, SqL.of r2, fun v hv => ?_, fun ys' l2 hsrt hst hl2 => ?_⟩
          · obtain ⟨t, h1, h2⟩ := q2 v hv
            exact ⟨t, h1, (neu_of h2).2⟩
          have e2 := Evl.Ex.new (o := .lst ys') hl2
          refine ⟨l2, ys', rfl, Or.inl ⟨SqL.of upd_same, fun T hT => ?_⟩⟩
          have e3 := Evl.Ex.new (o := .tup ys') hT
          refine k1 ds sq e T ys' (kAt (neu H H2)) _ (e1.trans (r1.trans (e2.trans e3))) (Evl.fresh_back (e1.trans (r1.trans e2)) hT) upd_same ?_ ?_ hsrt
          · exact PL.mono (neu_up (e2.trans e3)) (PL.of fun v hv => q2 v (hst.perm.mem_iff.mp hv))
          · rw [q1]
            exact hst.perm.map _
def spSquares (K : PySem.W.Frag) (C : Addr) : Sp := fun vs H Q E => ∃ (v : V) (d : PyData), vs = [v] ∧ Da K H v d ∧ (∀ ds, seqOf d = some ds → ds.length < 60) ∧
  (∀ ds, areSq d = true → seqOf d = some ds → ∀ (T : Addr) (ys : List V) (k : V → Int × Int) (H' : Hp), Ex H H' → H T = none → H' T = some (.tup ys) →
    PL (neu H H') ys (ys.map k) → (ys.map k).Perm (prs ds) → SrtO.Srtd (ltP k) ys → Q (.ref T) H') ∧
  (areSq d = false → ∀ dx H', Ex H H' → H dx = none → H' dx = some (.xd [("part", .str "values")]) → E (.ref C) (some dx) H')
theorem ok_squares_of (T : Txt K mg) : FnOk P w K mg base (L2.CX P w) 5 T.f_squares_of T.d_squares_of ["values"] (spSquares K T.c_BadSquares) := by
  have G_taken_squares : FnOk P w K mg base (L2.CX P w) 4 T.f_taken_squares T.d_taken_squares ["squares", "part"] (spTakenS K T.c_BadSquares) := ok_taken_squares T
  refine T.F_squares_of.okX sc_squares_of (fun vs H Q E h => ?_) (fun cdv A outer s H vs Q E hr h => ?_)
  · obtain ⟨v, d, rfl, _⟩ := h
    rfl
  · obtain ⟨v, d, rfl, hv, hl, k1, k2⟩ := h
    have hr1 := hr
    refine ⟨_, (pss_one (ps_ret (pe_call G_taken_squares hr1 rfl T.g_taken_squares T.F_taken_squares.kp (b_taken_squares T) .nil (passes_call (takes_of rfl rfl rfl rfl) (fun _ _ _ _ h => h)) (pa_cons (pv 0) (pa_cons pe_str pa_nil))))), ?_⟩
    exact ⟨_, rfl, v, .str "values", d, rfl, hv, hl, k1, k2⟩
end
end K03
namespace K03
open PySem PySem.Spec PyProof.Rows L2 Kg
open Evl (Ex)


section
variable {P : Program} {w : World} {K : PySem.W.Frag} {mg : Str → Option Value} {base : Heap}
/-- a dict with tuples as keys is no list -/
def spDt (C : Addr) : Sp := fun vs H Q E => ∃ (a : Addr) (kvs : List (List L2.Key × V)), vs = [.ref a] ∧ H a = some (.dT kvs) ∧ (∀ H', Ex H H' → Q (.bl false) H')
theorem ok_are_squares2 (T : Txt K mg) : FnOk P w K mg base CX0 3 T.f_are_squares T.d_are_squares ["value"] (spDt T.c_BadSquares) := by
  have G_is_square : FnOk P w K mg base CX0 2 T.f_is_square T.d_is_square ["value"] (spB K isSq) := ok_is_square T
  refine T.F_are_squares.ok sc_are_squares (fun vs H Q E h => ?_) (fun cdv A outer s H vs Q E hr h => ?_)
  · obtain ⟨a, kvs, rfl, _⟩ := h
    rfl
  · obtain ⟨a, kvs, rfl, ha, k⟩ := h
    have hr1 := hr
    have hu1 := hu_of hr
    refine ⟨_, (pss_cons (ps_if (pt_not (pt_val (pe_callB call_isiT (by rfl) T.z_isinstance (by decide +kernel) (pa_cons (pv 0) (pa_cons (pe_tup (pa_cons (pe_bltn (v := .ty "list") (by rfl) T.z_list (by decide +kernel) rfl) (pa_cons (pe_bltn (v := .ty "tuple") (by rfl) T.z_tuple (by decide +kernel) rfl) pa_nil))) pa_nil))))) (pss_one (ps_ret pe_bl)) pss_nil)
  (pss_cons (ps_if (pt_not (pt_val (pe_callB (cr_all rfl) (by rfl) T.z_all (by decide +kernel) (pa_cons (pe_lc (own := [("item", 1)]) (g := (gName 1)) rfl sc_are_squares.nd (pi_list (pv 0)) (blkOk_by (own := [("item", 1)]) (N := ["value", "item"]) (sc := defScope s_are_squares) (by decide +kernel)) (fun _ _ _ _ _ => (pg_name (i := 1) sc_are_squares.nd rfl (Or.inl rfl))) (fun _ _ _ _ _ => pts_nil) (fun _ _ _ _ _ => (pe_call G_is_square hr1 rfl T.g_is_square T.F_is_square.kp (b_is_square T) .nil pass0 (pa_cons (pv 1) pa_nil)))) pa_nil)))) (pss_one (ps_ret pe_bl)) pss_nil)
  (pss_one (ps_ret (pe_cmpR op_eq (pe_callB call_len_seq (by rfl) T.z_len (by decide +kernel) (pa_cons (pe_scT hu1 rfl sc_are_squares.nd (pi_list (pv 0)) (blkOk_by (own := [("item", 1)]) (N := ["value", "item"]) (sc := defScope s_are_squares) (by decide +kernel)) (fun _ _ _ _ _ => (pg_name (i := 1) sc_are_squares.nd rfl (Or.inl rfl))) (fun _ _ _ _ _ => pts_nil) (fun _ _ _ _ _ => (pe_tup (pa_cons (pe_ix (show IxR _ (rIxL K) from ix_list) (pv 1) pe_int (fun _ _ => rfl)) (pa_cons (pe_ix (show IxR _ (rIxL K) from ix_list) (pv 1) pe_int (fun _ _ => rfl)) pa_nil))))) pa_nil)) (pe_callB call_len_seq (by rfl) T.z_len (by decide +kernel) (pa_cons (pv 0) pa_nil)) (nomark _)))))), ?_⟩
    refine ⟨_, rfl, (by show 2 ≤ sizeLine; decide), fun tp hp => ?_⟩
    have e1 : Ex H (upd H tp (.tup [.ty "list", .ty "tuple"])) := Evl.Ex.new hp
    refine ⟨_, _, _, _, _, _, rfl, upd_same, .cons (.ty _) (.cons (.ty _) .nil), .base (.dT (e1 _ _ ha)), (show PySem.W.kitAny K (.type "dict") [.type "list", .type "tuple"] = some false from kit_seq (K := K) (.dict [])), ?_⟩
    refine ⟨_, rfl, ?_⟩
    refine ifB (fun c => ?_) (fun c => ?_)
    · walk_at "rd"
      exact k _ e1
    · cases c
def spDtT (C : Addr) : Sp := fun vs H Q E => ∃ (a : Addr) (kvs : List (List L2.Key × V)) (p : V), vs = [.ref a, p] ∧ H a = some (.dT kvs) ∧ (∀ dx H', Ex H H' → H dx = none → H' dx = some (.xd [("part", p)]) → E (.ref C) (some dx) H')
theorem ok_taken_squares2 (T : Txt K mg) : FnOk P w K mg base (L2.CX P w) 4 T.f_taken_squares T.d_taken_squares ["squares", "part"] (spDtT T.c_BadSquares) := by
  have G_BadSquares_init : FnOk P w K mg base CX0 2 T.f_BadSquares_init T.d_BadSquares_init ["self", "part"] (spKeep K T.c_BadSquares) := (ok_BadSquares_init T).mono (by decide)
  have G_are_squares : FnOk P w K mg base CX0 3 T.f_are_squares T.d_are_squares ["value"] (spDt T.c_BadSquares) := ok_are_squares2 T
  refine T.F_taken_squares.okX sc_taken_squares (fun vs H Q E h => ?_) (fun cdv A outer s H vs Q E hr h => ?_)
  · obtain ⟨a, kvs, p, rfl, _⟩ := h
    rfl
  · obtain ⟨a, kvs, p, rfl, ha, k⟩ := h
    have hr1 := hr
    refine ⟨_, (pss_cons (ps_if (pt_not (pt_val (pe_call G_are_squares hr1 rfl T.g_are_squares T.F_are_squares.kp (b_are_squares T) .nil pass0 (pa_cons (pv 0) pa_nil)))) (pss_one (ps_raise rfl (takes_of rfl rfl rfl rfl) (pmk_oex T.x_BadSquares T.i_BadSquares T.t_BadSquares G_BadSquares_init hr1 (b_BadSquares_init T) .nil pass0 rfl T.gc_BadSquares (pa_cons (pv 1) pa_nil)))) pss_nil)
  (pss_one (ps_ret (pe_callTy call_tuple_of (by rfl) T.z_tuple (by decide +kernel) (pa_cons (pe_callB cr_sortedPO (by rfl) T.z_sorted (by decide +kernel) (pa_cons (pe_lc (own := [("square", 2)]) (g := (gName 2)) rfl sc_taken_squares.nd (pi_or (pi_list (pv 0)) (pi_tup (pv 0))) (blkOk_by (own := [("square", 2)]) (N := ["squares", "part", "square"]) (sc := defScope s_taken_squares) (by decide +kernel)) (fun _ _ _ _ _ => (pg_name (i := 2) sc_taken_squares.nd rfl (Or.inl rfl))) (fun _ _ _ _ _ => pts_nil) (fun _ _ _ _ _ => (pe_tup (pa_cons (pe_ix (show IxR _ (rIx K) from ix_seq) (pv 2) pe_int (fun _ _ => rfl)) (pa_cons (pe_ix (show IxR _ (rIx K) from ix_seq) (pv 2) pe_int (fun _ _ => rfl)) pa_nil))))) pa_nil)) pa_nil))))), ?_⟩
    walk_at "rd"
    intro H1 e1
    walk_at "rd"
    intro b hb
    refine ⟨b, p, rfl, upd_same, fun dx hdx ne => ?_⟩
    have hdx1 : H1 dx = none := (upd_ne ne).symm.trans hdx
    refine ⟨rfl, dx, [("part", p)], upd_same, (upd_ne ne).trans upd_same, hdx1, ?_⟩
    refine k dx _ (fun x o hx => ?_) (Evl.fresh_back e1 hdx1) upd_same
    have hx1 := e1 x o hx
    have n1 : x ≠ b := fun e => by rw [e, hb] at hx1; cases hx1
    have n2 : x ≠ dx := fun e => by rw [e, hdx1] at hx1; cases hx1
    rw [upd_ne n2, del_ne n1, upd_ne n1, upd_ne n2, upd_ne n1]
    exact hx1
def spDtS (C : Addr) : Sp := fun vs H Q E => ∃ (a : Addr) (kvs : List (List L2.Key × V)), vs = [.ref a] ∧ H a = some (.dT kvs) ∧ (∀ dx H', Ex H H' → H dx = none → H' dx = some (.xd [("part", .str "values")]) → E (.ref C) (some dx) H')
theorem ok_squares_of2 (T : Txt K mg) : FnOk P w K mg base (L2.CX P w) 5 T.f_squares_of T.d_squares_of ["values"] (spDtS T.c_BadSquares) := by
  have G_taken_squares : FnOk P w K mg base (L2.CX P w) 4 T.f_taken_squares T.d_taken_squares ["squares", "part"] (spDtT T.c_BadSquares) := ok_taken_squares2 T
  refine T.F_squares_of.okX sc_squares_of (fun vs H Q E h => ?_) (fun cdv A outer s H vs Q E hr h => ?_)
  · obtain ⟨a, kvs, rfl, _⟩ := h
    rfl
  · obtain ⟨a, kvs, rfl, ha, k⟩ := h
    have hr1 := hr
    refine ⟨_, (pss_one (ps_ret (pe_call G_taken_squares hr1 rfl T.g_taken_squares T.F_taken_squares.kp (b_taken_squares T) .nil (passes_call (takes_of rfl rfl rfl rfl) (fun _ _ _ _ h => h)) (pa_cons (pv 0) (pa_cons pe_str pa_nil))))), ?_⟩
    exact ⟨_, rfl, a, kvs, _, rfl, ha, k⟩
theorem FnOk.or {CX : CXT} {k : Nat} {f : Addr} {fd : FuncData} {ps : List Str} {s1 s2 : Sp} (F : FnOk P w K mg base CX k f fd ps s1) (G : FnOk P w K mg base CX k f fd ps s2) : FnOk P w K mg base CX k f fd ps (fun vs H Q E => s1 vs H Q E ∨ s2 vs H Q E) :=
  ⟨fun vs H Q E h => h.elim (F.len vs H Q E) (G.len vs H Q E), fun A outer s H args us vs Q E hr e0 hb r h => h.elim (F.run A outer s H args us vs Q E hr e0 hb r) (G.run A outer s H args us vs Q E hr e0 hb r)⟩
/-- squares_of, of data or of a dict with tuples as keys -/
theorem ok_squares_any (T : Txt K mg) : FnOk P w K mg base (L2.CX P w) 5 T.f_squares_of T.d_squares_of ["values"] (fun vs H Q E => spSquares K T.c_BadSquares vs H Q E ∨ spDtS T.c_BadSquares vs H Q E) := FnOk.or (ok_squares_of T) (ok_squares_of2 T)
end
end K03
namespace K03
open PySem PySem.Spec PyProof.Rows L2 Kg
open Evl (Ex)


theorem PL.at {H : Hp} : ∀ {vs : List V} {zs : List (Int × Int)} {i : Nat} {v : V}, PL H vs zs → vs[i]? = some v → ∃ t z, v = .ref t ∧ zs[i]? = some z ∧ H t = some (.tup [.int z.1, .int z.2])
  | _, _, _, _, .nil, h => by simp at h
  | _, _, 0, _, .cons (t := t) (z := z) h _, e => ⟨t, z, by simpa using e.symm, rfl, h⟩
  | _, _, i + 1, _, .cons _ r, e => by
    obtain ⟨t, z, h1, h2, h3⟩ := PL.at (i := i) r (by simpa using e)
    exact ⟨t, z, h1, by simpa using h2, h3⟩
theorem PL.take {H : Hp} : ∀ (n : Nat) {vs : List V} {zs : List (Int × Int)}, PL H vs zs → PL H (vs.take n) (zs.take n)
  | 0, _, _, _ => .nil
  | _ + 1, _, _, .nil => .nil
  | n + 1, _, _, .cons h t => .cons h (PL.take n t)
theorem PL.drop {H : Hp} : ∀ (n : Nat) {vs : List V} {zs : List (Int × Int)}, PL H vs zs → PL H (vs.drop n) (zs.drop n)
  | 0, _, _, h => h
  | _ + 1, _, _, .nil => .nil
  | n + 1, _, _, .cons _ t => PL.drop n t
theorem PL.over {H : Hp} {D : Addr} {xs : List V} {o : HO} (hD : H D = some (.lst xs)) : ∀ {vs : List V} {zs : List (Int × Int)}, PL H vs zs → PL (upd H D o) vs zs
  | _, _, .nil => .nil
  | _, _, .cons (t := t) h r => .cons ((upd_ne fun e => by rw [e, hD] at h; cases h).trans h) (PL.over hD r)
section
variable {P : Program} {w : World} {K : PySem.W.Frag} {mg : Str → Option Value} {base : Heap}
def spOrd (K : PySem.W.Frag) : Sp := fun vs H Q _ => ∃ (p : Addr) (xs : List V) (zs : List (Int × Int)), vs = [.ref p] ∧ SqL K H p xs ∧ PL H xs zs ∧ zs.Nodup ∧ zs.length ≤ 60 ∧
  ∀ (l : Addr) (ys : List V) (us : List (Int × Int)) (H' : Hp), Ex H H' → H l = none → H' l = some (.lst ys) → PL H' ys us → us.Pairwise pLt → us.Perm zs → Q (.ref l) H'
theorem ok_w_ordered (T : Txt K mg) : FnOk P w K mg base CX0 1 T.f_w_ordered T.d_w_ordered ["some"] (spOrd K) := by
  refine T.F_w_ordered.ok sc_w_ordered (fun vs H Q E h => ?_) (fun cdv A outer s H vs Q E hr h => ?_)
  · obtain ⟨p, xs, zs, rfl, _⟩ := h
    rfl
  · obtain ⟨p, xs, zs, rfl, hs, pl, nd, hz, k⟩ := h
    have hr1 := hr
    have small : sizeLine = 16777216 := sizeLine_eq
    refine ⟨_, (pss_cons (ps_set (i := 1) sc_w_ordered.nd rfl (Or.inl rfl) (pe_lst pa_nil))
  (pss_cons (ps_for PassesOwn.never rfl (pi_list (pv 0)) (pg_name (i := 2) sc_w_ordered.nd rfl (Or.inr rfl))
  (pss_cons (ps_set (i := 3) sc_w_ordered.nd rfl (Or.inl rfl) (pe_callB call_len_seq (by rfl) T.z_len (by decide +kernel) (pa_cons (pe_lc (own := [("other", 4)]) (g := (gName 4)) rfl sc_w_ordered.nd (pi_list (pv 1)) (blkOk_by (own := [("other", 4)]) (N := ["some", "found", "square", "at", "other"]) (sc := defScope s_w_ordered) (by decide +kernel)) (fun _ _ _ _ _ => (pg_name (i := 4) sc_w_ordered.nd rfl (Or.inl rfl))) (fun _ _ _ _ _ => (pts_one (PW.pt (pw_or (pt_cmpR op_lt (pe_ix (show IxR _ (rIxT K) from ix_tup) (pv 4) pe_int (fun _ _ => rfl)) (pe_ix (show IxR _ (rIxT K) from ix_tup) (pv 2) pe_int (fun _ _ => rfl)) (nomark _)) (pw_or1 (PW.pt (pw_and (pt_cmpR op_eq (pe_ix (show IxR _ (rIxT K) from ix_tup) (pv 4) pe_int (fun _ _ => rfl)) (pe_ix (show IxR _ (rIxT K) from ix_tup) (pv 2) pe_int (fun _ _ => rfl)) (nomark _)) (pw_and1 (pt_cmpR op_lt (pe_ix (show IxR _ (rIxT K) from ix_tup) (pv 4) pe_int (fun _ _ => rfl)) (pe_ix (show IxR _ (rIxT K) from ix_tup) (pv 2) pe_int (fun _ _ => rfl)) (nomark _)))))))))) (fun _ _ _ _ _ => (pv 4))) pa_nil)))
  (pss_one (ps_expr (pe_bm PySem.F.plainAttrs_list PySem.F.slot_list_insert PySem.F.type_list_insert mt_insert (pv 1) (pa_cons (pv 3) (pa_cons (pv 2) pa_nil)))))))
  (pss_one (ps_ret (pv 1))))), ?_⟩
    walk_at "rd"
    intro l hl
    have el := Evl.Ex.new (o := .lst []) hl
    have hlen := pl.len
    refine ⟨_, rfl, p, rfl, ⟨xs, Evl.ex_l el hs⟩, for_list (K := K) (a := p) (xs := xs) (fun i σ H' => ∃ x2 x3 x4 ys us, σ = [some (.ref p), some (.ref l), x2, x3, x4] ∧ Ex H H' ∧ H' l = some (.lst ys) ∧ PL H' ys us ∧ us.Pairwise pLt ∧ us.Perm (zs.take i))
      ⟨_, _, _, [], [], rfl, el, upd_same, .nil, .nil, by simp⟩ (fun i σ H' _ q => ?_) ?_ ?_⟩
    · obtain ⟨_, _, _, _, _, _, e, _⟩ := q
      exact Evl.ex_l e hs
    · rintro i v σ H1 hi ⟨x2, x3, x4, ys, us, rfl, e1, h1, p1, s1, m1⟩
      obtain ⟨t, z, rfl, hz1, ht⟩ := pl.at hi
      have ht1 := e1 _ _ ht
      walk_at "rd"
      have hyl : ys.length ≤ 60 := by
        have := m1.length_eq
        rw [p1.len, this, List.length_take]
        omega
      refine ⟨⟨_, SqL.of h1⟩, fun D hD => ?_⟩
      have nDl : D ≠ l := fun e => by rw [e, h1] at hD; cases hD
      refine lc_list (K := K) (a := l) (xs := ys) (fun m H2 => Ex H1 H2 ∧ ∃ acc : List V, H2 D = some (.lst acc) ∧ acc.length = below z (us.take m)) ⟨Evl.Ex.new hD, [], upd_same, rfl⟩ (fun m H2 _ q => SqL.of (q.1 _ _ h1)) ?_ ?_
      · rintro m y H2 hm ⟨q1, acc, q2, q3⟩
        obtain ⟨t2, z2, rfl, hz2, ht2⟩ := p1.at hm
        have ht3 := q1 _ _ ht2
        have ht4 := q1 _ _ ht1
        have step : below z (us.take (m + 1)) = below z (us.take m) + if pLt z2 z then 1 else 0 := by
          unfold below
          rw [take_one hz2, List.filter_append, List.length_append]
          by_cases c : pLt z2 z <;> simp [c]
        have bl := below_le z (us.take m)
        have yes : pLt z2 z → ∀ H3, H3 = H2 → ∃ acc, H3 D = some (.lst acc) ∧ acc.length < sizeLine ∧ Ex H1 (upd H3 D (.lst (acc ++ [.ref t2]))) ∧ ∃ acc' : List V, upd H3 D (.lst (acc ++ [.ref t2])) D = some (.lst acc') ∧ acc'.length = below z (us.take (m + 1)) := by
          rintro c H3 rfl
          refine ⟨acc, q2, by have := List.length_take_le' m us; have := p1.len; omega, Evl.Ex.mut q1 hD, _, upd_same, ?_⟩
          rw [List.length_append, List.length_singleton, step, if_pos c, q3]
        have no : ¬ pLt z2 z → Ex H1 H2 ∧ ∃ acc : List V, H2 D = some (.lst acc) ∧ acc.length = below z (us.take (m + 1)) := by
          intro c
          exact ⟨q1, acc, q2, by rw [step, if_neg c, q3]; rfl⟩
        refine ⟨rfl, ?_⟩
        have st2 : SqT K H2 t2 [.int z2.1, .int z2.2] := SqT.of ht3
        have st1 : SqT K H2 t [.int z.1, .int z.2] := SqT.of ht4
        walk_at "rd"
        refine ifB (fun c1 => ?_) (fun c1 => ?_)
        · have c1 : z2.1 < z.1 := of_decide_eq_true c1
          walk_at "rd"
          exact yes (.inl c1) _ rfl
        · have c1 : ¬ z2.1 < z.1 := of_decide_eq_false c1
          walk_at "rd"
          refine ifB (fun c2 => ?_) (fun c2 => ?_)
          · have c2 : z2.1 = z.1 := by have := of_decide_eq_true c2; injection this
            walk_at "rd"
            refine ifB (fun c3 => ?_) (fun c3 => ?_)
            · have c3 : z2.2 < z.2 := of_decide_eq_true c3
              walk_at "rd"
              exact yes (.inr ⟨c2, c3⟩) _ rfl
            · have c3 : ¬ z2.2 < z.2 := of_decide_eq_false c3
              exact no fun h => h.elim c1 fun h => c3 h.2
          · have c2 : ¬ z2.1 = z.1 := fun e => of_decide_eq_false c2 (by rw [e])
            exact no fun h => h.elim c1 fun h => c2 h.1
      · rintro H2 ⟨q1, acc, q2, q3⟩
        rw [p1.len, List.take_length] at q3
        have hl2 := q1 _ _ h1
        walk_at "rd"
        have bl := below_le z us
        have hpl := p1.len
        refine ⟨Or.inl ⟨rfl, _, SqL.of hl2⟩, ?_⟩
        refine ⟨_, rfl, _, rfl, l, ys, (acc.length : Int), .ref t, rfl, rfl, hl2, by omega, by omega, by omega, ?_⟩
        have nz : z ∉ us := fun hm => ((nodup_next hz1).mp (nd.sublist (List.take_sublist _ _))).2 (m1.mem_iff.mp hm)
        refine ⟨_, _, _, _, putIn z us, rfl, Evl.Ex.mut (e1.trans q1) hl, upd_same, ?_, putIn_sorted s1 nz, ?_⟩
        · rw [Int.toNat_natCast, q3]
          have p2 := PL.mono q1 p1
          exact PL.over hl2 (PL.app (PL.drop _ p2) (PL.app (.cons (q1 _ _ ht1) .nil) (PL.take _ p2)))
        · rw [take_one hz1]
          exact (putIn_perm z us).trans ((m1.cons z).trans (List.perm_append_singleton z _).symm)
    · rintro σ H1 ⟨x2, x3, x4, ys, us, rfl, e1, h1, p1, s1, m1⟩
      rw [hlen, List.take_length] at m1
      walk_at "rd"
      exact k l ys us H1 e1 hl h1 p1 s1 m1
end
end K03
namespace K03
open PySem PySem.Spec PyProof.Rows L2 Kg
open Evl (Ex)


section
variable {P : Program} {w : World} {K : PySem.W.Frag} {mg : Str → Option Value} {base : Heap}
/-- a new square -/
def spSq (K : PySem.W.Frag) : Sp := fun vs H Q _ => ∃ (j : Addr) (B : Hp) (b : Nat), vs = [.ref j] ∧ Urn K B j (b + 3) H ∧
  ∀ (p : Addr) (x y : Int) (H' : Hp), x.natAbs ≤ 10 ^ 60 → y.natAbs ≤ 10 ^ 60 → H p = none → H' p = some (.tup [.int x, .int y]) → Go j H H' → Urn K B j b H' → Q (.ref p) H'
theorem ok_w_square (T : Txt K mg) : FnOk P w K mg base CX0 2 T.f_w_square T.d_w_square ["tub"] (spSq K) := by
  have G_w_dip : FnOk P w K mg base CX0 1 T.f_w_dip T.d_w_dip ["jar", "many"] (spDraw K) := ok_draw T
  refine T.F_w_square.ok sc_w_square (fun vs H Q E h => ?_) (fun cdv A outer s H vs Q E hr h => ?_)
  · obtain ⟨j, B, b, rfl, _⟩ := h
    rfl
  · obtain ⟨j, B, b, rfl, u, k⟩ := h
    have hr1 := hr
    refine ⟨_, (pss_cons (ps_set (i := 1) sc_w_square.nd rfl (Or.inl rfl) (pe_ix ix_list (pe_lst (pa_cons pe_int (pa_cons pe_int (pa_cons (pe_op op_pow pe_int pe_int) pa_nil)))) (pe_call G_w_dip hr1 rfl T.g_w_dip T.F_w_dip.kp (b_w_dip T) .nil pass0 (pa_cons (pv 0) (pa_cons pe_int pa_nil))) (fun _ _ => rfl)))
  (pss_one (ps_ret (pe_tup (pa_cons (pe_op op_sub (pe_call G_w_dip hr1 rfl T.g_w_dip T.F_w_dip.kp (b_w_dip T) .nil pass0 (pa_cons (pv 0) (pa_cons (pe_op op_add (pe_op op_mul pe_int (pv 1)) pe_int) pa_nil))) (pv 1)) (pa_cons (pe_op op_sub (pe_call G_w_dip hr1 rfl T.g_w_dip T.F_w_dip.kp (b_w_dip T) .nil pass0 (pa_cons (pv 0) (pa_cons (pe_op op_add (pe_op op_mul pe_int (pv 1)) pe_int) pa_nil))) (pv 1)) pa_nil)))))), ?_⟩
    walk_at "rd"
    intro l hl
    have nlj := u.ne hl
    have u' := u.ex (Evl.Ex.new (o := .lst [.int 2, .int 9, .int (10 ^ 60)]) hl)
    walk_at "rd"
    rintro r H2 r0 r1 g2 u2
    have hl2 := g2 l _ nlj upd_same
    have g1 : Go j H H2 := (Go.of (Evl.Ex.new hl)).trans g2
    have fin : ∀ (m : Int), 0 ≤ m → m ≤ 10 ^ 60 → ∀ (r1 r2 : Int) (H4 : Hp), 0 ≤ r1 → r1 < 2 * m + 1 → 0 ≤ r2 → r2 < 2 * m + 1 → Go j H2 H4 → Urn K B j b H4 →
        ∀ p, H4 p = none → Q (.ref p) (upd H4 p (.tup [.int (r1 - m), .int (r2 - m)])) := by
      intro m m0 m1 q1 q2 H4 a1 a2 a3 a4 g4 u4 p hp
      have e := Evl.Ex.new (o := .tup [.int (q1 - m), .int (q2 - m)]) hp
      exact k p _ _ _ (by omega) (by omega) (u4.back (g1.trans g4) hp) upd_same ((g1.trans g4).trans (Go.of e)) (u4.ex e)
    have p2 : (10 : Int) ^ Int.toNat 60 = 10 ^ 60 := rfl
    have : r = 0 ∨ r = 1 ∨ r = 2 := by omega
    rcases this with rfl | rfl | rfl
    all_goals
      refine ⟨_, _, _, _, rfl, rfl, SqL.of hl2, by rfl, ?_⟩
      walk_at "rd"
      rintro q1 H3 a1 a2 g3 u3
      walk_at "rd"
      rintro q2 H4 a3 a4 g4 u4
      walk_at "rd"
      intro p hp
      refine fin _ ?_ ?_ q1 q2 H4 a1 ?_ a3 ?_ (g3.trans g4) u4 p hp
      all_goals first | omega | (rw [p2]; omega) | (rw [p2] at a2 a4; rw [p2]; omega)
end
end K03
namespace K03
open PySem PySem.Spec PyProof.Rows L2 Kg
open Evl (Ex)


section
variable {P : Program} {w : World} {K : PySem.W.Frag} {mg : Str → Option Value} {base : Heap}
def odds : List PyData := [.none, .bool true, .int 7, .str "00", .list [], .tuple [.int 3], .tuple [.int 1, .int 2, .int 3], .list [.int 0, .none], .tuple [.int 0, .bool true], .dict [], .list [.list [.int 0, .int 0]]]
def spOdd (K : PySem.W.Frag) : Sp := fun vs H Q _ => ∃ (j : Addr) (B : Hp) (b : Nat), vs = [.ref j] ∧ Urn K B j (b + 1) H ∧
  ∀ (v : V) (d : PyData) (H' : Hp), d ∈ odds → Da K (neu H H') v d → Go j H H' → Urn K B j b H' → Q v H'
theorem ok_w_odd (T : Txt K mg) : FnOk P w K mg base CX0 2 T.f_w_odd T.d_w_odd ["tub"] (spOdd K) := by
  have G_w_dip : FnOk P w K mg base CX0 1 T.f_w_dip T.d_w_dip ["jar", "many"] (spDraw K) := ok_draw T
  refine T.F_w_odd.ok sc_w_odd (fun vs H Q E h => ?_) (fun cdv A outer s H vs Q E hr h => ?_)
  · obtain ⟨j, B, b, rfl, _⟩ := h
    rfl
  · obtain ⟨j, B, b, rfl, u, k⟩ := h
    have hr1 := hr
    refine ⟨_, (pss_one (ps_ret (pe_ix ix_list (pe_lst (pa_cons pe_non (pa_cons pe_bl (pa_cons pe_int (pa_cons pe_str (pa_cons (pe_lst pa_nil) (pa_cons (pe_tup (pa_cons pe_int pa_nil)) (pa_cons (pe_tup (pa_cons pe_int (pa_cons pe_int (pa_cons pe_int pa_nil)))) (pa_cons (pe_lst (pa_cons pe_int (pa_cons pe_non pa_nil))) (pa_cons (pe_tup (pa_cons pe_int (pa_cons pe_bl pa_nil))) (pa_cons pe_dnewK (pa_cons (pe_lst (pa_cons (pe_lst (pa_cons pe_int (pa_cons pe_int pa_nil))) pa_nil)) pa_nil)))))))))))) (pe_call G_w_dip hr1 rfl T.g_w_dip T.F_w_dip.kp (b_w_dip T) .nil pass0 (pa_cons (pv 0) (pa_cons pe_int pa_nil))) (fun _ _ => rfl)))), ?_⟩
    walk_at "rd"
    intro p1 hp1
    have ep1 : Ex H (upd H p1 (.lst [])) := Evl.Ex.new hp1
    have ap1 : upd H p1 (.lst []) p1 = some (.lst []) := upd_same
    generalize upd H p1 (.lst []) = A1 at ep1 ap1 ⊢
    walk_at "rd"
    intro p2 hp2
    have ep2 : Ex A1 (upd A1 p2 (.tup [.int 3])) := Evl.Ex.new hp2
    have ap2 : upd A1 p2 (.tup [.int 3]) p2 = some (.tup [.int 3]) := upd_same
    generalize upd A1 p2 (.tup [.int 3]) = A2 at ep2 ap2 ⊢
    walk_at "rd"
    intro p3 hp3
    have ep3 : Ex A2 (upd A2 p3 (.tup [.int 1,.int 2,.int 3])) := Evl.Ex.new hp3
    have ap3 : upd A2 p3 (.tup [.int 1,.int 2,.int 3]) p3 = some (.tup [.int 1,.int 2,.int 3]) := upd_same
    generalize upd A2 p3 (.tup [.int 1,.int 2,.int 3]) = A3 at ep3 ap3 ⊢
    walk_at "rd"
    intro p4 hp4
    have ep4 : Ex A3 (upd A3 p4 (.lst [.int 0,.non])) := Evl.Ex.new hp4
    have ap4 : upd A3 p4 (.lst [.int 0,.non]) p4 = some (.lst [.int 0,.non]) := upd_same
    generalize upd A3 p4 (.lst [.int 0,.non]) = A4 at ep4 ap4 ⊢
    walk_at "rd"
    intro p5 hp5
    have ep5 : Ex A4 (upd A4 p5 (.tup [.int 0,.bl true])) := Evl.Ex.new hp5
    have ap5 : upd A4 p5 (.tup [.int 0,.bl true]) p5 = some (.tup [.int 0,.bl true]) := upd_same
    generalize upd A4 p5 (.tup [.int 0,.bl true]) = A5 at ep5 ap5 ⊢
    walk_at "rd"
    intro p6 hp6
    have ep6 : Ex A5 (upd A5 p6 (.dK [])) := Evl.Ex.new hp6
    have ap6 : upd A5 p6 (.dK []) p6 = some (.dK []) := upd_same
    generalize upd A5 p6 (.dK []) = A6 at ep6 ap6 ⊢
    walk_at "rd"
    intro p7 hp7
    have ep7 : Ex A6 (upd A6 p7 (.lst [.int 0,.int 0])) := Evl.Ex.new hp7
    have ap7 : upd A6 p7 (.lst [.int 0,.int 0]) p7 = some (.lst [.int 0,.int 0]) := upd_same
    generalize upd A6 p7 (.lst [.int 0,.int 0]) = A7 at ep7 ap7 ⊢
    walk_at "rd"
    intro p8 hp8
    have ep8 : Ex A7 (upd A7 p8 (.lst [.ref p7])) := Evl.Ex.new hp8
    have ap8 : upd A7 p8 (.lst [.ref p7]) p8 = some (.lst [.ref p7]) := upd_same
    generalize upd A7 p8 (.lst [.ref p7]) = A8 at ep8 ap8 ⊢
    walk_at "rd"
    intro l hl
    have el : Ex A8 (upd A8 l (.lst [.non,.bl true,.int 7,.str "00",.ref p1,.ref p2,.ref p3,.ref p4,.ref p5,.ref p6,.ref p8])) := Evl.Ex.new hl
    have al : upd A8 l (.lst [.non,.bl true,.int 7,.str "00",.ref p1,.ref p2,.ref p3,.ref p4,.ref p5,.ref p6,.ref p8]) l = some (.lst [.non,.bl true,.int 7,.str "00",.ref p1,.ref p2,.ref p3,.ref p4,.ref p5,.ref p6,.ref p8]) := upd_same
    generalize upd A8 l (.lst [.non,.bl true,.int 7,.str "00",.ref p1,.ref p2,.ref p3,.ref p4,.ref p5,.ref p6,.ref p8]) = A9 at el al ⊢
    have f8 : Ex A8 A9 := el
    have f7 := ep8.trans f8
    have f6 := ep7.trans f7
    have f5 := ep6.trans f6
    have f4 := ep5.trans f5
    have f3 := ep4.trans f4
    have f2 := ep3.trans f3
    have f1 := ep2.trans f2
    have f0 := ep1.trans f1
    have m1 := hp1
    have m2 := Evl.fresh_back (ep1) hp2
    have m3 := Evl.fresh_back ((ep1).trans ep2) hp3
    have m4 := Evl.fresh_back (((ep1).trans ep2).trans ep3) hp4
    have m5 := Evl.fresh_back ((((ep1).trans ep2).trans ep3).trans ep4) hp5
    have m6 := Evl.fresh_back (((((ep1).trans ep2).trans ep3).trans ep4).trans ep5) hp6
    have m7 := Evl.fresh_back ((((((ep1).trans ep2).trans ep3).trans ep4).trans ep5).trans ep6) hp7
    have m8 := Evl.fresh_back (((((((ep1).trans ep2).trans ep3).trans ep4).trans ep5).trans ep6).trans ep7) hp8
    have ml := Evl.fresh_back ((((((((ep1).trans ep2).trans ep3).trans ep4).trans ep5).trans ep6).trans ep7).trans ep8) hl
    have u9 := u.ex f0
    walk_at "rd"
    rintro r H2 r0 r1 g2 u2
    have gj : Go j H H2 := (Go.of f0).trans g2
    have b1 := at_neu m1 (g2 p1 _ (u.ne m1) (f1 _ _ ap1))
    have b2 := at_neu m2 (g2 p2 _ (u.ne m2) (f2 _ _ ap2))
    have b3 := at_neu m3 (g2 p3 _ (u.ne m3) (f3 _ _ ap3))
    have b4 := at_neu m4 (g2 p4 _ (u.ne m4) (f4 _ _ ap4))
    have b5 := at_neu m5 (g2 p5 _ (u.ne m5) (f5 _ _ ap5))
    have b6 := at_neu m6 (g2 p6 _ (u.ne m6) (f6 _ _ ap6))
    have b7 := at_neu m7 (g2 p7 _ (u.ne m7) (f7 _ _ ap7))
    have b8 := at_neu m8 (g2 p8 _ (u.ne m8) (f8 _ _ ap8))
    have bl := g2 l _ (u.ne ml) al
    have fin : ∀ v d, d ∈ odds → Da K (neu H H2) v d → Q v H2 := fun v d hd hv => k v d H2 hd hv gj u2
    have : r = 0 ∨ r = 1 ∨ r = 2 ∨ r = 3 ∨ r = 4 ∨ r = 5 ∨ r = 6 ∨ r = 7 ∨ r = 8 ∨ r = 9 ∨ r = 10 := by omega
    rcases this with rfl | rfl | rfl | rfl | rfl | rfl | rfl | rfl | rfl | rfl | rfl
    all_goals refine ⟨_, _, _, _, rfl, rfl, SqL.of bl, by rfl, ?_⟩
    · exact fin _ .none (by simp [odds]) .non
    · exact fin _ (.bool true) (by simp [odds]) (.bl _)
    · exact fin _ (.int 7) (by simp [odds]) (.int _)
    · exact fin _ (.str "00") (by simp [odds]) (.str _)
    · exact fin _ (.list []) (by simp [odds]) (.lst (SqL.of b1) .nil)
    · exact fin _ (.tuple [.int 3]) (by simp [odds]) (.tup (SqT.of b2) (.cons (.int _) .nil))
    · exact fin _ (.tuple [.int 1, .int 2, .int 3]) (by simp [odds]) (.tup (SqT.of b3) (.cons (.int _) (.cons (.int _) (.cons (.int _) .nil))))
    · exact fin _ (.list [.int 0, .none]) (by simp [odds]) (.lst (SqL.of b4) (.cons (.int _) (.cons .non .nil)))
    · exact fin _ (.tuple [.int 0, .bool true]) (by simp [odds]) (.tup (SqT.of b5) (.cons (.int _) (.cons (.bl _) .nil)))
    · exact fin _ (.dict []) (by simp [odds]) (.dct b6 .nil)
    · exact fin _ (.list [.list [.int 0, .int 0]]) (by simp [odds]) (.lst (SqL.of b8) (.cons (.lst (SqL.of b7) (.cons (.int _) (.cons (.int _) .nil))) .nil))
end
end K03
namespace K03
open PySem PySem.Spec PyProof.Rows L2 Kg LamX
open Evl (Ex)
/-! ### all but the tables of code objects -/
def noT (H : Hp) : Hp := fun a => match H a with
  | some (.tbl _) => none
  | o => o
theorem noT_of {H : Hp} {a : Addr} {o : HO} (h : noT H a = some o) : H a = some o ∧ ∀ ps, o ≠ .tbl ps := by
  unfold noT at h
  split at h
  · cases h
  · rename_i n
    exact ⟨h, fun ps e => n ps (by rw [h, e])⟩
theorem noT_at {H : Hp} {a : Addr} {o : HO} (h : H a = some o) (n : ∀ ps, o ≠ .tbl ps) : noT H a = some o := by
  unfold noT
  rw [h]
  split
  · rename_i ps e
    exact absurd (Option.some.inj e) (n ps)
  · rfl
theorem noT_sub (H : Hp) : Ex (noT H) H := fun a o h => (noT_of h).1
theorem noT_extN {H H' : Hp} (e : ExtN H H') : Ex (noT H) (noT H') := fun a o h => noT_at (e a o (noT_of h).1 (noT_of h).2) (noT_of h).2
theorem noT_ex {H H' : Hp} (e : Ex H H') : Ex (noT H) (noT H') := noT_extN (ExtN.of e)
theorem noT_l {K : PySem.W.Frag} {H : Hp} {c : Addr} {xs : List V} (h : SqL K H c xs) : SqL K (noT H) c xs := by
  rcases h with (h | ⟨o, h⟩) | h
  · exact .inl (.inl (noT_at h fun ps z => nomatch z))
  · exact .inl (.inr ⟨o, noT_at h fun ps z => nomatch z⟩)
  · exact .inr h
section
variable {K : PySem.W.Frag} {B : Hp} {j : Addr} {b : Nat} {H H' : Hp}
theorem Urn.noT (u : Urn K B j b H) : Urn K (K03.noT B) j b H := by
  obtain ⟨c, ns, at', rest, h1, h2, h3⟩ := u.it
  exact ⟨⟨c, ns, at', rest, h1, noT_l h2, h3⟩, (noT_sub B).trans u.ba⟩
theorem Urn.extN (u : Urn K (K03.noT B) j b H) (e : ExtN H H') : Urn K (K03.noT B) j b H' := by
  obtain ⟨c, ns, at', rest, h1, h2, h3⟩ := u.it
  refine ⟨⟨c, ns, at', rest, e _ _ h1 (fun ps z => nomatch z), h2, h3⟩, fun a o h => ?_⟩
  have n := (noT_of h).2
  have h := u.ba a o h
  by_cases ea : a = j
  · subst ea; rw [show off a H a = none from if_pos rfl] at h; cases h
  · rw [off_ne ea] at h ⊢
    exact e a o h n
theorem Sys.extN (h : Sys H) (e : ExtN H H') : Sys H' := by
  obtain ⟨o, φ, h⟩ := h
  exact ⟨o, φ, e _ _ h fun ps z => nomatch z⟩
theorem Tabs.go {T : List (Addr × Str)} {vs : List V} (t : Tabs T H) (hj : H j = some (.lst vs)) (g : Go j H H') : Tabs T H' := by
  have ne : ∀ {a : Addr} {o : HO}, H a = some o → (∀ xs, o ≠ .lst xs) → H' a = some o := by
    intro a o h n
    refine g a o ?_ h
    rintro rfl
    rw [hj] at h; cases h
    exact n _ rfl
  intro p hp
  obtain ⟨ps, h1, h2, h3⟩ := t p hp
  refine ⟨ps, ne h1 (fun xs z => nomatch z), h2, fun pos cv h => ?_⟩
  obtain ⟨c, e, hc⟩ := h3 pos cv h
  refine ⟨c, e, ne hc ?_⟩
  intro xs z
  unfold CodeO at z
  cases z
end
/-! ### pairs as tuples -/
def pairT (z : Int × Int) : PyData := .tuple [.int z.1, .int z.2]
theorem pairT_shaped (z : Int × Int) : SeqAt.shaped (pairT z) = true := by simp [pairT, SeqAt.shaped, PyData.canLay0, PyData.canLayAll0, PyData.depth, PyData.depthAll]
theorem pairTs_lay : ∀ zs : List (Int × Int), PyData.canLayAll0 (zs.map pairT) = true
  | [] => by simp [PyData.canLayAll0]
  | z :: zs => by simp [PyData.canLayAll0, pairT, PyData.canLay0, pairTs_lay zs]
theorem pairTs_depth : ∀ zs : List (Int × Int), PyData.depthAll (zs.map pairT) ≤ 1
  | [] => by simp [PyData.depthAll]
  | z :: zs => by
    have := pairTs_depth zs
    simp [PyData.depthAll, pairT, PyData.depth]
    omega
theorem pairTs_shaped (zs : List (Int × Int)) : SeqAt.shaped (.list (zs.map pairT)) = true := by
  have := pairTs_depth zs
  simp [SeqAt.shaped, PyData.canLay0, pairTs_lay, PyData.depth]
  omega
theorem pairT_eqv (z u : Int × Int) : PyData.eqv (pairT z) (pairT u) = decide (z = u) := by
  obtain ⟨a, b⟩ := z
  obtain ⟨c, d⟩ := u
  by_cases h1 : a = c <;> by_cases h2 : b = d <;> simp [pairT, PyData.eqv, PyData.eqvAll, h1, h2]
theorem pairTs_any (zs : List (Int × Int)) (u : Int × Int) : ((zs.map pairT).any fun z => PyData.eqv z (pairT u)) = decide (u ∈ zs) := by
  rw [List.any_map]
  by_cases h : u ∈ zs
  · rw [decide_eq_true h, List.any_eq_true]
    exact ⟨u, h, by simp [Function.comp, pairT_eqv]⟩
  · rw [decide_eq_false h, List.any_eq_false]
    intro z hz
    simp only [Function.comp, pairT_eqv, decide_eq_true_eq]
    rintro rfl
    exact h hz
theorem PL.da {K : PySem.W.Frag} {H : Hp} : ∀ {vs : List V} {zs : List (Int × Int)}, PL H vs zs → DaAll K H vs (zs.map pairT)
  | _, _, .nil => .nil
  | _, _, .cons h t => .cons (.tup (SqT.of h) (.cons (.int _) (.cons (.int _) .nil))) (PL.da t)
theorem PL.dp {K : PySem.W.Frag} {H : Hp} {vs : List V} {zs : List (Int × Int)} (h : PL H vs zs) : DpAll K H vs (zs.map pairT) := DaAll.dp _ (pairTs_lay zs) h.da
/-! ### squares in order are one thing -/
theorem ordered_one {ys : List V} {k : V → Int × Int} {us zs : List (Int × Int)} (s : SrtO.Srtd (ltP k) ys) (p : (ys.map k).Perm zs) (nd : zs.Nodup) (su : us.Pairwise pLt) (pu : us.Perm zs) : ys.map k = us := by
  have nd' : (ys.map k).Nodup := p.symm.nodup nd
  refine sorted_one ?_ su (p.trans pu.symm)
  rw [List.pairwise_map]
  have ne := List.pairwise_map.mp nd'
  refine List.Pairwise.imp₂ ?_ s ne
  intro x y h n
  by_cases c : pLt (k x) (k y)
  · exact c
  · have g := pLt_or n c
    have : ltP k y x = true := by
      show SrtO.lexB (k y) (k x) = true
      unfold SrtO.lexB
      rcases g with g | ⟨g1, g2⟩
      · simp [g]; omega
      · simp [g1, g2]
    rw [this] at h; cases h
/-! ### what is bent is no lot of unlike squares -/
theorem odd_no : ∀ d ∈ odds, isSq d = false := by
  intro d hd
  simp only [odds, List.mem_cons, List.not_mem_nil, or_false] at hd
  rcases hd with rfl | rfl | rfl | rfl | rfl | rfl | rfl | rfl | rfl | rfl | rfl
  all_goals decide +kernel
theorem bent_one {ds es : List PyData} {d : PyData} (h : isSq d = false) : areSq (.list (ds ++ [d] ++ es)) = false := by
  unfold areSq
  simp [seqOf, h]
theorem bent_two {ds es : List PyData} {d e : PyData} (he : e ∈ ds ++ es) (h : sqOf d = sqOf e) : areSq (.list (ds ++ [d] ++ es)) = false := by
  unfold areSq
  have : ¬ ((ds ++ [d] ++ es).map sqOf).Nodup := by
    intro n
    have p : ((ds ++ [d] ++ es).map sqOf).Perm (sqOf d :: (ds ++ es).map sqOf) := by
      simp only [List.map_append, List.map_cons, List.map_nil, List.append_assoc, List.singleton_append]
      exact List.perm_middle
    have n2 := (p.nodup_iff.mp n)
    rw [List.nodup_cons] at n2
    exact n2.1 (h ▸ List.mem_map.mpr ⟨e, he, rfl⟩)
  simp only [seqOf]
  rw [decide_eq_false this, Bool.and_false]
/-! ### x not in a tuple of data -/
def rNotInT (K : PySem.W.Frag) : R2 := fun x y H Q => ∃ d ds, Dp K H x d ∧ Dp K H y (.tuple ds) ∧ SeqAt.shaped d = true ∧ SeqAt.shaped (.tuple ds) = true ∧ Q (.bl (!ds.any fun z => PyData.eqv z d)) H
theorem op_notInT {X : Cx} (hu : X.A.units + 65 < cLine) : OpR X (compareOp .NotIn) (rNotInT X.K) := by
  intro pins s σ H x y v u Q I rx ry h
  obtain ⟨d, ds, hd, he, sd, se, q⟩ := h
  obtain ⟨as, r1⟩ := Dp.reads I d x v hd rx
  obtain ⟨bs, r2⟩ := Dp.reads I (.tuple ds) y u he ry
  exact SeqAt.notIn_tuple_reads r2 r1 (SeqAt.canLay_of_shaped se) (SeqAt.canLay_of_shaped sd) (room_in_shaped sd hu) ⟨.bl _, H, I, rfl, q⟩
theorem Go.mut {j D : Addr} {H H' : Hp} {o : HO} (g : Go j H H') (hD : H D = none) : Go j H (L2.upd H' D o) := by
  intro a x n h
  rw [upd_ne (fun e => by rw [e, hD] at h; cases h)]
  exact g a x n h
/-- data of pairs, short -/
structure Prs (zs : List (Int × Int)) (ds : List PyData) : Prop where
  sq : ds.map sqOf = zs.map some
  fit : ∀ d ∈ ds, Fit 406 d ∧ d.depth ≤ 2
theorem Prs.len {zs : List (Int × Int)} {ds : List PyData} (h : Prs zs ds) : ds.length = zs.length := by
  have := congrArg List.length h.sq
  simpa using this
theorem Prs.nil : Prs [] [] := ⟨rfl, by simp⟩
theorem Prs.snoc {zs : List (Int × Int)} {ds : List PyData} {z : Int × Int} {d : PyData} (h : Prs zs ds) (e : sqOf d = some z) (f : Fit 406 d ∧ d.depth ≤ 2) : Prs (zs ++ [z]) (ds ++ [d]) := by
  refine ⟨by rw [List.map_append, List.map_append, h.sq, List.map_cons, List.map_cons, e]; rfl, fun x hx => ?_⟩
  rcases List.mem_append.mp hx with hx | hx
  · exact h.fit x hx
  · rw [List.mem_singleton.mp hx]; exact f
theorem Prs.all {zs : List (Int × Int)} {ds : List PyData} (h : Prs zs ds) : ds.all isSq = true := by
  rw [List.all_eq_true]
  intro d hd
  have : sqOf d ∈ ds.map sqOf := List.mem_map.mpr ⟨d, hd, rfl⟩
  rw [h.sq] at this
  obtain ⟨z, _, e⟩ := List.mem_map.mp this
  unfold isSq
  rw [← e]
  rfl
theorem Prs.are {zs : List (Int × Int)} {ds : List PyData} (h : Prs zs ds) (nd : zs.Nodup) : (ds.all isSq && decide ((ds.map sqOf).Nodup)) = true := by
  rw [h.all, h.sq, decide_eq_true ((nodup_some zs).mpr nd)]
  rfl
theorem Prs.prs {zs : List (Int × Int)} {ds : List PyData} (h : Prs zs ds) : Kg.prs ds = zs := by
  have := prs_some h.all
  rw [h.sq] at this
  exact (List.map_inj_right (fun a b e => Option.some.inj e)).mp this.symm
theorem fit_pairs {x y : Int} (hx : x.natAbs ≤ 10 ^ 60) (hy : y.natAbs ≤ 10 ^ 60) : (Fit 406 (.list [.int x, .int y]) ∧ Fit 406 (.tuple [.int x, .int y])) ∧ PyData.depth (.list [.int x, .int y]) ≤ 2 ∧ PyData.depth (.tuple [.int x, .int y]) ≤ 2 := by
  have f := fit_seq (n := 202) (ds := [.int x, .int y]) 2 (by simp) (fun d hd => by
    rcases List.mem_cons.mp hd with rfl | hd
    · exact ⟨fit_int (Nat.le_trans hx (by decide)), by simp [PyData.depth]⟩
    · rw [List.mem_singleton.mp hd]; exact ⟨fit_int (Nat.le_trans hy (by decide)), by simp [PyData.depth]⟩)
  exact ⟨f, by simp [PyData.depth, PyData.depthAll], by simp [PyData.depth, PyData.depthAll]⟩
theorem Prs.rev {zs : List (Int × Int)} {ds : List PyData} (h : Prs zs ds) : Prs zs.reverse ds.reverse :=
  ⟨by rw [List.map_reverse, h.sq, List.map_reverse], fun d hd => h.fit d (List.mem_reverse.mp hd)⟩
theorem da_reverse {K : PySem.W.Frag} {H : Hp} : ∀ {vs : List V} {ds : List PyData}, DaAll K H vs ds → DaAll K H vs.reverse ds.reverse
  | _, _, .nil => .nil
  | _, _, .cons h t => by
    rw [List.reverse_cons, List.reverse_cons]
    exact DaAll.app (da_reverse t) (.cons h .nil)
theorem Prs.seq {zs : List (Int × Int)} {ds : List PyData} (h : Prs zs ds) (hl : zs.length ≤ 7) {pd : PyData} (e : pd = .list ds ∨ pd = .tuple ds) : Fit 6000 pd ∧ pd.depth ≤ 3 := by
  have f := fit_seq (n := 406) (ds := ds) 7 (by rw [h.len]; exact hl) h.fit
  have dp : PyData.depthAll ds ≤ 2 := by
    have g : ∀ es : List PyData, (∀ d ∈ es, d.depth ≤ 2) → PyData.depthAll es ≤ 2 := by
      intro es
      induction es with
      | nil => intro _; simp [PyData.depthAll]
      | cons a t ih =>
        intro hh
        have h1 := hh a List.mem_cons_self
        have h2 := ih fun d hd => hh d (List.mem_cons_of_mem _ hd)
        simp only [PyData.depthAll]
        omega
    exact g ds fun d hd => (h.fit d hd).2
  rcases e with rfl | rfl
  · exact ⟨f.1.mono (by decide), by simp only [PyData.depth]; omega⟩
  · exact ⟨f.2.mono (by decide), by simp only [PyData.depth]; omega⟩
theorem prs_tup {us : List (Int × Int)} (h : ∀ z ∈ us, z.1.natAbs ≤ 10 ^ 60 ∧ z.2.natAbs ≤ 10 ^ 60) : Prs us (us.map pairT) := by
  refine ⟨by rw [List.map_map]; rfl, fun d hd => ?_⟩
  obtain ⟨z, hz, rfl⟩ := List.mem_map.mp hd
  have f := fit_pairs (h z hz).1 (h z hz).2
  exact ⟨f.1.2, f.2.2⟩
theorem cut_from (xs : List V) (n : Nat) (h : n ≤ xs.length) : cutV xs (some (n : Int)) none = xs.drop n := by
  unfold cutV
  rw [HT.sIx_nat, HT.sIx_none, Nat.min_eq_left h, List.take_of_length_le]
  rw [List.length_drop]
  exact Nat.le_refl _
theorem da_take {K : PySem.W.Frag} {H : Hp} : ∀ (n : Nat) {vs : List V} {ds : List PyData}, DaAll K H vs ds → DaAll K H (vs.take n) (ds.take n)
  | 0, _, _, _ => .nil
  | _ + 1, _, _, .nil => .nil
  | n + 1, _, _, .cons h t => .cons h (da_take n t)
theorem da_drop {K : PySem.W.Frag} {H : Hp} : ∀ (n : Nat) {vs : List V} {ds : List PyData}, DaAll K H vs ds → DaAll K H (vs.drop n) (ds.drop n)
  | 0, _, _, h => h
  | _ + 1, _, _, .nil => .nil
  | n + 1, _, _, .cons _ t => da_drop n t
theorem slice_any {K : PySem.W.Frag} {G H : Hp} {a : Addr} {d : PyData} {ds es : List PyData} {lo hi : Option Int} {Q : VK} (h : Da K G (.ref a) d) (g : Ex G H) (e : seqOf d = some ds)
    (c : ∀ ws : List V, DaAll K G ws ds → DaAll K G (cutV ws lo hi) es) (w : ∀ ws : List V, ws.length = ds.length → HT.sIx ws.length 0 lo = 0 ∧ HT.sIx ws.length ws.length hi = ws.length → cutV ws lo hi = ws)
    (q : ∀ p H' ws', Ex H H' → (SqL K H' p ws' ∨ SqT K H' p ws') → DaAll K G ws' es → Q (.ref p) H') : rSlL K (.ref a) lo hi H Q ∨ rSlA K (.ref a) lo hi H Q := by
  cases h with
  | lst h1 h2 =>
    cases e
    refine .inl ⟨a, _, rfl, Evl.ex_l g h1, fun p hp => ?_⟩
    exact q p _ _ (Evl.Ex.new hp) (.inl (SqL.of upd_same)) (c _ h2)
  | tup h1 h2 =>
    cases e
    refine .inr ⟨a, _, rfl, Evl.ex_t g h1, fun whole => ?_, fun _ p hp => ?_⟩
    · have z := w _ h2.len whole
      have y := c _ h2
      rw [z] at y
      exact q a _ _ (fun _ _ h => h) (.inr (Evl.ex_t g h1)) y
    · exact q p _ _ (Evl.Ex.new hp) (.inr (SqT.of upd_same)) (c _ h2)
  | _ => cases e
theorem slice_to {K : PySem.W.Frag} {G H : Hp} {a : Addr} {d : PyData} {ds : List PyData} {n : Nat} {Q : VK} (h : Da K G (.ref a) d) (g : Ex G H) (e : seqOf d = some ds)
    (q : ∀ p H' ws', Ex H H' → (SqL K H' p ws' ∨ SqT K H' p ws') → DaAll K G ws' (ds.take n) → Q (.ref p) H') : rSlL K (.ref a) none (some (n : Int)) H Q ∨ rSlA K (.ref a) none (some (n : Int)) H Q := by
  refine slice_any h g e (fun ws hw => ?_) (fun ws _ z => ?_) q
  · rw [cut_to]; exact da_take n hw
  · rw [cut_to]
    have := z.2
    rw [HT.sIx_nat] at this
    exact List.take_of_length_le (by omega)
theorem slice_from {K : PySem.W.Frag} {G H : Hp} {a : Addr} {d : PyData} {ds : List PyData} {n : Nat} {Q : VK} (h : Da K G (.ref a) d) (g : Ex G H) (e : seqOf d = some ds) (hn : n ≤ ds.length)
    (q : ∀ p H' ws', Ex H H' → (SqL K H' p ws' ∨ SqT K H' p ws') → DaAll K G ws' (ds.drop n) → Q (.ref p) H') : rSlL K (.ref a) (some (n : Int)) none H Q ∨ rSlA K (.ref a) (some (n : Int)) none H Q := by
  refine slice_any h g e (fun ws hw => ?_) (fun ws hl z => ?_) q
  · rw [cut_from _ _ (by rw [hw.len]; exact hn)]; exact da_drop n hw
  · rw [cut_from _ _ (by rw [hl]; exact hn)]
    have := z.1
    rw [HT.sIx_nat] at this
    by_cases h0 : n = 0
    · subst h0; rfl
    · have : ws.length = 0 := by omega
      rw [List.length_eq_zero_iff.mp this]
      simp
theorem off_new {j L : Addr} {H : Hp} {o : HO} (hL : H L = none) : Ex (off j H) (off L (off j (L2.upd H L o))) := by
  intro a x h
  have n : a ≠ j := by
    rintro rfl
    rw [show off a H a = none from if_pos rfl] at h; cases h
  rw [off_ne n] at h
  have n2 : a ≠ L := fun e => by rw [e, hL] at h; cases h
  exact off_at n2 (off_at n ((upd_ne n2).trans h))
/-- values none of which is a lot of unlike squares, in a list that still grows -/
structure Bn (K : PySem.W.Frag) (j L : Addr) (vs : List V) (H : Hp) : Prop where
  it : H L = some (.lst vs)
  no : ∀ v ∈ vs, ∃ d, Da K (off L (off j H)) v d ∧ areSq d = false ∧ ∀ ds, seqOf d = some ds → ds.length < 60
theorem Bn.go {K : PySem.W.Frag} {j L : Addr} {vs : List V} {H H' : Hp} (ne : L ≠ j) (h : Bn K j L vs H) (g : Go j H H') : Bn K j L vs H' :=
  ⟨g _ _ ne h.it, fun v hv => by
    obtain ⟨d, z, r⟩ := h.no v hv
    exact ⟨d, Da.mono (Go.ex (j := L) (Go.of g.ex)) d z, r⟩⟩
theorem noT_t {K : PySem.W.Frag} {H : Hp} {c : Addr} {xs : List V} (h : SqT K H c xs) : SqT K (noT H) c xs := by
  rcases h with h | h
  · rcases h with h | ⟨o, h⟩
    · exact .inl (.inl (noT_at h fun ps z => nomatch z))
    · exact .inl (.inr ⟨o, noT_at h fun ps z => nomatch z⟩)
  · exact .inr h
mutual
theorem Da.noT {K : PySem.W.Frag} {H : Hp} : ∀ {v : V} (d : PyData), Da K H v d → Da K (K03.noT H) v d
  | _, .none, .non => .non
  | _, .bool _, .bl b => .bl b
  | _, .int _, .int i => .int i
  | _, .str _, .str x => .str x
  | _, .list ds, .lst h t => .lst (noT_l h) (DaAll.noT ds t)
  | _, .tuple ds, .tup h t => .tup (noT_t h) (DaAll.noT ds t)
  | _, .dict _, .dct h t => .dct (noT_at h fun ps z => nomatch z) (DaAll.noT _ t)
theorem DaAll.noT {K : PySem.W.Frag} {H : Hp} : ∀ {vs : List V} (ds : List PyData), DaAll K H vs ds → DaAll K (K03.noT H) vs ds
  | _, [], .nil => .nil
  | _, d :: ds, .cons h t => .cons (Da.noT d h) (DaAll.noT ds t)
end
theorem ex_extN {G H H' : Hp} (g : Ex (noT G) H) (e : ExtN H H') : Ex (noT G) H' := fun a o h => e a o (g a o h) (noT_of h).2
theorem fit_pair2 {x y : Int} (hx : x.natAbs ≤ 2 * 10 ^ 60) (hy : y.natAbs ≤ 2 * 10 ^ 60) : Fit 406 (.tuple [.int x, .int y]) ∧ PyData.depth (.tuple [.int x, .int y]) ≤ 2 := by
  have f := fit_seq (n := 202) (ds := [.int x, .int y]) 2 (by simp) (fun d hd => by
    rcases List.mem_cons.mp hd with rfl | hd
    · exact ⟨fit_int hx, by simp [PyData.depth]⟩
    · rw [List.mem_singleton.mp hd]; exact ⟨fit_int hy, by simp [PyData.depth]⟩)
  exact ⟨f.2, by simp [PyData.depth, PyData.depthAll]⟩
theorem fit_nb {x y : Int} (hx : x.natAbs ≤ 10 ^ 60) (hy : y.natAbs ≤ 10 ^ 60) : Fit 6000 (nbD x y) ∧ (nbD x y).depth ≤ 3 := by
  have big : (1 : Nat) ≤ 10 ^ 60 := Nat.one_le_pow _ _ (by decide)
  generalize hT : (10 : Nat) ^ 60 = T at hx hy big
  have f := fit_seq (n := 406) (ds := [.tuple [.int (x + 1), .int y], .tuple [.int (x - 1), .int y], .tuple [.int x, .int (y + 1)], .tuple [.int x, .int (y - 1)]]) 4 (by simp) (fun d hd => by
    simp only [List.mem_cons, List.not_mem_nil, or_false] at hd
    rcases hd with rfl | rfl | rfl | rfl
    all_goals exact fit_pair2 (by rw [hT]; omega) (by rw [hT]; omega))
  exact ⟨f.2.mono (by decide), by simp [nbD, PyData.depth, PyData.depthAll]⟩
theorem nb_shaped (x y : Int) : SeqAt.shaped (nbD x y) = true := by
  simp [nbD, SeqAt.shaped, PyData.canLay0, PyData.canLayAll0, PyData.depth, PyData.depthAll]
/-- each neighbour has the square as one -/
theorem nb_back {x y u v : Int} (h : (u = x + 1 ∧ v = y) ∨ (u = x - 1 ∧ v = y) ∨ (u = x ∧ v = y + 1) ∨ (u = x ∧ v = y - 1)) :
    ([PyData.tuple [.int (u + 1), .int v], .tuple [.int (u - 1), .int v], .tuple [.int u, .int (v + 1)], .tuple [.int u, .int (v - 1)]].any fun z => PyData.eqv z (.tuple [.int x, .int y])) = true := by
  have e : ∀ a b : Int, PyData.eqv (.tuple [.int a, .int b]) (.tuple [.int x, .int y]) = decide ((a, b) = (x, y)) := fun a b => pairT_eqv (a, b) (x, y)
  simp only [List.any_cons, List.any_nil, e, Bool.or_false]
  rcases h with ⟨rfl, rfl⟩ | ⟨rfl, rfl⟩ | ⟨rfl, rfl⟩ | ⟨rfl, rfl⟩
  all_goals simp
end K03
namespace K03
open PySem PySem.Spec PyProof.Rows L2 Kg
open Evl (Ex)


section
variable {P : Program} {w : World} {K : PySem.W.Frag} {mg : Str → Option Value} {base : Heap}
def spLaw (K : PySem.W.Frag) (cs : List (Addr × Addr)) : Sp := fun vs H Q _ => ∃ (a : Addr) (ns : List Int), vs = [.ref a] ∧ ns.length ≤ 63 ∧ OffK K ∧ EntryT K cs H a ns ∧ ∀ H', Q (.bl true) H'
/-- the squares drawn so far: a list that still grows -/
structure Sm (j D : Addr) (xs : List V) (zs : List (Int × Int)) (H : Hp) : Prop where
  it : H D = some (.lst xs)
  pl : PL (off D (off j H)) xs zs
  nd : zs.Nodup
  sm : ∀ z ∈ zs, z.1.natAbs ≤ 10 ^ 60 ∧ z.2.natAbs ≤ 10 ^ 60
theorem Sm.go {j D : Addr} {xs : List V} {zs : List (Int × Int)} {H H' : Hp} (ne : D ≠ j) (h : Sm j D xs zs H) (g : Go j H H') : Sm j D xs zs H' :=
  ⟨g _ _ ne h.it, h.pl.mono (Go.ex (j := D) (Go.of g.ex)), h.nd, h.sm⟩
theorem off_upd {j D : Addr} {H : Hp} {o : HO} : Ex (off D (off j H)) (off D (off j (upd H D o))) := by
  intro a x h
  by_cases e : a = D
  · subst e; rw [show off a (off j H) a = none from if_pos rfl] at h; cases h
  · rw [off_ne e] at h ⊢
    by_cases e2 : a = j
    · subst e2; rw [show off a H a = none from if_pos rfl] at h; cases h
    · rw [off_ne e2] at h ⊢
      exact (upd_ne e).trans h
set_option maxHeartbeats 0 in
theorem ok_law (T : Txt K mg) {c p : Addr} (hcode : T.d_law.code = .ref c) (TB : LamX.TabB base mg c p) : FnG P w K mg base CX0 8 T.f_law T.d_law ["script"] (spLaw K [(c, p)]) := by
  have G_w_tub : FnOk P w K mg base CX0 5 T.f_w_tub T.d_w_tub ["script"] (spUrn K) := (ok_urn T).mono (by decide)
  have G_w_dip : FnOk P w K mg base CX0 5 T.f_w_dip T.d_w_dip ["jar", "many"] (spDraw K) := (ok_draw T).mono (by decide)
  have G_w_square : FnOk P w K mg base CX0 5 T.f_w_square T.d_w_square ["tub"] (spSq K) := (ok_w_square T).mono (by decide)
  have G_w_odd : FnOk P w K mg base CX0 5 T.f_w_odd T.d_w_odd ["tub"] (spOdd K) := (ok_w_odd T).mono (by decide)
  have G_w_ordered : FnOk P w K mg base CX0 5 T.f_w_ordered T.d_w_ordered ["some"] (spOrd K) := (ok_w_ordered T).mono (by decide)
  have G_around : FnOk P w K mg base (L2.CX P w) 5 T.f_around T.d_around ["square"] (spAround K T.c_BadSquare) := (ok_around T).mono (by decide)
  have G_squares_of : FnOk P w K mg base (L2.CX P w) 5 T.f_squares_of T.d_squares_of ["values"] (fun vs H Q E => spSquares K T.c_BadSquares vs H Q E ∨ spDtS T.c_BadSquares vs H Q E) := ok_squares_any T
  refine okGc T.F_law sc_law (k := 7) (fun vs H Q E h => ?_) (fun cdv A outer s H vs Q E hcd hr gd h => ?_)
  · obtain ⟨a, ns, rfl, _⟩ := h
    rfl
  · obtain ⟨a, ns, rfl, hl, off0, en, k⟩ := h
    have hr2 := hr
    have hr1 := hr.mono (j := 5) (by decide)
    have hu2 := hr.units
    have hu1 := hu_of hr
    have hu65 : (A.deeper (envOfC "law" (defScope s_law) s.heap.objs.size T.f_law cdv)).units + 65 < cLine := by have := hr.un; omega
    have hcode : (cxOf CX0 P w K mg base ["script", "tub", "turn", "some", "spot", "square", "passed", "kept", "due", "told", "at", "bent", "value", "x", "y", "each"] "law" (defScope s_law) T.f_law cdv A outer s H E).nox.env.code = .ref c := hcd.symm.trans hcode
    let q : Str := (envOfC "law" (defScope s_law) s.heap.objs.size T.f_law cdv).qual ++ "<lambda>"
    have small : sizeLine = 16777216 := sizeLine_eq
    refine ⟨_, (pss_cons (ps_set (i := 1) sc_law.nd rfl (Or.inr rfl) (pe_call G_w_tub hr1 rfl T.g_w_tub T.F_w_tub.kp (b_w_tub T) .nil pass0 (pa_cons (pv 0) pa_nil)))
  (pss_cons (ps_for PassesOwn.never rfl (pi_range1 (by rfl) T.z_range (pa_cons pe_int pa_nil)) (pg_name (i := 2) sc_law.nd rfl (Or.inl rfl))
  (Evl.pss_cut (ps_set (i := 3) sc_law.nd rfl (Or.inl rfl) (pe_lst pa_nil))
  (Evl.pss_cut (ps_for PassesOwn.never rfl (pi_range1 (by rfl) T.z_range (pa_cons (pe_call G_w_dip hr1 rfl T.g_w_dip T.F_w_dip.kp (b_w_dip T) .nil pass0 (pa_cons (pv 1) (pa_cons pe_int pa_nil))) pa_nil)) (pg_name (i := 4) sc_law.nd rfl (Or.inl rfl))
  (pss_cons (ps_set (i := 5) sc_law.nd rfl (Or.inl rfl) (pe_call G_w_square hr1 rfl T.g_w_square T.F_w_square.kp (b_w_square T) .nil pass0 (pa_cons (pv 1) pa_nil)))
  (pss_one (ps_if (pt_cmpR (op_notInD hu65) (pv 5) (pv 3) (by rfl)) (pss_one (ps_expr (pe_bm PySem.F.plainAttrs_list PySem.F.slot_list_append PySem.F.type_list_append mt_append (pv 3) (pa_cons (pv 5) pa_nil)))) pss_nil))))
  (Evl.pss_cut (ps_setLc (i := 6) (own := [("square", 5)]) (g := (gName 5)) rfl sc_law.nd rfl rfl (sw_true rfl rfl rfl (by decide +kernel)) (pi_list (pv 3)) (blkOk_by (own := [("square", 5)]) (N := ["script", "tub", "turn", "some", "spot", "square", "passed", "kept", "due", "told", "at", "bent", "value", "x", "y", "each"]) (sc := defScope s_law) (by decide +kernel)) (fun _ _ _ _ _ => (pg_name (i := 5) sc_law.nd rfl (Or.inl rfl))) (fun _ _ _ _ _ => pts_nil) (fun _ _ _ _ _ => (pe_ifExp (pt_cmpR op_eq (pe_call G_w_dip hr1 rfl T.g_w_dip T.F_w_dip.kp (b_w_dip T) .nil pass0 (pa_cons (pv 1) (pa_cons pe_int pa_nil))) pe_int (nomark _)) (pe_callTy (show CallR _ _ (Evl.rListS K) from call_list_of) (by rfl) T.z_list (by decide +kernel) (pa_cons (pv 5) pa_nil)) (pv 5))))
  (Evl.pss_cut (ps_set (i := 6) sc_law.nd rfl (Or.inl rfl) (pe_ifExp (pt_cmpR op_eq (pe_call G_w_dip hr1 rfl T.g_w_dip T.F_w_dip.kp (b_w_dip T) .nil pass0 (pa_cons (pv 1) (pa_cons pe_int pa_nil))) pe_int (nomark _)) (pe_callTy call_tuple_of (by rfl) T.z_tuple (by decide +kernel) (pa_cons (pv 6) pa_nil)) (pv 6)))
  (Evl.pss_cut (ps_set (i := 7) sc_law.nd rfl (Or.inl rfl) (pe_callB (cr_repr gd hu2 off0) (by rfl) T.z_repr (by decide +kernel) (pa_cons (pv 6) pa_nil)))
  (Evl.pss_cut (ps_set (i := 8) sc_law.nd rfl (Or.inl rfl) (pe_callTy call_tuple_of (by rfl) T.z_tuple (by decide +kernel) (pa_cons (pe_call G_w_ordered hr1 rfl T.g_w_ordered T.F_w_ordered.kp (b_w_ordered T) .nil pass0 (pa_cons (pv 3) pa_nil)) pa_nil)))
  (Evl.pss_cut (ps_set (i := 9) sc_law.nd rfl (Or.inl rfl) (pe_call G_squares_of hr1 rfl T.g_squares_of T.F_squares_of.kp (b_squares_of T) .nil (passes_call LamX.takes0 (fun _ _ _ _ h => h)) (pa_cons (pv 6) pa_nil)))
  (Evl.pss_cut (ps_if (PW.pt (pw_or (pt_cmpR op_ne (pe_callB (cr_repr gd hu2 off0) (by rfl) T.z_repr (by decide +kernel) (pa_cons (pv 9) pa_nil)) (pe_callB (cr_repr gd hu2 off0) (by rfl) T.z_repr (by decide +kernel) (pa_cons (pv 8) pa_nil)) (nomark _)) (pw_or (pt_cmpR op_ne (pe_callB (cr_repr gd hu2 off0) (by rfl) T.z_repr (by decide +kernel) (pa_cons (pe_callKW G_squares_of hr1 rfl T.g_squares_of T.F_squares_of.kp (kb_squares_of_values T) (passes_call LamX.takes0 (fun _ _ _ _ h => h)) (pk_cons (pe_back (pv 6) (po_some (pe_un un_neg pe_int))) pk_nil)) pa_nil)) (pe_callB (cr_repr gd hu2 off0) (by rfl) T.z_repr (by decide +kernel) (pa_cons (pv 8) pa_nil)) (nomark _)) (pw_or1 (pt_cmpR op_ne (pe_callB (cr_repr gd hu2 off0) (by rfl) T.z_repr (by decide +kernel) (pa_cons (pv 6) pa_nil)) (pv 7) (nomark _)))))) (pss_one (ps_ret pe_bl)) pss_nil)
  (Evl.pss_cut (ps_set (i := 10) sc_law.nd rfl (Or.inl rfl) (pe_call G_w_dip hr1 rfl T.g_w_dip T.F_w_dip.kp (b_w_dip T) .nil pass0 (pa_cons (pv 1) (pa_cons (pe_op op_add (pe_callB call_len_seq (by rfl) T.z_len (by decide +kernel) (pa_cons (pv 3) pa_nil)) pe_int) pa_nil))))
  (Evl.pss_cut (ps_set (i := 11) sc_law.nd rfl (Or.inl rfl) (pe_lst (pa_cons (pe_op op_cat (pe_op op_cat (pe_callTy call_list_of (by rfl) T.z_list (by decide +kernel) (pa_cons (pe_slice (sl_list.or sl_tupA) (pv 6) po_none (po_some (pv 10))) pa_nil)) (pe_lst (pa_cons (pe_call G_w_odd hr1 rfl T.g_w_odd T.F_w_odd.kp (b_w_odd T) .nil pass0 (pa_cons (pv 1) pa_nil)) pa_nil))) (pe_callTy call_list_of (by rfl) T.z_list (by decide +kernel) (pa_cons (pe_slice (sl_list.or sl_tupA) (pv 6) (po_some (pv 10)) po_none) pa_nil))) pa_nil)))
  (Evl.pss_cut (ps_if (pt_cmpR (op_neNil hu2) (pv 3) (pe_lst pa_nil) (nomark _)) (pss_one (ps_expr (pe_bm PySem.F.plainAttrs_list PySem.F.slot_list_append PySem.F.type_list_append mt_append (pv 11) (pa_cons (pe_op op_cat (pe_op op_cat (pe_callTy call_list_of (by rfl) T.z_list (by decide +kernel) (pa_cons (pe_slice (sl_list.or sl_tupA) (pv 6) po_none (po_some (pv 10))) pa_nil)) (pe_lst (pa_cons (pe_callTy call_list_of (by rfl) T.z_list (by decide +kernel) (pa_cons (pe_ix ix_list (pv 3) (pe_call G_w_dip hr1 rfl T.g_w_dip T.F_w_dip.kp (b_w_dip T) .nil pass0 (pa_cons (pv 1) (pa_cons (pe_callB call_len_seq (by rfl) T.z_len (by decide +kernel) (pa_cons (pv 3) pa_nil)) pa_nil))) (fun _ _ => rfl)) pa_nil)) pa_nil))) (pe_callTy call_list_of (by rfl) T.z_list (by decide +kernel) (pa_cons (pe_slice (sl_list.or sl_tupA) (pv 6) (po_some (pv 10)) po_none) pa_nil))) pa_nil)))) pss_nil)
  (Evl.pss_cut (ps_for PassesOwn.never rfl (pi_list (pe_op op_cat (pv 11) (pe_lst (pa_cons pe_non (pa_cons pe_int (pa_cons pe_str (pa_cons pe_dnewK (pa_cons (pe_disp1T hu1 (pe_tup (pa_cons pe_int (pa_cons pe_int pa_nil))) pe_bl) (pa_cons pe_bl pa_nil))))))))) (pg_name (i := 12) sc_law.nd rfl (Or.inr rfl))
  (pss_one (ps_if (pt_cmpR (op_neD hu2) (pe_w_heard T TB hcode hr2 rfl (LamX.lamS_by (show LamX.lamSB (defScope s_law) _ = true from by decide +kernel)) rfl (fun _ _ _ _ _ => rfl) (fun A outer s H E f c' hr1 => (pe_call G_squares_of hr1 rfl T.g_squares_of T.F_squares_of.kp (b_squares_of T) .nil (passes_call (takes_of rfl rfl rfl rfl) (fun _ _ _ _ h => h)) (pa_cons (pv 12) pa_nil)))) (pe_tup (pa_cons pe_str (pa_cons pe_str pa_nil))) (nomark _)) (pss_one (ps_ret pe_bl)) pss_nil)))
  (pss_cons (ps_asg (pe_call G_w_square hr1 rfl T.g_w_square T.F_w_square.kp (b_w_square T) .nil pass0 (pa_cons (pv 1) pa_nil)) (pg_tup rfl (pgs_cons (pg_name (i := 13) sc_law.nd rfl (Or.inr rfl)) (pgs_cons (pg_name (i := 14) sc_law.nd rfl (Or.inr rfl)) pgs_nil))))
  (Evl.pss_cut (ps_set (i := 5) sc_law.nd rfl (Or.inl rfl) (pe_ifExp (pt_cmpR op_eq (pe_call G_w_dip hr1 rfl T.g_w_dip T.F_w_dip.kp (b_w_dip T) .nil pass0 (pa_cons (pv 1) (pa_cons pe_int pa_nil))) pe_int (nomark _)) (pe_lst (pa_cons (pv 13) (pa_cons (pv 14) pa_nil))) (pe_tup (pa_cons (pv 13) (pa_cons (pv 14) pa_nil)))))
  (Evl.pss_cut (ps_set (i := 8) sc_law.nd rfl (Or.inl rfl) (pe_tup (pa_cons (pe_tup (pa_cons (pe_op op_add (pv 13) pe_int) (pa_cons (pv 14) pa_nil))) (pa_cons (pe_tup (pa_cons (pe_op op_sub (pv 13) pe_int) (pa_cons (pv 14) pa_nil))) (pa_cons (pe_tup (pa_cons (pv 13) (pa_cons (pe_op op_add (pv 14) pe_int) pa_nil))) (pa_cons (pe_tup (pa_cons (pv 13) (pa_cons (pe_op op_sub (pv 14) pe_int) pa_nil))) pa_nil))))))
  (Evl.pss_cut (ps_if (PW.pt (pw_or (pt_cmpR op_ne (pe_callB (cr_repr gd hu2 off0) (by rfl) T.z_repr (by decide +kernel) (pa_cons (pe_call G_around hr1 rfl T.g_around T.F_around.kp (b_around T) .nil (passes_call LamX.takes0 (fun _ _ _ _ h => h)) (pa_cons (pv 5) pa_nil)) pa_nil)) (pe_callB (cr_repr gd hu2 off0) (by rfl) T.z_repr (by decide +kernel) (pa_cons (pv 8) pa_nil)) (nomark _)) (pw_or1 (pt_cmpR op_ne (pe_callB (cr_repr gd hu2 off0) (by rfl) T.z_repr (by decide +kernel) (pa_cons (pe_callKW G_around hr1 rfl T.g_around T.F_around.kp (kb_around_square T) (passes_call LamX.takes0 (fun _ _ _ _ h => h)) (pk_cons (pv 5) pk_nil)) pa_nil)) (pe_callB (cr_repr gd hu2 off0) (by rfl) T.z_repr (by decide +kernel) (pa_cons (pv 8) pa_nil)) (nomark _))))) (pss_one (ps_ret pe_bl)) pss_nil)
  (pss_one (ps_if (PW.pt (pw_or (pt_cmpR (op_neNil hu2) (pe_lc (own := [("each", 15)]) (g := (gName 15)) rfl sc_law.nd (pi_tup (pv 8)) (blkOk_by (own := [("each", 15)]) (N := ["script", "tub", "turn", "some", "spot", "square", "passed", "kept", "due", "told", "at", "bent", "value", "x", "y", "each"]) (sc := defScope s_law) (by decide +kernel)) (fun _ _ _ _ _ => (pg_name (i := 15) sc_law.nd rfl (Or.inl rfl))) (fun _ _ _ _ _ => (pts_one (pt_cmpR (show OpR _ _ (rNotInT K) from op_notInT hu65) (pe_tup (pa_cons (pv 13) (pa_cons (pv 14) pa_nil))) (pe_call G_around hr1 rfl T.g_around T.F_around.kp (b_around T) .nil (passes_call LamX.takes0 (fun _ _ _ _ h => h)) (pa_cons (pv 15) pa_nil)) (by rfl)))) (fun _ _ _ _ _ => (pv 15))) (pe_lst pa_nil) (nomark _)) (pw_or1 (pt_cmpR (op_neD hu2) (pe_w_heard T TB hcode hr2 rfl (LamX.lamS_by (show LamX.lamSB (defScope s_law) _ = true from by decide +kernel)) rfl (fun _ _ _ _ _ => rfl) (fun A outer s H E f c' hr1 => (pe_call G_around hr1 rfl T.g_around T.F_around.kp (b_around T) .nil (passes_call (takes_of rfl rfl rfl rfl) (fun _ _ _ _ h => h)) (pa_cons (pe_call G_w_odd hr1 rfl T.g_w_odd T.F_w_odd.kp (b_w_odd T) .nil pass0 (pa_cons (pv 1) pa_nil)) pa_nil)))) (pe_tup (pa_cons pe_str (pa_cons pe_str pa_nil))) (nomark _))))) (pss_one (ps_ret pe_bl)) pss_nil)))))))))))))))))))
  (pss_one (ps_ret (pe_and (pe_cmpR (op_eqD hu2) (pe_call G_squares_of hr1 rfl T.g_squares_of T.F_squares_of.kp (b_squares_of T) .nil (passes_call LamX.takes0 (fun _ _ _ _ h => h)) (pa_cons (pe_lst pa_nil) pa_nil)) (pe_tup pa_nil) (nomark _)) (pe_one (pe_cmpR (op_eqD hu2) (pe_call G_squares_of hr1 rfl T.g_squares_of T.F_squares_of.kp (b_squares_of T) .nil (passes_call LamX.takes0 (fun _ _ _ _ h => h)) (pa_cons (pe_tup pa_nil) pa_nil)) (pe_tup pa_nil) (nomark _)))))))), ?_⟩
    walk_at "rd"
    refine ⟨a, ns, rfl, en.script, hl, fun j B0 H1 hj e1 eB u => ?_⟩
    have u := u.noT
    generalize hB : noT B0 = B at u
    have uX : ∀ {b : Nat} {H' H'' : Hp}, Urn K B j b H' → LamX.ExtN H' H'' → Urn K B j b H'' := by
      subst hB
      exact fun u e => u.extN e
    have sys1 : Sys H1 := en.sys.mono e1
    have tab1 : LamX.Tabs [(p, q)] H1 := by
      intro r hr
      rw [List.mem_singleton.mp hr]
      exact LamX.TabS.nil (e1 _ _ (en.tabs (c, p) (List.mem_singleton.mpr rfl)))
    have nsys : sysModules ≠ j := fun e => by
      obtain ⟨o, φ, h⟩ := en.sys
      rw [e, hj] at h; cases h
    have sysG : ∀ {H' H'' : Hp}, Sys H' → Go j H' H'' → Sys H'' := fun {H' H''} h g => by
      obtain ⟨o, φ, h⟩ := h
      exact ⟨o, φ, g _ _ nsys h⟩
    have tabG : ∀ {b : Nat} {H' H'' : Hp}, Urn K B j b H' → LamX.Tabs [(p, q)] H' → Go j H' H'' → LamX.Tabs [(p, q)] H'' := fun {b H' H''} u t g => by
      obtain ⟨c', ns', a', r', h, _⟩ := u.it
      exact Tabs.go t h g
    clear e1 eB
    walk_at "rd"
    refine (for_range (n := 3) (lo := 0) (fun i σ H' => Urn K B j (1000 - 200 * i) H' ∧ Sys H' ∧ LamX.Tabs [(p, q)] H' ∧ ∃ x2 x3 x4 x5 x6 x7 x8 x9 x10 x11 x12 x13 x14 x15, σ = [some (.ref a), some (.ref j), x2, x3, x4, x5, x6, x7, x8, x9, x10, x11, x12, x13, x14, x15])
      ⟨u.less (by decide), sys1, tab1, _, _, _, _, _, _, _, _, _, _, _, _, _, _, rfl⟩ ?_ ?_)
    · rintro i σ H2 hi ⟨u2, sys2, tab2, x2, x3, x4, x5, x6, x7, x8, x9, x10, x11, x12, x13, x14, x15, rfl⟩
      clear u sys1 tab1 hj nsys
      have bud : 1000 - 200 * i = (1000 - 200 * (i + 1)) + 200 := by omega
      rw [bud] at u2
      generalize 1000 - 200 * (i + 1) = b at u2 ⊢
      refine ⟨fun σ' H' => ∃ D, σ' = [some (.ref a), some (.ref j), some (.int (0 + (i : Int))), some (.ref D), x4, x5, x6, x7, x8, x9, x10, x11, x12, x13, x14, x15] ∧ Go j H2 H' ∧ Urn K B j (b + 200) H' ∧ H2 D = none ∧ H' D = some (.lst []), ?_, ?_⟩
      · --S
        walk_at "rd"
        intro D hD
        have e := Evl.Ex.new (o := .lst []) hD
        exact ⟨D, rfl, Go.of e, u2.ex e, hD, upd_same⟩
      --E
      rintro σ' H3 ⟨D, rfl, g3, u3, nD2, hD3⟩
      have nDj : D ≠ j := u2.ne nD2
      refine ⟨fun σ' H' => ∃ y4 y5 xs zs, σ' = [some (.ref a), some (.ref j), some (.int (0 + (i : Int))), some (.ref D), y4, y5, x6, x7, x8, x9, x10, x11, x12, x13, x14, x15] ∧ Go j H2 H' ∧ Urn K B j (b + 170) H' ∧ Sm j D xs zs H' ∧ zs.length ≤ 7, ?_, ?_⟩
      · --S
        walk_at "rd"
        rintro r H4 r0 r1 g4 u4
        refine ⟨r, rfl, by omega, by omega, for_range (n := r.toNat) (lo := 0) (fun m σ' H' => ∃ y4 y5 xs zs, σ' = [some (.ref a), some (.ref j), some (.int (0 + (i : Int))), some (.ref D), y4, y5, x6, x7, x8, x9, x10, x11, x12, x13, x14, x15] ∧ Go j H2 H' ∧ Urn K B j (b + 170 + 4 * (7 - m)) H' ∧ Sm j D xs zs H' ∧ zs.length ≤ m)
          ⟨_, _, [], [], rfl, g3.trans g4, u4.less (by omega), ⟨g4 _ _ nDj hD3, .nil, List.nodup_nil, by simp⟩, by simp⟩ ?_ ?_⟩
        · rintro m σ' H5 hm ⟨y4, y5, xs, zs, rfl, g5, u5, sm5, l5⟩
          have u5' := u5.less (b' := b + 170 + 4 * (7 - (m + 1)) + 4) (by omega)
          walk_at "rd"
          rintro t x y H6 hx hy nt ht g6 u6
          have sm6 := sm5.go nDj g6
          have plH : PL H6 xs zs := sm6.pl.mono ((off_sub D _).trans (off_sub j _))
          walk_at "rd"
          refine ⟨pairT (x, y), zs.map pairT, .tup (SqT.of ht) (.cons (.int _) (.cons (.int _) .nil)), .lst (SqL.of sm6.it) plH.dp, pairT_shaped _, pairTs_shaped _, ?_⟩
          rw [pairTs_any]
          have u6' := u6.less (b' := b + 170 + 4 * (7 - (m + 1))) (by omega)
          have lx := plH.len
          refine ⟨_, rfl, ?_⟩
          refine ifB (fun c1 => ?_) (fun c1 => ?_)
          · have nin : (x, y) ∉ zs := by simpa using c1
            walk_at "rd"
            refine ⟨Or.inl ⟨rfl, _, SqL.of sm6.it⟩, ?_⟩
            walk_at "rd"
            have pos : zs.length < 60 := by omega
            refine ⟨D, xs, .ref t, rfl, rfl, sm6.it, by rw [small]; omega, ?_⟩
            refine ⟨_, _, xs ++ [.ref t], zs ++ [(x, y)], rfl, Go.mut (g5.trans g6) nD2, u6'.mut u2 nD2, ⟨upd_same, ?_, ?_, ?_⟩, ?_⟩
            · have ht' : off D (off j H6) t = some (.tup [.int x, .int y]) := off_at (fun e => by rw [e, sm5.it] at nt; cases nt) (off_at (u5.ne nt) ht)
              exact (PL.app (.cons ht' .nil) sm6.pl).mono off_upd
            · rw [List.nodup_append]
              exact ⟨sm6.nd, by simp, fun z hz w hw e => by
                rw [List.mem_singleton] at hw
                exact nin (hw ▸ e ▸ hz)⟩
            · intro z hz
              rcases List.mem_append.mp hz with hz | hz
              · exact sm6.sm z hz
              · rw [List.mem_singleton.mp hz]; exact ⟨hx, hy⟩
            · rw [List.length_append, List.length_singleton]; omega
          · walk_at "rd"
            exact ⟨_, _, xs, zs, rfl, g5.trans g6, u6', sm6, by omega⟩
        · rintro σ' H5 ⟨y4, y5, xs, zs, rfl, g5, u5, sm5, l5⟩
          exact ⟨_, _, xs, zs, rfl, g5, u5.less (by omega), sm5, by omega⟩
      --E
      rintro σ' H4 ⟨y4, y5, xs, zs, rfl, g4, u4, sm4, l4⟩
      clear g3 u3 hD3
      refine ⟨fun σ' H' => ∃ E vs ds, σ' = [some (.ref a), some (.ref j), some (.int (0 + (i : Int))), some (.ref D), y4, y5, some (.ref E), x7, x8, x9, x10, x11, x12, x13, x14, x15] ∧ Go j H4 H' ∧ Urn K B j (b + 150) H' ∧ H' E = some (.lst vs) ∧ E ≠ j ∧ DaAll K (off E (off j H')) vs ds ∧ Prs zs ds, ?_, ?_⟩
      · --S
        walk_at "rd"
        refine ⟨⟨_, SqL.of sm4.it⟩, fun E hE => ?_⟩
        have eE := Evl.Ex.new (o := .lst []) hE
        have lx := sm4.pl.len
        refine lc_list (K := K) (a := D) (xs := xs) (fun m H' => Go j H4 H' ∧ Urn K B j (b + 150 + 2 * (7 - m)) H' ∧ ∃ vs ds, H' E = some (.lst vs) ∧ DaAll K (off E (off j H')) vs ds ∧ Prs (zs.take m) ds)
          ⟨Go.of eE, (u4.less (by omega)).ex eE, [], [], upd_same, .nil, Prs.nil⟩ (fun m H' _ q => SqL.of (q.1 D _ nDj sm4.it)) ?_ ?_
        · rintro m v H5 hv ⟨q1, q2, vs, ds, q3, q4, q5⟩
          obtain ⟨t, z, rfl, hz, ht⟩ := sm4.pl.at hv
          have lt := (List.getElem?_eq_some_iff.mp hv).1
          have q2' := q2.less (b' := b + 150 + 2 * (7 - (m + 1)) + 1) (by omega)
          have sz := sm4.sm z (List.mem_of_getElem? hz)
          have fz := fit_pairs sz.1 sz.2
          refine ⟨rfl, ?_⟩
          walk_at "rd"
          rintro r H6 r0 r1 g6 u6
          have htj : t ≠ j := fun e => by
            rw [e, off_ne (Ne.symm nDj)] at ht
            rw [show off j H4 j = none from if_pos rfl] at ht; cases ht
          have ht4 : H4 t = some (.tup [.int z.1, .int z.2]) := off_sub j _ _ _ (off_sub D _ _ _ ht)
          have ht6 := (q1.trans g6) t _ htj ht4
          have hE6 := g6 E _ (u4.ne hE) q3
          have q4' : DaAll K (off E (off j H6)) vs ds := DaAll.mono (Go.ex (j := E) (Go.of g6.ex)) ds q4
          have nte : t ≠ E := fun e => by rw [← e, ht4] at hE; cases hE
          have lv := q4.len
          have l5 := q5.len
          rw [List.length_take] at l5
          walk_at "rd"
          refine ifB (fun c1 => ?_) (fun c1 => ?_)
          · walk_at "rd"
            intro l hl
            have el := Evl.Ex.new (o := .lst [.int z.1, .int z.2]) hl
            have nlE : l ≠ E := fun e => by rw [e, hE6] at hl; cases hl
            refine ⟨vs, el E _ hE6, by omega, Go.mut ((q1.trans g6).trans (Go.of el)) hE, (u6.ex el).mut u4 hE, vs ++ [.ref l], ds ++ [pairL z], upd_same, ?_, ?_⟩
            · exact DaAll.mono off_upd _ (DaAll.app (DaAll.mono (Go.ex (j := E) (Go.of (Go.of el).ex)) ds q4') (.cons (.lst (SqL.of (off_at nlE (off_at (u6.ne hl) upd_same))) (.cons (.int _) (.cons (.int _) .nil))) .nil))
            · rw [take_one hz]
              exact q5.snoc rfl ⟨fz.1.1, fz.2.1⟩
          · walk_at "rd"
            refine ⟨vs, hE6, by omega, Go.mut (q1.trans g6) hE, u6.mut u4 hE, vs ++ [.ref t], ds ++ [pairT z], upd_same, ?_, ?_⟩
            · exact DaAll.mono off_upd _ (DaAll.app q4' (.cons (.tup (SqT.of (off_at nte (off_at htj ht6))) (.cons (.int _) (.cons (.int _) .nil))) .nil))
            · rw [take_one hz]
              exact q5.snoc rfl ⟨fz.1.2, fz.2.2⟩
        · rintro H5 ⟨q1, q2, vs, ds, q3, q4, q5⟩
          rw [lx, List.take_length] at q5
          exact ⟨E, vs, ds, rfl, q1, q2.less (by omega), q3, u4.ne hE, q4, q5⟩
      --E
      rintro σ' H5 ⟨E, vs, ds, rfl, g5, u5, hE5, nEj, da5, prs⟩
      have few : ds.length ≤ 7 := by rw [prs.len]; exact l4
      refine ⟨fun σ' H' => ∃ pa pd, σ' = [some (.ref a), some (.ref j), some (.int (0 + (i : Int))), some (.ref D), y4, y5, some (.ref pa), x7, x8, x9, x10, x11, x12, x13, x14, x15] ∧ Go j H5 H' ∧ Urn K B j (b + 140) H' ∧ Da K (off j H') (.ref pa) pd ∧ (pd = .list ds ∨ pd = .tuple ds), ?_, ?_⟩
      · --S
        walk_at "rd"
        rintro r H6 r0 r1 g6 u6
        have hE6 := g6 E _ nEj hE5
        have da6 := DaAll.mono (Go.ex (j := E) (Go.of g6.ex)) ds da5
        walk_at "rd"
        refine ifB (fun c1 => ?_) (fun c1 => ?_)
        · walk_at "rd"
          refine ⟨E, _, rfl, Or.inl ⟨SqL.of hE6, fun t ht => ?_⟩⟩
          have et := Evl.Ex.new (o := .tup vs) ht
          walk_at "rd"
          exact ⟨_, .tuple ds, rfl, g6.trans (Go.of et), (u6.ex et).less (by omega), .tup (SqT.of (off_at (u6.ne ht) upd_same)) (DaAll.mono ((off_sub E _).trans (Go.of et).ex) ds da6), .inr rfl⟩
        · walk_at "rd"
          exact ⟨_, .list ds, rfl, g6, u6.less (by omega), .lst (SqL.of (off_at nEj hE6)) (DaAll.mono (off_sub E _) ds da6), .inl rfl⟩
      --E
      rintro σ' H6 ⟨pa, pd, rfl, g6, u6, dp6, pds⟩
      have gA : Go j H4 H6 := g5.trans g6
      have sm6 := sm4.go nDj gA
      have sys6 : Sys H6 := sysG sys2 (g4.trans gA)
      have tab6 : LamX.Tabs [(p, q)] H6 := tabG u2 tab2 (g4.trans gA)
      clear sm4 g4 g5 g6 gA u4 u5 da5 hE5 sys2 tab2
      have fp := prs.seq l4 pds
      have spd : seqOf pd = some ds := by rcases pds with rfl | rfl <;> rfl
      have are : areSq pd = true := by
        unfold areSq
        rw [spd]
        exact prs.are sm6.nd
      have hDp : Da K H6 (.ref pa) pd := Da.mono (off_sub j _) pd dp6
      refine ⟨fun σ' H' => σ' = [some (.ref a), some (.ref j), some (.int (0 + (i : Int))), some (.ref D), y4, y5, some (.ref pa), some (.str pd.shown), x8, x9, x10, x11, x12, x13, x14, x15] ∧ H' = H6, ?_, ?_⟩
      · --S
        walk_at "rd"
        exact ⟨fp.1.sh, fp.1.line (by decide), by have := fp.2; omega, rfl, rfl⟩
      --E
      rintro σ' H6 ⟨rfl, rfl⟩
      have plH : PL H6 xs zs := sm6.pl.mono ((off_sub D _).trans (off_sub j _))
      refine ⟨fun σ' H' => ∃ t us ys, σ' = [some (.ref a), some (.ref j), some (.int (0 + (i : Int))), some (.ref D), y4, y5, some (.ref pa), some (.str pd.shown), some (.ref t), x9, x10, x11, x12, x13, x14, x15] ∧ Ex H6 H' ∧ H' t = some (.tup ys) ∧ PL H' ys us ∧ us.Pairwise pLt ∧ us.Perm zs, ?_, ?_⟩
      · --S
        walk_at "rd"
        refine ⟨D, xs, zs, rfl, SqL.of sm6.it, plH, sm6.nd, by omega, fun l ys us H7 e7 hl h7 pl7 pw pm => ?_⟩
        walk_at "rd"
        refine ⟨l, _, rfl, Or.inl ⟨SqL.of h7, fun t ht => ?_⟩⟩
        have et := Evl.Ex.new (o := .tup ys) ht
        exact ⟨t, us, ys, rfl, e7.trans et, upd_same, pl7.mono et, pw, pm⟩
      --E
      rintro σ' H7 ⟨t, us, ys, rfl, e7, ht7, pl7, pw, pm⟩
      have fewP : ∀ ds', seqOf pd = some ds' → ds'.length < 60 := by
        intro ds' h
        rw [spd] at h; cases h; omega
      refine ⟨fun σ' H' => ∃ t2 ys2, σ' = [some (.ref a), some (.ref j), some (.int (0 + (i : Int))), some (.ref D), y4, y5, some (.ref pa), some (.str pd.shown), some (.ref t), some (.ref t2), x10, x11, x12, x13, x14, x15] ∧ Ex H7 H' ∧ H' t2 = some (.tup ys2) ∧ PL H' ys2 us, ?_, ?_⟩
      · --S
        walk_at "rd"
        refine .inl ⟨_, pd, rfl, Da.mono e7 pd hDp, fewP, ?_, fun no => by rw [are] at no; cases no⟩
        intro ds' _ sp T2 zs2 k2 H8 e8 hT2 h8 pl8 pm8 srt
        rw [spd] at sp; cases sp
        rw [prs.prs] at pm8
        have one := ordered_one srt pm8 sm6.nd pw pm
        refine ⟨T2, zs2, rfl, e8, h8, ?_⟩
        rw [one] at pl8
        exact pl8.mono fun a o h => (neu_of h).2
      --E
      rintro σ' H8 ⟨t2, ys2, rfl, e8, h8, pl8⟩
      have smU : ∀ z ∈ us, z.1.natAbs ≤ 10 ^ 60 ∧ z.2.natAbs ≤ 10 ^ 60 := fun z hz => sm6.sm z (pm.mem_iff.mp hz)
      have lU : us.length ≤ 7 := by rw [pm.length_eq]; exact l4
      have fu := (prs_tup smU).seq lU (.inr rfl)
      have e68 := e7.trans e8
      have hD8 : Da K H8 (.ref pa) pd := Da.mono e68 pd hDp
      have hU8 : Da K H8 (.ref t) (.tuple (us.map pairT)) := .tup (SqT.of (e8 _ _ ht7)) (pl7.mono e8).da
      have hT8 : Da K H8 (.ref t2) (.tuple (us.map pairT)) := .tup (SqT.of h8) pl8.da
      have sys8 : Sys H8 := Sys.mono e68 sys6
      refine ⟨fun σ' H' => σ' = [some (.ref a), some (.ref j), some (.int (0 + (i : Int))), some (.ref D), y4, y5, some (.ref pa), some (.str pd.shown), some (.ref t), some (.ref t2), x10, x11, x12, x13, x14, x15] ∧ Ex H8 H', ?_, ?_⟩
      · --S
        walk_at "rd"
        refine ⟨fu.1.sh, fu.1.line (by decide), by have := fu.2; omega, ?_⟩
        walk_at "rd"
        refine ⟨fu.1.sh, fu.1.line (by decide), by have := fu.2; omega, ?_⟩
        walk_at "rd"
        refine ifF (by simp) ?_
        walk_at "rd"
        rcases pds with rfl | rfl
        · obtain ⟨ws, sq8, da8⟩ : ∃ ws, SqL K H8 pa ws ∧ DaAll K H8 ws ds := by
            cases hD8 with
            | lst h1 h2 => exact ⟨_, h1, h2⟩
          refine ⟨pa, ws, rfl, .inl ⟨sq8, fun p9 hp9 => ?_⟩⟩
          have eR := Evl.Ex.new (o := .lst ws.reverse) hp9
          have dR : Da K (upd H8 p9 (.lst ws.reverse)) (.ref p9) (.list ds.reverse) := .lst (SqL.of upd_same) (DaAll.mono eR _ (da_reverse da8))
          have sR : seqOf (.list ds.reverse) = some ds.reverse := rfl
          generalize upd H8 p9 (.lst ws.reverse) = H9 at eR dR ⊢
          generalize PyData.list ds.reverse = rd at dR sR
          have areR : areSq rd = true := by
            unfold areSq
            rw [sR]
            exact prs.rev.are (List.pairwise_reverse.mpr (sm6.nd.imp fun h => Ne.symm h))
          refine .inl ⟨_, rd, rfl, dR, fun ds' h => by rw [sR] at h; cases h; rw [List.length_reverse]; omega, ?_, fun no => by rw [areR] at no; cases no⟩
          intro ds' _ sp T3 zs3 k3 H10 e10 hT3 h10 pl10 pm10 srt
          rw [sR] at sp; cases sp
          rw [prs.rev.prs] at pm10
          have one := ordered_one srt (pm10.trans (List.reverse_perm _)) sm6.nd pw pm
          rw [one] at pl10
          have pl10' : PL H10 zs3 us := pl10.mono fun a o h => (neu_of h).2
          have hR10 : Da K H10 (.ref T3) (.tuple (us.map pairT)) := .tup (SqT.of h10) pl10'.da
          have e810 := eR.trans e10
          have hU10 := Da.mono e810 _ hU8
          have hD10 := Da.mono e810 _ hD8
          have sys10 := Sys.mono e810 sys8
          walk_at "rd"
          refine ⟨fu.1.sh, fu.1.line (by decide), by have := fu.2; omega, ?_⟩
          walk_at "rd"
          refine ⟨fu.1.sh, fu.1.line (by decide), by have := fu.2; omega, ?_⟩
          walk_at "rd"
          refine ifF (by simp) ?_
          walk_at "rd"
          refine ⟨fp.1.sh, fp.1.line (by decide), by have := fp.2; omega, ?_⟩
          walk_at "rd"
          refine ifF (by simp) ?_
          walk_at "rd"
          exact e810
        · obtain ⟨ws, sq8, da8⟩ : ∃ ws, SqT K H8 pa ws ∧ DaAll K H8 ws ds := by
            cases hD8 with
            | tup h1 h2 => exact ⟨_, h1, h2⟩
          refine ⟨pa, ws, rfl, .inr ⟨sq8, fun p9 hp9 => ?_⟩⟩
          have eR := Evl.Ex.new (o := .tup ws.reverse) hp9
          have dR : Da K (upd H8 p9 (.tup ws.reverse)) (.ref p9) (.tuple ds.reverse) := .tup (SqT.of upd_same) (DaAll.mono eR _ (da_reverse da8))
          have sR : seqOf (.tuple ds.reverse) = some ds.reverse := rfl
          generalize upd H8 p9 (.tup ws.reverse) = H9 at eR dR ⊢
          generalize PyData.tuple ds.reverse = rd at dR sR
          have areR : areSq rd = true := by
            unfold areSq
            rw [sR]
            exact prs.rev.are (List.pairwise_reverse.mpr (sm6.nd.imp fun h => Ne.symm h))
          refine .inl ⟨_, rd, rfl, dR, fun ds' h => by rw [sR] at h; cases h; rw [List.length_reverse]; omega, ?_, fun no => by rw [areR] at no; cases no⟩
          intro ds' _ sp T3 zs3 k3 H10 e10 hT3 h10 pl10 pm10 srt
          rw [sR] at sp; cases sp
          rw [prs.rev.prs] at pm10
          have one := ordered_one srt (pm10.trans (List.reverse_perm _)) sm6.nd pw pm
          rw [one] at pl10
          have pl10' : PL H10 zs3 us := pl10.mono fun a o h => (neu_of h).2
          have hR10 : Da K H10 (.ref T3) (.tuple (us.map pairT)) := .tup (SqT.of h10) pl10'.da
          have e810 := eR.trans e10
          have hU10 := Da.mono e810 _ hU8
          have hD10 := Da.mono e810 _ hD8
          have sys10 := Sys.mono e810 sys8
          walk_at "rd"
          refine ⟨fu.1.sh, fu.1.line (by decide), by have := fu.2; omega, ?_⟩
          walk_at "rd"
          refine ⟨fu.1.sh, fu.1.line (by decide), by have := fu.2; omega, ?_⟩
          walk_at "rd"
          refine ifF (by simp) ?_
          walk_at "rd"
          refine ⟨fp.1.sh, fp.1.line (by decide), by have := fp.2; omega, ?_⟩
          walk_at "rd"
          refine ifF (by simp) ?_
          walk_at "rd"
          exact e810
      --E
      rintro σ' H9 ⟨rfl, e9⟩
      have e69 := e68.trans e9
      have hD9 : Da K H9 (.ref pa) pd := Da.mono e9 pd hD8
      have dp9 : Da K (off j H9) (.ref pa) pd := Da.mono (Go.of e69).ex pd dp6
      have sm9 := sm6.go nDj (Go.of e69)
      have u9 := u6.ex e69
      have sys9 := Sys.mono e69 sys6
      have tab9 : LamX.Tabs [(p, q)] H9 := LamX.Tabs.ext tab6 e69
      clear hU8 hT8 hD8 hDp dp6 sm6 u6 sys6 tab6 sys8 e68 e69 e9 e7 e8 plH h8 pl8 pl7 ht7 fu lU smU pw pm fewP
      have nz := prs.len
      refine ⟨fun σ' H' => ∃ n : Nat, σ' = [some (.ref a), some (.ref j), some (.int (0 + (i : Int))), some (.ref D), y4, y5, some (.ref pa), some (.str pd.shown), some (.ref t), some (.ref t2), some (.int (n : Int)), x11, x12, x13, x14, x15] ∧ Go j H9 H' ∧ Urn K B j (b + 130) H' ∧ n ≤ ds.length, ?_, ?_⟩
      · --S
        have it9 := sm9.it
        have lx := sm9.pl.len
        walk_at "rd"
        refine ⟨j, B, b + 139, _, rfl, by omega, ?_, u9.less (by omega), fun r H10 r0 r1 g10 u10 => ?_⟩
        · exact Nat.lt_of_le_of_lt (Nat.log2_le_self _) (by omega)
        walk_at "rd"
        obtain ⟨n, rfl⟩ : ∃ n : Nat, r = n := ⟨r.toNat, by omega⟩
        exact ⟨n, rfl, g10, u10.less (by omega), by omega⟩
      --E
      rintro σ' H10 ⟨n, rfl, g10, u10, hn⟩
      have dp10 : Da K (off j H10) (.ref pa) pd := Da.mono g10.ex pd dp9
      have sm10 := sm9.go nDj g10
      have sys10 := sysG sys9 g10
      have tab10 := tabG u9 tab9 g10
      have hD10 := Da.mono (off_sub j _) pd dp10
      clear hD9 dp9 sm9 u9 sys9 tab9 g10
      refine ⟨fun σ' H' => ∃ L v1, σ' = [some (.ref a), some (.ref j), some (.int (0 + (i : Int))), some (.ref D), y4, y5, some (.ref pa), some (.str pd.shown), some (.ref t), some (.ref t2), some (.int (n : Int)), some (.ref L), x12, x13, x14, x15] ∧ Go j H10 H' ∧ Urn K B j (b + 120) H' ∧ H10 L = none ∧ Bn K j L [v1] H', ?_, ?_⟩
      · --S
        walk_at "rd"
        refine slice_to dp10 (off_sub j _) spd fun p1 H11 w1 e11 s1 d1 => ?_
        refine ⟨p1, w1, rfl, s1, fun l1 hl1 => ?_⟩
        have el1 : Ex H11 (upd H11 l1 (.lst w1)) := Evl.Ex.new hl1
        have al1 : upd H11 l1 (.lst w1) l1 = some (.lst w1) := upd_same
        generalize upd H11 l1 (.lst w1) = H12 at el1 al1 ⊢
        have u12 : Urn K B j (b + 129 + 1) H12 := (u10.ex e11).ex el1
        walk_at "rd"
        rintro vo od H13 hod dov g13 u13
        walk_at "rd"
        intro l2 hl2
        have el2 : Ex H13 (upd H13 l2 (.lst [vo])) := Evl.Ex.new hl2
        have al2 : upd H13 l2 (.lst [vo]) l2 = some (.lst [vo]) := upd_same
        generalize upd H13 l2 (.lst [vo]) = H14 at el2 al2 ⊢
        have nl1 : l1 ≠ j := (u10.ex e11).ne hl1
        have lw1 := d1.len
        rw [List.length_take] at lw1
        refine ⟨l1, l2, w1, [vo], rfl, rfl, el2 _ _ (g13 _ _ nl1 al1), al2, by rw [small, List.length_singleton]; omega, fun l3 hl3 => ?_⟩
        have el3 : Ex H14 (upd H14 l3 (.lst (w1++[vo]))) := Evl.Ex.new hl3
        have al3 : upd H14 l3 (.lst (w1++[vo])) l3 = some (.lst (w1++[vo])) := upd_same
        generalize upd H14 l3 (.lst (w1++[vo])) = H15 at el3 al3 ⊢
        have g15 : Go j H10 H15 := ((Go.of (e11.trans el1)).trans g13).trans (Go.of (el2.trans el3))
        have dp15 := Da.mono g15.ex pd dp10
        have u15 : Urn K B j (b + 129) H15 := (u13.ex el2).ex el3
        walk_at "rd"
        refine slice_from dp15 (off_sub j _) spd hn fun p2 H16 w2 e16 s2 d2 => ?_
        refine ⟨p2, w2, rfl, s2, fun l4 hl4 => ?_⟩
        have el4 : Ex H16 (upd H16 l4 (.lst w2)) := Evl.Ex.new hl4
        have al4 : upd H16 l4 (.lst w2) l4 = some (.lst w2) := upd_same
        generalize upd H16 l4 (.lst w2) = H17 at el4 al4 ⊢
        have lw2 := d2.len
        rw [List.length_drop] at lw2
        refine ⟨l3, l4, w1 ++ [vo], w2, rfl, rfl, el4 _ _ (e16 _ _ al3), al4, by rw [small, List.length_append, List.length_singleton]; omega, fun l5 hl5 => ?_⟩
        have el5 : Ex H17 (upd H17 l5 (.lst (w1++[vo]++w2))) := Evl.Ex.new hl5
        have al5 : upd H17 l5 (.lst (w1++[vo]++w2)) l5 = some (.lst (w1++[vo]++w2)) := upd_same
        generalize upd H17 l5 (.lst (w1++[vo]++w2)) = H18 at el5 al5 ⊢
        walk_at "rd"
        intro L hL
        have e1518 := (e16.trans el4).trans el5
        have u18 := u15.ex e1518
        have eL := Evl.Ex.new (o := .lst [.ref l5]) hL
        have g18 : Go j H10 H18 := g15.trans (Go.of e1518)
        have nl5 : l5 ≠ j := ((u15.ex e16).ex el4).ne hl5
        have dl5 : Da K (off j H18) (.ref l5) (.list (ds.take n ++ [od] ++ ds.drop n)) :=
          .lst (SqL.of (off_at nl5 al5)) (DaAll.app (DaAll.app (DaAll.mono g18.ex _ d1) (.cons (Da.mono ((neu_off u12.there).trans (Go.of ((el2.trans el3).trans e1518)).ex) _ dov) .nil)) (DaAll.mono (Go.of e1518).ex _ d2))
        refine ⟨L, .ref l5, rfl, g18.trans (Go.of eL), (u18.ex eL).less (by omega), u18.back g18 hL, ⟨upd_same, fun v hv => ?_⟩⟩
        rw [List.mem_singleton.mp hv]
        refine ⟨_, Da.mono (off_new hL) _ dl5, bent_one (odd_no od hod), fun es h => ?_⟩
        cases h
        simp only [List.length_append, List.length_take, List.length_drop, List.length_singleton]
        omega
      --E
      rintro σ' H11 ⟨L, v1, rfl, g11, u11, nL, bn11⟩
      have nLj : L ≠ j := u10.ne nL
      refine ⟨fun σ' H' => ∃ vs, σ' = [some (.ref a), some (.ref j), some (.int (0 + (i : Int))), some (.ref D), y4, y5, some (.ref pa), some (.str pd.shown), some (.ref t), some (.ref t2), some (.int (n : Int)), some (.ref L), x12, x13, x14, x15] ∧ Go j H10 H' ∧ Urn K B j (b + 110) H' ∧ Bn K j L vs H' ∧ vs.length ≤ 2, ?_, ?_⟩
      · --S
        walk_at "rd"
        intro l0 hl0
        have el0 : Ex H11 (upd H11 l0 (.lst [])) := Evl.Ex.new hl0
        have al0 : upd H11 l0 (.lst []) l0 = some (.lst []) := upd_same
        generalize upd H11 l0 (.lst []) = H12 at el0 al0 ⊢
        have g12 : Go j H10 H12 := g11.trans (Go.of el0)
        have u12 := u11.ex el0
        have bn12 := bn11.go nLj (Go.of el0)
        have sm12 := sm10.go nDj g12
        have dp12 := Da.mono g12.ex pd dp10
        refine ⟨D, l0, xs, rfl, rfl, SqL.of sm12.it, SqL.of al0, ?_⟩
        refine ⟨_, rfl, ?_⟩
        refine ifB (fun c1 => ?_) (fun c1 => ?_)
        · walk_at "rd"
          refine ⟨Or.inl ⟨rfl, _, SqL.of bn12.it⟩, ?_⟩
          walk_at "rd"
          refine slice_to dp10 (g12.ex.trans (off_sub j _)) spd fun p1 H13 w1 e13 s1 d1 => ?_
          refine ⟨p1, w1, rfl, s1, fun l1 hl1 => ?_⟩
          have el1 : Ex H13 (upd H13 l1 (.lst w1)) := Evl.Ex.new hl1
          have al1 : upd H13 l1 (.lst w1) l1 = some (.lst w1) := upd_same
          generalize upd H13 l1 (.lst w1) = H14 at el1 al1 ⊢
          have g14 : Go j H10 H14 := g12.trans (Go.of (e13.trans el1))
          have u14 : Urn K B j (b + 119 + 1) H14 := (u12.ex e13).ex el1
          have sm14 := sm12.go nDj (Go.of (e13.trans el1))
          have it14 := sm14.it
          have lx := sm14.pl.len
          have xs0 : 0 < xs.length := by
            cases xs with
            | nil => cases c1
            | cons _ _ => simp
          walk_at "rd"
          refine ⟨j, B, b + 119, _, rfl, by omega, ?_, u14, fun r H15 r0 r1 g15 u15 => ?_⟩
          · exact Nat.lt_of_le_of_lt (Nat.log2_le_self _) (by omega)
          obtain ⟨m, rfl⟩ : ∃ m : Nat, r = m := ⟨r.toNat, by omega⟩
          have hm : m < xs.length := by omega
          have sm15 := sm14.go nDj g15
          have hv : xs[m]? = some xs[m] := List.getElem?_eq_getElem hm
          generalize xs[m] = v at hv
          obtain ⟨tt, z, rfl, hz, htt⟩ := sm15.pl.at hv
          have htj : off j H15 tt = some (.tup [.int z.1, .int z.2]) := off_sub D _ _ _ htt
          have htH := off_sub j _ _ _ htj
          refine ⟨D, xs, m, .ref tt, rfl, rfl, SqL.of sm15.it, at_of (j := m) (by omega) hv, ?_⟩
          walk_at "rd"
          intro l6 hl6
          have el6 : Ex H15 (upd H15 l6 (.lst [.int z.1,.int z.2])) := Evl.Ex.new hl6
          have al6 : upd H15 l6 (.lst [.int z.1,.int z.2]) l6 = some (.lst [.int z.1,.int z.2]) := upd_same
          generalize upd H15 l6 (.lst [.int z.1,.int z.2]) = H16 at el6 al6 ⊢
          have u16 := u15.ex el6
          walk_at "rd"
          intro l2 hl2
          have el2 : Ex H16 (upd H16 l2 (.lst [.ref l6])) := Evl.Ex.new hl2
          have al2 : upd H16 l2 (.lst [.ref l6]) l2 = some (.lst [.ref l6]) := upd_same
          generalize upd H16 l2 (.lst [.ref l6]) = H17 at el2 al2 ⊢
          have nl1 : l1 ≠ j := (u12.ex e13).ne hl1
          have lw1 := d1.len
          rw [List.length_take] at lw1
          refine ⟨l1, l2, w1, [.ref l6], rfl, rfl, el2 _ _ (el6 _ _ (g15 _ _ nl1 al1)), al2, by rw [small, List.length_singleton]; omega, fun l3 hl3 => ?_⟩
          have el3 : Ex H17 (upd H17 l3 (.lst (w1++[.ref l6]))) := Evl.Ex.new hl3
          have al3 : upd H17 l3 (.lst (w1++[.ref l6])) l3 = some (.lst (w1++[.ref l6])) := upd_same
          generalize upd H17 l3 (.lst (w1++[.ref l6])) = H18 at el3 al3 ⊢
          have g18 : Go j H10 H18 := (g14.trans g15).trans (Go.of ((el6.trans el2).trans el3))
          have dp18 := Da.mono g18.ex pd dp10
          have u18 : Urn K B j (b + 119) H18 := (u16.ex el2).ex el3
          walk_at "rd"
          refine slice_from dp10 (g18.ex.trans (off_sub j _)) spd hn fun p2 H19 w2 e19 s2 d2 => ?_
          refine ⟨p2, w2, rfl, s2, fun l4 hl4 => ?_⟩
          have el4 : Ex H19 (upd H19 l4 (.lst w2)) := Evl.Ex.new hl4
          have al4 : upd H19 l4 (.lst w2) l4 = some (.lst w2) := upd_same
          generalize upd H19 l4 (.lst w2) = H20 at el4 al4 ⊢
          have lw2 := d2.len
          rw [List.length_drop] at lw2
          refine ⟨l3, l4, w1 ++ [.ref l6], w2, rfl, rfl, el4 _ _ (e19 _ _ al3), al4, by rw [small, List.length_append, List.length_singleton]; omega, fun l5 hl5 => ?_⟩
          have el5 : Ex H20 (upd H20 l5 (.lst (w1++[.ref l6]++w2))) := Evl.Ex.new hl5
          have al5 : upd H20 l5 (.lst (w1++[.ref l6]++w2)) l5 = some (.lst (w1++[.ref l6]++w2)) := upd_same
          generalize upd H20 l5 (.lst (w1++[.ref l6]++w2)) = H21 at el5 al5 ⊢
          have e1821 := (e19.trans el4).trans el5
          have u21 := u18.ex e1821
          have g21 : Go j H10 H21 := g18.trans (Go.of e1821)
          have nl5 : l5 ≠ j := ((u18.ex e19).ex el4).ne hl5
          have nl6 : l6 ≠ j := u15.ne hl6
          have e1621 := (el2.trans el3).trans e1821

          have bn15 : Bn K j L [v1] H15 := (bn12.go nLj (Go.of (e13.trans el1))).go nLj g15
          have nL6 : l6 ≠ L := fun e => by rw [e, bn15.it] at hl6; cases hl6
          have bn21 : Bn K j L [v1] H21 := bn15.go nLj (Go.of (el6.trans e1621))
          have nL5 : l5 ≠ L := fun e => by
            have := (bn15.go nLj (Go.of (el6.trans ((el2.trans el3).trans (e19.trans el4))))).it
            rw [← e, hl5] at this; cases this
          have up : Ex (off j H10) (off L (off j H21)) := fun x o h => by
            have n1 : x ≠ j := by
              rintro rfl
              rw [show off x H10 x = none from if_pos rfl] at h; cases h
            have h' := g21.ex x o h
            rw [off_ne n1] at h
            exact off_at (fun e => by rw [e, nL] at h; cases h) h'
          have d6 : Da K (off L (off j H21)) (.ref l6) (pairL z) := .lst (SqL.of (off_at nL6 (off_at nl6 (e1621 _ _ al6)))) (.cons (.int _) (.cons (.int _) .nil))
          have dl5 : Da K (off L (off j H21)) (.ref l5) (.list (ds.take n ++ [pairL z] ++ ds.drop n)) :=
            .lst (SqL.of (off_at nL5 (off_at nl5 al5))) (DaAll.app (DaAll.app (DaAll.mono up _ d1) (.cons d6 .nil)) (DaAll.mono up _ d2))
          walk_at "rd"
          refine ⟨L, [v1], .ref l5, rfl, rfl, bn21.it, by rw [small, List.length_singleton]; omega, ?_⟩
          refine ⟨[v1] ++ [.ref l5], rfl, Go.mut g21 nL, (u21.mut u10 nL).less (by omega), ⟨upd_same, fun v hv => ?_⟩, by simp⟩
          rcases List.mem_append.mp hv with hv | hv
          · obtain ⟨d, x1, x2⟩ := bn21.no v hv
            exact ⟨d, Da.mono off_upd d x1, x2⟩
          · rw [List.mem_singleton.mp hv]
            refine ⟨_, Da.mono off_upd _ dl5, ?_, fun es h => ?_⟩
            · obtain ⟨e, he, hz2⟩ : ∃ e ∈ ds, sqOf e = some z := by
                have : some z ∈ ds.map sqOf := by
                  rw [prs.sq]
                  exact List.mem_map.mpr ⟨z, List.mem_of_getElem? hz, rfl⟩
                obtain ⟨e, h1, h2⟩ := List.mem_map.mp this
                exact ⟨e, h1, h2⟩
              refine bent_two (e := e) (by rw [List.take_append_drop]; exact he) ?_
              rw [hz2]
              rfl
            · cases h
              simp only [List.length_append, List.length_take, List.length_drop, List.length_singleton]
              omega
        · walk_at "rd"
          exact ⟨[v1], rfl, g12, u12.less (by omega), bn12, by simp⟩
      --E
      rintro σ' H12 ⟨vs, rfl, g12, u12, bn12, lvs⟩
      have sys12 := sysG sys10 g12
      have tab12 := tabG u10 tab10 g12
      clear g11 u11 bn11 sm10 sys10 tab10 hD10 dp10 u10 g12 nL
      refine ⟨fun σ' H' => ∃ y12, σ' = [some (.ref a), some (.ref j), some (.int (0 + (i : Int))), some (.ref D), y4, y5, some (.ref pa), some (.str pd.shown), some (.ref t), some (.ref t2), some (.int (n : Int)), some (.ref L), y12, x13, x14, x15] ∧ Urn K B j (b + 110) H' ∧ Sys H' ∧ LamX.Tabs [(p, q)] H', ?_, ?_⟩
      · --S
        walk_at "rd"
        intro p1 hp1
        have ep1 : Ex H12 (upd H12 p1 (.dK [])) := Evl.Ex.new hp1
        have ap1 : upd H12 p1 (.dK []) p1 = some (.dK []) := upd_same
        generalize upd H12 p1 (.dK []) = H13 at ep1 ap1 ⊢
        intro p2 hp2
        have ex2 := Evl.Ex.new (o := .dT []) hp2
        walk_at "rd"
        intro t3 ht3
        have nt3 : p2 ≠ t3 := fun e => by rw [← e, upd_same] at ht3; cases ht3
        have ex3 := Evl.Ex.new (o := .tup [.int 0, .int 0]) ht3
        walk_at "rd"
        refine ⟨t3, [.inl 0, .inl 0], rfl, (upd_ne nt3).trans upd_same, upd_same, ?_⟩
        have e16 := Evl.Ex.mut (o := .dT [([.inl 0, .inl 0], .bl true)]) (ex2.trans ex3) hp2
        have ap16 : upd (upd (upd H13 p2 (.dT [])) t3 (.tup [.int 0, .int 0])) p2 (.dT [([.inl 0, .inl 0], .bl true)]) p2 = some (.dT [([.inl 0, .inl 0], .bl true)]) := upd_same
        generalize upd (upd (upd H13 p2 (.dT [])) t3 (.tup [.int 0, .int 0])) p2 (.dT [([.inl 0, .inl 0], .bl true)]) = H16 at e16 ap16 ⊢
        walk_at "rd"
        intro p3 hp3
        have ep3 : Ex H16 (upd H16 p3 (.lst [.non,.int 5,.str "",.ref p1,.ref p2,.bl true])) := Evl.Ex.new hp3
        have ap3 : upd H16 p3 (.lst [.non,.int 5,.str "",.ref p1,.ref p2,.bl true]) p3 = some (.lst [.non,.int 5,.str "",.ref p1,.ref p2,.bl true]) := upd_same
        generalize upd H16 p3 (.lst [.non,.int 5,.str "",.ref p1,.ref p2,.bl true]) = H17 at ep3 ap3 ⊢
        have nL12 := bn12.it
        have bn16 : H17 L = some (.lst vs) := ep3 _ _ (e16 _ _ (ep1 _ _ nL12))
        refine ⟨L, p3, vs, _, rfl, rfl, bn16, ap3, by rw [small]; simp only [List.length_cons, List.length_nil]; omega, fun p4 hp4 => ?_⟩
        have ep4 : Ex H17 (upd H17 p4 (.lst (vs++[.non,.int 5,.str "",.ref p1,.ref p2,.bl true]))) := Evl.Ex.new hp4
        have ap4 : upd H17 p4 (.lst (vs++[.non,.int 5,.str "",.ref p1,.ref p2,.bl true])) p4 = some (.lst (vs++[.non,.int 5,.str "",.ref p1,.ref p2,.bl true])) := upd_same
        generalize upd H17 p4 (.lst (vs++[.non,.int 5,.str "",.ref p1,.ref p2,.bl true])) = H18 at ep4 ap4 ⊢
        have e1218 := ((ep1.trans e16).trans ep3).trans ep4
        have kinds : ∀ v ∈ vs ++ [.non, .int 5, .str "", .ref p1, .ref p2, .bl true], (∃ d, Da K (noT H18) v d ∧ areSq d = false ∧ ∀ ds, seqOf d = some ds → ds.length < 60) ∨ ∃ a' kvs, v = .ref a' ∧ noT H18 a' = some (.dT kvs) := by
          intro v hv
          rcases List.mem_append.mp hv with hv | hv
          · obtain ⟨d, x1, x2⟩ := bn12.no v hv
            exact .inl ⟨d, Da.noT d (Da.mono (((off_sub L _).trans (off_sub j _)).trans e1218) d x1), x2⟩
          · simp only [List.mem_cons, List.not_mem_nil, or_false] at hv
            rcases hv with rfl | rfl | rfl | rfl | rfl | rfl
            · exact .inl ⟨_, .non, rfl, fun ds h => by cases h⟩
            · exact .inl ⟨_, .int 5, rfl, fun ds h => by cases h⟩
            · exact .inl ⟨_, .str _, rfl, fun ds h => by cases h⟩
            · exact .inl ⟨.dict [], .dct (kvs := []) (ds := []) (noT_at (((e16.trans ep3).trans ep4) _ _ ap1) fun ps z => nomatch z) .nil, rfl, fun ds h => by cases h⟩
            · exact .inr ⟨p2, _, rfl, noT_at ((ep3.trans ep4) _ _ ap16) fun ps z => nomatch z⟩
            · exact .inl ⟨_, .bl true, rfl, fun ds h => by cases h⟩
        have it18 : noT H18 p4 = some (.lst (vs ++ [.non, .int 5, .str "", .ref p1, .ref p2, .bl true])) := noT_at ap4 fun ps z => nomatch z
        generalize vs ++ [V.non, .int 5, .str "", .ref p1, .ref p2, .bl true] = ws at kinds it18 ap4 ⊢
        refine ⟨p4, rfl, ⟨_, SqL.of ap4⟩, for_list (K := K) (a := p4) (xs := ws) (fun m σ' H' => ∃ y12, σ' = [some (.ref a), some (.ref j), some (.int (0 + (i : Int))), some (.ref D), y4, y5, some (.ref pa), some (.str pd.shown), some (.ref t), some (.ref t2), some (.int (n : Int)), some (.ref L), y12, x13, x14, x15] ∧ Ex (noT H18) H' ∧ Urn K B j (b + 110) H' ∧ Sys H' ∧ LamX.Tabs [(p, q)] H')
          ⟨_, rfl, noT_sub _, u12.ex e1218, Sys.mono e1218 sys12, LamX.Tabs.ext tab12 e1218⟩ ?_ ?_ ?_⟩
        · rintro m σ' H' _ ⟨y12, _, w1, _⟩
          exact SqL.of (w1 _ _ it18)
        · rintro m v σ' H1 hv ⟨y12, rfl, w1, w2, w3, w4⟩
          walk_at "rd"
          intro H2 eN T2 E2 N2 hE hN
          walk_at "rd"
          have w12 := ex_extN w1 eN
          rcases kinds v (List.mem_of_getElem? hv) with ⟨d, dv, no, short⟩ | ⟨a', kvs, rfl, hd⟩
          · refine .inl ⟨v, d, rfl, Da.mono w12 d dv, short, fun ds yes => (by rw [no] at yes; cases yes), fun _ dx H3 e3 hdx h3 => hE _ _ _ ⟨dx, ?_⟩⟩
            refine ⟨"values", rfl, h3, .inr ⟨rfl, fun tt H4 e4 ht4 h4 => ?_⟩⟩
            have e24 := e3.trans e4
            walk_at "rd"
            intro t5 ht5
            have e5 := Evl.Ex.new (o := .tup [.str "squares", .str "values"]) ht5
            have at5 : upd H4 t5 (.tup [.str "squares", .str "values"]) t5 = some (.tup [.str "squares", .str "values"]) := upd_same
            refine ⟨.tuple [.str "squares", .str "values"], .tuple [.str "squares", .str "values"], .tup (SqT.of (e5 _ _ h4)) (.cons (.str _) (.cons (.str _) .nil)), .tup (SqT.of at5) (.cons (.str _) (.cons (.str _) .nil)), by decide +kernel, by decide +kernel, ?_⟩
            refine ⟨_, rfl, ?_⟩
            have e25 := e24.trans e5
            have f1 := w12.trans e25
            have f2 := (uX w2 eN).ex e25
            have f3 := Sys.mono e25 (Sys.extN w3 eN)
            have f4 := LamX.Tabs.ext T2 e25
            refine ifF (by decide +kernel) ?_
            exact ⟨_, rfl, f1, f2, f3, f4⟩
          · refine .inr ⟨a', kvs, rfl, w12 _ _ hd, fun dx H3 e3 hdx h3 => hE _ _ _ ⟨dx, ?_⟩⟩
            refine ⟨"values", rfl, h3, .inr ⟨rfl, fun tt H4 e4 ht4 h4 => ?_⟩⟩
            have e24 := e3.trans e4
            walk_at "rd"
            intro t5 ht5
            have e5 := Evl.Ex.new (o := .tup [.str "squares", .str "values"]) ht5
            have at5 : upd H4 t5 (.tup [.str "squares", .str "values"]) t5 = some (.tup [.str "squares", .str "values"]) := upd_same
            refine ⟨.tuple [.str "squares", .str "values"], .tuple [.str "squares", .str "values"], .tup (SqT.of (e5 _ _ h4)) (.cons (.str _) (.cons (.str _) .nil)), .tup (SqT.of at5) (.cons (.str _) (.cons (.str _) .nil)), by decide +kernel, by decide +kernel, ?_⟩
            refine ⟨_, rfl, ?_⟩
            have e25 := e24.trans e5
            have f1 := w12.trans e25
            have f2 := (uX w2 eN).ex e25
            have f3 := Sys.mono e25 (Sys.extN w3 eN)
            have f4 := LamX.Tabs.ext T2 e25
            refine ifF (by decide +kernel) ?_
            exact ⟨_, rfl, f1, f2, f3, f4⟩
        · rintro σ' H' ⟨y12, rfl, w1, w2, w3, w4⟩
          exact ⟨y12, rfl, w2, w3, w4⟩
      --E
      rintro σ' H13 ⟨y12, rfl, u13, sys13, tab13⟩
      clear u12 bn12 sys12 tab12
      walk_at "rd"
      rintro tq x y H14 hx hy nt ht g14 u14
      walk_at "rd"
      refine ⟨tq, _, rfl, SqT.of ht, rfl, _, _, rfl, _, _, rfl, rfl, ?_⟩
      refine ⟨fun σ' H' => ∃ v sd, σ' = [some (.ref a), some (.ref j), some (.int (0 + (i : Int))), some (.ref D), y4, some v, some (.ref pa), some (.str pd.shown), some (.ref t), some (.ref t2), some (.int (n : Int)), some (.ref L), y12, some (.int x), some (.int y), x15] ∧ Go j H14 H' ∧ Urn K B j (b + 90) H' ∧ Da K (off j H') v sd ∧ sqOf sd = some (x, y) ∧ isSq sd = true, ?_, ?_⟩
      · --S
        walk_at "rd"
        rintro r H15 r0 r1 g15 u15
        walk_at "rd"
        refine ifB (fun c1 => ?_) (fun c1 => ?_)
        · walk_at "rd"
          intro l hl
          have el := Evl.Ex.new (o := .lst [.int x, .int y]) hl
          exact ⟨_, .list [.int x, .int y], rfl, g15.trans (Go.of el), (u15.ex el).less (by omega), .lst (SqL.of (off_at (u15.ne hl) upd_same)) (.cons (.int _) (.cons (.int _) .nil)), rfl, rfl⟩
        · walk_at "rd"
          intro l hl
          have el := Evl.Ex.new (o := .tup [.int x, .int y]) hl
          exact ⟨_, .tuple [.int x, .int y], rfl, g15.trans (Go.of el), (u15.ex el).less (by omega), .tup (SqT.of (off_at (u15.ne hl) upd_same)) (.cons (.int _) (.cons (.int _) .nil)), rfl, rfl⟩
      --E
      rintro σ' H15 ⟨v, sd, rfl, g15, u15, dv15, sqd, isd⟩
      have sys15 := sysG sys13 (g14.trans g15)
      have tab15 := tabG u13 tab13 (g14.trans g15)
      have dvH : Da K H15 v sd := Da.mono (off_sub j _) sd dv15
      clear u13 sys13 tab13 u14 g14 g15 dv15
      refine ⟨fun σ' H' => ∃ td q1 q2 q3 q4, σ' = [some (.ref a), some (.ref j), some (.int (0 + (i : Int))), some (.ref D), y4, some v, some (.ref pa), some (.str pd.shown), some (.ref td), some (.ref t2), some (.int (n : Int)), some (.ref L), y12, some (.int x), some (.int y), x15] ∧ Ex H15 H' ∧ H' td = some (.tup [.ref q1, .ref q2, .ref q3, .ref q4]) ∧ H' q1 = some (.tup [.int (x + 1), .int y]) ∧ H' q2 = some (.tup [.int (x - 1), .int y]) ∧ H' q3 = some (.tup [.int x, .int (y + 1)]) ∧ H' q4 = some (.tup [.int x, .int (y - 1)]), ?_, ?_⟩
      · --S
        walk_at "rd"
        intro q1 hq1
        have eq1 : Ex H15 (upd H15 q1 (.tup [.int (x+1),.int y])) := Evl.Ex.new hq1
        have aq1 : upd H15 q1 (.tup [.int (x+1),.int y]) q1 = some (.tup [.int (x+1),.int y]) := upd_same
        generalize upd H15 q1 (.tup [.int (x+1),.int y]) = A1 at eq1 aq1 ⊢
        walk_at "rd"
        intro q2 hq2
        have eq2 : Ex A1 (upd A1 q2 (.tup [.int (x-1),.int y])) := Evl.Ex.new hq2
        have aq2 : upd A1 q2 (.tup [.int (x-1),.int y]) q2 = some (.tup [.int (x-1),.int y]) := upd_same
        generalize upd A1 q2 (.tup [.int (x-1),.int y]) = A2 at eq2 aq2 ⊢
        walk_at "rd"
        intro q3 hq3
        have eq3 : Ex A2 (upd A2 q3 (.tup [.int x,.int (y+1)])) := Evl.Ex.new hq3
        have aq3 : upd A2 q3 (.tup [.int x,.int (y+1)]) q3 = some (.tup [.int x,.int (y+1)]) := upd_same
        generalize upd A2 q3 (.tup [.int x,.int (y+1)]) = A3 at eq3 aq3 ⊢
        walk_at "rd"
        intro q4 hq4
        have eq4 : Ex A3 (upd A3 q4 (.tup [.int x,.int (y-1)])) := Evl.Ex.new hq4
        have aq4 : upd A3 q4 (.tup [.int x,.int (y-1)]) q4 = some (.tup [.int x,.int (y-1)]) := upd_same
        generalize upd A3 q4 (.tup [.int x,.int (y-1)]) = A4 at eq4 aq4 ⊢
        walk_at "rd"
        intro td htd
        have etd : Ex A4 (upd A4 td (.tup [.ref q1,.ref q2,.ref q3,.ref q4])) := Evl.Ex.new htd
        have atd : upd A4 td (.tup [.ref q1,.ref q2,.ref q3,.ref q4]) td = some (.tup [.ref q1,.ref q2,.ref q3,.ref q4]) := upd_same
        generalize upd A4 td (.tup [.ref q1,.ref q2,.ref q3,.ref q4]) = A5 at etd atd ⊢
        exact ⟨td, q1, q2, q3, q4, rfl, ((((eq1.trans eq2).trans eq3).trans eq4).trans etd), atd, (((eq2.trans eq3).trans eq4).trans etd) _ _ aq1, ((eq3.trans eq4).trans etd) _ _ aq2, (eq4.trans etd) _ _ aq3, etd _ _ aq4⟩
      --E
      rintro σ' H16 ⟨td, q1, q2, q3, q4, rfl, e16, htd, hq1, hq2, hq3, hq4⟩
      have u16 := u15.ex e16
      have sys16 := Sys.mono e16 sys15
      have tab16 := LamX.Tabs.ext tab15 e16
      have dv16 := Da.mono e16 sd dvH
      have hDn : Da K H16 (.ref td) (nbD x y) := .tup (SqT.of htd) (.cons (.tup (SqT.of hq1) (.cons (.int _) (.cons (.int _) .nil))) (.cons (.tup (SqT.of hq2) (.cons (.int _) (.cons (.int _) .nil))) (.cons (.tup (SqT.of hq3) (.cons (.int _) (.cons (.int _) .nil))) (.cons (.tup (SqT.of hq4) (.cons (.int _) (.cons (.int _) .nil))) .nil))))
      have fn := fit_nb hx hy
      obtain ⟨nd, hnd⟩ : ∃ nd, nd = nbD x y := ⟨_, rfl⟩
      rw [← hnd] at fn hDn
      clear u15 sys15 tab15 dvH e16
      refine ⟨fun σ' H' => σ' = [some (.ref a), some (.ref j), some (.int (0 + (i : Int))), some (.ref D), y4, some v, some (.ref pa), some (.str pd.shown), some (.ref td), some (.ref t2), some (.int (n : Int)), some (.ref L), y12, some (.int x), some (.int y), x15] ∧ Ex H16 H', ?_, ?_⟩
      · --S
        walk_at "rd"
        refine ⟨?_, fun no => by rw [isd] at no; cases no⟩
        intro x' y' v' H17 e e17 dn17
        rw [sqd] at e; cases e
        rw [← hnd] at dn17
        have dn17' : Da K H17 v' nd := Da.mono (fun a o h => (neu_of h).2) _ dn17
        have hDn17 := Da.mono e17 _ hDn
        have sys17 := Sys.mono e17 sys16
        walk_at "rd"
        refine ⟨fn.1.sh, fn.1.line (by decide), by have := fn.2; omega, ?_⟩
        walk_at "rd"
        refine ⟨fn.1.sh, fn.1.line (by decide), by have := fn.2; omega, ?_⟩
        walk_at "rd"
        refine ifF (by simp) ?_
        walk_at "rd"
        refine ⟨v, sd, rfl, Da.mono e17 sd dv16, ?_, fun no => by rw [isd] at no; cases no⟩
        intro x' y' v'' H18 e e18 dn18
        rw [sqd] at e; cases e
        rw [← hnd] at dn18
        have dn18' : Da K H18 v'' nd := Da.mono (fun a o h => (neu_of h).2) _ dn18
        have hDn18 := Da.mono e18 _ hDn17
        have sys18 := Sys.mono e18 sys17
        walk_at "rd"
        refine ⟨fn.1.sh, fn.1.line (by decide), by have := fn.2; omega, ?_⟩
        walk_at "rd"
        refine ⟨fn.1.sh, fn.1.line (by decide), by have := fn.2; omega, ?_⟩
        walk_at "rd"
        refine ifF (by simp) ?_
        walk_at "rd"
        exact e17.trans e18
      --E
      rintro σ' H17 ⟨rfl, e17⟩
      have htd17 := e17 _ _ htd
      walk_at "rd"
      refine ⟨⟨_, SqT.of htd17⟩, fun D2 hD2 => ?_⟩
      refine lc_tup (K := K) (a := td) (xs := [.ref q1, .ref q2, .ref q3, .ref q4]) (fun m H' => Ex H17 H' ∧ H' D2 = some (.lst [])) ⟨Evl.Ex.new hD2, upd_same⟩ (fun m H' _ q => SqT.of (q.1 _ _ htd17)) ?_ ?_
      · rintro m w H18 hw ⟨w1, w2⟩
        obtain ⟨qa, u, z, rfl, hqa, nb⟩ : ∃ (qa : Addr) (u z : Int), w = .ref qa ∧ H18 qa = some (.tup [.int u, .int z]) ∧ ((u = x + 1 ∧ z = y) ∨ (u = x - 1 ∧ z = y) ∨ (u = x ∧ z = y + 1) ∨ (u = x ∧ z = y - 1)) := by
          have e := e17.trans w1
          match m, hw with
          | 0, hw => cases hw; exact ⟨q1, _, _, rfl, e _ _ hq1, .inl ⟨rfl, rfl⟩⟩
          | 1, hw => cases hw; exact ⟨q2, _, _, rfl, e _ _ hq2, .inr (.inl ⟨rfl, rfl⟩)⟩
          | 2, hw => cases hw; exact ⟨q3, _, _, rfl, e _ _ hq3, .inr (.inr (.inl ⟨rfl, rfl⟩))⟩
          | 3, hw => cases hw; exact ⟨q4, _, _, rfl, e _ _ hq4, .inr (.inr (.inr ⟨rfl, rfl⟩))⟩
        refine ⟨rfl, ?_⟩
        walk_at "rd"
        intro tn htn
        have etn : Ex H18 (upd H18 tn (.tup [.int x,.int y])) := Evl.Ex.new htn
        have atn : upd H18 tn (.tup [.int x,.int y]) tn = some (.tup [.int x,.int y]) := upd_same
        generalize upd H18 tn (.tup [.int x,.int y]) = H19 at etn atn ⊢
        walk_at "rd"
        refine ⟨.ref qa, .tuple [.int u, .int z], rfl, .tup (SqT.of (etn _ _ hqa)) (.cons (.int _) (.cons (.int _) .nil)), ?_, fun no => by cases no⟩
        intro x' y' v' H20 e e20 dn20
        cases e
        have dn : Da K H20 v' (nbD u z) := Da.mono (fun a o h => (neu_of h).2) _ dn20
        refine ⟨.tuple [.int x, .int y], _, .tup (SqT.of (e20 _ _ atn)) (.cons (.int _) (.cons (.int _) .nil)), Da.dp (nbD u z) (by simp [nbD, PyData.canLay0, PyData.canLayAll0]) dn, pairT_shaped (x, y), nb_shaped u z, ?_⟩
        rw [nb_back nb]
        refine ⟨_, rfl, ?_⟩
        refine ifF rfl ?_
        exact ⟨(w1.trans etn).trans e20, (etn.trans e20) _ _ w2⟩
      · rintro H18 ⟨w1, w2⟩
        walk_at "rd"
        intro l0 hl0
        have el0 : Ex H18 (upd H18 l0 (.lst [])) := Evl.Ex.new hl0
        have al0 : upd H18 l0 (.lst []) l0 = some (.lst []) := upd_same
        generalize upd H18 l0 (.lst []) = H19 at el0 al0 ⊢
        have e1619 := (e17.trans w1).trans el0
        have u19 := u16.ex e1619
        have sys19 := Sys.mono e1619 sys16
        have tab19 := LamX.Tabs.ext tab16 e1619
        refine ⟨D2, l0, [], rfl, rfl, SqL.of (el0 _ _ w2), SqL.of al0, ?_⟩
        refine ⟨_, rfl, ?_⟩
        refine ifF rfl ?_
        walk_at "rd"
        intro H20 eN T2 E2 N2 hE hN
        have u20 : Urn K B j (b + 89 + 1) H20 := uX u19 eN
        have sys20 := Sys.extN sys19 eN
        walk_at "rd"
        rintro ov od H21 hod dov g21 u21
        have sys21 := sysG sys20 g21
        have tab21 := tabG u20 T2 g21
        refine ⟨ov, od, rfl, Da.mono (fun a o h => (neu_of h).2) _ dov, fun x' y' v' H' e => (by have := odd_no od hod; unfold isSq at this; rw [e] at this; cases this), fun _ dx H22 e22 hdx h22 => hE _ _ _ ⟨dx, "square", rfl, h22, .inl ⟨rfl, fun tt H23 e23 ht23 h23 => ?_⟩⟩⟩
        have e2123 := e22.trans e23
        walk_at "rd"
        intro t5 ht5
        have e5 := Evl.Ex.new (o := .tup [.str "square", .str "square"]) ht5
        have at5 : upd H23 t5 (.tup [.str "square", .str "square"]) t5 = some (.tup [.str "square", .str "square"]) := upd_same
        refine ⟨.tuple [.str "square", .str "square"], .tuple [.str "square", .str "square"], .tup (SqT.of (e5 _ _ h23)) (.cons (.str _) (.cons (.str _) .nil)), .tup (SqT.of at5) (.cons (.str _) (.cons (.str _) .nil)), by decide +kernel, by decide +kernel, ?_⟩
        have e25 := e2123.trans e5
        have f2 : Urn K B j b _ := (u21.ex e25).less (by omega)
        have f3 := Sys.mono e25 sys21
        have f4 := LamX.Tabs.ext tab21 e25
        refine ⟨_, rfl, ?_⟩
        refine ifF (by decide +kernel) ?_
        exact ⟨f2, f3, f4, _, _, _, _, _, _, _, _, _, _, _, _, _, _, rfl⟩
    · rintro σ H2 ⟨u2, sys2, tab2, x2, x3, x4, x5, x6, x7, x8, x9, x10, x11, x12, x13, x14, x15, rfl⟩
      walk_at "rd"
      have nilEq : PyData.eqv (.tuple []) (.tuple []) = true := by decide +kernel
      intro p0 hp0
      have ep0 : Ex H2 (upd H2 p0 (.lst [])) := Evl.Ex.new hp0
      have ap0 : upd H2 p0 (.lst []) p0 = some (.lst []) := upd_same
      generalize upd H2 p0 (.lst []) = H3 at ep0 ap0 ⊢
      refine .inl ⟨.ref p0, .list [], rfl, .lst (SqL.of ap0) .nil, fun ds h => (by cases h; decide), ?_, fun no => absurd no (by decide +kernel)⟩
      intro ds' _ sp T3 zs3 k3 H4 e4 hT3 h4 pl4 pm4 srt
      cases sp
      have z3 : zs3 = [] := List.map_eq_nil_iff.mp (List.perm_nil.mp pm4)
      subst z3
      walk_at "rd"
      intro t5 ht5
      have et5 : Ex H4 (upd H4 t5 (.tup [])) := Evl.Ex.new ht5
      have at5 : upd H4 t5 (.tup []) t5 = some (.tup []) := upd_same
      generalize upd H4 t5 (.tup []) = H5 at et5 at5 ⊢
      refine ⟨.tuple [], .tuple [], .tup (SqT.of (et5 _ _ h4)) .nil, .tup (SqT.of at5) .nil, by decide +kernel, by decide +kernel, ?_⟩
      refine ⟨_, rfl, ?_⟩
      refine ifT nilEq ?_
      walk_at "rd"
      intro p6 hp6
      have ep6 : Ex H5 (upd H5 p6 (.tup [])) := Evl.Ex.new hp6
      have ap6 : upd H5 p6 (.tup []) p6 = some (.tup []) := upd_same
      generalize upd H5 p6 (.tup []) = H6 at ep6 ap6 ⊢
      refine .inl ⟨.ref p6, .tuple [], rfl, .tup (SqT.of ap6) .nil, fun ds h => (by cases h; decide), ?_, fun no => absurd no (by decide +kernel)⟩
      intro ds' _ sp T7 zs7 k7 H7 e7 hT7 h7 pl7 pm7 srt7
      cases sp
      have z7 : zs7 = [] := List.map_eq_nil_iff.mp (List.perm_nil.mp pm7)
      subst z7
      walk_at "rd"
      intro t8 ht8
      have et8 : Ex H7 (upd H7 t8 (.tup [])) := Evl.Ex.new ht8
      have at8 : upd H7 t8 (.tup []) t8 = some (.tup []) := upd_same
      generalize upd H7 t8 (.tup []) = H8 at et8 at8 ⊢
      refine ⟨.tuple [], .tuple [], .tup (SqT.of (et8 _ _ h7)) .nil, .tup (SqT.of at8) .nil, by decide +kernel, by decide +kernel, ?_⟩
      rw [nilEq]
      exact k _
end
end K03
namespace K03
open PySem PySem.Spec PyProof.Rows L2 Kg
theorem all_mk {l : PySem.W.OpenLaw} {w : World} {K : PySem.W.Frag} {h : Heap} {mg : Str → Option Value} {fa : Addr} {q : Program} {dr : DefRec} (hrec : (recsOf q).find? (fun e : DefRec => e.name == ("law" : Str)) = some dr) (X : K.In h) (G : h.Ns mainGlobals mg) (hfa : mg "law" = some (.ref fa))
    {c_BadSquare : Addr}
    {c_BadSquares : Addr}
    {c_FlightError : Addr}
    {nm_BadSquare q_BadSquare : Str} {N_BadSquare : Addr} {bs_BadSquare : List Value} {sn_BadSquare : List Str} {sub_BadSquare : List Value} {ab_BadSquare : Bool} {col_BadSquare : Option Bool} {dd_BadSquare : Option Addr} {k0_BadSquare k1_BadSquare k2_BadSquare k3_BadSquare k5_BadSquare : Option Value}
    {nm_BadSquares q_BadSquares : Str} {N_BadSquares : Addr} {bs_BadSquares : List Value} {sn_BadSquares : List Str} {sub_BadSquares : List Value} {ab_BadSquares : Bool} {col_BadSquares : Option Bool} {dd_BadSquares : Option Addr} {k0_BadSquares k1_BadSquares k2_BadSquares k3_BadSquares k5_BadSquares : Option Value}
    {f0 : Addr} {od0 an0 : Option Addr} {sl0 : Array (Option Value)} {oc0 kV0 dc0 pm0 cd0 ct0 : Value}
    {f1 : Addr} {od1 an1 : Option Addr} {sl1 : Array (Option Value)} {oc1 kV1 dc1 pm1 cd1 ct1 : Value}
    {f2 : Addr} {od2 an2 : Option Addr} {sl2 : Array (Option Value)} {oc2 kV2 dc2 pm2 cd2 ct2 : Value}
    {f3 : Addr} {od3 an3 : Option Addr} {sl3 : Array (Option Value)} {oc3 kV3 dc3 pm3 cd3 ct3 : Value}
    {f4 : Addr} {od4 an4 : Option Addr} {sl4 : Array (Option Value)} {oc4 kV4 dc4 pm4 cd4 ct4 : Value}
    {f5 : Addr} {od5 an5 : Option Addr} {sl5 : Array (Option Value)} {oc5 kV5 dc5 pm5 cd5 ct5 : Value}
    {f6 : Addr} {od6 an6 : Option Addr} {sl6 : Array (Option Value)} {oc6 kV6 dc6 pm6 cd6 ct6 : Value}
    {f7 : Addr} {od7 an7 : Option Addr} {sl7 : Array (Option Value)} {oc7 kV7 dc7 pm7 cd7 ct7 : Value}
    {f8 : Addr} {od8 an8 : Option Addr} {sl8 : Array (Option Value)} {oc8 kV8 dc8 pm8 cd8 ct8 : Value}
    {f9 : Addr} {od9 an9 : Option Addr} {sl9 : Array (Option Value)} {oc9 kV9 dc9 pm9 cd9 ct9 : Value}
    {f10 : Addr} {od10 an10 : Option Addr} {sl10 : Array (Option Value)} {oc10 kV10 dc10 pm10 cd10 ct10 : Value}
    {f11 : Addr} {od11 an11 : Option Addr} {sl11 : Array (Option Value)} {oc11 kV11 dc11 pm11 cd11 ct11 : Value}
    {f12 : Addr} {od12 an12 : Option Addr} {sl12 : Array (Option Value)} {oc12 kV12 dc12 pm12 cd12 ct12 : Value}
    {f13 : Addr} {od13 an13 : Option Addr} {sl13 : Array (Option Value)} {oc13 kV13 dc13 pm13 cd13 ct13 : Value}
    {f14 : Addr} {od14 an14 : Option Addr} {sl14 : Array (Option Value)} {oc14 kV14 dc14 pm14 cd14 ct14 : Value}
    {f15 : Addr} {od15 an15 : Option Addr} {sl15 : Array (Option Value)} {oc15 kV15 dc15 pm15 cd15 ct15 : Value}
    {f16 : Addr} {od16 an16 : Option Addr} {sl16 : Array (Option Value)} {oc16 kV16 dc16 pm16 cd16 ct16 : Value}
    {cT_law PT_law : Addr} {oT_law : Value} {dT_law : Option Addr} {vT_law : Array Value} {sT_law : Array (Option Value)}
    (a2 : PySem.W.nsIn K mainGlobals "is_integer" = some (some (.ref f2)))
    (l2 : K.lookup f2 = some ⟨oc2, od2, .func (PySem.W.fnOf "is_integer" "is_integer" (defArgs s_is_integer) (defBody s_is_integer) (defScope s_is_integer) .none kV2 dc2 pm2 an2 cd2 ct2), sl2⟩)
    (c2 : PySem.W.codeIn K cd2 "is_integer" = true)
    (k2 : PySem.W.keepIn K (.ref f2) = true)
    (a3 : PySem.W.nsIn K mainGlobals "is_square" = some (some (.ref f3)))
    (l3 : K.lookup f3 = some ⟨oc3, od3, .func (PySem.W.fnOf "is_square" "is_square" (defArgs s_is_square) (defBody s_is_square) (defScope s_is_square) .none kV3 dc3 pm3 an3 cd3 ct3), sl3⟩)
    (c3 : PySem.W.codeIn K cd3 "is_square" = true)
    (k3 : PySem.W.keepIn K (.ref f3) = true)
    (a4 : PySem.W.nsIn K mainGlobals "are_squares" = some (some (.ref f4)))
    (l4 : K.lookup f4 = some ⟨oc4, od4, .func (PySem.W.fnOf "are_squares" "are_squares" (defArgs s_are_squares) (defBody s_are_squares) (defScope s_are_squares) .none kV4 dc4 pm4 an4 cd4 ct4), sl4⟩)
    (c4 : PySem.W.codeIn K cd4 "are_squares" = true)
    (k4 : PySem.W.keepIn K (.ref f4) = true)
    (a5 : PySem.W.nsIn K mainGlobals "squares_of" = some (some (.ref f5)))
    (l5 : K.lookup f5 = some ⟨oc5, od5, .func (PySem.W.fnOf "squares_of" "squares_of" (defArgs s_squares_of) (defBody s_squares_of) (defScope s_squares_of) .none kV5 dc5 pm5 an5 cd5 ct5), sl5⟩)
    (c5 : PySem.W.codeIn K cd5 "squares_of" = true)
    (k5 : PySem.W.keepIn K (.ref f5) = true)
    (a6 : PySem.W.nsIn K mainGlobals "around" = some (some (.ref f6)))
    (l6 : K.lookup f6 = some ⟨oc6, od6, .func (PySem.W.fnOf "around" "around" (defArgs s_around) (defBody s_around) (defScope s_around) .none kV6 dc6 pm6 an6 cd6 ct6), sl6⟩)
    (c6 : PySem.W.codeIn K cd6 "around" = true)
    (k6 : PySem.W.keepIn K (.ref f6) = true)
    (a7 : PySem.W.nsIn K mainGlobals "neighbours" = some (some (.ref f7)))
    (l7 : K.lookup f7 = some ⟨oc7, od7, .func (PySem.W.fnOf "neighbours" "neighbours" (defArgs s_neighbours) (defBody s_neighbours) (defScope s_neighbours) .none kV7 dc7 pm7 an7 cd7 ct7), sl7⟩)
    (c7 : PySem.W.codeIn K cd7 "neighbours" = true)
    (k7 : PySem.W.keepIn K (.ref f7) = true)
    (a8 : PySem.W.nsIn K mainGlobals "taken_square" = some (some (.ref f8)))
    (l8 : K.lookup f8 = some ⟨oc8, od8, .func (PySem.W.fnOf "taken_square" "taken_square" (defArgs s_taken_square) (defBody s_taken_square) (defScope s_taken_square) .none kV8 dc8 pm8 an8 cd8 ct8), sl8⟩)
    (c8 : PySem.W.codeIn K cd8 "taken_square" = true)
    (k8 : PySem.W.keepIn K (.ref f8) = true)
    (a9 : PySem.W.nsIn K mainGlobals "taken_squares" = some (some (.ref f9)))
    (l9 : K.lookup f9 = some ⟨oc9, od9, .func (PySem.W.fnOf "taken_squares" "taken_squares" (defArgs s_taken_squares) (defBody s_taken_squares) (defScope s_taken_squares) .none kV9 dc9 pm9 an9 cd9 ct9), sl9⟩)
    (c9 : PySem.W.codeIn K cd9 "taken_squares" = true)
    (k9 : PySem.W.keepIn K (.ref f9) = true)
    (a10 : PySem.W.nsIn K mainGlobals "_law_tub" = some (some (.ref f10)))
    (l10 : K.lookup f10 = some ⟨oc10, od10, .func (PySem.W.fnOf "_law_tub" "_law_tub" (defArgs s_w_tub) (defBody s_w_tub) (defScope s_w_tub) .none kV10 dc10 pm10 an10 cd10 ct10), sl10⟩)
    (c10 : PySem.W.codeIn K cd10 "_law_tub" = true)
    (k10 : PySem.W.keepIn K (.ref f10) = true)
    (a11 : PySem.W.nsIn K mainGlobals "_law_dip" = some (some (.ref f11)))
    (l11 : K.lookup f11 = some ⟨oc11, od11, .func (PySem.W.fnOf "_law_dip" "_law_dip" (defArgs s_w_dip) (defBody s_w_dip) (defScope s_w_dip) .none kV11 dc11 pm11 an11 cd11 ct11), sl11⟩)
    (c11 : PySem.W.codeIn K cd11 "_law_dip" = true)
    (k11 : PySem.W.keepIn K (.ref f11) = true)
    (a12 : PySem.W.nsIn K mainGlobals "_law_square" = some (some (.ref f12)))
    (l12 : K.lookup f12 = some ⟨oc12, od12, .func (PySem.W.fnOf "_law_square" "_law_square" (defArgs s_w_square) (defBody s_w_square) (defScope s_w_square) .none kV12 dc12 pm12 an12 cd12 ct12), sl12⟩)
    (c12 : PySem.W.codeIn K cd12 "_law_square" = true)
    (k12 : PySem.W.keepIn K (.ref f12) = true)
    (a13 : PySem.W.nsIn K mainGlobals "_law_odd" = some (some (.ref f13)))
    (l13 : K.lookup f13 = some ⟨oc13, od13, .func (PySem.W.fnOf "_law_odd" "_law_odd" (defArgs s_w_odd) (defBody s_w_odd) (defScope s_w_odd) .none kV13 dc13 pm13 an13 cd13 ct13), sl13⟩)
    (c13 : PySem.W.codeIn K cd13 "_law_odd" = true)
    (k13 : PySem.W.keepIn K (.ref f13) = true)
    (a14 : PySem.W.nsIn K mainGlobals "_law_ordered" = some (some (.ref f14)))
    (l14 : K.lookup f14 = some ⟨oc14, od14, .func (PySem.W.fnOf "_law_ordered" "_law_ordered" (defArgs s_w_ordered) (defBody s_w_ordered) (defScope s_w_ordered) .none kV14 dc14 pm14 an14 cd14 ct14), sl14⟩)
    (c14 : PySem.W.codeIn K cd14 "_law_ordered" = true)
    (k14 : PySem.W.keepIn K (.ref f14) = true)
    (a15 : PySem.W.nsIn K mainGlobals "_law_heard" = some (some (.ref f15)))
    (l15 : K.lookup f15 = some ⟨oc15, od15, .func (PySem.W.fnOf "_law_heard" "_law_heard" (defArgs s_w_heard) (defBody s_w_heard) (defScope s_w_heard) .none kV15 dc15 pm15 an15 cd15 ct15), sl15⟩)
    (c15 : PySem.W.codeIn K cd15 "_law_heard" = true)
    (k15 : PySem.W.keepIn K (.ref f15) = true)
    (a16 : PySem.W.nsIn K mainGlobals "law" = some (some (.ref f16)))
    (l16 : K.lookup f16 = some ⟨oc16, od16, .func (PySem.W.fnOf "law" "law" (defArgs s_law) (defBody s_law) (defScope s_law) .none kV16 dc16 pm16 an16 cd16 ct16), sl16⟩)
    (c16 : PySem.W.codeIn K cd16 "law" = true)
    (k16 : PySem.W.keepIn K (.ref f16) = true)
    (aC_BadSquare : PySem.W.nsIn K mainGlobals "BadSquare" = some (some (.ref c_BadSquare)))
    (isC_BadSquare : PySem.W.isClsIn K c_BadSquare = true)
    (aC_BadSquares : PySem.W.nsIn K mainGlobals "BadSquares" = some (some (.ref c_BadSquares)))
    (isC_BadSquares : PySem.W.isClsIn K c_BadSquares = true)
    (aC_FlightError : PySem.W.nsIn K mainGlobals "FlightError" = some (some (.ref c_FlightError)))
    (isC_FlightError : PySem.W.isClsIn K c_FlightError = true)
    (tyC_FlightError : PySem.W.typeIn K (.ref c_FlightError) = some (.type "type"))
    (exC_FlightError : PySem.W.subIn K (.ref c_FlightError) (.type "BaseException") = some true)
    (x_BadSquare : K.lookup c_BadSquare = some (excClassObj nm_BadSquare q_BadSquare c_BadSquare N_BadSquare bs_BadSquare [.ref c_FlightError, .type "ValueError", .type "Exception", .type "BaseException", .type "object"] true sn_BadSquare sub_BadSquare ab_BadSquare col_BadSquare dd_BadSquare k0_BadSquare k1_BadSquare k2_BadSquare k3_BadSquare k5_BadSquare "ValueError.__new__"))
    (sa_BadSquare : PySem.W.findIn K (.ref c_BadSquare) "__setattr__" = some (some (.builtin "object.__setattr__")))
    (exC_BadSquare : PySem.W.subIn K (.ref c_BadSquare) (.type "BaseException") = some true)
    (tyC_BadSquare : PySem.W.typeIn K (.ref c_BadSquare) = some (.type "type"))
    (kC_BadSquare : PySem.W.keepIn K (.ref c_BadSquare) = true)
    (i_BadSquare : PySem.W.findIn K (.ref c_BadSquare) "__init__" = some (some (.ref f0)))
    (t_BadSquare : PySem.W.typeIn K (.ref f0) = some (.type "function"))
    (n_BadSquare_part : PySem.W.findIn K (.ref c_BadSquare) "part" = some none)
    (ga_BadSquare : PySem.W.findIn K (.ref c_BadSquare) "__getattribute__" = some (some (.builtin "BaseException.__getattribute__")))
    (gg_BadSquare : PySem.W.findIn K (.ref c_BadSquare) "__getattr__" = some none)
    (hd_BadSquare : PySem.W.hasDictIn K c_BadSquare = true)
    (ha_BadSquare : PySem.W.findIn K (.ref c_BadSquare) "__class__" = some (some (.builtin "object.__class__")))
    (hm_BadSquare : PySem.W.mroIn K c_BadSquare (.type "object") = some true)
    (s_BadSquare_BadSquares : PySem.W.subIn K (.ref c_BadSquare) (.ref c_BadSquares) = some false)
    (s_BadSquare_FlightError : PySem.W.subIn K (.ref c_BadSquare) (.ref c_FlightError) = some true)
    (x_BadSquares : K.lookup c_BadSquares = some (excClassObj nm_BadSquares q_BadSquares c_BadSquares N_BadSquares bs_BadSquares [.ref c_FlightError, .type "ValueError", .type "Exception", .type "BaseException", .type "object"] true sn_BadSquares sub_BadSquares ab_BadSquares col_BadSquares dd_BadSquares k0_BadSquares k1_BadSquares k2_BadSquares k3_BadSquares k5_BadSquares "ValueError.__new__"))
    (sa_BadSquares : PySem.W.findIn K (.ref c_BadSquares) "__setattr__" = some (some (.builtin "object.__setattr__")))
    (exC_BadSquares : PySem.W.subIn K (.ref c_BadSquares) (.type "BaseException") = some true)
    (tyC_BadSquares : PySem.W.typeIn K (.ref c_BadSquares) = some (.type "type"))
    (kC_BadSquares : PySem.W.keepIn K (.ref c_BadSquares) = true)
    (i_BadSquares : PySem.W.findIn K (.ref c_BadSquares) "__init__" = some (some (.ref f1)))
    (t_BadSquares : PySem.W.typeIn K (.ref f1) = some (.type "function"))
    (n_BadSquares_part : PySem.W.findIn K (.ref c_BadSquares) "part" = some none)
    (ga_BadSquares : PySem.W.findIn K (.ref c_BadSquares) "__getattribute__" = some (some (.builtin "BaseException.__getattribute__")))
    (gg_BadSquares : PySem.W.findIn K (.ref c_BadSquares) "__getattr__" = some none)
    (hd_BadSquares : PySem.W.hasDictIn K c_BadSquares = true)
    (ha_BadSquares : PySem.W.findIn K (.ref c_BadSquares) "__class__" = some (some (.builtin "object.__class__")))
    (hm_BadSquares : PySem.W.mroIn K c_BadSquares (.type "object") = some true)
    (s_BadSquares_BadSquare : PySem.W.subIn K (.ref c_BadSquares) (.ref c_BadSquare) = some false)
    (s_BadSquares_FlightError : PySem.W.subIn K (.ref c_BadSquares) (.ref c_FlightError) = some true)
    (sn_BadSquare : PySem.W.subIn K (.type "NoneType") (.ref c_BadSquare) = some false)
    (sn_BadSquares : PySem.W.subIn K (.type "NoneType") (.ref c_BadSquares) = some false)
    (hn_ : PySem.W.specialIn K (.builtin "object.__class__") "__get__" = some (some (.builtin "getset_descriptor.__get__")))
    (ht_ : PySem.W.takesIn K (.builtin "object.__class__") = some true)
    (l0 : K.lookup f0 = some ⟨oc0, od0, .func (PySem.W.fnOf "__init__" "BadSquare.__init__" (defArgs s_BadSquare_init) (defBody s_BadSquare_init) (defScope s_BadSquare_init) .none kV0 dc0 pm0 an0 cd0 ct0), sl0⟩)
    (c0 : PySem.W.codeIn K cd0 "BadSquare.__init__" = true)
    (k0 : PySem.W.keepIn K (.ref f0) = true)
    (l1 : K.lookup f1 = some ⟨oc1, od1, .func (PySem.W.fnOf "__init__" "BadSquares.__init__" (defArgs s_BadSquares_init) (defBody s_BadSquares_init) (defScope s_BadSquares_init) .none kV1 dc1 pm1 an1 cd1 ct1), sl1⟩)
    (c1 : PySem.W.codeIn K cd1 "BadSquares.__init__" = true)
    (k1 : PySem.W.keepIn K (.ref f1) = true)
    (y_abs : PySem.W.nsIn K mainGlobals "abs" = some none)
    (y_all : PySem.W.nsIn K mainGlobals "all" = some none)
    (y_bool : PySem.W.nsIn K mainGlobals "bool" = some none)
    (y_int : PySem.W.nsIn K mainGlobals "int" = some none)
    (y_isinstance : PySem.W.nsIn K mainGlobals "isinstance" = some none)
    (y_len : PySem.W.nsIn K mainGlobals "len" = some none)
    (y_list : PySem.W.nsIn K mainGlobals "list" = some none)
    (y_range : PySem.W.nsIn K mainGlobals "range" = some none)
    (y_repr : PySem.W.nsIn K mainGlobals "repr" = some none)
    (y_sorted : PySem.W.nsIn K mainGlobals "sorted" = some none)
    (y_tuple : PySem.W.nsIn K mainGlobals "tuple" = some none)
    (ct_law : cd16 = .ref cT_law)
    (lt_law : K.lookup cT_law = some ⟨oT_law, dT_law, .fields vT_law, sT_law⟩)
    (vt_law : vT_law[11]? = some (.ref PT_law))
    (nt_law : K.lookup PT_law = none)
    (ne_BadSquare_BadSquares : (Value.ref c_BadSquare == Value.ref c_BadSquares) = false)
    (ne_BadSquares_BadSquare : (Value.ref c_BadSquares == Value.ref c_BadSquare) = false)
    (ym : K.lookup sysModules = none) :
    OffK K ∧ ∃ (fd : FuncData) (cs : List (Addr × Addr)), NamesTab q K cs ∧ (∀ (s : Shared) (v : Value), BindsTo s fd ⟨[v], []⟩ [("script", v)]) ∧
      ∀ base : Heap, K.In base → base.Ns mainGlobals mg → (∀ p ∈ cs, LamX.TabB base mg p.1 p.2) → FnG l.prog w K mg base CX0 8 fa fd ["script"] (spLaw K cs) := by
  have e := hfa.symm.trans (PySem.W.mg_of X G a16)
  cases e
  let T : Txt K mg := {
    f_BadSquare_init := _, d_BadSquare_init := _, F_BadSquare_init := fun_mk (st := s_BadSquare_init) l0 c0 k0,
    f_BadSquares_init := _, d_BadSquares_init := _, F_BadSquares_init := fun_mk (st := s_BadSquares_init) l1 c1 k1,
    f_is_integer := _, d_is_integer := _, F_is_integer := fun_mk (st := s_is_integer) l2 c2 k2, g_is_integer := PySem.W.mg_of X G a2,
    f_is_square := _, d_is_square := _, F_is_square := fun_mk (st := s_is_square) l3 c3 k3, g_is_square := PySem.W.mg_of X G a3,
    f_are_squares := _, d_are_squares := _, F_are_squares := fun_mk (st := s_are_squares) l4 c4 k4, g_are_squares := PySem.W.mg_of X G a4,
    f_squares_of := _, d_squares_of := _, F_squares_of := fun_mk (st := s_squares_of) l5 c5 k5, g_squares_of := PySem.W.mg_of X G a5,
    f_around := _, d_around := _, F_around := fun_mk (st := s_around) l6 c6 k6, g_around := PySem.W.mg_of X G a6,
    f_neighbours := _, d_neighbours := _, F_neighbours := fun_mk (st := s_neighbours) l7 c7 k7, g_neighbours := PySem.W.mg_of X G a7,
    f_taken_square := _, d_taken_square := _, F_taken_square := fun_mk (st := s_taken_square) l8 c8 k8, g_taken_square := PySem.W.mg_of X G a8,
    f_taken_squares := _, d_taken_squares := _, F_taken_squares := fun_mk (st := s_taken_squares) l9 c9 k9, g_taken_squares := PySem.W.mg_of X G a9,
    f_w_tub := _, d_w_tub := _, F_w_tub := fun_mk (st := s_w_tub) l10 c10 k10, g_w_tub := PySem.W.mg_of X G a10,
    f_w_dip := _, d_w_dip := _, F_w_dip := fun_mk (st := s_w_dip) l11 c11 k11, g_w_dip := PySem.W.mg_of X G a11,
    f_w_square := _, d_w_square := _, F_w_square := fun_mk (st := s_w_square) l12 c12 k12, g_w_square := PySem.W.mg_of X G a12,
    f_w_odd := _, d_w_odd := _, F_w_odd := fun_mk (st := s_w_odd) l13 c13 k13, g_w_odd := PySem.W.mg_of X G a13,
    f_w_ordered := _, d_w_ordered := _, F_w_ordered := fun_mk (st := s_w_ordered) l14 c14 k14, g_w_ordered := PySem.W.mg_of X G a14,
    f_w_heard := _, d_w_heard := _, F_w_heard := fun_mk (st := s_w_heard) l15 c15 k15, g_w_heard := PySem.W.mg_of X G a15,
    f_law := _, d_law := _, F_law := fun_mk (st := s_law) l16 c16 k16, g_law := PySem.W.mg_of X G a16,
    c_BadSquare := _, gc_BadSquare := PySem.W.mg_of X G aC_BadSquare,
    c_BadSquares := _, gc_BadSquares := PySem.W.mg_of X G aC_BadSquares,
    c_FlightError := _, gc_FlightError := PySem.W.mg_of X G aC_FlightError,
    x_BadSquare := ⟨⟨_, _, _, _, _, _, _, _, _, _, _, _, _, _, _, x_BadSquare, rfl⟩, sa_BadSquare, exC_BadSquare, tyC_BadSquare, kC_BadSquare⟩,
    i_BadSquare := i_BadSquare, t_BadSquare := t_BadSquare,
    n_BadSquare_part := n_BadSquare_part,
    e_BadSquare := ⟨ga_BadSquare, gg_BadSquare, exC_BadSquare, hd_BadSquare, ha_BadSquare, hn_, ht_, hm_BadSquare⟩,
    m_BadSquare_FlightError := exm_any exC_FlightError isC_FlightError tyC_FlightError s_BadSquare_FlightError,
    k_BadSquare_BadSquare := kit_self,
    k_BadSquare_BadSquares := kit_any isC_BadSquares tyC_BadSquares s_BadSquare_BadSquares ne_BadSquare_BadSquares,
    x_BadSquares := ⟨⟨_, _, _, _, _, _, _, _, _, _, _, _, _, _, _, x_BadSquares, rfl⟩, sa_BadSquares, exC_BadSquares, tyC_BadSquares, kC_BadSquares⟩,
    i_BadSquares := i_BadSquares, t_BadSquares := t_BadSquares,
    n_BadSquares_part := n_BadSquares_part,
    e_BadSquares := ⟨ga_BadSquares, gg_BadSquares, exC_BadSquares, hd_BadSquares, ha_BadSquares, hn_, ht_, hm_BadSquares⟩,
    m_BadSquares_FlightError := exm_any exC_FlightError isC_FlightError tyC_FlightError s_BadSquares_FlightError,
    k_BadSquares_BadSquare := kit_any isC_BadSquare tyC_BadSquare s_BadSquares_BadSquare ne_BadSquares_BadSquare,
    k_BadSquares_BadSquares := kit_self,
    kn_BadSquare := kit_any isC_BadSquare tyC_BadSquare sn_BadSquare rfl,
    kn_BadSquares := kit_any isC_BadSquares tyC_BadSquares sn_BadSquares rfl,
    z_abs := PySem.W.mg_none_of X G y_abs,
    z_all := PySem.W.mg_none_of X G y_all,
    z_bool := PySem.W.mg_none_of X G y_bool,
    z_int := PySem.W.mg_none_of X G y_int,
    z_isinstance := PySem.W.mg_none_of X G y_isinstance,
    z_len := PySem.W.mg_none_of X G y_len,
    z_list := PySem.W.mg_none_of X G y_list,
    z_range := PySem.W.mg_none_of X G y_range,
    z_repr := PySem.W.mg_none_of X G y_repr,
    z_sorted := PySem.W.mg_none_of X G y_sorted,
    z_tuple := PySem.W.mg_none_of X G y_tuple }
  have hc : T.d_law.code = .ref cT_law := ct_law
  have tb_law : PySem.W.tabIn K "law" = some (cT_law, PT_law) := tab_mk a16 l16 ct_law lt_law vt_law
  refine ⟨ym, T.d_law, [(cT_law, PT_law)], ?_, fun s v => .of_eq rfl, fun base _ _ tb => ok_law T hc (tb (cT_law, PT_law) (List.mem_singleton.mpr rfl))⟩
  intro p hp
  cases List.mem_singleton.mp hp
  exact ⟨nt_law, "law", _, hrec, tb_law⟩
theorem room : Room 8 callerA := ⟨rfl, by decide, by decide⟩
end K03

open PySem PySem.W PyProof.Rows in
set_option maxRecDepth 100000 in
set_option maxHeartbeats 0 in
theorem PySem.Challenge.cw_nevercaught_k03_squares_and_neighbours_holds : PySem.Challenge.rw_nevercaught_k03_squares_and_neighbours.Holds := by
  w_on; o_law; k_head; (case hw => w_witness2)
  k_fill
  refine Kg.walkT (l := PySem.Challenge.rw_nevercaught_k03_squares_and_neighbours) (n := 63) (k := 8) (x := "script") (sp := fun K cs => K03.spLaw K cs) (by decide +kernel) rfl (by decide) rfl K03.room (fun w h Y => PySem.W.km_in_of Y) ?F (fun K cs H a ns hl off e => ⟨a, ns, rfl, hl, off, e, fun _ => rfl⟩)
  case F =>
    intro w mg fa h KX G hmg
    refine' K03.all_mk ?hrec KX G hmg ?a2 ?l2 ?c2 ?k2 ?a3 ?l3 ?c3 ?k3 ?a4 ?l4 ?c4 ?k4 ?a5 ?l5 ?c5 ?k5 ?a6 ?l6 ?c6 ?k6 ?a7 ?l7 ?c7 ?k7 ?a8 ?l8 ?c8 ?k8 ?a9 ?l9 ?c9 ?k9 ?a10 ?l10 ?c10 ?k10 ?a11 ?l11 ?c11 ?k11 ?a12 ?l12 ?c12 ?k12 ?a13 ?l13 ?c13 ?k13 ?a14 ?l14 ?c14 ?k14 ?a15 ?l15 ?c15 ?k15 ?a16 ?l16 ?c16 ?k16 ?aC_BadSquare ?isC_BadSquare ?aC_BadSquares ?isC_BadSquares ?aC_FlightError ?isC_FlightError ?tyC_FlightError ?exC_FlightError ?x_BadSquare ?sa_BadSquare ?exC_BadSquare ?tyC_BadSquare ?kC_BadSquare ?i_BadSquare ?t_BadSquare ?n_BadSquare_part ?ga_BadSquare ?gg_BadSquare ?hd_BadSquare ?ha_BadSquare ?hm_BadSquare ?s_BadSquare_BadSquares ?s_BadSquare_FlightError ?x_BadSquares ?sa_BadSquares ?exC_BadSquares ?tyC_BadSquares ?kC_BadSquares ?i_BadSquares ?t_BadSquares ?n_BadSquares_part ?ga_BadSquares ?gg_BadSquares ?hd_BadSquares ?ha_BadSquares ?hm_BadSquares ?s_BadSquares_BadSquare ?s_BadSquares_FlightError ?sn_BadSquare ?sn_BadSquares ?hn_ ?ht_ ?l0 ?c0 ?k0 ?l1 ?c1 ?k1 ?y_abs ?y_all ?y_bool ?y_int ?y_isinstance ?y_len ?y_list ?y_range ?y_repr ?y_sorted ?y_tuple ?ct_law ?lt_law ?vt_law ?nt_law ?ne_BadSquare_BadSquares ?ne_BadSquares_BadSquare ?ym
    (case hrec => rfl)
    (case a2 => k_is)
    (case l2 => k_is)
    (case c2 => k_is)
    (case k2 => k_is)
    (case a3 => k_is)
    (case l3 => k_is)
    (case c3 => k_is)
    (case k3 => k_is)
    (case a4 => k_is)
    (case l4 => k_is)
    (case c4 => k_is)
    (case k4 => k_is)
    (case a5 => k_is)
    (case l5 => k_is)
    (case c5 => k_is)
    (case k5 => k_is)
    (case a6 => k_is)
    (case l6 => k_is)
    (case c6 => k_is)
    (case k6 => k_is)
    (case a7 => k_is)
    (case l7 => k_is)
    (case c7 => k_is)
    (case k7 => k_is)
    (case a8 => k_is)
    (case l8 => k_is)
    (case c8 => k_is)
    (case k8 => k_is)
    (case a9 => k_is)
    (case l9 => k_is)
    (case c9 => k_is)
    (case k9 => k_is)
    (case a10 => k_is)
    (case l10 => k_is)
    (case c10 => k_is)
    (case k10 => k_is)
    (case a11 => k_is)
    (case l11 => k_is)
    (case c11 => k_is)
    (case k11 => k_is)
    (case a12 => k_is)
    (case l12 => k_is)
    (case c12 => k_is)
    (case k12 => k_is)
    (case a13 => k_is)
    (case l13 => k_is)
    (case c13 => k_is)
    (case k13 => k_is)
    (case a14 => k_is)
    (case l14 => k_is)
    (case c14 => k_is)
    (case k14 => k_is)
    (case a15 => k_is)
    (case l15 => k_is)
    (case c15 => k_is)
    (case k15 => k_is)
    (case a16 => k_is)
    (case l16 => k_is)
    (case c16 => k_is)
    (case k16 => k_is)
    (case aC_BadSquare => k_is)
    (case isC_BadSquare => k_is)
    (case aC_BadSquares => k_is)
    (case isC_BadSquares => k_is)
    (case aC_FlightError => k_is)
    (case isC_FlightError => k_is)
    (case tyC_FlightError => k_is)
    (case exC_FlightError => k_is)
    (case x_BadSquare => k_is)
    (case sa_BadSquare => k_is)
    (case exC_BadSquare => k_is)
    (case tyC_BadSquare => k_is)
    (case kC_BadSquare => k_is)
    (case i_BadSquare => k_is)
    (case t_BadSquare => k_is)
    (case n_BadSquare_part => k_is)
    (case ga_BadSquare => k_is)
    (case gg_BadSquare => k_is)
    (case hd_BadSquare => k_is)
    (case ha_BadSquare => k_is)
    (case hm_BadSquare => k_is)
    (case s_BadSquare_BadSquares => k_is)
    (case s_BadSquare_FlightError => k_is)
    (case x_BadSquares => k_is)
    (case sa_BadSquares => k_is)
    (case exC_BadSquares => k_is)
    (case tyC_BadSquares => k_is)
    (case kC_BadSquares => k_is)
    (case i_BadSquares => k_is)
    (case t_BadSquares => k_is)
    (case n_BadSquares_part => k_is)
    (case ga_BadSquares => k_is)
    (case gg_BadSquares => k_is)
    (case hd_BadSquares => k_is)
    (case ha_BadSquares => k_is)
    (case hm_BadSquares => k_is)
    (case s_BadSquares_BadSquare => k_is)
    (case s_BadSquares_FlightError => k_is)
    (case sn_BadSquare => k_is)
    (case sn_BadSquares => k_is)
    (case hn_ => k_is)
    (case ht_ => k_is)
    (case l0 => k_is)
    (case c0 => k_is)
    (case k0 => k_is)
    (case l1 => k_is)
    (case c1 => k_is)
    (case k1 => k_is)
    (case y_abs => k_is)
    (case y_all => k_is)
    (case y_bool => k_is)
    (case y_int => k_is)
    (case y_isinstance => k_is)
    (case y_len => k_is)
    (case y_list => k_is)
    (case y_range => k_is)
    (case y_repr => k_is)
    (case y_sorted => k_is)
    (case y_tuple => k_is)
    (case ct_law => rfl)
    (case lt_law => k_is)
    (case vt_law => rfl)
    (case nt_law => rfl)
    (case ne_BadSquare_BadSquares => decide)
    (case ne_BadSquares_BadSquare => decide)
    (case ym => rfl)
#print axioms PySem.Challenge.cw_nevercaught_k03_squares_and_neighbours_holds
