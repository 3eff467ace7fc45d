import PyProof.Rows.All
import Wide.All
import OpenK.AllK
import Wide.FinOn
import HandS.Base
import HandS.Call
import HandS.List
import HandS.Comp
import HandS.Ends
import HandS.Dict
import HandS.Iter
import HandS.Words
import HandS.ForMost
import HandS.IsInst
import HandS.Evl
import HandS.SetBool
import HandS.TupSets
import HandS.Deep
import HandS.Wide
import HandS.More
import HandS.Lambda
import HandS.EndTab
import KE.KNest
import PyProof.Rows.Digits
import HandS.Exc
import HandS.ExcIs
import HandS.ExcField
import KE.KExcIs
import HandS.OwnEq
import KE.KTupSum
import HandS.DictComp
import HandS.Style
import HandS.AnyAll
import HandS.ExcInit
import HandS.WordsExc
import HandS.TupLen
import HandS.SortRule
import HandS.WideBits
import HandS.Conv
import HandS.ClsMeth
import HandS.Star
import HandS.Records
import KE.KTypeOf
import HandS.CallLocal
import HandS.TupAny
import PyProof.InstNe
import KE.KDictDisplayH
import KE.KEqDict
import HandS.DictEq
import HandS.TryOnly
import KE.KRevSl
import HandS.Small
import HandS.Codes
import KE.DataEq
import PySem.Challenge.RW_nevercaught_k43_whole_power_one_is_caugh
set_option Elab.async false
set_option linter.all false
set_option maxRecDepth 100000
set_option maxHeartbeats 4000000
section
open PySem PySem.Spec PyProof.Rows L2
/-! steps of a reading: `walk_at "rd1"` answers one question, `walk_at "rd"` as many as it can -/
local macro_rules | `(tactic| walk_at "rd cond") => `(tactic| first
  | exact rfl | assumption | omega | (dsimp only; omega)
  | (refine Or.inl ⟨?_, ?_⟩ <;> omega) | (refine Or.inr ⟨?_, ?_⟩ <;> omega)
  | (refine Nat.le_trans (m := 64) ?_ (by decide); simp only [List.length_cons, List.length_nil]; omega)
  | (refine ⟨?_, ?_, ?_⟩ <;> first | omega | decide) | (refine ⟨?_, ?_⟩ <;> first | assumption | omega | decide))
local macro_rules | `(tactic| walk_at "rd1") => `(tactic| first
  | refine ⟨_, rfl, ?_⟩
  | refine ⟨_, _, rfl, rfl, ?_⟩
  | refine Or.inl ⟨_, rfl, ?_⟩
  | refine Or.inr ⟨_, rfl, ?_⟩
  | refine ⟨_, _, _, _, rfl, rfl, SqL.of (by assumption), by rfl, ?_⟩
  | refine ⟨_, _, _, _, rfl, rfl, SqL.of upd_same, by rfl, ?_⟩
  | refine ⟨_, _, _, _, rfl, rfl, by assumption, by rfl, ?_⟩
  | refine ⟨_, _, _, _, rfl, rfl, upd_same, by rfl, ?_⟩
  | refine ⟨_, _, _, _, rfl, rfl, by assumption, by assumption, ?_⟩
  | refine Or.inl ⟨_, _, _, _, rfl, rfl, by assumption, by rfl, ?_⟩
  | refine Or.inr (Or.inl ⟨_, _, _, _, rfl, rfl, by assumption, by rfl, ?_⟩)
  | refine ⟨_, _, _, _, rfl, by decide, by decide, by assumption, ?_⟩
  | refine ⟨_, _, _, rfl, by assumption, ?_⟩
  | refine ⟨_, _, rfl, by assumption, ?_⟩
  | refine ⟨_, _, rfl, .inl (SqL.of (by assumption)), ?_⟩
  | refine ⟨_, _, rfl, .inl (SqL.of upd_same), ?_⟩
  | refine ⟨_, _, rfl, .inl (by assumption), ?_⟩
  | refine ⟨_, _, rfl, .inr (SqT.of (by assumption)), ?_⟩
  | refine ⟨_, _, rfl, .inr (SqT.of upd_same), ?_⟩
  | refine ⟨_, _, rfl, .inr (by assumption), ?_⟩
  | (refine And.intro ?_ ?_; focus (walk_at "rd cond")))
local macro_rules | `(tactic| walk_at "rd") => `(tactic| repeat (walk_at "rd1"))
/-! Kg1: defs that are called while nothing is being shown (no guard runs), so that they may ask repr of lists. -/
namespace Kg
open PySem PySem.Spec PyProof.Rows L2

section
variable {P : Program} {w : World} {K : PySem.W.Frag} {mg : Str → Option Value} {base : Heap} {CX : CXT} {k : Nat} {f : Addr} {fd : FuncData} {ps : List Str} {sp : Sp}
/-- a def's promise, kept where no guard runs around the call -/
structure FnG (P : Program) (w : World) (K : PySem.W.Frag) (mg : Str → Option Value) (base : Heap) (CX : CXT)
    (k : Nat) (f : Addr) (fd : FuncData) (ps : List Str) (sp : Sp) : Prop where
  many : ∀ vs H Q E, sp vs H Q E → vs.length = ps.length
  goes : ∀ (A : Around) (outer : List Env) (s : Shared) (H : Hp) (args : Args) (us : List Value) (vs : List V) (Q : VK) (E : XK),
    Room k A → A.guards = some [] → Env0 P w K mg base A outer s H → BindsTo s fd args (ps.zip us) → Vals vs us →
    sp vs H Q E → codeAny (model P w) A (.call (.ref f) args) (CR CX outer P w H s Q E) s
theorem FnG.of (F : FnOk P w K mg base CX k f fd ps sp) : FnG P w K mg base CX k f fd ps sp :=
  ⟨F.len, fun A outer s H args us vs Q E hr _ => F.run A outer s H args us vs Q E hr⟩
theorem FnG.mono {j : Nat} (F : FnG P w K mg base CX j f fd ps sp) (h : j ≤ k) : FnG P w K mg base CX k f fd ps sp :=
  ⟨F.many, fun A outer s H args us vs Q E hr => F.goes A outer s H args us vs Q E (hr.mono h)⟩
end

theorem guards_deeper (A : Around) (env : Env) : (A.deeper env).guards = A.guards := rfl

section
variable {P : Program} {w : World} {K : PySem.W.Frag} {mg : Str → Option Value} {base : Heap} {CX : CXT} {k : Nat} {f : Addr}
variable {name qual : Str} {pars : Arguments} {body : List Stmt} {sc : Scope} {dV kV doc pm cdv ct oc : Value} {an od : Option Addr} {osl : Array (Option Value)} {N ps : List Str} {sp : Sp}
/-- a def by its body, where no guard runs -/
theorem fnG_of (at_f : K.lookup f = some ⟨oc, od, .func (PySem.W.fnOf name qual pars body sc dV kV doc pm an cdv ct), osl⟩)
    (its_code : PySem.W.codeIn K cdv qual = true) (S : FnScope N ps sc) (many : ∀ vs H Q E, sp vs H Q E → vs.length = ps.length)
    (its_body : ∀ (A : Around) (outer : List Env) (s : Shared) (H : Hp) (vs : List V) (Q : VK) (E : XK),
      Room k (A.deeper (envOfC qual sc s.heap.objs.size f cdv)) → A.guards = some [] → sp vs H Q E →
      ∃ t, PSs (cxOf CX P w K mg base N qual sc f cdv A outer s H E) body t ∧
        t { nx := fun _ H' => Q .non H', rt := Q } (start N vs) H) :
    FnG P w K mg base CX (k + 1) f (PySem.W.fnOf name qual pars body sc dV kV doc pm an cdv ct) ps sp := by
  constructor
  · exact many
  · intro A outer s H args us vs Q E hr hg e0 hb r hs
    have hl := many _ _ _ _ hs
    have old : ∀ b o, base.get? b = some o → s.heap.get? b = some o := fun b o e => (e0.bs b o e).1
    have here : K.In s.heap := e0.mod.kin.keeps old
    have kinds : ∀ y ∈ ps.zip us, sc.names.lookup y.1 = some .local ∨
        (sc.names.lookup y.1 = some .cell ∧ ((cellsFrom (s.heap.objs.size + 1) sc.names []).lookup y.1).isSome = true) := by
      rintro ⟨n, v⟩ hy
      exact (S.par n (List.of_mem_zip hy).1).imp id fun q => ⟨q, PySem.W.cellsFrom_some _ _ _ (.inl q)⟩
    apply codeAny_call_function hr.depth (here _ _ at_f) rfl S.co S.gen rfl (PySem.W.codeRec_of here its_code) (hb _ _ _ _ _)
    apply wpAny_newFunctionEnv_cells S.kind kinds
    intro fun' env he s1
    subst env
    refine ⟨(e0.mod.nolimit.keeps old).keeps s1.toInCall.keep, codeAny_func ?_⟩
    obtain ⟨t, ht, hq⟩ := its_body A outer s H vs Q E (hr.deeper _) hg hs
    have J := inv_start (CX := CX) (E := E) S hr.hd e0 hl r s1
    refine wpAny_mono (ht.run [] _ (start N vs) H _ J hq) ?_ fun e s' z => z
    rintro fl s' hh
    have fin : ∀ {σ' : L2.St} {H' : Hp} {v : V} {u : Value}, Inv (cxOf CX P w K mg base N qual sc f cdv A outer s H E) [] σ' H' s' →
        RelV v u → Q v H' → CE outer P w H s Q u s' := by
      intro σ' H' v u I rv q
      exact ⟨v, H', I.os, I.bare, I.base, I.hok, rv, q⟩
    cases fl with
    | next => exact hh.elim fun σ' z => z.elim fun H' z => fin (v := V.non) (u := Value.none) z.1 rfl z.2
    | ret u => exact hh.elim fun v z => z.elim fun σ' z => z.elim fun H' z => fin z.1 z.2.1 z.2.2
    | brk => exact (hh.elim fun _ z => z.elim fun _ z => z.2).elim
    | cont => exact (hh.elim fun _ z => z.elim fun _ z => z.2).elim
end

section
variable {P : Program} {w : World} {K : PySem.W.Frag} {mg : Str → Option Value} {base : Heap}
theorem okG {x qual : Str} {st : Stmt} {f : Addr} {fd : FuncData} {N ps : List Str} {k : Nat} {sp : Sp} (F : Fun K x qual st f fd)
    (S : FnScope N ps (defScope st)) (many : ∀ vs H Q E, sp vs H Q E → vs.length = ps.length)
    (its_body : ∀ (cdv : Value) (A : Around) (outer : List Env) (s : Shared) (H : Hp) (vs : List V) (Q : VK) (E : XK),
      Room k (A.deeper (envOfC qual (defScope st) s.heap.objs.size f cdv)) → A.guards = some [] → sp vs H Q E →
      ∃ t, PSs (cxOf CX0 P w K mg base N qual (defScope st) f cdv A outer s H E).nox (defBody st) t ∧
        t { nx := fun _ H' => Q .non H', rt := Q } (start N vs) H) : FnG P w K mg base CX0 (k + 1) f fd ps sp := by
  obtain ⟨oc, od, kV, doc, pm, an, cdv, ct, osl, e, lk, hcd⟩ := F.ex
  subst e
  refine fnG_of lk hcd S many ?_
  intro A outer s H vs Q E hr hg hs
  obtain ⟨t, h, q⟩ := its_body cdv A outer s H vs Q E hr hg hs
  exact ⟨t, h.nox, q⟩
end

section
variable {X : Cx} {CX : CXT} {k : Nat} {f : Addr} {fd : FuncData} {ps : List Str} {sp : Sp} {dvs : List V} {ds : List Value} {E : XK} {x : Str} {p pos : Pos} {e : Expr} {es : List Expr} {t : TA}
theorem runG {pins : List (Addr × Obj)} {σ : L2.St} {H : Hp} {s : Shared} {Q : VK} {us : List Value} {vs : List V}
    (F : FnG X.prog X.w X.K X.mg X.base CX k f fd ps sp) (hr : Room k X.A) (gd : X.A.guards = some []) (hb : Binds X.K fd ps ds)
    (hd : Vals dvs ds) (hx : Passes CX X E) (I : Inv X pins σ H s) (r : Vals vs us) (h : sp (vs ++ dvs) H Q E) :
    wpAny (model X.prog X.w) X.A (call (.ref f) us) (EP X pins σ Q) X.xe s := by
  have both : Vals (vs ++ dvs) (us ++ ds) := r.append hd
  have hl : (us ++ ds).length = ps.length := both.length ▸ F.many _ _ _ _ h
  have it := F.goes X.A X.stack s H ⟨us, []⟩ (us ++ ds) (vs ++ dvs) Q E hr gd I.env0 (hb s us I.kIn hl) both h
  refine wpAny_call (codeAny_mono it ?_)
  rintro (e | fl) s' hq
  · exact hx pins σ H s e s' I hq
  · cases fl <;> first | exact I.after hq | exact False.elim hq
theorem pe_callG (F : FnG X.prog X.w X.K X.mg X.base CX k f fd ps sp) (hr : Room k X.A) (gd : X.A.guards = some []) (hg : Gl X x)
    (hm : X.mg x = some (.ref f)) (hk : PySem.W.keepIn X.K (.ref f) = true) (hb : Binds X.K fd ps ds) (hd : Vals dvs ds) (hx : Passes CX X E)
    (ha : PA X (e :: es) t) (hdb : (x == ("__debug__" : Str)) = false := by decide)
    (he : starEach (e :: es) X.env = (false, eval e X.env) :: starEach es X.env := by rfl)
    (hpl : (backTo pos (starEach es X.env)).any (·.1) = false := by rfl) : PE X (.Call (.Name x p) (e :: es) [] pos) (tCall sp dvs E t) := by
  constructor
  intro pins s σ H Q I h
  apply wpAny_Call_Name_kw (ld_glob I hg hm _ hdb)
  refine PySem.W.callWith_K (h₀ := X.base) I.ok.mod.kin hk ?_ he hpl
  refine thn (ha.run pos pins s σ H _ I h) ?_
  rintro us s1 ⟨vs, H1, I1, r, q⟩
  exact ⟨I1.kIn, runG F hr gd hb hd hx I1 r q⟩

/-- f(k = v, ..): keywords alone -/
theorem pe_callKW {ks : List Str} {kws : List Keyword} {g : List Value → List Value → List Value} {gV : List V → List V → List V} {tk : TA}
    (F : FnOk X.prog X.w X.K X.mg X.base CX k f fd ps sp) (hr : Room k X.A) (hg : Gl X x) (hm : X.mg x = some (.ref f))
    (hk : PySem.W.keepIn X.K (.ref f) = true) (hb : KBinds X.K fd ps ks g gV) (hx : Passes CX X E) (hkw : PK X kws tk)
    (hall : (backToKw pos (keywordEach kws X.env)).all (·.1.isSome) = true := by rfl)
    (hks : (backToKw pos (keywordEach kws X.env)).filterMap (·.1) = ks := by rfl) (hdb : (x == ("__debug__" : Str)) = false := by decide)
    (hpl : (backToKw pos (keywordEach kws X.env)).any (·.1.isNone) = false := by rfl) :
    PE X (.Call (.Name x p) [] kws pos) (tCallK sp gV E tNil tk) := by
  constructor
  intro pins s σ H Q I h
  apply wpAny_Call_Name_kw (ld_glob I hg hm _ hdb)
  refine PySem.W.callWith_KW0 (h₀ := X.base) I.ok.mod.kin hk hall ?_ ?_
  · refine thn (hkw.run pos pins s σ H _ I h) ?_
    rintro ws s2 ⟨zs, H2, I2, rz, q2⟩
    refine ⟨I2.kIn, ?_⟩
    rw [hks]
    exact run_fnk (us := []) (vs := []) F hr hb hx I2 .nil rz q2
  · exact hpl
end
end Kg
/-! Kg2: data of any depth (dicts with written keys among them): what stands for it, its repr, its kind. -/
namespace Kg
open PySem PySem.Spec PyProof.Rows L2
open Evl (Ex)

def keyD : Key → PyData
  | .inl i => .int i
  | .inr x => .str x
mutual
inductive Da (K : PySem.W.Frag) (H : Hp) : V → PyData → Prop
  | non : Da K H .non .none
  | bl (b : Bool) : Da K H (.bl b) (.bool b)
  | int (i : Int) : Da K H (.int i) (.int i)
  | str (x : Str) : Da K H (.str x) (.str x)
  | lst {a : Addr} {xs : List V} {ds : List PyData} : SqL K H a xs → DaAll K H xs ds → Da K H (.ref a) (.list ds)
  | tup {a : Addr} {xs : List V} {ds : List PyData} : SqT K H a xs → DaAll K H xs ds → Da K H (.ref a) (.tuple ds)
  | dct {a : Addr} {kvs : List (Key × V)} {ds : List PyData} : H a = some (.dK kvs) → DaAll K H (kvs.map (·.2)) ds →
      Da K H (.ref a) (.dict ((kvs.map fun kv => keyD kv.1).zip ds))
inductive DaAll (K : PySem.W.Frag) (H : Hp) : List V → List PyData → Prop
  | nil : DaAll K H [] []
  | cons {v : V} {vs : List V} {d : PyData} {ds : List PyData} : Da K H v d → DaAll K H vs ds → DaAll K H (v :: vs) (d :: ds)
end
theorem DaAll.len {K : PySem.W.Frag} {H : Hp} : ∀ {vs : List V} {ds : List PyData}, DaAll K H vs ds → vs.length = ds.length
  | _, _, .nil => rfl
  | _, _, .cons _ t => by simp [DaAll.len t]
theorem DaAll.at {K : PySem.W.Frag} {H : Hp} : ∀ {vs : List V} {ds : List PyData} {i : Nat} {v : V}, DaAll K H vs ds → vs[i]? = some v → ∃ d, ds[i]? = some d ∧ Da K H v d
  | _, _, _, _, .nil, h => by simp at h
  | _, _, 0, _, .cons h _, e => ⟨_, rfl, by simp at e; exact e ▸ h⟩
  | _, _, i + 1, _, .cons _ t, e => DaAll.at (i := i) t (by simpa using e)
theorem DaAll.app {K : PySem.W.Frag} {H : Hp} : ∀ {vs ws : List V} {ds es : List PyData}, DaAll K H vs ds → DaAll K H ws es → DaAll K H (vs ++ ws) (ds ++ es)
  | _, _, _, _, .nil, h => h
  | _, _, _, _, .cons h t, g => .cons h (DaAll.app t g)
mutual
theorem Da.mono {K : PySem.W.Frag} {H H' : Hp} (e : Ex H H') : ∀ {v : V} (d : PyData), Da K H v d → Da K H' v d
  | _, .none, .non => .non
  | _, .bool _, .bl b => .bl b
  | _, .int _, .int i => .int i
  | _, .str _, .str x => .str x
  | _, .list ds, .lst h t => .lst (Evl.ex_l e h) (DaAll.mono e ds t)
  | _, .tuple ds, .tup h t => .tup (Evl.ex_t e h) (DaAll.mono e ds t)
  | _, .dict _, .dct h t => .dct (e _ _ h) (DaAll.mono e _ t)
theorem DaAll.mono {K : PySem.W.Frag} {H H' : Hp} (e : Ex H H') : ∀ {vs : List V} (ds : List PyData), DaAll K H vs ds → DaAll K H' vs ds
  | _, [], .nil => .nil
  | _, d :: ds, .cons h t => .cons (Da.mono e d h) (DaAll.mono e ds t)
end
/-- the modules' dict stands, known and not to be written -/
def Sys (H : Hp) : Prop := ∃ o φ, H sysModules = some (.frz o (.ext φ))
theorem Sys.mono {H H' : Hp} (e : Ex H H') (h : Sys H) : Sys H' := by
  obtain ⟨o, φ, h⟩ := h
  exact ⟨o, φ, e _ _ h⟩
/-- it is none of the written part's lists and tuples -/
def OffK (K : PySem.W.Frag) : Prop := K.lookup sysModules = none

section
variable {X : Cx} {pins : List (Addr × Obj)} {σ : L2.St} {H : Hp} {s : Shared}
theorem off_l {K : PySem.W.Frag} {a : Addr} {xs : List V} (y : Sys H) (k : OffK K) (h : SqL K H a xs) : a ≠ sysModules := by
  rintro rfl
  obtain ⟨o, φ, e⟩ := y
  rcases h with (h | ⟨o', h⟩) | ⟨o', _, _, h, _⟩
  · rw [e] at h; cases h
  · rw [e] at h; cases h
  · rw [show K.lookup sysModules = none from k] at h; cases h
theorem pairs_keys {P : Program} {w : World} {h : Heap} : ∀ {es : List DictEntry} {kvs : List (Key × Value)}, Pairs (mixKind P w) es kvs → ReadsAll h (es.map (·.key)) (kvs.map fun kv => keyD kv.1) []
  | _, _, .nil => .nil
  | e :: es, kv :: kvs, .cons g _ t => by
    have r : Reads h e.key (keyD kv.1) [] := by
      rcases keyIs_shape (show keyIs kv.1 e.key = true from g) with ⟨i, t, e1, e2⟩ | ⟨x, t, e1, e2⟩
      · rw [e1, e2]; exact Reads.int i t
      · rw [e1, e2]; exact Reads.str x t
    exact ReadsAll.cons (as := []) (bs := []) r (pairs_keys t)
theorem pairs_vals {P : Program} {w : World} : ∀ {es : List DictEntry} {kvs : List (Key × Value)}, Pairs (mixKind P w) es kvs → es.map (·.val) = kvs.map (·.2)
  | _, _, .nil => rfl
  | _, _, .cons _ e t => by simp [e, pairs_vals t]
theorem kv_vals : ∀ {kvs : List (Key × V)} {vs : List (Key × Value)}, KV kvs vs → Vals (kvs.map (·.2)) (vs.map (·.2)) ∧ vs.map (fun kv => keyD kv.1) = kvs.map fun kv => keyD kv.1
  | _, _, .nil => ⟨.nil, rfl⟩
  | _, _, .cons r t => ⟨.cons r.2 (kv_vals t).1, by simp [r.1, (kv_vals t).2]⟩
theorem zip_fst {α β : Type} : ∀ {xs : List α} {ys : List β}, xs.length = ys.length → (xs.zip ys).map (·.1) = xs
  | [], _, _ => rfl
  | _ :: _, [], h => by simp at h
  | x :: xs, y :: ys, h => by simp [zip_fst (xs := xs) (ys := ys) (by simpa using h)]
theorem zip_snd {α β : Type} : ∀ {xs : List α} {ys : List β}, xs.length = ys.length → (xs.zip ys).map (·.2) = ys
  | [], [], _ => rfl
  | [], _ :: _, h => by simp at h
  | _ :: _, [], h => by simp at h
  | x :: xs, y :: ys, h => by simp [zip_snd (xs := xs) (ys := ys) (by simpa using h)]
mutual
theorem Da.reads (I : Inv X pins σ H s) (y : Sys H) (k : OffK X.K) : ∀ (d : PyData) (v : V) (u : Value), Da X.K H v d → RelV v u → ∃ as, Reads s.heap u d as ∧ sysModules ∉ as
  | .none, _, _, .non, r => by cases r; exact ⟨_, Reads.none, by simp⟩
  | .bool b, _, _, .bl _, r => by cases r; exact ⟨_, Reads.bool b, by simp⟩
  | .int i, _, _, .int _, r => by obtain ⟨t, rfl⟩ := r; exact ⟨_, Reads.int i t, by simp⟩
  | .str x, _, _, .str _, r => by obtain ⟨t, rfl⟩ := r; exact ⟨_, Reads.str x t, by simp⟩
  | .list ds, _, _, .lst (a := a) hs ha, r => by
    cases r
    obtain ⟨its, rv, ⟨o, n, ho, hc, _, hd⟩, _⟩ := I.list hs
    obtain ⟨as, hr, hn⟩ := DaAll.reads I y k ds _ its ha rv
    have na := off_l y k hs
    exact ⟨_, Reads.list ho hc hd hr, by simp [hn, Ne.symm na]⟩
  | .tuple ds, _, _, .tup hs ha, r => by
    cases r
    obtain ⟨its, rv, ⟨o, ho, hc, n, hd⟩, _⟩ := I.tuple hs
    obtain ⟨as, hr, hn⟩ := DaAll.reads I y k ds _ its ha rv
    exact ⟨_, Reads.tuple ho hc hd hr, hn⟩
  | .dict _, _, _, .dct (a := a) (kvs := kvs) (ds := ds) he ha, r => by
    cases r
    obtain ⟨z, hsy, vs, rel, o, es, ep, ho, hx, hd, hk, hp, nd⟩ := I.hok a _ he
    obtain ⟨rv, ek⟩ := kv_vals rel
    obtain ⟨bs, hr, hn⟩ := DaAll.reads I y k ds _ (vs.map (·.2)) ha rv
    have hl : (kvs.map fun kv => keyD kv.1).length = ds.length := by
      rw [List.length_map, ← ha.len, List.length_map]
    have r1 := pairs_keys (h := s.heap) hp
    rw [ek] at r1
    have r2 := pairs_vals hp
    refine ⟨a :: [] ++ bs, Reads.dict ho hx.1 hd (as := []) ?_ ?_, ?_⟩
    · rw [zip_fst hl]; exact r1
    · rw [zip_snd hl, r2]; exact hr
    · have na : a ≠ sysModules := by simpa using hsy
      simp [hn, Ne.symm na]
theorem DaAll.reads (I : Inv X pins σ H s) (y : Sys H) (k : OffK X.K) : ∀ (ds : List PyData) (vs : List V) (us : List Value), DaAll X.K H vs ds → Vals vs us → ∃ as, ReadsAll s.heap us ds as ∧ sysModules ∉ as
  | [], _, _, .nil, r => by cases r; exact ⟨_, ReadsAll.nil, by simp⟩
  | d :: ds, _, _, .cons h1 h2, r => by
    cases r with
    | cons r1 r2 =>
      obtain ⟨as, q1, n1⟩ := Da.reads I y k d _ _ h1 r1
      obtain ⟨bs, q2, n2⟩ := DaAll.reads I y k ds _ _ h2 r2
      exact ⟨_, ReadsAll.cons q1 q2, by simp [n1, n2]⟩
end

/-- repr(x), x of any data -/
def rRepr (K : PySem.W.Frag) : List V → Hp → VK → Prop := fun xs H Q => ∃ x d, xs = [x] ∧ Da K H x d ∧ Sys H ∧ PyData.showable d = true ∧ d.shown.length ≤ sizeLine ∧ d.depth ≤ 60 ∧ Q (.str d.shown) H
theorem cr_repr (gd : X.A.guards = some []) (hu : X.A.units + 64 < cLine) (k : OffK X.K) : CallR X (.builtin "repr") (rRepr X.K) := by
  intro pins s σ H xs us Q I r h
  obtain ⟨x, d, e, hd, y, hs, hz, hdp, q⟩ := h
  subst e
  obtain ⟨u, e, rx⟩ := vals1 r
  subst e
  cases hd with
  | non => cases rx; exact PySem.P.repr_of_none ⟨.str _, H, I.tok _, ⟨_, rfl⟩, by simpa only [PyData.shown] using q⟩
  | bl b => cases rx; exact PySem.P.repr_of_bool ⟨.str _, H, I.tok _, ⟨_, rfl⟩, by simpa only [PyData.shown] using q⟩
  | int i =>
    obtain ⟨t, rfl⟩ := rx
    have hi : i.natAbs.log2 < 1920 := by simpa [PyData.showable] using hs
    exact PySem.P.repr_of_int hi ⟨.str _, H, I.tok _, ⟨_, rfl⟩, by simpa only [PyData.shown] using q⟩
  | str z =>
    obtain ⟨t, rfl⟩ := rx
    exact PySem.P.repr_of_str ⟨.str _, H, I.tok _, ⟨_, rfl⟩, by simpa only [PyData.shown] using q⟩ (by simpa only [PyData.shown] using hz)
  | @lst a ys ds h1 h2 =>
    cases rx
    obtain ⟨as, hr, hn⟩ := Da.reads I y k _ _ _ (Da.lst h1 h2) (show RelV (.ref a) (.ref a) from rfl)
    exact repr_of_reads' hr hs (fun _ => hn) gd (by omega) (fun _ _ e => e) (fun h' t tk kk => ⟨.str _, H, I.kept kk, ⟨_, rfl⟩, q⟩) hz
  | @tup a ys ds h1 h2 =>
    cases rx
    obtain ⟨as, hr, hn⟩ := Da.reads I y k _ _ _ (Da.tup h1 h2) (show RelV (.ref a) (.ref a) from rfl)
    exact repr_of_reads' hr hs (fun _ => hn) gd (by omega) (fun _ _ e => e) (fun h' t tk kk => ⟨.str _, H, I.kept kk, ⟨_, rfl⟩, q⟩) hz
  | @dct a kvs ds h1 h2 =>
    cases rx
    obtain ⟨as, hr, hn⟩ := Da.reads I y k _ _ _ (Da.dct h1 h2) (show RelV (.ref a) (.ref a) from rfl)
    exact repr_of_reads' hr hs (fun _ => hn) gd (by omega) (fun _ _ e => e) (fun h' t tk kk => ⟨.str _, H, I.kept kk, ⟨_, rfl⟩, q⟩) hz
/-- repr of what is no list, no tuple and no dict: no guard is asked -/
def rReprB : List V → Hp → VK → Prop := fun xs H Q => ∃ b, xs = [.bl b] ∧ Q (.str (if b then "True" else "False")) H
theorem cr_reprB : CallR X (.builtin "repr") rReprB := by
  intro pins s σ H xs us Q I r h
  obtain ⟨b, e, q⟩ := h
  subst e
  obtain ⟨u, e, rx⟩ := vals1 r
  subst e
  cases rx
  exact PySem.P.repr_of_bool ⟨.str _, H, I.tok _, ⟨_, rfl⟩, q⟩
end

/-! ### kinds -/
def tyD : PyData → String
  | .none => "NoneType" | .bool _ => "bool" | .int _ => "int" | .str _ => "str" | .list _ => "list" | .tuple _ => "tuple" | .dict _ => "dict"
theorem tyX_of {K : PySem.W.Frag} {H : Hp} {v : V} {d : PyData} (h : Da K H v d) : TyX K H v (.type (tyD d)) := by
  cases h with
  | non => exact .base .non
  | bl b => exact .base (.bl b)
  | int i => exact .base (.int i)
  | str x => exact .base (.str x)
  | lst h1 h2 =>
    rcases h1 with (h | ⟨o, h⟩) | ⟨o, _, _, h, c, _⟩
    · exact .base (.lst h)
    · exact .base (.frz h)
    · exact .kList h c
  | tup h1 h2 =>
    rcases h1 with (h | ⟨o, h⟩) | ⟨o, _, _, h, c, _⟩
    · exact .base (.tup h)
    · exact .fTuple h
    · exact .kTuple h c
  | dct h1 h2 => exact .base (.dK h1)
end Kg
/-! Kg4: set comprehensions whose members are tuples of ints. -/
namespace Kg
open PySem PySem.Spec PyProof.Rows L2 PpSet
section
variable {P : Program} {w : World} {A : Around} {E : Value → Shared → Prop} {s : Shared} {a : Addr}
/-- found.add((..)) -/
theorem set_add_tup {L : List (Addr × List Int)} {es : Array (Int × Value)} {ep : Nat} {t : SetTable} (R : SetTR P w s.heap a L es ep t)
    {x : Addr} {k : List Int} (hx : IsT P w s.heap k x) (hu : A.units + 1 < cLine) (few : L.length + 1 < 64) {Q : Value → Shared → Prop}
    (q : ∀ h' tk L' es' ep' t', Heap.SameBut a s.heap h' → SetTR P w h' a L' es' ep' t' → (k ∈ L.map (·.2) → L' = L) →
      (k ∉ L.map (·.2) → L'.Perm ((x, k) :: L)) → Q .none { s with heap := h', toks := tk }) :
    wpAny (model P w) A (call (.builtin "set.add") [.ref a, .ref x]) Q E s := by
  obtain ⟨o, ho, hex, hd⟩ := R.ob
  refine wpAny_call_entry F.slot_set_add (show s.TypeIs (.ref a) "set" from ⟨o, ho, hex.1⟩) F.entry_set_add ?_ (F.args_set_add_2 _ _)
  unfold Builtin.«set.add» Builtin.Frozenset.oneOther
  simp only [List.isEmpty_nil, bind_assoc]
  unfold Builtin.Frozenset.addrOf setAdd
  refine wpAny_bind (wpAny_pure ?_)
  try dsimp only
  refine wpAny_bind (wpAny_pure ?_)
  try dsimp only
  refine wpAny_bind ?_
  refine wpAny_holding ?_
  have room : A.in1.units < cLine := hu
  refine wpAny_bind (wpAny_pyHash_tuple room hx ?_)
  refine add_at (s := { s with toks := s.toks + (k.length + 1) }) R hx room few ?_
  intro b h' L' es' ep' t' sb R' c1 c2
  show wpAny _ _ (ret Value.none) _ _ _
  exact wpAny_pure ⟨_, rfl, q h' _ L' es' ep' t' sb R' c1 c2⟩
end

section
variable {X : Cx}
theorem addT_ok {pins : List (Addr × Obj)} {σ : L2.St} {H : Hp} {s : Shared} {E : Value → Shared → Prop} {D x : Addr} {L : List (Addr × List Int)} {k : List Int} {Q : Value → Shared → Prop}
    (I : Inv X pins σ H s) (hu : X.A.units + 1 < cLine) (hD : H D = some (SetTO X.prog X.w D L)) (hL : ∀ p ∈ L, SqT X.K H p.1 (p.2.map V.int))
    (hx : SqT X.K H x (k.map V.int)) (few : L.length + 1 < 64)
    (q : ∀ s' L', Inv X pins σ (upd H D (SetTO X.prog X.w D L')) s' → (k ∈ L.map (·.2) → L' = L) → (k ∉ L.map (·.2) → L'.Perm ((x, k) :: L)) → Q .none s') :
    wpAny (model X.prog X.w) X.A (call (.builtin "set.add") [.ref D, .ref x]) Q E s := by
  have R0 : SetT0 X.prog X.w s.heap D L := (I.hok D _ hD).1
  obtain ⟨es, ep, t, R⟩ := R0.full fun p hp => I.isT (hL p hp)
  refine set_add_tup R (I.isT hx) hu few ?_
  intro h' tk L' es' ep' t' sb R' c1 c2
  obtain ⟨o', ho', _⟩ := R'.ob
  refine q _ L' (I.write (e := D) (t' := tk) (by rw [hD]; trivial) (.inl rfl) ?_ ⟨o', ho'⟩ (setTO_new R'.t0)) c1 c2
  exact fun b u hb hu' => (sb.2 b hb).trans hu'

/-- a comprehension's reading: D the new set, L what it holds -/
def tScT (K : PySem.W.Frag) (P : Program) (w : World) (wi : TI) (g : TG) (tt : TT) (te : TE) (vs : List Nat) : TE := fun σ H Q => wi σ H fun J H1 =>
  ∀ D, H1 D = none → ∃ W : Nat → Nat → Hp → Prop, (∃ m, W 0 m (upd H1 D (SetTO P w D []))) ∧
    ∀ i m H, W i m H → (J.stop i H ∧ Q (.ref D) H) ∨
      (J.go i H ∧ ∃ Nx : Hp → Prop, (∀ H', Nx H' → ∃ m', m' < m ∧ W (i + 1) m' H') ∧
        ∀ x H', J.yld i H x H' → g x (wipe σ vs) H' fun σ2 H2 => wipe σ2 vs = wipe σ vs ∧ tt σ2 H2 fun b H3 =>
          if b = true then te σ2 H3 fun y H4 => ∃ (t : Addr) (k : List Int) (L : List (Addr × List Int)), y = .ref t ∧ SqT K H4 t (k.map V.int) ∧
            H4 D = some (SetTO P w D L) ∧ (∀ p ∈ L, SqT K H4 p.1 (p.2.map V.int)) ∧ L.length + 1 < 64 ∧
            ∀ L', (k ∈ L.map (·.2) → L' = L) → (k ∉ L.map (·.2) → L'.Perm ((t, k) :: L)) → Nx (upd H4 D (SetTO P w D L'))
          else Nx H3)

theorem scT_core {pins : List (Addr × Obj)} {s : Shared} {σ : L2.St} {H : Hp} {Q : VK} {el tg iter : Expr} {ifs : List Expr} {sc : Scope} {ow : List (PySem.Str × Nat)} {pos pos' : Pos} {wi : TI} {g : TG} {tt : TT} {te : TE}
    {use : Option (Value → Sem Unit)} {Qf : Value → Shared → Prop} (hu : X.A.units + 1 < cLine) (hc : X.calm = true) (hN : X.N.Nodup) (I : Inv X pins σ H s)
    (hi : PI X tg iter wi) (ok : BlkOk X.N X.env.scope sc ow)
    (pgs : ∀ (s : Shared) (H : Hp) (C : Addr) (cl : List (PySem.Str × Addr)) (fp : List Addr), PG (X.blk s H sc (compEnvC sc cl C X.env) fp) tg g)
    (pts : ∀ (s : Shared) (H : Hp) (C : Addr) (cl : List (PySem.Str × Addr)) (fp : List Addr), PTs (X.blk s H sc (compEnvC sc cl C X.env) fp) ifs tt)
    (pes : ∀ (s : Shared) (H : Hp) (C : Addr) (cl : List (PySem.Str × Addr)) (fp : List Addr), PE (X.blk s H sc (compEnvC sc cl C X.env) fp) el te)
    (hs : ∀ x, foldedSetIterable iter X.env x = pure x) (h : tScT X.K X.prog X.w wi g tt te (ow.map (·.2)) σ H Q)
    (fine : ∀ D C s' m H', Inv X pins σ H' s' → Q (.ref D) H' → s'.heap.Ns C m → FpOk X pins H' C →
      compPost (model X.prog X.w) X.A X.xe use Qf (.ref D) C (.ok .next) s') :
    wpAny (model X.prog X.w) X.A (comprehension (.SetComp el [⟨tg, iter, ifs, 0⟩] sc pos) sc X.env pos' (newSet (.type "set")) false (eval iter X.env) use) Qf X.xe s := by
  have frees : ∀ y ∈ sc.names, y.2 = .free → ∃ c, X.env.cells.lookup y.1 = some c := by
    intro y hy e
    rcases ok.free y hy e with z | z
    · exact I.ok.has _ (.inl z)
    · exact I.ok.has _ (.inr z)
  refine wpAny_comprehension_free (use := use) rfl hs (closure_ok frees) ok.kind (fun y hy e => by rw [ok.uniq y hy, e]) ?_
  refine thn (hi.run pins s σ H _ I h) ?_
  intro xv s1 hx
  refine thn hx ?_
  rintro itv s2 ⟨it, fp, tn, J, H2, e, I2, T, st2, f2, q⟩
  subst e
  refine newSet_ok (newEnv_comp ?_)
  generalize hD : s2.heap.objs.size = D
  obtain ⟨W, ⟨m0, w0⟩, turn⟩ := q D (I2.hok.fresh (Nat.le_of_eq hD))
  generalize hs3 : ({ s2 with heap := s2.heap.push { cls := .type "set", dict := none, data := .set #[] 0 (.fresh 0 0 (!X.w.params.followText "set-order")) } } : Shared) = s3
  have h3 : s3.heap = s2.heap.push { cls := .type "set", dict := none, data := .set #[] 0 (.fresh 0 0 (!X.w.params.followText "set-order")) } := by rw [← hs3]
  have I3 : Inv X pins σ (upd H2 D (SetTO X.prog X.w D [])) s3 := by
    rw [← hs3]
    refine I2.laid (t' := s2.toks) (fun b o e => Heap.get?_push_of_some _ e) (Nat.le_of_eq hD) ?_
    rw [← hD]
    exact setTO_new (setTR_fresh (P := X.prog) (Heap.get?_push_size _ rfl)).t0
  have szs : ∀ b ∈ fp, b < s2.heap.objs.size := by
    intro b hb
    obtain ⟨o, e, _⟩ := T.obj _ _ st2 b hb
    exact Heap.lt_size e
  have f3 : ∀ b ∈ fp, FpOk X pins (upd H2 D (SetTO X.prog X.w D [])) b ∧ b < s3.heap.objs.size := by
    intro b hb
    have lt := szs b hb
    refine ⟨⟨?_, (f2 b hb).2⟩, by rw [h3, Heap.size_push]; exact Nat.lt_succ_of_lt lt⟩
    rw [upd_ne (hD ▸ Nat.ne_of_lt lt)]
    exact (f2 b hb).1
  have st3 : tn 0 s3.heap := T.keep _ _ _ st2 fun b _ o e => h3 ▸ Heap.get?_push_of_some _ e
  have I4 := block_start I3 ok hN f3
  have pg := pgs s3 (upd H2 D (SetTO X.prog X.w D [])) s3.heap.objs.size (cellsFrom (s3.heap.objs.size + 1) sc.names (cloFrom X.env.cells sc.names [])) fp
  have pt := pts s3 (upd H2 D (SetTO X.prog X.w D [])) s3.heap.objs.size (cellsFrom (s3.heap.objs.size + 1) sc.names (cloFrom X.env.cells sc.names [])) fp
  have pe := pes s3 (upd H2 D (SetTO X.prog X.w D [])) s3.heap.objs.size (cellsFrom (s3.heap.objs.size + 1) sc.names (cloFrom X.env.cells sc.names [])) fp
  show codeAny _ _ (.compStart (.SetComp el [⟨tg, iter, ifs, 0⟩] sc pos) 0 (.ref it) (.ref D)
      (compEnvC sc (cellsFrom (s3.heap.objs.size + 1) sc.names (cloFrom X.env.cells sc.names [])) s3.heap.objs.size X.env))
    (compPost (model X.prog X.w) X.A X.xe use Qf (.ref D) s3.heap.objs.size)
    { s3 with heap := pushCells (s3.heap.push { cls := .type "dict", data := .dict #[] }) sc.names }
  have nfp : ∀ b ∈ fp, (upd H2 D (SetTO X.prog X.w D [])) b = none := fun b hb => (f3 b hb).1.1
  generalize hce : compEnvC sc (cellsFrom (s3.heap.objs.size + 1) sc.names (cloFrom X.env.cells sc.names [])) s3.heap.objs.size X.env = ce at I4 pg pt pe ⊢
  have cL : ce.locals = s3.heap.objs.size := hce ▸ rfl
  generalize hH3 : upd H2 D (SetTO X.prog X.w D []) = H3 at I3 I4 pg pt pe w0 nfp f3
  generalize hs4 : ({ s3 with heap := pushCells (s3.heap.push { cls := .type "dict", data := .dict #[] }) sc.names } : Shared) = s4 at I4 ⊢
  have st4 : tn 0 s4.heap := T.keep _ _ _ st3 fun b _ o e => hs4 ▸ pushCells_keeps _ _ _ _ (Heap.get?_push_of_some _ e)
  have stat : ∀ {σ' : L2.St} {H' : Hp} {s' : Shared}, Inv (X.blk s3 H3 sc ce fp) [] σ' H' s' → (∀ b ∈ fp, H' b = none) →
      ∀ b ∈ fp, FpOk (X.blk s3 H3 sc ce fp) [] H' b := by
    intro σ' H' s' J' hn b hb
    exact ⟨hn b hb, (J'.ok.exf b hb).1, J'.ok.exfs b hb, .inl hb, fun x c e => (J'.ok.exf b hb).2 x c e,
      fun p hp => absurd (show p ∈ ([] : List (Addr × Obj)) ++ [] from hp) (by simp)⟩
  have loop : codeAny (model X.prog X.w) X.A (.compLoop (.SetComp el [⟨tg, iter, ifs, 0⟩] sc pos) 0 (.ref it) (.ref D) ce)
      (compPost (model X.prog X.w) X.A X.xe use Qf (.ref D) s3.heap.objs.size) s4 := by
    refine compLoopS_any (fun n s' => ∃ i H', Inv (X.blk s3 H3 sc ce fp) [] (wipe σ (ow.map (·.2))) H' s' ∧
      tn i s'.heap ∧ (∀ b ∈ fp, H' b = none) ∧ W i n H') ?_ m0 ⟨0, H3, I4, st4, nfp, w0⟩
    rintro n s5 ⟨i, H5, I5, st5, n5, w5⟩
    rcases turn i n H5 w5 with ⟨stop, qq⟩ | ⟨go, Nx, hNx, step⟩
    · refine thnF (T.done (X.blk s3 H3 sc ce fp) rfl rfl rfl hc i [] s5 _ H5 (fun _ _ => False) I5 (stat I5 n5) st5 stop) ?_
      rintro r s6 ⟨hr, I6⟩
      subst hr
      have I7 : Inv X pins σ H5 s6 := I3.call' (ch := fp) I6.os I6.base I6.hok I6.bare fun b hb =>
        ⟨(f3 b hb).1.2.2.2.1, (f3 b hb).1.2.1, (f3 b hb).1.2.2.2.2.1, (f3 b hb).1.2.2.2.2.2⟩
      have nC : H5 s3.heap.objs.size = none := cL ▸ (show H5 ce.locals = none from I6.free)
      obtain ⟨m, hn, _⟩ := I6.loc
      have hn : s6.heap.Ns ce.locals m := hn
      rw [cL] at hn
      exact fine D s3.heap.objs.size s6 m H5 I7 qq hn (I3.fpOk (Nat.le_refl _) nC)
    · refine thnF (T.item (X.blk s3 H3 sc ce fp) rfl rfl rfl hc i [] s5 _ H5 (fun _ _ => False) I5 (stat I5 n5) st5 go) ?_
      rintro r s6 ⟨u, hr, h6⟩
      subst hr
      refine thnF h6 ?_
      rintro _ s7 ⟨x, H7, I7, r7, y7, st7, n7⟩
      refine thnF (pg.run _ s7 _ H7 x u _ (I7.pinned (stat I7 n7) (T.obj _ _ st7)) r7 (step x H7 y7)) ?_
      rintro _ s8 ⟨σ8, H8, I8, hw8, q8⟩
      refine thnF (pt.run _ s8 σ8 H8 _ I8 q8) ?_
      rintro b s9 ⟨H9, I9, q9⟩
      have fin : ∀ {s' : Shared} {H' : Hp}, Inv (X.blk s3 H3 sc ce fp) ([] ++ pinsAt fp s7.heap) σ8 H' s' → Nx H' →
          ∃ m, m < n ∧ ∃ i H', Inv (X.blk s3 H3 sc ce fp) [] (wipe σ (ow.map (·.2))) H' s' ∧ tn i s'.heap ∧ (∀ b ∈ fp, H' b = none) ∧ W i m H' := by
        intro s' H' J' nx
        obtain ⟨m', hm, w'⟩ := hNx H' nx
        have pin' : ∀ b ∈ fp, ∀ o, s7.heap.get? b = some o → s'.heap.get? b = some o ∧ H' b = none := by
          intro b hb o e
          have z := J'.pin (b, o) (List.mem_append_right _ (List.mem_append_right _ (mem_pinsAt hb e)))
          exact ⟨z.1, z.2.1⟩
        have hl : (wipe σ (ow.map (·.2))).length = σ8.length := by rw [← hw8, wipe_length]
        refine ⟨m', hm, i + 1, H', (J'.unpinned (pins := [])).weak hl ?_, T.keep _ _ _ st7 fun b hb o e => (pin' b hb o e).1, ?_, w'⟩
        · intro j v e
          rw [← hw8] at e
          exact (wipe_some e).1
        · intro b hb
          obtain ⟨o, e, _⟩ := T.obj _ _ st7 b hb
          exact (pin' b hb o e).2
      cases b with
      | false =>
        simp only [Bool.false_eq_true, if_false] at q9 ⊢
        exact fin I9 q9
      | true =>
        simp only [if_true] at q9 ⊢
        refine thnF (pe.run _ s9 σ8 H9 _ I9 q9) ?_
        rintro z s10 ⟨yv, H10, I10, r10, t, k, L, ey, ht, hD10, hL, few, nx⟩
        subst ey
        cases (show z = Value.ref t from r10)
        refine addT_ok (X := X.blk s3 H3 sc ce fp) I10 hu hD10 hL ht few ?_
        intro s11 L' I11 c1 c2
        exact fin I11 (nx L' c1 c2)
  exact PpSet.codeAny_compStart_set loop (T.self X.A 0 _ _ _ st4 loop)
/-- {(..) for x in xs}, a value -/
theorem pe_scT {el tg iter : Expr} {ifs : List Expr} {sc : Scope} {ow : List (PySem.Str × Nat)} {pos : Pos} {wi : TI} {g : TG} {tt : TT} {te : TE} (hu : X.A.units + 1 < cLine) (hc : X.calm = true) (hN : X.N.Nodup)
    (hi : PI X tg iter wi) (ok : BlkOk X.N X.env.scope sc ow)
    (pgs : ∀ (s : Shared) (H : Hp) (C : Addr) (cl : List (PySem.Str × Addr)) (fp : List Addr), PG (X.blk s H sc (compEnvC sc cl C X.env) fp) tg g)
    (pts : ∀ (s : Shared) (H : Hp) (C : Addr) (cl : List (PySem.Str × Addr)) (fp : List Addr), PTs (X.blk s H sc (compEnvC sc cl C X.env) fp) ifs tt)
    (pes : ∀ (s : Shared) (H : Hp) (C : Addr) (cl : List (PySem.Str × Addr)) (fp : List Addr), PE (X.blk s H sc (compEnvC sc cl C X.env) fp) el te)
    (hs : ∀ x, foldedSetIterable iter X.env x = pure x := by intro _; rfl) :
    PE X (.SetComp el [⟨tg, iter, ifs, 0⟩] sc pos) (tScT X.K X.prog X.w wi g tt te (ow.map (·.2))) := by
  constructor
  intro pins s σ H Q I h
  rw [eval_SetComp]
  refine scT_core hu hc hN I hi ok pgs pts pes hs h ?_
  intro D C s' m H' I' q hn f
  refine ⟨m, hn, ?_⟩
  intro h'' sb
  obtain ⟨f0, f1, _, f3, f4, f5⟩ := f
  exact ⟨.ref D, H', I'.turned (t' := s'.toks) (fun b o hb e => (sb.2 b hb).trans e) f0 f1 f3 f4 f5, rfl, q⟩
end
/-- the turns of such a comprehension over a list or a tuple that stands -/
theorem scT_seq {P : Program} {w : World} {K : PySem.W.Frag} {J : It} {xs : List V} {g : TG} {tt : TT} {te : TE} {vs : List Nat} {σ : L2.St} {H1 : Hp} {D : Addr} {Qd : Hp → Prop} (Pv : Nat → Hp → Prop)
    (h0 : Pv 0 (upd H1 D (SetTO P w D []))) (stops : ∀ H, Pv xs.length H → J.stop xs.length H) (goes : ∀ i H, i < xs.length → Pv i H → J.go i H)
    (yields : ∀ i H x H', i < xs.length → Pv i H → J.yld i H x H' → H' = H ∧ xs[i]? = some x)
    (hs : ∀ i x H, xs[i]? = some x → Pv i H → g x (wipe σ vs) H fun σ2 H2 => wipe σ2 vs = wipe σ vs ∧ tt σ2 H2 fun b H3 =>
      if b = true then te σ2 H3 fun y H4 => ∃ (t : Addr) (k : List Int) (L : List (Addr × List Int)), y = .ref t ∧ SqT K H4 t (k.map V.int) ∧
        H4 D = some (SetTO P w D L) ∧ (∀ p ∈ L, SqT K H4 p.1 (p.2.map V.int)) ∧ L.length + 1 < 64 ∧
        ∀ L', (k ∈ L.map (·.2) → L' = L) → (k ∉ L.map (·.2) → L'.Perm ((t, k) :: L)) → Pv (i + 1) (upd H4 D (SetTO P w D L'))
      else Pv (i + 1) H3) (hd : ∀ H, Pv xs.length H → Qd H) :
    ∃ W : Nat → Nat → Hp → Prop, (∃ m, W 0 m (upd H1 D (SetTO P w D []))) ∧
      ∀ i m H, W i m H → (J.stop i H ∧ Qd H) ∨
        (J.go i H ∧ ∃ Nx : Hp → Prop, (∀ H', Nx H' → ∃ m', m' < m ∧ W (i + 1) m' H') ∧
          ∀ x H', J.yld i H x H' → g x (wipe σ vs) H' fun σ2 H2 => wipe σ2 vs = wipe σ vs ∧ tt σ2 H2 fun b H3 =>
            if b = true then te σ2 H3 fun y H4 => ∃ (t : Addr) (k : List Int) (L : List (Addr × List Int)), y = .ref t ∧ SqT K H4 t (k.map V.int) ∧
              H4 D = some (SetTO P w D L) ∧ (∀ p ∈ L, SqT K H4 p.1 (p.2.map V.int)) ∧ L.length + 1 < 64 ∧
              ∀ L', (k ∈ L.map (·.2) → L' = L) → (k ∉ L.map (·.2) → L'.Perm ((t, k) :: L)) → Nx (upd H4 D (SetTO P w D L'))
            else Nx H3) := by
  refine ⟨fun i m H => m = xs.length - i ∧ i ≤ xs.length ∧ Pv i H, ⟨xs.length, by simp, Nat.zero_le _, h0⟩, ?_⟩
  rintro i m H ⟨rfl, hi, p⟩
  by_cases lt : i < xs.length
  · refine .inr ⟨goes i H lt p, Pv (i + 1), fun H' p' => ⟨xs.length - (i + 1), by omega, rfl, lt, p'⟩, ?_⟩
    intro x H' y
    obtain ⟨e, hx⟩ := yields i H x H' lt p y
    subst e
    exact hs i x _ hx p
  · obtain rfl : i = xs.length := by omega
    exact .inl ⟨stops H p, hd H p⟩
end Kg
namespace PySem.SeqAt
open PySem
theorem list_eq_no_dict (l b : Addr) (items : Array Value) (es : Array DictEntry) (n n2 : Nat) (dd dd2 : Option Addr) (sl sl2 : Array (Option Value)) :
    Meets (Builtin.«list.__eq__» ⟨[.ref l, .ref b], []⟩) (fun _ R s =>
      s.heap.get? l = some { cls := .type "list", dict := dd, data := .seq items n, slots := sl } ∧
      s.heap.get? b = some { cls := .type "dict", dict := dd2, data := .dict es n2, slots := sl2 } ∧ R (.ok (.ret .notImplemented)) s) := by
  refine .of_wp fun prog w A R s h => ?_
  obtain ⟨hp, g, d, tk, os⟩ := s
  obtain ⟨hl, hb, h⟩ := h
  have f1 := F.sub_dict_list
  wp_walk using wpAny_loadPart' hl, wpAny_loadPart' hb
  exact ⟨_, rfl, h⟩
section
variable {A : Around} {s : Shared}
/-- a dict is no list -/
theorem RcAt.dict_list {l b : Addr} {items : Array Value} {o : Obj} {es : Array DictEntry} {ep : Nat} (ho : s.heap.get? b = some o) (hx : o.ExactDict)
    (hd : o.data = .dict es ep) (hl : s.heap.IsList l items) (hu : A.units < cLine) : RcAt A s (.ref b) (.ref l) false := by
  intro prog w E Q h
  obtain ⟨⟨c1, d1, a1, s1⟩, h1, k1, n1, e1⟩ := id hl
  obtain ⟨c2, d2, a2, s2⟩ := o
  obtain ⟨k2, _⟩ := hx
  simp only at k1 e1 k2 hd
  subst k1 e1 k2 hd
  have ne : b ≠ l := by
    intro e
    rw [e, h1] at ho
    injection ho with e2
    injection e2 with e3
    injection e3 with e4
    exact absurd e4 (by decide)
  have tb : s.TypeIs (.ref b) "dict" := ⟨_, ho, rfl⟩
  refine rc_eq_decline_or (k := false) tb ⟨_, h1, rfl⟩ (by decide) F.sub_list_dict F.slot_dict_eq F.slot_list_eq_refl ?_ ?_ ?_ (.inr hu) h
  · intro Q' hq
    refine wpAny_call_entry F.slot_dict_eq tb F.entry_dict_eq ?_ (F.args_dict_eq_2 _ _)
    show wpAny _ _ (Builtin.Dict.dictSlotArgs "__eq__" ⟨[.ref b, .ref l], []⟩ >>= _) _ _ s
    refine wpAny_bind ?_
    unfold Builtin.Dict.dictSlotArgs
    refine wpAny_bind (wpAny_notOrdered_dict tb ?_)
    show wpAny _ _ (pure (Value.ref b, Value.ref l)) _ _ s
    refine wpAny_pure ?_
    refine wpAny_bind (wpAny_isInstance (T := "list") ⟨_, h1, rfl⟩ F.sub_list_dict ?_)
    simp only [Bool.not_false, if_true]
    first
      | exact wpAny_pure ⟨_, rfl, hq⟩
      | exact wpAny_bind (wpAny_rule (wpAny_pure ⟨_, rfl, hq⟩))
  · intro Q' hq
    exact call_meets F.slot_list_eq_refl ⟨_, h1, rfl⟩ F.entry_list_eq (F.args_list_eq_2 _ _) (list_eq_no_dict l b items es n1 ep d1 d2 s1 s2) ⟨h1, ho, hq⟩
  · intro Q' hq
    exact wpAny_isSame_ref_other' ne ho h1 (by simp) hq
end
end PySem.SeqAt
namespace Kg
open PySem PySem.Spec PyProof.Rows L2
open Evl (Ex)

theorem pi_or {X : Cx} {tg l : Expr} {t1 t2 : TI} (h1 : PI X tg l t1) (h2 : PI X tg l t2) : PI X tg l (fun σ H R => t1 σ H R ∨ t2 σ H R) := by
  constructor
  intro pins s σ H R I h
  exact h.elim (h1.run pins s σ H R I) (h2.run pins s σ H R I)

mutual
theorem Da.dp {K : PySem.W.Frag} {H : Hp} : ∀ (d : PyData) {v : V}, PyData.canLay0 d = true → Da K H v d → Dp K H v d
  | .none, _, _, .non => .non
  | .bool _, _, _, .bl b => .bl b
  | .int _, _, _, .int i => .int i
  | .str _, _, _, .str x => .str x
  | .list ds, _, h, .lst a b => .lst a (DaAll.dp ds (by simpa [PyData.canLay0] using h) b)
  | .tuple ds, _, h, .tup a b => .tup a (DaAll.dp ds (by simpa [PyData.canLay0] using h) b)
  | .dict _, _, h, _ => by simp [PyData.canLay0] at h
theorem DaAll.dp {K : PySem.W.Frag} {H : Hp} : ∀ (ds : List PyData) {vs : List V}, PyData.canLayAll0 ds = true → DaAll K H vs ds → DpAll K H vs ds
  | [], _, _, .nil => .nil
  | d :: ds, _, h, .cons a b => by
    have h2 : d.canLay0 = true ∧ PyData.canLayAll0 ds = true := by simpa [PyData.canLayAll0] using h
    exact .cons (Da.dp d h2.1 a) (DaAll.dp ds h2.2 b)
end
section
variable {X : Cx}
/-- a dict == a list -/
def rEqDL (K : PySem.W.Frag) : R2 := fun x y H Q => ∃ a b kvs ys, x = .ref a ∧ H a = some (.dK kvs) ∧ y = .ref b ∧ SqL K H b ys ∧ Q (.bl false) H
theorem op_eqDL (hu : X.A.units + 64 < cLine) : OpR X (compareOp .Eq) (rEqDL X.K) := by
  intro pins s σ H x y v u Q I rx ry h
  obtain ⟨a, b, kvs, ys, e1, ha, e2, hb, q⟩ := h
  subst e1
  subst e2
  cases (show v = Value.ref a from rx)
  cases (show u = Value.ref b from ry)
  obtain ⟨_, _, vs, _, o, es, ep, ho, hx, hd, _⟩ := I.hok a _ ha
  obtain ⟨its, _, pl, _⟩ := I.list hb
  exact PySem.SeqAt.RcAt.dict_list ho hx hd pl.isList (by omega) X.prog X.w X.xe _ ⟨.bl _, H, I, rfl, q⟩

/-- len of a new set of tuples -/
def rLenST (P : Program) (w : World) : List V → Hp → VK → Prop := fun xs H Q => ∃ a L, xs = [.ref a] ∧ H a = some (SetTO P w a L) ∧ Q (.int (L.length : Int)) H
theorem cr_lenST : CallR X (.builtin "len") (rLenST X.prog X.w) := by
  intro pins s σ H xs us Q I r h
  obtain ⟨a, L, e, ha, q⟩ := h
  subst e
  obtain ⟨u, e, rx⟩ := vals1 r
  subst e
  cases (show u = Value.ref a from rx)
  have R0 : SetT0 X.prog X.w s.heap a L := (I.hok a _ ha).1
  obtain ⟨es, ep, t, ⟨o, ho, hx, hd⟩, hr, tab, _, _, _, room, few⟩ := R0.ex
  have hl : es.size = L.length := by
    have := congrArg List.length hr
    simpa [rowsOf] using this
  have hp : t.place.size = L.length := by
    have := tab.sz
    rwa [List.length_map] at this
  have fits : t.fits es.size = true := by
    unfold SetTable.fits SetTable.fill
    rw [tab.dm]
    simp only [Bool.and_eq_true, beq_iff_eq, decide_eq_true_eq]
    refine ⟨by rw [hp, hl], ?_⟩
    show t.place.size + 0 ≤ t.mask
    omega
  exact call_len_set ho hx hd fits (by rw [hl]; omega) ⟨.int (L.length : Int), H, (I.tok _), ⟨_, by rw [hl]⟩, q⟩
end
section
variable {X : Cx}
/-- a list of anything against a list without items -/
def rEqNil (K : PySem.W.Frag) : R2 := fun x y H Q => ∃ a b xs, x = .ref a ∧ y = .ref b ∧ SqL K H a xs ∧ SqL K H b [] ∧ Q (.bl xs.isEmpty) H
def rNeNil (K : PySem.W.Frag) : R2 := fun x y H Q => ∃ a b xs, x = .ref a ∧ y = .ref b ∧ SqL K H a xs ∧ SqL K H b [] ∧ Q (.bl (!xs.isEmpty)) H
theorem op_eqNil (hu : X.A.units + 64 < cLine) : OpR X (compareOp .Eq) (rEqNil X.K) := by
  intro pins s σ H x y v u Q I rx ry h
  obtain ⟨a, b, xs, e1, e2, ha, hb, q⟩ := h
  subst e1
  subst e2
  cases (show v = Value.ref a from rx)
  cases (show u = Value.ref b from ry)
  obtain ⟨its, r1, pl, _⟩ := I.list ha
  obtain ⟨its2, r2, pl2, _⟩ := I.list hb
  cases r2
  have room : X.A.units < cLine := by omega
  cases r1 with
  | nil =>
    refine SeqAt.RcAt.lists (e := fun _ => true) pl.isList pl2.isList rfl room ?_ X.prog X.w X.xe _ ⟨.bl _, H, I, rfl, q⟩
    intro j h1
    exact absurd h1 (by simp)
  | cons _ _ =>
    exact SeqAt.RcAt.lists_lengths pl.isList pl2.isList (by simp) room X.prog X.w X.xe _ ⟨.bl _, H, I, rfl, q⟩
theorem op_neNil (hu : X.A.units + 64 < cLine) : OpR X (compareOp .NotEq) (rNeNil X.K) := by
  intro pins s σ H x y v u Q I rx ry h
  obtain ⟨a, b, xs, e1, e2, ha, hb, q⟩ := h
  subst e1
  subst e2
  cases (show v = Value.ref a from rx)
  cases (show u = Value.ref b from ry)
  obtain ⟨its, r1, pl, _⟩ := I.list ha
  obtain ⟨its2, r2, pl2, _⟩ := I.list hb
  cases r2
  have room : X.A.units < cLine := by omega
  cases r1 with
  | nil =>
    refine SeqAt.RcNeAt.lists (e := fun _ => true) pl.isList pl2.isList rfl room ?_ X.prog X.w X.xe _ ⟨.bl _, H, I, rfl, q⟩
    intro j h1
    exact absurd h1 (by simp)
  | cons _ _ =>
    exact SeqAt.RcNeAt.lists_lengths pl.isList pl2.isList (by simp) room X.prog X.w X.xe _ ⟨.bl _, H, I, rfl, q⟩
end
/-- a list comprehension over anything of n turns -/
theorem lc_gen {J : It} (n : Nat) {g : TG} {tt : TT} {te : TE} {vs : List Nat} {σ : L2.St} {H1 : Hp} {D : Addr} {Qd : Hp → Prop} (Pv : Nat → Hp → Prop)
    (h0 : Pv 0 (upd H1 D (.lst []))) (stops : ∀ H, Pv n H → J.stop n H) (goes : ∀ i H, i < n → Pv i H → J.go i H)
    (hs : ∀ i x H H', i < n → Pv i H → J.yld i H x H' → g x (wipe σ vs) H' fun σ2 H2 => wipe σ2 vs = wipe σ vs ∧ tt σ2 H2 fun b H3 =>
      if b = true then te σ2 H3 fun y H4 => ∃ acc, H4 D = some (.lst acc) ∧ acc.length < sizeLine ∧ Pv (i + 1) (upd H4 D (.lst (acc ++ [y]))) else Pv (i + 1) H3)
    (hd : ∀ H, Pv n H → Qd H) :
    ∃ W : Nat → Nat → Hp → Prop, (∃ m, W 0 m (upd H1 D (.lst []))) ∧
      ∀ i m H, W i m H → (J.stop i H ∧ Qd H) ∨
        (J.go i H ∧ ∃ Nx : Hp → Prop, (∀ H', Nx H' → ∃ m', m' < m ∧ W (i + 1) m' H') ∧
          ∀ x H', J.yld i H x H' → g x (wipe σ vs) H' fun σ2 H2 => wipe σ2 vs = wipe σ vs ∧ tt σ2 H2 fun b H3 =>
            if b = true then te σ2 H3 fun y H4 => ∃ acc, H4 D = some (.lst acc) ∧ acc.length < sizeLine ∧ Nx (upd H4 D (.lst (acc ++ [y]))) else Nx H3) := by
  refine ⟨fun i m H => m = n - i ∧ i ≤ n ∧ Pv i H, ⟨n, by simp, Nat.zero_le _, h0⟩, ?_⟩
  rintro i m H ⟨rfl, hi, p⟩
  by_cases lt : i < n
  · refine .inr ⟨goes i H lt p, Pv (i + 1), fun H' p' => ⟨n - (i + 1), by omega, rfl, lt, p'⟩, ?_⟩
    intro x H' y
    exact hs i x H H' lt p y
  · obtain rfl : i = n := by omega
    exact .inl ⟨stops H p, hd H p⟩
/-- xs[:n] -/
theorem cut_to (xs : List V) (n : Nat) : cutV xs none (some (n : Int)) = xs.take n := by
  unfold cutV HT.sIx
  simp only []
  have h : ¬ (n : Int) < 0 := by omega
  simp [h]
theorem ifB {c : Bool} {A B : Prop} (h1 : c = true → A) (h2 : c = false → B) : if c = true then A else B := by
  cases c with
  | true => rw [if_pos rfl]; exact h1 rfl
  | false => rw [if_neg Bool.false_ne_true]; exact h2 rfl
theorem ifT {c : Bool} {A B : Prop} (h : c = true) (h1 : A) : if c = true then A else B := by rw [if_pos h]; exact h1
theorem ifF {c : Bool} {A B : Prop} (h : c = false) (h1 : B) : if c = true then A else B := by
  rw [h, if_neg Bool.false_ne_true]; exact h1
/-- the greatest number that a draw makes -/
theorem mix_bound {a b c u v : Int} (h1 : 0 ≤ a) (h2 : a < 2 ^ 32) (h3 : 0 ≤ b) (h4 : b < 2 ^ 24) (h5 : 0 ≤ c) (h6 : c < 2 ^ 20) (h7 : 0 ≤ u) (h8 : u < 2 ^ 20) (h9 : 0 ≤ v) (h10 : v < 2 ^ 20) :
    (a * b + u * c * c + v).natAbs < 2 ^ 64 := by
  have e1 : a * b ≤ 2 ^ 32 * 2 ^ 24 := Int.mul_le_mul (by omega) (by omega) h3 (by decide)
  have e2 : 0 ≤ a * b := Int.mul_nonneg h1 h3
  have e3 : u * c ≤ 2 ^ 20 * 2 ^ 20 := Int.mul_le_mul (by omega) (by omega) h5 (by decide)
  have e4 : 0 ≤ u * c := Int.mul_nonneg h7 h5
  have e5 : u * c * c ≤ 2 ^ 40 * 2 ^ 20 := Int.mul_le_mul (by omega) (by omega) h5 (by decide)
  have e6 : 0 ≤ u * c * c := Int.mul_nonneg e4 h5
  omega
end Kg
/-! Kg6: what is a number, a square, a list of unlike squares, over data. -/
namespace Kg
open PySem PySem.Spec PyProof.Rows L2
open Evl (Ex)
def isI : PyData → Bool
  | .int _ => true
  | _ => false
def isIB : PyData → Bool
  | .int _ => true
  | .bool _ => true
  | _ => false
def isBo : PyData → Bool
  | .bool _ => true
  | _ => false
def isLi : PyData → Bool
  | .list _ => true
  | _ => false
def isTu : PyData → Bool
  | .tuple _ => true
  | _ => false
def seqOf : PyData → Option (List PyData)
  | .list ds => some ds
  | .tuple ds => some ds
  | _ => none
def intOf : PyData → Option Int
  | .int i => some i
  | _ => none
def sqOf (d : PyData) : Option (Int × Int) := match seqOf d with
  | some [a, b] => match intOf a, intOf b with
    | some x, some y => some (x, y)
    | _, _ => none
  | _ => none
def isSq (d : PyData) : Bool := (sqOf d).isSome
def areSq (d : PyData) : Bool := match seqOf d with
  | some ds => ds.all isSq && decide ((ds.map sqOf).Nodup)
  | none => false
theorem isI_of (d : PyData) : isI d = (isIB d && !isBo d) := by cases d <;> rfl
theorem isI_intOf (d : PyData) : isI d = (intOf d).isSome := by cases d <;> rfl
theorem kit_int : ∀ d : PyData, kitB (tyD d) "int" = some (isIB d)
  | .none => (by decide +kernel : kitB "NoneType" "int" = some false)
  | .bool _ => (by decide +kernel : kitB "bool" "int" = some true)
  | .int _ => (by decide +kernel : kitB "int" "int" = some true)
  | .str _ => (by decide +kernel : kitB "str" "int" = some false)
  | .list _ => (by decide +kernel : kitB "list" "int" = some false)
  | .tuple _ => (by decide +kernel : kitB "tuple" "int" = some false)
  | .dict _ => (by decide +kernel : kitB "dict" "int" = some false)
theorem kit_bool : ∀ d : PyData, kitB (tyD d) "bool" = some (isBo d)
  | .none => (by decide +kernel : kitB "NoneType" "bool" = some false)
  | .bool _ => (by decide +kernel : kitB "bool" "bool" = some true)
  | .int _ => (by decide +kernel : kitB "int" "bool" = some false)
  | .str _ => (by decide +kernel : kitB "str" "bool" = some false)
  | .list _ => (by decide +kernel : kitB "list" "bool" = some false)
  | .tuple _ => (by decide +kernel : kitB "tuple" "bool" = some false)
  | .dict _ => (by decide +kernel : kitB "dict" "bool" = some false)
theorem kit_list : ∀ d : PyData, kitB (tyD d) "list" = some (isLi d)
  | .none => (by decide +kernel : kitB "NoneType" "list" = some false)
  | .bool _ => (by decide +kernel : kitB "bool" "list" = some false)
  | .int _ => (by decide +kernel : kitB "int" "list" = some false)
  | .str _ => (by decide +kernel : kitB "str" "list" = some false)
  | .list _ => (by decide +kernel : kitB "list" "list" = some true)
  | .tuple _ => (by decide +kernel : kitB "tuple" "list" = some false)
  | .dict _ => (by decide +kernel : kitB "dict" "list" = some false)
theorem kit_tuple : ∀ d : PyData, kitB (tyD d) "tuple" = some (isTu d)
  | .none => (by decide +kernel : kitB "NoneType" "tuple" = some false)
  | .bool _ => (by decide +kernel : kitB "bool" "tuple" = some false)
  | .int _ => (by decide +kernel : kitB "int" "tuple" = some false)
  | .str _ => (by decide +kernel : kitB "str" "tuple" = some false)
  | .list _ => (by decide +kernel : kitB "list" "tuple" = some false)
  | .tuple _ => (by decide +kernel : kitB "tuple" "tuple" = some true)
  | .dict _ => (by decide +kernel : kitB "dict" "tuple" = some false)
theorem q_bl {Q : VK} {a b : Bool} {H : Hp} (e : a = b) (q : Q (.bl b) H) : Q (.bl a) H := e ▸ q
theorem isi_at {K : PySem.W.Frag} {H : Hp} {v : V} {d : PyData} {T : String} {b : Bool} {Q : VK} (h : Da K H v d) (e : kitB (tyD d) T = some b) (q : Q (.bl b) H) : rIsi K [v, .ty T] H Q :=
  ⟨v, .ty T, _, _, b, rfl, .ty T, tyX_of h, kit_ty e, q⟩
theorem kit_seq {K : PySem.W.Frag} (d : PyData) : PySem.W.kitAny K (.type (tyD d)) [.type "list", .type "tuple"] = some (seqOf d).isSome := by
  refine kitAny_cons (kit_ty (kit_list d)) (fun h => kitAny_cons (kit_ty (kit_tuple d)) (fun h2 => ?_) (fun h2 => ?_)) (fun h => ?_)
  · rw [kitAny_nil]
    cases d <;> simp_all [seqOf, isLi, isTu]
  · cases d <;> simp_all [seqOf, isLi, isTu]
  · cases d <;> simp_all [seqOf, isLi, isTu]
theorem isiT_at {K : PySem.W.Frag} {H : Hp} {v : V} {d : PyData} {tp : Addr} {Q : VK} (h : Da K H v d) (ht : H tp = some (.tup [.ty "list", .ty "tuple"]))
    (q : Q (.bl (seqOf d).isSome) H) : rIsiT K [v, .ref tp] H Q :=
  ⟨v, tp, _, _, _, _, rfl, ht, .cons (.ty _) (.cons (.ty _) .nil), tyX_of h, kit_seq d, q⟩
/-- a list or a tuple: where it stands, its items -/
theorem seq_at {K : PySem.W.Frag} {H : Hp} {v : V} {d : PyData} {ds : List PyData} (h : Da K H v d) (e : seqOf d = some ds) :
    ∃ (a : Addr) (xs : List V), v = .ref a ∧ (SqL K H a xs ∨ SqT K H a xs) ∧ DaAll K H xs ds := by
  cases h with
  | lst h1 h2 => cases e; exact ⟨_, _, rfl, .inl h1, h2⟩
  | tup h1 h2 => cases e; exact ⟨_, _, rfl, .inr h1, h2⟩
  | _ => cases e
/-- a promise: a truth about one thing's data -/
def spB (K : PySem.W.Frag) (f : PyData → Bool) : Sp := fun vs H Q _ => ∃ v d, vs = [v] ∧ Da K H v d ∧ ∀ H', Ex H H' → Q (.bl (f d)) H'
theorem seq_ex {K : PySem.W.Frag} {H H' : Hp} {a : Addr} {xs : List V} (e : Ex H H') (h : SqL K H a xs ∨ SqT K H a xs) : SqL K H' a xs ∨ SqT K H' a xs :=
  h.imp (Evl.ex_l e) (Evl.ex_t e)
/-- an item of a list or a tuple -/
theorem ix_of {K : PySem.W.Frag} {H : Hp} {a : Addr} {xs : List V} {i : Int} {v : V} {Q : VK} (h : SqL K H a xs ∨ SqT K H a xs) (hi : atI xs i = some v) (q : Q v H) : rIx K (.ref a) (.int i) H Q :=
  h.elim (fun h => .inl ⟨_, _, _, _, rfl, rfl, h, hi, q⟩) (fun h => .inr (.inl ⟨_, _, _, _, rfl, rfl, h, hi, q⟩))
theorem sq_two {d a b : PyData} (e : seqOf d = some [a, b]) : isSq d = (isI a && isI b) := by
  unfold isSq sqOf
  rw [e]
  cases a <;> cases b <;> rfl
theorem sq_not {d : PyData} {ds : List PyData} (e : seqOf d = some ds) (h : ds.length ≠ 2) : isSq d = false := by
  unfold isSq sqOf
  rw [e]
  match ds, h with
  | [], _ => rfl
  | [_], _ => rfl
  | [_, _], h => exact absurd rfl h
  | _ :: _ :: _ :: _, _ => rfl
theorem sq_no {d : PyData} (e : seqOf d = none) : isSq d = false := by
  unfold isSq sqOf
  rw [e]
  rfl
theorem da_two {K : PySem.W.Frag} {H : Hp} {xs : List V} {ds : List PyData} (h : DaAll K H xs ds) (hl : xs.length = 2) : ∃ x y a b, xs = [x, y] ∧ ds = [a, b] ∧ Da K H x a ∧ Da K H y b := by
  match xs, ds, h, hl with
  | [x, y], [a, b], .cons h1 (.cons h2 .nil), _ => exact ⟨x, y, a, b, rfl, rfl, h1, h2⟩
end Kg
/-! Kg7: lists without repetition; what a set of squares holds. -/
namespace Kg
open PySem PySem.Spec PyProof.Rows L2
open Evl (Ex)
theorem len_of_sub {α : Type} [DecidableEq α] : ∀ (M N : List α), M.Nodup → (∀ x ∈ M, x ∈ N) → M.length ≤ N.length
  | [], _, _, _ => Nat.zero_le _
  | x :: M, N, hd, hs => by
    have hx : x ∈ N := hs x List.mem_cons_self
    have hd' := List.nodup_cons.mp hd
    have ih := len_of_sub M (N.erase x) hd'.2 fun y hy =>
      (List.mem_erase_of_ne (show y ≠ x from fun e => hd'.1 (by rw [← e]; exact hy))).mpr (hs y (List.mem_cons_of_mem _ hy))
    rw [List.length_erase_of_mem hx] at ih
    have : 0 < N.length := List.length_pos_of_mem hx
    simp only [List.length_cons]
    omega
theorem dup_of {α : Type} [DecidableEq α] : ∀ (N : List α), ¬ N.Nodup → ∃ x, x ∈ N ∧ ∀ y ∈ N, y ∈ N.erase x
  | [], h => absurd List.nodup_nil h
  | a :: N, h => by
    by_cases ha : a ∈ N
    · refine ⟨a, List.mem_cons_self, ?_⟩
      intro y hy
      rw [List.erase_cons_head]
      rcases List.mem_cons.mp hy with e | hy
      · exact e ▸ ha
      · exact hy
    · have hN : ¬ N.Nodup := fun q => h (List.nodup_cons.mpr ⟨ha, q⟩)
      obtain ⟨x, hx, hall⟩ := dup_of N hN
      refine ⟨x, List.mem_cons_of_mem _ hx, ?_⟩
      have ne : ¬ (a == x) = true := by
        intro e
        exact ha (by rw [beq_iff_eq.mp e]; exact hx)
      intro y hy
      rw [List.erase_cons, if_neg ne]
      rcases List.mem_cons.mp hy with e | hy
      · rw [e]; exact List.mem_cons_self
      · exact List.mem_cons_of_mem _ (hall y hy)
/-- as many unlike ones as there are: all are unlike -/
theorem len_iff_nodup {α : Type} [DecidableEq α] {M N : List α} (hd : M.Nodup) (h : ∀ x, x ∈ M ↔ x ∈ N) : M.length = N.length ↔ N.Nodup := by
  constructor
  · intro e
    rcases Classical.em N.Nodup with q | hN
    · exact q
    · obtain ⟨x, hx, hall⟩ := dup_of N hN
      have := len_of_sub M (N.erase x) hd fun y hy => hall y ((h y).mp hy)
      rw [List.length_erase_of_mem hx] at this
      have : 0 < N.length := List.length_pos_of_mem hx
      omega
  · intro hN
    have a := len_of_sub M N hd fun x => (h x).mp
    have b := len_of_sub N M hN fun x => (h x).mpr
    omega
/-- a square's two numbers -/
def keyOf (d : PyData) : List Int := match sqOf d with
  | some (x, y) => [x, y]
  | none => []
theorem keys_nodup {ds : List PyData} (h : ds.all isSq = true) : (ds.map keyOf).Nodup ↔ (ds.map sqOf).Nodup := by
  have inj : ∀ a ∈ ds, ∀ b ∈ ds, keyOf a = keyOf b ↔ sqOf a = sqOf b := by
    intro a ha b hb
    have h1 : isSq a = true := List.all_eq_true.mp h a ha
    have h2 : isSq b = true := List.all_eq_true.mp h b hb
    unfold keyOf
    unfold isSq at h1 h2
    match e1 : sqOf a, e2 : sqOf b with
    | some (x, y), some (z, u) => simp
    | none, _ => rw [e1] at h1; cases h1
    | some _, none => rw [e2] at h2; cases h2
  clear h
  induction ds with
  | nil => simp
  | cons d ds ih =>
    simp only [List.map_cons, List.nodup_cons, List.mem_map, not_exists, not_and]
    have ih' := ih fun a ha b hb => inj a (List.mem_cons_of_mem _ ha) b (List.mem_cons_of_mem _ hb)
    constructor
    · rintro ⟨a, b⟩
      exact ⟨fun x hx e => a x hx ((inj x (List.mem_cons_of_mem _ hx) d List.mem_cons_self).mpr e), ih'.mp b⟩
    · rintro ⟨a, b⟩
      exact ⟨fun x hx e => a x hx ((inj x (List.mem_cons_of_mem _ hx) d List.mem_cons_self).mp e), ih'.mpr b⟩
/-- a square as data: a list or a tuple of its two numbers -/
theorem sq_at {K : PySem.W.Frag} {H : Hp} {v : V} {d : PyData} (h : Da K H v d) (e : isSq d = true) :
    ∃ (a : Addr) (x y : Int), v = .ref a ∧ sqOf d = some (x, y) ∧ (SqL K H a [.int x, .int y] ∨ SqT K H a [.int x, .int y]) := by
  match hs : seqOf d with
  | none => rw [sq_no hs] at e; cases e
  | some ds =>
    by_cases hl : ds.length = 2
    · obtain ⟨a, xs, ev, hq, ha⟩ := seq_at h hs
      obtain ⟨x, y, da, db, e1, e2, h1, h2⟩ := da_two ha (ha.len.trans hl)
      subst e1 e2
      rw [sq_two hs] at e
      obtain ⟨i1, i2⟩ := Bool.and_eq_true_iff.mp e
      cases h1 <;> first | cases i1 | skip
      cases h2 <;> first | cases i2 | skip
      exact ⟨a, _, _, ev, by unfold sqOf; rw [hs]; rfl, hq⟩
    · rw [sq_not hs hl] at e; cases e
/-- what a set of squares holds behind i items -/
structure Held (K : PySem.W.Frag) (P : Program) (w : World) (D : Addr) (H1 : Hp) (ds : List PyData) (i : Nat) (H : Hp) : Prop where
  ex : Ex H1 H
  it : ∃ L : List (Addr × List Int), H D = some (SetTO P w D L) ∧ (∀ p ∈ L, SqT K H p.1 (p.2.map V.int)) ∧
    (∀ k, k ∈ L.map (·.2) ↔ k ∈ (ds.take i).map keyOf) ∧ (L.map (·.2)).Nodup ∧ L.length ≤ i
theorem take_one {α : Type} {l : List α} {i : Nat} {x : α} (h : l[i]? = some x) : l.take (i + 1) = l.take i ++ [x] := by
  rw [List.take_add_one, h]; rfl
theorem Held.turn {K : PySem.W.Frag} {P : Program} {w : World} {D t : Addr} {H1 H2 : Hp} {ds : List PyData} {i : Nat} {d : PyData} {L L' : List (Addr × List Int)}
    (ex : Ex H1 H2) (h0 : H1 D = none) (hd : ds[i]? = some d) (hD : H2 D = some (SetTO P w D L)) (hL : ∀ p ∈ L, SqT K H2 p.1 (p.2.map V.int)) (ht : SqT K H2 t ((keyOf d).map V.int))
    (hk : ∀ k, k ∈ L.map (·.2) ↔ k ∈ (ds.take i).map keyOf) (nd : (L.map (·.2)).Nodup) (hl : L.length ≤ i)
    (c1 : keyOf d ∈ L.map (·.2) → L' = L) (c2 : keyOf d ∉ L.map (·.2) → L'.Perm ((t, keyOf d) :: L)) : Held K P w D H1 ds (i + 1) (upd H2 D (SetTO P w D L')) := by
  have keep : ∀ p xs, SqT K H2 p xs → SqT K (upd H2 D (SetTO P w D L')) p xs := by
    intro p xs h
    rcases h with (h | ⟨o, h⟩) | h
    · refine .inl (.inl ((upd_ne ?_).trans h))
      intro e; rw [e, hD] at h; cases h
    · refine .inl (.inr ⟨o, (upd_ne ?_).trans h⟩)
      intro e; rw [e, hD] at h; cases h
    · exact .inr h
  refine ⟨Evl.Ex.mut ex h0, L', upd_same, ?_, ?_, ?_, ?_⟩
  · intro p hp
    refine keep _ _ ?_
    by_cases c : keyOf d ∈ L.map (·.2)
    · rw [c1 c] at hp; exact hL p hp
    · rcases List.mem_cons.mp ((c2 c).mem_iff.mp hp) with e | hp
      · rw [e]; exact ht
      · exact hL p hp
  · intro k
    rw [take_one hd, List.map_append, List.mem_append]
    by_cases c : keyOf d ∈ L.map (·.2)
    · rw [c1 c, hk]
      constructor
      · exact .inl
      · rintro (h | h)
        · exact h
        · rw [List.map_cons, List.map_nil, List.mem_singleton] at h
          rw [h]; exact (hk _).mp c
    · have pm := (c2 c).map (·.2)
      rw [pm.mem_iff, List.map_cons, List.mem_cons, hk]
      simp only [List.map_cons, List.map_nil, List.mem_singleton]
      exact Or.comm
  · by_cases c : keyOf d ∈ L.map (·.2)
    · rw [c1 c]; exact nd
    · have pm := (c2 c).map (·.2)
      rw [pm.nodup_iff, List.map_cons]
      exact List.nodup_cons.mpr ⟨c, nd⟩
  · by_cases c : keyOf d ∈ L.map (·.2)
    · rw [c1 c]; omega
    · rw [(c2 c).length_eq, List.length_cons]; omega
/-- the pairs of a list of squares -/
def prs (ds : List PyData) : List (Int × Int) := ds.filterMap sqOf
theorem prs_some {ds : List PyData} (h : ds.all isSq = true) : ds.map sqOf = (prs ds).map some := by
  induction ds with
  | nil => rfl
  | cons d ds ih =>
    simp only [List.all_cons, Bool.and_eq_true] at h
    obtain ⟨h1, h2⟩ := h
    unfold isSq at h1
    obtain ⟨z, hz⟩ := Option.isSome_iff_exists.mp h1
    unfold prs
    rw [List.filterMap_cons_some hz, List.map_cons, List.map_cons, hz, ih h2]
    rfl
theorem prs_len {ds : List PyData} (h : ds.all isSq = true) : (prs ds).length = ds.length := by
  have := congrArg List.length (prs_some h)
  simpa using this.symm
theorem prs_at {ds : List PyData} (h : ds.all isSq = true) {i : Nat} {d : PyData} (hd : ds[i]? = some d) : ∃ z, (prs ds)[i]? = some z ∧ sqOf d = some z := by
  have e := congrArg (·[i]?) (prs_some h)
  simp only [List.getElem?_map, hd, Option.map_some] at e
  cases q : (prs ds)[i]? with
  | none => rw [q] at e; cases e
  | some z => rw [q] at e; exact ⟨z, rfl, Option.some.inj e⟩
theorem nodup_some {α : Type} (zs : List α) : (zs.map some).Nodup ↔ zs.Nodup := by
  induction zs with
  | nil => simp
  | cons z zs ih =>
    simp only [List.map_cons, List.nodup_cons, List.mem_map, not_exists, not_and]
    constructor
    · rintro ⟨a, b⟩
      exact ⟨fun hz => a z hz rfl, ih.mp b⟩
    · rintro ⟨a, b⟩
      exact ⟨fun x hx e => a (Option.some.inj e ▸ hx), ih.mpr b⟩
def pairL (z : Int × Int) : PyData := .list [.int z.1, .int z.2]
theorem pairL_shaped (z : Int × Int) : SeqAt.shaped (pairL z) = true := by
  simp [pairL, SeqAt.shaped, PyData.canLay0, PyData.canLayAll0, PyData.depth, PyData.depthAll]
theorem pairLs_lay : ∀ zs : List (Int × Int), PyData.canLayAll0 (zs.map pairL) = true
  | [] => by simp [PyData.canLayAll0]
  | z :: zs => by simp [PyData.canLayAll0, pairLs_lay zs, pairL, PyData.canLay0]
theorem pairLs_depth : ∀ zs : List (Int × Int), PyData.depthAll (zs.map pairL) ≤ 1
  | [] => by simp [PyData.depthAll]
  | z :: zs => by
    have := pairLs_depth zs
    simp only [List.map_cons, PyData.depthAll, pairL, PyData.depth]
    omega
theorem pairLs_shaped (zs : List (Int × Int)) : SeqAt.shaped (.list (zs.map pairL)) = true := by
  have := pairLs_depth zs
  unfold SeqAt.shaped
  rw [PyData.canLay0, pairLs_lay, Bool.true_and, PyData.depth]
  exact decide_eq_true (by omega)
theorem pairL_eqv (z u : Int × Int) : PyData.eqv (pairL z) (pairL u) = decide (z = u) := by
  obtain ⟨a, b⟩ := z
  obtain ⟨c, d⟩ := u
  simp only [pairL, PyData.eqv, PyData.eqvAll, Bool.and_true]
  by_cases h1 : a = c <;> by_cases h2 : b = d <;> simp [h1, h2]
theorem pairLs_any (zs : List (Int × Int)) (u : Int × Int) : ((zs.map pairL).any fun z => PyData.eqv z (pairL u)) = decide (u ∈ zs) := by
  induction zs with
  | nil => simp
  | cons z zs ih =>
    rw [List.map_cons, List.any_cons, ih, pairL_eqv]
    by_cases h : z = u
    · simp [h]
    · have h2 : ¬ u = z := fun e => h e.symm
      simp [h, h2]
theorem nodup_next {α : Type} [DecidableEq α] {zs : List α} {i : Nat} {z : α} (h : zs[i]? = some z) : (zs.take (i + 1)).Nodup ↔ (zs.take i).Nodup ∧ z ∉ zs.take i := by
  rw [take_one h, List.nodup_append]
  constructor
  · rintro ⟨a, _, c⟩
    exact ⟨a, fun hz => c z hz z (List.mem_singleton.mpr rfl) rfl⟩
  · rintro ⟨a, b⟩
    exact ⟨a, by simp, fun x hx y hy e => b (by rw [List.mem_singleton] at hy; rw [← hy, ← e]; exact hx)⟩
/-- rows of two numbers, at their places -/
structure Rows2 (H : Hp) (rs : List Addr) (zs : List (Int × Int)) : Prop where
  len : rs.length = zs.length
  row : ∀ (j : Nat) (r : Addr) (z : Int × Int), rs[j]? = some r → zs[j]? = some z → H r = some (.lst [.int z.1, .int z.2])
theorem Rows2.mono {H H' : Hp} {rs : List Addr} {zs : List (Int × Int)} (e : Ex H H') (h : Rows2 H rs zs) : Rows2 H' rs zs := ⟨h.len, fun j r z a b => e _ _ (h.row j r z a b)⟩
theorem Rows2.dp {K : PySem.W.Frag} {H : Hp} : ∀ {rs : List Addr} {zs : List (Int × Int)}, Rows2 H rs zs → DpAll K H (rs.map V.ref) (zs.map pairL)
  | [], [], _ => .nil
  | [], _ :: _, h => absurd h.len (by simp)
  | _ :: _, [], h => absurd h.len (by simp)
  | r :: rs, z :: zs, h => .cons (.lst (SqL.of (h.row 0 r z rfl rfl)) (.cons (.int _) (.cons (.int _) .nil)))
      (Rows2.dp ⟨by simpa using h.len, fun j r' z' a b => h.row (j + 1) r' z' (by simpa using a) (by simpa using b)⟩)
theorem Rows2.take {H : Hp} {rs : List Addr} {zs : List (Int × Int)} (h : Rows2 H rs zs) (i : Nat) : Rows2 H (rs.take i) (zs.take i) := by
  refine ⟨by simp [h.len], ?_⟩
  intro j r z a b
  by_cases hj : j < i
  · rw [List.getElem?_take_of_lt hj] at a b
    exact h.row j r z a b
  · rw [List.getElem?_take_eq_none (by omega)] at a
    cases a
/-- data that is shown in a short text -/
structure Fit (n : Nat) (d : PyData) : Prop where
  sh : d.showable = true
  lv : d.leavesShort 70 = true
  wt : d.weight ≤ n
  dp : d.depth ≤ 3
theorem Fit.mono {n m : Nat} {d : PyData} (h : Fit n d) (l : n ≤ m) : Fit m d := ⟨h.sh, h.lv, Nat.le_trans h.wt l, h.dp⟩
theorem log_le {n : Nat} (h : n ≤ 2 * 10 ^ 60) : n.log2 ≤ 201 := by
  rcases Nat.eq_zero_or_pos n with e | hp
  · subst e; decide
  · have h1 : n < 2 ^ 202 := Nat.lt_of_le_of_lt h (by decide)
    have := (Nat.log2_lt (by omega)).mpr h1
    omega
theorem fit_int {i : Int} (h : i.natAbs ≤ 2 * 10 ^ 60) : Fit 202 (.int i) where
  sh := by
    have := log_le h
    simp [PyData.showable]
    omega
  lv := by
    have h1 : i.natAbs < 10 ^ 61 := Nat.lt_of_le_of_lt h (by decide)
    have e := int_text_length_le10 (k := 61) (by decide) h1
    simp only [PyData.leavesShort, decide_eq_true_eq]
    show (Str.ofString (toString i)).length ≤ 70
    rw [PySem.ofString_length]
    omega
  wt := by
    have := log_le h
    simp only [PyData.weight]
    split <;> omega
  dp := by simp [PyData.depth]
theorem fit_seq {n : Nat} {ds : List PyData} (m : Nat) (hl : ds.length ≤ m) (h : ∀ d ∈ ds, Fit n d ∧ d.depth ≤ 2) : Fit (m * (n + 1)) (.list ds) ∧ Fit (m * (n + 1)) (.tuple ds) := by
  have a1 : PyData.showableAll ds = true := PySem.Spec.showableAll_of fun d hd => (h d hd).1.sh
  have a2 : ∀ ds : List PyData, (∀ d ∈ ds, Fit n d ∧ d.depth ≤ 2) → PyData.leavesShortAll 70 ds = true ∧ PyData.weightAll ds ≤ ds.length * (n + 1) ∧ PyData.depthAll ds ≤ 2 := by
    intro ds
    induction ds with
    | nil => intro _; simp [PyData.leavesShortAll, PyData.weightAll, PyData.depthAll]
    | cons d ds ih =>
      intro h
      obtain ⟨b1, b2, b3⟩ := ih fun x hx => h x (List.mem_cons_of_mem _ hx)
      obtain ⟨c, c2⟩ := h d List.mem_cons_self
      have := c.wt
      refine ⟨by simp [PyData.leavesShortAll, c.lv, b1], ?_, ?_⟩
      · simp only [PyData.weightAll, List.length_cons, Nat.succ_mul]
        omega
      · simp only [PyData.depthAll]
        omega
  obtain ⟨b1, b2, b3⟩ := a2 ds h
  have b4 : ds.length * (n + 1) ≤ m * (n + 1) := Nat.mul_le_mul_right _ hl
  refine ⟨⟨by simpa [PyData.showable] using a1, by simpa [PyData.leavesShort] using b1, ?_, ?_⟩, ⟨by simpa [PyData.showable] using a1, by simpa [PyData.leavesShort] using b1, ?_, ?_⟩⟩
  · simp only [PyData.weight]; omega
  · simp only [PyData.depth]; omega
  · simp only [PyData.weight]; omega
  · simp only [PyData.depth]; omega
theorem Fit.line {n : Nat} {d : PyData} (h : Fit n d) (hn : n ≤ 200000) : d.shown.length ≤ sizeLine := by
  have := PyData.shown_le 70 (by decide) d h.lv
  have := h.wt
  rw [sizeLine_eq]
  omega
end Kg
/-! Kg3: the end of a law's row: the law's def, called where no guard runs, the modules' dict known. -/
namespace Kg
open PySem PySem.Spec PyProof.Rows L2

/-- what is tracked at the entry: the script and the modules' dict, both known, neither to be written -/
def Only2 (H : Hp) : Prop := ∀ b u, H b = some u → ∃ o u', u = .frz o u'
/-- what the top's callers know of their place -/
structure Entry (K : PySem.W.Frag) (H : Hp) (a : Addr) (ns : List Int) : Prop where
  only : Only2 H
  sys : Sys H
  script : SqL K H a (ns.map V.int)
  ne : a ≠ sysModules

section
variable {P : Program} {w : World} {K : PySem.W.Frag} {mg mb : Str → Option Value} {k : Nat} {fa a : Addr} {fd : FuncData} {x : Str} {sp : Sp} {s₁ : Shared} {vs : List Value} {ns : List Int}
/-- from an abstract heap in which known things alone are tracked -/
theorem call_from (KX : K.In s₁.heap) (hns : s₁.heap.Ns mainGlobals mg) (hb : s₁.heap.Ns builtinsNs mb)
    (hbb : ∀ x : Str, x ≠ "__name__" → mb x = bootBuiltins x) (hlim : s₁.heap.NoLimit) (hg : s₁.gens = #[]) (hr : Room k callerA)
    (F : ∀ base : Heap, K.In base → base.Ns mainGlobals mg → FnG P w K mg base CX0 k fa fd [x] sp)
    (hbind : ∀ (s : Shared) (u : Value), BindsTo s fd ⟨[u], []⟩ [(x, u)])
    (H : Hp) (hO : Only2 H) (hok : HOk P w H s₁.heap) (offK : ∀ b, H b ≠ none → K.lookup b = none)
    (offN : H mainGlobals = none ∧ H builtinsNs = none ∧ H cStatics = none)
    (hsp : sp [.ref a] H (fun v _ => v = .bl true) fun _ _ _ => False) :
    codeAny (model P w) callerA (.call (.ref fa) ⟨[.ref a], []⟩)
      (fun r s' => r = .ok (.ret (.bool true)) ∧ OldK s₁.heap s'.heap ∧ s'.os = s₁.os ∧ AllBare s'.gens) s₁ := by
  have inK : K.In (hidT s₁.heap H) := by
    intro b o e
    refine hidT_get (KX b o e) ?_
    cases q : H b with
    | none => rfl
    | some u => rw [offK b (by rw [q]; simp)] at e; cases e
  have ns_in : ∀ {b : Addr} {m : Str → Option Value}, H b = none → s₁.heap.Ns b m → (hidT s₁.heap H).Ns b m := by
    rintro b m n ⟨o, es, ep, e, d, r⟩
    exact ⟨o, es, ep, hidT_get e n, d, r⟩
  have hM : Mod K mg (hidT s₁.heap H) :=
    ⟨inK, ns_in offN.1 hns, ⟨mb, ns_in offN.2.1 hb, hbb⟩, hlim.elim fun mc z => ⟨mc, ns_in offN.2.2 z.1, z.2⟩⟩
  have e0 : Env0 P w K mg (hidT s₁.heap H) callerA [] s₁ H :=
    ⟨rfl, hM, fun b o e => of_hidT e, Nat.le_of_eq (hidT_size _ _), trivial, fun b hb => absurd (show b ∈ ([] : List Addr) from hb) (by simp), hok, .of_eq hg⟩
  have it := (F _ inK (ns_in offN.1 hns)).goes callerA [] s₁ H ⟨[.ref a], []⟩ [.ref a] [.ref a] _ _ hr rfl e0 (hbind s₁ (.ref a)) (.cons rfl .nil) hsp
  refine codeAny_mono it ?_
  rintro (e | fl) s' h
  · exact False.elim h
  · cases fl with
    | ret u =>
      obtain ⟨v, H', os, bare, un, hok', r', q⟩ := h
      obtain rfl : v = .bl true := q
      obtain rfl : u = Value.bool true := r'
      refine ⟨rfl, OldK.of_keep ?_, os, bare⟩
      intro b o e
      cases q : H b with
      | none => exact un.keep b o e q (fun z => nomatch (show b ∈ ([] : List Addr) from z)) (by simp)
      | some u =>
        obtain ⟨ob, u', rfl⟩ := hO b u q
        have e1 := (hok b _ q).1
        have e2 := (hok' b _ (un.frzs b ob _ q)).1
        rw [e] at e1; cases e1
        exact e2
    | next => exact False.elim h
    | brk => exact False.elim h
    | cont => exact False.elim h

theorem lawG_call (KX : K.In s₁.heap) (hns : s₁.heap.Ns mainGlobals mg) (hb : s₁.heap.Ns builtinsNs mb)
    (hbb : ∀ x : Str, x ≠ "__name__" → mb x = bootBuiltins x) (hlim : s₁.heap.NoLimit) (hg : s₁.gens = #[]) (hmods : ∃ mm, s₁.heap.Ns sysModules mm) (off : OffK K)
    (ha : s₁.heap.get? a = some { cls := .type "list", data := .seq vs.toArray }) (hi : IntsAre vs ns) (hl : ns.length ≤ sizeLine) (hr : Room k callerA)
    (F : ∀ base : Heap, K.In base → base.Ns mainGlobals mg → FnG P w K mg base CX0 k fa fd [x] sp)
    (hbind : ∀ (s : Shared) (u : Value), BindsTo s fd ⟨[u], []⟩ [(x, u)]) (hlow : a ≠ sysModules)
    (hsp : ∀ H : Hp, Entry K H a ns → sp [.ref a] H (fun v _ => v = .bl true) fun _ _ _ => False) :
    codeAny (model P w) callerA (.call (.ref fa) ⟨[.ref a], []⟩)
      (fun r s' => r = .ok (.ret (.bool true)) ∧ OldK s₁.heap s'.heap ∧ s'.os = s₁.os ∧ AllBare s'.gens) s₁ := by
  have rv := vals_ints hi
  have lenV := hi.length
  obtain ⟨mm, om, _, _, hm, _⟩ := hmods
  have isNs : ∀ {b : Addr} {m : Str → Option Value}, s₁.heap.Ns b m → b ≠ a := by
    rintro b m ⟨o, es, ep, e, d, r⟩ rfl
    rw [ha] at e; cases e
    cases (show Data.seq vs.toArray _ = Data.dict es ep from d)
  have n1 : mainGlobals ≠ a := isNs hns
  have n2 : builtinsNs ≠ a := isNs hb
  have n3 : cStatics ≠ a := hlim.elim fun mc z => isNs z.1
  cases hk : K.lookup a with
  | some o =>
    have e := KX a o hk
    rw [ha] at e; cases e
    let H : Hp := fun b => if b = sysModules then some (.frz om (.ext fun _ => True)) else none
    have hH : H sysModules = some (.frz om (.ext fun _ => True)) := if_pos rfl
    have hN : ∀ b, b ≠ sysModules → H b = none := fun b h => if_neg h
    have hU : ∀ b u, H b = some u → b = sysModules ∧ u = .frz om (.ext fun _ => True) := by
      intro b u z
      by_cases h : b = sysModules
      · subst h; rw [hH] at z; cases z; exact ⟨rfl, rfl⟩
      · rw [hN b h] at z; cases z
    refine call_from KX hns hb hbb hlim hg hr F hbind H ?_ ?_ ?_ ⟨hN _ (by decide), hN _ (by decide), hN _ (by decide)⟩ (hsp H ⟨?_, ⟨om, _, hH⟩, ?_, hlow⟩)
    · intro b u z; exact ⟨_, _, (hU b u z).2⟩
    · intro b u z
      obtain ⟨rfl, rfl⟩ := hU b u z
      exact ⟨hm, trivial, ⟨om, hm⟩, fun _ _ _ _ => trivial⟩
    · intro b z
      cases q : H b with
      | none => exact absurd q z
      | some u => rw [(hU b u q).1]; exact off
    · intro b u z; exact ⟨_, _, (hU b u z).2⟩
    · exact .inr ⟨_, vs.toArray, _, hk, rfl, rfl, rfl, by rw [List.size_toArray, lenV]; exact hl, by simpa using rv⟩
  | none =>
    let H : Hp := fun b => if b = sysModules then some (.frz om (.ext fun _ => True)) else if b = a then some (.frz { cls := .type "list", data := .seq vs.toArray } (.lst (ns.map V.int))) else none
    have hH : H sysModules = some (.frz om (.ext fun _ => True)) := if_pos rfl
    have hA : H a = some (.frz { cls := .type "list", data := .seq vs.toArray } (.lst (ns.map V.int))) := (if_neg hlow).trans (if_pos rfl)
    have hN : ∀ b, b ≠ sysModules → b ≠ a → H b = none := fun b h g => (if_neg h).trans (if_neg g)
    have hU : ∀ b u, H b = some u → (b = sysModules ∧ u = .frz om (.ext fun _ => True)) ∨ (b = a ∧ u = .frz { cls := .type "list", data := .seq vs.toArray } (.lst (ns.map V.int))) := by
      intro b u z
      by_cases h : b = sysModules
      · subst h; rw [hH] at z; cases z; exact .inl ⟨rfl, rfl⟩
      · by_cases g : b = a
        · subst g; rw [hA] at z; cases z; exact .inr ⟨rfl, rfl⟩
        · rw [hN b h g] at z; cases z
    have hF : Only2 H := by
      intro b u z
      rcases hU b u z with ⟨_, e⟩ | ⟨_, e⟩ <;> exact ⟨_, _, e⟩
    refine call_from KX hns hb hbb hlim hg hr F hbind H hF ?_ ?_ ⟨hN _ (by decide) n1, hN _ (by decide) n2, hN _ (by decide) n3⟩ (hsp H ⟨hF, ⟨om, _, hH⟩, ?_, hlow⟩)
    · intro b u z
      rcases hU b u z with ⟨rfl, rfl⟩ | ⟨rfl, rfl⟩
      · exact ⟨hm, trivial, ⟨om, hm⟩, fun _ _ _ _ => trivial⟩
      · exact ⟨ha, by rw [List.length_map]; exact hl, vs, _, rv, ha⟩
    · intro b z
      cases q : H b with
      | none => exact absurd q z
      | some u =>
        rcases hU b u q with ⟨e, _⟩ | ⟨e, _⟩
        · rw [e]; exact off
        · rw [e]; exact hk
    · exact .inl (.inr ⟨_, hA⟩)
end

section
open PySem.W PySem.Calls
theorem walkG {l : OpenLaw} {n k : Nat} {q : Program} {loose : List Str} {XP : (Str → Option Value) → Heap → Prop} {YP : World → Heap → Prop}
    {d : DefRec} {K : Params → Frag} {sp : Frag → Sp} {x : Str} (himp : importsNone q = true) (hn : l.most = some n) (hn2 : n ≤ sizeLine) (hdf : d.params.defaults = []) (hr : Room k callerA)
    (hY : ∀ (w : World) (h : Heap), YP w h → (K w.params).In h)
    (F : ∀ (w : World) (mg : Str → Option Value) (fa : Addr) (h : Heap), (K w.params).In h → h.Ns mainGlobals mg → mg d.name = some (.ref fa) →
      OffK (K w.params) ∧ ∃ fd : FuncData, (∀ (s : Shared) (u : Value), BindsTo s fd ⟨[u], []⟩ [(x, u)]) ∧
        ∀ base : Heap, (K w.params).In base → base.Ns mainGlobals mg → FnG l.prog w (K w.params) mg base CX0 k fa fd [x] (sp (K w.params)))
    (hsp : ∀ (K : Frag) (H : Hp) (a : Addr) (ns : List Int), ns.length ≤ n → OffK K → Entry K H a ns → sp K [.ref a] H (fun v _ => v = .bl true) fun _ _ _ => False) :
    WalkO q loose XP YP l.row.toRowW d [] (fun f vs => PySem.call f vs) := by
  intro w s₀ s₁ mg mb G Y fa o pm cd doc dV kV ho hd hcd hD hmg hg args vals as hpre hlay hrd hwl hlo
  cases Dflts.none hD hdf
  cases Dflts.noKw hD
  obtain ⟨a, vs, ns, e1, e2, hobj, hints, hlen⟩ := Att.script_of hn hpre hwl
  subst e1
  subst e2
  have low : a ≠ sysModules := by
    cases hrd with
    | cons r _ =>
      cases r with
      | list h1 h2 h3 h4 => exact beq_eq_false_iff_ne.mp (hlo a (by simp))
  have KX := hY w _ Y
  obtain ⟨off, fd, hb, hF⟩ := F w mg fa _ KX G.T.g hmg
  have it := lawG_call (P := l.prog) KX G.T.g G.T.b G.T.builtins G.T.nolimit hg ((G.T.seer himp).mods.elim fun mm z => ⟨mm, z.1⟩) off hobj hints (Nat.le_trans hlen hn2) hr hF hb low
    fun H e => hsp (K w.params) H a ns hlen off e
  refine enter_call (codeAny_mono it ?_)
  rintro r s' ⟨rfl, h2, h3, h4⟩
  refine ⟨.inl ⟨.bool true, .bool true, [], rfl, fun _ => rfl, .bool true, Att.post_true l _, ?_⟩, h2, h3, h4⟩
  exact fun _ => ⟨List.Pairwise.nil, fun _ hm => nomatch hm⟩
end
end Kg
/-! Kg11: the end of a law's row, some of whose defs hold lambdas: cs, their code objects and these one's tables. -/
namespace Kg
open PySem PySem.Spec PyProof.Rows L2
open PySem.W (tabObj CodeHd)

/-- what the top's callers know of their place -/
structure EntryT (K : PySem.W.Frag) (cs : List (Addr × Addr)) (H : Hp) (a : Addr) (ns : List Int) : Prop where
  sys : Sys H
  script : SqL K H a (ns.map V.int)
  ne : a ≠ sysModules
  tabs : ∀ p ∈ cs, H p.2 = some (.tbl #[])
/-- what a heap must show of the defs with lambdas -/
structure TabsIn (h : Heap) (cs : List (Addr × Addr)) : Prop where
  empty : ∀ p ∈ cs, h.get? p.2 = some (tabObj #[])
  head : ∀ p ∈ cs, CodeHd h p.1 p.2
def Mains (mg : Str → Option Value) (h : Heap) : Prop :=
  ∃ (bm : Addr) (ob : Obj), mg "__builtins__" = some (.ref bm) ∧ bm ≠ builtinsNs ∧ h.get? bm = some ob ∧ ob.cls = .type "module" ∧ ob.dict = some builtinsNs ∧ ob.data = .plain

section
variable {P : Program} {w : World} {K : PySem.W.Frag} {mg mb : Str → Option Value} {k : Nat} {fa a : Addr} {fd : FuncData} {x : Str} {sp : Sp} {s₁ : Shared} {vs : List Value} {ns : List Int} {cs : List (Addr × Addr)}
theorem callT_from (KX : K.In s₁.heap) (hns : s₁.heap.Ns mainGlobals mg) (hb : s₁.heap.Ns builtinsNs mb)
    (hbb : ∀ x : Str, x ≠ "__name__" → mb x = bootBuiltins x) (hlim : s₁.heap.NoLimit) (hdig : s₁.heap.NoDigits) (hg : s₁.gens = #[]) (hr : Room k callerA)
    (T : TabsIn s₁.heap cs) (hbm : Mains mg s₁.heap)
    (F : ∀ base : Heap, K.In base → base.Ns mainGlobals mg → (∀ p ∈ cs, LamX.TabB base mg p.1 p.2) → base.NoDigits → FnG P w K mg base CX0 k fa fd [x] sp)
    (hbind : ∀ (s : Shared) (u : Value), BindsTo s fd ⟨[u], []⟩ [(x, u)])
    (H : Hp) (kinds : ∀ b u, H b = some u → (∃ o u', u = .frz o u' ∧ ((∃ vs n, o.data = .seq vs n) ∨ ∃ es ep, o.data = .dict es ep) ∧ b ≠ mainGlobals ∧ b ≠ builtinsNs ∧ b ≠ cStatics) ∨ (b ∈ cs.map (·.2) ∧ u = .tbl #[]))
    (htab : ∀ p ∈ cs, H p.2 = some (.tbl #[])) (hok : HOk P w H s₁.heap) (offK : ∀ b, H b ≠ none → K.lookup b = none)
    (hsp : sp [.ref a] H (fun v _ => v = .bl true) fun _ _ _ => False) :
    codeAny (model P w) callerA (.call (.ref fa) ⟨[.ref a], []⟩)
      (fun r s' => r = .ok (.ret (.bool true)) ∧ OldK s₁.heap s'.heap ∧ s'.os = s₁.os ∧ AllBare s'.gens) s₁ := by
  have isTab : ∀ {b : Addr}, b ∈ cs.map (·.2) → ∃ p ∈ cs, p.2 = b ∧ s₁.heap.get? b = some (tabObj #[]) := by
    intro b hb
    obtain ⟨p, hp, e⟩ := List.mem_map.mp hb
    exact ⟨p, hp, e, e ▸ T.empty p hp⟩
  have frzAt : ∀ {b : Addr} {o : Obj} {u : HO}, H b = some (.frz o u) → s₁.heap.get? b = some o := fun e => (hok _ _ e).1
  -- a thing of another kind is not tracked
  have plain : ∀ {b : Addr} {o : Obj}, s₁.heap.get? b = some o → (∀ vs n, o.data ≠ .seq vs n) → (∀ es ep, o.data ≠ .dict es ep) → o.data ≠ .fields #[] → H b = none := by
    intro b o e h1 h2 h3
    cases q : H b with
    | none => rfl
    | some u =>
      rcases kinds b u q with ⟨o', u', rfl, kd, _⟩ | ⟨hb, _⟩
      · have z := frzAt q
        rw [e] at z; cases z
        rcases kd with ⟨v, n, z⟩ | ⟨es, ep, z⟩
        · exact absurd z (h1 _ _)
        · exact absurd z (h2 _ _)
      · obtain ⟨_, _, _, z⟩ := isTab hb
        rw [e] at z; cases z
        exact absurd rfl h3
  have inK : K.In (hidT s₁.heap H) := by
    intro b o e
    refine hidT_get (KX b o e) ?_
    cases q : H b with
    | none => rfl
    | some u => rw [offK b (by rw [q]; simp)] at e; cases e
  have isNs : ∀ {b : Addr} {m : Str → Option Value}, s₁.heap.Ns b m → (b = mainGlobals ∨ b = builtinsNs ∨ b = cStatics) → H b = none := by
    rintro b m ⟨o, es, ep, e, d, _⟩ which
    cases q : H b with
    | none => rfl
    | some u =>
      rcases kinds b u q with ⟨o', u', rfl, _, n1, n2, n3⟩ | ⟨hb, _⟩
      · rcases which with z | z | z
        · exact absurd z n1
        · exact absurd z n2
        · exact absurd z n3
      · obtain ⟨_, _, _, z⟩ := isTab hb
        rw [e] at z; cases z
        cases d
  have ns_in : ∀ {b : Addr} {m : Str → Option Value}, (b = mainGlobals ∨ b = builtinsNs ∨ b = cStatics) → s₁.heap.Ns b m → (hidT s₁.heap H).Ns b m := by
    intro b m wh q
    have n := isNs q wh
    obtain ⟨o, es, ep, e, d, r⟩ := q
    exact ⟨o, es, ep, hidT_get e n, d, r⟩
  have hM : Mod K mg (hidT s₁.heap H) :=
    ⟨inK, ns_in (.inl rfl) hns, ⟨mb, ns_in (.inr (.inl rfl)) hb, hbb⟩, hlim.elim fun mc z => ⟨mc, ns_in (.inr (.inr rfl)) z.1, z.2⟩⟩
  have e0 : Env0 P w K mg (hidT s₁.heap H) callerA [] s₁ H :=
    ⟨rfl, hM, fun b o e => of_hidT e, Nat.le_of_eq (hidT_size _ _), trivial, fun b hb => absurd (show b ∈ ([] : List Addr) from hb) (by simp), hok, .of_eq hg⟩
  have TB : ∀ p ∈ cs, LamX.TabB (hidT s₁.heap H) mg p.1 p.2 := by
    intro p hp
    have tp := T.empty p hp
    constructor
    · obtain ⟨o, us, file, tf, flags, tg, inF, text, tt, e1, r1, r2, r3, more⟩ := T.head p hp
      refine ⟨o, us, file, tf, flags, tg, inF, text, tt, hidT_get e1 (plain e1 ?_ ?_ ?_), r1, r2, r3, more⟩
      · intro v n z; rw [r2] at z; cases z
      · intro v n z; rw [r2] at z; cases z
      · intro z; rw [r2] at z; cases z; simp at r3
    · obtain ⟨bm, ob, b1, b2, b3, b4, b5, b6⟩ := hbm
      refine ⟨bm, ob, b1, b2, ?_, ?_, hidT_get b3 (plain b3 ?_ ?_ ?_), b4, b5, b6⟩
      · rintro rfl
        obtain ⟨o, es, ep, e, d, _⟩ := hns
        rw [e] at b3; cases b3
        rw [d] at b6; cases b6
      · rintro rfl
        rw [tp] at b3; cases b3
        cases b6
      · intro v n z; rw [b6] at z; cases z
      · intro v n z; rw [b6] at z; cases z
      · intro z; rw [b6] at z; cases z
    · intro z
      obtain ⟨o, es, ep, e, d, _⟩ := hns
      rw [z, tp] at e; cases e
      cases d
  have ND : (hidT s₁.heap H).NoDigits := hdig.elim fun mc z => ⟨mc, ns_in (.inr (.inr rfl)) z.1, z.2⟩
  have it := (F _ inK (ns_in (.inl rfl) hns) TB ND).goes callerA [] s₁ H ⟨[.ref a], []⟩ [.ref a] [.ref a] _ _ hr rfl e0 (hbind s₁ (.ref a)) (.cons rfl .nil) hsp
  refine codeAny_mono it ?_
  rintro (e | fl) s' h
  · exact False.elim h
  · cases fl with
    | ret u =>
      obtain ⟨v, H', os, bare, un, hok', r', q⟩ := h
      obtain rfl : v = .bl true := q
      obtain rfl : u = Value.bool true := r'
      have stays : ∀ b o, b ∉ cs.map (·.2) → s₁.heap.get? b = some o → s'.heap.get? b = some o := by
        intro b o nb e
        cases q : H b with
        | none => exact un.keep b o e q (fun z => nomatch (show b ∈ ([] : List Addr) from z)) (by simp)
        | some u =>
          rcases kinds b u q with ⟨ob, u', rfl, _⟩ | ⟨hb, _⟩
          · have e1 := frzAt q
            have e2 := (hok' b _ (un.frzs b ob _ q)).1
            rw [e] at e1; cases e1
            exact e2
          · exact absurd hb nb
      have grew : ∀ p ∈ cs, ∃ more : Array Value, s'.heap.get? p.2 = some (tabObj more) := by
        intro p hp
        obtain ⟨more, z⟩ := un.tbls p.2 #[] (htab p hp)
        exact ⟨_, hok' p.2 _ z⟩
      refine ⟨rfl, ⟨fun b o e => ?_, fun b o e => ?_⟩, os, bare⟩
      · by_cases hb : b ∈ cs.map (·.2)
        · obtain ⟨p, hp, rfl, e'⟩ := isTab hb
          obtain ⟨more, hm⟩ := grew p hp
          rw [e'] at e; cases e
          exact .inr (.inl ⟨((T.head p hp).tab e').isCodeTable, rfl, #[], more, rfl, by rw [Array.empty_append]; exact hm⟩)
        · exact .inl (stays b o hb e)
      · by_cases hb : b ∈ cs.map (·.2)
        · obtain ⟨p, hp, rfl, _⟩ := isTab hb
          obtain ⟨more, hm⟩ := grew p hp
          exact ⟨_, hm⟩
        · exact ⟨o, stays b o hb e⟩
    | next => exact False.elim h
    | brk => exact False.elim h
    | cont => exact False.elim h

theorem lawT_call (KX : K.In s₁.heap) (hns : s₁.heap.Ns mainGlobals mg) (hb : s₁.heap.Ns builtinsNs mb)
    (hbb : ∀ x : Str, x ≠ "__name__" → mb x = bootBuiltins x) (hlim : s₁.heap.NoLimit) (hdig : s₁.heap.NoDigits) (hg : s₁.gens = #[]) (hmods : ∃ mm, s₁.heap.Ns sysModules mm) (off : OffK K)
    (T : TabsIn s₁.heap cs) (hbm : Mains mg s₁.heap) (offT : ∀ p ∈ cs, K.lookup p.2 = none)
    (ha : s₁.heap.get? a = some { cls := .type "list", data := .seq vs.toArray }) (hi : IntsAre vs ns) (hl : ns.length ≤ sizeLine) (hr : Room k callerA)
    (F : ∀ base : Heap, K.In base → base.Ns mainGlobals mg → (∀ p ∈ cs, LamX.TabB base mg p.1 p.2) → base.NoDigits → FnG P w K mg base CX0 k fa fd [x] sp)
    (hbind : ∀ (s : Shared) (u : Value), BindsTo s fd ⟨[u], []⟩ [(x, u)]) (hlow : a ≠ sysModules)
    (hsp : ∀ H : Hp, EntryT K cs H a ns → sp [.ref a] H (fun v _ => v = .bl true) fun _ _ _ => False) :
    codeAny (model P w) callerA (.call (.ref fa) ⟨[.ref a], []⟩)
      (fun r s' => r = .ok (.ret (.bool true)) ∧ OldK s₁.heap s'.heap ∧ s'.os = s₁.os ∧ AllBare s'.gens) s₁ := by
  have rv := vals_ints hi
  have lenV := hi.length
  obtain ⟨mm, om, ees, eep, hm, hmd, _⟩ := hmods
  let lo : Obj := { cls := .type "list", data := .seq vs.toArray }
  let tr : Bool := (K.lookup a).isNone
  let H : Hp := fun b => if b = sysModules then some (.frz om (.ext fun _ => True)) else if b ∈ cs.map (·.2) then some (.tbl #[]) else if b = a ∧ tr = true then some (.frz lo (.lst (ns.map V.int))) else none
  have isTab : ∀ {b : Addr}, b ∈ cs.map (·.2) → s₁.heap.get? b = some (tabObj #[]) := by
    intro b hb
    obtain ⟨p, hp, e⟩ := List.mem_map.mp hb
    exact e ▸ T.empty p hp
  have sysNot : sysModules ∉ cs.map (·.2) := by
    intro z
    have e := isTab z
    rw [hm] at e; cases e
    cases hmd
  have aNot : a ∉ cs.map (·.2) := by
    intro z
    have e := isTab z
    rw [ha] at e
    have z' : Data.seq vs.toArray _ = Data.fields #[] := congrArg Obj.data (Option.some.inj e)
    cases z'
  have hS : H sysModules = some (.frz om (.ext fun _ => True)) := if_pos rfl
  have hTb : ∀ {b : Addr}, b ∈ cs.map (·.2) → H b = some (.tbl #[]) := by
    intro b hb
    have n : ¬ b = sysModules := fun e => sysNot (e ▸ hb)
    exact (if_neg n).trans (if_pos hb)
  have hA : K.lookup a = none → H a = some (.frz lo (.lst (ns.map V.int))) := by
    intro e
    have t : tr = true := by show (K.lookup a).isNone = true; rw [e]; rfl
    exact (if_neg hlow).trans ((if_neg aNot).trans (if_pos ⟨rfl, t⟩))
  have hU : ∀ b u, H b = some u → (b = sysModules ∧ u = .frz om (.ext fun _ => True)) ∨ (b ∈ cs.map (·.2) ∧ u = .tbl #[]) ∨ (b = a ∧ K.lookup a = none ∧ u = .frz lo (.lst (ns.map V.int))) := by
    intro b u z
    by_cases h1 : b = sysModules
    · subst h1; rw [hS] at z; cases z; exact .inl ⟨rfl, rfl⟩
    · by_cases h2 : b ∈ cs.map (·.2)
      · rw [hTb h2] at z; cases z; exact .inr (.inl ⟨h2, rfl⟩)
      · have z' := (if_neg h1).symm.trans z
        have z'' := (if_neg h2).symm.trans z'
        by_cases h3 : b = a ∧ tr = true
        · have z3 := (if_pos h3).symm.trans z''
          cases z3
          exact .inr (.inr ⟨h3.1, Option.isNone_iff_eq_none.mp h3.2, rfl⟩)
        · have z3 := (if_neg h3).symm.trans z''
          cases z3
  have isNs : ∀ {b : Addr} {m : Str → Option Value}, s₁.heap.Ns b m → b ≠ a := by
    rintro b m ⟨o, es, ep, e, d, r⟩ rfl
    rw [ha] at e; cases e
    cases (show Data.seq vs.toArray _ = Data.dict es ep from d)
  have n1 : a ≠ mainGlobals := (isNs hns).symm
  have n2 : a ≠ builtinsNs := (isNs hb).symm
  have n3 : a ≠ cStatics := hlim.elim fun mc z => (isNs z.1).symm
  refine callT_from KX hns hb hbb hlim hdig hg hr T hbm F hbind H ?_ (fun p hp => hTb (List.mem_map.mpr ⟨p, hp, rfl⟩)) ?_ ?_ (hsp H ⟨⟨om, _, hS⟩, ?_, hlow, fun p hp => hTb (List.mem_map.mpr ⟨p, hp, rfl⟩)⟩)
  · intro b u z
    rcases hU b u z with ⟨rfl, rfl⟩ | h | ⟨rfl, _, rfl⟩
    · exact .inl ⟨_, _, rfl, .inr ⟨ees, eep, hmd⟩, by decide, by decide, by decide⟩
    · exact .inr h
    · exact .inl ⟨_, _, rfl, .inl ⟨_, _, rfl⟩, n1, n2, n3⟩
  · intro b u z
    rcases hU b u z with ⟨rfl, rfl⟩ | ⟨hb, rfl⟩ | ⟨rfl, _, rfl⟩
    · exact ⟨hm, trivial, ⟨om, hm⟩, fun _ _ _ _ => trivial⟩
    · exact isTab hb
    · exact ⟨ha, by rw [List.length_map]; exact hl, vs, _, rv, ha⟩
  · intro b z
    cases q : H b with
    | none => exact absurd q z
    | some u =>
      rcases hU b u q with ⟨e, _⟩ | ⟨hb, _⟩ | ⟨e, hk, _⟩
      · rw [e]; exact off
      · obtain ⟨p, hp, e⟩ := List.mem_map.mp hb
        exact e ▸ offT p hp
      · rw [e]; exact hk
  · cases hk : K.lookup a with
    | none => exact .inl (.inr ⟨_, hA hk⟩)
    | some o =>
      have e := KX a o hk
      rw [ha] at e; cases e
      exact .inr ⟨_, vs.toArray, _, hk, rfl, rfl, rfl, by rw [List.size_toArray, lenV]; exact hl, by simpa using rv⟩
end

section
open PySem.W PySem.Calls
/-- what the text says of the defs with lambdas: their names -/
def NamesTab (q : Program) (K : Frag) (cs : List (Addr × Addr)) : Prop := ∀ p ∈ cs, K.lookup p.2 = none ∧ ∃ (x : Str) (d : DefRec), (recsOf q).find? (fun e => e.name == x) = some d ∧ tabIn K x = some (p.1, p.2)
theorem walkT {l : OpenLaw} {n k : Nat} {q : Program} {loose : List Str} {XP : (Str → Option Value) → Heap → Prop} {YP : World → Heap → Prop}
    {d : DefRec} {K : Params → Frag} {sp : Frag → List (Addr × Addr) → Sp} {x : Str} (himp : importsNone q = true) (hn : l.most = some n) (hn2 : n ≤ sizeLine) (hdf : d.params.defaults = []) (hr : Room k callerA)
    (hY : ∀ (w : World) (h : Heap), YP w h → (K w.params).In h)
    (F : ∀ (w : World) (mg : Str → Option Value) (fa : Addr) (h : Heap), (K w.params).In h → h.Ns mainGlobals mg → mg d.name = some (.ref fa) →
      OffK (K w.params) ∧ ∃ (fd : FuncData) (cs : List (Addr × Addr)), NamesTab q (K w.params) cs ∧ (∀ (s : Shared) (u : Value), BindsTo s fd ⟨[u], []⟩ [(x, u)]) ∧
        ∀ base : Heap, (K w.params).In base → base.Ns mainGlobals mg → (∀ p ∈ cs, LamX.TabB base mg p.1 p.2) → base.NoDigits → FnG l.prog w (K w.params) mg base CX0 k fa fd [x] (sp (K w.params) cs))
    (hsp : ∀ (K : Frag) (cs : List (Addr × Addr)) (H : Hp) (a : Addr) (ns : List Int), ns.length ≤ n → OffK K → EntryT K cs H a ns → sp K cs [.ref a] H (fun v _ => v = .bl true) fun _ _ _ => False) :
    WalkO q loose XP YP l.row.toRowW d [] (fun f vs => PySem.call f vs) := by
  intro w s₀ s₁ mg mb G Y fa o pm cd doc dV kV ho hd hcd hD hmg hg args vals as hpre hlay hrd hwl hlo
  cases Dflts.none hD hdf
  cases Dflts.noKw hD
  obtain ⟨a, vs, ns, e1, e2, hobj, hints, hlen⟩ := Att.script_of hn hpre hwl
  subst e1
  subst e2
  have low : a ≠ sysModules := by
    cases hrd with
    | cons r _ =>
      cases r with
      | list h1 h2 h3 h4 => exact beq_eq_false_iff_ne.mp (hlo a (by simp))
  have KX := hY w _ Y
  obtain ⟨off, fd, cs, nt, hb, hF⟩ := F w mg fa _ KX G.T.g hmg
  have T : TabsIn s₁.heap cs := ⟨fun p hp => (nt p hp).2.elim fun x z => z.elim fun d z => (tab_of G.T KX z.1 z.2).2, fun p hp => (nt p hp).2.elim fun x z => z.elim fun d z => (tab_of G.T KX z.1 z.2).1⟩
  have it := lawT_call (P := l.prog) KX G.T.g G.T.b G.T.builtins G.T.nolimit G.T.nodigits hg ((G.T.seer himp).mods.elim fun mm z => ⟨mm, z.1⟩) off T G.T.bmain (fun p hp => (nt p hp).1) hobj hints (Nat.le_trans hlen hn2) hr hF hb low
    fun H e => hsp (K w.params) cs H a ns hlen off e
  refine enter_call (codeAny_mono it ?_)
  rintro r s' ⟨rfl, h2, h3, h4⟩
  refine ⟨.inl ⟨.bool true, .bool true, [], rfl, fun _ => rfl, .bool true, Att.post_true l _, ?_⟩, h2, h3, h4⟩
  exact fun _ => ⟨List.Pairwise.nil, fun _ hm => nomatch hm⟩
end
theorem tab_mk {K : PySem.W.Frag} {x : Str} {f c P : Addr} {oc ot : Value} {od ot' : Option Addr} {fd : FuncData} {sl sl' : Array (Option Value)} {vs : Array Value} (a : PySem.W.nsIn K mainGlobals x = some (some (.ref f)))
    (l : K.lookup f = some ⟨oc, od, .func fd, sl⟩) (hc : fd.code = .ref c) (lc : K.lookup c = some ⟨ot, ot', .fields vs, sl'⟩) (hv : vs[11]? = some (.ref P)) : PySem.W.tabIn K x = some (c, P) := by
  unfold PySem.W.tabIn
  simp only [a, l, hc, lc, hv]
section
variable {P : Program} {w : World} {K : PySem.W.Frag} {mg : Str → Option Value} {base : Heap}
/-- a def by its body, its code object told -/
theorem okGc {x qual : Str} {st : Stmt} {f : Addr} {fd : FuncData} {N ps : List Str} {k : Nat} {sp : Sp} (F : Fun K x qual st f fd)
    (S : FnScope N ps (defScope st)) (many : ∀ vs H Q E, sp vs H Q E → vs.length = ps.length)
    (its_body : ∀ (cdv : Value) (A : Around) (outer : List Env) (s : Shared) (H : Hp) (vs : List V) (Q : VK) (E : XK), fd.code = cdv →
      Room k (A.deeper (envOfC qual (defScope st) s.heap.objs.size f cdv)) → A.guards = some [] → sp vs H Q E →
      ∃ t, PSs (cxOf CX0 P w K mg base N qual (defScope st) f cdv A outer s H E).nox (defBody st) t ∧
        t { nx := fun _ H' => Q .non H', rt := Q } (start N vs) H) : FnG P w K mg base CX0 (k + 1) f fd ps sp := by
  obtain ⟨oc, od, kV, doc, pm, an, cdv, ct, osl, e, lk, hcd⟩ := F.ex
  subst e
  refine fnG_of lk hcd S many ?_
  intro A outer s H vs Q E hr hg hs
  obtain ⟨t, h, q⟩ := its_body cdv A outer s H vs Q E rfl hr hg hs
  exact ⟨t, h.nox, q⟩
end
end Kg
/-! Kg9: an own error that is caught and kept: try: .. except C as n: kept = n; later isinstance(kept, D) and kept.f. -/
namespace Kg
open PySem PySem.Spec PyProof.Rows L2

/-- the object at a is an error of the class at C, with its dict at d -/
def Kept (a C d : Addr) : Heap → Prop := fun h => ∃ (o : Obj) (vs : Array Value), h.get? a = some o ∧ Zc (.ref C) (some d) o ∧ o.data = .fields vs
def kept (a C d : Addr) : HO := .ext (Kept a C d)
theorem kept_ok {P : Program} {w : World} {H : Hp} {h : Heap} {a C d : Addr} (z : Kept a C d h) : ObjOk P w H h a (kept a C d) := by
  refine ⟨z, ?_, ?_⟩
  · obtain ⟨o, _, e, _⟩ := z; exact ⟨o, e⟩
  · rintro h1 h2 ⟨o, vs, e, q, r⟩ k
    exact ⟨o, vs, k o e, q, r⟩
theorem kept_at {P : Program} {w : World} {H : Hp} {h : Heap} {a C d : Addr} (ok : HOk P w H h) (e : H a = some (kept a C d)) : Kept a C d h := by
  have z : ObjOk P w H h a (.ext (Kept a C d)) := ok a _ e
  exact z.1

section
variable {X : Cx} {pins : List (Addr × Obj)} {σ : L2.St} {H : Hp} {s : Shared}
/-- what was not there at the entry may be told of from now on -/
theorem Inv.tell {a : Addr} {o : Obj} {vs : Array Value} {u : HO} (I : Inv X pins σ H s) (at_a : s.heap.get? a = some o) (da : o.data = .fields vs) (na : H a = none)
    (young : X.s_0.heap.get? a = none) (off : a ≠ X.env.locals) (noPin : ∀ p ∈ X.pn ++ pins, p.1 ≠ a) (ok : ∀ H', ObjOk X.prog X.w H' s.heap a u) : Inv X pins σ (upd H a u) s := by
  have was : ∀ {b : Addr} {t : HO}, H b = some t → upd H a u b = some t := by
    intro b t e
    rw [upd_ne (fun z => by rw [z, na] at e; cases e)]
    exact e
  have U := I.base
  have notCell : ∀ x c, X.env.cells.lookup x = some c → c ≠ a := by
    rintro x c e rfl
    obtain ⟨v, o', e1, e2⟩ := I.cell x c e
    rw [at_a] at e1; cases e1
    rw [da] at e2; cases e2
  constructor
  · exact I.ok
  · exact I.os
  · exact I.bare
  · constructor
    · exact U.keep
    · exact U.slot
    · intro b t e n x
      rw [upd_ne (fun z => by rw [z, young] at e; cases e)]
      exact U.free b t e n x
    · exact U.there
    · exact fun b xs e => was (U.tups b xs e)
    · exact fun b t v e => was (U.frzs b t v e)
    · intro b ps e
      obtain ⟨more, q⟩ := U.tbls b ps e
      exact ⟨more, was q⟩
  · exact I.loc
  · exact I.cell
  · rw [upd_ne (Ne.symm off)]; exact I.free
  · intro x c e
    rw [upd_ne (notCell x c e)]
    exact I.freeC x c e
  · intro p hp
    obtain ⟨z1, z2, z3⟩ := I.pin p hp
    exact ⟨z1, (upd_ne (noPin p hp)).trans z2, z3⟩
  · intro b t e
    by_cases hb : b = a
    · subst hb
      rw [upd_same] at e; cases e
      exact ok _
    · rw [upd_ne hb] at e
      exact (I.hok b t e).stay (fun _ _ _ q => q) (fun c q => was q) fun c xs q => was q
  · exact I.len
end

/-- the clause 'except c as n' (n in slot i), whose suite goes on behind the try; every error of the body is of c -/
def wKeep (K : PySem.W.Frag) (c : Value) (i n : Nat) (ts : Addr → Value → Option Addr → TS) (D : Ends) : WX := fun cls d σ H =>
  ∃ C e : Addr, cls = .ref C ∧ d = some e ∧ PySem.W.exmOne K (.ref C) c = some true ∧ (σ.length = n → ∀ a, H a = none →
    ts a (.ref C) (some e) { nx := fun σ' H' => H' a = none ∧ D.nx (σ'.set i none) (upd H' a (kept a C e)), rt := fun _ _ => False, bk := fun _ _ => False, ct := fun _ _ => False } (σ.set i (some (.ref a))) H)

section
variable {X : Cx} {x n : Str} {c : Value} {i : Nat} {body more : List Stmt} {first : Stmt} {np pos pos' : Pos} {tb : WX → TS} {ts : Addr → Value → Option Addr → TS}
theorem ps_try_keep (hs : X.stack = X.env :: X.outer) (hf : X.env.frame = some X.env.locals) (hex : X.ex = []) (nd : X.N.Nodup) (hi : X.N[i]? = some n) (hln : X.env.kindOf n = some .local) (hc : Names X x c)
    (hb : ∀ (W : WX) (pn : List (Addr × Obj)) (xe : Value → Shared → Prop), Takes (X.tr pn xe) W → PassesOwn (model X.prog X.w) X.A X.env xe → PSs (X.tr pn xe) body (tb W))
    (hsu : ∀ (a : Addr) (oe : Obj) (cls : Value) (d : Option Addr) (pn : List (Addr × Obj)), Zc cls d oe → (∃ vs, oe.data = .fields vs) → PSs (X.suite a ((a, oe) :: pn)) (first :: more) (ts a cls d)) :
    PS X (.Try body [.ExceptHandler (some (.Name x np)) (some n) (first :: more) pos'] [] [] pos) (fun D σ H => tb (wKeep X.K c i X.N.length ts D) D σ H) := by
  constructor
  intro pins s σ H D I h
  have ok := I.ok
  have frames : X.A.frames = some (X.env :: X.outer) := hs ▸ ok.frames
  apply wpAny_Try_except
  refine wpAny_mono ((hb (wKeep X.K c i X.N.length ts D) (X.pn ++ pins) _ ?tk PassesOwn.looking).run [] s σ H D (I.toTry _) h) ?done (fun _ _ z => z)
  case done =>
    intro f s1 q
    cases f with
    | next =>
      obtain ⟨σ', H', J, q⟩ := q
      exact wpAny_execs_nil ⟨σ', H', J.ofTry ok, q⟩
    | brk => exact q.elim fun σ' z => z.elim fun H' z => ⟨σ', H', z.1.ofTry ok, z.2⟩
    | cont => exact q.elim fun σ' z => z.elim fun H' z => ⟨σ', H', z.1.ofTry ok, z.2⟩
    | ret u => exact q.elim fun v z => z.elim fun σ' z => z.elim fun H' z => ⟨v, σ', H', z.1.ofTry ok, z.2⟩
  case tk =>
    intro u s' thrown
    obtain ⟨a, B, sI, pins', σ', H', cls, d, eu, J', ground, up, sky, na, os, ag, C, e, ec, ed, match_, go⟩ := thrown
    subst eu ec ed
    have J : Inv X pins σ' H' sI := J'.ofTry ok
    have sky2 : Sky B (X.env :: X.outer) a (Zc (.ref C) (some e)) X.env.locals s'.heap := hs ▸ sky
    show wpAny (model X.prog X.w) X.A (noteFrame (.ref a) X.env) _ _ _
    refine Sky.land Zc.steady frames hf sky2 ?_
    intro h1 fly1 up1
    obtain ⟨oe, vs, at1, zc1, data1⟩ := fly1.there
    have noFrame : a ∉ frs (X.env :: X.outer) := by
      intro hm
      obtain ⟨_, o2, e2, q2⟩ := fly1.2.2.1.mem hm
      rw [at1] at e2; cases e2
      exact q2 _ data1
    have n1 : a ≠ X.env.locals := by
      intro z
      refine noFrame (List.mem_filterMap.mpr ⟨X.env, List.mem_cons_self, ?_⟩)
      rw [hf, z]
    have n2 : a ∉ X.fs := by
      intro hm
      obtain ⟨env, he, q⟩ := List.mem_filterMap.mp hm
      exact noFrame (List.mem_filterMap.mpr ⟨env, List.mem_cons_of_mem _ he, q⟩)
    -- nothing of before is the error
    have notOld : ∀ {b : Addr} {o : Obj}, sI.heap.get? b = some o → b ≠ a := by
      rintro b o hb rfl
      have z := ground b o hb (by rw [hs]; exact noFrame)
      rw [fly1.2.1] at z; cases z
    have young : X.s_0.heap.get? a = none := by
      cases q : X.s_0.heap.get? a with
      | none => rfl
      | some o =>
        obtain ⟨o2, q2⟩ := J.base.there a o q (by rw [hex]; simp)
        exact absurd rfl (notOld q2)
    have noPin : ∀ p ∈ X.pn ++ pins, p.1 ≠ a := fun p hp => notOld (J.pin p hp).1
    have J1 : Inv X pins σ' H' { s' with heap := h1 } := J.landed ground fly1.1 (up.trans up1) os ag
    have S1 := J1.suite at1 data1 na n1 n2
    refine wpAny_handleBy_cons (codeAny_handlers_test ?_) (by intro z; cases z)
    have its_type : PySem.W.Looks (model X.prog X.w) h1 (typeOf (.ref a)) (.ref C) := fun A Q E s k q => wpAny_typeOf_ref (k _ _ at1) (by rw [zc1.1]; exact q)
    have matches_ := PySem.W.exm_one (M := model X.prog X.w) J1.kIn its_type match_
    have clause : ∀ {Q : Value → Shared → Prop} {E : Value → Shared → Prop}, Q c { s' with heap := h1 } →
        wpAny (model X.prog X.w) (X.A.mark (some (.ref a))) (eval (.Name x np) X.env) Q E { s' with heap := h1 } := by
      intro Q E q
      obtain ⟨g, dbg, m⟩ := hc
      rcases m with m | ⟨m, v, nn⟩
      · exact ld_glob (X := X.suite a ((a, oe) :: (X.pn ++ pins))) S1 g m q dbg
      · exact ld_blt (X := X.suite a ((a, oe) :: (X.pn ++ pins))) S1 g m v q nn dbg
    refine clause (matches_.here ?_)
    refine codeAny_handlers_suite_as (HandSPX.lands_againZ fly1 ?_)
    intro h2 fly2 up2
    have J2 : Inv X pins σ' H' { s' with heap := h2 } := J.landed ground fly2.1 ((up.trans up1).trans up2) os ag
    obtain ⟨oe2, vs2, at2, zc2, data2⟩ := fly2.there
    have S2 := J2.suite at2 data2 na n1 n2
    refine store_ok (X := X.suite a ((a, oe2) :: (X.pn ++ pins))) (v := .ref a) S2 nd hi (.inl hln) rfl ?_ (.inr hln)
    intro s5 S5
    refine wpAny_mono ((hsu a oe2 (.ref C) (some e) (X.pn ++ pins) zc2 ⟨_, data2⟩).run [] s5 _ H' _ S5 (go J.len a na)) ?_ (fun _ _ z => z.elim)
    intro f s6 q
    cases f with
    | next =>
      obtain ⟨σ6, H6, S6, n6, q6⟩ := q
      have at6 := (S6.pin (a, oe2) (List.mem_append_left _ List.mem_cons_self)).1
      have I6 : Inv X pins σ6 (upd H6 a (kept a C e)) s6 := Inv.tell (S6.unsuite ok) at6 data2 n6 young n1 noPin fun H' => kept_ok ⟨oe2, vs2, at6, zc2, data2⟩
      exact gone_ok I6 nd hi hln fun s7 J7 => ⟨_, _, J7, q6⟩
    | brk => exact q.elim fun _ z => z.elim fun _ z => z.2.elim
    | cont => exact q.elim fun _ z => z.elim fun _ z => z.2.elim
    | ret u => exact q.elim fun _ z => z.elim fun _ z => z.elim fun _ z => z.2.2.elim
end

/-- isinstance(kept error, c) -/
def rIsK (K : PySem.W.Frag) : List V → Hp → VK → Prop := fun xs H Q => ∃ (a C d : Addr) (fs : List (Str × V)) (c : V) (cv : Value) (b : Bool),
  xs = [.ref a, c] ∧ H a = some (kept a C d) ∧ H d = some (.xd fs) ∧ ExcC K C ∧ ClsV c cv ∧ PySem.W.kitOne K (.ref C) cv = some b ∧ Q (.bl b) H
theorem held_inst {X : Cx} {pins : List (Addr × Obj)} {σ : L2.St} {H : Hp} {s : Shared} {a C d : Addr} {fs : List (Str × V)} (I : Inv X pins σ H s) (e : H a = some (kept a C d)) (ed : H d = some (.xd fs)) :
    ∃ (o od : Obj) (mA : Str → Option Value), PySem.W.InstAt s.heap a o C (some od) ∧ s.heap.Ns1 d mA ∧ s.heap.get? d = some od ∧ ∀ f, RelO (fs.lookup f) (mA f) := by
  obtain ⟨o, vs, at_a, zc, data⟩ := kept_at I.hok e
  have x : ObjOk X.prog X.w H s.heap d (.xd fs) := I.hok d _ ed
  obtain ⟨mA, ns, rel⟩ := x
  have ns' := ns
  obtain ⟨od, es, ep, ho, q⟩ := ns
  refine ⟨o, od, mA, ⟨at_a, zc.1, ?_, ?_⟩, ns', ho, rel⟩
  · unfold PySem.W.notCls; rw [data] <;> rfl
  · rw [zc.2]; exact ho
theorem call_isK {X : Cx} : CallR X (.builtin "isinstance") (rIsK X.K) := by
  intro pins s σ H xs us Q I r h
  obtain ⟨a, C, d, fs, c, cv, b, rfl, e, ed, K, cl, k, q⟩ := h
  obtain ⟨u1, u2, rfl, r1, r2⟩ := vals2 r
  obtain rfl := cl.eq r2
  cases (show u1 = Value.ref a from r1)
  obtain ⟨o, od, mA, inst, _⟩ := held_inst I e ed
  obtain ⟨cd, hcd, _⟩ := PySem.W.any_some K.hd
  refine PySem.W.kia_one (PySem.W.kitx_exc (by rw [hcd]; rfl) K.hg K.hk K.hs K.ha K.hn K.ht K.hm) I.kIn inst k (fun z => nomatch z) ?_
  exact fun tk => ⟨.bl b, H, I.tok tk, rfl, q⟩

/-- (kept error).f -/
def tKeptF (K : PySem.W.Frag) (f : Str) (te : TE) : TE := fun σ H Q => te σ H fun x H1 => ∃ (a C d : Addr) (fs : List (Str × V)) (v : V),
  x = .ref a ∧ H1 a = some (kept a C d) ∧ H1 d = some (.xd fs) ∧ ExcC K C ∧ PySem.W.findIn K (.ref C) f = some none ∧ fs.lookup f = some v ∧ Q v H1
theorem pe_keptF {X : Cx} {e : Expr} {f : Str} {te : TE} {pos : Pos} (he : PE X e te) (hb : attributeBase e f X.env (eval e X.env) = eval e X.env := by rfl) :
    PE X (.Attribute e f pos) (tKeptF X.K f te) := by
  constructor
  intro pins s σ H Q I h
  refine attr_of hb (thn (he.run pins s σ H _ I h) ?_)
  rintro u s1 ⟨x, H1, I1, r, a, C, d, fs, v, rfl, e1, e2, K, hno, hl, q⟩
  cases (show u = Value.ref a from r)
  obtain ⟨o, od, mA, inst, ns, ho, rel⟩ := held_inst I1 e1 e2
  obtain ⟨od2, ho2, look⟩ := lookIn_ns ns
  rw [ho] at ho2; cases ho2
  obtain ⟨w, hw, rw_⟩ := RelO.some_of (v := v) (o := mA f) (by rw [← hl]; exact rel f)
  have found : PySem.W.findObj X.K C (some od) f = some (.value w) := PySem.W.findObj_own K.hd hno rfl (by rw [look, hw])
  exact HandSPX.exc_get I1.kIn inst K.hg K.hk K.hs found (handed_of rw_) ⟨v, H1, I1.tok _, rw_, q⟩
end Kg
namespace Kg
open PySem PySem.Spec PyProof.Rows L2
section
variable {K : PySem.W.Frag} {C D : Addr} {b : Bool}
theorem kit_self : PySem.W.kitOne K (.ref C) (.ref C) = some true := if_pos (by simp)
theorem kit_any {c : Value} (is : PySem.W.isClsIn K D = true) (ty : PySem.W.typeIn K (.ref D) = some (.type "type")) (h : PySem.W.subIn K c (.ref D) = some b) (ne : (c == Value.ref D) = false) :
    PySem.W.kitOne K c (.ref D) = some b := by
  have e : ((PySem.W.clsIn K D).isSome && PySem.W.typeIn K (.ref D) == some (.type "type")) = true := by
    have is' : (PySem.W.clsIn K D).isSome = true := is
    rw [is', ty] <;> rfl
  show (if (c == Value.ref D) = true then some true else if ((PySem.W.clsIn K D).isSome && PySem.W.typeIn K (.ref D) == some (.type "type")) = true then PySem.W.subIn K c (.ref D) else none) = some b
  rw [if_neg (by rw [ne]; decide), if_pos e]
  exact h
theorem exm_any (ex : PySem.W.subIn K (.ref D) (.type "BaseException") = some true) (is : PySem.W.isClsIn K D = true) (ty : PySem.W.typeIn K (.ref D) = some (.type "type")) (h : PySem.W.subIn K (.ref C) (.ref D) = some b) :
    PySem.W.exmOne K (.ref C) (.ref D) = some b := by
  have e1 : (PySem.W.subIn K (.ref D) (.type "BaseException") == some true) = true := by rw [ex] <;> rfl
  have e2 : ((PySem.W.clsIn K D).isSome && PySem.W.typeIn K (.ref D) == some (.type "type")) = true := by
    have is' : (PySem.W.clsIn K D).isSome = true := is
    rw [is', ty] <;> rfl
  show (if (PySem.W.subIn K (.ref D) (.type "BaseException") == some true) = true then (if ((PySem.W.clsIn K D).isSome && PySem.W.typeIn K (.ref D) == some (.type "type")) = true then PySem.W.subIn K (.ref C) (.ref D) else none) else none) = some b
  rw [if_pos e1, if_pos e2]
  exact h
end
/-- isinstance of a plain thing, or of a kept error -/
def rIsH (K : PySem.W.Frag) : List V → Hp → VK → Prop := fun xs H Q => rIsi K xs H Q ∨ rIsK K xs H Q
theorem call_isH {X : Cx} : CallR X (.builtin "isinstance") (rIsH X.K) := by
  intro pins s σ H xs us Q I r h
  rcases h with h | h
  · exact call_isi pins s σ H xs us Q I r h
  · exact call_isK pins s σ H xs us Q I r h
end Kg
/-! Kg19: a < b < c < d; tuples joined, empty ones too; sum of a tuple; == of one's own, either way. -/
namespace Kg
open PySem PySem.Spec PyProof.Rows L2
section
variable {X : Cx} {a b c d : Expr} {pos : Pos} {ta tb tc td : TE}
/-- each is asked once, up to the first that fails -/
def tChain3 (r r' r'' : R2) (ta tb tc td : TE) : TE := fun σ H Q => ta σ H fun x H1 => tb σ H1 fun y H2 => r x y H2 fun z H3 => ∃ k, z = .bl k ∧
  (if k = true then tc σ H3 fun u H4 => r' y u H4 fun z H5 => ∃ l, z = .bl l ∧ (if l = true then td σ H5 fun v H6 => r'' u v H6 Q else Q (.bl false) H5) else Q (.bl false) H3)
theorem pe_chain3 {op op' op'' : CmpOp} {r r' r'' : R2} (ho : OpR X (compareOp op) r) (ho' : OpR X (compareOp op') r') (ho'' : OpR X (compareOp op'') r'') (ha : PE X a ta) (hb : PE X b tb) (hc : PE X c tc) (hd : PE X d td)
    (hm : lastMarks [op, op', op''] [b, c, d] = false := by with_unfolding_all rfl) : PE X (.Compare a [op, op', op''] [b, c, d] pos) (tChain3 r r' r'' ta tb tc td) := by
  refine ⟨fun pins s σ H Q I h => ?_⟩
  refine Compare_chain (thn (ha.run pins s σ H _ I h) fun v s1 ⟨x, H1, I1, r1, q1⟩ => ?_) hm
  refine chain_link (thn (hb.run pins s1 σ H1 _ I1 q1) fun u s2 ⟨y, H2, I2, r2, q2⟩ => thn (ho pins s2 σ H2 x y v u _ I2 r1 r2 q2) fun w s3 ⟨z, H3, I3, r3, k, e, q3⟩ => ?_)
  subst e
  cases r3
  refine wpAny_truthy_bool ?_
  cases k with
  | false => exact ite_ff ⟨.bl false, H3, I3, rfl, q3⟩
  | true =>
    refine ite_tt (chain_link (thn (hc.run pins s3 σ H3 _ I3 q3) fun u2 s4 ⟨y2, H4, I4, r4, q4⟩ => thn (ho' pins s4 σ H4 y y2 u u2 _ I4 r2 r4 q4) fun w2 s5 ⟨z2, H5, I5, r5, l, e2, q5⟩ => ?_))
    subst e2
    cases r5
    refine wpAny_truthy_bool ?_
    cases l with
    | false => exact ite_ff ⟨.bl false, H5, I5, rfl, q5⟩
    | true => exact ite_tt (chain_last (thn (hd.run pins s5 σ H5 _ I5 q5) fun u3 s6 ⟨y3, H6, I6, r6, q6⟩ => ho'' pins s6 σ H6 y2 y3 u2 u3 Q I6 r4 r6 q6))
theorem pt_chain3 {op op' op'' : CmpOp} {r r' r'' : R2} (ho : OpR X (compareOp op) r) (ho' : OpR X (compareOp op') r') (ho'' : OpR X (compareOp op'') r'') (ha : PE X a ta) (hb : PE X b tb) (hc : PE X c tc) (hd : PE X d td)
    (hm : lastMarks [op, op', op''] [b, c, d] = false := by with_unfolding_all rfl) : PT X (.Compare a [op, op', op''] [b, c, d] pos) (tTest (tChain3 r r' r'' ta tb tc td)) := by
  refine ⟨fun pins s σ H Q I h => ?_⟩
  refine isTrue_chain (thn (ha.run pins s σ H _ I h) fun v s1 ⟨x, H1, I1, r1, q1⟩ => ?_) hm
  refine test_link (thn (hb.run pins s1 σ H1 _ I1 q1) fun u s2 ⟨y, H2, I2, r2, q2⟩ => thn (ho pins s2 σ H2 x y v u _ I2 r1 r2 q2) fun w s3 ⟨z, H3, I3, r3, k, e, q3⟩ => ?_)
  subst e
  cases r3
  refine wpAny_truthy_bool ?_
  cases k with
  | false =>
    obtain ⟨k', e', q'⟩ := q3
    cases e'
    exact ite_ff ⟨H3, I3, q'⟩
  | true =>
    refine ite_tt (test_link (thn (hc.run pins s3 σ H3 _ I3 q3) fun u2 s4 ⟨y2, H4, I4, r4, q4⟩ => thn (ho' pins s4 σ H4 y y2 u u2 _ I4 r2 r4 q4) fun w2 s5 ⟨z2, H5, I5, r5, l, e2, q5⟩ => ?_))
    subst e2
    cases r5
    refine wpAny_truthy_bool ?_
    cases l with
    | false =>
      obtain ⟨k', e', q'⟩ := q5
      cases e'
      exact ite_ff ⟨H5, I5, q'⟩
    | true =>
      refine ite_tt (test_last (thn (hd.run pins s5 σ H5 _ I5 q5) fun u3 s6 ⟨y3, H6, I6, r6, q6⟩ => thn (ho'' pins s6 σ H6 y2 y3 u2 u3 _ I6 r4 r6 q6) fun w3 s7 ⟨z3, H7, I7, r7, m, e3, q7⟩ => ?_))
      subst e3
      cases r7
      exact wpAny_truthy_bool ⟨H7, I7, q7⟩
/-- t + u, either may be empty -/
def rCatE (K : PySem.W.Frag) : R2 := fun x y H Q => ∃ a b xs ys, x = V.ref a ∧ y = V.ref b ∧ SqT K H a xs ∧ SqT K H b ys ∧ xs.length + ys.length ≤ sizeLine ∧
  (xs = [] → Q (.ref b) H) ∧ (xs ≠ [] → ys = [] → Q (.ref a) H) ∧ (xs ≠ [] → ys ≠ [] → ∀ p, H p = none → Q (.ref p) (upd H p (.tup (xs ++ ys))))
theorem op_catE : OpR X (binaryOp .Add) (rCatE X.K) := by
  intro pins s σ H x y v u Q I rx ry h
  obtain ⟨a, b, xs, ys, rfl, rfl, ha, hb, hz, q0, q1, q2⟩ := h
  cases rx
  cases ry
  by_cases n : xs = []
  · obtain ⟨its, r1, p1, _⟩ := I.tuple ha
    obtain ⟨its2, r2, p2, _⟩ := I.tuple hb
    have e : its = [] := r1.nil_iff.mpr n
    subst e
    obtain ⟨⟨cls, dd, data, sl⟩, ho, hc, m, hd⟩ := id p1
    obtain ⟨⟨cls2, dd2, data2, sl2⟩, ho2, hc2, m2, hd2⟩ := id p2
    simp only at hc hd hc2 hd2
    subst hc hd hc2 hd2
    exact concat_meets ⟨_, ho, rfl⟩ ⟨_, ho2, rfl⟩ noFill_tuple_add seq_tuple_add PySem.F.slot_tuple_add PySem.F.entry_tuple_add (PySem.F.args_tuple_add_2 _ _)
      (tuple_addW0 a b #[] its2.toArray m m2 dd dd2 sl sl2 rfl) ⟨ho, ho2, .ref b, H, I, rfl, q0 n⟩
  · exact op_catT pins s σ H (.ref a) (.ref b) _ _ Q I rfl rfl ⟨a, b, xs, ys, rfl, rfl, ha, hb, n, hz, q1 n, q2 n⟩
/-- sum(t), t a tuple of ints -/
def rSumT (K : PySem.W.Frag) : List V → Hp → VK → Prop := fun vs H Q => ∃ (a : Addr) (ns : List Int), vs = [V.ref a] ∧ SqT K H a (ns.map V.int) ∧ Q (.int ns.sum) H
theorem cr_sumT (hc : X.calm = true) : CallR X (.builtin "sum") (rSumT X.K) := by
  intro pins s σ H vs us Q I r h
  obtain ⟨a, ns, rfl, hs, q⟩ := h
  obtain ⟨its, rv, hl, _⟩ := I.tuple hs
  rw [Vals.ref1 r]
  obtain ⟨xs, e⟩ := rv.ints.allInts.items
  have hn : numsOf (intItems xs).toList = ns := by rw [← e]; exact rv.ints.numsOf
  rw [nums_intItems] at hn
  rw [e] at hl
  refine PySem.W.ktm_sumG (I.ok.hd hc) hl fun h' tk t' hk => ?_
  rw [preSum_eq, List.take_of_length_le (by simp), hn]
  exact ⟨.int _, H, I.kept hk, ⟨_, rfl⟩, q⟩
/-- x == y, both of a class with its own == -/
def rEqO (C : Addr) (sp : Sp) (E : XK) : R2 := fun x y H Q => ∃ a b dx dy fs gs, x = .ref a ∧ y = .ref b ∧ H a = some (.ins C dx fs) ∧ H b = some (.ins C dy gs) ∧ sp [x, y] H (fun v H' => ∃ r, v = .bl r ∧ Q v H') E
theorem op_eqO {CX : CXT} {k : Nat} {C f : Addr} {fd : FuncData} {ps : List Str} {sp : Sp} {E : XK} (F : FnOk X.prog X.w X.K X.mg X.base CX k f fd ps sp) (hr : Room k X.A)
    (hs : PySem.W.findIn X.K (.ref C) "__eq__" = some (some (.ref f))) (hf : PySem.W.isFn X.K (.ref f) = true) (hb : Binds X.K fd ps []) (hx : Passes CX X E) : OpR X (compareOp .Eq) (rEqO C sp E) := by
  intro pins s σ H x y v u Q I rx ry h
  obtain ⟨a, b, dx, dy, fs, gs, rfl, rfl, ha, hb', hsp⟩ := h
  cases rx
  cases ry
  obtain ⟨mA, J, _⟩ := ins_get I.hok ha
  obtain ⟨mB, J', _⟩ := ins_get I.hok hb'
  obtain ⟨od, J, _⟩ := J.look
  obtain ⟨od', J', _⟩ := J'.look
  obtain ⟨m, hF⟩ := I.fr
  show wpAny (model X.prog X.w) X.A (richCompare .Eq (.ref a) (.ref b)) (EP X pins σ Q) X.xe s
  refine PySem.W.cmp_K (op := .Eq) (tb := .ref C) hr.units0 hF I.ok.mod.kin J J'.type (by simp [PySem.W.notFirst]) hs hf ?_
  refine thn (run_fn F hr hb .nil hx I (show Vals [V.ref a, V.ref b] [Value.ref a, Value.ref b] from .cons rfl (.cons rfl .nil)) hsp) ?_
  rintro z s' ⟨z', H', I', rz, r, e, q⟩
  subst e
  cases rz
  exact ⟨.bl r, H', I', rfl, q⟩
end
end Kg
/-! Kg8: pairs in their order: one more put at the count of the lesser ones; one order, one list. -/
namespace Kg
/-- lexically less -/
def pLt (a b : Int × Int) : Prop := a.1 < b.1 ∨ (a.1 = b.1 ∧ a.2 < b.2)
instance (a b : Int × Int) : Decidable (pLt a b) := by unfold pLt; exact inferInstance
theorem pLt_trans {a b c : Int × Int} (h : pLt a b) (g : pLt b c) : pLt a c := by
  unfold pLt at *
  omega
theorem pLt_irrefl {a : Int × Int} : ¬ pLt a a := by
  unfold pLt
  omega
theorem pLt_or {a b : Int × Int} (n : a ≠ b) (h : ¬ pLt a b) : pLt b a := by
  unfold pLt at *
  obtain ⟨a1, a2⟩ := a
  obtain ⟨b1, b2⟩ := b
  have : ¬ (a1 = b1 ∧ a2 = b2) := fun ⟨x, y⟩ => n (by rw [x, y])
  dsimp only at *
  omega
def below (z : Int × Int) (L : List (Int × Int)) : Nat := (L.filter fun a => decide (pLt a z)).length
def putIn (z : Int × Int) (L : List (Int × Int)) : List (Int × Int) := L.take (below z L) ++ [z] ++ L.drop (below z L)
theorem below_le (z : Int × Int) (L : List (Int × Int)) : below z L ≤ L.length := List.length_filter_le _ _
theorem putIn_cons_lt {z a : Int × Int} {L : List (Int × Int)} (h : pLt a z) : putIn z (a :: L) = a :: putIn z L := by
  unfold putIn below
  rw [List.filter_cons_of_pos (by simpa using h)]
  simp
theorem below_none {z : Int × Int} {L : List (Int × Int)} (h : ∀ b ∈ L, ¬ pLt b z) : below z L = 0 := by
  unfold below
  rw [List.filter_eq_nil_iff.mpr (fun b hb => by simpa using h b hb)]
  rfl
theorem putIn_front {z : Int × Int} {L : List (Int × Int)} (h : ∀ b ∈ L, ¬ pLt b z) : putIn z L = z :: L := by
  unfold putIn
  rw [below_none h]
  simp
theorem putIn_mem {z b : Int × Int} {L : List (Int × Int)} : b ∈ putIn z L ↔ b = z ∨ b ∈ L := by
  unfold putIn
  rw [List.mem_append, List.mem_append, List.mem_singleton]
  constructor
  · rintro ((h | h) | h)
    · exact .inr (List.mem_of_mem_take h)
    · exact .inl h
    · exact .inr (List.mem_of_mem_drop h)
  · rintro (h | h)
    · exact .inl (.inr h)
    · rw [← List.take_append_drop (below z L) L, List.mem_append] at h
      exact h.imp .inl id
theorem putIn_sorted {z : Int × Int} : ∀ {L : List (Int × Int)}, L.Pairwise pLt → z ∉ L → (putIn z L).Pairwise pLt
  | [], _, _ => by simp [putIn, below]
  | a :: L, h, nz => by
    obtain ⟨h1, h2⟩ := List.pairwise_cons.mp h
    have na : z ≠ a := fun e => nz (e ▸ List.mem_cons_self)
    by_cases c : pLt a z
    · rw [putIn_cons_lt c]
      refine List.pairwise_cons.mpr ⟨fun b hb => ?_, putIn_sorted h2 fun m => nz (List.mem_cons_of_mem _ m)⟩
      rcases putIn_mem.mp hb with rfl | hb
      · exact c
      · exact h1 b hb
    · have za : pLt z a := pLt_or (fun e => na e.symm) c
      rw [putIn_front fun b hb g => by
        rcases List.mem_cons.mp hb with rfl | hb
        · exact c g
        · exact pLt_irrefl (pLt_trans g (pLt_trans za (h1 b hb)))]
      refine List.pairwise_cons.mpr ⟨fun b hb => ?_, h⟩
      rcases List.mem_cons.mp hb with rfl | hb
      · exact za
      · exact pLt_trans za (h1 b hb)
theorem putIn_perm (z : Int × Int) (L : List (Int × Int)) : (putIn z L).Perm (z :: L) := by
  unfold putIn
  refine (List.perm_append_comm.append_right _).trans ?_
  rw [List.append_assoc, List.take_append_drop]
  exact List.Perm.refl _
/-- one order, one list -/
theorem sorted_one : ∀ {L M : List (Int × Int)}, L.Pairwise pLt → M.Pairwise pLt → L.Perm M → L = M
  | [], M, _, _, p => (List.Perm.nil_eq p)
  | a :: L, [], _, _, p => absurd p.length_eq (by simp)
  | a :: L, b :: M, hL, hM, p => by
    obtain ⟨l1, l2⟩ := List.pairwise_cons.mp hL
    obtain ⟨m1, m2⟩ := List.pairwise_cons.mp hM
    have e : a = b := by
      have h1 := p.mem_iff.mp (List.mem_cons_self : a ∈ a :: L)
      have h2 := p.mem_iff.mpr (List.mem_cons_self : b ∈ b :: M)
      rcases List.mem_cons.mp h1 with h1 | h1
      · exact h1
      · rcases List.mem_cons.mp h2 with h2 | h2
        · exact h2.symm
        · exact absurd (pLt_trans (l1 b h2) (m1 a h1)) pLt_irrefl
    subst e
    rw [sorted_one l2 m2 ((List.perm_cons a).mp p)]
end Kg
/-! Kg13: dict comprehensions whose keys are tuples. -/
namespace Kg
open PySem PySem.Spec PyProof.Rows L2
section
variable {X : Cx}
theorem dictSetT_ok {pins : List (Addr × Obj)} {σ : L2.St} {H : Hp} {s : Shared} {E : Value → Shared → Prop} {D t : Addr} {kvs : List (List L2.Key × V)} {k : List L2.Key} {v : V} {r : Value} {Q : Unit → Shared → Prop}
    (I : Inv X pins σ H s) (hu : X.A.units + 1 < cLine) (hD : H D = some (.dT kvs)) (few : kvs.length < sizeLine) (hb : H t = some (.tup (k.map kV))) (rv : RelV v r)
    (h : ∀ s', Inv X pins σ (upd H D (.dT (putK kvs k v))) s' → Q () s') : wpAny (model X.prog X.w) X.A (dictSet D (.ref t) r) Q E s := by
  obtain ⟨z, sys, xs, rel, dd⟩ := dt_of I.hok hD
  have lx : xs.length ≤ sizeLine := Paired.length rel ▸ z
  have lp : (putK kvs k v).length ≤ sizeLine := by have := length_putK kvs k v; omega
  refine wpAny_dictSet_heap (hsz := lx) (Nat.lt_of_le_of_lt (Nat.le_succ _) hu) (key_of I.hok hb) dd ?_
  intro h' dd' sb
  refine h _ ?_
  obtain ⟨q, es, ep, hq, c2, c3, c4, _, c5⟩ := dd'
  refine d_write I (by rw [hD]; exact True.intro) sb ⟨q, hq⟩ ⟨lp, sys, _, (rel.put k hb rv).keeps ?_, q, es, ep, hq, c2, c3, c4, c5⟩
  intro c ys ec
  rw [upd_ne (ne_of ec hD fun z => nomatch z)]
  exact ec
/-- the reading: D the new dict -/
def tDcT (wi : TI) (g : TG) (tt : TT) (tk tv : TE) (vs : List Nat) : TE := fun σ H Q => wi σ H fun J H1 =>
  ∀ D, H1 D = none → ∃ W : Nat → Nat → Hp → Prop, (∃ m, W 0 m (upd H1 D (.dT []))) ∧
    ∀ i m H, W i m H → (J.stop i H ∧ Q (.ref D) H) ∨
      (J.go i H ∧ ∃ Nx : Hp → Prop, (∀ H', Nx H' → ∃ m', m' < m ∧ W (i + 1) m' H') ∧
        ∀ x H', J.yld i H x H' → g x (wipe σ vs) H' fun σ2 H2 => wipe σ2 vs = wipe σ vs ∧ tt σ2 H2 fun b H3 =>
          if b = true then tk σ2 H3 fun y H4 => tv σ2 H4 fun z H5 => ∃ (t : Addr) (k : List L2.Key) (kvs : List (List L2.Key × V)), y = .ref t ∧ H5 t = some (.tup (k.map kV)) ∧
            H5 D = some (.dT kvs) ∧ kvs.length < sizeLine ∧ Nx (upd H5 D (.dT (putK kvs k z)))
          else Nx H3)
theorem dcT_core {pins : List (Addr × Obj)} {s : Shared} {σ : L2.St} {H : Hp} {Q : VK} {kx vx tg iter : Expr} {ifs : List Expr} {sc : Scope} {ow : List (PySem.Str × Nat)} {pos pos' : Pos} {wi : TI} {g : TG} {tt : TT} {tk tv : TE}
    {use : Option (Value → Sem Unit)} {Qf : Value → Shared → Prop} (hu : X.A.units + 1 < cLine) (hc : X.calm = true) (hN : X.N.Nodup) (I : Inv X pins σ H s)
    (hi : PI X tg iter wi) (ok : BlkOk X.N X.env.scope sc ow)
    (pgs : ∀ (s : Shared) (H : Hp) (C : Addr) (cl : List (PySem.Str × Addr)) (fp : List Addr), PG (X.blk s H sc (compEnvC sc cl C X.env) fp) tg g)
    (pts : ∀ (s : Shared) (H : Hp) (C : Addr) (cl : List (PySem.Str × Addr)) (fp : List Addr), PTs (X.blk s H sc (compEnvC sc cl C X.env) fp) ifs tt)
    (pks : ∀ (s : Shared) (H : Hp) (C : Addr) (cl : List (PySem.Str × Addr)) (fp : List Addr), PE (X.blk s H sc (compEnvC sc cl C X.env) fp) kx tk)
    (pvs : ∀ (s : Shared) (H : Hp) (C : Addr) (cl : List (PySem.Str × Addr)) (fp : List Addr), PE (X.blk s H sc (compEnvC sc cl C X.env) fp) vx tv)
    (hs : ∀ x, foldedSetIterable iter X.env x = pure x) (h : tDcT wi g tt tk tv (ow.map (·.2)) σ H Q)
    (fine : ∀ D C s' m H', Inv X pins σ H' s' → Q (.ref D) H' → s'.heap.Ns C m → FpOk X pins H' C →
      compPost (model X.prog X.w) X.A X.xe use Qf (.ref D) C (.ok .next) s') :
    wpAny (model X.prog X.w) X.A (comprehension (.DictComp kx vx [⟨tg, iter, ifs, 0⟩] sc pos) sc X.env pos' newDict false (eval iter X.env) use) Qf X.xe s := by
  have frees : ∀ y ∈ sc.names, y.2 = .free → ∃ c, X.env.cells.lookup y.1 = some c := by
    intro y hy e
    rcases ok.free y hy e with z | z
    · exact I.ok.has _ (.inl z)
    · exact I.ok.has _ (.inr z)
  refine wpAny_comprehension_free (use := use) rfl hs (closure_ok frees) ok.kind (fun y hy e => by rw [ok.uniq y hy, e]) ?_
  refine thn (hi.run pins s σ H _ I h) ?_
  intro xv s1 hx
  refine thn hx ?_
  rintro itv s2 ⟨it, fp, tn, J, H2, e, I2, T, st2, f2, q⟩
  subst e
  refine wpAny_newObj_type (newEnv_comp ?_)
  generalize hD : s2.heap.objs.size = D
  obtain ⟨W, ⟨m0, w0⟩, turn⟩ := q D (I2.hok.fresh (Nat.le_of_eq hD))
  generalize hs3 : ({ s2 with heap := s2.heap.push { cls := .type "dict", data := .dict #[] } } : Shared) = s3
  have h3 : s3.heap = s2.heap.push { cls := .type "dict", data := .dict #[] } := by rw [← hs3]
  have I3 : Inv X pins σ (upd H2 D (.dT [])) s3 := by
    rw [← hs3]
    refine I2.laid (t' := s2.toks) (fun b o e => Heap.get?_push_of_some _ e) (Nat.le_of_eq hD) ?_
    rw [← hD]
    exact dt_empty s2.heap I2.big
  have szs : ∀ b ∈ fp, b < s2.heap.objs.size := by
    intro b hb
    obtain ⟨o, e, _⟩ := T.obj _ _ st2 b hb
    exact Heap.lt_size e
  have f3 : ∀ b ∈ fp, FpOk X pins (upd H2 D (.dT [])) b ∧ b < s3.heap.objs.size := by
    intro b hb
    have lt := szs b hb
    refine ⟨⟨?_, (f2 b hb).2⟩, by rw [h3, Heap.size_push]; exact Nat.lt_succ_of_lt lt⟩
    rw [upd_ne (hD ▸ Nat.ne_of_lt lt)]
    exact (f2 b hb).1
  have st3 : tn 0 s3.heap := T.keep _ _ _ st2 fun b _ o e => h3 ▸ Heap.get?_push_of_some _ e
  have I4 := block_start I3 ok hN f3
  have pg := pgs s3 (upd H2 D (.dT [])) s3.heap.objs.size (cellsFrom (s3.heap.objs.size + 1) sc.names (cloFrom X.env.cells sc.names [])) fp
  have pt := pts s3 (upd H2 D (.dT [])) s3.heap.objs.size (cellsFrom (s3.heap.objs.size + 1) sc.names (cloFrom X.env.cells sc.names [])) fp
  have pk := pks s3 (upd H2 D (.dT [])) s3.heap.objs.size (cellsFrom (s3.heap.objs.size + 1) sc.names (cloFrom X.env.cells sc.names [])) fp
  have pv := pvs s3 (upd H2 D (.dT [])) s3.heap.objs.size (cellsFrom (s3.heap.objs.size + 1) sc.names (cloFrom X.env.cells sc.names [])) fp
  show codeAny _ _ (.compStart (.DictComp kx vx [⟨tg, iter, ifs, 0⟩] sc pos) 0 (.ref it) (.ref D)
      (compEnvC sc (cellsFrom (s3.heap.objs.size + 1) sc.names (cloFrom X.env.cells sc.names [])) s3.heap.objs.size X.env))
    (compPost (model X.prog X.w) X.A X.xe use Qf (.ref D) s3.heap.objs.size)
    { s3 with heap := pushCells (s3.heap.push { cls := .type "dict", data := .dict #[] }) sc.names }
  have nfp : ∀ b ∈ fp, (upd H2 D (.dT [])) b = none := fun b hb => (f3 b hb).1.1
  generalize hce : compEnvC sc (cellsFrom (s3.heap.objs.size + 1) sc.names (cloFrom X.env.cells sc.names [])) s3.heap.objs.size X.env = ce at I4 pg pt pk pv ⊢
  have cL : ce.locals = s3.heap.objs.size := hce ▸ rfl
  generalize hH3 : upd H2 D (.dT []) = H3 at I3 I4 pg pt pk pv w0 nfp f3
  generalize hs4 : ({ s3 with heap := pushCells (s3.heap.push { cls := .type "dict", data := .dict #[] }) sc.names } : Shared) = s4 at I4 ⊢
  have st4 : tn 0 s4.heap := T.keep _ _ _ st3 fun b _ o e => hs4 ▸ pushCells_keeps _ _ _ _ (Heap.get?_push_of_some _ e)
  have stat : ∀ {σ' : L2.St} {H' : Hp} {s' : Shared}, Inv (X.blk s3 H3 sc ce fp) [] σ' H' s' → (∀ b ∈ fp, H' b = none) →
      ∀ b ∈ fp, FpOk (X.blk s3 H3 sc ce fp) [] H' b := by
    intro σ' H' s' J' hn b hb
    exact ⟨hn b hb, (J'.ok.exf b hb).1, J'.ok.exfs b hb, .inl hb, fun x c e => (J'.ok.exf b hb).2 x c e,
      fun p hp => absurd (show p ∈ ([] : List (Addr × Obj)) ++ [] from hp) (by simp)⟩
  have loop : codeAny (model X.prog X.w) X.A (.compLoop (.DictComp kx vx [⟨tg, iter, ifs, 0⟩] sc pos) 0 (.ref it) (.ref D) ce)
      (compPost (model X.prog X.w) X.A X.xe use Qf (.ref D) s3.heap.objs.size) s4 := by
    refine compLoop_anyD (fun n s' => ∃ i H', Inv (X.blk s3 H3 sc ce fp) [] (wipe σ (ow.map (·.2))) H' s' ∧
      tn i s'.heap ∧ (∀ b ∈ fp, H' b = none) ∧ W i n H') ?_ m0 ⟨0, H3, I4, st4, nfp, w0⟩
    rintro n s5 ⟨i, H5, I5, st5, n5, w5⟩
    rcases turn i n H5 w5 with ⟨stop, qq⟩ | ⟨go, Nx, hNx, step⟩
    · refine thnF (T.done (X.blk s3 H3 sc ce fp) rfl rfl rfl hc i [] s5 _ H5 (fun _ _ => False) I5 (stat I5 n5) st5 stop) ?_
      rintro r s6 ⟨hr, I6⟩
      subst hr
      have I7 : Inv X pins σ H5 s6 := I3.call' (ch := fp) I6.os I6.base I6.hok I6.bare fun b hb =>
        ⟨(f3 b hb).1.2.2.2.1, (f3 b hb).1.2.1, (f3 b hb).1.2.2.2.2.1, (f3 b hb).1.2.2.2.2.2⟩
      have nC : H5 s3.heap.objs.size = none := cL ▸ (show H5 ce.locals = none from I6.free)
      obtain ⟨m, hn, _⟩ := I6.loc
      have hn : s6.heap.Ns ce.locals m := hn
      rw [cL] at hn
      exact fine D s3.heap.objs.size s6 m H5 I7 qq hn (I3.fpOk (Nat.le_refl _) nC)
    · refine thnF (T.item (X.blk s3 H3 sc ce fp) rfl rfl rfl hc i [] s5 _ H5 (fun _ _ => False) I5 (stat I5 n5) st5 go) ?_
      rintro r s6 ⟨u, hr, h6⟩
      subst hr
      refine thnF h6 ?_
      rintro _ s7 ⟨x, H7, I7, r7, y7, st7, n7⟩
      refine thnF (pg.run _ s7 _ H7 x u _ (I7.pinned (stat I7 n7) (T.obj _ _ st7)) r7 (step x H7 y7)) ?_
      rintro _ s8 ⟨σ8, H8, I8, hw8, q8⟩
      refine thnF (pt.run _ s8 σ8 H8 _ I8 q8) ?_
      rintro b s9 ⟨H9, I9, q9⟩
      have fin : ∀ {s' : Shared} {H' : Hp}, Inv (X.blk s3 H3 sc ce fp) ([] ++ pinsAt fp s7.heap) σ8 H' s' → Nx H' →
          ∃ m, m < n ∧ ∃ i H', Inv (X.blk s3 H3 sc ce fp) [] (wipe σ (ow.map (·.2))) H' s' ∧ tn i s'.heap ∧ (∀ b ∈ fp, H' b = none) ∧ W i m H' := by
        intro s' H' J' nx
        obtain ⟨m', hm, w'⟩ := hNx H' nx
        have pin' : ∀ b ∈ fp, ∀ o, s7.heap.get? b = some o → s'.heap.get? b = some o ∧ H' b = none := by
          intro b hb o e
          have z := J'.pin (b, o) (List.mem_append_right _ (List.mem_append_right _ (mem_pinsAt hb e)))
          exact ⟨z.1, z.2.1⟩
        have hl : (wipe σ (ow.map (·.2))).length = σ8.length := by rw [← hw8, wipe_length]
        refine ⟨m', hm, i + 1, H', (J'.unpinned (pins := [])).weak hl ?_, T.keep _ _ _ st7 fun b hb o e => (pin' b hb o e).1, ?_, w'⟩
        · intro j v e
          rw [← hw8] at e
          exact (wipe_some e).1
        · intro b hb
          obtain ⟨o, e, _⟩ := T.obj _ _ st7 b hb
          exact (pin' b hb o e).2
      cases b with
      | false =>
        simp only [Bool.false_eq_true, if_false] at q9 ⊢
        exact fin I9 q9
      | true =>
        simp only [if_true] at q9 ⊢
        refine thnF (pk.run _ s9 σ8 H9 _ I9 q9) ?_
        rintro z s10 ⟨yk, H10, I10, r10, q10⟩
        refine thnF (pv.run _ s10 σ8 H10 _ I10 q10) ?_
        rintro z2 s11 ⟨yv, H11, I11, r11, t, k, kvs, ey, ht, hD11, few, nx⟩
        subst ey
        cases (show z = Value.ref t from r10)
        exact dictSetT_ok (X := X.blk s3 H3 sc ce fp) I11 hu hD11 few ht r11 fun s12 I12 => fin I12 nx
  exact codeAny_compStart_dict loop (T.self X.A 0 _ _ _ st4 loop)
/-- {x: v for x in xs}, x a tuple, a value -/
theorem pe_dcT {kx vx tg iter : Expr} {ifs : List Expr} {sc : Scope} {ow : List (PySem.Str × Nat)} {pos : Pos} {wi : TI} {g : TG} {tt : TT} {tk tv : TE} (hu : X.A.units + 1 < cLine) (hc : X.calm = true) (hN : X.N.Nodup)
    (hi : PI X tg iter wi) (ok : BlkOk X.N X.env.scope sc ow)
    (pgs : ∀ (s : Shared) (H : Hp) (C : Addr) (cl : List (PySem.Str × Addr)) (fp : List Addr), PG (X.blk s H sc (compEnvC sc cl C X.env) fp) tg g)
    (pts : ∀ (s : Shared) (H : Hp) (C : Addr) (cl : List (PySem.Str × Addr)) (fp : List Addr), PTs (X.blk s H sc (compEnvC sc cl C X.env) fp) ifs tt)
    (pks : ∀ (s : Shared) (H : Hp) (C : Addr) (cl : List (PySem.Str × Addr)) (fp : List Addr), PE (X.blk s H sc (compEnvC sc cl C X.env) fp) kx tk)
    (pvs : ∀ (s : Shared) (H : Hp) (C : Addr) (cl : List (PySem.Str × Addr)) (fp : List Addr), PE (X.blk s H sc (compEnvC sc cl C X.env) fp) vx tv)
    (hs : ∀ x, foldedSetIterable iter X.env x = pure x := by intro _; rfl) :
    PE X (.DictComp kx vx [⟨tg, iter, ifs, 0⟩] sc pos) (tDcT wi g tt tk tv (ow.map (·.2))) := by
  constructor
  intro pins s σ H Q I h
  rw [arm_eval_DictComp]
  refine dcT_core hu hc hN I hi ok pgs pts pks pvs hs h ?_
  intro D C s' m H' I' q hn f
  refine ⟨m, hn, ?_⟩
  intro h'' sb
  obtain ⟨f0, f1, _, f3, f4, f5⟩ := f
  exact ⟨.ref D, H', I'.turned (t' := s'.toks) (fun b o hb e => (sb.2 b hb).trans e) f0 f1 f3 f4 f5, rfl, q⟩
/-- its turns over a tuple that stands -/
theorem dcT_tup {K : PySem.W.Frag} {a : Addr} {xs : List V} {g : TG} {tt : TT} {tk tv : TE} {vs : List Nat} {σ : L2.St} {H1 : Hp} {D : Addr} {Qd : Hp → Prop} (Pv : Nat → Hp → Prop)
    (h0 : Pv 0 (upd H1 D (.dT []))) (stands : ∀ i H, i ≤ xs.length → Pv i H → SqT K H a xs)
    (hs : ∀ i x H, xs[i]? = some x → Pv i H → g x (wipe σ vs) H fun σ2 H2 => wipe σ2 vs = wipe σ vs ∧ tt σ2 H2 fun b H3 =>
      if b = true then tk σ2 H3 fun y H4 => tv σ2 H4 fun z H5 => ∃ (t : Addr) (k : List L2.Key) (kvs : List (List L2.Key × V)), y = .ref t ∧ H5 t = some (.tup (k.map kV)) ∧
        H5 D = some (.dT kvs) ∧ kvs.length < sizeLine ∧ Pv (i + 1) (upd H5 D (.dT (putK kvs k z)))
      else Pv (i + 1) H3) (hd : ∀ H, Pv xs.length H → Qd H) :
    ∃ W : Nat → Nat → Hp → Prop, (∃ m, W 0 m (upd H1 D (.dT []))) ∧
      ∀ i m H, W i m H → ((Itt K a).stop i H ∧ Qd H) ∨
        ((Itt K a).go i H ∧ ∃ Nx : Hp → Prop, (∀ H', Nx H' → ∃ m', m' < m ∧ W (i + 1) m' H') ∧
          ∀ x H', (Itt K a).yld i H x H' → g x (wipe σ vs) H' fun σ2 H2 => wipe σ2 vs = wipe σ vs ∧ tt σ2 H2 fun b H3 =>
            if b = true then tk σ2 H3 fun y H4 => tv σ2 H4 fun z H5 => ∃ (t : Addr) (k : List L2.Key) (kvs : List (List L2.Key × V)), y = .ref t ∧ H5 t = some (.tup (k.map kV)) ∧
              H5 D = some (.dT kvs) ∧ kvs.length < sizeLine ∧ Nx (upd H5 D (.dT (putK kvs k z)))
            else Nx H3) := by
  refine ⟨fun i m H => m = xs.length - i ∧ i ≤ xs.length ∧ Pv i H, ⟨xs.length, by simp, Nat.zero_le _, h0⟩, ?_⟩
  rintro i m H ⟨rfl, hi, p⟩
  have here := stands i H hi p
  by_cases lt : i < xs.length
  · refine .inr ⟨⟨xs, xs[i], here, by simp [lt]⟩, Pv (i + 1), fun H' p' => ⟨xs.length - (i + 1), by omega, rfl, lt, p'⟩, ?_⟩
    rintro x H' ⟨e, y⟩
    subst e
    exact hs i x _ (y xs here) p
  · obtain rfl : i = xs.length := by omega
    exact .inl ⟨⟨xs, here, Nat.le_refl _⟩, hd H p⟩
end
section
variable {X : Cx}
theorem sw_dict {kx vx : Expr} {gs : List Comprehension} {sc : Scope} {pos py : Pos} {y : Str} {l : Nat} {env : Env} (fn : env.scope.kind = .function) (loc : env.scope.names.lookup y = some .local) (row : (py.line == pos.line) = true)
    (ext : (sc.names.any fun (n, k) => n == y && (k == .local || k == .cell)) = false) : swapsWith (.DictComp kx vx gs sc pos) (some (.Name y py)) l env = pure true := by
  have e1 : env.kindOf y = some .local := loc
  have e2 : env.blockKind = .function := by unfold Env.blockKind; rw [fn]; rfl
  unfold swapsWith
  simp only [e2, e1, ext, Expr.pos, row]
  rfl
/-- y = {x: v for x in xs}, x a tuple -/
theorem ps_setDcT {i : Nat} {y : Str} {py spos : Pos} {kx vx tg iter : Expr} {ifs : List Expr} {sc : Scope} {ow : List (PySem.Str × Nat)} {pos : Pos} {wi : TI} {g : TG} {tt : TT} {tk tv : TE} (hu : X.A.units + 1 < cLine) (hc : X.calm = true) (hN : X.N.Nodup)
    (at_ : X.N[i]? = some y) (loc : X.env.scope.names.lookup y = some .local) (sw : swapsWith (.DictComp kx vx [⟨tg, iter, ifs, 0⟩] sc pos) (some (.Name y py)) spos.line X.env = pure true)
    (hi : PI X tg iter wi) (ok : BlkOk X.N X.env.scope sc ow)
    (pgs : ∀ (s : Shared) (H : Hp) (C : Addr) (cl : List (PySem.Str × Addr)) (fp : List Addr), PG (X.blk s H sc (compEnvC sc cl C X.env) fp) tg g)
    (pts : ∀ (s : Shared) (H : Hp) (C : Addr) (cl : List (PySem.Str × Addr)) (fp : List Addr), PTs (X.blk s H sc (compEnvC sc cl C X.env) fp) ifs tt)
    (pks : ∀ (s : Shared) (H : Hp) (C : Addr) (cl : List (PySem.Str × Addr)) (fp : List Addr), PE (X.blk s H sc (compEnvC sc cl C X.env) fp) kx tk)
    (pvs : ∀ (s : Shared) (H : Hp) (C : Addr) (cl : List (PySem.Str × Addr)) (fp : List Addr), PE (X.blk s H sc (compEnvC sc cl C X.env) fp) vx tv)
    (hs : ∀ x, foldedSetIterable iter X.env x = pure x := by intro _; rfl) :
    PS X (.Assign [.Name y py] (.DictComp kx vx [⟨tg, iter, ifs, 0⟩] sc pos) spos) (tAsg (tDcT wi g tt tk tv (ow.map (·.2))) (gName i)) := by
  constructor
  intro pins s σ H D I h
  rw [exec_Assign_Name_used _ _ _ _ sw]
  have h' : tDcT wi g tt tk tv (ow.map (·.2)) σ H (fun x H1 => gName i x σ H1 D.nx) := h
  refine wpAny_bind (wpAny_standAt (wpAny_bind ?_))
  show wpAny _ X.A (do
    let _ ← comprehension (.DictComp kx vx [⟨tg, iter, ifs, 0⟩] sc pos) sc X.env (firstIterPos [⟨tg, iter, ifs, 0⟩] pos) newDict false (eval iter X.env) (some (assign (.Name y py) X.env))) _ _ s
  refine wpAny_bind (thn (dcT_core (Qf := fun _ s' => SP X pins D .next s') hu hc hN I hi ok pgs pts pks pvs hs h' ?_) fun _ s' z => wpAny_pure (wpAny_pure z))
  intro L C s' m H' I' q hn f
  show wpAny _ _ (assign (.Name y py) X.env (.ref L)) _ _ _
  refine wpAny_assign_Name (store_ok2 (v := .ref L) I' hN at_ (.inl loc) rfl ?_ (.inr loc))
  rintro s2 I2 ⟨a, sb, there⟩
  obtain ⟨f0, f1, _, f3, f4, f5⟩ := f
  have apart : C ≠ a := there.elim (fun z => z ▸ f1) fun z e => f4 y a z e.symm
  refine ⟨m, hn.sameBut sb apart, ?_⟩
  intro h3 sb3
  exact ⟨_, H', I2.turned (t' := s2.toks) (fun b o hb e => (sb3.2 b hb).trans e) f0 f1 f3 f4 f5, q⟩
end
end Kg
/-! Kg14: what a dict of squares holds. -/
namespace Kg
open PySem PySem.Spec PyProof.Rows L2
section
variable {X : Cx}
def rInDT : R2 := fun x y H Q => ∃ (b a : Addr) (k : List L2.Key) (kvs : List (List L2.Key × V)), x = .ref b ∧ y = .ref a ∧ H a = some (.dT kvs) ∧ H b = some (.tup (k.map kV)) ∧ Q (.bl (valV kvs k).isSome) H
def rNotInDT : R2 := fun x y H Q => ∃ (b a : Addr) (k : List L2.Key) (kvs : List (List L2.Key × V)), x = .ref b ∧ y = .ref a ∧ H a = some (.dT kvs) ∧ H b = some (.tup (k.map kV)) ∧ Q (.bl (!(valV kvs k).isSome)) H
theorem op_inDT (hu : X.A.units + 1 < cLine) : OpR X (compareOp .In) rInDT := by
  intro pins s σ H x y v u Q I rx ry h
  obtain ⟨b, a, k, kvs, rfl, rfl, ha, hb, q⟩ := h
  cases (show u = Value.ref a from ry)
  exact d_in hu I (DGet.t ha hb) rx fun s3 I3 => ⟨.bl _, H, I3, rfl, q⟩
theorem op_notInDT (hu : X.A.units + 1 < cLine) : OpR X (compareOp .NotIn) rNotInDT := by
  intro pins s σ H x y v u Q I rx ry h
  obtain ⟨b, a, k, kvs, rfl, rfl, ha, hb, q⟩ := h
  cases (show u = Value.ref a from ry)
  exact d_notIn hu I (DGet.t ha hb) rx fun s3 I3 => ⟨.bl _, H, I3, rfl, q⟩
end
def keyS (z : Int × Int) : List L2.Key := [.inl z.1, .inl z.2]
theorem keyS_inj {z u : Int × Int} : keyS z = keyS u ↔ z = u := by
  obtain ⟨a, b⟩ := z
  obtain ⟨c, d⟩ := u
  simp [keyS]
theorem keyS_kV (z : Int × Int) : (keyS z).map kV = [.int z.1, .int z.2] := rfl
/-- the dict whose keys are these squares -/
def sqD (zs : List (Int × Int)) : List (List L2.Key × V) := zs.map fun z => (keyS z, .bl true)
theorem sqD_val (z : Int × Int) : ∀ zs : List (Int × Int), (valV (sqD zs) (keyS z)).isSome = decide (z ∈ zs)
  | [] => rfl
  | u :: zs => by
    have ih := sqD_val z zs
    unfold valV sqD at ih ⊢
    rw [List.map_cons, List.find?_cons]
    by_cases e : u = z
    · subst e
      simp
    · have : ¬ keyS u = keyS z := fun h => e (keyS_inj.mp h)
      simp only [this, decide_false]
      rw [ih]
      simp [Ne.symm e]
theorem sqD_put {z : Int × Int} {zs : List (Int × Int)} (h : z ∉ zs) : putK (sqD zs) (keyS z) (.bl true) = sqD (zs ++ [z]) := by
  have no : ((sqD zs).any fun kv => decide (kv.1 = keyS z)) = false := by
    rw [List.any_eq_false]
    intro kv hk
    obtain ⟨u, hu, rfl⟩ := List.mem_map.mp hk
    simp only [decide_eq_true_eq]
    intro e
    exact h (keyS_inj.mp e ▸ hu)
  unfold putK
  rw [no]
  simp [sqD]
end Kg
/-! Kn1: a layer without the heap: data in slots, lists of the frame's own, the urn. -/
namespace Kn
open PySem PySem.Spec PyProof.Rows L2 Kg
open Evl (Ex)

/-! ### data -/
/-- a tuple of the row's fragment -/
def SqK (K : PySem.W.Frag) (a : Addr) (xs : List V) : Prop := ∃ (o : Obj) (its : Array Value) (n : Nat), K.lookup a = some o ∧ o.cls = .type "tuple" ∧ o.data = .seq its n ∧ its.size ≤ sizeLine ∧ Vals xs its.toList
inductive D where
  | non | bl (b : Bool) | int (i : Int) | str (x : Str) | lst (ds : List D) | tup (ds : List D) | ktup (ds : List D)
  | dK (kvs : List (Key × D)) | dT (kvs : List (List Key × D)) | ins (C : Addr) (fs : List (Str × D)) | rf (a : Addr) | ty (n : String)
variable {K : PySem.W.Frag}
mutual
inductive Rp (K : PySem.W.Frag) (G : Hp) : V → D → Prop
  | non : Rp K G .non .non
  | bl (b : Bool) : Rp K G (.bl b) (.bl b)
  | int (i : Int) : Rp K G (.int i) (.int i)
  | str (x : Str) : Rp K G (.str x) (.str x)
  | lst {a : Addr} {xs : List V} {ds : List D} : G a = some (.lst xs) → RpAll K G xs ds → Rp K G (.ref a) (.lst ds)
  | tup {a : Addr} {xs : List V} {ds : List D} : G a = some (.tup xs) → RpAll K G xs ds → Rp K G (.ref a) (.tup ds)
  | ktup {a : Addr} {xs : List V} {ds : List D} : SqK K a xs → RpAll K G xs ds → Rp K G (.ref a) (.ktup ds)
  | dK {a : Addr} {kvs : List (Key × V)} {ds : List D} : G a = some (.dK kvs) → RpAll K G (kvs.map (·.2)) ds → Rp K G (.ref a) (.dK ((kvs.map (·.1)).zip ds))
  | dT {a : Addr} {kvs : List (List Key × V)} {ds : List D} : G a = some (.dT kvs) → RpAll K G (kvs.map (·.2)) ds → Rp K G (.ref a) (.dT ((kvs.map (·.1)).zip ds))
  | ins {a C dx : Addr} {fs : List (Str × V)} {ds : List D} : G a = some (.ins C dx fs) → RpAll K G (fs.map (·.2)) ds → Rp K G (.ref a) (.ins C ((fs.map (·.1)).zip ds))
  | rf (a : Addr) : Rp K G (.ref a) (.rf a)
  | ty (n : String) : Rp K G (.ty n) (.ty n)
inductive RpAll (K : PySem.W.Frag) (G : Hp) : List V → List D → Prop
  | nil : RpAll K G [] []
  | cons {v : V} {vs : List V} {d : D} {ds : List D} : Rp K G v d → RpAll K G vs ds → RpAll K G (v :: vs) (d :: ds)
end
theorem RpAll.len {G : Hp} : ∀ {vs : List V} {ds : List D}, RpAll K G vs ds → vs.length = ds.length
  | _, _, .nil => rfl
  | _, _, .cons _ t => by simp [RpAll.len t]
theorem RpAll.at {G : Hp} : ∀ {vs : List V} {ds : List D} {i : Nat} {v : V}, RpAll K G vs ds → vs[i]? = some v → ∃ d, ds[i]? = some d ∧ Rp K G v d
  | _, _, _, _, .nil, h => by simp at h
  | _, _, 0, _, .cons h _, e => ⟨_, rfl, by simp at e; exact e ▸ h⟩
  | _, _, i + 1, _, .cons _ t, e => RpAll.at (i := i) t (by simpa using e)
theorem RpAll.of {G : Hp} : ∀ {vs : List V} {ds : List D} {i : Nat} {d : D}, RpAll K G vs ds → ds[i]? = some d → ∃ v, vs[i]? = some v ∧ Rp K G v d
  | _, _, _, _, .nil, h => by simp at h
  | _, _, 0, _, .cons h _, e => ⟨_, rfl, by simp at e; exact e ▸ h⟩
  | _, _, i + 1, _, .cons _ t, e => RpAll.of (i := i) t (by simpa using e)
theorem RpAll.app {G : Hp} : ∀ {vs ws : List V} {ds es : List D}, RpAll K G vs ds → RpAll K G ws es → RpAll K G (vs ++ ws) (ds ++ es)
  | _, _, _, _, .nil, h => h
  | _, _, _, _, .cons h t, g => .cons h (RpAll.app t g)
theorem RpAll.take {G : Hp} : ∀ {vs : List V} {ds : List D} (n : Nat), RpAll K G vs ds → RpAll K G (vs.take n) (ds.take n)
  | _, _, 0, _ => .nil
  | _, _, _ + 1, .nil => .nil
  | _, _, n + 1, .cons h t => .cons h (RpAll.take n t)
theorem RpAll.drop {G : Hp} : ∀ {vs : List V} {ds : List D} (n : Nat), RpAll K G vs ds → RpAll K G (vs.drop n) (ds.drop n)
  | _, _, 0, h => h
  | _, _, _ + 1, .nil => .nil
  | _, _, n + 1, .cons _ t => RpAll.drop n t
theorem RpAll.erase {G : Hp} : ∀ {vs : List V} {ds : List D} (n : Nat), RpAll K G vs ds → RpAll K G (vs.eraseIdx n) (ds.eraseIdx n)
  | _, _, _, .nil => .nil
  | _, _, 0, .cons _ t => t
  | _, _, n + 1, .cons h t => .cons h (RpAll.erase n t)
theorem RpAll.set {G : Hp} {v : V} {d : D} (r : Rp K G v d) : ∀ {vs : List V} {ds : List D} (n : Nat), RpAll K G vs ds → RpAll K G (vs.set n v) (ds.set n d)
  | _, _, _, .nil => .nil
  | _, _, 0, .cons _ t => .cons r t
  | _, _, n + 1, .cons h t => .cons h (RpAll.set r n t)
mutual
theorem Rp.mono {G G' : Hp} (e : Ex G G') {v : V} {d : D} (h : Rp K G v d) : Rp K G' v d := match h with
  | .non => .non
  | .bl b => .bl b
  | .int i => .int i
  | .str x => .str x
  | .lst h t => .lst (e _ _ h) (RpAll.mono e t)
  | .tup h t => .tup (e _ _ h) (RpAll.mono e t)
  | .ktup h t => .ktup h (RpAll.mono e t)
  | .dK h t => .dK (e _ _ h) (RpAll.mono e t)
  | .dT h t => .dT (e _ _ h) (RpAll.mono e t)
  | .ins h t => .ins (e _ _ h) (RpAll.mono e t)
  | .rf a => .rf a
  | .ty n => .ty n
theorem RpAll.mono {G G' : Hp} (e : Ex G G') {vs : List V} {ds : List D} (h : RpAll K G vs ds) : RpAll K G' vs ds := match h with
  | .nil => .nil
  | .cons h t => .cons (Rp.mono e h) (RpAll.mono e t)
end
theorem RpAll.ints {G : Hp} : ∀ {ns : List Int}, RpAll K G (ns.map V.int) (ns.map D.int)
  | [] => .nil
  | n :: _ => .cons (.int n) RpAll.ints
theorem RpAll.bls {G : Hp} : ∀ {vs : List V} {bs : List Bool}, RpAll K G vs (bs.map D.bl) → vs = bs.map V.bl
  | _, [], h => by cases h; rfl
  | _, b :: bs, h => by
    cases h with
    | cons h t => cases h; rw [RpAll.bls t]; rfl
theorem RpAll.int_of {G : Hp} : ∀ {vs : List V} {ns : List Int}, RpAll K G vs (ns.map D.int) → vs = ns.map V.int
  | _, [], h => by cases h; rfl
  | _, b :: bs, h => by
    cases h with
    | cons h t => cases h; rw [RpAll.int_of t]; rfl

/-! ### the state -/
/-- what a frame's own thing holds: a list, a dict (keys: ints and texts, or tuples), one that is locked -/
inductive W where
  | l (ds : List D) | k (kvs : List (Key × D)) | t (kvs : List (List Key × D)) | lk (a : Addr) (o : HO)
def W.toD : W → Option D
  | .l ds => some (.lst ds)
  | .k kvs => some (.dK kvs)
  | .t kvs => some (.dT kvs)
  | .lk _ _ => none
inductive Sl where
  | no | d (d : D) | ow (w : W) | ur
abbrev Sl.own (ds : List D) : Sl := .ow (.l ds)
structure NS where
  γ : List Sl
  b : Nat
/-- a thing that is no table of a code object -/
def Nt (o : HO) : Prop := ∀ ps, o ≠ .tbl ps
/-- a code object's table, or a thing told by its one object -/
def Kpy (o : HO) : Prop := (∃ ps, o = .tbl ps) ∨ ∃ φ, o = .ext φ
/-- what stays through a body: the urn's place (if u), the heap and the data ahead of it -/
structure Cfg where
  K : PySem.W.Frag
  j : Addr
  u : Bool
  H0 : Hp
  G0 : Hp
  tk : Bool
  TB : Hp → Prop
  tbm : ∀ H H' : Hp, (∀ a o, H a = some o → Kpy o → H' a = some o) → TB H → TB H'
def Cfg.isU (c : Cfg) (a : Addr) : Prop := c.u = true ∧ a = c.j
/-- a thing that is kept: any, or (where code objects' tables may change) any but a table -/
def Cfg.nt (c : Cfg) (o : HO) : Prop := c.tk = true ∨ Nt o
theorem ntl {c : Cfg} {xs : List V} : c.nt (.lst xs) := .inr fun _ z => nomatch z
/-- nothing stands there (but a table, maybe) -/
def Fr (c : Cfg) (H : Hp) (a : Addr) : Prop := ∀ o, H a = some o → ¬ c.nt o
theorem Fr.none {c : Cfg} {H : Hp} {a : Addr} (h : H a = none) : Fr c H a := fun o e => by rw [h] at e; cases e
theorem Fr.no {c : Cfg} {H : Hp} {a : Addr} {o : HO} (f : Fr c H a) (h : H a = some o) (n : c.nt o) : False := f o h n
/-- .. or a tuple, that may be data at any time -/
def Fw (c : Cfg) (H : Hp) (a : Addr) : Prop := Fr c H a ∨ ∃ xs, H a = some (.tup xs)
theorem Fw.none {c : Cfg} {H : Hp} {a : Addr} (h : H a = none) : Fw c H a := .inl (.none h)
/-- the same, where no frame is known -/
def Nw (H : Hp) (a : Addr) : Prop := H a = none ∨ ∃ xs, H a = some (.tup xs)
theorem Nw.fw {c : Cfg} {H : Hp} {a : Addr} (h : Nw H a) : Fw c H a := h.imp .none id
/-- the urn at j: b draws are left to it -/
def UrnAt (K : PySem.W.Frag) (j : Addr) (b : Nat) (G H : Hp) : Prop :=
  ∃ (cc : Addr) (ns : List Int) (at' rest : Int), H j = some (.lst [.ref cc, .int at', .int rest]) ∧ SqL K G cc (ns.map V.int) ∧ 0 ≤ at' ∧ at' + b ≤ 1000000 ∧ 0 ≤ rest
theorem UrnAt.less {K : PySem.W.Frag} {j : Addr} {b b' : Nat} {G H : Hp} (h : b' ≤ b) (u : UrnAt K j b G H) : UrnAt K j b' G H := by
  obtain ⟨cc, ns, at', rest, h1, h2, h3, h4, h5⟩ := u
  exact ⟨cc, ns, at', rest, h1, h2, h3, by omega, h5⟩
theorem UrnAt.up {K : PySem.W.Frag} {j : Addr} {b : Nat} {G G' H H' : Hp} (e : Ex G G') (h : ∀ o, H j = some o → Nt o → H' j = some o) (u : UrnAt K j b G H) : UrnAt K j b G' H' := by
  obtain ⟨cc, ns, at', rest, h1, h2, h3, h4, h5⟩ := u
  exact ⟨cc, ns, at', rest, h _ h1 (fun _ z => nomatch z), Evl.ex_l e h2, h3, h4, h5⟩
inductive OR (K : PySem.W.Frag) (G : Hp) (a : Addr) : HO → W → Prop
  | l {xs : List V} {ds : List D} : RpAll K G xs ds → OR K G a (.lst xs) (.l ds)
  | k {kvs : List (Key × V)} {ds : List D} : RpAll K G (kvs.map (·.2)) ds → OR K G a (.dK kvs) (.k ((kvs.map (·.1)).zip ds))
  | t {kvs : List (List Key × V)} {ds : List D} : RpAll K G (kvs.map (·.2)) ds → OR K G a (.dT kvs) (.t ((kvs.map (·.1)).zip ds))
  | lk {od : Obj} {o : HO} : OR K G a (.frz od o) (.lk a (.frz od o))
theorem OR.mono {K : PySem.W.Frag} {G G' : Hp} {a : Addr} (e : Ex G G') {o : HO} {w : W} (h : OR K G a o w) : OR K G' a o w := by
  cases h with
  | l h => exact .l (h.mono e)
  | k h => exact .k (h.mono e)
  | t h => exact .t (h.mono e)
  | lk => exact .lk
theorem OR.nt {K : PySem.W.Frag} {G : Hp} {a : Addr} {o : HO} {w : W} (h : OR K G a o w) : Nt o := by cases h <;> exact fun _ z => nomatch z
theorem OR.nk {K : PySem.W.Frag} {G : Hp} {a : Addr} {o : HO} {w : W} (h : OR K G a o w) : ¬ Kpy o := by
  rintro (⟨_, k⟩ | ⟨_, k⟩) <;> subst k <;> cases h
theorem OR.cnt {c : Cfg} {K : PySem.W.Frag} {G : Hp} {a : Addr} {o : HO} {w : W} (h : OR K G a o w) : c.nt o := .inr h.nt
theorem OR.data {K : PySem.W.Frag} {G G' : Hp} {a : Addr} {o : HO} {w : W} {d : D} (h : OR K G a o w) (e : Ex G G') (ha : G' a = some o) (hd : w.toD = some d) : Rp K G' (.ref a) d := by
  cases h with
  | l h => cases hd; exact .lst ha (h.mono e)
  | k h => cases hd; exact .dK ha (h.mono e)
  | t h => cases hd; exact .dT ha (h.mono e)
  | lk => cases hd
theorem OR.list {K : PySem.W.Frag} {G : Hp} {a : Addr} {o : HO} {ds : List D} (h : OR K G a o (.l ds)) : ∃ xs, o = .lst xs ∧ RpAll K G xs ds := by
  cases h with
  | l h => exact ⟨_, rfl, h⟩
/-- slot i is the frame's own thing at a -/
def Own (s : NS) (σ : L2.St) (i : Nat) (a : Addr) : Prop := (∃ w, s.γ[i]? = some (.ow w)) ∧ σ[i]? = some (some (.ref a))
def SlR (c : Cfg) (G H : Hp) (o : Option (Option V)) : Sl → Prop
  | .no => True
  | .d d => ∃ v, o = some (some v) ∧ Rp c.K G v d
  | .ow w => ∃ a u, o = some (some (.ref a)) ∧ Fr c c.H0 a ∧ G a = none ∧ H a = some u ∧ OR c.K G a u w
  | .ur => c.u = true ∧ o = some (some (.ref c.j))
structure At (c : Cfg) (s : NS) (σ : L2.St) (G H : Hp) : Prop where
  len : σ.length = s.γ.length
  sl : ∀ (i : Nat) (x : Sl), s.γ[i]? = some x → SlR c G H (σ[i]?) x
  dis : ∀ (i k : Nat) (a : Addr), Own s σ i a → Own s σ k a → i = k
  gh : Ex G H
  gt : ∀ a o, G a = some o → Nt o
  gj : ∀ a, c.isU a → G a = none
  hj : ∀ a, c.isU a → ¬ Fr c c.H0 a
  fr : ∀ a o, c.H0 a = some o → c.nt o → ¬ c.isU a → H a = some o
  nw : ∀ a, G a ≠ none → c.G0 a ≠ none ∨ Fw c c.H0 a
  g0 : Ex c.G0 G
  ur : c.u = true → UrnAt c.K c.j s.b G H
  tb : c.TB H
/-- what a step leaves: other objects as they are; new data fresh, or own lists that are shown -/
structure Kp (c : Cfg) (s : NS) (σ : L2.St) (G H : Hp) (s' : NS) (G' H' : Hp) : Prop where
  g : Ex G G'
  h : ∀ a o, H a = some o → c.nt o → ¬ c.isU a → (∀ i, ¬ Own s σ i a) → H' a = some o
  n : ∀ a, G' a ≠ none → G a ≠ none ∨ Fw c H a ∨ ∃ i, Own s σ i a
  o : ∀ i a, Own s' σ i a → Own s σ i a
  m : ∀ a, Fr c H' a → Fr c H a
  t : ∀ a xs, H' a = some (.tup xs) → Fw c H a ∨ ∃ i, Own s σ i a
section
variable {c : Cfg} {s s' s1 s2 : NS} {σ : L2.St} {G H G' H' G1 H1 G2 H2 : Hp}
theorem Kp.refl : Kp c s σ G H s G H := ⟨fun _ _ h => h, fun _ _ h _ _ _ => h, fun _ h => .inl h, fun _ _ h => h, fun _ h => h, fun _ xs h => .inl (.inr ⟨xs, h⟩)⟩
theorem Kp.trans (k1 : Kp c s σ G H s1 G1 H1) (k2 : Kp c s1 σ G1 H1 s2 G2 H2) : Kp c s σ G H s2 G2 H2 := by
  refine ⟨k1.g.trans k2.g, fun a o h t u n => k2.h a o (k1.h a o h t u n) t u fun i z => n i (k1.o i a z), fun a h => ?_, fun i a z => k1.o i a (k2.o i a z), fun a h => k1.m a (k2.m a h), fun a xs h => ?_⟩
  · rcases k2.n a h with h | h | ⟨i, h⟩
    · exact k1.n a h
    · rcases h with h | ⟨ys, h⟩
      · exact .inr (.inl (.inl (k1.m a h)))
      · exact .inr (k1.t a ys h)
    · exact .inr (.inr ⟨i, k1.o i a h⟩)
  · rcases k2.t a xs h with (h | ⟨ys, h⟩) | ⟨i, h⟩
    · exact .inl (.inl (k1.m a h))
    · exact k1.t a ys h
    · exact .inr ⟨i, k1.o i a h⟩
/-- the urn is there -/
theorem At.there (t : At c s σ G H) {a : Addr} (h : c.isU a) : ¬ Fr c H a := by
  obtain ⟨u, rfl⟩ := h
  obtain ⟨_, _, _, _, h, _⟩ := t.ur u
  exact fun f => f.no h ntl
theorem At.thereW (t : At c s σ G H) {a : Addr} (h : c.isU a) : ¬ Fw c H a := by
  rintro (f | ⟨xs, f⟩)
  · exact t.there h f
  · obtain ⟨u, rfl⟩ := h
    obtain ⟨_, _, _, _, h, _⟩ := t.ur u
    rw [h] at f; cases f
theorem At.fresh0 (t : At c s σ G H) {a : Addr} (h : Fr c H a) : Fr c c.H0 a := fun o q n => by
  by_cases u : c.isU a
  · exact t.there u h
  · exact h.no (t.fr a o q n u) n
theorem At.freshW0 (t : At c s σ G H) {a : Addr} (h : Fw c H a) : Fw c c.H0 a := by
  rcases h with h | ⟨xs, h⟩
  · exact .inl (t.fresh0 h)
  · cases q : c.H0 a with
    | none => exact .none q
    | some o =>
      by_cases n : c.nt o
      · by_cases u : c.isU a
        · exact absurd (.inr ⟨xs, h⟩) (t.thereW u)
        · have := t.fr a o q n u
          rw [h] at this
          cases this
          exact .inr ⟨xs, q⟩
      · exact .inl fun o' q' n' => by rw [q] at q'; cases q'; exact n n'
theorem At.freshG (t : At c s σ G H) {a : Addr} (h : Fr c H a) : G a = none := by
  cases q : G a with
  | none => rfl
  | some o => exact (h.no (t.gh a o q) (.inr (t.gt a o q))).elim
theorem At.own {i : Nat} {a : Addr} (t : At c s σ G H) (o : Own s σ i a) : ∃ w u, s.γ[i]? = some (.ow w) ∧ Fr c c.H0 a ∧ G a = none ∧ H a = some u ∧ OR c.K G a u w := by
  obtain ⟨⟨ds, h1⟩, h2⟩ := o
  obtain ⟨a', xs, e, h3, h4, h5, h6⟩ := t.sl i _ h1
  rw [h2] at e
  cases e
  exact ⟨ds, xs, h1, h3, h4, h5, h6⟩
theorem OR.noW {c : Cfg} {K : PySem.W.Frag} {G H : Hp} {a : Addr} {u : HO} {w : W} (h : OR K G a u w) (e : H a = some u) (f : Fw c H a) : False := by
  rcases f with f | ⟨xs, f⟩
  · exact f.no e h.cnt
  · rw [e] at f; cases f; cases h
theorem At.noOwn (t : At c s σ G H) {a : Addr} (h : Fr c H a) : ∀ i, ¬ Own s σ i a := fun i o => by
  obtain ⟨_, _, _, _, _, h2, h3⟩ := t.own o
  exact h.no h2 h3.cnt
/-- a value that a step has made -/
inductive Vw where
  | d (d : D) | s (i : Nat) | fr (w : W) | ur
abbrev Vw.f (ds : List D) : Vw := .fr (.l ds)
def VwR (c : Cfg) (Hs : Hp) (s : NS) (σ : L2.St) (G H : Hp) (v : V) : Vw → Prop
  | .d d => Rp c.K G v d
  | .s i => σ[i]? = some (some v)
  | .fr w => ∃ a u, v = .ref a ∧ Fr c Hs a ∧ Fr c c.H0 a ∧ G a = none ∧ (∀ i, ¬ Own s σ i a) ∧ H a = some u ∧ OR c.K G a u w
  | .ur => c.u = true ∧ v = .ref c.j
/-- the reading t, from s, comes to a value and a state of R -/
def wE (c : Cfg) (t : TE) (s : NS) (R : Vw → NS → Prop) : Prop :=
  ∀ σ G H (Q : VK), At c s σ G H → (∀ v w s' G' H', R w s' → At c s' σ G' H' → Kp c s σ G H s' G' H' → VwR c H s' σ G' H' v w → Q v H') → t σ H Q
/-- its value is data -/
def wD (c : Cfg) (t : TE) (s : NS) (R : D → NS → Prop) : Prop :=
  ∀ σ G H (Q : VK), At c s σ G H → (∀ v d s' G' H', R d s' → At c s' σ G' H' → Kp c s σ G H s' G' H' → Rp c.K G' v d → Q v H') → t σ H Q
def wT (c : Cfg) (t : TT) (s : NS) (R : Bool → NS → Prop) : Prop :=
  ∀ σ G H (Q : Bool → Hp → Prop), At c s σ G H → (∀ b s' G' H', R b s' → At c s' σ G' H' → Kp c s σ G H s' G' H' → Q b H') → t σ H Q
def wA (c : Cfg) (t : TA) (s : NS) (R : List D → NS → Prop) : Prop :=
  ∀ σ G H (Q : List V → Hp → Prop), At c s σ G H → (∀ vs ds s' G' H', R ds s' → At c s' σ G' H' → Kp c s σ G H s' G' H' → RpAll c.K G' vs ds → Q vs H') → t σ H Q
def unownD (s : NS) (i : Nat) (d : D) : NS := { s with γ := s.γ.set i (.d d) }
def unown (s : NS) (i : Nat) (ds : List D) : NS := { s with γ := s.γ.set i (.d (.lst ds)) }
theorem SlR.up {x : Sl} {o : Option (Option V)} (e : Ex G G') (k : ∀ a, G' a ≠ none → G a ≠ none ∨ o ≠ some (some (.ref a)) ∨ ∀ w, x ≠ .ow w)
    (h : ∀ a u, o = some (some (.ref a)) → (∃ w, x = .ow w) → c.nt u → H a = some u → H' a = some u) (r : SlR c G H o x) : SlR c G' H' o x := by
  cases x with
  | no => exact r
  | d d => obtain ⟨v, h1, h2⟩ := r; exact ⟨v, h1, h2.mono e⟩
  | ow ds =>
    obtain ⟨a, xs, h1, h2, h3, h4, h5⟩ := r
    refine ⟨a, xs, h1, h2, ?_, h a xs h1 ⟨ds, rfl⟩ h5.cnt h4, h5.mono e⟩
    cases q : G' a with
    | none => rfl
    | some o =>
      rcases k a (by rw [q]; exact fun z => nomatch z) with k | k | k
      · exact absurd h3 k
      · exact absurd h1 k
      · exact absurd rfl (k ds)
  | ur => exact r
/-- new things, the state as it is (but the tables) -/
theorem At.grow (t : At c s σ G H) (eg : Ex G G') (eh : Ex H H') (gh : Ex G' H') (gt : ∀ a o, G' a = some o → Nt o) (n : ∀ a, G' a ≠ none → G a ≠ none ∨ Fw c H a) : At c s σ G' H' ∧ Kp c s σ G H s G' H' := by
  have nt : ∀ {xs : List V}, c.nt (.lst xs) := ntl
  refine ⟨⟨t.len, fun i x hx => ?_, t.dis, gh, gt, fun a u => ?_, t.hj, fun a o h w u => eh a o (t.fr a o h w u), fun a h => ?_, t.g0.trans eg, fun u => (t.ur u).up eg fun o h _ => eh _ o h, c.tbm _ _ (fun a o h _ => eh a o h) t.tb⟩, ⟨eg, fun a o h _ _ _ => eh a o h, fun a h => (n a h).elim .inl fun z => .inr (.inl z), fun _ _ h => h, fun a h o e w => h.no (eh a o e) w, fun a xs h => .inl (by
      cases q : H a with
      | none => exact .none q
      | some o =>
        have e2 := eh a o q
        rw [h] at e2
        cases e2
        exact .inr ⟨xs, q⟩)⟩⟩
  · refine SlR.up eg (fun a h => ?_) (fun a xs _ _ _ h => eh a _ h) (t.sl i x hx)
    by_cases z : ∃ ds, x = .ow ds
    · obtain ⟨ds, rfl⟩ := z
      obtain ⟨a', xs, h1, _, _, h4, h5⟩ := t.sl i _ hx
      rcases n a h with h | h
      · exact .inl h
      · refine .inr (.inl fun e => ?_)
        rw [h1] at e
        cases e
        exact h5.noW h4 h
    · exact .inr (.inr fun ds e => z ⟨ds, e⟩)
  · cases q : G' a with
    | none => rfl
    | some o =>
      rcases n a (by rw [q]; exact fun z => nomatch z) with h | h
      · exact absurd (t.gj a u) h
      · exact absurd h (t.thereW u)
  · rcases n a h with h | h
    · exact t.nw a h
    · exact .inr (t.freshW0 h)
/-- a new object that is data at once -/
theorem At.lay (t : At c s σ G H) {p : Addr} {o : HO} (hp : H p = none) (nt : Nt o) : At c s σ (upd G p o) (upd H p o) ∧ Kp c s σ G H s (upd G p o) (upd H p o) := by
  have gp := t.freshG (Fr.none hp)
  refine t.grow (Evl.Ex.new gp) (Evl.Ex.new hp) (fun a x h => ?_) (fun a x h => ?_) (fun a h => ?_)
  · by_cases e : a = p
    · subst e; rw [upd_same] at h ⊢; exact h
    · rw [upd_ne e] at h ⊢; exact t.gh a x h
  · by_cases e : a = p
    · subst e; rw [upd_same] at h; cases h; exact nt
    · rw [upd_ne e] at h; exact t.gt a x h
  · by_cases e : a = p
    · subst e; exact .inr (.none hp)
    · rw [upd_ne e] at h; exact .inl h
/-- a new object that is not data yet -/
theorem At.put (t : At c s σ G H) {p : Addr} {o : HO} (hp : H p = none) : At c s σ G (upd H p o) ∧ Kp c s σ G H s G (upd H p o) := by
  refine t.grow (fun _ _ h => h) (Evl.Ex.new hp) (fun a x h => ?_) t.gt (fun a h => .inl h)
  have e : a ≠ p := by rintro rfl; rw [t.freshG (Fr.none hp)] at h; cases h
  rw [upd_ne e]; exact t.gh a x h
/-- what is not data yet becomes data -/
theorem At.show (t : At c s σ G H) {a : Addr} {o : HO} (h0 : Fr c c.H0 a) (ga : G a = none) (no : ∀ i, ¬ Own s σ i a) (ha : H a = some o) (nt : Nt o) (nu : ¬ c.isU a) :
    At c s σ (upd G a o) H := by
  have eg : Ex G (upd G a o) := Evl.Ex.new ga
  refine ⟨t.len, fun i x hx => ?_, t.dis, fun b x h => ?_, fun b x h => ?_, fun b u => ?_, t.hj, t.fr, fun b h => ?_, t.g0.trans eg, fun u => (t.ur u).up eg fun o h _ => h, t.tb⟩
  · refine SlR.up eg (fun b h => ?_) (fun b xs _ _ _ h => h) (t.sl i x hx)
    by_cases e : b = a
    · subst e
      by_cases z : ∃ ds, x = .ow ds
      · obtain ⟨ds, rfl⟩ := z
        exact .inr (.inl fun e => no i ⟨⟨ds, hx⟩, e⟩)
      · exact .inr (.inr fun ds e => z ⟨ds, e⟩)
    · rw [upd_ne e] at h; exact .inl h
  · by_cases e : b = a
    · subst e; rw [upd_same] at h; rw [ha]; exact h
    · rw [upd_ne e] at h; exact t.gh b x h
  · by_cases e : b = a
    · subst e; rw [upd_same] at h; cases h; exact nt
    · rw [upd_ne e] at h; exact t.gt b x h
  · by_cases e : b = a
    · subst e; exact absurd u nu
    · rw [upd_ne e]; exact t.gj b u
  · by_cases e : b = a
    · subst e; exact .inr (.inl h0)
    · rw [upd_ne e] at h; exact t.nw b h
theorem At.notU (t : At c s σ G H) {a : Addr} (h0 : Fr c c.H0 a) : ¬ c.isU a := fun u => t.hj a u h0
/-- an own list is shown -/
theorem At.unownW (t : At c s σ G H) {i : Nat} {a : Addr} {w : W} {d : D} {u : HO} (hi : s.γ[i]? = some (.ow w)) (hs : σ[i]? = some (some (.ref a))) (h0 : Fr c c.H0 a) (ga : G a = none) (ha : H a = some u) (r : OR c.K G a u w) (hd : w.toD = some d) :
    At c (unownD s i d) σ (upd G a u) H ∧ Kp c s σ G H (unownD s i d) (upd G a u) H := by
  have eg : Ex G (upd G a u) := Evl.Ex.new ga
  have hlt : i < s.γ.length := (List.getElem?_eq_some_iff.mp hi).1
  have oo : ∀ k b, Own (Kn.unownD s i d) σ k b → Own s σ k b ∧ k ≠ i := by
    rintro k b ⟨⟨es, h1⟩, h2⟩
    have ne : k ≠ i := by
      rintro rfl
      rw [Kn.unownD, List.getElem?_set_self hlt] at h1; cases h1
    rw [Kn.unownD, List.getElem?_set_ne (Ne.symm ne)] at h1
    exact ⟨⟨⟨es, h1⟩, h2⟩, ne⟩
  refine ⟨⟨by rw [Kn.unownD, List.length_set]; exact t.len, fun k x hx => ?_, fun k l b h1 h2 => t.dis k l b (oo k b h1).1 (oo l b h2).1, fun b x h => ?_, fun b x h => ?_, fun b u' => ?_, t.hj, t.fr, fun b h => ?_, t.g0.trans eg, fun u' => (t.ur u').up eg fun o h _ => h, t.tb⟩, ⟨eg, fun b o h _ _ _ => h, fun b h => ?_, fun k b z => (oo k b z).1, fun _ h => h, fun _ xs h => .inl (.inr ⟨xs, h⟩)⟩⟩
  · by_cases e : k = i
    · subst e
      rw [Kn.unownD, List.getElem?_set_self hlt] at hx
      cases hx
      exact ⟨_, hs, r.data eg upd_same hd⟩
    · rw [Kn.unownD, List.getElem?_set_ne (Ne.symm e)] at hx
      refine SlR.up eg (fun b h => ?_) (fun b xs _ _ _ h => h) (t.sl k x hx)
      by_cases e2 : b = a
      · subst e2
        by_cases z : ∃ ds, x = .ow ds
        · obtain ⟨es, rfl⟩ := z
          exact .inr (.inl fun e3 => e (t.dis k i b ⟨⟨es, hx⟩, e3⟩ ⟨⟨w, hi⟩, hs⟩))
        · exact .inr (.inr fun ds e => z ⟨ds, e⟩)
      · rw [upd_ne e2] at h; exact .inl h
  · by_cases e : b = a
    · subst e; rw [upd_same] at h; rw [ha]; exact h
    · rw [upd_ne e] at h; exact t.gh b x h
  · by_cases e : b = a
    · subst e; rw [upd_same] at h; cases h; exact r.nt
    · rw [upd_ne e] at h; exact t.gt b x h
  · by_cases e : b = a
    · subst e; exact absurd u' (t.notU h0)
    · rw [upd_ne e]; exact t.gj b u'
  · by_cases e : b = a
    · subst e; exact .inr (.inl h0)
    · rw [upd_ne e] at h; exact t.nw b h
  · by_cases e : b = a
    · subst e; exact .inr (.inr ⟨i, ⟨w, hi⟩, hs⟩)
    · rw [upd_ne e] at h; exact .inl h
theorem At.unown (t : At c s σ G H) {i : Nat} {a : Addr} {ds : List D} {xs : List V} (hi : s.γ[i]? = some (.own ds)) (hs : σ[i]? = some (some (.ref a))) (h0 : Fr c c.H0 a) (ga : G a = none) (ha : H a = some (.lst xs)) (r : RpAll c.K G xs ds) :
    At c (unown s i ds) σ (upd G a (.lst xs)) H ∧ Kp c s σ G H (unown s i ds) (upd G a (.lst xs)) H := t.unownW hi hs h0 ga ha (.l r) rfl
/-- an own list -/
theorem At.slL (t : At c s σ G H) {i : Nat} {ds : List D} (hi : s.γ[i]? = some (.own ds)) : ∃ a xs, σ[i]? = some (some (.ref a)) ∧ Fr c c.H0 a ∧ G a = none ∧ H a = some (.lst xs) ∧ RpAll c.K G xs ds := by
  obtain ⟨a, u, h1, h2, h3, h4, h5⟩ := t.sl i _ hi
  obtain ⟨xs, rfl, h6⟩ := h5.list
  exact ⟨a, xs, h1, h2, h3, h4, h6⟩
end
/-! ### a value as data -/
section
variable {c : Cfg} {s : NS} {t : TE}
theorem wE_d {R : Vw → NS → Prop} (h : wD c t s fun d s' => R (.d d) s') : wE c t s R := fun σ G H Q a k => h σ G H Q a fun v d s' G' H' r a' kp rp => k v (.d d) s' G' H' r a' kp rp
/-- a view as data -/
def toD (R : D → NS → Prop) (w : Vw) (s' : NS) : Prop := match w with
    | .d d => R d s' | .fr u => ∃ d, u.toD = some d ∧ R d s' | .s i => ∃ u d, s'.γ[i]? = some (.ow u) ∧ u.toD = some d ∧ R d (unownD s' i d) | .ur => False
theorem toD_d {R : D → NS → Prop} {d : D} (h : R d s) : toD R (.d d) s := h
theorem toD_f {R : D → NS → Prop} {ds : List D} (h : R (.lst ds) s) : toD R (.f ds) s := ⟨_, rfl, h⟩
theorem toD_s {R : D → NS → Prop} {ds : List D} {i : Nat} (e : s.γ[i]? = some (.own ds)) (h : R (.lst ds) (unown s i ds)) : toD R (.s i) s := ⟨_, _, e, rfl, h⟩
theorem toD_fw {R : D → NS → Prop} {u : W} {d : D} (hd : u.toD = some d) (h : R d s) : toD R (.fr u) s := ⟨_, hd, h⟩
theorem toD_sw {R : D → NS → Prop} {u : W} {d : D} {i : Nat} (e : s.γ[i]? = some (.ow u)) (hd : u.toD = some d) (h : R d (unownD s i d)) : toD R (.s i) s := ⟨_, _, e, hd, h⟩
theorem wD_e {R : D → NS → Prop} (h : wE c t s (toD R)) : wD c t s R := by
  intro σ G H Q a k
  refine h σ G H Q a fun v w s' G' H' r a' kp vr => ?_
  cases w with
  | d d => exact k v d s' G' H' r a' kp vr
  | ur => exact r.elim
  | fr w =>
    obtain ⟨d, hd, r⟩ := r
    obtain ⟨p, u, rfl, hs, h0, gp, no, hp, rp⟩ := vr
    have t2 := a'.show h0 gp no hp rp.nt (a'.notU h0)
    have eg : Ex G' (upd G' p u) := Evl.Ex.new gp
    refine k _ _ s' _ H' r t2 ⟨kp.g.trans eg, kp.h, fun b h => ?_, kp.o, kp.m, kp.t⟩ (rp.data eg upd_same hd)
    by_cases e : b = p
    · subst e; exact .inr (.inl (.inl hs))
    · rw [upd_ne e] at h; exact kp.n b h
  | s i =>
    obtain ⟨u, d, hi, hd, r⟩ := r
    have hs : σ[i]? = some (some v) := vr
    obtain ⟨p, xs, e, h0, gp, hp, rp⟩ := a'.sl i _ hi
    rw [hs] at e
    cases e
    obtain ⟨t2, k2⟩ := a'.unownW hi hs h0 gp hp rp hd
    exact k _ _ _ _ H' r t2 (kp.trans k2) (rp.data k2.g upd_same hd)
end
end Kn
/-! Kn2: the expressions of the layer without the heap. -/
namespace Kn
open PySem PySem.Spec PyProof.Rows L2 Kg
open Evl (Ex)
section
variable {c : Cfg} {s s' s1 s2 : NS} {σ : L2.St} {G H G' H' G1 H1 G2 H2 Hs : Hp} {v : V} {w : Vw}
theorem VwR.keep (k : Kp c s σ G H s' G' H') (t : At c s σ G H) (r : VwR c Hs s σ G H v w) : VwR c Hs s' σ G' H' v w := by
  cases w with
  | d d => exact Rp.mono k.g r
  | s i => exact r
  | ur => exact r
  | fr ds =>
    obtain ⟨a, xs, e, hs, h0, g, no, h, rp⟩ := r
    refine ⟨a, xs, e, hs, h0, ?_, fun i z => no i (k.o i a z), k.h a _ h rp.cnt (t.notU h0) no, rp.mono k.g⟩
    cases q : G' a with
    | none => rfl
    | some o =>
      rcases k.n a (by rw [q]; exact fun z => nomatch z) with z | z | ⟨i, z⟩
      · exact absurd g z
      · exact (rp.noW h z).elim
      · exact absurd z (no i)
theorem VwR.base (k : Kp c s σ G H s' G' H') {s2 : NS} {G2 H2 : Hp} (r : VwR c H' s2 σ G2 H2 v w) : VwR c H s2 σ G2 H2 v w := by
  cases w with
  | d d => exact r
  | s i => exact r
  | ur => exact r
  | fr ds =>
    obtain ⟨a, xs, e, hs, r⟩ := r
    exact ⟨a, xs, e, k.m a hs, r⟩
end

/-! ### what a view is -/
def lsOf (s : NS) : Vw → Option (List D)
  | .d (.lst ds) => some ds
  | .fr (.l ds) => some ds
  | .s i => match s.γ[i]? with
    | some (.ow (.l ds)) => some ds
    | some (.d (.lst ds)) => some ds
    | _ => none
  | _ => none
def qvOf (s : NS) : Vw → Option (List D)
  | .d (.tup ds) => some ds
  | w => lsOf s w
/-- the view of a slot -/
def slV (i : Nat) : Sl → Option Vw
  | .d d => some (.d d)
  | .ow _ => some (.s i)
  | .ur => some .ur
  | .no => none
section
variable {c : Cfg} {s s' : NS} {σ : L2.St} {G H Hs : Hp} {v : V} {w : Vw} {ds : List D}
theorem ls_at (t : At c s σ G H) (r : VwR c Hs s σ G H v w) (e : lsOf s w = some ds) : ∃ a xs, v = .ref a ∧ H a = some (.lst xs) ∧ RpAll c.K G xs ds := by
  cases w with
  | d d =>
    cases d <;> simp only [lsOf, reduceCtorEq, Option.some.injEq] at e
    subst e
    cases (show Rp c.K G v _ from r) with
    | lst h t' => exact ⟨_, _, rfl, t.gh _ _ h, t'⟩
  | fr w =>
    cases w with
    | l es =>
      simp only [lsOf, Option.some.injEq] at e
      subst e
      obtain ⟨a, u, e, _, _, _, _, h, rp⟩ := r
      obtain ⟨xs, rfl, rp2⟩ := rp.list
      exact ⟨a, xs, e, h, rp2⟩
    | _ => cases e
  | ur => cases e
  | s i =>
    have hs : σ[i]? = some (some v) := r
    cases q : s.γ[i]? with
    | none => simp [lsOf, q] at e
    | some x =>
      cases x with
      | no => simp [lsOf, q] at e
      | ur => simp [lsOf, q] at e
      | ow w =>
        cases w with
        | l es =>
          simp only [lsOf, q, Option.some.injEq] at e
          subst e
          obtain ⟨a, xs, h1, _, _, h4, h5⟩ := t.slL q
          rw [hs] at h1; cases h1
          exact ⟨a, xs, rfl, h4, h5⟩
        | _ => simp [lsOf, q] at e
      | d d =>
        cases d <;> simp only [lsOf, q, reduceCtorEq, Option.some.injEq] at e
        subst e
        obtain ⟨v', h1, h2⟩ := t.sl i _ q
        rw [hs] at h1; cases h1
        cases h2 with
        | lst h t' => exact ⟨_, _, rfl, t.gh _ _ h, t'⟩
theorem sq_at (t : At c s σ G H) (r : VwR c Hs s σ G H v w) (e : qvOf s w = some ds) : ∃ a xs, v = .ref a ∧ (SqL c.K H a xs ∨ SqT c.K H a xs) ∧ RpAll c.K G xs ds := by
  have l : lsOf s w = some ds → ∃ a xs, v = .ref a ∧ (SqL c.K H a xs ∨ SqT c.K H a xs) ∧ RpAll c.K G xs ds := fun e => by
    obtain ⟨a, xs, e, h, rp⟩ := ls_at t r e
    exact ⟨a, xs, e, .inl (SqL.of h), rp⟩
  cases w with
  | d d =>
    cases d with
    | tup es =>
      simp only [qvOf, Option.some.injEq] at e
      subst e
      cases (show Rp c.K G v _ from r) with
      | tup h t' => exact ⟨_, _, rfl, .inr (SqT.of (t.gh _ _ h)), t'⟩
    | _ => exact l e
  | _ => exact l e
/-- a list or a tuple, a tuple of the module too -/
def qkOf (s : NS) : Vw → Option (List D)
  | .d (.ktup ds) => some ds
  | w => qvOf s w
theorem sqk_at (t : At c s σ G H) (r : VwR c Hs s σ G H v w) (e : qkOf s w = some ds) : ∃ a xs, v = .ref a ∧ (SqL c.K H a xs ∨ SqT c.K H a xs) ∧ RpAll c.K G xs ds := by
  unfold qkOf at e
  split at e
  · cases e
    cases (show Rp c.K G v _ from r) with
    | ktup h t' => exact ⟨_, _, rfl, .inr (.inr h), t'⟩
  · exact sq_at t r e
theorem int_at {i : Int} (r : VwR c Hs s σ G H v (.d (.int i))) : v = .int i := by cases (show Rp c.K G v _ from r); rfl
theorem bl_at {i : Bool} (r : VwR c Hs s σ G H v (.d (.bl i))) : v = .bl i := by cases (show Rp c.K G v _ from r); rfl
theorem str_at {i : Str} (r : VwR c Hs s σ G H v (.d (.str i))) : v = .str i := by cases (show Rp c.K G v _ from r); rfl
end

theorem log_small {n : Nat} (h : n < 2 ^ 64) : n.log2 < 9000 := by
  by_cases z : n = 0
  · subst z; decide
  · exact Nat.lt_of_lt_of_le ((Nat.log2_lt z).mpr h) (by decide)
theorem atI_nat {α : Type} {xs : List α} {i : Int} (h0 : 0 ≤ i) (h1 : i < xs.length) : ∃ x, atI xs i = some x ∧ x ∈ xs := by
  have l : i.toNat < xs.length := by omega
  refine ⟨xs[i.toNat], ?_, List.getElem_mem l⟩
  unfold atI ixN
  rw [if_pos h0, if_pos h1]
  exact List.getElem?_eq_getElem l
theorem cdiv_small {i j : Int} (h0 : 0 < j) (h1 : j < 2 ^ 64) : CDivW i j := ⟨h0, log_small (by omega)⟩
/-! ### names, constants -/
section
variable {c : Cfg} {s : NS} {R : Vw → NS → Prop} {ta tb te : TE}
theorem e_var {i : Nat} {x : Sl} {w : Vw} (h : s.γ[i]? = some x) (hv : slV i x = some w) (r : R w s) : wE c (tVar i) s R := by
  intro σ G H Q t k
  have q := t.sl i x h
  cases x with
  | no => cases hv
  | d d =>
    cases hv
    obtain ⟨v, h1, h2⟩ := q
    exact ⟨v, h1, k v _ s G H r t .refl h2⟩
  | ow ds =>
    cases hv
    obtain ⟨a, xs, h1, _⟩ := q
    exact ⟨_, h1, k _ (.s i) s G H r t .refl h1⟩
  | ur =>
    cases hv
    exact ⟨_, q.2, k _ .ur s G H r t .refl ⟨q.1, rfl⟩⟩
theorem e_int {i : Int} (r : R (.d (.int i)) s) : wE c (tC (.int i)) s R := fun σ G H Q t k => k _ (.d (.int i)) s G H r t .refl (Rp.int i)
theorem e_bl {i : Bool} (r : R (.d (.bl i)) s) : wE c (tC (.bl i)) s R := fun σ G H Q t k => k _ (.d (.bl i)) s G H r t .refl (Rp.bl i)
theorem e_str {i : Str} (r : R (.d (.str i)) s) : wE c (tC (.str i)) s R := fun σ G H Q t k => k _ (.d (.str i)) s G H r t .refl (Rp.str i)
theorem e_non (r : R (.d .non) s) : wE c (tC .non) s R := fun σ G H Q t k => k _ (.d .non) s G H r t .refl Rp.non
theorem e_ref {a : Addr} (r : R (.d (.rf a)) s) : wE c (tC (.ref a)) s R := fun σ G H Q t k => k _ (.d (.rf a)) s G H r t .refl (Rp.rf a)
theorem e_ty {n : String} (r : R (.d (.ty n)) s) : wE c (tC (.ty n)) s R := fun σ G H Q t k => k _ (.d (.ty n)) s G H r t .refl (Rp.ty n)
/-- a reading may be replaced by a stronger one -/
theorem wE.imp {R' : Vw → NS → Prop} (h : wE c te s R) (f : ∀ w s', R w s' → R' w s') : wE c te s R' := fun σ G H Q t k => h σ G H Q t fun v w s' G' H' r => k v w s' G' H' (f w s' r)

/-! ### two places -/
theorem e_op {r : R2} {P : Vw → Vw → NS → Prop} (h : wE c ta s fun w s1 => wE c tb s1 fun u s2 => P w u s2)
    (hr : ∀ (σ : L2.St) (G H Hs : Hp) (v x : V) (w u : Vw) (s2 : NS) (Q : VK), At c s2 σ G H → VwR c Hs s2 σ G H v w → VwR c Hs s2 σ G H x u → P w u s2 →
      (∀ v' w' s' G' H', R w' s' → At c s' σ G' H' → Kp c s2 σ G H s' G' H' → VwR c H s' σ G' H' v' w' → Q v' H') → r v x H Q) : wE c (tOp r ta tb) s R := by
  intro σ G H Q t k
  refine h σ G H _ t fun v w s1 G1 H1 p1 t1 k1 r1 => ?_
  refine p1 σ G1 H1 _ t1 fun x u s2 G2 H2 p2 t2 k2 r2 => ?_
  refine hr σ G2 H2 H v x w u s2 Q t2 (r1.keep k2 t1) (r2.base k1) p2 fun v' w' s' G' H' q t' k' r' => ?_
  exact k v' w' s' G' H' q t' (k1.trans (k2.trans k')) (r'.base (k1.trans k2))
/-- both are ints -/
def I2 (w u : Vw) (k : Int → Int → Prop) : Prop := ∃ i j, w = .d (.int i) ∧ u = .d (.int j) ∧ k i j
def I1 (w : Vw) (k : Int → Prop) : Prop := ∃ i, w = .d (.int i) ∧ k i
def B1 (w : Vw) (k : Bool → Prop) : Prop := ∃ i, w = .d (.bl i) ∧ k i
theorem e_ii {f : Int → Int → Int} (h : wE c ta s fun w s1 => wE c tb s1 fun u s2 => I2 w u fun i j => R (.d (.int (f i j))) s2) : wE c (tOp (rI0 fun i j => .int (f i j)) ta tb) s R :=
  e_op h fun σ G H Hs v x w u s2 Q t r1 r2 ⟨i, j, e1, e2, p⟩ k => by
    subst e1 e2
    exact ⟨i, j, int_at r1, int_at r2, k _ (.d (.int (f i j))) s2 G H p t .refl (Rp.int _)⟩
theorem e_iiC {C : Int → Int → Prop} {f : Int → Int → Int} (h : wE c ta s fun w s1 => wE c tb s1 fun u s2 => I2 w u fun i j => C i j ∧ R (.d (.int (f i j))) s2) : wE c (tOp (rI C fun i j => .int (f i j)) ta tb) s R :=
  e_op h fun σ G H Hs v x w u s2 Q t r1 r2 ⟨i, j, e1, e2, hc, p⟩ k => by
    subst e1 e2
    exact ⟨i, j, int_at r1, int_at r2, hc, k _ (.d (.int (f i j))) s2 G H p t .refl (Rp.int _)⟩
theorem e_ib {f : Int → Int → Bool} (h : wE c ta s fun w s1 => wE c tb s1 fun u s2 => I2 w u fun i j => R (.d (.bl (f i j))) s2) : wE c (tOp (rI0 fun i j => .bl (f i j)) ta tb) s R :=
  e_op h fun σ G H Hs v x w u s2 Q t r1 r2 ⟨i, j, e1, e2, p⟩ k => by
    subst e1 e2
    exact ⟨i, j, int_at r1, int_at r2, k _ (.d (.bl (f i j))) s2 G H p t .refl (Rp.bl _)⟩
/-- == of scalars -/
inductive EqS : D → D → Bool → Prop
  | ii (i j : Int) : EqS (.int i) (.int j) (decide (i = j))
  | ss (i j : Str) : EqS (.str i) (.str j) (decide (i = j))
  | bb (i j : Bool) : EqS (.bl i) (.bl j) (decide (i = j))
  | nn : EqS .non .non true
  | ni (i : Int) : EqS .non (.int i) false
  | ins (i : Int) : EqS (.int i) .non false
  | ns (i : Str) : EqS .non (.str i) false
  | sn (i : Str) : EqS (.str i) .non false
  | si (i : Str) (j : Int) : EqS (.str i) (.int j) false
  | is (i : Int) (j : Str) : EqS (.int i) (.str j) false
theorem eqS_of {K : PySem.W.Frag} {G : Hp} {v x : V} {d e : D} {b : Bool} (q : EqS d e b) (h1 : Rp K G v d) (h2 : Rp K G x e) : scal v x = true ∧ decide (v = x) = b := by
  cases q <;> cases h1 <;> cases h2 <;> simp [scal]
def E2 (w u : Vw) (k : Bool → Prop) : Prop := ∃ d e b, w = .d d ∧ u = .d e ∧ EqS d e b ∧ k b
theorem e_eq (h : wE c ta s fun w s1 => wE c tb s1 fun u s2 => E2 w u fun b => R (.d (.bl b)) s2) : wE c (tOp rEq ta tb) s R :=
  e_op h fun σ G H Hs v x w u s2 Q t r1 r2 ⟨d, e, b, e1, e2, q, p⟩ k => by
    subst e1 e2
    obtain ⟨h1, h2⟩ := eqS_of q (show Rp c.K G v d from r1) (show Rp c.K G x e from r2)
    refine ⟨h1, ?_⟩
    rw [h2]
    exact k _ (.d (.bl b)) s2 G H p t .refl (Rp.bl _)
theorem e_ne (h : wE c ta s fun w s1 => wE c tb s1 fun u s2 => E2 w u fun b => R (.d (.bl (!b))) s2) : wE c (tOp rNe ta tb) s R :=
  e_op h fun σ G H Hs v x w u s2 Q t r1 r2 ⟨d, e, b, e1, e2, q, p⟩ k => by
    subst e1 e2
    obtain ⟨h1, h2⟩ := eqS_of q (show Rp c.K G v d from r1) (show Rp c.K G x e from r2)
    refine ⟨h1, ?_⟩
    rw [h2]
    exact k _ (.d (.bl (!b))) s2 G H p t .refl (Rp.bl _)
/-- is None, is not None -/
def D.isN : D → Bool
  | .non => true
  | _ => false
theorem isN_of {K : PySem.W.Frag} {G : Hp} {v : V} {d : D} (h : Rp K G v d) : decide (v = .non) = d.isN := by
  cases h <;> simp [D.isN]
theorem e_isN (h : wE c ta s fun w s1 => wE c tb s1 fun u s2 => u = .d .non ∧ ∃ d, w = .d d ∧ R (.d (.bl d.isN)) s2) : wE c (tOp (fun x y H Q => y = V.non ∧ Q (.bl (decide (x = .non))) H) ta tb) s R :=
  e_op h fun σ G H Hs v x w u s2 Q t r1 r2 ⟨e1, d, e2, p⟩ k => by
    subst e1 e2
    cases (show Rp c.K G x .non from r2)
    refine ⟨rfl, ?_⟩
    rw [isN_of (show Rp c.K G v d from r1)]
    exact k _ (.d (.bl _)) s2 G H p t .refl (Rp.bl _)
theorem e_notN (h : wE c ta s fun w s1 => wE c tb s1 fun u s2 => u = .d .non ∧ ∃ d, w = .d d ∧ R (.d (.bl (!d.isN))) s2) : wE c (tOp (fun x y H Q => y = V.non ∧ Q (.bl (!decide (x = .non))) H) ta tb) s R :=
  e_op h fun σ G H Hs v x w u s2 Q t r1 r2 ⟨e1, d, e2, p⟩ k => by
    subst e1 e2
    cases (show Rp c.K G x .non from r2)
    refine ⟨rfl, ?_⟩
    rw [isN_of (show Rp c.K G v d from r1)]
    exact k _ (.d (.bl _)) s2 G H p t .refl (Rp.bl _)
theorem e_isB (h : wE c ta s fun w s1 => wE c tb s1 fun u s2 => ∃ a b, w = .d (.bl a) ∧ u = .d (.bl b) ∧ R (.d (.bl (decide (a = b)))) s2) : wE c (tOp rIsB ta tb) s R :=
  e_op h fun σ G H Hs v x w u s2 Q t r1 r2 ⟨a, b, e1, e2, p⟩ k => by
    subst e1 e2
    exact ⟨a, b, bl_at r1, bl_at r2, k _ (.d (.bl _)) s2 G H p t .refl (Rp.bl _)⟩
theorem e_neg (h : wE c ta s fun w s1 => I1 w fun i => R (.d (.int (-i))) s1) : wE c (tUn (rU fun i => .int (-i)) ta) s R := fun σ G H Q t k =>
  h σ G H _ t fun v w s1 G1 H1 ⟨i, e, p⟩ t1 k1 r1 => by
    subst e
    exact ⟨i, int_at r1, k _ (.d (.int (-i))) s1 G1 H1 p t1 k1 (Rp.int _)⟩
/-- xs + ys: a new list -/
theorem e_cat (h : wE c ta s fun w s1 => wE c tb s1 fun u s2 => ∃ ds es, lsOf s2 w = some ds ∧ lsOf s2 u = some es ∧ ds.length + es.length ≤ sizeLine ∧ R (.f (ds ++ es)) s2) : wE c (tOp rCat ta tb) s R :=
  e_op h fun σ G H Hs v x w u s2 Q t r1 r2 ⟨ds, es, e1, e2, hz, p⟩ k => by
    obtain ⟨a, xs, rfl, h1, p1⟩ := ls_at t r1 e1
    obtain ⟨b, ys, rfl, h2, p2⟩ := ls_at t r2 e2
    refine ⟨a, b, xs, ys, rfl, rfl, h1, h2, by rw [p1.len, p2.len]; exact hz, fun q hq => ?_⟩
    obtain ⟨t2, k2⟩ := t.put (o := .lst (xs ++ ys)) hq
    refine k _ (.f (ds ++ es)) s2 G _ p t2 k2 ⟨q, _, rfl, .none hq, t.fresh0 (.none hq), t.freshG (.none hq), t.noOwn (.none hq), upd_same, .l (p1.app p2)⟩
theorem atI_of {K : PySem.W.Frag} {G : Hp} {xs : List V} {ds : List D} {i : Int} {d : D} (r : RpAll K G xs ds) (h : atI ds i = some d) : ∃ v, atI xs i = some v ∧ Rp K G v d := by
  unfold atI at h ⊢
  rw [r.len]
  cases q : ixN ds.length i with
  | none => rw [q] at h; cases h
  | some j =>
    rw [q] at h
    obtain ⟨v, h1, h2⟩ := r.of (show ds[j]? = some d from h)
    exact ⟨v, h1, h2⟩
/-- x[i] -/
theorem e_ixL_0 (h : wE c ta s fun w s1 => wE c tb s1 fun u s2 => ∃ ds i d, lsOf s2 w = some ds ∧ u = .d (.int i) ∧ atI ds i = some d ∧ R (.d d) s2) : wE c (tOp (rIxL c.K) ta tb) s R :=
  e_op h fun σ G H Hs v x w u s2 Q t r1 r2 ⟨ds, i, d, e1, e2, e3, p⟩ k => by
    subst e2
    obtain ⟨a, xs, rfl, h1, p1⟩ := ls_at t r1 e1
    obtain ⟨y, h2, p2⟩ := atI_of p1 e3
    exact ⟨a, xs, i, y, rfl, int_at r2, SqL.of h1, h2, k _ (.d d) s2 G H p t .refl p2⟩
theorem e_ixL {K' : PySem.W.Frag} (h : wE c ta s fun w s1 => wE c tb s1 fun u s2 => ∃ ds i d, lsOf s2 w = some ds ∧ u = .d (.int i) ∧ atI ds i = some d ∧ R (.d d) s2) (hK : K' = c.K := by rfl) : wE c (tOp (rIxL K') ta tb) s R := by
  subst hK
  exact e_ixL_0 h
theorem e_ixT_0 (h : wE c ta s fun w s1 => wE c tb s1 fun u s2 => ∃ ds i d, w = .d (.tup ds) ∧ u = .d (.int i) ∧ atI ds i = some d ∧ R (.d d) s2) : wE c (tOp (rIxT c.K) ta tb) s R :=
  e_op h fun σ G H Hs v x w u s2 Q t r1 r2 ⟨ds, i, d, e1, e2, e3, p⟩ k => by
    subst e1 e2
    cases (show Rp c.K G v _ from r1) with
    | tup h1 p1 =>
      obtain ⟨y, h2, p2⟩ := atI_of p1 e3
      exact ⟨_, _, i, y, rfl, int_at r2, SqT.of (t.gh _ _ h1), h2, k _ (.d d) s2 G H p t .refl p2⟩
theorem e_ixT {K' : PySem.W.Frag} (h : wE c ta s fun w s1 => wE c tb s1 fun u s2 => ∃ ds i d, w = .d (.tup ds) ∧ u = .d (.int i) ∧ atI ds i = some d ∧ R (.d d) s2) (hK : K' = c.K := by rfl) : wE c (tOp (rIxT K') ta tb) s R := by
  subst hK
  exact e_ixT_0 h
theorem e_ix_0 (h : wE c ta s fun w s1 => wE c tb s1 fun u s2 => ∃ ds i d, qkOf s2 w = some ds ∧ u = .d (.int i) ∧ atI ds i = some d ∧ R (.d d) s2) : wE c (tOp (rIx c.K) ta tb) s R :=
  e_op h fun σ G H Hs v x w u s2 Q t r1 r2 ⟨ds, i, d, e1, e2, e3, p⟩ k => by
    subst e2
    obtain ⟨a, xs, rfl, h1, p1⟩ := sqk_at t r1 e1
    obtain ⟨y, h2, p2⟩ := atI_of p1 e3
    have q := k _ (.d d) s2 G H p t .refl p2
    rcases h1 with h1 | h1
    · exact .inl ⟨a, xs, i, y, rfl, int_at r2, h1, h2, q⟩
    · exact .inr (.inl ⟨a, xs, i, y, rfl, int_at r2, h1, h2, q⟩)

theorem e_ix {K' : PySem.W.Frag} (h : wE c ta s fun w s1 => wE c tb s1 fun u s2 => ∃ ds i d, qkOf s2 w = some ds ∧ u = .d (.int i) ∧ atI ds i = some d ∧ R (.d d) s2) (hK : K' = c.K := by rfl) : wE c (tOp (rIx K') ta tb) s R := by
  subst hK
  exact e_ix_0 h
/-! ### truth values -/
theorem e_and (h : wE c ta s fun w s1 => B1 w fun b => if b = true then wE c tb s1 R else R (.d (.bl false)) s1) : wE c (tAndV ta tb) s R := fun σ G H Q t k =>
  h σ G H _ t fun v w s1 G1 H1 ⟨b, e, p⟩ t1 k1 r1 => by
    subst e
    refine ⟨b, bl_at r1, ?_⟩
    cases b with
    | true => exact p σ G1 H1 Q t1 fun v w s' G' H' r t' k' r' => k v w s' G' H' r t' (k1.trans k') (r'.base k1)
    | false => exact k _ (.d (.bl false)) s1 G1 H1 p t1 k1 (Rp.bl _)
theorem e_or (h : wE c ta s fun w s1 => B1 w fun b => if b = true then R (.d (.bl true)) s1 else wE c tb s1 R) : wE c (tOrV ta tb) s R := fun σ G H Q t k =>
  h σ G H _ t fun v w s1 G1 H1 ⟨b, e, p⟩ t1 k1 r1 => by
    subst e
    refine ⟨b, bl_at r1, ?_⟩
    cases b with
    | false => exact p σ G1 H1 Q t1 fun v w s' G' H' r t' k' r' => k v w s' G' H' r t' (k1.trans k') (r'.base k1)
    | true => exact k _ (.d (.bl true)) s1 G1 H1 p t1 k1 (Rp.bl _)
theorem e_not (h : wE c ta s fun w s1 => B1 w fun b => R (.d (.bl (!b))) s1) : wE c (tNotV ta) s R := fun σ G H Q t k =>
  h σ G H _ t fun v w s1 G1 H1 ⟨b, e, p⟩ t1 k1 r1 => by
    subst e
    exact ⟨b, bl_at r1, k _ (.d (.bl _)) s1 G1 H1 p t1 k1 (Rp.bl _)⟩
variable {T : Bool → NS → Prop} {tt uu : TT}
theorem t_b (h : wE c ta s fun w s1 => B1 w fun b => T b s1) : wT c (tB ta) s T := fun σ G H Q t k =>
  h σ G H _ t fun v w s1 G1 H1 ⟨b, e, p⟩ t1 k1 r1 => by
    subst e
    exact ⟨b, bl_at r1, k b s1 G1 H1 p t1 k1⟩
theorem t_test (h : wE c ta s fun w s1 => B1 w fun b => T b s1) : wT c (tTest ta) s T := fun σ G H Q t k =>
  h σ G H _ t fun v w s1 G1 H1 ⟨b, e, p⟩ t1 k1 r1 => by
    subst e
    exact ⟨b, bl_at r1, k b s1 G1 H1 p t1 k1⟩
theorem t_not (h : wT c tt s fun b s1 => T (!b) s1) : wT c (tNot tt) s T := fun σ G H Q t k => h σ G H _ t fun b s1 G1 H1 p t1 k1 => k (!b) s1 G1 H1 p t1 k1
theorem t_and (h : wT c tt s fun b s1 => if b = true then wT c uu s1 T else T false s1) : wT c (tAnd tt uu) s T := fun σ G H Q t k =>
  h σ G H _ t fun b s1 G1 H1 p t1 k1 => by
    cases b with
    | true => exact p σ G1 H1 Q t1 fun b s' G' H' r t' k' => k b s' G' H' r t' (k1.trans k')
    | false => exact k false s1 G1 H1 p t1 k1
theorem t_or (h : wT c tt s fun b s1 => if b = true then T true s1 else wT c uu s1 T) : wT c (tOr tt uu) s T := fun σ G H Q t k =>
  h σ G H _ t fun b s1 G1 H1 p t1 k1 => by
    cases b with
    | false => exact p σ G1 H1 Q t1 fun b s' G' H' r t' k' => k b s' G' H' r t' (k1.trans k')
    | true => exact k true s1 G1 H1 p t1 k1
theorem t_yes (h : T true s) : wT c tYes s T := fun σ G H Q t k => k true s G H h t .refl
theorem e_if (h : wT c tt s fun b s1 => if b = true then wE c ta s1 R else wE c tb s1 R) : wE c (tIf tt ta tb) s R := fun σ G H Q t k =>
  h σ G H _ t fun b s1 G1 H1 p t1 k1 => by
    cases b with
    | true => exact p σ G1 H1 Q t1 fun v w s' G' H' r t' k' r' => k v w s' G' H' r t' (k1.trans k') (r'.base k1)
    | false => exact p σ G1 H1 Q t1 fun v w s' G' H' r t' k' r' => k v w s' G' H' r t' (k1.trans k') (r'.base k1)

/-! ### lists of readings -/
variable {A : List D → NS → Prop} {tr : TA}
theorem a_nil (h : A [] s) : wA c tNil s A := fun σ G H Q t k => k [] [] s G H h t .refl .nil
theorem a_cons (h : wD c te s fun d s1 => wA c tr s1 fun ds s2 => A (d :: ds) s2) : wA c (tCons te tr) s A := fun σ G H Q t k =>
  h σ G H _ t fun v d s1 G1 H1 p1 t1 k1 r1 => p1 σ G1 H1 _ t1 fun vs ds s2 G2 H2 p2 t2 k2 r2 => k (v :: vs) (d :: ds) s2 G2 H2 p2 t2 (k1.trans k2) (.cons (r1.mono k2.g) r2)
theorem e_tup (h : wA c tr s fun ds s1 => ds.length ≤ sizeLine ∧ R (.d (.tup ds)) s1) : wE c (tTup tr) s R := fun σ G H Q t k =>
  h σ G H _ t fun vs ds s1 G1 H1 p t1 k1 r1 => ⟨by rw [r1.len]; exact p.1, fun q hq => by
    obtain ⟨t2, k2⟩ := t1.lay (o := .tup vs) hq (fun _ z => nomatch z)
    exact k _ (.d (.tup ds)) s1 _ _ p.2 t2 (k1.trans k2) (Rp.tup upd_same (r1.mono k2.g))⟩
theorem e_lst (h : wA c tr s fun ds s1 => ds.length ≤ sizeLine ∧ R (.f ds) s1) : wE c (tLst tr) s R := fun σ G H Q t k =>
  h σ G H _ t fun vs ds s1 G1 H1 p t1 k1 r1 => ⟨by rw [r1.len]; exact p.1, fun q hq => by
    obtain ⟨t2, k2⟩ := t1.put (o := .lst vs) hq
    exact k _ (.f ds) s1 _ _ p.2 t2 (k1.trans k2) ⟨q, _, rfl, k1.m q (.none hq), t1.fresh0 (.none hq), t1.freshG (.none hq), t1.noOwn (.none hq), upd_same, .l r1⟩⟩
/-- built-in calls of one value -/
theorem e_cb1 {r : List V → Hp → VK → Prop} {P : Vw → NS → Prop} (h : wE c te s P)
    (hr : ∀ (σ : L2.St) (G H Hs : Hp) (v : V) (w : Vw) (s2 : NS) (Q : VK), At c s2 σ G H → VwR c Hs s2 σ G H v w → P w s2 →
      (∀ v' w' s' G' H', R w' s' → At c s' σ G' H' → Kp c s2 σ G H s' G' H' → VwR c H s' σ G' H' v' w' → Q v' H') → r [v] H Q) : wE c (tCB r (tCons te tNil)) s R := fun σ G H Q t k =>
  h σ G H _ t fun v w s1 G1 H1 p t1 k1 r1 => hr σ G1 H1 H v w s1 Q t1 r1 p fun v' w' s' G' H' q t' k' r' => k v' w' s' G' H' q t' (k1.trans k') (r'.base k1)
theorem e_len_0 (h : wE c te s fun w s1 => ∃ ds, qvOf s1 w = some ds ∧ R (.d (.int ds.length)) s1) : wE c (tCB (fun xs H Q => ∃ p ys, xs = [V.ref p] ∧ (SqL c.K H p ys ∨ SqT c.K H p ys) ∧ Q (.int ys.length) H) (tCons te tNil)) s R :=
  e_cb1 h fun σ G H Hs v w s2 Q t r ⟨ds, e, p⟩ k => by
    obtain ⟨a, xs, rfl, h1, p1⟩ := sq_at t r e
    refine ⟨a, xs, rfl, h1, ?_⟩
    rw [p1.len]
    exact k _ (.d (.int ds.length)) s2 G H p t .refl (Rp.int _)
theorem e_len {K' : PySem.W.Frag} (h : wE c te s fun w s1 => ∃ ds, qvOf s1 w = some ds ∧ R (.d (.int ds.length)) s1) (hK : K' = c.K := by rfl) : wE c (tCB (fun xs H Q => ∃ p ys, xs = [V.ref p] ∧ (SqL K' H p ys ∨ SqT K' H p ys) ∧ Q (.int ys.length) H) (tCons te tNil)) s R := by
  subst hK
  exact e_len_0 h
theorem e_abs (h : wE c te s fun w s1 => I1 w fun i => R (.d (.int (if i < 0 then -i else i))) s1) : wE c (tCB (fun xs H Q => ∃ i, xs = [V.int i] ∧ Q (.int (if i < 0 then -i else i)) H) (tCons te tNil)) s R :=
  e_cb1 h fun σ G H Hs v w s2 Q t r ⟨i, e, p⟩ k => by
    subst e
    exact ⟨i, by rw [int_at r], k _ (.d (.int _)) s2 G H p t .refl (Rp.int _)⟩
/-- int(x), of an int or a truth value -/
inductive IntOf : D → Int → Prop
  | i (i : Int) : IntOf (.int i) i
  | b (b : Bool) : IntOf (.bl b) (if b = true then 1 else 0)
theorem e_toInt (h : wE c te s fun w s1 => ∃ d i, w = .d d ∧ IntOf d i ∧ R (.d (.int i)) s1) :
    wE c (tCB (fun xs H Q => (∃ i, xs = [V.int i] ∧ Q (.int i) H) ∨ ∃ k, xs = [V.bl k] ∧ Q (.int (if k = true then 1 else 0)) H) (tCons te tNil)) s R :=
  e_cb1 h fun σ G H Hs v w s2 Q t r ⟨d, i, e, q, p⟩ k => by
    subst e
    have z := k (.int i) (.d (.int i)) s2 G H p t .refl (Rp.int i)
    cases q with
    | i i => exact .inl ⟨i, by rw [int_at r], z⟩
    | b b => exact .inr ⟨b, by rw [bl_at r], z⟩
theorem e_all_0 (h : wE c te s fun w s1 => ∃ bs : List Bool, lsOf s1 w = some (bs.map D.bl) ∧ R (.d (.bl (bs.all id))) s1) : wE c (tCB (rAll c.K) (tCons te tNil)) s R :=
  e_cb1 h fun σ G H Hs v w s2 Q t r ⟨bs, e, p⟩ k => by
    obtain ⟨a, xs, rfl, h1, p1⟩ := ls_at t r e
    rw [p1.bls] at h1
    exact ⟨a, bs, rfl, SqL.of h1, k _ (.d (.bl _)) s2 G H p t .refl (Rp.bl _)⟩
theorem e_all {K' : PySem.W.Frag} (h : wE c te s fun w s1 => ∃ bs : List Bool, lsOf s1 w = some (bs.map D.bl) ∧ R (.d (.bl (bs.all id))) s1) (hK : K' = c.K := by rfl) : wE c (tCB (rAll K') (tCons te tNil)) s R := by
  subst hK
  exact e_all_0 h
theorem e_any_0 (h : wE c te s fun w s1 => ∃ bs : List Bool, lsOf s1 w = some (bs.map D.bl) ∧ R (.d (.bl (bs.any id))) s1) : wE c (tCB (rAny c.K) (tCons te tNil)) s R :=
  e_cb1 h fun σ G H Hs v w s2 Q t r ⟨bs, e, p⟩ k => by
    obtain ⟨a, xs, rfl, h1, p1⟩ := ls_at t r e
    rw [p1.bls] at h1
    exact ⟨a, bs, rfl, SqL.of h1, k _ (.d (.bl _)) s2 G H p t .refl (Rp.bl _)⟩
theorem e_any {K' : PySem.W.Frag} (h : wE c te s fun w s1 => ∃ bs : List Bool, lsOf s1 w = some (bs.map D.bl) ∧ R (.d (.bl (bs.any id))) s1) (hK : K' = c.K := by rfl) : wE c (tCB (rAny K') (tCons te tNil)) s R := by
  subst hK
  exact e_any_0 h
/-- list(x) -/
theorem e_toList_0 (h : wE c te s fun w s1 => ∃ ds, qvOf s1 w = some ds ∧ R (.f ds) s1) : wE c (tCB (fun xs H Q => ∃ p ys, xs = [V.ref p] ∧ (SqL c.K H p ys ∨ SqT c.K H p ys) ∧ ∀ l, H l = none → Q (.ref l) (upd H l (.lst ys))) (tCons te tNil)) s R :=
  e_cb1 h fun σ G H Hs v w s2 Q t r ⟨ds, e, p⟩ k => by
    obtain ⟨a, xs, rfl, h1, p1⟩ := sq_at t r e
    refine ⟨a, xs, rfl, h1, fun q hq => ?_⟩
    obtain ⟨t2, k2⟩ := t.put (o := .lst xs) hq
    refine k _ (.f ds) s2 _ _ p t2 k2 ⟨q, _, rfl, .none hq, t.fresh0 (.none hq), t.freshG (.none hq), t.noOwn (.none hq), upd_same, .l p1⟩
theorem e_toList {K' : PySem.W.Frag} (h : wE c te s fun w s1 => ∃ ds, qvOf s1 w = some ds ∧ R (.f ds) s1) (hK : K' = c.K := by rfl) : wE c (tCB (fun xs H Q => ∃ p ys, xs = [V.ref p] ∧ (SqL K' H p ys ∨ SqT K' H p ys) ∧ ∀ l, H l = none → Q (.ref l) (upd H l (.lst ys))) (tCons te tNil)) s R := by
  subst hK
  exact e_toList_0 h
/-- tuple(x) -/
theorem e_toTup_0 (h : wE c te s fun w s1 => ∃ ds, qvOf s1 w = some ds ∧ R (.d (.tup ds)) s1) :
    wE c (tCB (fun xs H Q => ∃ p ys, xs = [V.ref p] ∧ ((SqL c.K H p ys ∧ ∀ l, H l = none → Q (.ref l) (upd H l (.tup ys))) ∨ SqT c.K H p ys ∧ Q (.ref p) H)) (tCons te tNil)) s R :=
  e_cb1 h fun σ G H Hs v w s2 Q t r ⟨ds, e, p⟩ k => by
    have l : ∀ a xs, SqL c.K H a xs → RpAll c.K G xs ds → ∀ l, H l = none → Q (.ref l) (upd H l (.tup xs)) := fun a xs h1 p1 q hq => by
      obtain ⟨t2, k2⟩ := t.lay (o := .tup xs) hq (fun _ z => nomatch z)
      exact k _ (.d (.tup ds)) s2 _ _ p t2 k2 (Rp.tup upd_same (p1.mono k2.g))
    cases w with
    | d d =>
      cases d with
      | tup es =>
        simp only [qvOf, Option.some.injEq] at e
        subst e
        cases (show Rp c.K G v _ from r) with
        | tup h1 p1 => exact ⟨_, _, rfl, .inr ⟨SqT.of (t.gh _ _ h1), k _ (.d (.tup _)) s2 G H p t .refl (Rp.tup h1 p1)⟩⟩
      | _ =>
        obtain ⟨a, xs, rfl, h1, p1⟩ := ls_at t r e
        exact ⟨a, xs, rfl, .inl ⟨SqL.of h1, l a xs (SqL.of h1) p1⟩⟩
    | _ =>
      obtain ⟨a, xs, rfl, h1, p1⟩ := ls_at t r e
      exact ⟨a, xs, rfl, .inl ⟨SqL.of h1, l a xs (SqL.of h1) p1⟩⟩
theorem e_toTup {K' : PySem.W.Frag} (h : wE c te s fun w s1 => ∃ ds, qvOf s1 w = some ds ∧ R (.d (.tup ds)) s1) (hK : K' = c.K := by rfl) :
    wE c (tCB (fun xs H Q => ∃ p ys, xs = [V.ref p] ∧ ((SqL K' H p ys ∧ ∀ l, H l = none → Q (.ref l) (upd H l (.tup ys))) ∨ SqT K' H p ys ∧ Q (.ref p) H)) (tCons te tNil)) s R := by
  subst hK
  exact e_toTup_0 h
end
end Kn
/-! Kn3: statements, targets, loops and comprehensions of the layer without the heap. -/
namespace Kn
open PySem PySem.Spec PyProof.Rows L2 Kg
open Evl (Ex)
structure Pst where
  nx : NS → Prop
  rt : D → NS → Prop
  bk : NS → Prop := fun _ => False
  ct : NS → Prop := fun _ => False
def wS (c : Cfg) (t : TS) (s : NS) (N : Pst) : Prop :=
  ∀ (σ : L2.St) (G H : Hp) (Z : Ends), At c s σ G H → (∀ s' σ' G' H', N.nx s' → At c s' σ' G' H' → Ex G G' → Z.nx σ' H') → (∀ v d s' σ' G' H', N.rt d s' → At c s' σ' G' H' → Rp c.K G' v d → Z.rt v H') →
    (∀ s' σ' G' H', N.bk s' → At c s' σ' G' H' → Ex G G' → Z.bk σ' H') → (∀ s' σ' G' H', N.ct s' → At c s' σ' G' H' → Ex G G' → Z.ct σ' H') → t Z σ H
section
variable {c : Cfg} {s : NS} {N : Pst} {t u : TS} {te : TE} {tt : TT}
theorem s_seq (h : wS c t s { N with nx := fun s1 => wS c u s1 N }) : wS c (tSeq t u) s N := fun σ G H Z a k1 k2 k3 k4 =>
  h σ G H _ a (fun s' σ' G' H' p a' e => p σ' G' H' Z a' (fun s2 σ2 G2 H2 q a2 e2 => k1 s2 σ2 G2 H2 q a2 (e.trans e2)) k2 (fun s2 σ2 G2 H2 q a2 e2 => k3 s2 σ2 G2 H2 q a2 (e.trans e2)) (fun s2 σ2 G2 H2 q a2 e2 => k4 s2 σ2 G2 H2 q a2 (e.trans e2))) k2 k3 k4
theorem s_next (h : N.nx s) : wS c tNext s N := fun σ G H Z a k1 k2 k3 k4 => k1 s σ G H h a fun _ _ z => z
theorem s_break (h : N.bk s) : wS c tBreak s N := fun σ G H Z a k1 k2 k3 k4 => k3 s σ G H h a fun _ _ z => z
theorem s_cont (h : N.ct s) : wS c tCont s N := fun σ G H Z a k1 k2 k3 k4 => k4 s σ G H h a fun _ _ z => z
theorem s_drop (h : wE c te s fun _ s1 => N.nx s1) : wS c (tDrop te) s N := fun σ G H Z a k1 k2 k3 k4 => h σ G H _ a fun v w s' G' H' p a' kp _ => k1 s' σ G' H' p a' kp.g
theorem s_ret (h : wD c te s N.rt) : wS c (tRet te) s N := fun σ G H Z a k1 k2 k3 k4 => h σ G H _ a fun v d s' G' H' p a' _ r => k2 v d s' σ G' H' p a' r
theorem s_retN (h : N.rt .non s) : wS c tRetN s N := fun σ G H Z a k1 k2 k3 k4 => k2 _ _ s σ G H h a .non
theorem s_if (h : wT c tt s fun b s1 => if b = true then wS c t s1 N else wS c u s1 N) : wS c (tIfS tt t u) s N := fun σ G H Z a k1 k2 k3 k4 =>
  h σ G H _ a fun b s1 G1 H1 p a1 kp => by
    have l1 := fun s2 σ2 G2 H2 q a2 e2 => k1 s2 σ2 G2 H2 q a2 (kp.g.trans e2)
    have l3 := fun s2 σ2 G2 H2 q a2 e2 => k3 s2 σ2 G2 H2 q a2 (kp.g.trans e2)
    have l4 := fun s2 σ2 G2 H2 q a2 e2 => k4 s2 σ2 G2 H2 q a2 (kp.g.trans e2)
    cases b with
    | true => exact p σ G1 H1 Z a1 l1 k2 l3 l4
    | false => exact p σ G1 H1 Z a1 l1 k2 l3 l4

/-! ### stores -/
def NS.set (s : NS) (i : Nat) (x : Sl) : NS := { s with γ := s.γ.set i x }
/-- what a slot holds once a view is stored there -/
def slOf : Vw → Option Sl
  | .d d => some (.d d)
  | .fr w => some (.ow w)
  | .ur => some .ur
  | .s _ => none
variable {σ : L2.St} {G H Hs : Hp} {v : V} {w : Vw}
theorem Own.set {i : Nat} {x : Sl} {k : Nat} {a : Addr} (o : Own (s.set i x) (σ.set i (some v)) k a) : (k ≠ i ∧ Own s σ k a) ∨ (k = i ∧ (∃ ds, x = .ow ds) ∧ v = .ref a) := by
  obtain ⟨⟨ds, h1⟩, h2⟩ := o
  by_cases e : k = i
  · subst e
    have h1' : (s.γ.set k x)[k]? = some (.ow ds) := h1
    rw [List.getElem?_set] at h1' h2
    simp only [if_true] at h1' h2
    split at h1'
    · split at h2
      · simp only [Option.some.injEq] at h1' h2
        exact .inr ⟨rfl, ⟨ds, h1'⟩, h2⟩
      · cases h2
    · cases h1'
  · have h1' : (s.γ.set i x)[k]? = some (.ow ds) := h1
    rw [List.getElem?_set_ne (Ne.symm e)] at h1' h2
    exact .inl ⟨e, ⟨ds, h1'⟩, h2⟩
theorem At.store (a : At c s σ G H) (r : VwR c Hs s σ G H v w) {x : Sl} (e : slOf w = some x) (i : Nat) : At c (s.set i x) (σ.set i (some v)) G H := by
  refine ⟨?_, fun k y hy => ?_, fun k l b o1 o2 => ?_, a.gh, a.gt, a.gj, a.hj, a.fr, a.nw, a.g0, fun u => a.ur u, a.tb⟩
  · show (σ.set i _).length = (s.γ.set i x).length
    rw [List.length_set, List.length_set]; exact a.len
  · by_cases z : k = i
    · subst z
      have hy' : (s.γ.set k x)[k]? = some y := hy
      have lt : k < s.γ.length := by
        have := (List.getElem?_eq_some_iff.mp hy').1
        rwa [List.length_set] at this
      rw [List.getElem?_set_self lt] at hy'
      cases hy'
      rw [List.getElem?_set_self (by rw [a.len]; exact lt)]
      cases w with
      | d d => cases e; exact ⟨v, rfl, r⟩
      | ur => cases e; obtain ⟨r1, r2⟩ := r; subst r2; exact ⟨r1, rfl⟩
      | s j => cases e
      | fr ds =>
        cases e
        obtain ⟨p, xs, h1, _, h2, h3, _, h4, h5⟩ := r
        subst h1
        exact ⟨p, xs, rfl, h2, h3, h4, h5⟩
    · have hy' : (s.γ.set i x)[k]? = some y := hy
      rw [List.getElem?_set_ne (Ne.symm z)] at hy'
      rw [List.getElem?_set_ne (Ne.symm z)]
      exact a.sl k y hy'
  · have nf : ∀ k, Own s σ k b → (∃ ds, x = .ow ds) → v = .ref b → False := by
      rintro k o ⟨ds, rfl⟩ rfl
      cases w with
      | d d => cases e
      | ur => cases e
      | s j => cases e
      | fr es =>
        obtain ⟨p, xs, h1, _, _, _, no, _⟩ := r
        cases h1
        exact no k o
    rcases Own.set o1 with ⟨n1, o1⟩ | ⟨e1, w1, v1⟩ <;> rcases Own.set o2 with ⟨n2, o2⟩ | ⟨e2, w2, v2⟩
    · exact a.dis k l b o1 o2
    · exact (nf k o1 w2 v2).elim
    · exact (nf l o2 w1 v1).elim
    · rw [e1, e2]
/-- name = e -/
theorem s_set {i : Nat} (h : wE c te s fun w s1 => ∃ x, slOf w = some x ∧ N.nx (s1.set i x)) : wS c (tAsg te (gName i)) s N := fun σ G H Z a k1 k2 k3 k4 =>
  h σ G H _ a fun v w s' G' H' ⟨x, e, p⟩ a' kp r => k1 _ _ G' H' p (a'.store r e i) kp.g
theorem s_aug {i : Nat} {f : Int → Int → Int} {x : Int} (hi : s.γ[i]? = some (.d (.int x))) (h : wE c te s fun w s1 => I1 w fun y => N.nx (s1.set i (.d (.int (f x y))))) : wS c (tAug i te (ipI f)) s N := fun σ G H Z a k1 k2 k3 k4 => by
  obtain ⟨v, e1, r⟩ := a.sl i _ hi
  cases r
  refine ⟨.int x, e1, h σ G H _ a fun y w s1 G1 H1 p a1 kp r1 => ?_⟩
  obtain ⟨j, e, p⟩ := p
  subst e
  refine ⟨x, j, rfl, int_at r1, ?_⟩
  exact k1 _ _ G1 H1 p (a1.store (Hs := H1) (v := .int (f x j)) (w := .d (.int (f x j))) (Rp.int _) rfl i) kp.g

/-! ### targets -/
def wipeγ (γ : List Sl) : List Nat → List Sl
  | [] => γ
  | v :: vs => (wipeγ γ vs).set v .no
/-- between them only the slots vs were stored -/
structure Wp (vs : Nat → Prop) (s s' : NS) (σ σ' : L2.St) : Prop where
  b : s'.b = s.b
  w : ∀ us : List Nat, (∀ i, vs i → i ∈ us) → wipe σ' us = wipe σ us ∧ wipeγ s'.γ us = wipeγ s.γ us
  o : ∀ i a, Own s' σ' i a → Own s σ i a
/-- d is bound to the target; vs: the slots that are stored -/
def wG (c : Cfg) (g : TG) (vs : Nat → Prop) (d : D) (s : NS) (N : NS → Prop) : Prop :=
  ∀ (σ : L2.St) (G H : Hp) (v : V) (Q : L2.St → Hp → Prop), At c s σ G H → Rp c.K G v d → (∀ σ' s', N s' → At c s' σ' G H → Wp vs s s' σ σ' → Q σ' H) → g v σ H Q
def wGs (c : Cfg) (g : TGs) (vs : Nat → Prop) (ds : List D) (s : NS) (N : NS → Prop) : Prop :=
  ∀ (σ : L2.St) (G H : Hp) (xs : List V) (Q : L2.St → Hp → Prop), At c s σ G H → RpAll c.K G xs ds → (∀ σ' s', N s' → At c s' σ' G H → Wp vs s s' σ σ' → Q σ' H) → g xs σ H Q
theorem wipe_set {i : Nat} {x : Option V} : ∀ {us : List Nat}, i ∈ us → ∀ σ : L2.St, wipe (σ.set i x) us = wipe σ us
  | [], h, _ => by cases h
  | u :: us, h, σ => by
    show (wipe (σ.set i x) us).set u none = (wipe σ us).set u none
    by_cases e : i ∈ us
    · rw [wipe_set e]
    · have e2 : i = u := by rcases List.mem_cons.mp h with h | h; exact h; exact absurd h e
      subst e2
      clear h e
      have com : ∀ us : List Nat, (wipe (σ.set i x) us).set i none = (wipe σ us).set i none := by
        intro us
        induction us with
        | nil => simp [wipe]
        | cons u us ih =>
          show ((wipe (σ.set i x) us).set u none).set i none = ((wipe σ us).set u none).set i none
          by_cases z : u = i
          · subst z; rw [List.set_set, List.set_set, ih]
          · rw [List.set_comm _ _ z, List.set_comm _ _ z, ih]
      exact com us
theorem wipeγ_set {i : Nat} {x : Sl} : ∀ {us : List Nat}, i ∈ us → ∀ σ : List Sl, wipeγ (σ.set i x) us = wipeγ σ us
  | [], h, _ => by cases h
  | u :: us, h, σ => by
    show (wipeγ (σ.set i x) us).set u .no = (wipeγ σ us).set u .no
    by_cases e : i ∈ us
    · rw [wipeγ_set e]
    · have e2 : i = u := by rcases List.mem_cons.mp h with h | h; exact h; exact absurd h e
      subst e2
      clear h e
      have com : ∀ us : List Nat, (wipeγ (σ.set i x) us).set i .no = (wipeγ σ us).set i .no := by
        intro us
        induction us with
        | nil => simp [wipeγ]
        | cons u us ih =>
          show ((wipeγ (σ.set i x) us).set u .no).set i .no = ((wipeγ σ us).set u .no).set i .no
          by_cases z : u = i
          · subst z; rw [List.set_set, List.set_set, ih]
          · rw [List.set_comm _ _ z, List.set_comm _ _ z, ih]
      exact com us
theorem Wp.trans {vs : Nat → Prop} {s1 s2 : NS} {σ1 σ2 : L2.St} (a : Wp vs s s1 σ σ1) (b : Wp vs s1 s2 σ1 σ2) : Wp vs s s2 σ σ2 :=
  ⟨b.1.trans a.1, fun us hu => have x := a.2 us hu; have y := b.2 us hu; ⟨y.1.trans x.1, y.2.trans x.2⟩, fun i z o => a.o i z (b.o i z o)⟩
theorem g_name {d : D} {i : Nat} {vs : Nat → Prop} {P : NS → Prop} (hi : vs i) (h : P (s.set i (.d d))) : wG c (gName i) vs d s P := fun σ G H v Q a r k =>
  k _ _ h (a.store (Hs := H) (w := .d d) r rfl i) ⟨rfl, fun us hu => ⟨wipe_set (hu i hi) σ, wipeγ_set (hu i hi) s.γ⟩, fun j a o => by
    rcases Own.set o with ⟨_, o⟩ | ⟨_, ⟨_, e⟩, _⟩
    · exact o
    · cases e⟩
theorem gs_nil {vs : Nat → Prop} {P : NS → Prop} (h : P s) : wGs c gNil vs [] s P := fun σ G H xs Q a r k => by cases r; exact ⟨rfl, k σ s h a ⟨rfl, fun _ _ => ⟨rfl, rfl⟩, fun _ _ o => o⟩⟩
theorem gs_cons {g : TG} {gs : TGs} {vs : Nat → Prop} {d : D} {ds : List D} {P : NS → Prop} (h : wG c g vs d s fun s1 => wGs c gs vs ds s1 P) : wGs c (gCons g gs) vs (d :: ds) s P := fun σ G H xs Q a r k => by
  cases r with
  | cons r1 r2 =>
    refine ⟨_, _, rfl, h σ G H _ _ a r1 fun σ1 s1 p1 a1 w1 => ?_⟩
    exact p1 σ1 G H _ Q a1 r2 fun σ2 s2 p2 a2 w2 => k σ2 s2 p2 a2 (w1.trans w2)
theorem g_tup_0 {gs : TGs} {vs : Nat → Prop} {ds : List D} {n : Nat} {P : NS → Prop} (hn : ds.length = n) (h : wGs c gs vs ds s P) : wG c (gTup c.K n gs) vs (.tup ds) s P := fun σ G H v Q a r k => by
  cases r with
  | tup h1 h2 => exact ⟨_, _, rfl, SqT.of (a.gh _ _ h1), by rw [h2.len]; exact hn, h σ G H _ Q a h2 k⟩
theorem g_tup {K' : PySem.W.Frag} {gs : TGs} {vs : Nat → Prop} {ds : List D} {n : Nat} {P : NS → Prop} (hn : ds.length = n) (h : wGs c gs vs ds s P) (hK : K' = c.K := by rfl) : wG c (gTup K' n gs) vs (.tup ds) s P := by
  subst hK
  exact g_tup_0 hn h
/-- target = e, data -/
theorem s_asg {g : TG} (h : wD c te s fun d s1 => wG c g (fun _ => True) d s1 N.nx) : wS c (tAsg te g) s N := fun σ G H Z a k1 k2 k3 k4 =>
  h σ G H _ a fun v d s' G' H' p a' kp r => p σ G' H' v _ a' r fun σ2 s2 p2 a2 _ => k1 s2 σ2 G' H' p2 a2 kp.g

/-! ### views in a row -/
/-- their own new lists stand apart -/
def VsR (c : Cfg) (s : NS) (σ : L2.St) (G H : Hp) : Hp → List V → List Vw → Prop
  | _, [], [] => True
  | Hs, v :: vs, w :: ws => VwR c Hs s σ G H v w ∧ ∃ H1 : Hp, (∀ a, Fr c H1 a → Fr c Hs a) ∧ (∀ ds a, w = .fr ds → v = .ref a → ¬ Fr c H1 a) ∧ VsR c s σ G H H1 vs ws
  | _, _, _ => False
def wV (c : Cfg) (t : TA) (s : NS) (R : List Vw → NS → Prop) : Prop :=
  ∀ (σ : L2.St) (G H : Hp) (Q : List V → Hp → Prop), At c s σ G H → (∀ vs ws s' G' H', R ws s' → At c s' σ G' H' → Kp c s σ G H s' G' H' → VsR c s' σ G' H' H vs ws → Q vs H') → t σ H Q
variable {A : List Vw → NS → Prop} {tr : TA}
theorem v_nil (h : A [] s) : wV c tNil s A := fun σ G H Q t k => k [] [] s G H h t .refl trivial
theorem VwR.ge (r : VwR c Hs s σ G H v w) : ∀ ds a, w = .fr ds → v = .ref a → ¬ Fr c H a := by
  rintro ds a rfl rfl
  obtain ⟨p, xs, e, _, _, _, _, h, h2⟩ := r
  cases e
  exact fun z => z.no h h2.cnt
theorem v_cons (h : wE c te s fun w s1 => wV c tr s1 fun ws s2 => A (w :: ws) s2) : wV c (tCons te tr) s A := fun σ G H Q t k =>
  h σ G H _ t fun v w s1 G1 H1 p1 t1 k1 r1 => p1 σ G1 H1 _ t1 fun vs ws s2 G2 H2 p2 t2 k2 r2 => k (v :: vs) (w :: ws) s2 G2 H2 p2 t2 (k1.trans k2) ⟨r1.keep k2 t1, H1, k1.m, r1.ge, r2⟩
/-- another slot is stored: the views stay -/
theorem VwR.other {i : Nat} {x : Sl} {y : V} (r : VwR c Hs s σ G H v w) (nv : ∀ j, w ≠ .s j) (n : ∀ ds, w = .fr ds → v ≠ y) : VwR c Hs (s.set i x) (σ.set i (some y)) G H v w := by
  cases w with
  | d d => exact r
  | ur => exact r
  | s j => exact absurd rfl (nv j)
  | fr ds =>
    obtain ⟨p, xs, e, h1, h2, h3, no, h4, h5⟩ := r
    refine ⟨p, xs, e, h1, h2, h3, fun k o => ?_, h4, h5⟩
    rcases Own.set o with ⟨_, o⟩ | ⟨_, _, z⟩
    · exact no k o
    · exact n ds rfl (e.trans z.symm)
theorem VsR.other {i : Nat} {x : Sl} {y : V} : ∀ {vs : List V} {ws : List Vw} {Hs : Hp}, VsR c s σ G H Hs vs ws → (∀ w ∈ ws, ∀ j, w ≠ .s j) → (∀ b, y = .ref b → (∃ ds, x = .ow ds) → ¬ Fr c Hs b) → (∀ ds, x ≠ .ow ds) ∨ (∃ b, y = .ref b) → VsR c (s.set i x) (σ.set i (some y)) G H Hs vs ws
  | [], [], _, _, _, _, _ => trivial
  | [], _ :: _, _, h, _, _, _ => h.elim
  | _ :: _, [], _, h, _, _, _ => h.elim
  | v :: vs, w :: ws, Hs, ⟨r, H1, m, g, t⟩, nv, hy, ob => by
    refine ⟨?_, H1, m, g, VsR.other t (fun w h => nv w (List.mem_cons_of_mem _ h)) (fun b e z f => hy b e z (m b f)) ob⟩
    cases w with
    | d d => exact r
    | ur => exact r
    | s j => exact absurd rfl (nv _ List.mem_cons_self j)
    | fr ds =>
      obtain ⟨p, xs, e, h1, h2, h3, no, h4, h5⟩ := r
      refine ⟨p, xs, e, h1, h2, h3, fun k o => ?_, h4, h5⟩
      rcases Own.set o with ⟨_, o⟩ | ⟨_, z1, z⟩
      · exact no k o
      · exact hy p z z1 h1
/-- all are stored, one after another -/
def storeAll : NS → List Nat → List Vw → Option NS
  | s, [], [] => some s
  | s, i :: is, w :: ws => (slOf w).bind fun x => storeAll (s.set i x) is ws
  | _, _, _ => none
theorem slOf_ns : ∀ {ws : List Vw} {is : List Nat} {s s' : NS}, storeAll s is ws = some s' → ∀ w ∈ ws, ∀ j, w ≠ .s j
  | w :: ws, i :: is, s, s', h, u, hu, j => by
    unfold storeAll at h
    rcases List.mem_cons.mp hu with rfl | hu
    · rintro rfl; cases h
    · cases e : slOf w with
      | none => rw [e] at h; cases h
      | some x => rw [e] at h; exact slOf_ns h u hu j
inductive GN : TGs → List Nat → Prop
  | nil : GN gNil []
  | cons {i : Nat} {gs : TGs} {is : List Nat} : GN gs is → GN (gCons (gName i) gs) (i :: is)
theorem gn_store : ∀ {gs : TGs} {is : List Nat}, GN gs is → ∀ {s s' : NS} {σ : L2.St} {vs : List V} {ws : List Vw} {Hs : Hp} {Q : L2.St → Hp → Prop}, At c s σ G H → VsR c s σ G H Hs vs ws → storeAll s is ws = some s' → (∀ σ', At c s' σ' G H → Q σ' H) → gs vs σ H Q
  | _, _, .nil, s, s', σ, vs, ws, Hs, Q, a, r, e, k => by
    cases ws with
    | cons _ _ => cases e
    | nil =>
      cases vs with
      | cons _ _ => exact r.elim
      | nil => cases e; exact ⟨rfl, k σ a⟩
  | _, _, .cons (i := i) g, s, s', σ, vs, ws, Hs, Q, a, r, e, k => by
    cases ws with
    | nil => cases e
    | cons w ws =>
      cases vs with
      | nil => exact r.elim
      | cons v vs =>
        obtain ⟨r1, H1, m, ge, r2⟩ := r
        have ns := slOf_ns e
        unfold storeAll at e
        cases q : slOf w with
        | none => rw [q] at e; cases e
        | some x =>
          rw [q] at e
          refine ⟨v, vs, rfl, gn_store g (a.store r1 q i) (r2.other (fun w h => ns w (List.mem_cons_of_mem _ h)) ?_ ?_) e k⟩
          · rintro b rfl ⟨ds, rfl⟩
            cases w with
            | fr es => exact ge es b rfl rfl
            | d d => cases q
            | ur => cases q
            | s j => cases q
          · cases w with
            | fr es => obtain ⟨p, _, e, _⟩ := r1; exact .inr ⟨p, e⟩
            | d d => cases q; exact .inl fun _ z => nomatch z
            | ur => cases q; exact .inl fun _ z => nomatch z
            | s j => cases q
theorem VsR.len : ∀ {vs : List V} {ws : List Vw} {Hs : Hp}, VsR c s σ G H Hs vs ws → vs.length = ws.length
  | [], [], _, _ => rfl
  | [], _ :: _, _, h => h.elim
  | _ :: _, [], _, h => h.elim
  | _ :: vs, _ :: ws, _, ⟨_, _, _, _, t⟩ => by simp [VsR.len t]
theorem VsR.put {p : Addr} {o : HO} (hp : H p = none) : ∀ {vs : List V} {ws : List Vw} {Hs : Hp}, VsR c s σ G H Hs vs ws → VsR c s σ G (upd H p o) Hs vs ws
  | [], [], _, _ => trivial
  | [], _ :: _, _, h => h.elim
  | _ :: _, [], _, h => h.elim
  | v :: vs, w :: ws, Hs, ⟨r, H1, m, g, t⟩ => by
    refine ⟨?_, H1, m, g, VsR.put hp t⟩
    cases w with
    | d d => exact r
    | ur => exact r
    | s j => exact r
    | fr ds =>
      obtain ⟨q, xs, e, h1, h2, h3, no, h4, h5⟩ := r
      exact ⟨q, xs, e, h1, h2, h3, no, (upd_ne (by rintro rfl; rw [hp] at h4; cases h4)).trans h4, h5⟩
/-- names = a tuple that is written -/
theorem s_asgV_0 {gs : TGs} {is : List Nat} {n : Nat} (g : GN gs is) (hn : is.length = n) (h : wV c tr s fun ws s1 => ∃ s2, storeAll s1 is ws = some s2 ∧ is.length ≤ 1000 ∧ N.nx s2) : wS c (tAsg (tTup tr) (gTup c.K n gs)) s N := fun σ G H Z a k1 k2 k3 k4 =>
  h σ G H _ a fun vs ws s1 G1 H1 ⟨s2, e, hz, p⟩ a1 kp r => by
    have lw : ∀ {is : List Nat} {ws : List Vw} {s s2 : NS}, storeAll s is ws = some s2 → ws.length = is.length := by
      intro is
      induction is with
      | nil => intro ws s s2 e; cases ws with | nil => rfl | cons _ _ => cases e
      | cons i is ih =>
        intro ws s s2 e
        cases ws with
        | nil => cases e
        | cons w ws =>
          unfold storeAll at e
          cases q : slOf w with
          | none => rw [q] at e; cases e
          | some x => rw [q] at e; simp [ih e]
    have small : sizeLine = 16777216 := sizeLine_eq
    have l1 := lw e
    have l2 := r.len
    refine ⟨by omega, fun q hq => ⟨q, vs, rfl, SqT.of upd_same, by omega, ?_⟩⟩
    obtain ⟨a2, k2⟩ := a1.put (o := .tup vs) hq
    exact gn_store g a2 (r.put hq) e fun σ' a3 => k1 s2 σ' _ _ p a3 (kp.g.trans k2.g)
theorem s_asgV {K' : PySem.W.Frag} {gs : TGs} {is : List Nat} {n : Nat} (g : GN gs is) (hn : is.length = n) (h : wV c tr s fun ws s1 => ∃ s2, storeAll s1 is ws = some s2 ∧ is.length ≤ 1000 ∧ N.nx s2) (hK : K' = c.K := by rfl) : wS c (tAsg (tTup tr) (gTup K' n gs)) s N := by
  subst hK
  exact s_asgV_0 g hn h
theorem s_par {i j : Nat} (h : wV c tr s fun ws s1 => ∃ s2, storeAll s1 [i, j] ws = some s2 ∧ N.nx s2) : wS c (tPar i j tr) s N := fun σ G H Z a k1 k2 k3 k4 =>
  h σ G H _ a fun vs ws s1 G1 H1 ⟨s2, e, p⟩ a1 kp r => by
    have z : ∃ v r, vs = v :: r ∧ ∃ v2 r2, r = v2 :: r2 ∧ r2 = [] ∧ Z.nx ((σ.set i (some v)).set j (some v2)) H1 := gn_store (Q := fun σ' H' => Z.nx σ' H') (.cons (i := i) (.cons (i := j) .nil)) a1 r e fun σ' a3 => k1 s2 σ' _ _ p a3 kp.g
    obtain ⟨v, r', rfl, v2, r2, rfl, rfl, z⟩ := z
    exact ⟨v, v2, rfl, z⟩

theorem s_par3 {i j l : Nat} (h : wV c tr s fun ws s1 => ∃ s2, storeAll s1 [i, j, l] ws = some s2 ∧ N.nx s2) : wS c (tPar3 i j l tr) s N := fun σ G H Z a k1 k2 k3 k4 =>
  h σ G H _ a fun vs ws s1 G1 H1 ⟨s2, e, p⟩ a1 kp r => by
    have z : ∃ v r, vs = v :: r ∧ ∃ v2 r2, r = v2 :: r2 ∧ ∃ v3 r3, r2 = v3 :: r3 ∧ r3 = [] ∧ Z.nx (((σ.set i (some v)).set j (some v2)).set l (some v3)) H1 := gn_store (Q := fun σ' H' => Z.nx σ' H') (.cons (i := i) (.cons (i := j) (.cons (i := l) .nil))) a1 r e fun σ' a3 => k1 s2 σ' _ _ p a3 kp.g
    obtain ⟨v, r', rfl, v2, r2, rfl, v3, r3, rfl, rfl, z⟩ := z
    exact ⟨v, v2, v3, rfl, z⟩

/-! ### what is walked -/
/-- J goes along ds, whatever comes between -/
def Walks (c : Cfg) (J : It) (ds : List D) (G0 : Hp) : Prop :=
  ∀ (i : Nat) (s2 : NS) (σ2 : L2.St) (G H : Hp), Ex G0 G → At c s2 σ2 G H → (ds.length ≤ i → J.stop i H) ∧ (i < ds.length → J.go i H) ∧
    ∀ x H', J.yld i H x H' → i < ds.length → ∃ d G', ds[i]? = some d ∧ At c s2 σ2 G' H' ∧ Kp c s2 σ2 G H s2 G' H' ∧ Rp c.K G' x d
def wI (c : Cfg) (wi : TI) (s : NS) (R : List D → NS → Prop) : Prop :=
  ∀ (σ : L2.St) (G H : Hp) (Q : It → Hp → Prop), At c s σ G H → (∀ J ds s' G' H', R ds s' → At c s' σ G' H' → Kp c s σ G H s' G' H' → Walks c J ds G' → Q J H') → wi σ H Q
variable {I : List D → NS → Prop} {wi wi' : TI}
theorem walks_list {a : Addr} {xs : List V} {ds : List D} (h : G a = some (.lst xs)) (r : RpAll c.K G xs ds) : Walks c (Itl c.K a) ds G := by
  intro i s2 σ2 G2 H2 e t
  have h2 : SqL c.K H2 a xs := SqL.of (t.gh _ _ (e _ _ h))
  have r2 := r.mono e
  refine ⟨fun hl => ⟨xs, h2, by rw [r.len]; exact hl⟩, fun hl => ⟨xs, xs[i]'(by rw [r.len]; exact hl), h2, by simp⟩, fun x H' y hl => ?_⟩
  obtain ⟨rfl, y⟩ := y
  obtain ⟨d, h3, h4⟩ := r2.at (y xs h2)
  exact ⟨d, G2, h3, t, .refl, h4⟩
theorem walks_tup {a : Addr} {xs : List V} {ds : List D} (h : SqT c.K G a xs) (r : RpAll c.K G xs ds) : Walks c (Itt c.K a) ds G := by
  intro i s2 σ2 G2 H2 e t
  have h2 : SqT c.K H2 a xs := Evl.ex_t t.gh (Evl.ex_t e h)
  have r2 := r.mono e
  refine ⟨fun hl => ⟨xs, h2, by rw [r.len]; exact hl⟩, fun hl => ⟨xs, xs[i]'(by rw [r.len]; exact hl), h2, by simp⟩, fun x H' y hl => ?_⟩
  obtain ⟨rfl, y⟩ := y
  obtain ⟨d, h3, h4⟩ := r2.at (y xs h2)
  exact ⟨d, G2, h3, t, .refl, h4⟩
theorem i_list_0 (h : wD c te s fun d s1 => ∃ ds, d = .lst ds ∧ I ds s1) : wI c (iList c.K te) s I := fun σ G H Q t k =>
  h σ G H _ t fun v d s1 G1 H1 ⟨ds, e, p⟩ t1 k1 r1 => by
    subst e
    cases r1 with
    | lst h1 h2 => exact ⟨_, rfl, ⟨_, SqL.of (t1.gh _ _ h1)⟩, k _ ds s1 G1 H1 p t1 k1 (walks_list h1 h2)⟩
theorem i_list {K' : PySem.W.Frag} (h : wD c te s fun d s1 => ∃ ds, d = .lst ds ∧ I ds s1) (hK : K' = c.K := by rfl) : wI c (iList K' te) s I := by
  subst hK
  exact i_list_0 h
theorem i_tup_0 (h : wD c te s fun d s1 => ∃ ds, d = .tup ds ∧ I ds s1) : wI c (iTup c.K te) s I := fun σ G H Q t k =>
  h σ G H _ t fun v d s1 G1 H1 ⟨ds, e, p⟩ t1 k1 r1 => by
    subst e
    cases r1 with
    | tup h1 h2 => exact ⟨_, rfl, ⟨_, SqT.of (t1.gh _ _ h1)⟩, k _ ds s1 G1 H1 p t1 k1 (walks_tup (SqT.of h1) h2)⟩
theorem i_tup {K' : PySem.W.Frag} (h : wD c te s fun d s1 => ∃ ds, d = .tup ds ∧ I ds s1) (hK : K' = c.K := by rfl) : wI c (iTup K' te) s I := by
  subst hK
  exact i_tup_0 h
theorem i_or1 (h : wI c wi s I) : wI c (fun σ H R => wi σ H R ∨ wi' σ H R) s I := fun σ G H Q t k => .inl (h σ G H Q t k)
theorem i_or2 (h : wI c wi' s I) : wI c (fun σ H R => wi σ H R ∨ wi' σ H R) s I := fun σ G H Q t k => .inr (h σ G H Q t k)
theorem walks_range {lo : Int} {n : Nat} : Walks c (Itr lo n) ((List.range n).map fun i => D.int (lo + (i : Nat))) G := by
  intro i s2 σ2 G2 H2 e t
  rw [List.length_map, List.length_range]
  refine ⟨fun h => h, fun h => h, fun x H' y hl => ?_⟩
  obtain ⟨rfl, rfl⟩ := y
  exact ⟨_, G2, by rw [List.getElem?_map, List.getElem?_range hl]; rfl, t, .refl, Rp.int _⟩
def rangeD (lo : Int) (n : Nat) : List D := (List.range n).map fun i => D.int (lo + (i : Nat))
theorem rangeD_get {lo : Int} {n i : Nat} {d : D} (h : (rangeD lo n)[i]? = some d) : i < n ∧ d = .int (lo + (i : Nat)) := by
  unfold rangeD at h
  rw [List.getElem?_map] at h
  obtain ⟨k, h1, rfl⟩ := Option.map_eq_some_iff.mp h
  obtain ⟨l, e⟩ := List.getElem?_eq_some_iff.mp h1
  rw [List.getElem_range] at e
  subst e
  exact ⟨by simpa using l, rfl⟩
theorem rangeD_len {lo : Int} {n : Nat} : (rangeD lo n).length = n := by simp [rangeD]
theorem i_rng1 (h : wA c tr s fun ds s1 => ∃ j, ds = [.int j] ∧ -(2 ^ 62) ≤ j ∧ j < 2 ^ 62 ∧ I (rangeD 0 j.toNat) s1) : wI c (iRng1 tr) s I := fun σ G H Q t k =>
  h σ G H _ t fun vs ds s1 G1 H1 ⟨j, e, h1, h2, p⟩ t1 k1 r1 => by
    subst e
    cases r1 with
    | cons r r' =>
      cases r
      cases r'
      exact ⟨j, rfl, h1, h2, k _ _ s1 G1 H1 p t1 k1 walks_range⟩
theorem i_rng2 (h : wA c tr s fun ds s1 => ∃ i j, ds = [.int i, .int j] ∧ (-(2 ^ 62) ≤ i ∧ i < 2 ^ 62 ∧ -(2 ^ 62) ≤ j ∧ j < 2 ^ 62) ∧ I (rangeD i (j - i).toNat) s1) : wI c (iRng2 tr) s I := fun σ G H Q t k =>
  h σ G H _ t fun vs ds s1 G1 H1 ⟨i, j, e, h1, p⟩ t1 k1 r1 => by
    subst e
    cases r1 with
    | cons r r' =>
      cases r
      cases r' with
      | cons r r' =>
        cases r
        cases r'
        exact ⟨i, j, rfl, h1, k _ _ s1 G1 H1 p t1 k1 walks_range⟩
def enumD (ds : List D) : List D := ds.zipIdx.map fun p => D.tup [.int (p.2 : Nat), p.1]
theorem walks_enum {a : Addr} {xs : List V} {ds : List D} (h : G a = some (.lst xs)) (r : RpAll c.K G xs ds) : Walks c (Ite c.K a) (enumD ds) G := by
  intro i s2 σ2 G2 H2 e t
  have h2 : SqL c.K H2 a xs := SqL.of (t.gh _ _ (e _ _ h))
  have r2 := r.mono e
  have ll : (enumD ds).length = ds.length := by simp [enumD]
  rw [ll]
  refine ⟨fun hl => ⟨xs, h2, by rw [r.len]; exact hl⟩, fun hl => ⟨xs, xs[i]'(by rw [r.len]; exact hl), h2, by simp⟩, fun x H' y hl => ?_⟩
  obtain ⟨T, z, rfl, hT, rfl, y⟩ := y
  obtain ⟨d, h3, h4⟩ := r2.at (y xs h2)
  obtain ⟨t2, k2⟩ := t.lay (o := .tup [.int (i : Nat), z]) hT (fun _ z => nomatch z)
  refine ⟨.tup [.int (i : Nat), d], _, ?_, t2, k2, Rp.tup upd_same (.cons (Rp.int _) (.cons (h4.mono k2.g) .nil))⟩
  simp [enumD, List.getElem?_map, List.getElem?_zipIdx, h3]
theorem i_enum_0 (h : wA c tr s fun es s1 => ∃ ds, es = [.lst ds] ∧ I (enumD ds) s1) : wI c (iEnum c.K tr) s I := fun σ G H Q t k =>
  h σ G H _ t fun vs es s1 G1 H1 ⟨ds, e, p⟩ t1 k1 r1 => by
    subst e
    cases r1 with
    | cons r r' =>
      cases r'
      cases r with
      | lst h1 h2 => exact ⟨_, _, rfl, SqL.of (t1.gh _ _ h1), k _ _ s1 G1 H1 p t1 k1 (walks_enum h1 h2)⟩

theorem i_enum {K' : PySem.W.Frag} (h : wA c tr s fun es s1 => ∃ ds, es = [.lst ds] ∧ I (enumD ds) s1) (hK : K' = c.K := by rfl) : wI c (iEnum K' tr) s I := by
  subst hK
  exact i_enum_0 h
/-! ### loops -/
/-- so it is, maybe once an own list is shown -/
def Ent (J : NS → Prop) (s : NS) : Prop := J s ∨ ∃ i ds, s.γ[i]? = some (.own ds) ∧ J (unown s i ds)
theorem Walks.up {J : It} {ds : List D} {G0 G1 : Hp} (w : Walks c J ds G0) (e : Ex G0 G1) : Walks c J ds G1 := fun i s2 σ2 G H x a => w i s2 σ2 G H (e.trans x) a
theorem Ent.at {J : NS → Prop} (h : Ent J s) (a : At c s σ G H) : ∃ s' G', J s' ∧ At c s' σ G' H ∧ Ex G G' := by
  rcases h with h | ⟨i, ds, hi, h⟩
  · exact ⟨s, G, h, a, fun _ _ z => z⟩
  · obtain ⟨b, xs, hs, h0, ga, hb, r⟩ := a.slL hi
    obtain ⟨a2, k2⟩ := a.unown hi hs h0 ga hb r
    exact ⟨_, _, h, a2, k2.g⟩
/-- for: I is the invariant, by the turn -/
theorem s_for {g : TG} {tb : TS} (h : wI c wi s fun ds s1 => ∃ J : Nat → NS → Prop, Ent (J 0) s1 ∧
      (∀ i d s2, ds[i]? = some d → J i s2 → wG c g (fun _ => True) d s2 fun s3 => wS c tb s3 { N with nx := J (i + 1), ct := J (i + 1), bk := N.nx }) ∧ ∀ s2, J ds.length s2 → N.nx s2) : wS c (tFor wi g tb) s N := fun σ G H Z a k1 k2 k3 k4 =>
  h σ G H _ a fun J ds s0 G0 H1 ⟨P, p0, step, fin⟩ a0 kp0 wk0 => by
    obtain ⟨s1, G1, p0, a1, e01⟩ := p0.at a0
    have wk := wk0.up e01
    have kpg : Ex G G1 := kp0.g.trans e01
    refine ⟨fun i m σ' H' => m = ds.length - i ∧ i ≤ ds.length ∧ ∃ s' G', P i s' ∧ At c s' σ' G' H' ∧ Ex G1 G', ⟨ds.length, by simp, Nat.zero_le _, s1, G1, p0, a1, fun _ _ z => z⟩, ?_⟩
    rintro i m σ2 H2 ⟨rfl, hi, s2, G2, p2, a2, e2⟩
    obtain ⟨w1, w2, w3⟩ := wk i s2 σ2 G2 H2 e2 a2
    by_cases lt : i < ds.length
    · refine .inr ⟨w2 lt, fun σ' H' => ∃ s' G', P (i + 1) s' ∧ At c s' σ' G' H' ∧ Ex G1 G', ?_, fun x H3 y => ?_⟩
      · rintro σ' H' ⟨s', G', p', a', e'⟩
        exact ⟨ds.length - (i + 1), by omega, rfl, lt, s', G', p', a', e'⟩
      · obtain ⟨d, G3, hd, a3, k3', r3⟩ := w3 x H3 y lt
        refine step i d s2 hd p2 σ2 G3 H3 x _ a3 r3 fun σ4 s4 p4 a4 _ => ?_
        have e3 := e2.trans k3'.g
        exact p4 σ4 G3 H3 _ a4 (fun s' σ' G' H' q a' e => ⟨s', G', q, a', e3.trans e⟩) k2 (fun s' σ' G' H' q a' e => k1 s' σ' G' H' q a' (kpg.trans (e3.trans e))) (fun s' σ' G' H' q a' e => ⟨s', G', q, a', e3.trans e⟩)
    · have e : i = ds.length := by omega
      subst e
      exact .inl ⟨w1 (Nat.le_refl _), k1 s2 σ2 G2 H2 (fin s2 p2) a2 (kpg.trans e2)⟩
theorem s_while {tb : TS} (W : Nat → NS → Prop) (m0 : Nat) (h0 : W m0 s)
    (h : ∀ m s1, W m s1 → wT c tt s1 fun b s2 => if b = true then wS c tb s2 { N with nx := fun s3 => ∃ m', m' < m ∧ W m' s3, ct := fun s3 => ∃ m', m' < m ∧ W m' s3, bk := N.nx } else N.nx s2) : wS c (tWhile tt tb) s N := fun σ G H Z a k1 k2 k3 k4 => by
  refine ⟨fun m σ' H' => ∃ s' G', W m s' ∧ At c s' σ' G' H' ∧ Ex G G', ⟨m0, s, G, h0, a, fun _ _ z => z⟩, ?_⟩
  rintro m σ2 H2 ⟨s2, G2, w2, a2, e2⟩
  refine h m s2 w2 σ2 G2 H2 _ a2 fun b s3 G3 H3 p a3 kp => ?_
  have e3 := e2.trans kp.g
  cases b with
  | false =>
    rw [if_neg Bool.false_ne_true] at p ⊢
    exact k1 s3 σ2 G3 H3 p a3 e3
  | true =>
    rw [if_pos rfl] at p ⊢
    refine ⟨fun σ' H' => ∃ m', m' < m ∧ ∃ s' G', W m' s' ∧ At c s' σ' G' H' ∧ Ex G G', ?_, ?_⟩
    · rintro σ' H' ⟨m', hm, q⟩
      exact ⟨m', hm, q⟩
    · exact p σ2 G3 H3 _ a3 (fun s' σ' G' H' ⟨m', hm, q⟩ a' e => ⟨m', hm, s', G', q, a', e3.trans e⟩) k2 (fun s' σ' G' H' q a' e => k1 s' σ' G' H' q a' (e3.trans e)) (fun s' σ' G' H' ⟨m', hm, q⟩ a' e => ⟨m', hm, s', G', q, a', e3.trans e⟩)

/-! ### comprehensions -/
def NS.wipe (s : NS) (vs : List Nat) : NS := { s with γ := wipeγ s.γ vs }
theorem wipe_get : ∀ {vs : List Nat} {σ : L2.St} {i : Nat} {x : Option V}, (wipe σ vs)[i]? = some x → (i ∈ vs ∧ x = none) ∨ (i ∉ vs ∧ σ[i]? = some x)
  | [], σ, i, x, h => .inr ⟨by simp, h⟩
  | v :: vs, σ, i, x, h => by
    have h' : ((wipe σ vs).set v none)[i]? = some x := h
    by_cases e : i = v
    · subst e
      rw [List.getElem?_set] at h'
      simp only [if_true] at h'
      split at h'
      · exact .inl ⟨by simp, by simpa using h'.symm⟩
      · cases h'
    · rw [List.getElem?_set_ne (Ne.symm e)] at h'
      rcases wipe_get h' with ⟨h1, h2⟩ | ⟨h1, h2⟩
      · exact .inl ⟨List.mem_cons_of_mem _ h1, h2⟩
      · exact .inr ⟨by simp [e, h1], h2⟩
theorem wipeγ_get : ∀ {vs : List Nat} {σ : List Sl} {i : Nat} {x : Sl}, (wipeγ σ vs)[i]? = some x → (i ∈ vs ∧ x = .no) ∨ (i ∉ vs ∧ σ[i]? = some x)
  | [], σ, i, x, h => .inr ⟨by simp, h⟩
  | v :: vs, σ, i, x, h => by
    have h' : ((wipeγ σ vs).set v .no)[i]? = some x := h
    by_cases e : i = v
    · subst e
      rw [List.getElem?_set] at h'
      simp only [if_true] at h'
      split at h'
      · exact .inl ⟨by simp, by simpa using h'.symm⟩
      · cases h'
    · rw [List.getElem?_set_ne (Ne.symm e)] at h'
      rcases wipeγ_get h' with ⟨h1, h2⟩ | ⟨h1, h2⟩
      · exact .inl ⟨List.mem_cons_of_mem _ h1, h2⟩
      · exact .inr ⟨by simp [e, h1], h2⟩
theorem wipe_not : ∀ {vs : List Nat} {σ : L2.St} {i : Nat}, i ∉ vs → (wipe σ vs)[i]? = σ[i]?
  | [], _, _, _ => rfl
  | v :: vs, σ, i, h => by
    show ((wipe σ vs).set v none)[i]? = _
    rw [List.getElem?_set_ne (by rintro rfl; simp at h), wipe_not (by simp at h; exact h.2)]
theorem wipeγ_not : ∀ {vs : List Nat} {σ : List Sl} {i : Nat}, i ∉ vs → (wipeγ σ vs)[i]? = σ[i]?
  | [], _, _, _ => rfl
  | v :: vs, σ, i, h => by
    show ((wipeγ σ vs).set v .no)[i]? = _
    rw [List.getElem?_set_ne (by rintro rfl; simp at h), wipeγ_not (by simp at h; exact h.2)]
theorem wipeγ_len : ∀ {vs : List Nat} {σ : List Sl}, (wipeγ σ vs).length = σ.length
  | [], _ => rfl
  | v :: vs, σ => by show ((wipeγ σ vs).set v .no).length = _; rw [List.length_set, wipeγ_len]
theorem Own.wipe {vs : List Nat} {i : Nat} {a : Addr} (o : Own (s.wipe vs) (L2.wipe σ vs) i a) : Own s σ i a ∧ i ∉ vs := by
  obtain ⟨⟨ds, h1⟩, h2⟩ := o
  rcases wipeγ_get (show (wipeγ s.γ vs)[i]? = some _ from h1) with ⟨_, h⟩ | ⟨n, h⟩
  · cases h
  · rw [wipe_not n] at h2
    exact ⟨⟨⟨ds, h⟩, h2⟩, n⟩
theorem At.wipe (t : At c s σ G H) (vs : List Nat) : At c (s.wipe vs) (L2.wipe σ vs) G H := by
  refine ⟨?_, fun i x hx => ?_, fun i k a o1 o2 => t.dis i k a (Own.wipe o1).1 (Own.wipe o2).1, t.gh, t.gt, t.gj, t.hj, t.fr, t.nw, t.g0, fun u => t.ur u, t.tb⟩
  · show (L2.wipe σ vs).length = (wipeγ s.γ vs).length
    rw [wipe_length, wipeγ_len]; exact t.len
  · rcases wipeγ_get (show (wipeγ s.γ vs)[i]? = some _ from hx) with ⟨_, rfl⟩ | ⟨n, h⟩
    · trivial
    · rw [wipe_not n]; exact t.sl i x h
/-- behind a block: the slots as they were -/
theorem At.unwipe {vs : List Nat} {G' H' : Hp} {b : Nat} (t : At c s σ G H) (t' : At c ⟨wipeγ s.γ vs, b⟩ (L2.wipe σ vs) G' H') (k : Kp c (s.wipe vs) (L2.wipe σ vs) G H ⟨wipeγ s.γ vs, b⟩ G' H') :
    At c ⟨s.γ, b⟩ σ G' H' ∧ Kp c s σ G H ⟨s.γ, b⟩ G' H' := by
  refine ⟨⟨t.len, fun i x hx => ?_, fun i k a o1 o2 => t.dis i k a o1 o2, t'.gh, t'.gt, t'.gj, t.hj, t'.fr, t'.nw, t'.g0, t'.ur, t'.tb⟩, ⟨k.g, fun a o h w u n => k.h a o h w u fun i z => n i (Own.wipe z).1, fun a h => ?_, fun i a o => o, k.m, fun a xs h => (k.t a xs h).imp id fun ⟨i, z⟩ => ⟨i, (Own.wipe z).1⟩⟩⟩
  · by_cases z : ∃ ds, x = .ow ds
    · obtain ⟨ds, rfl⟩ := z
      obtain ⟨a, xs, h1, h2, h3, h4, h5⟩ := t.sl i _ hx
      by_cases m : i ∈ vs
      · have no : ∀ j, ¬ Own (s.wipe vs) (L2.wipe σ vs) j a := fun j o => by
          obtain ⟨o', n⟩ := Own.wipe o
          exact n ((t.dis j i a o' ⟨⟨ds, hx⟩, h1⟩) ▸ m)
        refine ⟨a, xs, h1, h2, ?_, k.h a _ h4 h5.cnt (t.notU h2) no, h5.mono k.g⟩
        cases q : G' a with
        | none => rfl
        | some o =>
          rcases k.n a (by rw [q]; exact fun z => nomatch z) with z | z | ⟨j, z⟩
          · exact absurd h3 z
          · exact (h5.noW h4 z).elim
          · exact absurd z (no j)
      · have := t'.sl i (.ow ds) (show (wipeγ s.γ vs)[i]? = _ by rw [wipeγ_not m]; exact hx)
        rw [wipe_not m] at this
        exact this
    · cases x with
      | no => trivial
      | d d => obtain ⟨v, h1, h2⟩ := t.sl i _ hx; exact ⟨v, h1, h2.mono k.g⟩
      | ur => exact t.sl i _ hx
      | ow ds => exact absurd ⟨ds, rfl⟩ z
  · rcases k.n a h with z | z | ⟨i, z⟩
    · exact .inl z
    · exact .inr (.inl z)
    · exact .inr (.inr ⟨i, (Own.wipe z).1⟩)
theorem wipe_idem : ∀ {vs : List Nat} {σ : L2.St}, wipe (wipe σ vs) vs = wipe σ vs := by
  intro vs σ
  refine List.ext_getElem? fun i => ?_
  by_cases e : i ∈ vs
  · have l : ∀ τ : L2.St, (wipe τ vs)[i]? = if i < τ.length then some none else none := by
      intro τ
      by_cases h : i < τ.length
      · rw [if_pos h]
        have h2 : i < (wipe τ vs).length := by rw [wipe_length]; exact h
        rcases wipe_get (List.getElem?_eq_getElem h2) with ⟨_, h3⟩ | ⟨n, _⟩
        · rw [List.getElem?_eq_getElem h2, h3]
        · exact absurd e n
      · rw [if_neg h, List.getElem?_eq_none]; rw [wipe_length]; omega
    rw [l, l, wipe_length]
  · rw [wipe_not e]
theorem wipeγ_idem : ∀ {vs : List Nat} {σ : List Sl}, wipeγ (wipeγ σ vs) vs = wipeγ σ vs := by
  intro vs σ
  refine List.ext_getElem? fun i => ?_
  by_cases e : i ∈ vs
  · have l : ∀ τ : List Sl, (wipeγ τ vs)[i]? = if i < τ.length then some .no else none := by
      intro τ
      by_cases h : i < τ.length
      · rw [if_pos h]
        have h2 : i < (wipeγ τ vs).length := by rw [wipeγ_len]; exact h
        rcases wipeγ_get (List.getElem?_eq_getElem h2) with ⟨_, h3⟩ | ⟨n, _⟩
        · rw [List.getElem?_eq_getElem h2, h3]
        · exact absurd e n
      · rw [if_neg h, List.getElem?_eq_none]; rw [wipeγ_len]; omega
    rw [l, l, wipeγ_len]
  · rw [wipeγ_not e]
theorem Kp.cast {s4 s5 s' : NS} {σ4 : L2.St} {G' H' : Hp} (k : Kp c s4 σ4 G H s5 G' H') (f : ∀ i a, Own s4 σ4 i a → Own s σ i a) (f' : ∀ i a, Own s' σ i a → Own s σ i a) : Kp c s σ G H s' G' H' :=
  ⟨k.g, fun a o h w u n => k.h a o h w u fun i z => n i (f i a z), fun a h => (k.n a h).imp id fun h => h.imp id fun ⟨i, h⟩ => ⟨i, f i a h⟩, f', k.m, fun a xs h => (k.t a xs h).imp id fun ⟨i, h⟩ => ⟨i, f i a h⟩⟩
/-- a thing that is neither data nor the frame's own -/
theorem Kp.thing {s' : NS} {G' H' : Hp} (k : Kp c s σ G H s' G' H') {L : Addr} {xs : List V} (u : ¬ c.isU L) (n : ∀ i, ¬ Own s σ i L) (g : G L = none) (h : H L = some (.lst xs)) : G' L = none ∧ H' L = some (.lst xs) := by
  refine ⟨?_, k.h L _ h ntl u n⟩
  cases q : G' L with
  | none => rfl
  | some o' =>
    rcases k.n L (by rw [q]; exact fun z => nomatch z) with z | z | ⟨i, z⟩
    · exact absurd g z
    · rcases z with z | ⟨ys, z⟩
      · exact (z.no h ntl).elim
      · rw [h] at z; cases z
    · exact absurd z (n i)
theorem At.mut (t : At c s σ G H) {L : Addr} {o : HO} (h0 : Fr c c.H0 L) (n : ∀ i, ¬ Own s σ i L) (g : G L = none) (nk : ∀ o, H L = some o → ¬ Kpy o) : At c s σ G (upd H L o) := by
  have nu := t.notU h0
  refine ⟨t.len, fun i x hx => ?_, t.dis, fun a x h => ?_, t.gt, t.gj, t.hj, fun a x h w u => ?_, t.nw, t.g0, fun u => ?_, c.tbm _ _ (fun a x h k => (upd_ne (by rintro rfl; exact nk x h k)).trans h) t.tb⟩
  · refine SlR.up (fun _ _ z => z) (fun _ h => .inl h) (fun a xs e ⟨ds, w⟩ _ h => ?_) (t.sl i x hx)
    subst w
    exact (upd_ne (by rintro rfl; exact n i ⟨⟨ds, hx⟩, e⟩)).trans h
  · exact (upd_ne (by rintro rfl; rw [g] at h; cases h)).trans (t.gh a x h)
  · exact (upd_ne (by rintro rfl; exact h0.no h w)).trans (t.fr a x h w u)
  · exact (t.ur u).up (fun _ _ z => z) fun o h _ => (upd_ne (by rintro e; exact nu ⟨u, e.symm⟩)).trans h
/-- [e for target in iter if ..]; J: what is told of the turn, the new list and the draws -/
theorem e_lc {g : TG} {vs : List Nat} {R : Vw → NS → Prop} (h : wI c wi s fun ds s1 => ∃ J : Nat → List D → Nat → Prop, ds.length < sizeLine ∧ J 0 [] s1.b ∧
      (∀ i d acc b, ds[i]? = some d → J i acc b → acc.length ≤ i → wG c g (fun i => i ∈ vs) d ⟨wipeγ s1.γ vs, b⟩ fun s2 => wT c tt s2 fun k s3 => if k = true then wD c te s3 fun y s4 => s4.γ = s2.γ ∧ J (i + 1) (acc ++ [y]) s4.b else s3.γ = s2.γ ∧ J (i + 1) acc s3.b) ∧
      ∀ acc b, J ds.length acc b → acc.length ≤ ds.length → R (.f acc) ⟨s1.γ, b⟩) : wE c (tLc wi g tt te vs) s R := fun σ G H Q a k =>
  h σ G H _ a fun J ds s1 G1 H1 ⟨P, hz, p0, step, fin⟩ a1 kp wk => by
    intro L hL
    have hu' : ∀ i, i ∈ vs → i ∈ vs := fun _ h => h
    have h0 := a1.fresh0 (.none hL)
    have nu := a1.notU h0
    have nO : ∀ i, ¬ Own (s1.wipe vs) (L2.wipe σ vs) i L := fun i o => a1.noOwn (.none hL) i (Own.wipe o).1
    obtain ⟨a0, k0⟩ := (a1.wipe vs).put (o := .lst []) hL
    let Wt : Nat → Hp → Prop := fun i H' => ∃ acc b G' xs, P i acc b ∧ acc.length ≤ i ∧ At c ⟨wipeγ s1.γ vs, b⟩ (L2.wipe σ vs) G' H' ∧ Kp c (s1.wipe vs) (L2.wipe σ vs) G1 H1 ⟨wipeγ s1.γ vs, b⟩ G' H' ∧ G' L = none ∧ H' L = some (.lst xs) ∧ RpAll c.K G' xs acc
    refine ⟨fun i m H' => m = ds.length - i ∧ i ≤ ds.length ∧ Wt i H', ⟨ds.length, by simp, Nat.zero_le _, [], s1.b, G1, [], p0, Nat.le_refl _, a0, k0, a1.freshG (.none hL), upd_same, .nil⟩, ?_⟩
    rintro i m H2 ⟨rfl, hi, acc, b, G2, xs, p2, ln, a2, k2, gL, hL2, rp⟩
    obtain ⟨w1, w2, w3⟩ := wk i _ _ G2 H2 k2.g a2
    by_cases lt : i < ds.length
    · refine .inr ⟨w2 lt, fun H' => Wt (i + 1) H', ?_, fun x H3 y => ?_⟩
      · rintro H' q
        exact ⟨ds.length - (i + 1), by omega, rfl, lt, q⟩
      · obtain ⟨d, G3, hd, a3, k3, r3⟩ := w3 x H3 y lt
        have hk := step i d acc b hd p2 ln
        obtain ⟨gL3, hL3⟩ := k3.thing nu nO gL hL2
        refine hk _ G3 H3 x _ a3 r3 fun σ4 s4 p4 a4 wp => ?_
        have nO4 : ∀ i, ¬ Own s4 σ4 i L := fun i o => nO i (wp.o i L o)
        have ws := (wp.w vs hu').1.trans wipe_idem
        have wg := (wp.w vs hu').2.trans wipeγ_idem
        refine ⟨ws, p4 σ4 G3 H3 _ a4 fun kk s5 G5 H5 p5 a5 k5 => ?_⟩
        obtain ⟨gL5, hL5⟩ := k5.thing nu nO4 gL3 hL3
        have nO5 : ∀ i, ¬ Own s5 σ4 i L := fun i o => nO4 i (k5.o i L o)
        -- what is so at a turn's end
        have back : ∀ {s6 : NS} {G6 H6 : Hp}, Kp c s4 σ4 G3 H3 s6 G6 H6 → At c s6 σ4 G6 H6 → s6.γ = s4.γ → At c ⟨wipeγ s1.γ vs, s6.b⟩ (L2.wipe σ vs) G6 H6 ∧ Kp c (s1.wipe vs) (L2.wipe σ vs) G1 H1 ⟨wipeγ s1.γ vs, s6.b⟩ G6 H6 := by
          intro s6 G6 H6 k6 a6 e6
          have z := a6.wipe vs
          rw [ws] at z
          have e7 : s6.wipe vs = ⟨wipeγ s1.γ vs, s6.b⟩ := by
            show (⟨wipeγ s6.γ vs, s6.b⟩ : NS) = _
            rw [e6, wg]
          rw [e7] at z
          refine ⟨z, (k2.trans k3).trans ?_⟩
          exact k6.cast (fun i a o => wp.o i a o) (fun i a o => o)
        cases kk with
        | false =>
          rw [if_neg Bool.false_ne_true] at p5 ⊢
          obtain ⟨z1, z2⟩ := back k5 a5 p5.1
          exact ⟨acc, s5.b, G5, xs, p5.2, by omega, z1, z2, gL5, hL5, rp.mono (k3.g.trans k5.g)⟩
        | true =>
          rw [if_pos rfl] at p5 ⊢
          refine p5 σ4 G5 H5 _ a5 fun v e s6 G6 H6 p6 a6 k6 r6 => ?_
          obtain ⟨gL6, hL6⟩ := k6.thing nu nO5 gL5 hL5
          obtain ⟨z1, z2⟩ := back (k5.trans k6) a6 p6.1
          refine ⟨xs, hL6, by rw [rp.len]; omega, acc ++ [e], s6.b, G6, xs ++ [v], p6.2, by rw [List.length_append]; exact Nat.succ_le_succ ln, z1.mut h0 nO gL6 (fun o q k => by rw [hL6] at q; cases q; rcases k with ⟨_, k⟩ | ⟨_, k⟩ <;> cases k), ⟨z2.g, fun a o h w u n => (upd_ne (by rintro rfl; rw [hL] at h; cases h)).trans (z2.h a o h w u n), z2.n, z2.o, fun a h => ?_, fun a xs h => z2.t a xs ((upd_ne (by rintro rfl; rw [upd_same] at h; cases h)).symm.trans h)⟩, gL6, upd_same, (rp.mono (k3.g.trans (k5.g.trans k6.g))).app (.cons r6 .nil)⟩
          by_cases e : a = L
          · subst e; exact (h.no upd_same ntl).elim
          · refine z2.m a fun o q n => h.no (o := o) ?_ n
            rw [upd_ne e]; exact q
    · have e : i = ds.length := by omega
      subst e
      refine .inl ⟨w1 (Nat.le_refl _), ?_⟩
      obtain ⟨z1, z2⟩ := a1.unwipe a2 k2
      exact k _ (.f acc) ⟨s1.γ, b⟩ G2 H2 (fin acc b p2 ln) z1 (kp.trans z2) ⟨L, _, rfl, kp.m L (.none hL), h0, gL, fun j o => a1.noOwn (.none hL) j (z2.o j L o), hL2, .l rp⟩
end
end Kn
/-! Kn4: an own list's methods, what a def promises, calls, errors. -/
namespace Kn
open PySem PySem.Spec PyProof.Rows L2 Kg
open Evl (Ex)
section
variable {c : Cfg} {s : NS} {σ : L2.St} {G H Hs : Hp} {R : Vw → NS → Prop} {to te : TE} {tr : TA}
/-- an own list changes -/
theorem At.chgW (t : At c s σ G H) {i : Nat} {a : Addr} {ds es : W} {ys : HO} (hi : s.γ[i]? = some (.ow ds)) (hs : σ[i]? = some (some (.ref a))) (r : OR c.K G a ys es) :
    At c (s.set i (.ow es)) σ G (upd H a ys) ∧ Kp c s σ G H (s.set i (.ow es)) G (upd H a ys) := by
  have own : Own s σ i a := ⟨⟨ds, hi⟩, hs⟩
  obtain ⟨a', xs, e, h0, ga, ha, hr⟩ := t.sl i _ hi
  rw [hs] at e; cases e
  have lt : i < s.γ.length := (List.getElem?_eq_some_iff.mp hi).1
  have nu := t.notU h0
  have oo : ∀ k b, Own (s.set i (.ow es)) σ k b → Own s σ k b := by
    rintro k b ⟨⟨fs, h1⟩, h2⟩
    by_cases e : k = i
    · subst e; exact ⟨⟨ds, hi⟩, h2⟩
    · rw [NS.set, List.getElem?_set_ne (Ne.symm e)] at h1
      exact ⟨⟨fs, h1⟩, h2⟩
  refine ⟨⟨by rw [NS.set, List.length_set]; exact t.len, fun k x hx => ?_, fun k l b o1 o2 => t.dis k l b (oo k b o1) (oo l b o2), fun b x h => ?_, t.gt, t.gj, t.hj, fun b x h w u => ?_, t.nw, t.g0, fun u => ?_, c.tbm _ _ (fun b x h k => (upd_ne (by rintro rfl; rw [ha] at h; cases h; exact hr.nk k)).trans h) t.tb⟩,
    ⟨fun _ _ h => h, fun b x h w u n => (upd_ne (by rintro rfl; exact n i own)).trans h, fun b h => .inl h, oo, fun b f => ?_, fun b xs h => ?_⟩⟩
  · by_cases e : k = i
    · subst e
      rw [NS.set, List.getElem?_set_self lt] at hx
      cases hx
      exact ⟨a, ys, hs, h0, ga, upd_same, r⟩
    · rw [NS.set, List.getElem?_set_ne (Ne.symm e)] at hx
      refine SlR.up (fun _ _ z => z) (fun _ h => .inl h) (fun b xs e2 ⟨fs, w⟩ _ h => ?_) (t.sl k x hx)
      subst w
      refine (upd_ne ?_).trans h
      rintro rfl
      exact e (t.dis k i b ⟨⟨fs, hx⟩, e2⟩ own)
  · exact (upd_ne (by rintro rfl; rw [ga] at h; cases h)).trans (t.gh b x h)
  · exact (upd_ne (by rintro rfl; exact h0.no h w)).trans (t.fr b x h w u)
  · exact (t.ur u).up (fun _ _ z => z) fun o h _ => (upd_ne (by rintro e; exact nu ⟨u, e.symm⟩)).trans h
  · by_cases e : b = a
    · subst e; exact (f.no upd_same r.cnt).elim
    · exact fun o q n => f.no (o := o) (by rw [upd_ne e]; exact q) n
  · by_cases e : b = a
    · subst e; exact .inr ⟨i, own⟩
    · rw [upd_ne e] at h; exact .inl (.inr ⟨xs, h⟩)
theorem At.chg (t : At c s σ G H) {i : Nat} {a : Addr} {ds es : List D} {ys : List V} (hi : s.γ[i]? = some (.own ds)) (hs : σ[i]? = some (some (.ref a))) (r : RpAll c.K G ys es) :
    At c (s.set i (.own es)) σ G (upd H a (.lst ys)) ∧ Kp c s σ G H (s.set i (.own es)) G (upd H a (.lst ys)) := t.chgW hi hs (.l r)
theorem own_at (t : At c s σ G H) {i : Nat} {v : V} {ds : List D} (r : VwR c Hs s σ G H v (.s i)) (hi : s.γ[i]? = some (.own ds)) : ∃ a xs, v = .ref a ∧ σ[i]? = some (some (.ref a)) ∧ H a = some (.lst xs) ∧ RpAll c.K G xs ds := by
  have hs : σ[i]? = some (some v) := r
  obtain ⟨a, xs, e, _, _, h, rp⟩ := t.slL hi
  rw [hs] at e; cases e
  exact ⟨a, xs, rfl, hs, h, rp⟩
theorem ty_list {K : PySem.W.Frag} {a : Addr} {xs : List V} {H : Hp} (h : H a = some (.lst xs)) : tyV K "list" (.ref a) H := .inl ⟨rfl, xs, SqL.of h⟩
/-- x.append(e), x an own list -/
theorem e_append_0 (h : wE c to s fun w s1 => ∃ i ds0, w = .s i ∧ s1.γ[i]? = some (.own ds0) ∧ wD c te s1 fun d s2 => ∃ ds, s2.γ[i]? = some (.own ds) ∧ ds.length < sizeLine ∧ R (.d .non) (s2.set i (.own (ds ++ [d])))) :
    wE c (tBM c.K "list" rAppend to (tCons te tNil)) s R := fun σ G H Q t k =>
  h σ G H _ t fun v w s1 G1 H1 ⟨i, ds0, e, h0, p⟩ t1 k1 r1 => by
    subst e
    obtain ⟨a, xs, rfl, hs, ha, _⟩ := own_at t1 r1 h0
    refine ⟨ty_list ha, p σ G1 H1 _ t1 fun y d s2 G2 H2 ⟨ds, hi, hz, p2⟩ t2 k2 r2 => ?_⟩
    obtain ⟨a', ys, e, _, _, hb, rp⟩ := t2.slL hi
    rw [hs] at e; cases e
    obtain ⟨t3, k3⟩ := t2.chg (es := ds ++ [d]) (ys := ys ++ [y]) hi hs (rp.app (.cons r2 .nil))
    exact ⟨a, ys, y, rfl, rfl, hb, by rw [rp.len]; exact hz, k _ (.d .non) _ _ _ p2 t3 (k1.trans (k2.trans k3)) Rp.non⟩
theorem e_append {K' : PySem.W.Frag} (h : wE c to s fun w s1 => ∃ i ds0, w = .s i ∧ s1.γ[i]? = some (.own ds0) ∧ wD c te s1 fun d s2 => ∃ ds, s2.γ[i]? = some (.own ds) ∧ ds.length < sizeLine ∧ R (.d .non) (s2.set i (.own (ds ++ [d])))) (hK : K' = c.K := by rfl) :
    wE c (tBM K' "list" rAppend to (tCons te tNil)) s R := by
  subst hK
  exact e_append_0 h
/-- x.pop(e), x an own list -/
theorem e_pop_0 (h : wE c to s fun w s1 => ∃ i ds0, w = .s i ∧ s1.γ[i]? = some (.own ds0) ∧ wD c te s1 fun d s2 => ∃ (ds : List D) (n : Int) (m : Nat) (e : D), s2.γ[i]? = some (.own ds) ∧ d = .int n ∧ -(2 ^ 63) ≤ n ∧ n < 2 ^ 63 ∧ seqIndex? n ds.length = some m ∧ ds[m]? = some e ∧ R (.d e) (s2.set i (.own (ds.eraseIdx m)))) :
    wE c (tBM c.K "list" rPopAt to (tCons te tNil)) s R := fun σ G H Q t k =>
  h σ G H _ t fun v w s1 G1 H1 ⟨i, ds0, e, h0, p⟩ t1 k1 r1 => by
    subst e
    obtain ⟨a, xs, rfl, hs, ha, _⟩ := own_at t1 r1 h0
    refine ⟨ty_list ha, p σ G1 H1 _ t1 fun y d s2 G2 H2 ⟨ds, n, m, e, hi, hd, n1, n2, hm, he, p2⟩ t2 k2 r2 => ?_⟩
    subst hd
    cases r2
    obtain ⟨a', ys, e', _, _, hb, rp⟩ := t2.slL hi
    rw [hs] at e'; cases e'
    obtain ⟨z, hz, rz⟩ := rp.of he
    obtain ⟨t3, k3⟩ := t2.chg (es := ds.eraseIdx m) (ys := ys.eraseIdx m) hi hs (rp.erase m)
    exact ⟨a, ys, n, m, z, rfl, rfl, hb, n1, n2, by rw [rp.len]; exact hm, hz, k _ (.d e) _ _ _ p2 t3 (k1.trans (k2.trans k3)) rz⟩
theorem e_pop {K' : PySem.W.Frag} (h : wE c to s fun w s1 => ∃ i ds0, w = .s i ∧ s1.γ[i]? = some (.own ds0) ∧ wD c te s1 fun d s2 => ∃ (ds : List D) (n : Int) (m : Nat) (e : D), s2.γ[i]? = some (.own ds) ∧ d = .int n ∧ -(2 ^ 63) ≤ n ∧ n < 2 ^ 63 ∧ seqIndex? n ds.length = some m ∧ ds[m]? = some e ∧ R (.d e) (s2.set i (.own (ds.eraseIdx m)))) (hK : K' = c.K := by rfl) :
    wE c (tBM K' "list" rPopAt to (tCons te tNil)) s R := by
  subst hK
  exact e_pop_0 h
/-- x.insert(i, e), x an own list -/
theorem e_insert_0 {ti : TE} (h : wE c to s fun w s1 => ∃ i ds0, w = .s i ∧ s1.γ[i]? = some (.own ds0) ∧ wA c (tCons ti (tCons te tNil)) s1 fun es s2 => ∃ (ds : List D) (n : Int) (d : D), s2.γ[i]? = some (.own ds) ∧ es = [.int n, d] ∧ ds.length < sizeLine ∧ 0 ≤ n ∧ n < 2 ^ 63 ∧ R (.d .non) (s2.set i (.own (ds.take n.toNat ++ [d] ++ ds.drop n.toNat)))) :
    wE c (tBM c.K "list" (fun x vs H Q => ∃ l xs i y, x = V.ref l ∧ vs = [V.int i, y] ∧ H l = some (.lst xs) ∧ xs.length < sizeLine ∧ 0 ≤ i ∧ i < 2 ^ 63 ∧ Q .non (upd H l (.lst (xs.take i.toNat ++ [y] ++ xs.drop i.toNat)))) to (tCons ti (tCons te tNil))) s R := fun σ G H Q t k =>
  h σ G H _ t fun v w s1 G1 H1 ⟨i, ds0, e, h0, p⟩ t1 k1 r1 => by
    subst e
    obtain ⟨a, xs, rfl, hs, ha, _⟩ := own_at t1 r1 h0
    refine ⟨ty_list ha, p σ G1 H1 _ t1 fun vs es s2 G2 H2 ⟨ds, n, d, hi, he, hz, n1, n2, p2⟩ t2 k2 r2 => ?_⟩
    subst he
    cases r2 with
    | cons ra rb =>
      cases ra
      cases rb with
      | cons rb rc =>
        cases rc
        obtain ⟨a', ys, e', _, _, hb, rp⟩ := t2.slL hi
        rw [hs] at e'; cases e'
        obtain ⟨t3, k3⟩ := t2.chg (es := ds.take n.toNat ++ [d] ++ ds.drop n.toNat) hi hs (((rp.take n.toNat).app (.cons rb .nil)).app (rp.drop n.toNat))
        exact ⟨a, ys, n, _, rfl, rfl, hb, by rw [rp.len]; exact hz, n1, n2, k _ (.d .non) _ _ _ p2 t3 (k1.trans (k2.trans k3)) Rp.non⟩

theorem e_insert {K' : PySem.W.Frag} {ti : TE} (h : wE c to s fun w s1 => ∃ i ds0, w = .s i ∧ s1.γ[i]? = some (.own ds0) ∧ wA c (tCons ti (tCons te tNil)) s1 fun es s2 => ∃ (ds : List D) (n : Int) (d : D), s2.γ[i]? = some (.own ds) ∧ es = [.int n, d] ∧ ds.length < sizeLine ∧ 0 ≤ n ∧ n < 2 ^ 63 ∧ R (.d .non) (s2.set i (.own (ds.take n.toNat ++ [d] ++ ds.drop n.toNat)))) (hK : K' = c.K := by rfl) :
    wE c (tBM K' "list" (fun x vs H Q => ∃ l xs i y, x = V.ref l ∧ vs = [V.int i, y] ∧ H l = some (.lst xs) ∧ xs.length < sizeLine ∧ 0 ≤ i ∧ i < 2 ^ 63 ∧ Q .non (upd H l (.lst (xs.take i.toNat ++ [y] ++ xs.drop i.toNat)))) to (tCons ti (tCons te tNil))) s R := by
  subst hK
  exact e_insert_0 h
/-! ### what a def promises, and calls -/
/-- an error: its class, its fields -/
abbrev Er := Addr → List (Str × D) → Prop
def FldR (K : PySem.W.Frag) (G : Hp) (xs : List (Str × V)) (fs : List (Str × D)) : Prop := xs.map (·.1) = fs.map (·.1) ∧ RpAll K G (xs.map (·.2)) (fs.map (·.2))
/-- E takes the errors of X, from the heap H and the data G on -/
def ErrOk (K : PySem.W.Frag) (G H : Hp) (E : XK) (X : Er) : Prop := ∀ C fs dx xs G' H', X C fs → Ex G G' → Ex H H' → Ex G' H' → (∀ a o, G' a = some o → Nt o) → (∀ a, G' a ≠ none → G a ≠ none ∨ Nw H a) →
  H dx = none → H' dx = some (.xd xs) → FldR K G' xs fs → E (.ref C) (some dx) H'
/-- what a def without the urn promises of data -/
def spP (K : PySem.W.Frag) (φ : List D → (D → Prop) → Er → Prop) : Sp := fun vs H Q E => ∃ G ds R X, Ex G H ∧ (∀ a o, G a = some o → Nt o) ∧ RpAll K G vs ds ∧ φ ds R X ∧
  (∀ v d G' H', R d → Ex H H' → Ex G G' → Ex G' H' → (∀ a o, G' a = some o → Nt o) → (∀ a, G' a ≠ none → G a ≠ none ∨ Nw H a) → Rp K G' v d → Q v H') ∧ ErrOk K G H E X
/-- .. with the urn in front -/
def spU (K : PySem.W.Frag) (φ : Nat → List D → (Nat → D → Prop) → Prop) : Sp := fun vs H Q E => ∃ G j b us ds R, vs = .ref j :: us ∧ Ex G H ∧ (∀ a o, G a = some o → Nt o) ∧ G j = none ∧ UrnAt K j b G H ∧ RpAll K G us ds ∧ φ b ds R ∧
  (∀ v d b' G' H', R b' d → (∀ a o, H a = some o → a ≠ j → H' a = some o) → Ex G G' → Ex G' H' → (∀ a o, G' a = some o → Nt o) → (∀ a, G' a ≠ none → G a ≠ none ∨ Nw H a) → UrnAt K j b' G' H' → Rp K G' v d → Q v H')
/-- how errors of a callee are taken in a body -/
def ErrIn (c : Cfg) (E : XK) (X : Er) : Prop := ∀ s σ G H, At c s σ G H → ErrOk c.K G H E X
theorem noErr {E : XK} : ErrIn c E (fun _ _ => False) := fun _ _ _ _ _ _ _ _ _ _ _ h => h.elim
theorem e_callP_0 {φ : List D → (D → Prop) → Er → Prop} {E : XK} {X : Er} (hE : ErrIn c E X) (h : wA c tr s fun ds s1 => φ ds (fun d => R (.d d) s1) X) : wE c (tCall (spP c.K φ) [] E tr) s R := fun σ G H Q t k =>
  h σ G H _ t fun vs ds s1 G1 H1 p t1 k1 r1 => by
    refine ⟨G1, ds, _, X, t1.gh, t1.gt, by rw [List.append_nil]; exact r1, p, fun v d G' H' q hh eg gh gt nw rp => ?_, hE s1 σ G1 H1 t1⟩
    obtain ⟨t2, k2⟩ := t1.grow eg hh gh gt (fun a h => (nw a h).imp id Nw.fw)
    exact k v (.d d) s1 G' H' q t2 (k1.trans k2) rp
theorem e_callP {K' : PySem.W.Frag} {φ : List D → (D → Prop) → Er → Prop} {E : XK} {X : Er} (hE : ErrIn c E X) (h : wA c tr s fun ds s1 => φ ds (fun d => R (.d d) s1) X) (hK : K' = c.K := by rfl) : wE c (tCall (spP K' φ) [] E tr) s R := by
  subst hK
  exact e_callP_0 hE h
theorem At.drew (t : At c s σ G H) {G' H' : Hp} {b' : Nat} (hu : c.u = true) (hh : ∀ a o, H a = some o → a ≠ c.j → H' a = some o) (eg : Ex G G') (gh : Ex G' H') (gt : ∀ a o, G' a = some o → Nt o) (nw : ∀ a, G' a ≠ none → G a ≠ none ∨ Nw H a) (u : UrnAt c.K c.j b' G' H') :
    At c { s with b := b' } σ G' H' ∧ Kp c s σ G H { s with b := b' } G' H' := by
  have nj : ∀ a, ¬ c.isU a → a ≠ c.j := fun a n e => n ⟨hu, e⟩
  refine ⟨⟨t.len, fun i x hx => ?_, t.dis, gh, gt, fun a u => ?_, t.hj, fun a o h w u => hh a o (t.fr a o h w u) (nj a u), fun a h => ?_, t.g0.trans eg, fun _ => u, c.tbm _ _ (fun a o h k => hh a o h (by rintro rfl; obtain ⟨_, _, _, _, hq, _⟩ := t.ur hu; rw [hq] at h; cases h; rcases k with ⟨_, k⟩ | ⟨_, k⟩ <;> cases k)) t.tb⟩, ⟨eg, fun a o h w u _ => hh a o h (nj a u), fun a h => (nw a h).elim .inl fun z => .inr (.inl z.fw), fun _ _ h => h, fun a h o e w => ?_, fun a xs h => ?_⟩⟩
  · by_cases z : ∃ ds, x = .ow ds
    · obtain ⟨ds, rfl⟩ := z
      obtain ⟨a, xs, h1, h2, h3, h4, h5⟩ := t.sl i _ hx
      refine ⟨a, xs, h1, h2, ?_, hh a _ h4 (nj a (t.notU h2)), h5.mono eg⟩
      cases q : G' a with
      | none => rfl
      | some o =>
        rcases nw a (by rw [q]; exact fun z => nomatch z) with z | z
        · exact absurd h3 z
        · exact (h5.noW h4 (z.fw : Fw c H a)).elim
    · cases x with
      | no => trivial
      | d d => obtain ⟨v, h1, h2⟩ := t.sl i _ hx; exact ⟨v, h1, h2.mono eg⟩
      | ur => exact t.sl i _ hx
      | ow ds => exact absurd ⟨ds, rfl⟩ z
  · cases q : G' a with
    | none => rfl
    | some o =>
      rcases nw a (by rw [q]; exact fun z => nomatch z) with z | z
      · exact absurd (t.gj a u) z
      · exact absurd z.fw (t.thereW u)
  · rcases nw a h with z | z
    · exact t.nw a z
    · exact .inr (t.freshW0 z.fw)
  · by_cases e2 : a = c.j
    · subst e2
      obtain ⟨_, _, _, _, hq, _⟩ := u
      exact h.no hq ntl
    · exact h.no (hh a o e e2) w
  · by_cases e2 : a = c.j
    · subst e2
      obtain ⟨_, _, _, _, hq, _⟩ := u
      rw [hq] at h; cases h
    · cases q : H a with
      | none => exact .inl (.none q)
      | some o =>
        have := hh a o q e2
        rw [h] at this
        cases this
        exact .inl (.inr ⟨xs, q⟩)
theorem e_callU_0 {φ : Nat → List D → (Nat → D → Prop) → Prop} {E : XK} {i : Nat} (hi : s.γ[i]? = some .ur) (h : wA c tr s fun ds s1 => φ s1.b ds fun b' d => R (.d d) { s1 with b := b' }) : wE c (tCall (spU c.K φ) [] E (tCons (tVar i) tr)) s R := fun σ G H Q t k => by
  obtain ⟨hu, hj⟩ := t.sl i _ hi
  refine ⟨.ref c.j, hj, h σ G H _ t fun vs ds s1 G1 H1 p t1 k1 r1 => ?_⟩
  refine ⟨G1, c.j, s1.b, vs, ds, _, by rw [List.append_nil], t1.gh, t1.gt, t1.gj _ ⟨hu, rfl⟩, t1.ur hu, r1, p, fun v d b' G' H' q hh eg gh gt nw u rp => ?_⟩
  obtain ⟨t2, k2⟩ := t1.drew hu hh eg gh gt nw u
  exact k v (.d d) _ G' H' q t2 (k1.trans k2) rp
theorem e_callU {K' : PySem.W.Frag} {φ : Nat → List D → (Nat → D → Prop) → Prop} {E : XK} {i : Nat} (hi : s.γ[i]? = some .ur) (h : wA c tr s fun ds s1 => φ s1.b ds fun b' d => R (.d d) { s1 with b := b' }) (hK : K' = c.K := by rfl) : wE c (tCall (spU K' φ) [] E (tCons (tVar i) tr)) s R := by
  subst hK
  exact e_callU_0 hi h
/-! ### errors of one's own -/
/-- an __init__ that keeps one field -/
def spKeep (C : Addr) (f : Str) : Sp := fun vs H Q _ => ∃ (a : Addr) (v : V), vs = [.ref a, v] ∧ H a = some (exo a C none) ∧
  ∀ dx, H dx = none → dx ≠ a → Q .non (upd (upd H dx (exd dx [(f, v)])) a (exo a C (some dx)))
/-- .. two of them -/
def spKeep2 (C : Addr) (f g : Str) : Sp := fun vs H Q _ => ∃ (a : Addr) (v w : V), vs = [.ref a, v, w] ∧ H a = some (exo a C none) ∧
  ∀ dx, H dx = none → dx ≠ a → Q .non (upd (upd (upd H dx (exd dx [(f, v)])) a (exo a C (some dx))) dx (exd dx [(g, w), (f, v)]))
/-- behind a raise -/
theorem raise_end {σ : L2.St} {G H : Hp} {C : Addr} {E : XK} {X : Er} (hE : ErrIn c E X) (t : At c s σ G H) {a dx : Addr} {xs : List (Str × V)} {fs : List (Str × D)} {H' : Hp} (x : X C fs) (fl : FldR c.K G xs fs) (ha : H a = none) (hd : H dx = none)
    (eq : ∀ b, b ≠ a → b ≠ dx → H' b = H b) (at_d : H' dx = some (.xd xs)) : E (.ref C) (some dx) H' := by
  have hh : ∀ b o, H b = some o → H' b = some o := fun b o hb => by
    rw [eq b (by rintro rfl; rw [ha] at hb; cases hb) (by rintro rfl; rw [hd] at hb; cases hb)]; exact hb
  exact hE s σ G H t C fs dx xs G H' x (fun _ _ z => z) hh (fun b o hb => hh b o (t.gh b o hb)) t.gt (fun b hb => .inl hb) hd at_d fl
theorem s_raise {N : Pst} {E : XK} {X : Er} {C : Addr} {f : Str} (hE : ErrIn c E X) (h : wA c tr s fun ds s1 => ∃ d, ds = [d] ∧ X C [(f, d)]) : wS c (fun _ σ H => tMkO C (spKeep C f) [] tr σ H fun cls d H' => E cls d H') s N := fun σ G H Z t _ _ _ _ =>
  h σ G H _ t fun vs ds s1 G1 H1 ⟨d, e, x⟩ t1 k1 r1 => by
    subst e
    cases r1 with
    | cons r r' =>
      rename_i v _
      cases r'
      refine ⟨by simp, fun a ha => ⟨a, v, rfl, upd_same, fun dx hdx ne => ?_⟩⟩
      have hdx1 : H1 dx = none := (upd_ne ne).symm.trans hdx
      refine ⟨rfl, dx, [(f, v)], upd_same, (upd_ne ne).trans upd_same, hdx1, ?_⟩
      refine raise_end (xs := [(f, v)]) hE t1 x ⟨rfl, .cons r .nil⟩ ha hdx1 (fun b n1 n2 => ?_) upd_same
      rw [upd_ne n2, del_ne n1, upd_ne n1, upd_ne n2, upd_ne n1]
theorem s_raise2 {N : Pst} {E : XK} {X : Er} {C : Addr} {f g : Str} (hE : ErrIn c E X) (h : wA c tr s fun ds s1 => ∃ d e, ds = [d, e] ∧ X C [(g, e), (f, d)]) : wS c (fun _ σ H => tMkO C (spKeep2 C f g) [] tr σ H fun cls d H' => E cls d H') s N := fun σ G H Z t _ _ _ _ =>
  h σ G H _ t fun vs ds s1 G1 H1 ⟨d, e, q, x⟩ t1 k1 r1 => by
    subst q
    cases r1 with
    | cons r r' =>
      rename_i v _
      cases r' with
      | cons r2 r' =>
        rename_i w _
        cases r'
        refine ⟨by simp, fun a ha => ⟨a, v, w, rfl, upd_same, fun dx hdx ne => ?_⟩⟩
        have hdx1 : H1 dx = none := (upd_ne ne).symm.trans hdx
        refine ⟨rfl, dx, [(g, w), (f, v)], (upd_ne (Ne.symm ne)).trans upd_same, upd_same, hdx1, ?_⟩
        refine raise_end (xs := [(g, w), (f, v)]) hE t1 x ⟨rfl, .cons r2 (.cons r .nil)⟩ ha hdx1 (fun b n1 n2 => ?_) upd_same
        rw [upd_ne n2, del_ne n1, upd_ne n2, upd_ne n1, upd_ne n2, upd_ne n1]
/-! ### entries -/
def initS (n : Nat) (xs : List Sl) : List Sl := xs ++ List.replicate (n - xs.length) .no
theorem init_get {n : Nat} {xs : List Sl} {i : Nat} {x : Sl} (h : (initS n xs)[i]? = some x) : xs[i]? = some x ∨ x = .no := by
  unfold initS at h
  by_cases l : i < xs.length
  · rw [List.getElem?_append_left l] at h; exact .inl h
  · rw [List.getElem?_append_right (by omega)] at h
    obtain ⟨l2, h2⟩ := List.getElem?_eq_some_iff.mp h
    rw [List.getElem_replicate] at h2
    exact .inr h2.symm
theorem start_get {N : List Str} {vs : List V} {i : Nat} {v : V} (h : vs[i]? = some v) : (L2.start N vs)[i]? = some (some v) := by
  unfold L2.start
  obtain ⟨l, e⟩ := List.getElem?_eq_some_iff.mp h
  rw [List.getElem?_append_left (by rw [List.length_map]; exact l), List.getElem?_map, h]; rfl
theorem start_len {N : List Str} {vs : List V} {xs : List Sl} (h : vs.length = xs.length) : (L2.start N vs).length = (initS N.length xs).length := by
  unfold L2.start initS
  simp [h]
theorem map_get {ds : List D} {i : Nat} {x : Sl} (h : (ds.map Sl.d)[i]? = some x) : ∃ d, ds[i]? = some d ∧ x = .d d := by
  rw [List.getElem?_map] at h
  obtain ⟨d, h1, h2⟩ := Option.map_eq_some_iff.mp h
  exact ⟨d, h1, h2.symm⟩
theorem enterP {K : PySem.W.Frag} {N : List Str} {G : Hp} {vs : List V} {ds : List D} {R : D → Prop} {X : Er} {t : TS} {Q : VK} {E : XK} (eg : Ex G H) (gt : ∀ a o, G a = some o → Nt o) (rp : RpAll K G vs ds)
    (kR : ∀ v d G' H', R d → Ex H H' → Ex G G' → Ex G' H' → (∀ a o, G' a = some o → Nt o) → (∀ a, G' a ≠ none → G a ≠ none ∨ Nw H a) → Rp K G' v d → Q v H') (kX : ErrOk K G H E X)
    (h : ∀ c : Cfg, c.K = K → ErrIn c E X → wS c t ⟨initS N.length (ds.map .d), 0⟩ { nx := fun _ => R .non, rt := fun d _ => R d }) : t { nx := fun _ H' => Q .non H', rt := Q } (L2.start N vs) H := by
  let c : Cfg := ⟨K, 0, false, H, G, true, fun _ => True, fun _ _ _ _ => trivial⟩
  have f0 : ∀ {H' a}, Fr c H' a → H' a = none := fun {H' a} f => by
    cases q : H' a with
    | none => rfl
    | some o => exact (f o q (.inl rfl)).elim
  have f0w : ∀ {H' a}, Fw c H' a → Nw H' a := fun f => f.imp f0 id
  have nU : ∀ a, ¬ c.isU a := fun a u => by cases u.1
  have fin : ∀ {s : NS} {σ : L2.St} {G' H' : Hp} {v : V} {d : D}, At c s σ G' H' → Rp K G' v d → R d → Q v H' := fun a r q =>
    kR _ _ _ _ q (fun b o hb => a.fr b o hb (.inl rfl) (nU b)) a.g0 a.gh a.gt (fun b hb => (a.nw b hb).imp id f0w) r
  refine h c rfl (fun s σ G1 H1 a C fs dx xs G' H' x e1 h1 g1 t1 n1 f1 hd fr => ?_) (L2.start N vs) G H _ ⟨start_len (by rw [List.length_map]; exact rp.len), fun i x hx => ?_, ?_, eg, gt, fun a u => absurd u (nU a), fun a u => absurd u (nU a), fun a o h _ _ => h, fun a h => .inl h, fun _ _ h => h, (fun u => nomatch u), trivial⟩
    (fun s' σ' G' H' q a e => fin a .non q) (fun v d s' σ' G' H' q a r => fin a r q) (fun _ _ _ _ q => q.elim) (fun _ _ _ _ q => q.elim)
  · refine kX C fs dx xs G' H' x (a.g0.trans e1) (fun b o hb => h1 b o (a.fr b o hb (.inl rfl) (nU b))) g1 t1 (fun b hb => ?_) (f0 (a.fresh0 (.none f1))) hd fr
    rcases n1 b hb with z | z
    · exact (a.nw b z).imp id f0w
    · exact .inr (f0w (a.freshW0 z.fw))
  · rcases init_get hx with z | rfl
    · obtain ⟨d, h1, rfl⟩ := map_get z
      obtain ⟨v, h2, r⟩ := rp.of h1
      exact ⟨v, start_get h2, r⟩
    · trivial
  · rintro i k a ⟨⟨es, h1⟩, _⟩ _
    rcases init_get h1 with z | z
    · obtain ⟨d, _, e⟩ := map_get z
      cases e
    · cases z
theorem spP_len {K : PySem.W.Frag} {φ : List D → (D → Prop) → Er → Prop} {n : Nat} (hl : ∀ ds R X, φ ds R X → ds.length = n) : ∀ vs H Q E, spP K φ vs H Q E → vs.length = n := fun vs H Q E ⟨G, ds, R, X, _, _, rp, p, _⟩ => rp.len.trans (hl ds R X p)
theorem enterU {K : PySem.W.Frag} {N : List Str} {G : Hp} {j : Addr} {b : Nat} {us : List V} {ds : List D} {R : Nat → D → Prop} {t : TS} {Q : VK} (eg : Ex G H) (gt : ∀ a o, G a = some o → Nt o) (gj : G j = none) (u : UrnAt K j b G H) (rp : RpAll K G us ds)
    (kR : ∀ v d b' G' H', R b' d → (∀ a o, H a = some o → a ≠ j → H' a = some o) → Ex G G' → Ex G' H' → (∀ a o, G' a = some o → Nt o) → (∀ a, G' a ≠ none → G a ≠ none ∨ Nw H a) → UrnAt K j b' G' H' → Rp K G' v d → Q v H')
    (h : ∀ c : Cfg, c.K = K → wS c t ⟨initS N.length (.ur :: ds.map .d), b⟩ { nx := fun s => R s.b .non, rt := fun d s => R s.b d }) : t { nx := fun _ H' => Q .non H', rt := Q } (L2.start N (.ref j :: us)) H := by
  let c : Cfg := ⟨K, j, true, H, G, true, fun _ => True, fun _ _ _ _ => trivial⟩
  have f0 : ∀ {H' a}, Fr c H' a → H' a = none := fun {H' a} f => by
    cases q : H' a with
    | none => rfl
    | some o => exact (f o q (.inl rfl)).elim
  have f0w : ∀ {H' a}, Fw c H' a → Nw H' a := fun f => f.imp f0 id
  have nU : ∀ a, ¬ c.isU a ↔ a ≠ j := fun a => ⟨fun n e => n ⟨rfl, e⟩, fun n e => n e.2⟩
  have fin : ∀ {s : NS} {σ : L2.St} {G' H' : Hp} {v : V} {d : D}, At c s σ G' H' → Rp K G' v d → R s.b d → Q v H' := fun a r q =>
    kR _ _ _ _ _ q (fun b o hb nj => a.fr b o hb (.inl rfl) ((nU b).mpr nj)) a.g0 a.gh a.gt (fun b hb => (a.nw b hb).imp id f0w) (a.ur rfl) r
  refine h c rfl (L2.start N (.ref j :: us)) G H _ ⟨start_len (by simp [rp.len]), fun i x hx => ?_, ?_, eg, gt, fun a u => by rw [u.2]; exact gj, fun a z f => ?_, fun a o h _ _ => h, fun a h => .inl h, fun _ _ h => h, fun _ => u, trivial⟩
    (fun s' σ' G' H' q a e => fin a .non q) (fun v d s' σ' G' H' q a r => fin a r q) (fun _ _ _ _ q => q.elim) (fun _ _ _ _ q => q.elim)
  · rcases init_get hx with z | rfl
    · cases i with
      | zero => cases z; exact ⟨rfl, start_get rfl⟩
      | succ i =>
        obtain ⟨d, h1, rfl⟩ := map_get (show (ds.map Sl.d)[i]? = some x from z)
        obtain ⟨v, h2, r⟩ := rp.of h1
        exact ⟨v, start_get (vs := .ref j :: us) (i := i + 1) h2, r⟩
    · trivial
  · rintro i k a ⟨⟨es, h1⟩, _⟩ _
    rcases init_get h1 with z | z
    · cases i with
      | zero => cases z
      | succ i =>
        obtain ⟨d, _, e⟩ := map_get (show (ds.map Sl.d)[i]? = some _ from z)
        cases e
    · cases z
  · obtain ⟨_, _, _, _, hq, _⟩ := u
    have e : a = j := z.2
    subst e
    exact f.no hq ntl
theorem spU_len {K : PySem.W.Frag} {φ : Nat → List D → (Nat → D → Prop) → Prop} {n : Nat} (hl : ∀ b ds R, φ b ds R → ds.length + 1 = n) : ∀ vs H Q E, spU K φ vs H Q E → vs.length = n := fun vs H Q E ⟨G, j, b, us, ds, R, e, _, _, _, _, rp, p, _⟩ => by
  rw [e, List.length_cons, rp.len]; exact hl b ds R p
end
end Kn
/-! Kn5: data compared, shown, looked up. -/
namespace Kn
open PySem PySem.Spec PyProof.Rows L2 Kg
open Evl (Ex)
mutual
inductive Py : D → PyData → Prop
  | non : Py .non .none
  | bl (b : Bool) : Py (.bl b) (.bool b)
  | int (i : Int) : Py (.int i) (.int i)
  | str (x : Str) : Py (.str x) (.str x)
  | lst {ds : List D} {ps : List PyData} : PyAll ds ps → Py (.lst ds) (.list ps)
  | tup {ds : List D} {ps : List PyData} : PyAll ds ps → Py (.tup ds) (.tuple ps)
  | ktup {ds : List D} {ps : List PyData} : PyAll ds ps → Py (.ktup ds) (.tuple ps)
  | dN : Py (.dK []) (.dict [])
inductive PyAll : List D → List PyData → Prop
  | nil : PyAll [] []
  | cons {d : D} {ds : List D} {p : PyData} {ps : List PyData} : Py d p → PyAll ds ps → PyAll (d :: ds) (p :: ps)
end
mutual
theorem Rp.da {K : PySem.W.Frag} {G : Hp} : ∀ {v : V} {d : D} (p : PyData), Py d p → Rp K G v d → Da K G v p
  | _, _, _, .non, .non => .non
  | _, _, _, .bl b, .bl _ => .bl b
  | _, _, _, .int i, .int _ => .int i
  | _, _, _, .str x, .str _ => .str x
  | _, _, .list ps, .lst q, .lst h t => .lst (SqL.of h) (RpAll.da ps q t)
  | _, _, .tuple ps, .tup q, .tup h t => .tup (SqT.of h) (RpAll.da ps q t)
  | _, _, .tuple ps, .ktup q, .ktup h t => .tup (.inr h) (RpAll.da ps q t)
  | _, _, .dict _, .dN, r => by
    generalize e : D.dK _ = d at r
    cases r with
    | @dK a kvs' ds h t =>
      simp only [D.dK.injEq] at e
      have l := congrArg List.length e
      rw [List.length_zip, List.length_map, ← t.len, List.length_map, Nat.min_self] at l
      cases kvs' with
      | nil => exact Da.dct (kvs := []) (ds := []) h .nil
      | cons _ _ => simp at l
    | _ => cases e
theorem RpAll.da {K : PySem.W.Frag} {G : Hp} : ∀ {vs : List V} {ds : List D} (ps : List PyData), PyAll ds ps → RpAll K G vs ds → DaAll K G vs ps
  | _, _, [], .nil, .nil => .nil
  | _, _, p :: ps, .cons q1 q2, .cons r1 r2 => .cons (Rp.da p q1 r1) (RpAll.da ps q2 r2)
end
theorem PyAll.len {ds : List D} {ps : List PyData} (h : PyAll ds ps) : ds.length = ps.length := by
  induction ps generalizing ds with
  | nil => cases h; rfl
  | cons p ps ih => cases h with | cons _ t => simp [ih t]
/-- a pair of ints -/
def pD (z : Int × Int) : D := .tup [.int z.1, .int z.2]
def pP (z : Int × Int) : PyData := .tuple [.int z.1, .int z.2]
theorem py_pair (z : Int × Int) : Py (pD z) (pP z) := .tup (.cons (.int _) (.cons (.int _) .nil))
theorem py_pairs : ∀ zs : List (Int × Int), PyAll (zs.map pD) (zs.map pP)
  | [] => .nil
  | z :: zs => .cons (py_pair z) (py_pairs zs)
theorem py_ints : ∀ zs : List Int, PyAll (zs.map D.int) (zs.map PyData.int)
  | [] => .nil
  | z :: zs => .cons (.int z) (py_ints zs)
theorem pP_shaped (z : Int × Int) : SeqAt.shaped (pP z) = true := by simp [pP, SeqAt.shaped, PyData.canLay0, PyData.canLayAll0, PyData.depth, PyData.depthAll]
theorem pPs_lay : ∀ zs : List (Int × Int), PyData.canLayAll0 (zs.map pP) = true
  | [] => by simp [PyData.canLayAll0]
  | z :: zs => by simp [PyData.canLayAll0, pP, PyData.canLay0, pPs_lay zs]
theorem pPs_depth : ∀ zs : List (Int × Int), PyData.depthAll (zs.map pP) ≤ 1
  | [] => by simp [PyData.depthAll]
  | z :: zs => by
    have := pPs_depth zs
    simp [PyData.depthAll, pP, PyData.depth]
    omega
theorem pPs_shaped (zs : List (Int × Int)) : SeqAt.shaped (.list (zs.map pP)) = true := by
  have := pPs_depth zs
  simp [SeqAt.shaped, PyData.canLay0, pPs_lay, PyData.depth]
  omega
theorem pP_eqv (z u : Int × Int) : PyData.eqv (pP z) (pP u) = decide (z = u) := by
  obtain ⟨a, b⟩ := z
  obtain ⟨c, d⟩ := u
  by_cases h1 : a = c <;> by_cases h2 : b = d <;> simp [pP, PyData.eqv, PyData.eqvAll, h1, h2]
theorem pPs_any (zs : List (Int × Int)) (u : Int × Int) : ((zs.map pP).any fun z => PyData.eqv z (pP u)) = decide (u ∈ zs) := by
  rw [List.any_map]
  by_cases h : u ∈ zs
  · rw [decide_eq_true h, List.any_eq_true]
    exact ⟨u, h, by simp [Function.comp, pP_eqv]⟩
  · rw [decide_eq_false h, List.any_eq_false]
    intro z hz
    simp only [Function.comp, pP_eqv, decide_eq_true_eq]
    rintro rfl
    exact h hz
section
variable {c : Cfg} {s : NS} {R : Vw → NS → Prop} {ta tb te : TE} {K' : PySem.W.Frag}
theorem ls_da {σ : L2.St} {G H Hs : Hp} {v : V} {w : Vw} {ds : List D} {ps : List PyData} (t : At c s σ G H) (r : VwR c Hs s σ G H v w) (e : lsOf s w = some ds) (q : PyAll ds ps) : Da c.K H v (.list ps) := by
  obtain ⟨a, xs, rfl, h, rp⟩ := ls_at t r e
  exact .lst (SqL.of h) (DaAll.mono t.gh _ (rp.da ps q))
/-- == of data -/
theorem e_eqD (h : wE c ta s fun w s1 => wE c tb s1 fun u s2 => ∃ d e p q, w = .d d ∧ u = .d e ∧ Py d p ∧ Py e q ∧ SeqAt.shaped p = true ∧ SeqAt.shaped q = true ∧ R (.d (.bl (PyData.eqv p q))) s2) (hK : K' = c.K := by rfl) : wE c (tOp (rEqD K') ta tb) s R := by
  subst hK
  refine e_op h fun σ G H Hs v x w u s2 Q t r1 r2 ⟨d, e, p, q, e1, e2, hp, hq, sp, sq, z⟩ k => ?_
  subst e1 e2
  have d1 := Da.mono t.gh _ (Rp.da p hp (show Rp c.K G v d from r1))
  have d2 := Da.mono t.gh _ (Rp.da q hq (show Rp c.K G x e from r2))
  exact ⟨p, q, Da.dp p (SeqAt.canLay_of_shaped sp) d1, Da.dp q (SeqAt.canLay_of_shaped sq) d2, sp, sq, k _ (.d (.bl _)) s2 G H z t .refl (Rp.bl _)⟩
theorem e_neD (h : wE c ta s fun w s1 => wE c tb s1 fun u s2 => ∃ d e p q, w = .d d ∧ u = .d e ∧ Py d p ∧ Py e q ∧ SeqAt.shaped p = true ∧ SeqAt.shaped q = true ∧ R (.d (.bl (!PyData.eqv p q))) s2) (hK : K' = c.K := by rfl) : wE c (tOp (rNeD K') ta tb) s R := by
  subst hK
  refine e_op h fun σ G H Hs v x w u s2 Q t r1 r2 ⟨d, e, p, q, e1, e2, hp, hq, sp, sq, z⟩ k => ?_
  subst e1 e2
  have d1 := Da.mono t.gh _ (Rp.da p hp (show Rp c.K G v d from r1))
  have d2 := Da.mono t.gh _ (Rp.da q hq (show Rp c.K G x e from r2))
  exact ⟨p, q, Da.dp p (SeqAt.canLay_of_shaped sp) d1, Da.dp q (SeqAt.canLay_of_shaped sq) d2, sp, sq, k _ (.d (.bl _)) s2 G H z t .refl (Rp.bl _)⟩
/-- a list == [] -/
theorem e_eqNil (h : wE c ta s fun w s1 => wE c tb s1 fun u s2 => ∃ ds, lsOf s2 w = some ds ∧ lsOf s2 u = some [] ∧ R (.d (.bl ds.isEmpty)) s2) (hK : K' = c.K := by rfl) : wE c (tOp (rEqNil K') ta tb) s R := by
  subst hK
  refine e_op h fun σ G H Hs v x w u s2 Q t r1 r2 ⟨ds, e1, e2, p⟩ k => ?_
  obtain ⟨a, xs, rfl, h1, p1⟩ := ls_at t r1 e1
  obtain ⟨b, ys, rfl, h2, p2⟩ := ls_at t r2 e2
  cases p2
  refine ⟨a, b, xs, rfl, rfl, SqL.of h1, SqL.of h2, ?_⟩
  have e : xs.isEmpty = ds.isEmpty := by cases p1 <;> rfl
  rw [e]
  exact k _ (.d (.bl _)) s2 G H p t .refl (Rp.bl _)
theorem e_neNil (h : wE c ta s fun w s1 => wE c tb s1 fun u s2 => ∃ ds, lsOf s2 w = some ds ∧ lsOf s2 u = some [] ∧ R (.d (.bl (!ds.isEmpty))) s2) (hK : K' = c.K := by rfl) : wE c (tOp (rNeNil K') ta tb) s R := by
  subst hK
  refine e_op h fun σ G H Hs v x w u s2 Q t r1 r2 ⟨ds, e1, e2, p⟩ k => ?_
  obtain ⟨a, xs, rfl, h1, p1⟩ := ls_at t r1 e1
  obtain ⟨b, ys, rfl, h2, p2⟩ := ls_at t r2 e2
  cases p2
  refine ⟨a, b, xs, rfl, rfl, SqL.of h1, SqL.of h2, ?_⟩
  have e : xs.isEmpty = ds.isEmpty := by cases p1 <;> rfl
  rw [e]
  exact k _ (.d (.bl _)) s2 G H p t .refl (Rp.bl _)
/-- in, not in a list of data -/
theorem e_in (h : wE c ta s fun w s1 => wE c tb s1 fun u s2 => ∃ d ds p ps, w = .d d ∧ lsOf s2 u = some ds ∧ Py d p ∧ PyAll ds ps ∧ SeqAt.shaped p = true ∧ SeqAt.shaped (.list ps) = true ∧ R (.d (.bl (ps.any fun z => PyData.eqv z p))) s2) (hK : K' = c.K := by rfl) : wE c (tOp (rInD K') ta tb) s R := by
  subst hK
  refine e_op h fun σ G H Hs v x w u s2 Q t r1 r2 ⟨d, ds, p, ps, e1, e2, hp, hq, sp, sq, z⟩ k => ?_
  subst e1
  have d1 := Da.mono t.gh _ (Rp.da p hp (show Rp c.K G v d from r1))
  exact ⟨p, ps, Da.dp p (SeqAt.canLay_of_shaped sp) d1, Da.dp _ (SeqAt.canLay_of_shaped sq) (ls_da t r2 e2 hq), sp, sq, k _ (.d (.bl _)) s2 G H z t .refl (Rp.bl _)⟩
theorem e_notIn (h : wE c ta s fun w s1 => wE c tb s1 fun u s2 => ∃ d ds p ps, w = .d d ∧ lsOf s2 u = some ds ∧ Py d p ∧ PyAll ds ps ∧ SeqAt.shaped p = true ∧ SeqAt.shaped (.list ps) = true ∧ R (.d (.bl (!ps.any fun z => PyData.eqv z p))) s2) (hK : K' = c.K := by rfl) : wE c (tOp (rNotInD K') ta tb) s R := by
  subst hK
  refine e_op h fun σ G H Hs v x w u s2 Q t r1 r2 ⟨d, ds, p, ps, e1, e2, hp, hq, sp, sq, z⟩ k => ?_
  subst e1
  have d1 := Da.mono t.gh _ (Rp.da p hp (show Rp c.K G v d from r1))
  exact ⟨p, ps, Da.dp p (SeqAt.canLay_of_shaped sp) d1, Da.dp _ (SeqAt.canLay_of_shaped sq) (ls_da t r2 e2 hq), sp, sq, k _ (.d (.bl _)) s2 G H z t .refl (Rp.bl _)⟩
/-- a pair in a list of pairs -/
theorem e_inP (h : wE c ta s fun w s1 => wE c tb s1 fun u s2 => ∃ (a b : Int) (zs : List (Int × Int)), w = .d (.tup [.int a, .int b]) ∧ lsOf s2 u = some (zs.map pD) ∧ R (.d (.bl (decide ((a, b) ∈ zs)))) s2) (hK : K' = c.K := by rfl) : wE c (tOp (rInD K') ta tb) s R := by
  refine e_in (h.imp fun w s1 h => h.imp fun u s2 ⟨a, b, zs, e1, e2, r⟩ => ⟨pD (a, b), _, _, _, e1, e2, py_pair _, py_pairs zs, pP_shaped _, pPs_shaped _, ?_⟩) hK
  rw [pPs_any]
  exact r
theorem e_notInP (h : wE c ta s fun w s1 => wE c tb s1 fun u s2 => ∃ (a b : Int) (zs : List (Int × Int)), w = .d (.tup [.int a, .int b]) ∧ lsOf s2 u = some (zs.map pD) ∧ R (.d (.bl (!decide ((a, b) ∈ zs)))) s2) (hK : K' = c.K := by rfl) : wE c (tOp (rNotInD K') ta tb) s R := by
  refine e_notIn (h.imp fun w s1 h => h.imp fun u s2 ⟨a, b, zs, e1, e2, r⟩ => ⟨pD (a, b), _, _, _, e1, e2, py_pair _, py_pairs zs, pP_shaped _, pPs_shaped _, ?_⟩) hK
  rw [pPs_any]
  exact r
/-- repr(x) -/
def ReprOk (c : Cfg) : Prop := OffK c.K ∧ ∀ s σ G H, At c s σ G H → Sys H
theorem e_repr (ok : ReprOk c) (h : wE c te s fun w s1 => ∃ d p, w = .d d ∧ Py d p ∧ PyData.showable p = true ∧ p.shown.length ≤ sizeLine ∧ p.depth ≤ 60 ∧ R (.d (.str p.shown)) s1) (hK : K' = c.K := by rfl) : wE c (tCB (rRepr K') (tCons te tNil)) s R := by
  subst hK
  refine e_cb1 h fun σ G H Hs v w s2 Q t r ⟨d, p, e, q, h1, h2, h3, z⟩ k => ?_
  subst e
  exact ⟨v, p, rfl, Da.mono t.gh _ (Rp.da p q (show Rp c.K G v d from r)), ok.2 _ _ _ _ t, h1, h2, h3, k _ (.d (.str _)) s2 G H z t .refl (Rp.str _)⟩
/-- isinstance(x, int) and the like -/
def tyN : D → Option String
  | .non => some "NoneType" | .bl _ => some "bool" | .int _ => some "int" | .str _ => some "str" | .lst _ => some "list" | .tup _ => some "tuple" | .dK _ => some "dict" | _ => none
theorem tyX_at {G : Hp} {K : PySem.W.Frag} {v : V} {d : D} {n : String} (r : Rp K G v d) (e : tyN d = some n) : TyX K G v (.type n) := by
  cases r <;> simp only [tyN, Option.some.injEq, reduceCtorEq] at e <;> subst e
  · exact .base .non
  · exact .base (.bl _)
  · exact .base (.int _)
  · exact .base (.str _)
  · rename_i h _; exact .base (.lst h)
  · rename_i h _; exact .base (.tup h)
  · rename_i h _; exact .base (.dK h)

theorem TyX.mono {K : PySem.W.Frag} {G H : Hp} {v : V} {d : D} {n : String} (e : Ex G H) (r : Rp K G v d) (q : tyN d = some n) : TyX K H v (.type n) := tyX_at (r.mono e) q
/-- isinstance(x, T), T a built-in type -/
theorem e_isi (h : wE c ta s fun w s1 => wE c tb s1 fun u s2 => ∃ d n T b, w = .d d ∧ u = .d (.ty T) ∧ tyN d = some n ∧ PySem.W.kitOne c.K (.type n) (.type T) = some b ∧ R (.d (.bl b)) s2) (hK : K' = c.K := by rfl) : wE c (tCB (rIsi K') (tCons ta (tCons tb tNil))) s R := by
  subst hK
  intro σ G H Q t k
  refine h σ G H _ t fun v w s1 G1 H1 p1 t1 k1 r1 => p1 σ G1 H1 _ t1 fun x u s2 G2 H2 ⟨d, n, T, b, e1, e2, e3, e4, z⟩ t2 k2 r2 => ?_
  subst e1 e2
  cases (show Rp c.K G2 x (.ty T) from r2)
  exact ⟨v, .ty T, _, _, b, rfl, by constructor, TyX.mono t2.gh (Rp.mono k2.g (show Rp c.K G1 v d from r1)) e3, e4, k _ (.d (.bl b)) s2 G2 H2 z t2 (k1.trans k2) (Rp.bl b)⟩

/-! ### dicts with tuples as keys -/
inductive KsD : List D → List Key → Prop
  | nil : KsD [] []
  | i {n : Int} {ds : List D} {ks : List Key} : KsD ds ks → KsD (.int n :: ds) (.inl n :: ks)
  | s {x : Str} {ds : List D} {ks : List Key} : KsD ds ks → KsD (.str x :: ds) (.inr x :: ks)
theorem KsD.vs {K : PySem.W.Frag} {G : Hp} : ∀ {ds : List D} {ks : List Key} {xs : List V}, KsD ds ks → RpAll K G xs ds → xs = ks.map kV
  | _, _, _, .nil, .nil => rfl
  | _, _, _, .i t, .cons r r' => by cases r; rw [KsD.vs t r']; rfl
  | _, _, _, .s t, .cons r r' => by cases r; rw [KsD.vs t r']; rfl
theorem zip_self {α β : Type} : ∀ l : List (α × β), (l.map (·.1)).zip (l.map (·.2)) = l
  | [] => rfl
  | x :: l => by simp [zip_self l]
/-- whether the key stands in the dict -/
def hasK {α : Type} (acc : List (List Key × α)) (k : List Key) : Bool := acc.any fun p => decide (p.1 = k)
theorem hasK_iff {α : Type} {acc : List (List Key × α)} {k : List Key} : hasK acc k = true ↔ k ∈ acc.map Prod.fst := by
  unfold hasK
  simp only [List.any_eq_true, decide_eq_true_eq, List.mem_map]
theorem hasK_keys {α β : Type} {l : List (List Key × α)} {m : List (List Key × β)} {k : List Key} (e : l.map Prod.fst = m.map Prod.fst) : hasK l k = hasK m k := by
  rw [Bool.eq_iff_iff, hasK_iff, hasK_iff, e]
theorem valV_has {kvs : List (List Key × V)} {k : List Key} : (valV kvs k).isSome = hasK kvs k := by
  induction kvs with
  | nil => rfl
  | cons p r ih =>
    by_cases e : p.1 = k
    · rw [valV_pos e]; simp [hasK, e]
    · rw [valV_neg e, ih]; simp [hasK, e]
theorem putK_new {kvs : List (List Key × V)} {k : List Key} {v : V} (h : k ∉ kvs.map (·.1)) : putK kvs k v = kvs ++ [(k, v)] := by
  unfold putK
  rw [if_neg]
  simp only [List.any_eq_true, decide_eq_true_eq, not_exists, not_and]
  intro p hp e
  exact h (e ▸ List.mem_map_of_mem hp)
theorem e_inDT (h : wE c ta s fun w s1 => wE c tb s1 fun u s2 => ∃ kd k acc, w = .d (.tup kd) ∧ u = .d (.dT acc) ∧ KsD kd k ∧ R (.d (.bl (hasK acc k))) s2) : wE c (tOp rInDT ta tb) s R :=
  e_op h fun σ G H Hs v x w u s2 Q t r1 r2 ⟨kd, k, acc, e1, e2, hk, p⟩ kk => by
    subst e1 e2
    cases (show Rp c.K G v (.tup kd) from r1) with
    | tup h1 h2 =>
      rw [hk.vs h2] at h1
      generalize e : D.dT acc = d at r2
      cases (show Rp c.K G x d from r2) with
      | @dT a kvs ds h3 h4 =>
        cases e
        have l : (kvs.map (·.1)).length = ds.length := by rw [List.length_map, ← h4.len, List.length_map]
        have ek : (List.map Prod.fst ((kvs.map (·.1)).zip ds)) = kvs.map (·.1) := by rw [List.map_fst_zip (by omega)]
        rw [hasK_keys ek] at p
        refine ⟨_, _, k, kvs, rfl, rfl, t.gh _ _ h3, t.gh _ _ h1, ?_⟩
        rw [valV_has]
        exact kk _ (.d (.bl _)) s2 G H p t .refl (Rp.bl _)
      | _ => cases e
theorem e_notInDT (h : wE c ta s fun w s1 => wE c tb s1 fun u s2 => ∃ kd k acc, w = .d (.tup kd) ∧ u = .d (.dT acc) ∧ KsD kd k ∧ R (.d (.bl (!hasK acc k))) s2) : wE c (tOp rNotInDT ta tb) s R :=
  e_op h fun σ G H Hs v x w u s2 Q t r1 r2 ⟨kd, k, acc, e1, e2, hk, p⟩ kk => by
    subst e1 e2
    cases (show Rp c.K G v (.tup kd) from r1) with
    | tup h1 h2 =>
      rw [hk.vs h2] at h1
      generalize e : D.dT acc = d at r2
      cases (show Rp c.K G x d from r2) with
      | @dT a kvs ds h3 h4 =>
        cases e
        have l : (kvs.map (·.1)).length = ds.length := by rw [List.length_map, ← h4.len, List.length_map]
        have ek : (List.map Prod.fst ((kvs.map (·.1)).zip ds)) = kvs.map (·.1) := by rw [List.map_fst_zip (by omega)]
        rw [hasK_keys ek] at p
        refine ⟨_, _, k, kvs, rfl, rfl, t.gh _ _ h3, t.gh _ _ h1, ?_⟩
        rw [valV_has]
        exact kk _ (.d (.bl _)) s2 G H p t .refl (Rp.bl _)
      | _ => cases e
/-- a thing that is neither data nor the frame's own, of any kind -/
theorem Kp.thing' {σ : L2.St} {G H G' H' : Hp} {s' : NS} (k : Kp c s σ G H s' G' H') {L : Addr} {o : HO} (nt : c.nt o) (u : ¬ c.isU L) (n : ∀ i, ¬ Own s σ i L) (g : G L = none) (h : H L = some o) (ntp : ∀ xs, o ≠ .tup xs := by exact fun _ z => nomatch z) : G' L = none ∧ H' L = some o := by
  refine ⟨?_, k.h L _ h nt u n⟩
  cases q : G' L with
  | none => rfl
  | some o =>
    rcases k.n L (by rw [q]; exact fun z => nomatch z) with z | z | ⟨i, z⟩
    · exact absurd g z
    · rcases z with z | ⟨ys, z⟩
      · exact (z.no h nt).elim
      · rw [h] at z; cases z; exact absurd rfl (ntp ys)
    · exact absurd z (n i)
/-- {k: v for target in iter if ..}, new keys alone -/
theorem e_dcT {wi : TI} {tt : TT} {tk tv : TE} {g : TG} {vs : List Nat} (h : wI c wi s fun ds s1 => ∃ J : Nat → List (List Key × D) → Nat → Prop, ds.length < sizeLine ∧ J 0 [] s1.b ∧
      (∀ i d acc b, ds[i]? = some d → J i acc b → acc.length ≤ i → wG c g (fun i => i ∈ vs) d ⟨wipeγ s1.γ vs, b⟩ fun s2 => wT c tt s2 fun k s3 => if k = true then wD c tk s3 fun kd s4 => wD c tv s4 fun y s5 => s5.γ = s2.γ ∧ ∃ kds ks, kd = .tup kds ∧ KsD kds ks ∧ ks ∉ acc.map (·.1) ∧ J (i + 1) (acc ++ [(ks, y)]) s5.b else s3.γ = s2.γ ∧ J (i + 1) acc s3.b) ∧
      ∀ acc b, J ds.length acc b → acc.length ≤ ds.length → R (.d (.dT acc)) ⟨s1.γ, b⟩) : wE c (tDcT wi g tt tk tv vs) s R := fun σ G H Q a k =>
  h σ G H _ a fun J ds s1 G1 H1 ⟨P, hz, p0, step, fin⟩ a1 kp wk => by
    intro L hL
    have hu' : ∀ i, i ∈ vs → i ∈ vs := fun _ h => h
    have h0 := a1.fresh0 (.none hL)
    have nu := a1.notU h0
    have nO : ∀ i, ¬ Own (s1.wipe vs) (L2.wipe σ vs) i L := fun i o => a1.noOwn (.none hL) i (Own.wipe o).1
    have ntd : ∀ {kvs : List (List Key × V)}, c.nt (.dT kvs) := .inr fun _ z => nomatch z
    obtain ⟨a0, k0⟩ := (a1.wipe vs).put (o := .dT []) hL
    let Wt : Nat → Hp → Prop := fun i H' => ∃ acc b G' kvs, P i acc b ∧ acc.length ≤ i ∧ At c ⟨wipeγ s1.γ vs, b⟩ (L2.wipe σ vs) G' H' ∧ Kp c (s1.wipe vs) (L2.wipe σ vs) G1 H1 ⟨wipeγ s1.γ vs, b⟩ G' H' ∧ G' L = none ∧ H' L = some (.dT kvs) ∧ kvs.map (·.1) = acc.map (·.1) ∧ RpAll c.K G' (kvs.map (·.2)) (acc.map (·.2))
    refine ⟨fun i m H' => m = ds.length - i ∧ i ≤ ds.length ∧ Wt i H', ⟨ds.length, by simp, Nat.zero_le _, [], s1.b, G1, [], p0, Nat.le_refl _, a0, k0, a1.freshG (.none hL), upd_same, rfl, .nil⟩, ?_⟩
    rintro i m H2 ⟨rfl, hi, acc, b, G2, kvs, p2, ln, a2, k2, gL, hL2, ek, rp⟩
    obtain ⟨w1, w2, w3⟩ := wk i _ _ G2 H2 k2.g a2
    by_cases lt : i < ds.length
    · refine .inr ⟨w2 lt, fun H' => Wt (i + 1) H', ?_, fun x H3 y => ?_⟩
      · rintro H' q
        exact ⟨ds.length - (i + 1), by omega, rfl, lt, q⟩
      · obtain ⟨d, G3, hd, a3, k3, r3⟩ := w3 x H3 y lt
        have hk := step i d acc b hd p2 ln
        obtain ⟨gL3, hL3⟩ := k3.thing' ntd nu nO gL hL2
        refine hk _ G3 H3 x _ a3 r3 fun σ4 s4 p4 a4 wp => ?_
        have nO4 : ∀ i, ¬ Own s4 σ4 i L := fun i o => nO i (wp.o i L o)
        have ws := (wp.w vs hu').1.trans wipe_idem
        have wg := (wp.w vs hu').2.trans wipeγ_idem
        refine ⟨ws, p4 σ4 G3 H3 _ a4 fun kk s5 G5 H5 p5 a5 k5 => ?_⟩
        obtain ⟨gL5, hL5⟩ := k5.thing' ntd nu nO4 gL3 hL3
        have nO5 : ∀ i, ¬ Own s5 σ4 i L := fun i o => nO4 i (k5.o i L o)
        have back : ∀ {s6 : NS} {G6 H6 : Hp}, Kp c s4 σ4 G3 H3 s6 G6 H6 → At c s6 σ4 G6 H6 → s6.γ = s4.γ → At c ⟨wipeγ s1.γ vs, s6.b⟩ (L2.wipe σ vs) G6 H6 ∧ Kp c (s1.wipe vs) (L2.wipe σ vs) G1 H1 ⟨wipeγ s1.γ vs, s6.b⟩ G6 H6 := by
          intro s6 G6 H6 k6 a6 e6
          have z := a6.wipe vs
          rw [ws] at z
          have e7 : s6.wipe vs = ⟨wipeγ s1.γ vs, s6.b⟩ := by
            show (⟨wipeγ s6.γ vs, s6.b⟩ : NS) = _
            rw [e6, wg]
          rw [e7] at z
          refine ⟨z, (k2.trans k3).trans ?_⟩
          exact k6.cast (fun i a o => wp.o i a o) (fun i a o => o)
        cases kk with
        | false =>
          rw [if_neg Bool.false_ne_true] at p5 ⊢
          obtain ⟨z1, z2⟩ := back k5 a5 p5.1
          exact ⟨acc, s5.b, G5, kvs, p5.2, by omega, z1, z2, gL5, hL5, ek, rp.mono (k3.g.trans k5.g)⟩
        | true =>
          rw [if_pos rfl] at p5 ⊢
          refine p5 σ4 G5 H5 _ a5 fun v e s6 G6 H6 p6 a6 k6 r6 => ?_
          obtain ⟨gL6, hL6⟩ := k6.thing' ntd nu nO5 gL5 hL5
          have nO6 : ∀ i, ¬ Own s6 σ4 i L := fun i o => nO5 i (k6.o i L o)
          refine p6 σ4 G6 H6 _ a6 fun z f s7 G7 H7 p7 a7 k7 r7 => ?_
          obtain ⟨gL7, hL7⟩ := k7.thing' ntd nu nO6 gL6 hL6
          obtain ⟨e7, kds, ks, rfl, hks, nk, p8⟩ := p7
          obtain ⟨z1, z2⟩ := back (k5.trans (k6.trans k7)) a7 e7
          cases r6 with
          | tup t1 t2 =>
            rw [hks.vs t2] at t1
            have nk' : ks ∉ kvs.map (·.1) := by rw [ek]; exact nk
            have lk : kvs.length = acc.length := by have := congrArg List.length ek; simpa using this
            refine ⟨_, ks, kvs, rfl, a7.gh _ _ (k7.g _ _ t1), hL7, by omega, acc ++ [(ks, f)], s7.b, G7, putK kvs ks z, p8, by rw [List.length_append]; exact Nat.succ_le_succ ln, z1.mut h0 nO gL7 (fun o q k => by rw [hL7] at q; cases q; rcases k with ⟨_, k⟩ | ⟨_, k⟩ <;> cases k), ⟨z2.g, fun a o h w u n => (upd_ne (by rintro rfl; rw [hL] at h; cases h)).trans (z2.h a o h w u n), z2.n, z2.o, fun a h => ?_, fun a xs h => z2.t a xs ((upd_ne (by rintro rfl; rw [upd_same] at h; cases h)).symm.trans h)⟩, gL7, upd_same, ?_, ?_⟩
            · by_cases e : a = L
              · subst e; exact (h.no upd_same ntd).elim
              · refine z2.m a fun o q n => h.no (o := o) ?_ n
                rw [upd_ne e]; exact q
            · rw [putK_new nk', List.map_append, List.map_append, ek]; rfl
            · rw [putK_new nk', List.map_append, List.map_append]
              exact (rp.mono (k3.g.trans (k5.g.trans (k6.g.trans k7.g)))).app (.cons r7 .nil)
    · have e : i = ds.length := by omega
      subst e
      refine .inl ⟨w1 (Nat.le_refl _), ?_⟩
      obtain ⟨z1, z2⟩ := a1.unwipe a2 k2
      have nOs : ∀ j, ¬ Own ⟨s1.γ, b⟩ σ j L := fun j o => a1.noOwn (.none hL) j (z2.o j L o)
      have z3 := z1.show h0 gL nOs hL2 (fun _ z => nomatch z) nu
      have eg : Ex G2 (upd G2 L (.dT kvs)) := Evl.Ex.new gL
      have rr : Rp c.K (upd G2 L (.dT kvs)) (.ref L) (.dT acc) := by
        have := Rp.dT (K := c.K) (G := upd G2 L (.dT kvs)) (a := L) upd_same (rp.mono eg)
        rw [ek, zip_self] at this
        exact this
      refine k _ (.d (.dT acc)) ⟨s1.γ, b⟩ _ H2 (fin acc b p2 ln) z3 (kp.trans ⟨z2.g.trans eg, z2.h, fun a h => ?_, z2.o, z2.m, z2.t⟩) rr
      by_cases e : a = L
      · subst e; exact .inr (.inl (.none hL))
      · rw [upd_ne e] at h; exact z2.n a h
end
end Kn
/-! Kn6: squares as data. -/
namespace Kn
open PySem PySem.Spec PyProof.Rows L2 Kg
open Evl (Ex)
theorem perm_map {α β : Type} (f : α → β) : ∀ {zs : List α} {fs : List β}, fs.Perm (zs.map f) → ∃ us : List α, us.Perm zs ∧ fs = us.map f
  | [], fs, h => ⟨[], .refl _, by simpa using h⟩
  | z :: zs, fs, h => by
    have m : f z ∈ fs := h.symm.subset (by simp)
    obtain ⟨l1, l2, rfl⟩ := List.append_of_mem m
    have h2 : (l1 ++ l2).Perm (zs.map f) := (List.perm_cons (f z)).mp ((List.perm_middle.symm).trans h)
    obtain ⟨us, pu, e⟩ := perm_map f h2
    obtain ⟨u1, u2, rfl, rfl, rfl⟩ := List.append_eq_map_iff.mp e
    exact ⟨u1 ++ z :: u2, List.perm_middle.trans (pu.cons z), by simp⟩
/-- the squares that a value tells -/
def sqs (d : PyData) : List (Int × Int) := match seqOf d with
  | some ds => prs ds
  | none => []
theorem sqs_of {d : PyData} {ds : List PyData} (h : seqOf d = some ds) : sqs d = prs ds := by unfold sqs; rw [h]
theorem sqs_nodup {d : PyData} (h : areSq d = true) : (sqs d).Nodup := by
  unfold areSq at h
  unfold sqs
  cases e : seqOf d with
  | none => rw [e] at h; cases h
  | some ds =>
    rw [e] at h
    obtain ⟨h1, h2⟩ := Bool.and_eq_true_iff.mp h
    rw [prs_some h1] at h2
    exact (nodup_some _).mp (of_decide_eq_true h2)
def Short (d : PyData) : Prop := ∀ ds, seqOf d = some ds → ds.length < 60
theorem prs_len : ∀ ds : List PyData, (prs ds).length ≤ ds.length := fun ds => List.length_filterMap_le _ _
theorem Short.sqs {d : PyData} (h : Short d) : (sqs d).length < 60 := by
  unfold Kn.sqs
  cases e : seqOf d with
  | none => decide
  | some ds => exact Nat.lt_of_le_of_lt (prs_len ds) (h ds e)
/-- a square as a tuple or as a list -/
inductive SqI : D → Int × Int → Prop
  | t (a b : Int) : SqI (.tup [.int a, .int b]) (a, b)
  | l (a b : Int) : SqI (.lst [.int a, .int b]) (a, b)
inductive SqIs : List D → List (Int × Int) → Prop
  | nil : SqIs [] []
  | cons {d : D} {z : Int × Int} {ds : List D} {zs : List (Int × Int)} : SqI d z → SqIs ds zs → SqIs (d :: ds) (z :: zs)
theorem SqIs.len : ∀ {ds : List D} {zs : List (Int × Int)}, SqIs ds zs → ds.length = zs.length
  | _, _, .nil => rfl
  | _, _, .cons _ t => by simp [SqIs.len t]
theorem SqIs.app : ∀ {ds es : List D} {zs us : List (Int × Int)}, SqIs ds zs → SqIs es us → SqIs (ds ++ es) (zs ++ us)
  | _, _, _, _, .nil, h => h
  | _, _, _, _, .cons h t, g => .cons h (SqIs.app t g)
theorem SqIs.pairs : ∀ zs : List (Int × Int), SqIs (zs.map pD) zs
  | [] => .nil
  | z :: zs => .cons (.t z.1 z.2) (SqIs.pairs zs)
theorem SqIs.py : ∀ {ds : List D} {zs : List (Int × Int)}, SqIs ds zs → ∃ ps, PyAll ds ps ∧ ps.map sqOf = zs.map some
  | _, _, .nil => ⟨[], .nil, rfl⟩
  | _, _, .cons h t => by
    obtain ⟨ps, h1, h2⟩ := SqIs.py t
    cases h with
    | t a b => exact ⟨.tuple [.int a, .int b] :: ps, .cons (.tup (.cons (.int a) (.cons (.int b) .nil))) h1, by rw [List.map_cons, h2]; rfl⟩
    | l a b => exact ⟨.list [.int a, .int b] :: ps, .cons (.lst (.cons (.int a) (.cons (.int b) .nil))) h1, by rw [List.map_cons, h2]; rfl⟩
/-- squares as a list or a tuple -/
def SqsD (d : D) (zs : List (Int × Int)) : Prop := ∃ es, (d = .lst es ∨ d = .tup es) ∧ SqIs es zs
theorem are_of {ps : List PyData} {zs : List (Int × Int)} (h : ps.map sqOf = zs.map some) (nd : zs.Nodup) {p : PyData} (e : seqOf p = some ps) : areSq p = true ∧ sqs p = zs := by
  have all : ps.all isSq = true := by
    rw [List.all_eq_true]
    intro x hx
    have : sqOf x ∈ zs.map some := h ▸ List.mem_map_of_mem hx
    obtain ⟨z, _, hz⟩ := List.mem_map.mp this
    unfold isSq
    rw [← hz]; rfl
  have pr : prs ps = zs := by
    have := prs_some all
    rw [h] at this
    exact ((List.map_inj_right fun _ _ e => Option.some.inj e).mp this).symm
  refine ⟨?_, by rw [sqs_of e, pr]⟩
  unfold areSq
  rw [e]
  simp only [Bool.and_eq_true, decide_eq_true_eq]
  exact ⟨all, by rw [h]; exact (nodup_some _).mpr nd⟩
theorem SqsD.py {d : D} {zs : List (Int × Int)} (h : SqsD d zs) (nd : zs.Nodup) : ∃ p, Py d p ∧ areSq p = true ∧ sqs p = zs ∧ (zs.length < 60 → Short p) := by
  obtain ⟨es, e, hs⟩ := h
  obtain ⟨ps, h1, h2⟩ := hs.py
  have l : ps.length = zs.length := by have := congrArg List.length h2; simpa using this
  rcases e with rfl | rfl
  · obtain ⟨a, b⟩ := are_of (p := .list ps) h2 nd rfl
    exact ⟨.list ps, .lst h1, a, b, fun hl ds e => by cases e; omega⟩
  · obtain ⟨a, b⟩ := are_of (p := .tuple ps) h2 nd rfl
    exact ⟨.tuple ps, .tup h1, a, b, fun hl ds e => by cases e; omega⟩
theorem srtd_pair {ys : List V} {k : V → Int × Int} {zs : List (Int × Int)} (s : SrtO.Srtd (ltP k) ys) (p : (ys.map k).Perm zs) (nd : zs.Nodup) : (ys.map k).Pairwise pLt := by
  have nd' : (ys.map k).Nodup := p.symm.nodup nd
  rw [List.pairwise_map]
  have ne := List.pairwise_map.mp nd'
  refine List.Pairwise.imp₂ ?_ s ne
  intro x y h n
  by_cases c : pLt (k x) (k y)
  · exact c
  · have g := pLt_or n c
    have : ltP k y x = true := by
      show SrtO.lexB (k y) (k x) = true
      unfold SrtO.lexB
      rcases g with g | ⟨g1, g2⟩
      · simp [g]; omega
      · simp [g1, g2]
    rw [this] at h; cases h
/-! ### squares as keys -/
def dSq (zs : List (Int × Int)) : D := .dT (zs.map fun z => (keyS z, .bl true))
theorem ks_pair (a b : Int) : KsD [.int a, .int b] (keyS (a, b)) := .i (.i .nil)
theorem dSq_has (zs : List (Int × Int)) (z : Int × Int) : hasK (zs.map fun z => (keyS z, D.bl true)) (keyS z) = decide (z ∈ zs) := by
  rw [Bool.eq_iff_iff, hasK_iff, decide_eq_true_eq, List.map_map]
  constructor
  · intro h
    obtain ⟨u, hu, e⟩ := List.mem_map.mp h
    exact keyS_inj.mp e ▸ hu
  · intro h
    exact List.mem_map.mpr ⟨z, h, rfl⟩
section
variable {c : Cfg} {s : NS} {R : Vw → NS → Prop} {ta tb te : TE} {wi : TI} {tt : TT} {g : TG}
theorem e_inSq (h : wE c ta s fun w s1 => wE c tb s1 fun u s2 => ∃ (a b : Int) (zs : List (Int × Int)), w = .d (.tup [.int a, .int b]) ∧ u = .d (dSq zs) ∧ R (.d (.bl (decide ((a, b) ∈ zs)))) s2) : wE c (tOp rInDT ta tb) s R := by
  refine e_inDT (h.imp fun w s1 h => h.imp fun u s2 ⟨a, b, zs, e1, e2, r⟩ => ⟨_, keyS (a, b), _, e1, e2, ks_pair a b, ?_⟩)
  rw [dSq_has]
  exact r
theorem e_notInSq (h : wE c ta s fun w s1 => wE c tb s1 fun u s2 => ∃ (a b : Int) (zs : List (Int × Int)), w = .d (.tup [.int a, .int b]) ∧ u = .d (dSq zs) ∧ R (.d (.bl (!decide ((a, b) ∈ zs)))) s2) : wE c (tOp rNotInDT ta tb) s R := by
  refine e_notInDT (h.imp fun w s1 h => h.imp fun u s2 ⟨a, b, zs, e1, e2, r⟩ => ⟨_, keyS (a, b), _, e1, e2, ks_pair a b, ?_⟩)
  rw [dSq_has]
  exact r
/-- {square: True for square in squares} -/
theorem e_dcSq {i : Nat} {vs : List Nat} (hu : i ∈ vs) (h : wI c wi s fun ds s1 => ∃ zs : List (Int × Int), ds = zs.map pD ∧ i < s1.γ.length ∧ zs.Nodup ∧ zs.length < sizeLine ∧ R (.d (dSq zs)) s1) : wE c (tDcT wi (gName i) tYes (tVar i) (tC (.bl true)) vs) s R := by
  refine e_dcT (fun σ G H Q t k => h σ G H Q t fun J ds s1 G1 H1 ⟨zs, e, hi, nd, hz, r⟩ => k J ds s1 G1 H1 ⟨fun i acc b => acc = (zs.take i).map (fun z => (keyS z, .bl true)) ∧ b = s1.b, by rw [e, List.length_map]; exact hz, ⟨rfl, rfl⟩, ?_, ?_⟩)
  · rintro n d acc b hd ⟨rfl, rfl⟩ ln
    subst e
    rw [List.getElem?_map] at hd
    obtain ⟨z, hz, rfl⟩ := Option.map_eq_some_iff.mp hd
    refine g_name hu (t_yes ?_)
    rw [if_pos rfl]
    refine wD_e (e_var (x := .d (pD z)) ?_ rfl (toD_d ?_))
    · show ((wipeγ s1.γ vs).set i (.d (pD z)))[i]? = _
      rw [List.getElem?_set_self (by rw [wipeγ_len]; exact hi)]
    · refine wD_e (e_bl (toD_d ⟨rfl, _, keyS z, rfl, ks_pair _ _, ?_, ?_, rfl⟩))
      · intro h
        rw [List.map_map] at h
        obtain ⟨u, hu, e⟩ := List.mem_map.mp h
        have e : u = z := keyS_inj.mp e
        subst e
        exact ((nodup_next hz).mp (nd.sublist (List.take_sublist _ _))).2 hu
      · rw [take_one hz, List.map_append]; rfl
  · rintro acc b ⟨rfl, rfl⟩ _
    rw [e, List.length_map, List.take_length]
    exact r
/-- a list comprehension that draws nothing -/
theorem e_lcP {vs : List Nat} (h : wI c wi s fun ds s1 => ∃ (α : Type) (zs : List α) (enc : α → D) (f : α → Option D), ds = zs.map enc ∧ zs.length < sizeLine ∧
    (∀ z ∈ zs, wG c g (fun i => i ∈ vs) (enc z) ⟨wipeγ s1.γ vs, s1.b⟩ fun s2 => wT c tt s2 fun k s3 => if k = true then wD c te s3 fun y s4 => s4.γ = s2.γ ∧ s4.b = s1.b ∧ f z = some y else s3.γ = s2.γ ∧ s3.b = s1.b ∧ f z = none) ∧ R (.f (zs.filterMap f)) s1) :
    wE c (tLc wi g tt te vs) s R := by
  refine e_lc (fun σ G H Q t k => h σ G H Q t fun J ds s1 G1 H1 ⟨α, zs, enc, f, e, hz, step, r⟩ => k J ds s1 G1 H1 ⟨fun i acc b => acc = (zs.take i).filterMap f ∧ b = s1.b, by rw [e, List.length_map]; exact hz, ⟨rfl, rfl⟩, ?_, ?_⟩)
  · rintro n d acc b hd ⟨rfl, rfl⟩ ln
    subst e
    rw [List.getElem?_map] at hd
    obtain ⟨z, hz, rfl⟩ := Option.map_eq_some_iff.mp hd
    intro σ G H v Q t r kk
    refine step z (List.mem_of_getElem? hz) σ G H v Q t r fun σ' s' p a w => kk σ' s' ?_ a w
    intro σ2 G2 H2 Q2 t2 k2
    refine p σ2 G2 H2 Q2 t2 fun b s3 G3 H3 p3 => k2 b s3 G3 H3 ?_
    cases b with
    | false =>
      simp only [Bool.false_eq_true, if_false] at p3 ⊢
      refine ⟨p3.1, ?_, p3.2.1⟩
      rw [take_one hz, List.filterMap_append, List.filterMap_cons_none p3.2.2, List.filterMap_nil, List.append_nil]
    | true =>
      simp only [if_true] at p3 ⊢
      intro σ4 G4 H4 Q4 t4 k4
      refine p3 σ4 G4 H4 Q4 t4 fun v d s' G' H' p5 => k4 v d s' G' H' ⟨p5.1, ?_, p5.2.1⟩
      rw [take_one hz, List.filterMap_append, List.filterMap_cons_some p5.2.2, List.filterMap_nil]
  · rintro acc b ⟨rfl, rfl⟩ _
    rw [e, List.length_map, List.take_length]
    exact r
end
/-- what stands in G, and what is new (but tables) -/
def isTb : HO → Bool
  | .tbl _ => true
  | _ => false
theorem nt_of {o : HO} (h : isTb o = false) : Nt o := by
  rintro ps rfl
  cases h
def joinH (G H H' : Hp) : Hp := fun a => match G a with
  | some o => some o
  | none => match H a with
    | none => (H' a).filter fun o => !isTb o
    | some _ => none
theorem join_g {G H H' : Hp} : Ex G (joinH G H H') := fun a o h => by unfold joinH; rw [h]
theorem join_n {G H H' : Hp} {a : Addr} {o : HO} (eg : Ex G H) (n : isTb o = false) (h : H a = none) (h' : H' a = some o) : joinH G H H' a = some o := by
  unfold joinH
  cases q : G a with
  | none => simp only [h, h', Option.filter, n, Bool.not_false, if_true]
  | some u => rw [eg a u q] at h; cases h
theorem join_of {G H H' : Hp} {a : Addr} {o : HO} (h : joinH G H H' a = some o) : G a = some o ∨ (H a = none ∧ H' a = some o ∧ isTb o = false) := by
  unfold joinH at h
  cases q : G a with
  | some u => rw [q] at h; exact .inl h
  | none =>
    rw [q] at h
    cases q2 : H a with
    | none =>
      simp only [q2, Option.filter_eq_some_iff] at h
      exact .inr ⟨rfl, h.1, by simpa using h.2⟩
    | some u => rw [q2] at h; cases h
/-- the new data of a def of the old kind -/
theorem join_ok {G H H' : Hp} (eg : Ex G H) (gt : ∀ a o, G a = some o → Nt o) (e : Ex H H') : Ex G (joinH G H H') ∧ Ex (joinH G H H') H' ∧ (∀ a o, joinH G H H' a = some o → Nt o) ∧ ∀ a, joinH G H H' a ≠ none → G a ≠ none ∨ H a = none := by
  refine ⟨join_g, fun a o h => (join_of h).elim (fun h => e _ _ (eg _ _ h)) fun h => h.2.1, fun a o h => (join_of h).elim (fun h => gt a o h) fun h => nt_of h.2.2, fun a h => ?_⟩
  cases q : joinH G H H' a with
  | none => exact absurd q h
  | some o => exact (join_of q).elim (fun h => .inl (by rw [h]; exact fun z => nomatch z)) fun h => .inr h.1
end Kn
/-! Kn7: calls by keyword; defs that show things (repr). -/
namespace Kn
open PySem PySem.Spec PyProof.Rows L2 Kg
open Evl (Ex)
section
variable {c : Cfg} {s : NS} {R : Vw → NS → Prop} {tk : TA} {K' : PySem.W.Frag} {H : Hp}
theorem e_callK {φ : List D → (D → Prop) → Er → Prop} {E : XK} {X : Er} {gV : List V → List V → List V} {gD : List D → List D} (hg : ∀ G vs ds, RpAll c.K G vs ds → RpAll c.K G (gV [] vs) (gD ds)) (hE : ErrIn c E X)
    (h : wA c tk s fun ds s1 => φ (gD ds) (fun d => R (.d d) s1) X) (hK : K' = c.K := by rfl) : wE c (tCallK (spP K' φ) gV E tNil tk) s R := by
  subst hK
  refine fun σ G H Q t k => h σ G H _ t fun vs ds s1 G1 H1 p t1 k1 r1 => ?_
  refine ⟨G1, gD ds, _, X, t1.gh, t1.gt, hg _ _ _ r1, p, fun v d G' H' q hh eg gh gt nw rp => ?_, hE s1 σ G1 H1 t1⟩
  obtain ⟨t2, k2⟩ := t1.grow eg hh gh gt (fun a h => (nw a h).imp id Nw.fw)
  exact k v (.d d) s1 G' H' q t2 (k1.trans k2) rp
def g1 : List D → List D
  | [a] => [a]
  | _ => []
def g2 : List D → List D
  | [a, b] => [a, b]
  | _ => []
def g2' : List D → List D
  | [a, b] => [b, a]
  | _ => []
/-- .. with one -/
theorem e_callK1 {φ : List D → (D → Prop) → Er → Prop} {E : XK} {X : Er} {gV : List V → List V → List V} (h0 : gV [] [] = []) (h1 : ∀ a, gV [] [a] = [a]) (h2 : ∀ a b vs, gV [] (a :: b :: vs) = []) (hE : ErrIn c E X)
    (h : wA c tk s fun ds s1 => φ (g1 ds) (fun d => R (.d d) s1) X) (hK : K' = c.K := by rfl) : wE c (tCallK (spP K' φ) gV E tNil tk) s R := by
  refine e_callK (gD := g1) (fun G vs ds r => ?_) hE h hK
  cases r with
  | nil => rw [h0]; exact .nil
  | cons a r =>
    cases r with
    | nil => rw [h1]; exact .cons a .nil
    | cons b r => rw [h2]; exact .nil
theorem e_callK2 {φ : List D → (D → Prop) → Er → Prop} {E : XK} {X : Er} {gV : List V → List V → List V} (h0 : gV [] [] = []) (h1 : ∀ a, gV [] [a] = []) (h2 : ∀ a b, gV [] [a, b] = [a, b]) (h3 : ∀ a b d vs, gV [] (a :: b :: d :: vs) = []) (hE : ErrIn c E X)
    (h : wA c tk s fun ds s1 => φ (g2 ds) (fun d => R (.d d) s1) X) (hK : K' = c.K := by rfl) : wE c (tCallK (spP K' φ) gV E tNil tk) s R := by
  refine e_callK (gD := g2) (fun G vs ds r => ?_) hE h hK
  cases r with
  | nil => rw [h0]; exact .nil
  | cons a r =>
    cases r with
    | nil => rw [h1]; exact .nil
    | cons b r =>
      cases r with
      | nil => rw [h2]; exact .cons a (.cons b .nil)
      | cons d r => rw [h3]; exact .nil
theorem e_callK2' {φ : List D → (D → Prop) → Er → Prop} {E : XK} {X : Er} {gV : List V → List V → List V} (h0 : gV [] [] = []) (h1 : ∀ a, gV [] [a] = []) (h2 : ∀ a b, gV [] [a, b] = [b, a]) (h3 : ∀ a b d vs, gV [] (a :: b :: d :: vs) = []) (hE : ErrIn c E X)
    (h : wA c tk s fun ds s1 => φ (g2' ds) (fun d => R (.d d) s1) X) (hK : K' = c.K := by rfl) : wE c (tCallK (spP K' φ) gV E tNil tk) s R := by
  refine e_callK (gD := g2') (fun G vs ds r => ?_) hE h hK
  cases r with
  | nil => rw [h0]; exact .nil
  | cons a r =>
    cases r with
    | nil => rw [h1]; exact .nil
    | cons b r =>
      cases r with
      | nil => rw [h2]; exact .cons b (.cons a .nil)
      | cons d r => rw [h3]; exact .nil
/-! ### what shows things: the modules' dict is known -/
def spR (K : PySem.W.Frag) (φ : Nat → List D → (Nat → D → Prop) → Prop) : Sp := fun vs H Q E => OffK K ∧ Sys H ∧ (∀ j us, vs = .ref j :: us → sysModules ≠ j) ∧ spU K φ vs H Q E
theorem e_callR {φ : Nat → List D → (Nat → D → Prop) → Prop} {E : XK} {i : Nat} (ok : ReprOk c) (nj : sysModules ≠ c.j) (hi : s.γ[i]? = some .ur) (h : wA c tk s fun ds s1 => φ s1.b ds fun b' d => R (.d d) { s1 with b := b' }) (hK : K' = c.K := by rfl) :
    wE c (tCall (spR K' φ) [] E (tCons (tVar i) tk)) s R := by
  subst hK
  refine fun σ G H Q t k => ?_
  obtain ⟨hu, hj⟩ := t.sl i _ hi
  refine ⟨.ref c.j, hj, h σ G H _ t fun vs ds s1 G1 H1 p t1 k1 r1 => ?_⟩
  refine ⟨ok.1, ok.2 _ _ _ _ t1, fun j us e => ?_, ?_⟩
  · rw [List.append_nil] at e
    cases e
    exact nj
  refine ⟨G1, c.j, s1.b, vs, ds, _, by rw [List.append_nil], t1.gh, t1.gt, t1.gj _ ⟨hu, rfl⟩, t1.ur hu, r1, p, fun v d b' G' H' q hh eg gh gt nw u rp => ?_⟩
  obtain ⟨t2, k2⟩ := t1.drew hu hh eg gh gt nw u
  exact k v (.d d) _ G' H' q t2 (k1.trans k2) rp
theorem spR_len {K : PySem.W.Frag} {φ : Nat → List D → (Nat → D → Prop) → Prop} {n : Nat} (hl : ∀ b ds R, φ b ds R → ds.length + 1 = n) : ∀ vs H Q E, spR K φ vs H Q E → vs.length = n := fun vs H Q E h => spU_len hl vs H Q E h.2.2.2
theorem enterR {K : PySem.W.Frag} {N : List Str} {G : Hp} {j : Addr} {b : Nat} {us : List V} {ds : List D} {R : Nat → D → Prop} {t : TS} {Q : VK} (off : OffK K) (sy : Sys H) (nj : sysModules ≠ j) (eg : Ex G H) (gt : ∀ a o, G a = some o → Nt o) (gj : G j = none) (u : UrnAt K j b G H) (rp : RpAll K G us ds)
    (kR : ∀ v d b' G' H', R b' d → (∀ a o, H a = some o → a ≠ j → H' a = some o) → Ex G G' → Ex G' H' → (∀ a o, G' a = some o → Nt o) → (∀ a, G' a ≠ none → G a ≠ none ∨ Nw H a) → UrnAt K j b' G' H' → Rp K G' v d → Q v H')
    (h : ∀ c : Cfg, c.K = K → ReprOk c → sysModules ≠ c.j → wS c t ⟨initS N.length (.ur :: ds.map .d), b⟩ { nx := fun s => R s.b .non, rt := fun d s => R s.b d }) : t { nx := fun _ H' => Q .non H', rt := Q } (L2.start N (.ref j :: us)) H := by
  let c : Cfg := ⟨K, j, true, H, G, true, fun _ => True, fun _ _ _ _ => trivial⟩
  have f0 : ∀ {H' a}, Fr c H' a → H' a = none := fun {H' a} f => by
    cases q : H' a with
    | none => rfl
    | some o => exact (f o q (.inl rfl)).elim
  have f0w : ∀ {H' a}, Fw c H' a → Nw H' a := fun f => f.imp f0 id
  have nU : ∀ a, ¬ c.isU a ↔ a ≠ j := fun a => ⟨fun n e => n ⟨rfl, e⟩, fun n e => n e.2⟩
  have fin : ∀ {s : NS} {σ : L2.St} {G' H' : Hp} {v : V} {d : D}, At c s σ G' H' → Rp K G' v d → R s.b d → Q v H' := fun a r q =>
    kR _ _ _ _ _ q (fun b o hb nj => a.fr b o hb (.inl rfl) ((nU b).mpr nj)) a.g0 a.gh a.gt (fun b hb => (a.nw b hb).imp id f0w) (a.ur rfl) r
  have ok : ReprOk c := ⟨off, fun s σ G' H' a => by
    obtain ⟨o, φ, e⟩ := sy
    exact ⟨o, φ, a.fr _ _ e (.inl rfl) ((nU _).mpr nj)⟩⟩
  refine h c rfl ok nj (L2.start N (.ref j :: us)) G H _ ⟨start_len (by simp [rp.len]), fun i x hx => ?_, ?_, eg, gt, fun a u => by rw [u.2]; exact gj, fun a z f => ?_, fun a o h _ _ => h, fun a h => .inl h, fun _ _ h => h, fun _ => u, trivial⟩
    (fun s' σ' G' H' q a e => fin a .non q) (fun v d s' σ' G' H' q a r => fin a r q) (fun _ _ _ _ q => q.elim) (fun _ _ _ _ q => q.elim)
  · rcases init_get hx with z | rfl
    · cases i with
      | zero => cases z; exact ⟨rfl, start_get rfl⟩
      | succ i =>
        obtain ⟨d, h1, rfl⟩ := map_get (show (ds.map Sl.d)[i]? = some x from z)
        obtain ⟨v, h2, r⟩ := rp.of h1
        exact ⟨v, start_get (vs := .ref j :: us) (i := i + 1) h2, r⟩
    · trivial
  · rintro i k a ⟨⟨es, h1⟩, _⟩ _
    rcases init_get h1 with z | z
    · cases i with
      | zero => cases z
      | succ i =>
        obtain ⟨d, _, e⟩ := map_get (show (ds.map Sl.d)[i]? = some _ from z)
        cases e
    · cases z
  · obtain ⟨_, _, _, _, hq, _⟩ := u
    have e : a = j := z.2
    subst e
    exact f.no hq ntl
/-- squares with numbers of moderate size fit a short text -/
theorem sq_fit {d : D} {z : Int × Int} {p : PyData} (h : SqI d z) (q : Py d p) (b : z.1.natAbs ≤ 2 * 10 ^ 60 ∧ z.2.natAbs ≤ 2 * 10 ^ 60) : Fit 406 p ∧ p.depth ≤ 2 := by
  have f := fit_seq (n := 202) (ds := [.int z.1, .int z.2]) 2 (by simp) (fun d hd => by
    rcases List.mem_cons.mp hd with rfl | hd
    · exact ⟨fit_int b.1, by simp [PyData.depth]⟩
    · rw [List.mem_singleton.mp hd]; exact ⟨fit_int b.2, by simp [PyData.depth]⟩)
  cases h with
  | t x y =>
    cases q with
    | tup q =>
      cases q with
      | cons q1 q =>
        cases q1
        cases q with
        | cons q1 q =>
          cases q1
          cases q
          exact ⟨f.2, by simp [PyData.depth, PyData.depthAll]⟩
  | l x y =>
    cases q with
    | lst q =>
      cases q with
      | cons q1 q =>
        cases q1
        cases q with
        | cons q1 q =>
          cases q1
          cases q
          exact ⟨f.1, by simp [PyData.depth, PyData.depthAll]⟩
theorem sqs_fit {zs : List (Int × Int)} (hb : ∀ z ∈ zs, z.1.natAbs ≤ 2 * 10 ^ 60 ∧ z.2.natAbs ≤ 2 * 10 ^ 60) : ∀ {ds : List D} {ps : List PyData} {us : List (Int × Int)}, SqIs ds us → (∀ u ∈ us, u ∈ zs) → PyAll ds ps → ∀ p ∈ ps, Fit 406 p ∧ p.depth ≤ 1
  | _, _, _, .nil, _, .nil, p, hp => by cases hp
  | _, _, _, .cons (z := z) h t, m, .cons q qs, p, hp => by
    rcases List.mem_cons.mp hp with rfl | hp
    · refine ⟨(sq_fit h q (hb z (m z List.mem_cons_self))).1, ?_⟩
      cases h with
      | t x y =>
        cases q with
        | tup q =>
          cases q with
          | cons q1 q =>
            cases q1
            cases q with
            | cons q1 q =>
              cases q1
              cases q
              simp [PyData.depth, PyData.depthAll]
      | l x y =>
        cases q with
        | lst q =>
          cases q with
          | cons q1 q =>
            cases q1
            cases q with
            | cons q1 q =>
              cases q1
              cases q
              simp [PyData.depth, PyData.depthAll]
    · exact sqs_fit hb t (fun u hu => m u (List.mem_cons_of_mem _ hu)) qs p hp
theorem depthAll_le {n : Nat} : ∀ {ps : List PyData}, (∀ p ∈ ps, p.depth ≤ n) → PyData.depthAll ps ≤ n
  | [], _ => by simp [PyData.depthAll]
  | p :: ps, h => by
    have h1 := h p List.mem_cons_self
    have h2 := depthAll_le (ps := ps) fun q hq => h q (List.mem_cons_of_mem _ hq)
    simp only [PyData.depthAll]
    omega
theorem sqsD_fit {d : D} {zs : List (Int × Int)} (h : SqsD d zs) (l : zs.length ≤ 60) (hb : ∀ z ∈ zs, z.1.natAbs ≤ 2 * 10 ^ 60 ∧ z.2.natAbs ≤ 2 * 10 ^ 60) {p : PyData} (q : Py d p) : Fit 24420 p ∧ p.depth ≤ 2 := by
  obtain ⟨es, e, hs⟩ := h
  have ll := hs.len
  rcases e with rfl | rfl
  · cases q with
    | lst q =>
      have f := sqs_fit hb hs (fun _ h => h) q
      have dl := depthAll_le fun p hp => (f p hp).2
      exact ⟨(fit_seq (n := 406) 60 (by rw [← q.len]; omega) fun p hp => ⟨(f p hp).1, by have := (f p hp).2; omega⟩).1, by simp only [PyData.depth]; omega⟩
  · cases q with
    | tup q =>
      have f := sqs_fit hb hs (fun _ h => h) q
      have dl := depthAll_le fun p hp => (f p hp).2
      exact ⟨(fit_seq (n := 406) 60 (by rw [← q.len]; omega) fun p hp => ⟨(f p hp).1, by have := (f p hp).2; omega⟩).2, by simp only [PyData.depth]; omega⟩
end
end Kn
/-! Kn8: lambdas that are asked, their errors heard; a law's body behind its urn. -/
namespace Kn
open PySem PySem.Spec PyProof.Rows L2 Kg LamX
open Evl (Ex)
section
variable {c : Cfg} {s : NS} {R : Vw → NS → Prop} {K' : PySem.W.Frag} {σ : L2.St} {G H H1 : Hp}
theorem At.extN (t : At c s σ G H) (tk : c.tk = false) (e : ExtN H H1) (tb : c.TB H1) : At c s σ G H1 ∧ Kp c s σ G H s G H1 := by
  have nt : ∀ {o}, c.nt o → Nt o := fun h => h.elim (fun z => by rw [tk] at z; cases z) id
  have nl : ∀ {xs : List V}, Nt (.lst xs) := fun _ z => nomatch z
  refine ⟨⟨t.len, fun i x hx => ?_, t.dis, fun a o h => e a o (t.gh a o h) (t.gt a o h), t.gt, t.gj, t.hj, fun a o h w u => e a o (t.fr a o h w u) (nt w), t.nw, t.g0, fun u => (t.ur u).up (fun _ _ z => z) fun o h w => e _ o h w, tb⟩,
    ⟨fun _ _ z => z, fun a o h w _ _ => e a o h (nt w), fun a h => .inl h, fun _ _ h => h, fun a h o q w => h.no (e a o q (nt w)) w, fun a xs h => .inl (by
      cases q : H a with
      | none => exact .none q
      | some o =>
        by_cases n : c.nt o
        · have e2 := e a o q (nt n)
          rw [h] at e2
          cases e2
          exact .inr ⟨xs, q⟩
        · exact .inl fun o' q' n' => by rw [q] at q'; cases q'; exact n n')⟩⟩
  exact SlR.up (fun _ _ z => z) (fun _ h => .inl h) (fun a xs _ _ w h => e a _ h (nt w)) (t.sl i x hx)
/-- an error of one of these classes is told by a name and its part -/
def EHrd (cs : List (Addr × Str)) (Q : VK) : XK := fun cls d H' => ∃ (e : Addr) (p : Str), d = some e ∧ H' e = some (.xd [("part", .str p)]) ∧
  ∃ C nm, (C, nm) ∈ cs ∧ cls = .ref C ∧ ∀ (t : Addr) (H2 : Hp), Ex H' H2 → H' t = none → H2 t = some (.tup [.str nm, .str p]) → Q (.ref t) H2
/-- heard(lambda: f(..)) -/
theorem e_heard {T : List (Addr × Str)} {TT : (XK → Hp → VK → Prop) → Hp → VK → Prop} {cs : List (Addr × Str)} {φ : List D → (D → Prop) → Er → Prop} {ta : TA}
    (hTT : ∀ (tl : XK → Hp → VK → Prop) H Q, (∀ (E : XK) (N : VK), (∀ cls d H', EHrd cs Q cls d H' → E cls d H') → (∀ v H', Q .non H' → N v H') → tl E H N) → TT tl H Q)
    (tk : c.tk = false) (hT : ∀ H, c.TB H ↔ Tabs T H)
    (h : wA c ta s fun ds s1 => φ ds (fun _ => R (.d .non) s1) fun C fs => ∃ p nm : Str, fs = [(("part" : Str), D.str p)] ∧ (C, nm) ∈ cs ∧ R (.d (.tup [.str nm, .str p])) s1) (hK : K' = c.K := by rfl) :
    wE c (tLam T TT fun E => tCall (spP K' φ) [] E ta) s R := by
  subst hK
  intro σ G H Q t k
  refine ⟨(hT H).mp t.tb, fun H1 e1 tb1 => hTT _ _ _ fun E N hE hN => ?_⟩
  obtain ⟨t1, k1⟩ := t.extN tk e1 ((hT H1).mpr tb1)
  refine h σ G H1 _ t1 fun vs ds s1 G2 H2 p t2 k2 r2 => ?_
  refine ⟨G2, ds, _, _, t2.gh, t2.gt, by rw [List.append_nil]; exact r2, p, fun v d G' H' r hh eg gh gt nw rp => hN v H' ?_, fun C fs dx xs G' H' x eg hh gh gt nw nd hd fl => hE _ _ _ ?_⟩
  · obtain ⟨t3, k3⟩ := t2.grow eg hh gh gt fun a h => (nw a h).imp id Nw.fw
    exact k .non (.d .non) s1 G' H' r t3 (k1.trans (k2.trans k3)) .non
  · obtain ⟨p, nm, rfl, hc, r⟩ := x
    have hx : xs = [(("part" : Str), V.str p)] := by
      obtain ⟨f1, f2⟩ := fl
      match xs, f1, f2 with
      | [(n, v)], f1, f2 =>
        cases f2 with
        | cons a b =>
          cases a
          simp only [List.map_cons, List.map_nil, List.cons.injEq, and_true] at f1
          subst f1
          rfl
    subst hx
    refine ⟨dx, p, rfl, hd, C, nm, hc, rfl, fun t4 H3 e3 n4 h4 => ?_⟩
    obtain ⟨t3, k3⟩ := t2.grow eg hh gh gt fun a h => (nw a h).imp id Nw.fw
    have g4 : G' t4 = none := t3.freshG (.none n4)
    have eg4 : Ex G' (upd G' t4 (.tup [.str nm, .str p])) := Evl.Ex.new g4
    obtain ⟨t5, k5⟩ := t3.grow (G' := upd G' t4 (.tup [.str nm, .str p])) eg4 e3 (fun a o h => by
      by_cases z : a = t4
      · subst z; rw [upd_same] at h; rw [h4]; exact h
      · rw [upd_ne z] at h; exact e3 a o (gh a o h)) (fun a o h => by
      by_cases z : a = t4
      · subst z; rw [upd_same] at h; cases h; exact fun _ z => nomatch z
      · rw [upd_ne z] at h; exact gt a o h) (fun a h => by
      by_cases z : a = t4
      · subst z; exact .inr (.none n4)
      · rw [upd_ne z] at h; exact .inl h)
    exact k (.ref t4) (.d (.tup [.str nm, .str p])) s1 _ H3 r t5 (k1.trans (k2.trans (k3.trans k5))) (.tup upd_same (.cons (.str _) (.cons (.str _) .nil)))
theorem tabs_mono {T : List (Addr × Str)} {H H' : Hp} (e : ∀ a o, H a = some o → Kpy o → H' a = some o) (t : Tabs T H) : Tabs T H' := by
  intro p hp
  obtain ⟨ps, h1, h2, h3⟩ := t p hp
  refine ⟨ps, e _ _ h1 (.inl ⟨ps, rfl⟩), h2, fun pos cv hc => ?_⟩
  obtain ⟨a, e1, e2⟩ := h3 pos cv hc
  exact ⟨a, e1, e _ _ e2 (.inr ⟨_, rfl⟩)⟩
/-- what a def with lambdas promises -/
def spL (K : PySem.W.Frag) (T : List (Addr × Str)) (φ : Nat → List D → (Nat → D → Prop) → Prop) : Sp := fun vs H Q E => ∃ G j b us ds R, vs = .ref j :: us ∧ Tabs T H ∧ Ex G H ∧ (∀ a o, G a = some o → Nt o) ∧ G j = none ∧ UrnAt K j b G H ∧ RpAll K G us ds ∧ φ b ds R ∧
  (∀ v d b' G' H', R b' d → (∀ a o, H a = some o → Nt o → a ≠ j → H' a = some o) → Tabs T H' → Ex G G' → Ex G' H' → (∀ a o, G' a = some o → Nt o) → (∀ a, G' a ≠ none → G a ≠ none ∨ (∀ o, H a = some o → ¬ Nt o) ∨ ∃ xs, H a = some (.tup xs)) → UrnAt K j b' G' H' → Rp K G' v d → Q v H')
theorem spL_len {K : PySem.W.Frag} {T : List (Addr × Str)} {φ : Nat → List D → (Nat → D → Prop) → Prop} {n : Nat} (hl : ∀ b ds R, φ b ds R → ds.length + 1 = n) : ∀ vs H Q E, spL K T φ vs H Q E → vs.length = n := fun vs H Q E ⟨G, j, b, us, ds, R, e, _, _, _, _, _, rp, p, _⟩ => by
  rw [e, List.length_cons, rp.len]; exact hl b ds R p
/-- a body (or what is left of it) whose urn stands in a slot, and code objects' tables at T -/
theorem enterT {K : PySem.W.Frag} {T : List (Addr × Str)} {G : Hp} {j : Addr} {b : Nat} {γ : List Sl} {R : Nat → D → Prop} {t : TS} {Z : Ends} (tb : Tabs T H) (gh : Ex G H) (gt : ∀ a o, G a = some o → Nt o) (gj : G j = none) (u : UrnAt K j b G H)
    (len : σ.length = γ.length) (sl : ∀ (i : Nat) (x : Sl), γ[i]? = some x → (∀ ds, x ≠ .ow ds) ∧ SlR ⟨K, j, true, H, G, false, Tabs T, fun _ _ e t => tabs_mono e t⟩ G H (σ[i]?) x)
    (kR : ∀ v d b' G' H', R b' d → (∀ a o, H a = some o → Nt o → a ≠ j → H' a = some o) → Tabs T H' → Ex G G' → Ex G' H' → (∀ a o, G' a = some o → Nt o) → (∀ a, G' a ≠ none → G a ≠ none ∨ (∀ o, H a = some o → ¬ Nt o) ∨ ∃ xs, H a = some (.tup xs)) → UrnAt K j b' G' H' → Rp K G' v d → Z.rt v H')
    (kN : ∀ σ' H', Z.nx σ' H' ↔ Z.rt .non H')
    (h : ∀ c : Cfg, c.K = K → c.j = j → c.tk = false → (∀ H, c.TB H ↔ Tabs T H) → (∀ (s : NS) (σ : L2.St) (G' H' : Hp), At c s σ G' H' → ∀ a o, H a = some o → Nt o → a ≠ j → H' a = some o) → wS c t ⟨γ, b⟩ { nx := fun s => R s.b .non, rt := fun d s => R s.b d }) : t Z σ H := by
  let c : Cfg := ⟨K, j, true, H, G, false, Tabs T, fun _ _ e t => tabs_mono e t⟩
  have nU : ∀ a, ¬ c.isU a ↔ a ≠ j := fun a => ⟨fun n e => n ⟨rfl, e⟩, fun n e => n e.2⟩
  have keep : ∀ (s : NS) (σ : L2.St) (G' H' : Hp), At c s σ G' H' → ∀ a o, H a = some o → Nt o → a ≠ j → H' a = some o := fun s σ G' H' a b o hb n nj => a.fr b o hb (.inr n) ((nU b).mpr nj)
  have fin : ∀ {s : NS} {σ : L2.St} {G' H' : Hp} {v : V} {d : D}, At c s σ G' H' → Rp K G' v d → R s.b d → Z.rt v H' := fun a r q =>
    kR _ _ _ _ _ q (keep _ _ _ _ a) a.tb a.g0 a.gh a.gt (fun b hb => (a.nw b hb).imp id fun f => f.imp (fun f o e n => f o e (.inr n)) id) (a.ur rfl) r
  refine h c rfl rfl rfl (fun _ => Iff.rfl) keep σ G H Z ⟨len, fun i x hx => (sl i x hx).2, ?_, gh, gt, fun a z => by rw [z.2]; exact gj, fun a z f => ?_, fun a o h _ _ => h, fun a h => .inl h, fun _ _ h => h, fun _ => u, tb⟩
    (fun s' σ' G' H' q a e => (kN σ' H').mpr (fin a .non q)) (fun v d s' σ' G' H' q a r => fin a r q) (fun _ _ _ _ q => q.elim) (fun _ _ _ _ q => q.elim)
  · rintro i k a ⟨⟨es, h1⟩, _⟩ _
    exact absurd rfl ((sl i _ h1).1 es)
  · obtain ⟨_, _, _, _, hq, _⟩ := u
    have e : a = j := z.2
    subst e
    exact f.no hq ntl
/-- at the entry of a def with lambdas -/
theorem enterL {K : PySem.W.Frag} {N : List Str} {T : List (Addr × Str)} {G : Hp} {j : Addr} {b : Nat} {us : List V} {ds : List D} {R : Nat → D → Prop} {t : TS} {Q : VK} (tb : Tabs T H) (eg : Ex G H) (gt : ∀ a o, G a = some o → Nt o) (gj : G j = none) (u : UrnAt K j b G H) (rp : RpAll K G us ds)
    (kR : ∀ v d b' G' H', R b' d → (∀ a o, H a = some o → Nt o → a ≠ j → H' a = some o) → Tabs T H' → Ex G G' → Ex G' H' → (∀ a o, G' a = some o → Nt o) → (∀ a, G' a ≠ none → G a ≠ none ∨ (∀ o, H a = some o → ¬ Nt o) ∨ ∃ xs, H a = some (.tup xs)) → UrnAt K j b' G' H' → Rp K G' v d → Q v H')
    (h : ∀ c : Cfg, c.K = K → c.tk = false → (∀ H, c.TB H ↔ Tabs T H) → wS c t ⟨initS N.length (.ur :: ds.map .d), b⟩ { nx := fun s => R s.b .non, rt := fun d s => R s.b d }) : t { nx := fun _ H' => Q .non H', rt := Q } (L2.start N (.ref j :: us)) H := by
  refine enterT (Z := { nx := fun _ H' => Q .non H', rt := Q }) tb eg gt gj u (start_len (by simp [rp.len])) (fun i x hx => ?_) kR (fun _ _ => Iff.rfl) fun c e1 _ e3 e4 _ => h c e1 e3 e4
  rcases init_get hx with z | rfl
  · cases i with
    | zero => cases z; exact ⟨(fun _ z => nomatch z), rfl, start_get rfl⟩
    | succ i =>
      obtain ⟨d, h1, rfl⟩ := map_get (show (ds.map Sl.d)[i]? = some x from z)
      obtain ⟨v, h2, r⟩ := rp.of h1
      exact ⟨(fun _ z => nomatch z), v, start_get (vs := .ref j :: us) (i := i + 1) h2, r⟩
  · exact ⟨(fun _ z => nomatch z), trivial⟩
/-- a call of such a def -/
theorem e_callL {T : List (Addr × Str)} {φ : Nat → List D → (Nat → D → Prop) → Prop} {E : XK} {i : Nat} {tr : TA} (tk : c.tk = false) (hT : ∀ H, c.TB H ↔ Tabs T H) (hi : s.γ[i]? = some .ur) (h : wA c tr s fun ds s1 => φ s1.b ds fun b' d => R (.d d) { s1 with b := b' }) (hK : K' = c.K := by rfl) :
    wE c (tCall (spL K' T φ) [] E (tCons (tVar i) tr)) s R := by
  subst hK
  intro σ G H Q t k
  obtain ⟨hu, hj⟩ := t.sl i _ hi
  have cnt : ∀ {o}, c.nt o → Nt o := fun h => h.elim (fun z => by rw [tk] at z; cases z) id
  refine ⟨.ref c.j, hj, h σ G H _ t fun vs ds s1 G1 H1 p t1 k1 r1 => ?_⟩
  refine ⟨G1, c.j, s1.b, vs, ds, _, by rw [List.append_nil], (hT H1).mp t1.tb, t1.gh, t1.gt, t1.gj _ ⟨hu, rfl⟩, t1.ur hu, r1, p, fun v d b' G' H' q hh tb eg gh gt nw u rp => ?_⟩
  have nj : ∀ a, ¬ c.isU a → a ≠ c.j := fun a n e => n ⟨hu, e⟩
  have nl : ∀ {xs : List V}, Nt (.lst xs) := fun _ z => nomatch z
  have nw' : ∀ a, G' a ≠ none → G1 a ≠ none ∨ Fw c H1 a := fun a h => (nw a h).imp id fun f => f.imp (fun f o e n => f o e (cnt n)) id
  have t2 : At c { s1 with b := b' } σ G' H' := by
    refine ⟨t1.len, fun i x hx => ?_, t1.dis, gh, gt, fun a u => ?_, t1.hj, fun a o h w u => hh a o (t1.fr a o h w u) (cnt w) (nj a u), fun a h => ?_, t1.g0.trans eg, fun _ => u, (hT H').mpr tb⟩
    · by_cases z : ∃ ds, x = .ow ds
      · obtain ⟨ds, rfl⟩ := z
        obtain ⟨a, xs, h1, h2, h3, h4, h5⟩ := t1.sl i _ hx
        refine ⟨a, xs, h1, h2, ?_, hh a _ h4 h5.nt (nj a (t1.notU h2)), h5.mono eg⟩
        cases q : G' a with
        | none => rfl
        | some o =>
          rcases nw' a (by rw [q]; exact fun z => nomatch z) with z | z
          · exact absurd h3 z
          · exact (h5.noW h4 z).elim
      · cases x with
        | no => trivial
        | d d => obtain ⟨v, h1, h2⟩ := t1.sl i _ hx; exact ⟨v, h1, h2.mono eg⟩
        | ur => exact t1.sl i _ hx
        | ow ds => exact absurd ⟨ds, rfl⟩ z
    · cases q : G' a with
      | none => rfl
      | some o =>
        rcases nw' a (by rw [q]; exact fun z => nomatch z) with z | z
        · exact absurd (t1.gj a u) z
        · exact absurd z (t1.thereW u)
    · rcases nw' a h with z | z
      · exact t1.nw a z
      · exact .inr (t1.freshW0 z)
  refine k v (.d d) _ G' H' q t2 (k1.trans ⟨eg, fun a o h w u _ => hh a o h (cnt w) (nj a u), fun a h => (nw' a h).elim .inl fun z => .inr (.inl z), fun _ _ h => h, fun a h o e w => ?_, fun a xs h => ?_⟩) rp
  · by_cases e2 : a = c.j
    · subst e2
      obtain ⟨_, _, _, _, hq, _⟩ := u
      exact h.no hq ntl
    · exact h.no (hh a o e (cnt w) e2) w
  · by_cases e2 : a = c.j
    · subst e2
      obtain ⟨_, _, _, _, hq, _⟩ := u
      rw [hq] at h; cases h
    · cases q : H1 a with
      | none => exact .inl (.none q)
      | some o =>
        by_cases n : c.nt o
        · have e3 := hh a o q (cnt n) e2
          rw [h] at e3
          cases e3
          exact .inl (.inr ⟨xs, q⟩)
        · exact .inl (.inl fun o' q' n' => by rw [q] at q'; cases q'; exact n n')
end
end Kn
/-! Kg18: repr of data with great ints, of up to 12,900 bits: no digits' limit is laid. -/
namespace Kg
open PySem PySem.Spec PyProof.Rows L2
mutual
/-- ints of up to 12,900 bits, no dicts -/
def greatOk : PyData → Bool
  | .int i => decide (i.natAbs.log2 < 12900)
  | .list ds => greatAll ds
  | .tuple ds => greatAll ds
  | .dict _ => false
  | _ => true
def greatAll : List PyData → Bool
  | [] => true
  | d :: ds => greatOk d && greatAll ds
end
theorem great_lt {i : Int} (h : i.natAbs.log2 < 12900) : i.natAbs < 10 ^ 4300 := Nat.lt_of_lt_of_le (lt_of_log2 h) pow_lo
section
variable {prog : Program} {w : World} {A : Around} {E : Value → Shared → Prop} {s : Shared}
/-- what int.__repr__ gives where no limit is laid -/
theorem int_shown {i : Int} {t : Tok} {Q : Value → Shared → Prop} (nd : s.heap.NoDigits) (hi : i.natAbs.log2 < 12900) (q : Q (.str (toString i) s.toks) { s with toks := s.toks + 1 }) :
    wpAny (model prog w) A (call (.builtin "int.__repr__") [.int i t]) Q E s := by
  refine wpAny_call_entry F.slot_int_repr (typeIs_int s i t) F.entry_int_repr ?_ (F.args_int_repr_1 _)
  unfold Builtin.«int.__repr__»
  show wpAny _ _ (Builtin.overDigitLimit? i >>= _) _ _ s
  refine wpAny_bind (overDigitLimit_any nd (fun lt => ?_) (fun ge => ?_))
  · exact wpAny_bind (wpAny_mkStr (wpAny_pure ⟨_, rfl, q⟩) (int_text_fits10 lt))
  · exact absurd (great_lt hi) (Nat.not_lt.mpr ge)
theorem rk_int {as : List Addr} {g : Heap} {n : Nat} {i : Int} {t : Tok} (nd : g.NoDigits) (hi : i.natAbs.log2 < 12900) : ReprK prog w as g n (.int i t) (toString i) := by
  intro b hb A l E s Q h1 h2 h3 h4 h5
  have lb : b ≤ sizeLine := Nat.le_trans (Nat.le_add_right _ _) hb
  rw [pyReprUnder_leaf lb (fun a z => by cases z)]
  unfold pyRepr
  refine wpAny_bind (wpAny_pyReprObj_slot (by omega) (typeIs_int s i t) F.slot_int_repr.toG (int_shown (nd.keeps h4) hi ⟨_, _, rfl, ?_⟩))
  exact wpAny_pure (h5 s.heap _ fun _ _ z => z)
end
section
variable {prog : Program} {w : World} {g : Heap}
mutual
theorem rk_of (nd : g.NoDigits) : ∀ {v : Value} {d : PyData} {as : List Addr}, Reads g v d as → greatOk d = true → d.shown.length ≤ sizeLine →
    ∃ bs, ReadAtMost g d.depth bs ∧ ReprK prog w bs g d.depth v d.shown
  | _, _, _, .none, _, _ => ⟨[], (fun _ z => nomatch z), by rw [PyData.shown]; exact ReprK.of_is .none _ _ _⟩
  | _, _, _, .bool c, _, _ => ⟨[], (fun _ z => nomatch z), by rw [PyData.shown]; exact ReprK.of_is (.bool c) _ _ _⟩
  | _, _, _, .int i t, h, _ => ⟨[], (fun _ z => nomatch z), by rw [PyData.shown]; exact rk_int nd (of_decide_eq_true (by rw [greatOk] at h; exact h))⟩
  | _, _, _, .str x t, _, l => ⟨[], (fun _ z => nomatch z), by rw [PyData.shown] at l ⊢; exact ReprK.of_is (.str x t l) _ _ _⟩
  | _, _, _, .list (a := a) (vs := us) (xs := ds) p1 p2 p3 p4, h, l => by
    rw [PyData.shown] at l
    obtain ⟨bs, m, k⟩ := rk_all nd p4 (by rw [greatOk] at h; exact h) fun z hz => Nat.le_trans (listText_mem_le hz) l
    have whole := Reads.list p1 p2 p3 p4
    have apart : a ∉ bs := not_mem_of_deeper whole (by rw [PyData.depth]; omega) m
    refine ⟨a :: bs, m.cons whole (by rw [PyData.depth]; omega), ?_⟩
    rw [PyData.depth, PyData.shown]
    rcases us with ⟨_ | ⟨u, us⟩⟩
    · cases (show ReadsAll g [] ds _ from p4)
      rw [PyData.shownAll, listText_nil]
      exact .listEmpty p1 p2 p3
    · refine .list p1 p2 p3 apart (by simpa using k.length_eq) fun i y q => k.item i y ?_
      simpa using q
  | _, _, _, .tuple (a := a) (xs := ds) p1 p2 p3 p4, h, l => by
    rw [PyData.shown] at l
    obtain ⟨bs, m, k⟩ := rk_all nd p4 (by rw [greatOk] at h; exact h) fun z hz => Nat.le_trans (tupleText_mem_le hz) l
    have whole := Reads.tuple p1 p2 p3 p4
    have apart : a ∉ bs := not_mem_of_deeper whole (by rw [PyData.depth]; omega) m
    refine ⟨a :: bs, m.cons whole (by rw [PyData.depth]; omega), ?_⟩
    rw [PyData.depth, PyData.shown]
    exact .tuple p1 p2 p3 apart k
  | _, _, _, .dict _ _ _ _ _, h, _ => by rw [greatOk] at h; cases h
theorem rk_all (nd : g.NoDigits) : ∀ {vs : List Value} {ds : List PyData} {as : List Addr}, ReadsAll g vs ds as → greatAll ds = true → (∀ z ∈ PyData.shownAll ds, z.length ≤ sizeLine) →
    ∃ bs, ReadAtMost g (PyData.depthAll ds) bs ∧ ReprAllK prog w bs g (PyData.depthAll ds) vs (PyData.shownAll ds)
  | _, _, _, .nil, _, _ => ⟨[], (fun _ z => nomatch z), by rw [PyData.shownAll]; exact .nil⟩
  | _, _, _, .cons (d := d) (ds := ds) p q, h, l => by
    rw [PyData.shownAll] at l
    rw [greatAll, Bool.and_eq_true] at h
    obtain ⟨b1, m1, k1⟩ := rk_of nd p h.1 (l _ List.mem_cons_self)
    obtain ⟨b2, m2, k2⟩ := rk_all nd q h.2 fun z hz => l z (List.mem_cons_of_mem _ hz)
    refine ⟨b1 ++ b2, (m1.mono ?_).append (m2.mono ?_), ?_⟩
    · rw [PyData.depthAll]; exact Nat.le_max_left _ _
    · rw [PyData.depthAll]; exact Nat.le_max_right _ _
    · rw [PyData.depthAll, PyData.shownAll]
      exact .cons ((k1.more fun b hb => List.mem_append_left _ hb).level_le (Nat.le_max_left _ _)) (k2.more_le (fun b hb => List.mem_append_right _ hb) (Nat.le_max_right _ _))
end
variable {A : Around} {E : Value → Shared → Prop} {s : Shared} {Q : Value → Shared → Prop}
theorem great_repr {a : Addr} {d : PyData} {as : List Addr} (nd : s.heap.NoDigits) (r : Reads s.heap (.ref a) d as) (h : greatOk d = true) (gd : A.guards = some []) (hu : A.units + (d.depth + 1) < cLine) (l : d.shown.length ≤ sizeLine)
    (q : ∀ h' u tk, (∀ b o, s.heap.get? b = some o → h'.get? b = some o) → Q (.str d.shown u) { s with heap := h', toks := tk }) : wpAny (model prog w) A (call (.builtin "repr") [.ref a]) Q E s := by
  have un : A.in1.units + d.depth < cLine := by show A.units + 1 + d.depth < cLine; omega
  cases r with
  | list p1 p2 p3 p4 =>
    rename_i o us n ds as
    rw [PyData.shown] at l q
    obtain ⟨bs, m, k⟩ := rk_all (prog := prog) (w := w) nd p4 (by rw [greatOk] at h; exact h) fun z hz => Nat.le_trans (listText_mem_le hz) l
    have apart : a ∉ bs := not_mem_of_deeper (.list p1 p2 p3 p4) (by rw [PyData.depth]; omega) m
    rw [PyData.depth] at un
    refine call_repr_slot (by omega) ⟨o, p1, p2⟩ F.slot_list_repr.toG ?_
    rcases us with ⟨_ | ⟨u, us⟩⟩
    · cases (show ReadsAll s.heap [] ds _ from p4)
      rw [PyData.shownAll, listText_nil] at q
      exact call_list_repr_empty ⟨o, p1, p2⟩ p1 p3 ⟨_, _, rfl, q s.heap _ _ fun _ _ z => z⟩
    · exact call_list_reprK p1 p2 p3 apart (by simpa using k.length_eq) (fun i y e => k.item i y (by simpa using e)) gd (fun b _ => Clear.nil b) un (fun _ _ z => z) (fun h' u tk kk => ⟨_, _, rfl, q h' u tk kk⟩) l
  | tuple p1 p2 p3 p4 =>
    rename_i o us n ds
    rw [PyData.shown] at l q
    obtain ⟨bs, m, k⟩ := rk_all (prog := prog) (w := w) nd p4 (by rw [greatOk] at h; exact h) fun z hz => Nat.le_trans (tupleText_mem_le hz) l
    have apart : a ∉ bs := not_mem_of_deeper (.tuple p1 p2 p3 p4) (by rw [PyData.depth]; omega) m
    rw [PyData.depth] at un
    exact call_repr_slot (by omega) ⟨o, p1, p2⟩ F.slot_tuple_repr (call_tuple_reprK p1 p2 p3 apart k gd (fun b _ => Clear.nil b) un (fun _ _ z => z) (fun h' u tk kk => ⟨_, _, rfl, q h' u tk kk⟩) l)
  | dict _ _ _ _ _ => rw [greatOk] at h; cases h
end
section
variable {X : Cx}
/-- repr(x), x of data with great ints -/
def rReprG (K : PySem.W.Frag) : List V → Hp → VK → Prop := fun xs H Q => ∃ x d, xs = [x] ∧ Da K H x d ∧ Sys H ∧ greatOk d = true ∧ d.shown.length ≤ sizeLine ∧ d.depth ≤ 60 ∧ Q (.str d.shown) H
theorem cr_reprG (gd : X.A.guards = some []) (hu : X.A.units + 64 < cLine) (k : OffK X.K) (nd : X.base.NoDigits) : CallR X (.builtin "repr") (rReprG X.K) := by
  intro pins s σ H xs us Q I r h
  obtain ⟨x, d, rfl, hd, y, gr, hz, dp, q⟩ := h
  obtain ⟨u, rfl, rx⟩ := vals1 r
  have nd' : s.heap.NoDigits := nd.keeps I.bk
  have big : ∀ a : Addr, x = .ref a → wpAny (model X.prog X.w) X.A (call (.builtin "repr") [.ref a]) (EP X pins σ Q) X.xe s := by
    rintro a rfl
    obtain ⟨as, hr, hn⟩ := Da.reads I y k _ _ _ hd rx
    cases rx
    exact great_repr nd' hr gr gd (by omega) hz fun h' t tk kk => ⟨.str _, H, I.kept kk, ⟨_, rfl⟩, q⟩
  cases hd with
  | non => cases rx; exact PySem.P.repr_of_none ⟨.str _, H, I.tok _, ⟨_, rfl⟩, by simpa only [PyData.shown] using q⟩
  | bl b => cases rx; exact PySem.P.repr_of_bool ⟨.str _, H, I.tok _, ⟨_, rfl⟩, by simpa only [PyData.shown] using q⟩
  | str z =>
    obtain ⟨t, rfl⟩ := rx
    exact PySem.P.repr_of_str ⟨.str _, H, I.tok _, ⟨_, rfl⟩, by simpa only [PyData.shown] using q⟩ (by simpa only [PyData.shown] using hz)
  | int i =>
    obtain ⟨t, rfl⟩ := rx
    have gi : i.natAbs.log2 < 12900 := of_decide_eq_true (by rw [greatOk] at gr; exact gr)
    refine call_repr_slot (by omega) (typeIs_int s i t) F.slot_int_repr.toG (int_shown nd' gi ⟨_, _, rfl, .str _, H, I.tok _, ⟨_, rfl⟩, ?_⟩)
    simpa only [PyData.shown] using q
  | lst h1 h2 => cases rx; exact big _ rfl
  | tup h1 h2 => cases rx; exact big _ rfl
  | dct h1 h2 => cases rx; exact big _ rfl
end
end Kg
/-! Kn9: slices, dicts that are written and asked. -/
namespace Kn
open PySem PySem.Spec PyProof.Rows L2 Kg
open Evl (Ex)
section
variable {c : Cfg} {s : NS} {R : Vw → NS → Prop} {te td ty : TE} {K' : PySem.W.Frag}
/-- xs[lo:hi] -/
def cutD (xs : List D) (lo hi : Option Int) : List D := (xs.drop (HT.sIx xs.length 0 lo)).take (HT.sIx xs.length xs.length hi - HT.sIx xs.length 0 lo)
theorem cut_rp {K : PySem.W.Frag} {G : Hp} {xs : List V} {ds : List D} (r : RpAll K G xs ds) (lo hi : Option Int) : RpAll K G (cutV xs lo hi) (cutD ds lo hi) := by
  unfold cutV cutD
  rw [r.len]
  exact (r.drop _).take _
theorem cutD_to (xs : List D) (n : Nat) : cutD xs none (some (n : Int)) = xs.take n := by
  unfold cutD HT.sIx
  simp only []
  have h : ¬ (n : Int) < 0 := by omega
  simp [h]
theorem cutD_from (xs : List D) (n : Nat) : cutD xs (some (n : Int)) none = xs.drop n := by
  unfold cutD HT.sIx
  simp only []
  have h : ¬ (n : Int) < 0 := by omega
  simp only [h, if_false, Int.toNat_natCast]
  by_cases l : n ≤ xs.length
  · rw [show min n xs.length = n by omega, List.take_of_length_le (by rw [List.length_drop]; omega)]
  · rw [show min n xs.length = xs.length by omega, List.drop_of_length_le (Nat.le_refl _), List.drop_of_length_le (by omega)]
    simp
theorem e_slTo {th : TE} (h : wE c te s fun w s1 => wE c th s1 fun u s2 => ∃ ds n, lsOf s2 w = some ds ∧ u = .d (.int n) ∧ R (.f (cutD ds none (some n))) s2) (hK : K' = c.K := by rfl) : wE c (tSl (rSlL K') te tNoPart (tPart th)) s R := by
  subst hK
  intro σ G H Q t k
  refine h σ G H _ t fun v w s1 G1 H1 p1 t1 k1 r1 => p1 σ G1 H1 _ t1 fun x u s2 G2 H2 ⟨ds, n, e1, e2, p⟩ t2 k2 r2 => ?_
  subst e2
  refine ⟨n, int_at r2, ?_⟩
  obtain ⟨a, xs, rfl, h1, rp⟩ := ls_at t2 (r1.keep k2 t1) e1
  refine ⟨a, xs, rfl, SqL.of h1, fun q hq => ?_⟩
  obtain ⟨t3, k3⟩ := t2.put (o := .lst (cutV xs none (some n))) hq
  exact k _ (.f _) s2 G2 _ p t3 (k1.trans (k2.trans k3)) ⟨q, _, rfl, (k1.trans k2).m q (.none hq), t2.fresh0 (.none hq), t2.freshG (.none hq), t2.noOwn (.none hq), upd_same, .l (cut_rp rp _ _)⟩
theorem e_slFrom {tl : TE} (h : wE c te s fun w s1 => wE c tl s1 fun u s2 => ∃ ds n, lsOf s2 w = some ds ∧ u = .d (.int n) ∧ R (.f (cutD ds (some n) none)) s2) (hK : K' = c.K := by rfl) : wE c (tSl (rSlL K') te (tPart tl) tNoPart) s R := by
  subst hK
  intro σ G H Q t k
  refine h σ G H _ t fun v w s1 G1 H1 p1 t1 k1 r1 => p1 σ G1 H1 _ t1 fun x u s2 G2 H2 ⟨ds, n, e1, e2, p⟩ t2 k2 r2 => ?_
  subst e2
  refine ⟨n, int_at r2, ?_⟩
  obtain ⟨a, xs, rfl, h1, rp⟩ := ls_at t2 (r1.keep k2 t1) e1
  refine ⟨a, xs, rfl, SqL.of h1, fun q hq => ?_⟩
  obtain ⟨t3, k3⟩ := t2.put (o := .lst (cutV xs (some n) none)) hq
  exact k _ (.f _) s2 G2 _ p t3 (k1.trans (k2.trans k3)) ⟨q, _, rfl, (k1.trans k2).m q (.none hq), t2.fresh0 (.none hq), t2.freshG (.none hq), t2.noOwn (.none hq), upd_same, .l (cut_rp rp _ _)⟩
/-- == of two lists -/
theorem e_eqL {ta tb : TE} (h : wE c ta s fun w s1 => wE c tb s1 fun u s2 => ∃ ds es ps qs, lsOf s2 w = some ds ∧ lsOf s2 u = some es ∧ PyAll ds ps ∧ PyAll es qs ∧ SeqAt.shaped (.list ps) = true ∧ SeqAt.shaped (.list qs) = true ∧ R (.d (.bl (PyData.eqv (.list ps) (.list qs)))) s2) (hK : K' = c.K := by rfl) : wE c (tOp (rEqD K') ta tb) s R := by
  subst hK
  refine e_op h fun σ G H Hs v x w u s2 Q t r1 r2 ⟨ds, es, ps, qs, e1, e2, hp, hq, sp, sq, z⟩ k => ?_
  exact ⟨_, _, Da.dp _ (SeqAt.canLay_of_shaped sp) (ls_da t r1 e1 hp), Da.dp _ (SeqAt.canLay_of_shaped sq) (ls_da t r2 e2 hq), sp, sq, k _ (.d (.bl _)) s2 G H z t .refl (Rp.bl _)⟩
/-! ### dicts with ints and texts as keys -/
theorem e_dnew (h : R (.d (.dK [])) s) : wE c tDNewK s R := fun σ G H Q t k p hp => by
  obtain ⟨t2, k2⟩ := t.lay (o := .dK []) hp (fun _ z => nomatch z)
  exact k _ (.d (.dK [])) s _ _ h t2 k2 (Rp.dK (kvs := []) (ds := []) upd_same .nil)
def kD : Key → D
  | .inl i => .int i
  | .inr x => .str x
def valD (kvs : List (Key × D)) (k : Key) : Option D := (kvs.find? fun kv => decide (kv.1 = k)).map (·.2)
theorem val_rp {K : PySem.W.Frag} {G : Hp} {k : Key} {d : D} : ∀ {kvs : List (Key × V)} {ds : List D}, RpAll K G (kvs.map (·.2)) ds → valD ((kvs.map (·.1)).zip ds) k = some d → ∃ v, valV kvs k = some v ∧ Rp K G v d
  | [], ds, r, h => by cases r; cases h
  | p :: kvs, ds, r, h => by
    cases r with
    | cons r1 r2 =>
      by_cases e : p.1 = k
      · refine ⟨p.2, valV_pos e, ?_⟩
        simp only [valD, List.map_cons, List.zip_cons_cons, List.find?_cons, e, decide_true, Option.map_some, Option.some.injEq] at h
        exact h ▸ r1
      · rw [valV_neg e]
        refine val_rp r2 ?_
        simp only [valD, List.map_cons, List.zip_cons_cons, List.find?_cons, e, decide_false] at h
        exact h
theorem e_dget (h : wE c td s fun w s1 => wE c ty s1 fun u s2 => ∃ kvs k d, w = .d (.dK kvs) ∧ u = .d (kD k) ∧ valD kvs k = some d ∧ R (.d d) s2) : wE c (tDGet td ty) s R := by
  intro σ G H Q t k
  refine h σ G H _ t fun v w s1 G1 H1 p1 t1 k1 r1 => p1 σ G1 H1 _ t1 fun x u s2 G2 H2 ⟨kvs, ky, d, e1, e2, e3, p⟩ t2 k2 r2 => ?_
  subst e1 e2
  have r1 : Rp c.K G2 v (.dK kvs) := Rp.mono k2.g r1
  have hx : x = kV ky := by
    cases ky with
    | inl i => cases (show Rp c.K G2 x (.int i) from r2); rfl
    | inr z => cases (show Rp c.K G2 x (.str z) from r2); rfl
  generalize e : D.dK kvs = dd at r1
  cases r1 with
  | @dK a kvs' ds h1 h2 =>
    cases e
    obtain ⟨y, h3, h4⟩ := val_rp h2 e3
    exact ⟨a, y, rfl, .inl ⟨kvs', ky, .inl (t2.gh _ _ h1), hx, h3.symm⟩, k _ (.d d) s2 G2 H2 p t2 (k1.trans k2) h4⟩
  | _ => cases e
def wP (c : Cfg) (t : L2.St → Hp → (List (V × V) → Hp → Prop) → Prop) (s : NS) (A : List (D × D) → NS → Prop) : Prop :=
  ∀ (σ : L2.St) (G H : Hp) (Q : List (V × V) → Hp → Prop), At c s σ G H → (∀ ps ds s' G' H', A ds s' → At c s' σ G' H' → Kp c s σ G H s' G' H' → RpAll c.K G' (ps.map (·.1)) (ds.map (·.1)) → RpAll c.K G' (ps.map (·.2)) (ds.map (·.2)) → Q ps H') → t σ H Q
variable {A : List (D × D) → NS → Prop} {r : List (TE × TE)}
theorem p_nil (h : A [] s) : wP c (tPairs []) s A := fun σ G H Q t k => k [] [] s G H h t .refl .nil .nil
theorem p_cons (h : wD c td s fun d s1 => wD c ty s1 fun e s2 => wP c (tPairs r) s2 fun ds s3 => A ((d, e) :: ds) s3) : wP c (tPairs ((td, ty) :: r)) s A := fun σ G H Q t k =>
  h σ G H _ t fun v d s1 G1 H1 p1 t1 k1 r1 => p1 σ G1 H1 _ t1 fun u e s2 G2 H2 p2 t2 k2 r2 => p2 σ G2 H2 _ t2 fun ps ds s3 G3 H3 p3 t3 k3 q1 q2 =>
    k ((v, u) :: ps) ((d, e) :: ds) s3 G3 H3 p3 t3 (k1.trans (k2.trans k3)) (.cons (r1.mono (k2.g.trans k3.g)) q1) (.cons (r2.mono k3.g) q2)
theorem mergeK_new : ∀ {more kvs : List (Key × V)}, ((kvs ++ more).map (·.1)).Nodup → mergeK kvs more = kvs ++ more
  | [], kvs, _ => by simp [mergeK]
  | p :: more, kvs, h => by
    have n : p.1 ∉ kvs.map (·.1) := by
      rw [List.map_append, List.nodup_append] at h
      exact fun z => h.2.2 _ z p.1 (by simp) rfl
    have e : putK kvs p.1 p.2 = kvs ++ [p] := by
      unfold putK
      rw [if_neg]
      simp only [List.any_eq_true, decide_eq_true_eq, not_exists, not_and]
      intro q hq e
      exact n (e ▸ List.mem_map_of_mem hq)
    show mergeK (putK kvs p.1 p.2) more = _
    rw [e, mergeK_new (kvs := kvs ++ [p])]
    · simp
    · simpa using h
theorem kD_rp {K : PySem.W.Frag} {G : Hp} {x : V} {k : Key} (h : Rp K G x (kD k)) : x = kV k := by
  cases k with
  | inl i => cases (show Rp K G x (.int i) from h); rfl
  | inr z => cases (show Rp K G x (.str z) from h); rfl
theorem pairs_keys' {K : PySem.W.Frag} {G : Hp} : ∀ {kvs : List (Key × D)} {ps : List (V × V)}, RpAll K G (ps.map (·.1)) (kvs.map fun kv => kD kv.1) →
    ∃ kvs' : List (Key × V), ps = kvs'.map (fun kv => (kV kv.1, kv.2)) ∧ kvs'.map (·.1) = kvs.map (·.1) ∧ kvs'.map (·.2) = ps.map (·.2)
  | [], [], _ => ⟨[], rfl, rfl, rfl⟩
  | [], _ :: _, h => by cases h
  | _ :: _, [], h => by cases h
  | q :: kvs, x :: ps, h => by
    cases h with
    | cons a b =>
      obtain ⟨kvs', f1, f2, f3⟩ := pairs_keys' b
      exact ⟨(q.1, x.2) :: kvs', by rw [List.map_cons, ← f1, ← kD_rp a], by simp [f2], by simp [f3]⟩
theorem e_disp (h : wP c (tPairs r) s fun ds s1 => ∃ kvs : List (Key × D), ds = kvs.map (fun kv => (kD kv.1, kv.2)) ∧ kvs.length ≤ 15 ∧ (kvs.map (·.1)).Nodup ∧ R (.d (.dK kvs)) s1) : wE c (tDisp r) s R := by
  intro σ G H Q t k L hL
  obtain ⟨t0, k0⟩ := t.put (o := .dK []) hL
  have nO := t.noOwn (.none hL)
  have h0 := t.fresh0 (.none hL)
  have nu := t.notU h0
  have ntd : ∀ {kvs : List (Key × V)}, c.nt (.dK kvs) := .inr fun _ z => nomatch z
  refine h σ G _ _ t0 fun ps ds s1 G1 H1 ⟨kvs, e, hz, nd, p⟩ t1 k1 r1 r2 => ?_
  obtain ⟨gL, hL1⟩ := k1.thing' ntd nu nO (t.freshG (.none hL)) upd_same
  subst e
  rw [List.map_map] at r1 r2
  have lk : ps.length = kvs.length := by have := r1.len; simpa using this
  obtain ⟨kvs', e1, e2, e3⟩ := pairs_keys' (show RpAll c.K G1 (ps.map (·.1)) (kvs.map fun kv => kD kv.1) from r1)
  refine ⟨hL1, kvs', e1, by have := congrArg List.length e2; simp only [List.length_map] at this; omega, ?_⟩
  have nd' : (([] ++ kvs' : List (Key × V)).map (·.1)).Nodup := by rw [List.nil_append, e2]; exact nd
  rw [mergeK_new nd', List.nil_append]
  have nOs : ∀ i, ¬ Own s1 σ i L := fun i o => nO i (k1.o i L o)
  have t2 := t1.mut (o := .dK kvs') h0 nOs gL (fun o q kk => by rw [hL1] at q; cases q; rcases kk with ⟨_, kk⟩ | ⟨_, kk⟩ <;> cases kk)
  have t3 := t2.show h0 gL nOs upd_same (fun _ z => nomatch z) nu
  have eg : Ex G1 (upd G1 L (.dK kvs')) := Evl.Ex.new gL
  have rr : Rp c.K (upd G1 L (.dK kvs')) (.ref L) (.dK kvs) := by
    have r2' : RpAll c.K G1 (kvs'.map (·.2)) (kvs.map (·.2)) := by rw [e3]; exact r2
    have := Rp.dK (K := c.K) (G := upd G1 L (.dK kvs')) (a := L) upd_same (r2'.mono eg)
    rw [e2] at this
    rw [zip_self] at this
    exact this
  have kk := k0.trans k1
  refine k _ (.d (.dK kvs)) s1 _ _ p t3 ⟨kk.g.trans eg, fun a o h w u n => (upd_ne (by rintro rfl; rw [hL] at h; cases h)).trans (kk.h a o h w u n), fun a h => ?_, kk.o, fun a h => ?_, fun a xs h => kk.t a xs ((upd_ne (by rintro rfl; rw [upd_same] at h; cases h)).symm.trans h)⟩ rr
  · by_cases e : a = L
    · subst e; exact .inr (.inl (.none hL))
    · rw [upd_ne e] at h; exact kk.n a h
  · by_cases e : a = L
    · subst e; exact (h.no upd_same ntd).elim
    · refine kk.m a fun o q n => h.no (o := o) ?_ n
      rw [upd_ne e]; exact q
end
end Kn
/-! name op= e under a condition -/
namespace Kn
open PySem PySem.Spec PyProof.Rows L2 Kg
open Evl (Ex)
theorem ip_mul {X : Cx} : PIp X .Mult (rI CMul fun i j => .int (i * j)) := iop_mul
section
variable {c : Cfg} {s : NS} {te : TE} {N : Pst}
theorem s_augC {i : Nat} {C : Int → Int → Prop} {f : Int → Int → Int} {x : Int} (hi : s.γ[i]? = some (.d (.int x))) (h : wE c te s fun w s1 => I1 w fun y => C x y ∧ N.nx (s1.set i (.d (.int (f x y))))) : wS c (tAug i te (rI C fun i j => .int (f i j))) s N := fun σ G H Z a k1 k2 k3 k4 => by
  obtain ⟨v, e1, r⟩ := a.sl i _ hi
  cases r
  refine ⟨.int x, e1, h σ G H _ a fun y w s1 G1 H1 p a1 kp r1 => ?_⟩
  obtain ⟨j, e, hc, p⟩ := p
  subst e
  refine ⟨x, j, rfl, int_at r1, hc, ?_⟩
  exact k1 _ _ G1 H1 p (a1.store (Hs := H1) (v := .int (f x j)) (w := .d (.int (f x j))) (Rp.int _) rfl i) kp.g
/-- max and min of two -/
theorem e_max2 {tr : TA} {R : Vw → NS → Prop} (h : wA c tr s fun ds s1 => ∃ i j : Int, ds = [.int i, .int j] ∧ R (.d (.int (max i j))) s1) : wE c (tCB (fun xs H Q => ∃ i j, xs = [V.int i, V.int j] ∧ Q (.int (if j > i then j else i)) H) tr) s R := fun σ G H Q t k =>
  h σ G H _ t fun vs ds s1 G1 H1 p t1 k1 r1 => by
    obtain ⟨i, j, rfl, p⟩ := p
    obtain rfl : vs = [.int i, .int j] := by
      cases r1 with
      | cons a b =>
        cases b with
        | cons b c =>
          cases a
          cases b
          cases c
          rfl
    refine ⟨i, j, rfl, ?_⟩
    rw [show (if j > i then j else i) = max i j by omega]
    exact k _ (.d (.int _)) s1 G1 H1 p t1 k1 (Rp.int _)
theorem e_min2 {tr : TA} {R : Vw → NS → Prop} (h : wA c tr s fun ds s1 => ∃ i j : Int, ds = [.int i, .int j] ∧ R (.d (.int (min i j))) s1) : wE c (tCB (fun xs H Q => ∃ i j, xs = [V.int i, V.int j] ∧ Q (.int (if j < i then j else i)) H) tr) s R := fun σ G H Q t k =>
  h σ G H _ t fun vs ds s1 G1 H1 p t1 k1 r1 => by
    obtain ⟨i, j, rfl, p⟩ := p
    obtain rfl : vs = [.int i, .int j] := by
      cases r1 with
      | cons a b =>
        cases b with
        | cons b c =>
          cases a
          cases b
          cases c
          rfl
    refine ⟨i, j, rfl, ?_⟩
    rw [show (if j < i then j else i) = min i j by omega]
    exact k _ (.d (.int _)) s1 G1 H1 p t1 k1 (Rp.int _)
theorem RpAll.toInts {K : PySem.W.Frag} {G : Hp} : ∀ {ns : List Int} {vs : List V}, RpAll K G vs (ns.map D.int) → vs = ns.map V.int
  | [], _, .nil => rfl
  | n :: ns, _, .cons r t => by
    cases (show Rp K G _ (.int n) from r)
    rw [List.map_cons, RpAll.toInts t]
/-- max and min of a list of ints -/
theorem e_maxL_0 {R : Vw → NS → Prop} (h : wE c te s fun w s1 => ∃ ns : List Int, lsOf s1 w = some (ns.map D.int) ∧ 0 < ns.length ∧ ∀ m, m ∈ ns → (∀ y, y ∈ ns → y ≤ m) → R (.d (.int m)) s1) : wE c (tCB (rMax c.K) (tCons te tNil)) s R :=
  e_cb1 h fun σ G H Hs v w s2 Q t r ⟨ns, e, l, p⟩ k => by
    obtain ⟨a, xs, rfl, h1, p1⟩ := ls_at t r e
    rw [RpAll.toInts p1] at h1
    exact ⟨a, ns, rfl, SqL.of h1, l, fun m i1 i2 => k _ (.d (.int m)) s2 G H (p m i1 i2) t .refl (Rp.int _)⟩
theorem e_maxL {K' : PySem.W.Frag} {R : Vw → NS → Prop} (h : wE c te s fun w s1 => ∃ ns : List Int, lsOf s1 w = some (ns.map D.int) ∧ 0 < ns.length ∧ ∀ m, m ∈ ns → (∀ y, y ∈ ns → y ≤ m) → R (.d (.int m)) s1) (hK : K' = c.K := by rfl) : wE c (tCB (rMax K') (tCons te tNil)) s R := by
  subst hK
  exact e_maxL_0 h
theorem e_minL_0 {R : Vw → NS → Prop} (h : wE c te s fun w s1 => ∃ ns : List Int, lsOf s1 w = some (ns.map D.int) ∧ 0 < ns.length ∧ ∀ m, m ∈ ns → (∀ y, y ∈ ns → m ≤ y) → R (.d (.int m)) s1) : wE c (tCB (rMin c.K) (tCons te tNil)) s R :=
  e_cb1 h fun σ G H Hs v w s2 Q t r ⟨ns, e, l, p⟩ k => by
    obtain ⟨a, xs, rfl, h1, p1⟩ := ls_at t r e
    rw [RpAll.toInts p1] at h1
    exact ⟨a, ns, rfl, SqL.of h1, l, fun m i1 i2 => k _ (.d (.int m)) s2 G H (p m i1 i2) t .refl (Rp.int _)⟩
theorem e_minL {K' : PySem.W.Frag} {R : Vw → NS → Prop} (h : wE c te s fun w s1 => ∃ ns : List Int, lsOf s1 w = some (ns.map D.int) ∧ 0 < ns.length ∧ ∀ m, m ∈ ns → (∀ y, y ∈ ns → m ≤ y) → R (.d (.int m)) s1) (hK : K' = c.K := by rfl) : wE c (tCB (rMin K') (tCons te tNil)) s R := by
  subst hK
  exact e_minL_0 h
/-- a chained comparison -/
theorem e_chain {f g : Int → Int → Bool} {ta tb tc : TE} {R : Vw → NS → Prop} (h : wE c ta s fun w s1 => wE c tb s1 fun u s2 => I2 w u fun i j => if f i j = true then wE c tc s2 fun z s3 => I1 z fun l => R (.d (.bl (g j l))) s3 else R (.d (.bl false)) s2) :
    wE c (tChain (rI0 fun i j => .bl (f i j)) (rI0 fun i j => .bl (g i j)) ta tb tc) s R := by
  intro σ G H Q t k
  refine h σ G H _ t fun v w s1 G1 H1 p1 t1 k1 r1 => ?_
  refine p1 σ G1 H1 _ t1 fun x u s2 G2 H2 p2 t2 k2 r2 => ?_
  obtain ⟨i, j, e1, e2, p⟩ := p2
  subst e1 e2
  have hv : v = .int i := int_at (r1.keep k2 t1)
  have hx : x = .int j := int_at r2
  refine ⟨i, j, hv, hx, f i j, rfl, ?_⟩
  cases e : f i j with
  | false =>
    rw [e, if_neg (by decide)] at p
    rw [if_neg (by decide)]
    exact k _ (.d (.bl false)) s2 G2 H2 p t2 (k1.trans k2) (Rp.bl _)
  | true =>
    rw [e, if_pos rfl] at p
    rw [if_pos rfl]
    refine p σ G2 H2 _ t2 fun z wz s3 G3 H3 p3 t3 k3 r3 => ?_
    obtain ⟨l, e3, p3⟩ := p3
    subst e3
    exact ⟨j, l, hx, int_at r3, k _ (.d (.bl _)) s3 G3 H3 p3 t3 ((k1.trans k2).trans k3) (Rp.bl _)⟩
end
end Kn
/-! Kn11: what shows great ints. -/
namespace Kn
open PySem PySem.Spec PyProof.Rows L2 Kg
open Evl (Ex)
/-- great ints, not too many -/
structure Great (n m : Nat) (d : PyData) : Prop where
  ok : greatOk d = true
  lv : d.leavesShort 1000 = true
  bk : d.bulk ≤ n
  dp : d.depth ≤ m
theorem pow3000 : 2 ^ 3000 ≤ 10 ^ 904 := by decide +kernel
theorem great_int {i : Int} (h : i.natAbs < 2 ^ 3000) : Great 0 0 (.int i) where
  ok := by
    rw [greatOk]
    refine decide_eq_true ?_
    by_cases z : i.natAbs = 0
    · rw [z]; decide
    · have := (Nat.log2_lt z).mpr h
      omega
  lv := by
    have e := int_text_length_le10 (k := 904) (by decide) (Nat.lt_of_lt_of_le h pow3000)
    rw [PyData.leavesShort]
    refine decide_eq_true ?_
    show (Str.ofString (toString i)).length ≤ 1000
    rw [PySem.ofString_length]
    omega
  bk := by rw [PyData.bulk]; exact Nat.le_refl _
  dp := by rw [PyData.depth]; exact Nat.le_refl _
theorem great_all {n m l : Nat} : ∀ {ds : List PyData}, (∀ d ∈ ds, Great n m d) → ds.length ≤ l → greatAll ds = true ∧ PyData.leavesShortAll 1000 ds = true ∧ PyData.bulkAll ds ≤ l * (n + 1) ∧ PyData.depthAll ds ≤ m := by
  intro ds h hl
  have go : greatAll ds = true ∧ PyData.leavesShortAll 1000 ds = true ∧ PyData.bulkAll ds ≤ ds.length * (n + 1) ∧ PyData.depthAll ds ≤ m := by
    clear hl
    induction ds with
    | nil => exact ⟨by rw [greatAll], by rw [PyData.leavesShortAll], by rw [PyData.bulkAll]; exact Nat.zero_le _, by rw [PyData.depthAll]; exact Nat.zero_le _⟩
    | cons d ds ih =>
      obtain ⟨a, b, c, e⟩ := ih fun x hx => h x (List.mem_cons_of_mem _ hx)
      have g := h d List.mem_cons_self
      refine ⟨by rw [greatAll, g.ok, a]; rfl, by rw [PyData.leavesShortAll, g.lv, b]; rfl, ?_, ?_⟩
      · have := g.bk
        rw [PyData.bulkAll, List.length_cons, Nat.succ_mul]
        omega
      · have := g.dp
        rw [PyData.depthAll]
        omega
  exact ⟨go.1, go.2.1, Nat.le_trans go.2.2.1 (Nat.mul_le_mul_right _ hl), go.2.2.2⟩
theorem great_tup {n m l : Nat} {ds : List PyData} (h : ∀ d ∈ ds, Great n m d) (hl : ds.length ≤ l) : Great (l * (n + 1)) (m + 1) (.tuple ds) := by
  obtain ⟨a, b, c, e⟩ := great_all h hl
  exact ⟨by rw [greatOk]; exact a, by rw [PyData.leavesShort]; exact b, by rw [PyData.bulk]; exact c, by rw [PyData.depth]; omega⟩
theorem great_lst {n m l : Nat} {ds : List PyData} (h : ∀ d ∈ ds, Great n m d) (hl : ds.length ≤ l) : Great (l * (n + 1)) (m + 1) (.list ds) := by
  obtain ⟨a, b, c, e⟩ := great_all h hl
  exact ⟨by rw [greatOk]; exact a, by rw [PyData.leavesShort]; exact b, by rw [PyData.bulk]; exact c, by rw [PyData.depth]; omega⟩
theorem Great.line {n m : Nat} {d : PyData} (h : Great n m d) (hn : n ≤ 16000 := by decide) : d.shown.length ≤ sizeLine := by
  have := PyData.shown_le_bulk 1000 (by decide) d h.lv
  have := h.bk
  rw [sizeLine_eq]
  omega
theorem Great.two {a b : Int} (ha : a.natAbs < 2 ^ 3000) (hb : b.natAbs < 2 ^ 3000) : Great 2 1 (.tuple [.int a, .int b]) ∧ Great 2 1 (.list [.int a, .int b]) := by
  have h : ∀ d ∈ [PyData.int a, PyData.int b], Great 0 0 d := by
    intro d hd
    simp only [List.mem_cons, List.not_mem_nil, or_false] at hd
    rcases hd with rfl | rfl
    · exact great_int ha
    · exact great_int hb
  exact ⟨great_tup (l := 2) h (Nat.le_refl 2), great_lst (l := 2) h (Nat.le_refl 2)⟩
theorem py_two {a b : Int} : Py (.tup [.int a, .int b]) (.tuple [.int a, .int b]) ∧ Py (.lst [.int a, .int b]) (.list [.int a, .int b]) := ⟨by repeat' constructor, by repeat' constructor⟩
/-- list(range(a, b)) -/
def rgD (a b : Int) : List D := (List.range (b - a).toNat).map fun i => .int (a + (i : Nat))
theorem rg_rp {K : PySem.W.Frag} {G : Hp} (a b : Int) : RpAll K G (rgV a b) (rgD a b) := by
  have h := RpAll.ints (K := K) (G := G) (ns := (List.range (b - a).toNat).map fun i => a + (i : Nat))
  rw [List.map_map, List.map_map] at h
  exact h
theorem e_lstRg {c : Cfg} {s : NS} {R : Vw → NS → Prop} {ta tb : TE} (h : wE c ta s fun w s1 => wE c tb s1 fun u s2 => I2 w u fun i j => RgOk i j ∧ R (.f (rgD i j)) s2) : wE c (tLstRg (tRg2 ta tb)) s R := by
  intro σ G H Q t k
  refine h σ G H _ t fun v w s1 G1 H1 p1 t1 k1 r1 => p1 σ G1 H1 _ t1 fun x u s2 G2 H2 p2 t2 k2 r2 => ?_
  obtain ⟨i, j, e1, e2, ok, p⟩ := p2
  subst e1 e2
  refine ⟨i, j, int_at (r1.keep k2 t1), int_at r2, ok, fun q hq => ?_⟩
  obtain ⟨t3, k3⟩ := t2.put (o := .lst (rgV i j)) hq
  exact k _ (.f (rgD i j)) s2 G2 _ p t3 (k1.trans (k2.trans k3)) ⟨q, _, rfl, (k1.trans k2).m q (.none hq), t2.fresh0 (.none hq), t2.freshG (.none hq), t2.noOwn (.none hq), upd_same, .l (rg_rp i j)⟩
/-- what a view shows as data -/
def pyVw (s : NS) (w : Vw) (p : PyData) : Prop := (∃ d, w = .d d ∧ Py d p) ∨ ∃ ds ps, lsOf s w = some ds ∧ PyAll ds ps ∧ p = .list ps
theorem pyVw.da {c : Cfg} {s : NS} {σ : L2.St} {G H Hs : Hp} {v : V} {w : Vw} {p : PyData} (h : pyVw s w p) (t : At c s σ G H) (r : VwR c Hs s σ G H v w) : Da c.K H v p := by
  rcases h with ⟨d, rfl, q⟩ | ⟨ds, ps, e, q, rfl⟩
  · exact Da.mono t.gh _ (Rp.da p q (show Rp c.K G v d from r))
  · exact ls_da t r e q
theorem e_reprG {c : Cfg} {s : NS} {R : Vw → NS → Prop} {K' : PySem.W.Frag} {te : TE} (ok : ReprOk c) (h : wE c te s fun w s1 => ∃ p, pyVw s1 w p ∧ greatOk p = true ∧ p.shown.length ≤ sizeLine ∧ p.depth ≤ 60 ∧ R (.d (.str p.shown)) s1) (hK : K' = c.K := by rfl) : wE c (tCB (rReprG K') (tCons te tNil)) s R := by
  subst hK
  refine e_cb1 h fun σ G H Hs v w s2 Q t r ⟨p, q, h1, h2, h3, z⟩ k => ?_
  exact ⟨v, p, rfl, q.da t r, ok.2 _ _ _ _ t, h1, h2, h3, k _ (.d (.str _)) s2 G H z t .refl (Rp.str _)⟩
theorem e_neDL {c : Cfg} {s : NS} {R : Vw → NS → Prop} {ta tb : TE} {K' : PySem.W.Frag} (h : wE c ta s fun w s1 => wE c tb s1 fun u s2 => ∃ p q, pyVw s2 w p ∧ pyVw s2 u q ∧ SeqAt.shaped p = true ∧ SeqAt.shaped q = true ∧ R (.d (.bl (!PyData.eqv p q))) s2) (hK : K' = c.K := by rfl) : wE c (tOp (rNeD K') ta tb) s R := by
  subst hK
  refine e_op h fun σ G H Hs v x w u s2 Q t r1 r2 ⟨p, q, hp, hq, sp, sq, z⟩ k => ?_
  exact ⟨p, q, Da.dp p (SeqAt.canLay_of_shaped sp) (hp.da t r1), Da.dp q (SeqAt.canLay_of_shaped sq) (hq.da t r2), sp, sq, k _ (.d (.bl _)) s2 G H z t .refl (Rp.bl _)⟩
theorem e_eqDL {c : Cfg} {s : NS} {R : Vw → NS → Prop} {ta tb : TE} {K' : PySem.W.Frag} (h : wE c ta s fun w s1 => wE c tb s1 fun u s2 => ∃ p q, pyVw s2 w p ∧ pyVw s2 u q ∧ SeqAt.shaped p = true ∧ SeqAt.shaped q = true ∧ R (.d (.bl (PyData.eqv p q))) s2) (hK : K' = c.K := by rfl) : wE c (tOp (rEqD K') ta tb) s R := by
  subst hK
  refine e_op h fun σ G H Hs v x w u s2 Q t r1 r2 ⟨p, q, hp, hq, sp, sq, z⟩ k => ?_
  exact ⟨p, q, Da.dp p (SeqAt.canLay_of_shaped sp) (hp.da t r1), Da.dp q (SeqAt.canLay_of_shaped sq) (hq.da t r2), sp, sq, k _ (.d (.bl _)) s2 G H z t .refl (Rp.bl _)⟩
/-- lists of ints, compared -/
theorem ints_py (ns : List Int) : PyAll (ns.map D.int) (ns.map PyData.int) := by
  induction ns with
  | nil => exact .nil
  | cons n ns ih => exact .cons (.int n) ih
theorem ints_lay (ns : List Int) : PyData.canLayAll0 (ns.map PyData.int) = true ∧ PyData.depthAll (ns.map PyData.int) = 0 := by
  induction ns with
  | nil => exact ⟨by rw [List.map_nil, PyData.canLayAll0], by rw [List.map_nil, PyData.depthAll]⟩
  | cons n ns ih => exact ⟨by rw [List.map_cons, PyData.canLayAll0, ih.1]; rfl, by rw [List.map_cons, PyData.depthAll, ih.2, PyData.depth]; rfl⟩
theorem ints_shaped (ns : List Int) : SeqAt.shaped (.list (ns.map PyData.int)) = true := by
  obtain ⟨a, b⟩ := ints_lay ns
  unfold SeqAt.shaped
  rw [PyData.canLay0, a, PyData.depth, b]
  rfl
/-- a call by three keywords, the last parameter first -/
def g3r : List D → List D
  | [a, b, d] => [d, b, a]
  | _ => []
theorem e_callK3r {c : Cfg} {s : NS} {R : Vw → NS → Prop} {tk : TA} {K' : PySem.W.Frag} {φ : List D → (D → Prop) → Er → Prop} {E : XK} {X : Er} {gV : List V → List V → List V} (h0 : gV [] [] = []) (h1 : ∀ a, gV [] [a] = []) (h2 : ∀ a b, gV [] [a, b] = []) (h3 : ∀ a b d, gV [] [a, b, d] = [d, b, a]) (h4 : ∀ a b d e vs, gV [] (a :: b :: d :: e :: vs) = []) (hE : ErrIn c E X)
    (h : wA c tk s fun ds s1 => φ (g3r ds) (fun d => R (.d d) s1) X) (hK : K' = c.K := by rfl) : wE c (tCallK (spP K' φ) gV E tNil tk) s R := by
  refine e_callK (gD := g3r) (fun G vs ds r => ?_) hE h hK
  cases r with
  | nil => rw [h0]; exact .nil
  | cons a r =>
    cases r with
    | nil => rw [h1]; exact .nil
    | cons b r =>
      cases r with
      | nil => rw [h2]; exact .nil
      | cons d r =>
        cases r with
        | nil => rw [h3]; exact .cons d (.cons b (.cons a .nil))
        | cons e r => rw [h4]; exact .nil
/-- t[lo:], t[:hi], t a tuple that is longer than what is cut -/
theorem cut_tup {c : Cfg} {s : NS} {σ : L2.St} {G H : Hp} {v : V} {ds : List D} {lo hi : Option Int} (t : At c s σ G H) (r : Rp c.K G v (.tup ds)) (n : ¬ (HT.sIx ds.length 0 lo = 0 ∧ HT.sIx ds.length ds.length hi = ds.length)) {Q : VK}
    (k : ∀ v' G' H', At c s σ G' H' → Kp c s σ G H s G' H' → Rp c.K G' v' (.tup (cutD ds lo hi)) → Q v' H') : rSlT c.K v lo hi H Q := by
  cases r with
  | @tup a xs _ h1 h2 =>
    refine ⟨a, xs, rfl, SqT.of (t.gh _ _ h1), by rw [h2.len]; exact n, fun q hq => ?_⟩
    obtain ⟨t3, k3⟩ := t.lay (o := .tup (cutV xs lo hi)) hq (fun _ z => nomatch z)
    exact k _ _ _ t3 k3 (.tup upd_same ((cut_rp h2 lo hi).mono k3.g))
theorem e_slFromT {c : Cfg} {s : NS} {R : Vw → NS → Prop} {te tl : TE} {K' : PySem.W.Frag} (h : wE c te s fun w s1 => wE c tl s1 fun u s2 => ∃ ds n, w = .d (.tup ds) ∧ u = .d (.int n) ∧ HT.sIx ds.length 0 (some n) ≠ 0 ∧ R (.d (.tup (cutD ds (some n) none))) s2) (hK : K' = c.K := by rfl) : wE c (tSl (rSlT K') te (tPart tl) tNoPart) s R := by
  subst hK
  intro σ G H Q t k
  refine h σ G H _ t fun v w s1 G1 H1 p1 t1 k1 r1 => p1 σ G1 H1 _ t1 fun x u s2 G2 H2 ⟨ds, n, e1, e2, ne, p⟩ t2 k2 r2 => ?_
  subst e1 e2
  refine ⟨n, int_at r2, ?_⟩
  exact cut_tup t2 (Rp.mono k2.g (show Rp c.K G1 v _ from r1)) (fun z => ne z.1) fun v' G' H' t3 k3 r3 => k v' (.d (.tup _)) s2 G' H' p t3 (k1.trans (k2.trans k3)) r3
theorem e_slToT {c : Cfg} {s : NS} {R : Vw → NS → Prop} {te th : TE} {K' : PySem.W.Frag} (h : wE c te s fun w s1 => wE c th s1 fun u s2 => ∃ ds n, w = .d (.tup ds) ∧ u = .d (.int n) ∧ HT.sIx ds.length ds.length (some n) ≠ ds.length ∧ R (.d (.tup (cutD ds none (some n)))) s2) (hK : K' = c.K := by rfl) : wE c (tSl (rSlT K') te tNoPart (tPart th)) s R := by
  subst hK
  intro σ G H Q t k
  refine h σ G H _ t fun v w s1 G1 H1 p1 t1 k1 r1 => p1 σ G1 H1 _ t1 fun x u s2 G2 H2 ⟨ds, n, e1, e2, ne, p⟩ t2 k2 r2 => ?_
  subst e1 e2
  refine ⟨n, int_at r2, ?_⟩
  exact cut_tup t2 (Rp.mono k2.g (show Rp c.K G1 v _ from r1)) (fun z => ne z.2) fun v' G' H' t3 k3 r3 => k v' (.d (.tup _)) s2 G' H' p t3 (k1.trans (k2.trans k3)) r3
/-- xs * n -/
theorem rep_rp {K : PySem.W.Frag} {G : Hp} {xs : List V} {ds : List D} (r : RpAll K G xs ds) : ∀ n : Nat, RpAll K G (List.replicate n xs).flatten (List.replicate n ds).flatten
  | 0 => .nil
  | n + 1 => by
    rw [List.replicate_succ, List.replicate_succ, List.flatten_cons, List.flatten_cons]
    exact r.app (rep_rp r n)
theorem e_rep {c : Cfg} {s : NS} {R : Vw → NS → Prop} {ta tb : TE} (h : wE c ta s fun w s1 => wE c tb s1 fun u s2 => ∃ ds n, lsOf s2 w = some ds ∧ u = .d (.int n) ∧ (-(2 ^ 63) ≤ n ∧ n < 2 ^ 63 ∧ ds.length * n.toNat ≤ sizeLine) ∧ R (.f (List.replicate n.toNat ds).flatten) s2) : wE c (tOp rRep ta tb) s R :=
  e_op h fun σ G H Hs v x w u s2 Q t r1 r2 ⟨ds, n, e1, e2, ⟨b1, b2, b3⟩, p⟩ k => by
    subst e2
    obtain ⟨a, xs, rfl, h1, p1⟩ := ls_at t r1 e1
    refine ⟨a, n, xs, rfl, int_at r2, h1, b1, b2, by rw [p1.len]; exact b3, fun q hq => ?_⟩
    obtain ⟨t2, k2⟩ := t.put (o := .lst (List.replicate n.toNat xs).flatten) hq
    exact k _ (.f _) s2 G _ p t2 k2 ⟨q, _, rfl, .none hq, t.fresh0 (.none hq), t.freshG (.none hq), t.noOwn (.none hq), upd_same, .l (rep_rp p1 _)⟩
end Kn
/-! Kn12: objects of one's own: made, asked, compared; chains of three; tuples joined. -/
namespace Kn
open PySem PySem.Spec PyProof.Rows L2 Kg
open Evl (Ex)
/-- a class of one's own: what is known of it -/
structure ObjC (K : PySem.W.Frag) (C : Addr) : Prop where
  cl : Cls K C
  ha : PySem.W.findIn K (.ref C) "__class__" = some (some (.builtin "object.__class__"))
  hn : PySem.W.specialIn K (.builtin "object.__class__") "__get__" = some (some (.builtin "getset_descriptor.__get__"))
  htk : PySem.W.takesIn K (.builtin "object.__class__") = some true
  hm : PySem.W.mroIn K C (.type "object") = some true
section
variable {c : Cfg} {s : NS} {R : Vw → NS → Prop} {ta tb tc td : TE} {K' : PySem.W.Frag} {tr : TA}
theorem look_at {K : PySem.W.Frag} {G : Hp} {f : Str} {d : D} : ∀ {fs : List (Str × V)} {ds : List D}, RpAll K G (fs.map (·.2)) ds → ((fs.map (·.1)).zip ds).lookup f = some d → ∃ v, fs.lookup f = some v ∧ Rp K G v d
  | [], _, _, h => by simp at h
  | (n, v) :: fs, ds, r, h => by
    cases r with
    | cons r1 r2 =>
      rw [List.map_cons, List.zip_cons_cons, List.lookup_cons] at h
      rw [List.lookup_cons]
      cases e : f == n with
      | true => rw [e] at h; cases h; exact ⟨v, rfl, r1⟩
      | false => rw [e] at h; exact look_at r2 h
theorem ins_at {K : PySem.W.Frag} {G : Hp} {v : V} {C : Addr} {fs : List (Str × D)} (h : Rp K G v (.ins C fs)) : ∃ a dx fs' ds, v = .ref a ∧ G a = some (.ins C dx fs') ∧ RpAll K G (fs'.map (·.2)) ds ∧ fs = (fs'.map (·.1)).zip ds := by
  generalize e : D.ins C fs = d at h
  cases h with
  | @ins a C' dx fs' ds h1 h2 => cases e; exact ⟨a, dx, fs', ds, rfl, h1, h2, rfl⟩
  | _ => cases e
/-- x.f -/
theorem e_fld {f : Str} (h : wE c ta s fun w s1 => ∃ C fs d, w = .d (.ins C fs) ∧ Cls c.K C ∧ NoAttr c.K C f ∧ fs.lookup f = some d ∧ R (.d d) s1) (hK : K' = c.K := by rfl) : wE c (tFld K' ta f) s R := by
  subst hK
  intro σ G H Q t k
  refine h σ G H _ t fun v w s1 G1 H1 ⟨C, fs, d, e, cl, na, lk, p⟩ t1 k1 r1 => ?_
  subst e
  obtain ⟨a, dx, fs', ds, rfl, h1, h2, rfl⟩ := ins_at (show Rp c.K G1 v _ from r1)
  obtain ⟨u, l1, l2⟩ := look_at h2 lk
  exact ⟨a, C, dx, fs', u, rfl, t1.gh _ _ h1, cl, na, l1, k u (.d d) s1 G1 H1 p t1 k1 l2⟩
/-- an __init__ that only keeps what it is told, or makes of it -/
def spInit (K : PySem.W.Frag) (C : Addr) (φ : List D → List (Str × D) → Prop) : Sp := fun vs H Q _ => ∃ G x dx us ds fs, vs = .ref x :: us ∧ Ex G H ∧ RpAll K G us ds ∧ H x = some (.ins C dx []) ∧ φ ds fs ∧
  ∀ fs' : List (Str × V), fs'.map (·.1) = fs.map (·.1) → RpAll K G (fs'.map (·.2)) (fs.map (·.2)) → Q .non (upd H x (.ins C dx fs'))
theorem e_make {C : Addr} {φ : List D → List (Str × D) → Prop} {E : XK} (h : wA c tr s fun ds s1 => ∃ fs, φ ds fs ∧ R (.d (.ins C fs)) s1) (hK : K' = c.K := by rfl) : wE c (tMake C (spInit K' C φ) [] E tr) s R := by
  subst hK
  intro σ G H Q t k
  refine h σ G H _ t fun vs ds s1 G1 H1 ⟨fs, hφ, p⟩ t1 k1 r1 x dx hx hdx ne => ?_
  have gx : G1 x = none := t1.freshG (.none hx)
  have e1 : Ex H1 (upd H1 dx (.own x)) := Evl.Ex.new hdx
  have e2 : Ex H1 (upd (upd H1 dx (.own x)) x (.ins C dx [])) := fun b o hb => by
    rw [upd_ne (by rintro rfl; rw [hx] at hb; cases hb)]; exact e1 b o hb
  refine ⟨G1, x, dx, vs, ds, fs, by rw [List.append_nil], fun b o hb => e2 b o (t1.gh b o hb), r1, upd_same, hφ, fun fs' n1 n2 => ⟨rfl, ?_⟩⟩
  have e3 : Ex H1 (upd (upd (upd H1 dx (.own x)) x (.ins C dx [])) x (.ins C dx fs')) := fun b o hb => by
    rw [upd_ne (by rintro rfl; rw [hx] at hb; cases hb)]; exact e2 b o hb
  have eg : Ex G1 (upd G1 x (.ins C dx fs')) := Evl.Ex.new gx
  obtain ⟨t2, k2⟩ := t1.grow (G' := upd G1 x (.ins C dx fs')) eg e3 (fun b o hb => by
    by_cases e : b = x
    · subst e; rw [upd_same] at hb ⊢; exact hb
    · rw [upd_ne e] at hb; exact e3 b o (t1.gh b o hb)) (fun b o hb => by
    by_cases e : b = x
    · subst e; rw [upd_same] at hb; cases hb; exact fun _ z => nomatch z
    · rw [upd_ne e] at hb; exact t1.gt b o hb) (fun b hb => by
    by_cases e : b = x
    · subst e; exact .inr (.none hx)
    · rw [upd_ne e] at hb; exact .inl hb)
  refine k (.ref x) (.d (.ins C fs)) s1 _ _ p t2 (k1.trans k2) ?_
  have rr := Rp.ins (K := c.K) (G := upd G1 x (.ins C dx fs')) (a := x) (C := C) (dx := dx) (fs := fs') upd_same (n2.mono eg)
  rw [n1, zip_self] at rr
  exact rr
/-- isinstance(x, C), x of C -/
theorem e_isiC (h : wE c ta s fun w s1 => wE c tb s1 fun u s2 => ∃ C fs, w = .d (.ins C fs) ∧ u = .d (.rf C) ∧ ObjC c.K C ∧ PySem.W.kitOne c.K (.ref C) (.ref C) = some true ∧ R (.d (.bl true)) s2) (hK : K' = c.K := by rfl) : wE c (tCB (rIsi K') (tCons ta (tCons tb tNil))) s R := by
  subst hK
  intro σ G H Q t k
  refine h σ G H _ t fun v w s1 G1 H1 p1 t1 k1 r1 => p1 σ G1 H1 _ t1 fun x u s2 G2 H2 ⟨C, fs, e1, e2, oc, e4, z⟩ t2 k2 r2 => ?_
  subst e1 e2
  cases (show Rp c.K G2 x (.rf C) from r2)
  obtain ⟨a, dx, fs', ds, rfl, h1, h2, rfl⟩ := ins_at (Rp.mono k2.g (show Rp c.K G1 v _ from r1))
  exact ⟨.ref a, .ref C, .ref C, .ref C, true, rfl, .own C, .base (.ins (t2.gh _ _ h1) oc.cl oc.ha oc.hn oc.htk oc.hm), e4, k _ (.d (.bl true)) s2 G2 H2 z t2 (k1.trans k2) (Rp.bl true)⟩
/-- x == y by their class's own == -/
theorem e_eqO {C : Addr} {φ : List D → (D → Prop) → Er → Prop} {E : XK} (h : wE c ta s fun w s1 => wE c tb s1 fun u s2 => ∃ fs gs, w = .d (.ins C fs) ∧ u = .d (.ins C gs) ∧ φ [.ins C fs, .ins C gs] (fun d => ∃ r, d = .bl r ∧ R (.d (.bl r)) s2) (fun _ _ => False)) (hK : K' = c.K := by rfl) :
    wE c (tOp (rEqO C (spP K' φ) E) ta tb) s R := by
  subst hK
  refine e_op h fun σ G H Hs v x w u s2 Q t r1 r2 ⟨fs, gs, e1, e2, z⟩ k => ?_
  subst e1 e2
  obtain ⟨a, dx, fs', ds, rfl, h1, h2, e1⟩ := ins_at (show Rp c.K G v _ from r1)
  obtain ⟨b, dy, gs', es, rfl, h3, h4, e2⟩ := ins_at (show Rp c.K G x _ from r2)
  refine ⟨a, b, dx, dy, fs', gs', rfl, rfl, t.gh _ _ h1, t.gh _ _ h3, G, _, _, _, t.gh, t.gt, .cons r1 (.cons r2 .nil), z, fun v d G' H' ⟨r, e, q⟩ hh eg gh gt nw rp => ?_, fun _ _ _ _ _ _ z => z.elim⟩
  subst e
  obtain ⟨t2, k2⟩ := t.grow eg hh gh gt (fun a h => (nw a h).imp id Nw.fw)
  exact ⟨r, by cases rp; rfl, k v (.d (.bl r)) s2 G' H' q t2 k2 rp⟩
/-- t + u -/
theorem e_catE (h : wE c ta s fun w s1 => wE c tb s1 fun u s2 => ∃ ds es, w = .d (.tup ds) ∧ u = .d (.tup es) ∧ ds.length + es.length ≤ sizeLine ∧ R (.d (.tup (ds ++ es))) s2) (hK : K' = c.K := by rfl) : wE c (tOp (rCatE K') ta tb) s R := by
  subst hK
  refine e_op h fun σ G H Hs v x w u s2 Q t r1 r2 ⟨ds, es, e1, e2, hz, z⟩ k => ?_
  subst e1 e2
  cases (show Rp c.K G v (.tup ds) from r1) with
  | @tup a xs _ h1 p1 =>
    cases (show Rp c.K G x (.tup es) from r2) with
    | @tup b ys _ h2 p2 =>
      refine ⟨a, b, xs, ys, rfl, rfl, SqT.of (t.gh _ _ h1), SqT.of (t.gh _ _ h2), by rw [p1.len, p2.len]; exact hz, fun n => ?_, fun n m => ?_, fun n m q hq => ?_⟩
      · subst n
        cases p1
        exact k _ (.d (.tup _)) s2 G H z t .refl (.tup h2 p2)
      · subst m
        cases p2
        rw [List.append_nil] at z
        exact k _ (.d (.tup _)) s2 G H z t .refl (.tup h1 p1)
      · obtain ⟨t3, k3⟩ := t.lay (o := .tup (xs ++ ys)) hq (fun _ z => nomatch z)
        exact k _ (.d (.tup _)) s2 _ _ z t3 k3 (.tup upd_same ((p1.app p2).mono k3.g))
/-- sum(t) -/
theorem e_sumT (h : wE c ta s fun w s1 => ∃ ns : List Int, w = .d (.tup (ns.map D.int)) ∧ R (.d (.int ns.sum)) s1) (hK : K' = c.K := by rfl) : wE c (tCB (rSumT K') (tCons ta tNil)) s R := by
  subst hK
  refine e_cb1 h fun σ G H Hs v w s2 Q t r ⟨ns, e, z⟩ k => ?_
  subst e
  cases (show Rp c.K G v (.tup (ns.map D.int)) from r) with
  | tup h1 p1 =>
    rw [RpAll.toInts p1] at h1
    exact ⟨_, ns, rfl, SqT.of (t.gh _ _ h1), k _ (.d (.int _)) s2 G H z t .refl (Rp.int _)⟩
/-- a < b < c < d -/
theorem e_chain3 {f g l : Int → Int → Bool} (h : wE c ta s fun w s1 => wE c tb s1 fun u s2 => I2 w u fun i j => if f i j = true then wE c tc s2 fun z s3 => I1 z fun m => (if g j m = true then wE c td s3 fun y s4 => I1 y fun n => R (.d (.bl (l m n))) s4 else R (.d (.bl false)) s3) else R (.d (.bl false)) s2) :
    wE c (tChain3 (rI0 fun i j => .bl (f i j)) (rI0 fun i j => .bl (g i j)) (rI0 fun i j => .bl (l i j)) ta tb tc td) s R := by
  intro σ G H Q t k
  refine h σ G H _ t fun v w s1 G1 H1 p1 t1 k1 r1 => ?_
  refine p1 σ G1 H1 _ t1 fun x u s2 G2 H2 p2 t2 k2 r2 => ?_
  obtain ⟨i, j, e1, e2, p⟩ := p2
  subst e1 e2
  have hv : v = .int i := int_at (r1.keep k2 t1)
  have hx : x = .int j := int_at r2
  refine ⟨i, j, hv, hx, f i j, rfl, ?_⟩
  cases e : f i j with
  | false =>
    rw [e, if_neg (by decide)] at p
    rw [if_neg (by decide)]
    exact k _ (.d (.bl false)) s2 G2 H2 p t2 (k1.trans k2) (Rp.bl _)
  | true =>
    rw [e, if_pos rfl] at p
    rw [if_pos rfl]
    refine p σ G2 H2 _ t2 fun z wz s3 G3 H3 p3 t3 k3 r3 => ?_
    obtain ⟨m, e3, p3⟩ := p3
    subst e3
    refine ⟨j, m, hx, int_at r3, g j m, rfl, ?_⟩
    cases e4 : g j m with
    | false =>
      rw [e4, if_neg (by decide)] at p3
      rw [if_neg (by decide)]
      exact k _ (.d (.bl false)) s3 G3 H3 p3 t3 ((k1.trans k2).trans k3) (Rp.bl _)
    | true =>
      rw [e4, if_pos rfl] at p3
      rw [if_pos rfl]
      refine p3 σ G3 H3 _ t3 fun y wy s4 G4 H4 p4 t4 k4 r4 => ?_
      obtain ⟨n, e5, p4⟩ := p4
      subst e5
      exact ⟨m, n, int_at (r3.keep k4 t3), int_at r4, k _ (.d (.bl _)) s4 G4 H4 p4 t4 (((k1.trans k2).trans k3).trans k4) (Rp.bl _)⟩
end
end Kn
/-! Kg29: defs read off a class, attributes as targets, own truth, type of an instance, is of classes. -/
namespace Kg
open PySem PySem.Spec PyProof.Rows L2 ClX
/-- C.m is the def at f -/
structure CFun (K : PySem.W.Frag) (C f : Addr) (m : Str) : Prop where
  rd : CRead K C (.type "type")
  at_ : PySem.W.findCls K (.ref C) (.type "type") m = some (.val (.ref f))
  kp : PySem.W.keepIn K (.ref f) = true
def tFMeth (C : Addr) (sp : Sp) (E : XK) (ta : TE) (t : TA) : TE := fun σ H Q => ta σ H fun x H1 => x = .ref C ∧ t σ H1 fun vs H2 => sp vs H2 Q E
section
variable {X : Cx} {CX : CXT} {k : Nat} {C g : Addr} {sp : Sp} {E : XK} {o e : Expr} {es : List Expr} {f m : Str} {pos apos : Pos} {ta : TE} {t : TA} {pl : Sem Bool}
theorem pe_fmeth (he : PE X o ta) (c : CFun X.K C g m) (F : FnR X.prog X.w X.K X.mg X.base CX k g sp) (hr : Room k X.A) (hx : Passes CX X E) (ha : PA X (e :: es) t)
    (hst : starEach (e :: es) X.env = (false, eval e X.env) :: starEach es X.env := by rfl) (hpl : (backTo pos (starEach es X.env)).any (·.1) = false := by rfl)
    (ht : eval (.Call (.Attribute o m apos) (e :: es) [] pos) X.env = (do
      let ov ← eval o X.env
      standAt apos.atName
      let (f, first) ← holding [ov] (getMethod ov m pl)
      callWith pos f first (backTo pos (starEach (e :: es) X.env)) (backToKw pos (keywordEach [] X.env))) := by rfl) :
    PE X (.Call (.Attribute o m apos) (e :: es) [] pos) (tFMeth C sp E ta t) := by
  refine ⟨fun pins s σ H Q I h => ?_⟩
  refine PySem.W.methodCall_KW (pl := pl) (thn (he.run pins s σ H _ I h) fun u s1 ⟨x, H1, I1, rx, ex, q⟩ => ?_) ht
  subst ex
  obtain rfl : u = Value.ref C := rx
  have cv : CVal X.K C (.type "type") m (.ref g) (.ref g) := ⟨c.at_, rfl⟩
  refine PySem.W.method_cls I1.kIn c.rd.ga (getcval_ok I1 c.rd cv fun s2 I2 => ?_)
  refine PySem.W.callWith_K (h₀ := X.base) I2.ok.mod.kin c.kp (thn (ha.run pos pins s2 σ H1 _ I2 q) fun us s3 ⟨vs, H2, I3, rv, q2⟩ => ⟨I3.kIn, ?_⟩) hst hpl
  exact wpAny_call (run_fnR F hr hx I3 rv q2)
theorem nox_ex {X : Cx} {b : List Stmt} {R : TS → Prop} (h : ∃ t, PSs X.nox b t ∧ R t) : ∃ t, PSs X b t ∧ R t := let ⟨t, h1, h2⟩ := h; ⟨t, h1.nox, h2⟩
/-- e.f as a target -/
def gFld (K : PySem.W.Frag) (to : TE) (f : Str) : TG := fun v σ H Q => to σ H fun x H2 => ∃ a C dx fs, x = .ref a ∧ H2 a = some (.ins C dx fs) ∧ Cls K C ∧ NoAttr K C f ∧ fs.length < 1000 ∧
  Q σ (upd H2 a (.ins C dx (putF f v fs)))
theorem pg_fld (ho : PE X o ta) : PG X (.Attribute o f pos) (gFld X.K ta f) := by
  refine ⟨fun pins s σ H v u Q I r h => ?_⟩
  rw [assign_Attribute]
  refine wpAny_bind (wpAny_holding (thn (ho.run pins s σ H _ I h) fun ov s1 ⟨x, H1, I1, r1, a, C, dx, fs, ex, ea, c, n, l, q⟩ => ?_))
  subst ex
  obtain rfl : ov = Value.ref a := r1
  refine wpAny_bind (wpAny_standAt (wpAny_bind (wpAny_holding (setattr_ok I1 ea c n l r fun s3 I3 => ?_))))
  exact wpAny_release ⟨σ, _, I3, q⟩
/-- the truth of an instance with an own __bool__ -/
def rTruO (C : Addr) (sp : Sp) (E : XK) : V → Hp → (Bool → Hp → Prop) → Prop := fun x H Q => ∃ a dx fs, x = .ref a ∧ H a = some (.ins C dx fs) ∧ sp [x] H (fun v H' => ∃ r, v = .bl r ∧ Q r H') E
theorem tru_own {fd : FuncData} {ps : List Str} (F : FnOk X.prog X.w X.K X.mg X.base CX k g fd ps sp) (hr : Room k X.A) (hs : PySem.W.findIn X.K (.ref C) "__bool__" = some (some (.ref g))) (hf : PySem.W.isFn X.K (.ref g) = true)
    (hb : Binds X.K fd ps []) (hx : Passes CX X E) : TruR X (rTruO C sp E) := by
  intro pins s σ H x v Q I rx h
  obtain ⟨a, dx, fs, rfl, ha, hsp⟩ := h
  obtain rfl : v = Value.ref a := rx
  obtain ⟨mA, J, _⟩ := ins_get I.hok ha
  obtain ⟨od, J, _⟩ := J.look
  obtain ⟨m, hF⟩ := I.fr
  refine PySem.W.truthy_K hF I.ok.mod.kin J hs hf ?_
  refine thn (run_fn F hr hb .nil hx I (show Vals [V.ref a] [Value.ref a] from .cons rfl .nil) hsp) ?_
  rintro z s' ⟨z', H', I', rz, r, e, q⟩
  subst e
  obtain rfl : z = Value.bool r := rz
  exact ⟨H', I', q⟩
/-- type(x), x an instance -/
def rTypO (C : Addr) : List V → Hp → VK → Prop := fun xs H Q => ∃ a dx fs, xs = [.ref a] ∧ H a = some (.ins C dx fs) ∧ Q (.ref C) H
def rTypA (K : PySem.W.Frag) : List V → Hp → VK → Prop := fun xs H Q => (∃ C, rTypO C xs H Q) ∨ rTyp K xs H Q
theorem call_typeA : CallR X (.type "type") (rTypA X.K) := by
  intro pins s σ H xs us Q I r h
  rcases h with ⟨C, a, dx, fs, rfl, ha, q⟩ | h
  · rw [Vals.ref1 r]
    obtain ⟨mA, J, _⟩ := ins_get I.hok ha
    obtain ⟨od, J, _⟩ := J.look
    exact PySem.W.kto_own J ⟨.ref C, H, I, rfl, q⟩
  · exact call_type1 pins s σ H xs us Q I r h
/-- is, of two classes -/
def rIsC (K : PySem.W.Frag) : R2 := fun x y H Q => (∃ a b, x = .ref a ∧ y = .ref b ∧ PySem.W.typeIn K (.ref a) = some (.type "type") ∧ PySem.W.typeIn K (.ref b) = some (.type "type") ∧ Q (.bl (decide (a = b))) H) ∨ (∃ a n, x = .ref a ∧ y = .ty n ∧ Q (.bl false) H) ∨ ∃ m n, x = .ty m ∧ y = .ty n ∧ Q (.bl (decide (m = n))) H
theorem op_isC : OpR X (compareOp .Is) (rIsC X.K) := by
  intro pins s σ H x y v u Q I rx ry h
  rcases h with ⟨a, b, rfl, rfl, ta, tb, q⟩ | ⟨a, n, rfl, rfl, q⟩ | h
  · cases (show v = Value.ref a from rx)
    cases (show u = Value.ref b from ry)
    obtain ⟨oa, la, ca⟩ := Option.map_eq_some_iff.mp ta
    obtain ⟨ob, lb, cb⟩ := Option.map_eq_some_iff.mp tb
    by_cases e : a = b
    · subst e
      exact wpAny_is_ref_self ⟨.bl true, H, I, rfl, by simpa using q⟩
    · exact wpAny_is_ref_other e (I.kIn _ _ la) (I.kIn _ _ lb) (by rw [ca]; exact fun z => absurd (Value.type.inj z) (by decide)) ⟨.bl false, H, I, rfl, by simpa [e] using q⟩
  · cases (show v = Value.ref a from rx)
    cases (show u = Value.type n from ry)
    exact wpAny_is_plain rfl (fin_bl I q rfl)
  · exact op_isTyB pins s σ H x y v u Q I rx ry h
end
end Kg
/-! Kn13: a name that holds one of several defs is called in a lambda. -/
namespace Kn
open PySem PySem.Spec PyProof.Rows L2 Kg LamX
open Evl (Ex)
def tCallS (i : Nat) (fs : List Addr) (sp : Sp) (E : XK) (t : TA) : TE := fun σ H Q => ∃ f, f ∈ fs ∧ σ[i]? = some (some (.ref f)) ∧ t σ H fun vs H1 => sp (vs ++ []) H1 Q E
theorem pe_callS {X : Cx} {CX : CXT} {k i : Nat} {fs : List Addr} {sp : Sp} {E : XK} {x : Str} {p pos : Pos} {e : Expr} {es : List Expr} {t : TA}
    (A : ∀ f, f ∈ fs → ∃ (fd : FuncData) (ps : List Str), FnOk X.prog X.w X.K X.mg X.base CX k f fd ps sp ∧ PySem.W.keepIn X.K (.ref f) = true ∧ Binds X.K fd ps []) (hr : Room k X.A) (hN : X.N[i]? = some x) (hv : Vis X.env.scope x) (hx : Passes CX X E) (ha : PA X (e :: es) t)
    (hdb : (x == ("__debug__" : Str)) = false := by decide) (hcd : (x == ("__classdict__" : Str)) = false := by decide)
    (he : starEach (e :: es) X.env = (false, eval e X.env) :: starEach es X.env := by rfl) (hpl : (backTo pos (starEach es X.env)).any (·.1) = false := by rfl) : PE X (.Call (.Name x p) (e :: es) [] pos) (tCallS i fs sp E t) := by
  refine ⟨fun pins s σ H Q I h => ?_⟩
  obtain ⟨f, hf, hs, ht⟩ := h
  obtain ⟨fd, ps, F, hk, hb⟩ := A f hf
  exact (pe_callL (i := i) (f := f) (sp := sp) (dvs := []) F hr hN hv hk hb .nil hx ha hdb hcd he hpl).run pins s σ H Q I ⟨hs, ht⟩
section
variable {c : Cfg} {s : NS} {R : Vw → NS → Prop} {K' : PySem.W.Frag}
theorem e_heardS {T : List (Addr × Str)} {TT : (XK → Hp → VK → Prop) → Hp → VK → Prop} {cs : List (Addr × Str)} {φ : List D → (D → Prop) → Er → Prop} {ta : TA} {i : Nat} {ff : List Addr} {f : Addr}
    (hTT : ∀ (tl : XK → Hp → VK → Prop) H Q, (∀ (E : XK) (N : VK), (∀ cls d H', EHrd cs Q cls d H' → E cls d H') → (∀ v H', Q .non H' → N v H') → tl E H N) → TT tl H Q)
    (tk : c.tk = false) (hT : ∀ H, c.TB H ↔ Tabs T H) (hi : s.γ[i]? = some (.d (.rf f))) (hf : f ∈ ff)
    (h : wA c ta s fun ds s1 => φ ds (fun _ => R (.d .non) s1) fun C fs => ∃ p nm : Str, fs = [(("part" : Str), D.str p)] ∧ (C, nm) ∈ cs ∧ R (.d (.tup [.str nm, .str p])) s1) (hK : K' = c.K := by rfl) :
    wE c (tLam T TT fun E => tCallS i ff (spP K' φ) E ta) s R := by
  subst hK
  intro σ G H Q t k
  refine ⟨(hT H).mp t.tb, fun H1 e1 tb1 => hTT _ _ _ fun E N hE hN => ?_⟩
  obtain ⟨t1, k1⟩ := t.extN tk e1 ((hT H1).mpr tb1)
  obtain ⟨vf, hvf, rvf⟩ := t1.sl i _ hi
  cases rvf
  refine ⟨f, hf, hvf, ?_⟩
  refine h σ G H1 _ t1 fun vs ds s1 G2 H2 p t2 k2 r2 => ?_
  refine ⟨G2, ds, _, _, t2.gh, t2.gt, by rw [List.append_nil]; exact r2, p, fun v d G' H' r hh eg gh gt nw rp => hN v H' ?_, fun C fs dx xs G' H' x eg hh gh gt nw nd hd fl => hE _ _ _ ?_⟩
  · obtain ⟨t3, k3⟩ := t2.grow eg hh gh gt fun a h => (nw a h).imp id Nw.fw
    exact k .non (.d .non) s1 G' H' r t3 (k1.trans (k2.trans k3)) .non
  · obtain ⟨p, nm, rfl, hc, r⟩ := x
    have hx : xs = [(("part" : Str), V.str p)] := by
      obtain ⟨f1, f2⟩ := fl
      match xs, f1, f2 with
      | [(n, v)], f1, f2 =>
        cases f2 with
        | cons a b =>
          cases a
          simp only [List.map_cons, List.map_nil, List.cons.injEq, and_true] at f1
          subst f1
          rfl
    subst hx
    refine ⟨dx, p, rfl, hd, C, nm, hc, rfl, fun t4 H3 e3 n4 h4 => ?_⟩
    obtain ⟨t3, k3⟩ := t2.grow eg hh gh gt fun a h => (nw a h).imp id Nw.fw
    have g4 : G' t4 = none := t3.freshG (.none n4)
    have eg4 : Ex G' (upd G' t4 (.tup [.str nm, .str p])) := Evl.Ex.new g4
    obtain ⟨t5, k5⟩ := t3.grow (G' := upd G' t4 (.tup [.str nm, .str p])) eg4 e3 (fun a o h => by
      by_cases z : a = t4
      · subst z; rw [upd_same] at h; rw [h4]; exact h
      · rw [upd_ne z] at h; exact e3 a o (gh a o h)) (fun a o h => by
      by_cases z : a = t4
      · subst z; rw [upd_same] at h; cases h; exact fun _ z => nomatch z
      · rw [upd_ne z] at h; exact gt a o h) (fun a h => by
      by_cases z : a = t4
      · subst z; exact .inr (.none n4)
      · rw [upd_ne z] at h; exact .inl h)
    exact k (.ref t4) (.d (.tup [.str nm, .str p])) s1 _ H3 r t5 (k1.trans (k2.trans (k3.trans k5))) (.tup upd_same (.cons (.str _) (.cons (.str _) .nil)))
end
end Kn
/-! Kn22: papers: makers that make data too, isinstance with (list, tuple), with other classes, type and is, own truth. -/
namespace Kn
open PySem PySem.Spec PyProof.Rows L2 Kg
open Evl (Ex)
/-- an __init__ that makes data, too -/
def spMk (K : PySem.W.Frag) (C : Addr) (φ : List D → List (Str × D) → Prop) : Sp := fun vs H Q _ => ∃ G x dx us ds fs, vs = .ref x :: us ∧ Ex G H ∧ (∀ a o, G a = some o → Nt o) ∧ G x = none ∧ RpAll K G us ds ∧ H x = some (.ins C dx []) ∧ φ ds fs ∧
  ∀ (fs' : List (Str × V)) (G' H' : Hp), (∀ a o, a ≠ x → H a = some o → H' a = some o) → Ex G G' → Ex G' H' → (∀ a o, G' a = some o → Nt o) → G' x = none → (∀ a, G' a ≠ none → G a ≠ none ∨ Nw H a) → H' x = some (.ins C dx fs') → fs'.map (·.1) = fs.map (·.1) → RpAll K G' (fs'.map (·.2)) (fs.map (·.2)) → Q .non H'
section
variable {c : Cfg} {s s1 s2 : NS} {R : Vw → NS → Prop} {ta tb te : TE} {tr : TA} {K' : PySem.W.Frag}
theorem e_mk {C : Addr} {φ : List D → List (Str × D) → Prop} {E : XK} (h : wA c tr s fun ds s1 => ∃ fs, φ ds fs ∧ R (.d (.ins C fs)) s1) (hK : K' = c.K := by rfl) : wE c (tMake C (spMk K' C φ) [] E tr) s R := by
  subst hK
  intro σ G H Q t k
  refine h σ G H _ t fun vs ds s1 G1 H1 ⟨fs, hφ, p⟩ t1 k1 r1 x dx hx hdx ne => ?_
  have gx : G1 x = none := t1.freshG (.none hx)
  have e1 : Ex H1 (upd H1 dx (.own x)) := Evl.Ex.new hdx
  have e2 : Ex H1 (upd (upd H1 dx (.own x)) x (.ins C dx [])) := fun b o hb => by
    rw [upd_ne (by rintro rfl; rw [hx] at hb; cases hb)]; exact e1 b o hb
  refine ⟨G1, x, dx, vs, ds, fs, by rw [List.append_nil], fun b o hb => e2 b o (t1.gh b o hb), t1.gt, gx, r1, upd_same, hφ, fun fs' G' H' hk eg gh gt g0 nw h' n1 n2 => ⟨rfl, ?_⟩⟩
  have e3 : Ex H1 H' := fun b o hb => hk b o (by rintro rfl; rw [hx] at hb; cases hb) (e2 b o hb)
  have eg2 : Ex G1 (upd G' x (.ins C dx fs')) := eg.trans (Evl.Ex.new g0)
  obtain ⟨t2, k2⟩ := t1.grow (G' := upd G' x (.ins C dx fs')) eg2 e3 (fun b o hb => by
    by_cases e : b = x
    · subst e; rw [upd_same] at hb; rw [← hb]; exact h'
    · rw [upd_ne e] at hb; exact gh b o hb) (fun b o hb => by
    by_cases e : b = x
    · subst e; rw [upd_same] at hb; cases hb; exact fun _ z => nomatch z
    · rw [upd_ne e] at hb; exact gt b o hb) (fun b hb => by
    by_cases e : b = x
    · subst e; exact .inr (.none hx)
    · rw [upd_ne e] at hb
      rcases nw b hb with z | z | ⟨xs, z⟩
      · exact .inl z
      · refine .inr (.none ?_)
        cases q : H1 b with
        | none => rfl
        | some o => rw [e2 b o q] at z; cases z
      · rw [upd_ne e] at z
        by_cases e4 : b = dx
        · subst e4; rw [upd_same] at z; cases z
        · rw [upd_ne e4] at z; exact .inr (.inr ⟨xs, z⟩))
  refine k (.ref x) (.d (.ins C fs)) s1 _ _ p t2 (k1.trans k2) ?_
  have rr := Rp.ins (K := c.K) (G := upd G' x (.ins C dx fs')) (a := x) (C := C) (dx := dx) (fs := fs') upd_same (n2.mono (Evl.Ex.new g0))
  rw [n1, zip_self] at rr
  exact rr
/-- isinstance(x, D), x of C -/
theorem e_isiO (h : wE c ta s fun w s1 => wE c tb s1 fun u s2 => ∃ C D fs b, w = .d (.ins C fs) ∧ u = .d (.rf D) ∧ ObjC c.K C ∧ PySem.W.kitOne c.K (.ref C) (.ref D) = some b ∧ R (.d (.bl b)) s2) (hK : K' = c.K := by rfl) : wE c (tCB (rIsi K') (tCons ta (tCons tb tNil))) s R := by
  subst hK
  intro σ G H Q t k
  refine h σ G H _ t fun v w s1 G1 H1 p1 t1 k1 r1 => p1 σ G1 H1 _ t1 fun x u s2 G2 H2 ⟨C, D, fs, b, e1, e2, oc, e4, z⟩ t2 k2 r2 => ?_
  subst e1 e2
  cases (show Rp c.K G2 x (.rf D) from r2)
  obtain ⟨a, dx, fs', ds, rfl, h1, h2, rfl⟩ := ins_at (Rp.mono k2.g (show Rp c.K G1 v _ from r1))
  exact ⟨.ref a, .ref D, .ref C, .ref D, b, rfl, .own D, .base (.ins (t2.gh _ _ h1) oc.cl oc.ha oc.hn oc.htk oc.hm), e4, k _ (.d (.bl b)) s2 G2 H2 z t2 (k1.trans k2) (Rp.bl b)⟩
def seqN (n : String) : Bool := n == "list" || n == "tuple"
/-- isinstance(x, (list, tuple)) -/
theorem e_isiLT (h : wE c ta s fun w s1 => ∃ d n, w = .d d ∧ tyN d = some n ∧ R (.d (.bl (seqN n))) s1) (hK : K' = c.K := by rfl) :
    wE c (tCB (rIsiT K') (tCons ta (tCons (tTup (tCons (tC (.ty "list")) (tCons (tC (.ty "tuple")) tNil))) tNil))) s R := by
  subst hK
  intro σ G H Q t k
  refine h σ G H _ t fun v w s1 G1 H1 ⟨d, n, e, hn, p⟩ t1 k1 r1 => ?_
  subst e
  have rd : Rp c.K G1 v d := r1
  refine ⟨by rw [sizeLine_eq]; decide, fun q hq => ?_⟩
  obtain ⟨t2, k2⟩ := t1.put (o := .tup [.ty "list", .ty "tuple"]) hq
  have kt : PySem.W.kitAny c.K (.type n) [.type "list", .type "tuple"] = some (seqN n) := by
    cases d <;> simp only [tyN, Option.some.injEq, reduceCtorEq] at hn <;> subst hn
    · exact (kit_seq .none).trans (by decide)
    · exact (kit_seq (.bool true)).trans (by decide)
    · exact (kit_seq (.int 0)).trans (by decide)
    · exact (kit_seq (.str Str.empty)).trans (by decide)
    · exact (kit_seq (.list [])).trans (by decide)
    · exact (kit_seq (.tuple [])).trans (by decide)
    · exact (kit_seq (.dict [])).trans (by decide)
  exact ⟨v, q, _, _, _, _, rfl, upd_same, .cons (.ty _) (.cons (.ty _) .nil), TyX.mono (t2.gh) rd hn, kt, k _ (.d (.bl (seqN n))) s1 G1 _ p t2 (k1.trans k2) (Rp.bl _)⟩
/-- type(x) -/
theorem e_typeO (h : wE c te s fun w s1 => ∃ C fs, w = .d (.ins C fs) ∧ R (.d (.rf C)) s1) (hK : K' = c.K := by rfl) : wE c (tCB (rTypA K') (tCons te tNil)) s R := by
  subst hK
  exact e_cb1 h fun σ G H Hs v w s2 Q t r ⟨C, fs, e, p⟩ k => by
    subst e
    obtain ⟨a, dx, fs', ds, rfl, h1, h2, h3⟩ := ins_at (show Rp c.K G v (.ins C fs) from r)
    exact .inl ⟨C, a, dx, fs', rfl, t.gh _ _ h1, k (.ref C) (.d (.rf C)) s2 G H p t .refl (Rp.rf C)⟩
/-- a is b, of two classes -/
theorem e_isCC (h : wE c ta s fun w s1 => wE c tb s1 fun u s2 => ∃ C D, w = .d (.rf C) ∧ u = .d (.rf D) ∧ PySem.W.typeIn c.K (.ref C) = some (.type "type") ∧ PySem.W.typeIn c.K (.ref D) = some (.type "type") ∧ R (.d (.bl (decide (C = D)))) s2) (hK : K' = c.K := by rfl) :
    wE c (tOp (rIsC K') ta tb) s R := by
  subst hK
  exact e_op h fun σ G H Hs v x w u s2 Q t r1 r2 ⟨C, D, e1, e2, t1, t2, p⟩ k => by
    subst e1 e2
    cases (show Rp c.K G v (.rf C) from r1)
    cases (show Rp c.K G x (.rf D) from r2)
    exact .inl ⟨C, D, rfl, rfl, t1, t2, k _ (.d (.bl _)) s2 G H p t .refl (Rp.bl _)⟩
/-- the truth of an instance by its own __bool__ -/
theorem t_truO {T : Bool → NS → Prop} {C : Addr} {φ : List D → (D → Prop) → Er → Prop} {E : XK} (h : wE c ta s fun w s1 => ∃ fs, w = .d (.ins C fs) ∧ φ [.ins C fs] (fun d => ∃ r, d = .bl r ∧ T r s1) fun _ _ => False) (hK : K' = c.K := by rfl) :
    wT c (fun σ H Q => ta σ H fun x H' => rTruO C (spP K' φ) E x H' Q) s T := by
  subst hK
  intro σ G H Q t k
  refine h σ G H _ t fun v w s1 G1 H1 ⟨fs, e, p⟩ t1 k1 r1 => ?_
  subst e
  obtain ⟨a, dx, fs', ds, rfl, h1, h2, e1⟩ := ins_at (show Rp c.K G1 v _ from r1)
  refine ⟨a, dx, fs', rfl, t1.gh _ _ h1, G1, _, _, _, t1.gh, t1.gt, .cons r1 .nil, p, fun v d G' H' ⟨r, e, q⟩ hh eg gh gt nw rp => ?_, fun _ _ _ _ _ _ z => z.elim⟩
  subst e
  obtain ⟨t2, k2⟩ := t1.grow eg hh gh gt (fun a h => (nw a h).imp id Nw.fw)
  exact ⟨r, by cases rp; rfl, k r s1 G' H' q t2 (k1.trans k2)⟩
end
end Kn
namespace K43
open PySem PySem.Spec PyProof.Rows L2 Kg
open Evl (Ex)
def topS (i : Nat) : Stmt := PySem.Challenge.pw_nevercaught_k43_whole_power_one_is_caugh.main.body.getD i (.Pass ⟨0, 0, 0, 0⟩)
section
abbrev s_BadNumber_init : Stmt := inClass (topS 2) 0
theorem sc_BadNumber_init : FnScope ["self", "part"] ["self", "part"] (defScope s_BadNumber_init) := ⟨rfl, rfl, rfl, by decide +kernel, rfl, by decide +kernel, by decide +kernel⟩
abbrev s_BadSquare_init : Stmt := inClass (topS 3) 0
theorem sc_BadSquare_init : FnScope ["self", "part"] ["self", "part"] (defScope s_BadSquare_init) := ⟨rfl, rfl, rfl, by decide +kernel, rfl, by decide +kernel, by decide +kernel⟩
abbrev s_BadClimb_init : Stmt := inClass (topS 4) 0
theorem sc_BadClimb_init : FnScope ["self", "part"] ["self", "part"] (defScope s_BadClimb_init) := ⟨rfl, rfl, rfl, by decide +kernel, rfl, by decide +kernel, by decide +kernel⟩
abbrev s_Misfit_init : Stmt := inClass (topS 5) 0
theorem sc_Misfit_init : FnScope ["self", "part"] ["self", "part"] (defScope s_Misfit_init) := ⟨rfl, rfl, rfl, by decide +kernel, rfl, by decide +kernel, by decide +kernel⟩
abbrev s_is_integer : Stmt := topS 7
theorem sc_is_integer : FnScope ["value"] ["value"] (defScope s_is_integer) := ⟨rfl, rfl, rfl, by decide +kernel, rfl, by decide +kernel, by decide +kernel⟩
abbrev s_is_within : Stmt := topS 8
theorem sc_is_within : FnScope ["value", "least", "most"] ["value", "least", "most"] (defScope s_is_within) := ⟨rfl, rfl, rfl, by decide +kernel, rfl, by decide +kernel, by decide +kernel⟩
abbrev s_is_square : Stmt := topS 9
theorem sc_is_square : FnScope ["value"] ["value"] (defScope s_is_square) := ⟨rfl, rfl, rfl, by decide +kernel, rfl, by decide +kernel, by decide +kernel⟩
abbrev s_taken_square : Stmt := topS 10
theorem sc_taken_square : FnScope ["square", "part"] ["square", "part"] (defScope s_taken_square) := ⟨rfl, rfl, rfl, by decide +kernel, rfl, by decide +kernel, by decide +kernel⟩
abbrev s_taken_number : Stmt := topS 11
theorem sc_taken_number : FnScope ["number", "least", "most", "part"] ["number", "least", "most", "part"] (defScope s_taken_number) := ⟨rfl, rfl, rfl, by decide +kernel, rfl, by decide +kernel, by decide +kernel⟩
abbrev s_taken_power : Stmt := topS 14
theorem sc_taken_power : FnScope ["power"] ["power"] (defScope s_taken_power) := ⟨rfl, rfl, rfl, by decide +kernel, rfl, by decide +kernel, by decide +kernel⟩
abbrev s_combs_of : Stmt := topS 15
theorem sc_combs_of : FnScope ["power"] ["power"] (defScope s_combs_of) := ⟨rfl, rfl, rfl, by decide +kernel, rfl, by decide +kernel, by decide +kernel⟩
abbrev s_height_of : Stmt := topS 16
theorem sc_height_of : FnScope ["power", "lot"] ["power"] (defScope s_height_of) := ⟨rfl, rfl, rfl, by decide +kernel, rfl, by decide +kernel, by decide +kernel⟩
abbrev s_Climb_init : Stmt := inClass (topS 18) 0
theorem sc_Climb_init : FnScope ["self", "power", "square", "origins", "lasted"] ["self", "power", "square", "origins", "lasted"] (defScope s_Climb_init) := ⟨rfl, rfl, rfl, by decide +kernel, rfl, by decide +kernel, by decide +kernel⟩
abbrev s_Climb_eq : Stmt := inClass (topS 18) 1
theorem sc_Climb_eq : FnScope ["self", "other"] ["self", "other"] (defScope s_Climb_eq) := ⟨rfl, rfl, rfl, by decide +kernel, rfl, by decide +kernel, by decide +kernel⟩
abbrev s_begun : Stmt := topS 19
theorem sc_begun : FnScope ["power"] ["power"] (defScope s_begun) := ⟨rfl, rfl, rfl, by decide +kernel, rfl, by decide +kernel, by decide +kernel⟩
abbrev s_moved : Stmt := topS 20
theorem sc_moved : FnScope ["climb", "turns", "square", "goal", "stage", "lasted"] ["climb", "turns", "square"] (defScope s_moved) := ⟨rfl, rfl, rfl, by decide +kernel, rfl, by decide +kernel, by decide +kernel⟩
abbrev s_burn_of : Stmt := topS 21
theorem sc_burn_of : FnScope ["climb", "due", "at", "stage", "first", "_"] ["climb"] (defScope s_burn_of) := ⟨rfl, rfl, rfl, by decide +kernel, rfl, by decide +kernel, by decide +kernel⟩
abbrev s_due_of : Stmt := topS 22
theorem sc_due_of : FnScope ["climb", "stage", "_", "many"] ["climb"] (defScope s_due_of) := ⟨rfl, rfl, rfl, by decide +kernel, rfl, by decide +kernel, by decide +kernel⟩
abbrev s_is_burnt : Stmt := topS 23
theorem sc_is_burnt : FnScope ["climb", "square", "x", "y", "row", "combs", "stage", "first", "many", "column"] ["climb", "square"] (defScope s_is_burnt) := ⟨rfl, rfl, rfl, by decide +kernel, rfl, by decide +kernel, by decide +kernel⟩
abbrev s_is_caught : Stmt := topS 24
theorem sc_is_caught : FnScope ["climb"] ["climb"] (defScope s_is_caught) := ⟨rfl, rfl, rfl, by decide +kernel, rfl, by decide +kernel, by decide +kernel⟩
abbrev s_check_climb : Stmt := topS 25
theorem sc_check_climb : FnScope ["climb"] ["climb"] (defScope s_check_climb) := ⟨rfl, rfl, rfl, by decide +kernel, rfl, by decide +kernel, by decide +kernel⟩
abbrev s_stage_of : Stmt := topS 26
theorem sc_stage_of : FnScope ["climb"] ["climb"] (defScope s_stage_of) := ⟨rfl, rfl, rfl, by decide +kernel, rfl, by decide +kernel, by decide +kernel⟩
abbrev s_leads : Stmt := topS 27
theorem sc_leads : FnScope ["power", "stage", "square", "turns", "goal", "height", "rise", "left"] ["power", "stage", "square", "turns", "goal"] (defScope s_leads) := ⟨rfl, rfl, rfl, by decide +kernel, rfl, by decide +kernel, by decide +kernel⟩
abbrev s_ends : Stmt := topS 28
theorem sc_ends : FnScope ["power", "stage", "square", "height"] ["power", "stage", "square"] (defScope s_ends) := ⟨rfl, rfl, rfl, by decide +kernel, rfl, by decide +kernel, by decide +kernel⟩
abbrev s_columns_due : Stmt := topS 29
theorem sc_columns_due : FnScope ["power", "stage", "origin", "combs", "far", "low", "first"] ["power", "stage", "origin"] (defScope s_columns_due) := ⟨rfl, rfl, rfl, by decide +kernel, rfl, by decide +kernel, by decide +kernel⟩
abbrev s_fixed : Stmt := topS 31
theorem sc_fixed : FnScope ["value", "item"] ["value"] (defScope s_fixed) := ⟨rfl, rfl, rfl, by decide +kernel, rfl, by decide +kernel, by decide +kernel⟩
abbrev s_Paper_init : Stmt := inClass (topS 32) 0
theorem sc_Paper_init : FnScope ["self", "word", "parts"] ["self", "word", "parts"] (defScope s_Paper_init) := ⟨rfl, rfl, rfl, by decide +kernel, rfl, by decide +kernel, by decide +kernel⟩
abbrev s_Paper_eq : Stmt := inClass (topS 32) 1
theorem sc_Paper_eq : FnScope ["self", "other"] ["self", "other"] (defScope s_Paper_eq) := ⟨rfl, rfl, rfl, by decide +kernel, rfl, by decide +kernel, by decide +kernel⟩
abbrev s_Paper___bool__ : Stmt := inClass (topS 32) 2
theorem sc_Paper___bool__ : FnScope ["self"] ["self"] (defScope s_Paper___bool__) := ⟨rfl, rfl, rfl, by decide +kernel, rfl, by decide +kernel, by decide +kernel⟩
abbrev s_Denial_eq : Stmt := inClass (topS 33) 0
theorem sc_Denial_eq : FnScope ["self", "other"] ["self", "other"] (defScope s_Denial_eq) := ⟨rfl, rfl, rfl, by decide +kernel, rfl, by decide +kernel, by decide +kernel⟩
abbrev s_Denial___bool__ : Stmt := inClass (topS 33) 1
theorem sc_Denial___bool__ : FnScope ["self"] ["self"] (defScope s_Denial___bool__) := ⟨rfl, rfl, rfl, by decide +kernel, rfl, by decide +kernel, by decide +kernel⟩
abbrev s_Caught_init : Stmt := inClass (topS 35) 0
theorem sc_Caught_init : FnScope ["self", "origins", "lasted", "square"] ["self", "origins", "lasted", "square"] (defScope s_Caught_init) := ⟨rfl, rfl, rfl, by decide +kernel, rfl, by decide +kernel, by decide +kernel⟩
abbrev s_Free_init : Stmt := inClass (topS 36) 0
theorem sc_Free_init : FnScope ["self", "square"] ["self", "square"] (defScope s_Free_init) := ⟨rfl, rfl, rfl, by decide +kernel, rfl, by decide +kernel, by decide +kernel⟩
abbrev s_judged : Stmt := topS 37
theorem sc_judged : FnScope ["climb", "x", "y"] ["climb"] (defScope s_judged) := ⟨rfl, rfl, rfl, by decide +kernel, rfl, by decide +kernel, by decide +kernel⟩
abbrev s_w_keg : Stmt := topS 39
theorem sc_w_keg : FnScope ["script", "cell"] ["script"] (defScope s_w_keg) := ⟨rfl, rfl, rfl, by decide +kernel, rfl, by decide +kernel, by decide +kernel⟩
abbrev s_w_pour : Stmt := topS 40
theorem sc_w_pour : FnScope ["keg", "many", "rest", "at", "cell", "mixed"] ["keg", "many"] (defScope s_w_pour) := ⟨rfl, rfl, rfl, by decide +kernel, rfl, by decide +kernel, by decide +kernel⟩
abbrev s_w_one : Stmt := topS 41
theorem sc_w_one : FnScope ["keg", "some"] ["keg", "some"] (defScope s_w_one) := ⟨rfl, rfl, rfl, by decide +kernel, rfl, by decide +kernel, by decide +kernel⟩
abbrev s_w_step : Stmt := topS 42
theorem sc_w_step : FnScope ["keg", "way", "x", "left", "burnt", "counts", "aside", "column", "worth"] ["keg", "way", "x", "left", "burnt"] (defScope s_w_step) := ⟨rfl, rfl, rfl, by decide +kernel, rfl, by decide +kernel, by decide +kernel⟩
abbrev s_w_shut : Stmt := topS 43
theorem sc_w_shut : FnScope ["burnt", "x", "left", "comb", "column"] ["burnt", "x", "left", "comb"] (defScope s_w_shut) := ⟨rfl, rfl, rfl, by decide +kernel, rfl, by decide +kernel, by decide +kernel⟩
abbrev s_w_is_free : Stmt := topS 44
theorem sc_w_is_free : FnScope ["climb", "x", "y", "told"] ["climb", "x", "y"] (defScope s_w_is_free) := ⟨rfl, rfl, rfl, by decide +kernel, rfl, by decide +kernel, by decide +kernel⟩
abbrev s_w_climbed : Stmt := topS 45
theorem sc_w_climbed : FnScope ["keg", "way", "climb", "burnt", "x", "origins", "lasted", "turn", "burn", "aside", "told"] ["keg", "way"] (defScope s_w_climbed) := ⟨rfl, rfl, rfl, by decide +kernel, rfl, by decide +kernel, by decide +kernel⟩
abbrev s_law : Stmt := topS 46
theorem sc_law : FnScope ["script", "keg"] ["script"] (defScope s_law) := ⟨rfl, rfl, rfl, by decide +kernel, rfl, by decide +kernel, by decide +kernel⟩
/-- where the text's defs stand, and what it leaves as it was -/
structure Txt (K : PySem.W.Frag) (mg : Str → Option Value) where
  f_BadNumber_init : Addr
  d_BadNumber_init : FuncData
  F_BadNumber_init : Fun K "__init__" "BadNumber.__init__" s_BadNumber_init f_BadNumber_init d_BadNumber_init
  f_BadSquare_init : Addr
  d_BadSquare_init : FuncData
  F_BadSquare_init : Fun K "__init__" "BadSquare.__init__" s_BadSquare_init f_BadSquare_init d_BadSquare_init
  f_BadClimb_init : Addr
  d_BadClimb_init : FuncData
  F_BadClimb_init : Fun K "__init__" "BadClimb.__init__" s_BadClimb_init f_BadClimb_init d_BadClimb_init
  f_Misfit_init : Addr
  d_Misfit_init : FuncData
  F_Misfit_init : Fun K "__init__" "Misfit.__init__" s_Misfit_init f_Misfit_init d_Misfit_init
  f_is_integer : Addr
  d_is_integer : FuncData
  F_is_integer : Fun K "is_integer" "is_integer" s_is_integer f_is_integer d_is_integer
  g_is_integer : mg "is_integer" = some (.ref f_is_integer)
  f_is_within : Addr
  d_is_within : FuncData
  F_is_within : Fun K "is_within" "is_within" s_is_within f_is_within d_is_within
  g_is_within : mg "is_within" = some (.ref f_is_within)
  f_is_square : Addr
  d_is_square : FuncData
  F_is_square : Fun K "is_square" "is_square" s_is_square f_is_square d_is_square
  g_is_square : mg "is_square" = some (.ref f_is_square)
  f_taken_square : Addr
  d_taken_square : FuncData
  F_taken_square : Fun K "taken_square" "taken_square" s_taken_square f_taken_square d_taken_square
  g_taken_square : mg "taken_square" = some (.ref f_taken_square)
  f_taken_number : Addr
  d_taken_number : FuncData
  F_taken_number : Fun K "taken_number" "taken_number" s_taken_number f_taken_number d_taken_number
  g_taken_number : mg "taken_number" = some (.ref f_taken_number)
  f_taken_power : Addr
  d_taken_power : FuncData
  F_taken_power : Fun K "taken_power" "taken_power" s_taken_power f_taken_power d_taken_power
  g_taken_power : mg "taken_power" = some (.ref f_taken_power)
  f_combs_of : Addr
  d_combs_of : FuncData
  F_combs_of : Fun K "combs_of" "combs_of" s_combs_of f_combs_of d_combs_of
  g_combs_of : mg "combs_of" = some (.ref f_combs_of)
  f_height_of : Addr
  d_height_of : FuncData
  F_height_of : Fun K "height_of" "height_of" s_height_of f_height_of d_height_of
  g_height_of : mg "height_of" = some (.ref f_height_of)
  f_Climb_init : Addr
  d_Climb_init : FuncData
  F_Climb_init : Fun K "__init__" "Climb.__init__" s_Climb_init f_Climb_init d_Climb_init
  f_Climb_eq : Addr
  d_Climb_eq : FuncData
  F_Climb_eq : Fun K "__eq__" "Climb.__eq__" s_Climb_eq f_Climb_eq d_Climb_eq
  f_begun : Addr
  d_begun : FuncData
  F_begun : Fun K "begun" "begun" s_begun f_begun d_begun
  g_begun : mg "begun" = some (.ref f_begun)
  f_moved : Addr
  d_moved : FuncData
  F_moved : Fun K "moved" "moved" s_moved f_moved d_moved
  g_moved : mg "moved" = some (.ref f_moved)
  f_burn_of : Addr
  d_burn_of : FuncData
  F_burn_of : Fun K "burn_of" "burn_of" s_burn_of f_burn_of d_burn_of
  g_burn_of : mg "burn_of" = some (.ref f_burn_of)
  f_due_of : Addr
  d_due_of : FuncData
  F_due_of : Fun K "due_of" "due_of" s_due_of f_due_of d_due_of
  g_due_of : mg "due_of" = some (.ref f_due_of)
  f_is_burnt : Addr
  d_is_burnt : FuncData
  F_is_burnt : Fun K "is_burnt" "is_burnt" s_is_burnt f_is_burnt d_is_burnt
  g_is_burnt : mg "is_burnt" = some (.ref f_is_burnt)
  f_is_caught : Addr
  d_is_caught : FuncData
  F_is_caught : Fun K "is_caught" "is_caught" s_is_caught f_is_caught d_is_caught
  g_is_caught : mg "is_caught" = some (.ref f_is_caught)
  f_check_climb : Addr
  d_check_climb : FuncData
  F_check_climb : Fun K "check_climb" "check_climb" s_check_climb f_check_climb d_check_climb
  g_check_climb : mg "check_climb" = some (.ref f_check_climb)
  f_stage_of : Addr
  d_stage_of : FuncData
  F_stage_of : Fun K "stage_of" "stage_of" s_stage_of f_stage_of d_stage_of
  g_stage_of : mg "stage_of" = some (.ref f_stage_of)
  f_leads : Addr
  d_leads : FuncData
  F_leads : Fun K "leads" "leads" s_leads f_leads d_leads
  g_leads : mg "leads" = some (.ref f_leads)
  f_ends : Addr
  d_ends : FuncData
  F_ends : Fun K "ends" "ends" s_ends f_ends d_ends
  g_ends : mg "ends" = some (.ref f_ends)
  f_columns_due : Addr
  d_columns_due : FuncData
  F_columns_due : Fun K "columns_due" "columns_due" s_columns_due f_columns_due d_columns_due
  g_columns_due : mg "columns_due" = some (.ref f_columns_due)
  f_fixed : Addr
  d_fixed : FuncData
  F_fixed : Fun K "fixed" "fixed" s_fixed f_fixed d_fixed
  g_fixed : mg "fixed" = some (.ref f_fixed)
  f_Paper_init : Addr
  d_Paper_init : FuncData
  F_Paper_init : Fun K "__init__" "Paper.__init__" s_Paper_init f_Paper_init d_Paper_init
  f_Paper_eq : Addr
  d_Paper_eq : FuncData
  F_Paper_eq : Fun K "__eq__" "Paper.__eq__" s_Paper_eq f_Paper_eq d_Paper_eq
  f_Paper___bool__ : Addr
  d_Paper___bool__ : FuncData
  F_Paper___bool__ : Fun K "__bool__" "Paper.__bool__" s_Paper___bool__ f_Paper___bool__ d_Paper___bool__
  f_Denial_eq : Addr
  d_Denial_eq : FuncData
  F_Denial_eq : Fun K "__eq__" "Denial.__eq__" s_Denial_eq f_Denial_eq d_Denial_eq
  f_Denial___bool__ : Addr
  d_Denial___bool__ : FuncData
  F_Denial___bool__ : Fun K "__bool__" "Denial.__bool__" s_Denial___bool__ f_Denial___bool__ d_Denial___bool__
  f_Caught_init : Addr
  d_Caught_init : FuncData
  F_Caught_init : Fun K "__init__" "Caught.__init__" s_Caught_init f_Caught_init d_Caught_init
  f_Free_init : Addr
  d_Free_init : FuncData
  F_Free_init : Fun K "__init__" "Free.__init__" s_Free_init f_Free_init d_Free_init
  f_judged : Addr
  d_judged : FuncData
  F_judged : Fun K "judged" "judged" s_judged f_judged d_judged
  g_judged : mg "judged" = some (.ref f_judged)
  f_w_keg : Addr
  d_w_keg : FuncData
  F_w_keg : Fun K "_law_keg" "_law_keg" s_w_keg f_w_keg d_w_keg
  g_w_keg : mg "_law_keg" = some (.ref f_w_keg)
  f_w_pour : Addr
  d_w_pour : FuncData
  F_w_pour : Fun K "_law_pour" "_law_pour" s_w_pour f_w_pour d_w_pour
  g_w_pour : mg "_law_pour" = some (.ref f_w_pour)
  f_w_one : Addr
  d_w_one : FuncData
  F_w_one : Fun K "_law_one" "_law_one" s_w_one f_w_one d_w_one
  g_w_one : mg "_law_one" = some (.ref f_w_one)
  f_w_step : Addr
  d_w_step : FuncData
  F_w_step : Fun K "_law_step" "_law_step" s_w_step f_w_step d_w_step
  g_w_step : mg "_law_step" = some (.ref f_w_step)
  f_w_shut : Addr
  d_w_shut : FuncData
  F_w_shut : Fun K "_law_shut" "_law_shut" s_w_shut f_w_shut d_w_shut
  g_w_shut : mg "_law_shut" = some (.ref f_w_shut)
  f_w_is_free : Addr
  d_w_is_free : FuncData
  F_w_is_free : Fun K "_law_is_free" "_law_is_free" s_w_is_free f_w_is_free d_w_is_free
  g_w_is_free : mg "_law_is_free" = some (.ref f_w_is_free)
  f_w_climbed : Addr
  d_w_climbed : FuncData
  F_w_climbed : Fun K "_law_climbed" "_law_climbed" s_w_climbed f_w_climbed d_w_climbed
  g_w_climbed : mg "_law_climbed" = some (.ref f_w_climbed)
  f_law : Addr
  d_law : FuncData
  F_law : Fun K "law" "law" s_law f_law d_law
  g_law : mg "law" = some (.ref f_law)
  c_BadNumber : Addr
  gc_BadNumber : mg "BadNumber" = some (.ref c_BadNumber)
  x_BadNumber : OexC K c_BadNumber
  i_BadNumber : PySem.W.findIn K (.ref c_BadNumber) "__init__" = some (some (.ref f_BadNumber_init))
  t_BadNumber : PySem.W.typeIn K (.ref f_BadNumber_init) = some (.type "function")
  n_BadNumber_part : PySem.W.findIn K (.ref c_BadNumber) "part" = some none
  c_BadSquare : Addr
  gc_BadSquare : mg "BadSquare" = some (.ref c_BadSquare)
  x_BadSquare : OexC K c_BadSquare
  i_BadSquare : PySem.W.findIn K (.ref c_BadSquare) "__init__" = some (some (.ref f_BadSquare_init))
  t_BadSquare : PySem.W.typeIn K (.ref f_BadSquare_init) = some (.type "function")
  n_BadSquare_part : PySem.W.findIn K (.ref c_BadSquare) "part" = some none
  c_BadClimb : Addr
  gc_BadClimb : mg "BadClimb" = some (.ref c_BadClimb)
  x_BadClimb : OexC K c_BadClimb
  i_BadClimb : PySem.W.findIn K (.ref c_BadClimb) "__init__" = some (some (.ref f_BadClimb_init))
  t_BadClimb : PySem.W.typeIn K (.ref f_BadClimb_init) = some (.type "function")
  n_BadClimb_part : PySem.W.findIn K (.ref c_BadClimb) "part" = some none
  c_Misfit : Addr
  gc_Misfit : mg "Misfit" = some (.ref c_Misfit)
  x_Misfit : OexC K c_Misfit
  i_Misfit : PySem.W.findIn K (.ref c_Misfit) "__init__" = some (some (.ref f_Misfit_init))
  t_Misfit : PySem.W.typeIn K (.ref f_Misfit_init) = some (.type "function")
  n_Misfit_part : PySem.W.findIn K (.ref c_Misfit) "part" = some none
  c_Climb : Addr
  gc_Climb : mg "Climb" = some (.ref c_Climb)
  oc_Climb : Kn.ObjC K c_Climb
  mk_Climb : Mk K c_Climb f_Climb_init
  k_Climb_Climb : PySem.W.kitOne K (.ref c_Climb) (.ref c_Climb) = some true
  n_Climb_power : NoAttr K c_Climb "power"
  n_Climb_turn : NoAttr K c_Climb "turn"
  n_Climb_square : NoAttr K c_Climb "square"
  n_Climb_origins : NoAttr K c_Climb "origins"
  n_Climb_lasted : NoAttr K c_Climb "lasted"
  q_Climb : PySem.W.findIn K (.ref c_Climb) "__eq__" = some (some (.ref f_Climb_eq))
  qf_Climb : PySem.W.isFn K (.ref f_Climb_eq) = true
  ty_Climb : PySem.W.typeIn K (.ref c_Climb) = some (.type "type")
  c_Paper : Addr
  gc_Paper : mg "Paper" = some (.ref c_Paper)
  oc_Paper : Kn.ObjC K c_Paper
  mk_Paper : Mk K c_Paper f_Paper_init
  k_Paper_Paper : PySem.W.kitOne K (.ref c_Paper) (.ref c_Paper) = some true
  n_Paper_word : NoAttr K c_Paper "word"
  n_Paper_parts : NoAttr K c_Paper "parts"
  q_Paper : PySem.W.findIn K (.ref c_Paper) "__eq__" = some (some (.ref f_Paper_eq))
  qf_Paper : PySem.W.isFn K (.ref f_Paper_eq) = true
  qb_Paper : PySem.W.findIn K (.ref c_Paper) "__bool__" = some (some (.ref f_Paper___bool__))
  qbf_Paper : PySem.W.isFn K (.ref f_Paper___bool__) = true
  ty_Paper : PySem.W.typeIn K (.ref c_Paper) = some (.type "type")
  c_Caught : Addr
  gc_Caught : mg "Caught" = some (.ref c_Caught)
  oc_Caught : Kn.ObjC K c_Caught
  mk_Caught : Mk K c_Caught f_Caught_init
  k_Caught_Caught : PySem.W.kitOne K (.ref c_Caught) (.ref c_Caught) = some true
  n_Caught_word : NoAttr K c_Caught "word"
  n_Caught_parts : NoAttr K c_Caught "parts"
  n_Caught_origins : NoAttr K c_Caught "origins"
  n_Caught_lasted : NoAttr K c_Caught "lasted"
  n_Caught_square : NoAttr K c_Caught "square"
  q_Caught : PySem.W.findIn K (.ref c_Caught) "__eq__" = some (some (.ref f_Paper_eq))
  qf_Caught : PySem.W.isFn K (.ref f_Paper_eq) = true
  qb_Caught : PySem.W.findIn K (.ref c_Caught) "__bool__" = some (some (.ref f_Paper___bool__))
  qbf_Caught : PySem.W.isFn K (.ref f_Paper___bool__) = true
  ty_Caught : PySem.W.typeIn K (.ref c_Caught) = some (.type "type")
  c_Free : Addr
  gc_Free : mg "Free" = some (.ref c_Free)
  oc_Free : Kn.ObjC K c_Free
  mk_Free : Mk K c_Free f_Free_init
  k_Free_Free : PySem.W.kitOne K (.ref c_Free) (.ref c_Free) = some true
  n_Free_word : NoAttr K c_Free "word"
  n_Free_parts : NoAttr K c_Free "parts"
  n_Free_square : NoAttr K c_Free "square"
  q_Free : PySem.W.findIn K (.ref c_Free) "__eq__" = some (some (.ref f_Denial_eq))
  qf_Free : PySem.W.isFn K (.ref f_Denial_eq) = true
  qb_Free : PySem.W.findIn K (.ref c_Free) "__bool__" = some (some (.ref f_Denial___bool__))
  qbf_Free : PySem.W.isFn K (.ref f_Denial___bool__) = true
  ty_Free : PySem.W.typeIn K (.ref c_Free) = some (.type "type")
  c_Denial : Addr
  gc_Denial : mg "Denial" = some (.ref c_Denial)
  cf_Denial_init : Kg.CFun K c_Denial f_Paper_init "__init__"
  cf_Paper_init : Kg.CFun K c_Paper f_Paper_init "__init__"
  c_FlightError : Addr
  gc_FlightError : mg "FlightError" = some (.ref c_FlightError)
  z_abs : mg "abs" = none
  z_bool : mg "bool" = none
  z_int : mg "int" = none
  z_isinstance : mg "isinstance" = none
  z_len : mg "len" = none
  z_list : mg "list" = none
  z_max : mg "max" = none
  z_min : mg "min" = none
  z_range : mg "range" = none
  z_repr : mg "repr" = none
  z_sum : mg "sum" = none
  z_tuple : mg "tuple" = none
  z_type : mg "type" = none
  v_MOST_POWER : ∃ u, mg "MOST_POWER" = some u ∧ RelV (.int 9) u
variable {K : PySem.W.Frag} {mg : Str → Option Value}
theorem b_BadNumber_init (T : Txt K mg) : Binds K T.d_BadNumber_init ["self", "part"] [] := T.F_BadNumber_init.binds fun _ _ _ _ _ _ us hl => match us, hl with | [_, _], _ => rfl
theorem b_BadSquare_init (T : Txt K mg) : Binds K T.d_BadSquare_init ["self", "part"] [] := T.F_BadSquare_init.binds fun _ _ _ _ _ _ us hl => match us, hl with | [_, _], _ => rfl
theorem b_BadClimb_init (T : Txt K mg) : Binds K T.d_BadClimb_init ["self", "part"] [] := T.F_BadClimb_init.binds fun _ _ _ _ _ _ us hl => match us, hl with | [_, _], _ => rfl
theorem b_Misfit_init (T : Txt K mg) : Binds K T.d_Misfit_init ["self", "part"] [] := T.F_Misfit_init.binds fun _ _ _ _ _ _ us hl => match us, hl with | [_, _], _ => rfl
theorem b_is_integer (T : Txt K mg) : Binds K T.d_is_integer ["value"] [] := T.F_is_integer.binds fun _ _ _ _ _ _ us hl => match us, hl with | [_], _ => rfl
theorem b_is_within (T : Txt K mg) : Binds K T.d_is_within ["value", "least", "most"] [] := T.F_is_within.binds fun _ _ _ _ _ _ us hl => match us, hl with | [_, _, _], _ => rfl
theorem b_is_square (T : Txt K mg) : Binds K T.d_is_square ["value"] [] := T.F_is_square.binds fun _ _ _ _ _ _ us hl => match us, hl with | [_], _ => rfl
theorem b_taken_square (T : Txt K mg) : Binds K T.d_taken_square ["square", "part"] [] := T.F_taken_square.binds fun _ _ _ _ _ _ us hl => match us, hl with | [_, _], _ => rfl
theorem b_taken_number (T : Txt K mg) : Binds K T.d_taken_number ["number", "least", "most", "part"] [] := T.F_taken_number.binds fun _ _ _ _ _ _ us hl => match us, hl with | [_, _, _, _], _ => rfl
theorem b_taken_power (T : Txt K mg) : Binds K T.d_taken_power ["power"] [] := T.F_taken_power.binds fun _ _ _ _ _ _ us hl => match us, hl with | [_], _ => rfl
theorem b_combs_of (T : Txt K mg) : Binds K T.d_combs_of ["power"] [] := T.F_combs_of.binds fun _ _ _ _ _ _ us hl => match us, hl with | [_], _ => rfl
theorem b_height_of (T : Txt K mg) : Binds K T.d_height_of ["power"] [] := T.F_height_of.binds fun _ _ _ _ _ _ us hl => match us, hl with | [_], _ => rfl
theorem b_Climb_init (T : Txt K mg) : Binds K T.d_Climb_init ["self", "power", "square", "origins", "lasted"] [] := T.F_Climb_init.binds fun _ _ _ _ _ _ us hl => match us, hl with | [_, _, _, _, _], _ => rfl
theorem b_Climb_eq (T : Txt K mg) : Binds K T.d_Climb_eq ["self", "other"] [] := T.F_Climb_eq.binds fun _ _ _ _ _ _ us hl => match us, hl with | [_, _], _ => rfl
theorem b_begun (T : Txt K mg) : Binds K T.d_begun ["power"] [] := T.F_begun.binds fun _ _ _ _ _ _ us hl => match us, hl with | [_], _ => rfl
theorem b_moved (T : Txt K mg) : Binds K T.d_moved ["climb", "turns", "square"] [] := T.F_moved.binds fun _ _ _ _ _ _ us hl => match us, hl with | [_, _, _], _ => rfl
theorem b_burn_of (T : Txt K mg) : Binds K T.d_burn_of ["climb"] [] := T.F_burn_of.binds fun _ _ _ _ _ _ us hl => match us, hl with | [_], _ => rfl
theorem b_due_of (T : Txt K mg) : Binds K T.d_due_of ["climb"] [] := T.F_due_of.binds fun _ _ _ _ _ _ us hl => match us, hl with | [_], _ => rfl
theorem b_is_burnt (T : Txt K mg) : Binds K T.d_is_burnt ["climb", "square"] [] := T.F_is_burnt.binds fun _ _ _ _ _ _ us hl => match us, hl with | [_, _], _ => rfl
theorem b_is_caught (T : Txt K mg) : Binds K T.d_is_caught ["climb"] [] := T.F_is_caught.binds fun _ _ _ _ _ _ us hl => match us, hl with | [_], _ => rfl
theorem b_check_climb (T : Txt K mg) : Binds K T.d_check_climb ["climb"] [] := T.F_check_climb.binds fun _ _ _ _ _ _ us hl => match us, hl with | [_], _ => rfl
theorem b_stage_of (T : Txt K mg) : Binds K T.d_stage_of ["climb"] [] := T.F_stage_of.binds fun _ _ _ _ _ _ us hl => match us, hl with | [_], _ => rfl
theorem b_leads (T : Txt K mg) : Binds K T.d_leads ["power", "stage", "square", "turns", "goal"] [] := T.F_leads.binds fun _ _ _ _ _ _ us hl => match us, hl with | [_, _, _, _, _], _ => rfl
theorem b_ends (T : Txt K mg) : Binds K T.d_ends ["power", "stage", "square"] [] := T.F_ends.binds fun _ _ _ _ _ _ us hl => match us, hl with | [_, _, _], _ => rfl
theorem b_columns_due (T : Txt K mg) : Binds K T.d_columns_due ["power", "stage", "origin"] [] := T.F_columns_due.binds fun _ _ _ _ _ _ us hl => match us, hl with | [_, _, _], _ => rfl
theorem b_fixed (T : Txt K mg) : Binds K T.d_fixed ["value"] [] := T.F_fixed.binds fun _ _ _ _ _ _ us hl => match us, hl with | [_], _ => rfl
theorem b_Paper_eq (T : Txt K mg) : Binds K T.d_Paper_eq ["self", "other"] [] := T.F_Paper_eq.binds fun _ _ _ _ _ _ us hl => match us, hl with | [_, _], _ => rfl
theorem b_Paper___bool__ (T : Txt K mg) : Binds K T.d_Paper___bool__ ["self"] [] := T.F_Paper___bool__.binds fun _ _ _ _ _ _ us hl => match us, hl with | [_], _ => rfl
theorem b_Denial_eq (T : Txt K mg) : Binds K T.d_Denial_eq ["self", "other"] [] := T.F_Denial_eq.binds fun _ _ _ _ _ _ us hl => match us, hl with | [_, _], _ => rfl
theorem b_Denial___bool__ (T : Txt K mg) : Binds K T.d_Denial___bool__ ["self"] [] := T.F_Denial___bool__.binds fun _ _ _ _ _ _ us hl => match us, hl with | [_], _ => rfl
theorem b_Caught_init (T : Txt K mg) : Binds K T.d_Caught_init ["self", "origins", "lasted", "square"] [] := T.F_Caught_init.binds fun _ _ _ _ _ _ us hl => match us, hl with | [_, _, _, _], _ => rfl
theorem b_Free_init (T : Txt K mg) : Binds K T.d_Free_init ["self", "square"] [] := T.F_Free_init.binds fun _ _ _ _ _ _ us hl => match us, hl with | [_, _], _ => rfl
theorem b_judged (T : Txt K mg) : Binds K T.d_judged ["climb"] [] := T.F_judged.binds fun _ _ _ _ _ _ us hl => match us, hl with | [_], _ => rfl
theorem b_w_keg (T : Txt K mg) : Binds K T.d_w_keg ["script"] [] := T.F_w_keg.binds fun _ _ _ _ _ _ us hl => match us, hl with | [_], _ => rfl
theorem b_w_pour (T : Txt K mg) : Binds K T.d_w_pour ["keg", "many"] [] := T.F_w_pour.binds fun _ _ _ _ _ _ us hl => match us, hl with | [_, _], _ => rfl
theorem b_w_one (T : Txt K mg) : Binds K T.d_w_one ["keg", "some"] [] := T.F_w_one.binds fun _ _ _ _ _ _ us hl => match us, hl with | [_, _], _ => rfl
theorem b_w_step (T : Txt K mg) : Binds K T.d_w_step ["keg", "way", "x", "left", "burnt"] [] := T.F_w_step.binds fun _ _ _ _ _ _ us hl => match us, hl with | [_, _, _, _, _], _ => rfl
theorem b_w_shut (T : Txt K mg) : Binds K T.d_w_shut ["burnt", "x", "left", "comb"] [] := T.F_w_shut.binds fun _ _ _ _ _ _ us hl => match us, hl with | [_, _, _, _], _ => rfl
theorem b_w_is_free (T : Txt K mg) : Binds K T.d_w_is_free ["climb", "x", "y"] [] := T.F_w_is_free.binds fun _ _ _ _ _ _ us hl => match us, hl with | [_, _, _], _ => rfl
theorem b_w_climbed (T : Txt K mg) : Binds K T.d_w_climbed ["keg", "way"] [] := T.F_w_climbed.binds fun _ _ _ _ _ _ us hl => match us, hl with | [_, _], _ => rfl
theorem b_law (T : Txt K mg) : Binds K T.d_law ["script"] [] := T.F_law.binds fun _ _ _ _ _ _ us hl => match us, hl with | [_], _ => rfl
def pm_judged_climb {α : Type} (us ws : List α) : List α := match us, ws with | [], [v0] => [v0] | _, _ => []
theorem kb_judged_climb (T : Txt K mg) : KBinds K T.d_judged ["climb"] ["climb"] (fun us ws => pm_judged_climb us ws) (fun us ws => pm_judged_climb us ws) := by
  obtain ⟨oc, od, kV, doc, pm, an, cdv, ct, osl, e, lk, hcd⟩ := T.F_judged.ex
  constructor
  · intro s us ws _ hl
    rcases us with _ | ⟨u, us⟩
    · rcases ws with _ | ⟨v0, _ | ⟨v1, ws⟩⟩
      · exact absurd hl (by simp [pm_judged_climb])
      · rw [e]; exact .of_eq rfl
      · exact absurd hl (by simp [pm_judged_climb])
    · exact absurd hl (by simp [pm_judged_climb])
  · intro vs us zs ws r1 r2
    cases r1 with
    | cons _ _ => exact .nil
    | nil =>
      cases r2 with
      | nil => exact .nil
      | cons q0 r2 =>
        cases r2 with
        | nil => exact (.cons q0 .nil)
        | cons _ _ => exact .nil
def pm_is_caught_climb {α : Type} (us ws : List α) : List α := match us, ws with | [], [v0] => [v0] | _, _ => []
theorem kb_is_caught_climb (T : Txt K mg) : KBinds K T.d_is_caught ["climb"] ["climb"] (fun us ws => pm_is_caught_climb us ws) (fun us ws => pm_is_caught_climb us ws) := by
  obtain ⟨oc, od, kV, doc, pm, an, cdv, ct, osl, e, lk, hcd⟩ := T.F_is_caught.ex
  constructor
  · intro s us ws _ hl
    rcases us with _ | ⟨u, us⟩
    · rcases ws with _ | ⟨v0, _ | ⟨v1, ws⟩⟩
      · exact absurd hl (by simp [pm_is_caught_climb])
      · rw [e]; exact .of_eq rfl
      · exact absurd hl (by simp [pm_is_caught_climb])
    · exact absurd hl (by simp [pm_is_caught_climb])
  · intro vs us zs ws r1 r2
    cases r1 with
    | cons _ _ => exact .nil
    | nil =>
      cases r2 with
      | nil => exact .nil
      | cons q0 r2 =>
        cases r2 with
        | nil => exact (.cons q0 .nil)
        | cons _ _ => exact .nil
end

/-! ### the urn -/
/-- all but the urn stands -/
def Go (j : Addr) (H H' : Hp) : Prop := ∀ a o, a ≠ j → H a = some o → H' a = some o
theorem Go.refl (j : Addr) (H : Hp) : Go j H H := fun _ _ _ h => h
theorem Go.trans {j : Addr} {H H1 H2 : Hp} (a : Go j H H1) (b : Go j H1 H2) : Go j H H2 := fun x o n h => b x o n (a x o n h)
theorem Go.of {j : Addr} {H H' : Hp} (e : Ex H H') : Go j H H' := fun a o _ h => e a o h
theorem Go.upd {j : Addr} {H : Hp} {o : HO} : Go j H (upd H j o) := fun a u n h => (upd_ne n).trans h
/-- the heap without the urn -/
def off (j : Addr) (H : Hp) : Hp := fun a => if a = j then none else H a
theorem off_ne {j a : Addr} {H : Hp} (h : a ≠ j) : off j H a = H a := if_neg h
theorem Go.ex {j : Addr} {H H' : Hp} (g : Go j H H') : Ex (off j H) (off j H') := by
  intro a o h
  by_cases e : a = j
  · subst e; rw [show off a H a = none from if_pos rfl] at h; cases h
  · rw [off_ne e] at h ⊢; exact g a o e h
theorem off_sub (j : Addr) (H : Hp) : Ex (off j H) H := by
  intro a o h
  by_cases e : a = j
  · subst e; rw [show off a H a = none from if_pos rfl] at h; cases h
  · rwa [off_ne e] at h
/-- the urn at j: b draws are left to it; its numbers stand in B, which is never changed -/
structure Urn (K : PySem.W.Frag) (B : Hp) (j : Addr) (b : Nat) (H : Hp) : Prop where
  it : ∃ (c : Addr) (ns : List Int) (at' rest : Int), H j = some (.lst [.ref c, .int at', .int rest]) ∧ SqL K B c (ns.map V.int) ∧ 0 ≤ at' ∧ at' + b ≤ 1000000 ∧ 0 ≤ rest
  ba : Ex B (off j H)
section
variable {K : PySem.W.Frag} {B : Hp} {j : Addr}
theorem Urn.less {b b' : Nat} {H : Hp} (u : Urn K B j b H) (h : b' ≤ b) : Urn K B j b' H := by
  obtain ⟨c, ns, at', rest, h1, h2, h3, h4, h5⟩ := u.it
  exact ⟨⟨c, ns, at', rest, h1, h2, h3, by omega, h5⟩, u.ba⟩
theorem Urn.ex {b : Nat} {H H' : Hp} (u : Urn K B j b H) (e : Ex H H') : Urn K B j b H' := by
  obtain ⟨c, ns, at', rest, h1, h2, h3, h4, h5⟩ := u.it
  exact ⟨⟨c, ns, at', rest, e _ _ h1, h2, h3, h4, h5⟩, u.ba.trans (Go.of e).ex⟩
theorem Urn.there {b : Nat} {H : Hp} (u : Urn K B j b H) : H j ≠ none := by
  obtain ⟨c, ns, a, r, h, _⟩ := u.it
  rw [h]
  exact fun z => nomatch z
theorem Urn.ne {p : Addr} {b : Nat} {H : Hp} (u : Urn K B j b H) (h : H p = none) : p ≠ j := fun e => u.there (e ▸ h)
/-- a thing that was made after the urn may change -/
theorem Urn.mut {D : Addr} {b b2 : Nat} {H H2 : Hp} {o : HO} (u : Urn K B j b H) (u2 : Urn K B j b2 H2) (hD : H2 D = none) : Urn K B j b (L2.upd H D o) := by
  obtain ⟨c, ns, at', rest, h1, h2, h3, h4, h5⟩ := u.it
  refine ⟨⟨c, ns, at', rest, (upd_ne (u2.ne hD).symm).trans h1, h2, h3, h4, h5⟩, fun a x hx => ?_⟩
  have n1 : a ≠ D := by
    rintro rfl
    have := off_sub j _ _ _ (u2.ba _ _ hx)
    rw [hD] at this; cases this
  have h6 := u.ba _ _ hx
  have n2 : a ≠ j := by
    rintro rfl
    rw [show off a H a = none from if_pos rfl] at h6; cases h6
  rw [off_ne n2] at h6 ⊢
  exact (upd_ne n1).trans h6
end
/-- what H' has and H had not -/
def neu (H H' : Hp) : Hp := fun a => match H a with
  | none => H' a
  | some _ => none
theorem neu_at {H H' : Hp} {a : Addr} (h : H a = none) : neu H H' a = H' a := by unfold neu; rw [h]
theorem neu_of {H H' : Hp} {a : Addr} {o : HO} (h : neu H H' a = some o) : H a = none ∧ H' a = some o := by
  unfold neu at h
  cases q : H a with
  | none => rw [q] at h; exact ⟨rfl, h⟩
  | some _ => rw [q] at h; cases h
theorem at_neu {H H' : Hp} {a : Addr} {o : HO} (h : H a = none) (h' : H' a = some o) : neu H H' a = some o := (neu_at h).trans h'
theorem off_at {j a : Addr} {H : Hp} {o : HO} (ne : a ≠ j) (h : H a = some o) : off j H a = some o := (off_ne ne).trans h
section
variable {K : PySem.W.Frag} {B : Hp} {j : Addr} {b : Nat}
theorem Urn.back {H H1 : Hp} {p : Addr} (u : Urn K B j b H1) (g : Go j H H1) (h : H1 p = none) : H p = none := by
  cases q : H p with
  | none => rfl
  | some o => rw [g p o (u.ne h) q] at h; cases h
theorem neu_ex {H H2 H3 H4 : Hp} (u : Urn K B j b H2) (g : Go j H H2) (g' : Go j H3 H4) : Ex (neu H2 H3) (neu H H4) := by
  intro a o h
  obtain ⟨h1, h2⟩ := neu_of h
  exact at_neu (u.back g h1) (g' a o (u.ne h1) h2)
theorem neu_off {H H' : Hp} {D : Addr} (h : H D ≠ none) : Ex (neu H H') (off D H') := by
  intro a o q
  obtain ⟨h1, h2⟩ := neu_of q
  exact off_at (fun e => h (e ▸ h1)) h2
theorem neu_off2 {H H' : Hp} {D : Addr} (u : Urn K B j b H) (h : H D ≠ none) : Ex (neu H H') (off D (off j H')) := by
  intro a o q
  obtain ⟨h1, h2⟩ := neu_of q
  exact off_at (fun e => h (e ▸ h1)) (off_at (fun e => u.there (e ▸ h1)) h2)
end
/-- one draw -/
def spDraw (K : PySem.W.Frag) : Sp := fun vs H Q _ => ∃ (j : Addr) (B : Hp) (b : Nat) (n : Int), vs = [.ref j, .int n] ∧ 0 < n ∧ n.natAbs.log2 < 9000 ∧ Urn K B j (b + 1) H ∧
  ∀ (r : Int) (H' : Hp), 0 ≤ r → r < n → Go j H H' → Urn K B j b H' → Q (.int r) H'

end K43
namespace K43
open PySem PySem.Spec PyProof.Rows L2 Kg
open Evl (Ex)


section
variable {P : Program} {w : World} {K : PySem.W.Frag} {mg : Str → Option Value} {base : Heap}
theorem ints_dp {H : Hp} : ∀ ns : List Int, DpAll K H (ns.map V.int) (ns.map PyData.int)
  | [] => .nil
  | n :: ns => .cons (.int n) (ints_dp ns)
theorem ints_lay : ∀ ns : List Int, PyData.canLayAll0 (ns.map PyData.int) = true
  | [] => by simp [PyData.canLayAll0]
  | n :: ns => by simp [PyData.canLayAll0, PyData.canLay0, ints_lay ns]
theorem ints_depth : ∀ ns : List Int, PyData.depthAll (ns.map PyData.int) = 0
  | [] => by simp [PyData.depthAll]
  | n :: ns => by simp [PyData.depthAll, PyData.depth, ints_depth ns]
theorem ints_shaped (ns : List Int) : SeqAt.shaped (.list (ns.map PyData.int)) = true := by
  simp [SeqAt.shaped, PyData.canLay0, PyData.depth, ints_lay, ints_depth]
theorem ok_draw (T : Txt K mg) : FnOk P w K mg base CX0 1 T.f_w_pour T.d_w_pour ["keg", "many"] (spDraw K) := by
  refine T.F_w_pour.ok sc_w_pour (fun vs H Q E h => ?_) (fun cdv A outer s H vs Q E hr h => ?_)
  · obtain ⟨j, B, b, n, rfl, _⟩ := h
    rfl
  · obtain ⟨j, B, b, n, rfl, hn, hn9, u, k⟩ := h
    have hr1 := hr
    have hu2 := hr.units
    obtain ⟨c, ns, at', rest, hj, hc, h0, h1, h2⟩ := u.it
    have hcO : SqL K (off j H) c (ns.map V.int) := Evl.ex_l u.ba hc
    have hcH : SqL K H c (ns.map V.int) := Evl.ex_l (u.ba.trans (off_sub j H)) hc
    refine ⟨_, (pss_cons (ps_if (pt_cmpR op_gt (pe_ix ix_list (pv 0) pe_int (fun _ _ => rfl)) pe_int (nomark _)) (pss_cons (ps_set (i := 2) sc_w_pour.nd rfl (Or.inl rfl) (pe_ix ix_list (pv 0) pe_int (fun _ _ => rfl)))
  (pss_cons (ps_asg (pe_op op_fdivW (pe_callTy call_int1 (by rfl) T.z_int (by decide +kernel) (pa_cons (pv 2) pa_nil)) (pv 1)) (pg_sub (pv 0) pe_int set_list))
  (pss_one (ps_ret (pe_op op_mod (pe_callTy call_int1 (by rfl) T.z_int (by decide +kernel) (pa_cons (pv 2) pa_nil)) (pv 1)))))) pss_nil)
  (pss_cons (ps_set (i := 3) sc_w_pour.nd rfl (Or.inl rfl) (pe_ix ix_list (pv 0) pe_int (fun _ _ => rfl)))
  (pss_cons (ps_asg (pe_op op_add (pv 3) pe_int) (pg_sub (pv 0) pe_int set_list))
  (pss_cons (ps_set (i := 4) sc_w_pour.nd rfl (Or.inl rfl) (pe_op op_add (pe_op op_mul pe_int (pv 3)) pe_int))
  (Evl.pss_cut (ps_if (pt_cmpR (op_neD hu2) (pe_ix ix_list (pv 0) pe_int (fun _ _ => rfl)) (pe_lst pa_nil) (nomark _)) (pss_one (ps_set (i := 4) sc_w_pour.nd rfl (Or.inl rfl) (pe_ix ix_list (pe_ix ix_list (pv 0) pe_int (fun _ _ => rfl)) (pe_op op_mod (pe_callTy call_int1 (by rfl) T.z_int (by decide +kernel) (pa_cons (pv 3) pa_nil)) (pe_callB call_len_seq (by rfl) T.z_len (by decide +kernel) (pa_cons (pe_ix ix_list (pv 0) pe_int (fun _ _ => rfl)) pa_nil))) (fun _ _ => rfl)))) pss_nil)
  (pss_cons (ps_if (PW.pt (pw_and (pt_cmpR op_lt (pv 3) (pe_callB call_len_seq (by rfl) T.z_len (by decide +kernel) (pa_cons (pe_ix ix_list (pv 0) pe_int (fun _ _ => rfl)) pa_nil)) (nomark _)) (pw_and1 (pt_cmpR op_ge (pe_callB call_abs (by rfl) T.z_abs (by decide +kernel) (pa_cons (pv 4) pa_nil)) (pe_op op_pow pe_int pe_int) (nomark _))))) (pss_cons (ps_set (i := 2) sc_w_pour.nd rfl (Or.inl rfl) (pe_op op_add (pe_op op_mul pe_int (pe_op op_sub (pe_callB call_abs (by rfl) T.z_abs (by decide +kernel) (pa_cons (pv 4) pa_nil)) (pe_op op_pow pe_int pe_int))) (pe_callTy call_int1 (by rfl) T.z_int (by decide +kernel) (pa_cons (pe_cmpR op_lt (pv 4) pe_int (nomark _)) pa_nil))))
  (pss_cons (ps_asg (pe_op op_fdivW (pe_callTy call_int1 (by rfl) T.z_int (by decide +kernel) (pa_cons (pv 2) pa_nil)) (pv 1)) (pg_sub (pv 0) pe_int set_list))
  (pss_one (ps_ret (pe_op op_mod (pe_callTy call_int1 (by rfl) T.z_int (by decide +kernel) (pa_cons (pv 2) pa_nil)) (pv 1)))))) pss_nil)
  (pss_cons (ps_set (i := 5) sc_w_pour.nd rfl (Or.inl rfl) (pe_op op_mod (pe_callTy call_int1 (by rfl) T.z_int (by decide +kernel) (pa_cons (pe_op op_pow (pe_op op_add (pe_op op_add (pe_op op_mod (pe_callTy call_int1 (by rfl) T.z_int (by decide +kernel) (pa_cons (pv 4) pa_nil)) pe_int) (pe_op op_mul pe_int (pv 3))) pe_int) pe_int) pa_nil)) pe_int))
  (pss_cons (ps_set (i := 5) sc_w_pour.nd rfl (Or.inl rfl) (pe_op op_mod (pe_callTy call_int1 (by rfl) T.z_int (by decide +kernel) (pa_cons (pe_op op_pow (pe_op op_add (pe_op op_add (pe_op op_mul (pv 5) (pe_op op_add (pe_op op_mul pe_int (pv 3)) pe_int)) (pe_op op_mul (pe_op op_mul pe_int (pv 3)) (pv 3))) pe_int) pe_int) pa_nil)) pe_int))
  (pss_one (ps_ret (pe_op op_mod (pe_callTy call_int1 (by rfl) T.z_int (by decide +kernel) (pa_cons (pe_op op_fdivW (pv 5) pe_int) pa_nil)) (pv 1)))))))))))), ?_⟩
    walk_at "rd"
    refine ifB (fun c1 => ?_) (fun c1 => ?_)
    · walk_at "rd"
      refine k _ _ (Int.emod_nonneg _ (by omega)) (Int.emod_lt_of_pos _ hn) Go.upd ⟨⟨c, ns, at', rest / n, upd_same, hc, h0, by omega, Int.ediv_nonneg h2 (by omega)⟩, u.ba.trans Go.upd.ex⟩
    · have hcG : SqL K (upd H j (.lst [.ref c, .int (at' + 1), .int rest])) c (ns.map V.int) := Evl.ex_l (off_sub j _) (Evl.ex_l Go.upd.ex hcO)
      walk_at "rd"
      refine ⟨fun σ' H' => ∃ cl : Int, σ' = [some (.ref j), some (.int n), none, some (.int at'), some (.int cl), none] ∧ Go j H H' ∧ H' j = some (.lst [.ref c, .int (at' + 1), .int rest]), ?_, ?_⟩
      · walk_at "rd"
        intro l hl
        have njl : j ≠ l := fun e => by rw [← e, upd_same] at hl; cases hl
        have g2 : Go j H (upd (upd H j (.lst [.ref c, .int (at' + 1), .int rest])) l (.lst [])) := Go.upd.trans (Go.of (Ex.new hl))
        have hj2 : upd (upd H j (.lst [.ref c, .int (at' + 1), .int rest])) l (.lst []) j = some (.lst [.ref c, .int (at' + 1), .int rest]) := (upd_ne njl).trans upd_same
        have hl2 : upd (upd H j (.lst [.ref c, .int (at' + 1), .int rest])) l (.lst []) l = some (.lst []) := upd_same
        have hc2 : SqL K (upd (upd H j (.lst [.ref c, .int (at' + 1), .int rest])) l (.lst [])) c (ns.map V.int) := Evl.ex_l (off_sub j _) (Evl.ex_l g2.ex hcO)
        refine ⟨.list (ns.map .int), .list [], .lst hc2 (ints_dp ns), .lst (SqL.of hl2) .nil, ints_shaped ns, by decide, ?_⟩
        walk_at "rd"
        refine ifB (fun c2 => ?_) (fun c2 => ?_)
        · have ne : ns ≠ [] := by
            rintro rfl
            simp [PyData.eqv, PyData.eqvAll] at c2
          have hlen : 0 < ((ns.map V.int).length : Int) := by
            rw [List.length_map]
            have := List.length_pos_iff.mpr ne
            omega
          have m0 := Int.emod_nonneg at' (show ((ns.map V.int).length : Int) ≠ 0 by omega)
          have m1 := Int.emod_lt_of_pos at' hlen
          obtain ⟨z, hz⟩ : ∃ z, atI (ns.map V.int) (at' % ((ns.map V.int).length : Int)) = some (.int z) := by
            generalize hm : at' % ((ns.map V.int).length : Int) = m at m0 m1
            obtain ⟨z, hz⟩ : ∃ z, ns[m.toNat]? = some z := ⟨_, List.getElem?_eq_getElem (by rw [List.length_map] at m1; omega)⟩
            exact ⟨z, at_of (j := m.toNat) (by omega) (by rw [List.getElem?_map, hz]; rfl)⟩
          walk_at "rd"
          exact hj2
        · exact ⟨_, rfl, g2, hj2⟩
      · rintro σ' H2 ⟨cl, rfl, g2, hj2⟩
        have hc2 : SqL K H2 c (ns.map V.int) := Evl.ex_l (off_sub j _) (Evl.ex_l g2.ex hcO)
        have last : ∀ H3, Go j H H3 → H3 j = some (.lst [.ref c, .int (at' + 1), .int rest]) → ∀ r : Int, 0 ≤ r → r < n → Q (.int r) H3 :=
          fun H3 g3 h3 r r0 r1 => k r H3 r0 r1 g3 ⟨⟨c, ns, at' + 1, rest, h3, hc, by omega, by omega, h2⟩, u.ba.trans g3.ex⟩
        walk_at "rd"
        refine ifB (fun c2 => ?_) (fun c2 => ?_)
        · walk_at "rd"
          refine ifB (fun c3 => ?_) (fun c3 => ?_)
          · walk_at "rd"
            have c4 : (10 : Int) ^ 18 ≤ if cl < 0 then -cl else cl := of_decide_eq_true c3
            refine k _ _ (Int.emod_nonneg _ (by omega)) (Int.emod_lt_of_pos _ hn) (g2.trans Go.upd) ⟨⟨c, ns, at' + 1, _, upd_same, hc, by omega, by omega, Int.ediv_nonneg ?_ (by omega)⟩, u.ba.trans (g2.trans Go.upd).ex⟩
            show (0 : Int) ≤ 2 * ((if cl < 0 then -cl else cl) - 10 ^ 18) + (if decide (cl < 0) = true then 1 else 0)
            split <;> split <;> omega
          · walk_at "rd"
            refine ⟨⟨by decide, by decide, mix_bound (by omega) (by omega) (by omega) (by omega) (by omega) (by omega) (by omega) (by omega) (by omega) (by omega)⟩, ?_⟩
            walk_at "rd"
            exact last _ g2 hj2 _ (Int.emod_nonneg _ (by omega)) (Int.emod_lt_of_pos _ hn)
        · walk_at "rd"
          refine ⟨⟨by decide, by decide, mix_bound (by omega) (by omega) (by omega) (by omega) (by omega) (by omega) (by omega) (by omega) (by omega) (by omega)⟩, ?_⟩
          walk_at "rd"
          exact last _ g2 hj2 _ (Int.emod_nonneg _ (by omega)) (Int.emod_lt_of_pos _ hn)
end
end K43
namespace K43
open PySem PySem.Spec PyProof.Rows L2 Kg
open Evl (Ex)


section
variable {P : Program} {w : World} {K : PySem.W.Frag} {mg : Str → Option Value} {base : Heap}
def spUrn (K : PySem.W.Frag) : Sp := fun vs H Q _ => ∃ (a : Addr) (ns : List Int), vs = [.ref a] ∧ SqL K H a (ns.map V.int) ∧ ns.length ≤ 63 ∧
  ∀ (j : Addr) (B H' : Hp), H j = none → Ex H H' → Ex H B → Urn K B j 1000000 H' → Q (.ref j) H'
theorem ok_urn (T : Txt K mg) : FnOk P w K mg base CX0 1 T.f_w_keg T.d_w_keg ["script"] (spUrn K) := by
  refine T.F_w_keg.ok sc_w_keg (fun vs H Q E h => ?_) (fun cdv A outer s H vs Q E hr h => ?_)
  · obtain ⟨a, ns, rfl, _⟩ := h
    rfl
  · obtain ⟨a, ns, rfl, hs, hl, k⟩ := h
    refine ⟨_, (pss_one (ps_ret (pe_lst (pa_cons (pe_lc (own := [("cell", 1)]) (g := (gName 1)) rfl sc_w_keg.nd (pi_list (pe_slice sl_list (pv 0) po_none (po_some pe_int))) (blkOk_by (own := [("cell", 1)]) (N := ["script", "cell"]) (sc := defScope s_w_keg) (by decide +kernel)) (fun _ _ _ _ _ => (pg_name (i := 1) sc_w_keg.nd rfl (Or.inl rfl))) (fun _ _ _ _ _ => pts_nil) (fun _ _ _ _ _ => (pe_callTy call_int1 (by rfl) T.z_int (by decide +kernel) (pa_cons (pv 1) pa_nil)))) (pa_cons pe_int (pa_cons pe_int pa_nil)))))), ?_⟩
    have small : sizeLine = 16777216 := sizeLine_eq
    walk_at "rd"
    intro p hp
    obtain ⟨ms, hms⟩ : ∃ ms, ms = ns.take 60 := ⟨_, rfl⟩
    have lms : ms.length ≤ 60 := by rw [hms, List.length_take]; omega
    have cut : cutV (ns.map V.int) none (some (60 : Int)) = ms.map V.int := by
      rw [show (60 : Int) = ((60 : Nat) : Int) from rfl, cut_to, hms, List.map_take]
    have e1 : Ex H (upd H p (.lst (cutV (ns.map V.int) none (some (60 : Int))))) := Evl.Ex.new hp
    have h1 : upd H p (.lst (cutV (ns.map V.int) none (some (60 : Int)))) p = some (.lst (ms.map V.int)) := by rw [upd_same, cut]
    refine ⟨p, rfl, ⟨_, SqL.of h1⟩, fun D hD => ?_⟩
    refine lc_list (K := K) (a := p) (xs := ms.map V.int) (fun i H' => Ex (upd H p (.lst (cutV (ns.map V.int) none (some (60 : Int))))) H' ∧ H' D = some (.lst ((ms.take i).map V.int)))
      ⟨Evl.Ex.new hD, upd_same⟩ (fun i H' _ q => SqL.of (q.1 _ _ h1)) ?_ ?_
    · rintro i x H' hi ⟨q1, q2⟩
      rw [List.getElem?_map] at hi
      obtain ⟨z, hz, rfl⟩ := Option.map_eq_some_iff.mp hi
      refine ⟨rfl, ?_⟩
      walk_at "rd"
      refine ⟨_, q2, ?_, Evl.Ex.mut q1 hD, ?_⟩
      · rw [List.length_map, List.length_take]; omega
      · rw [upd_same, take_one hz, List.map_append]; rfl
    · rintro H2 ⟨q1, q2⟩
      rw [List.length_map, List.take_length] at q2
      walk_at "rd"
      intro j hj
      have ej := Evl.Ex.new (o := .lst [.ref D, .int 0, .int 0]) hj
      have hjH : H j = none := Evl.fresh_back (e1.trans q1) hj
      have nDj : D ≠ j := fun e => by rw [← e, q2] at hj; cases hj
      have back : ∀ a o, H a = some o → a ≠ j := fun a o h e => by rw [e, hjH] at h; cases h
      refine k j (off j (upd H2 j (.lst [.ref D, .int 0, .int 0]))) _ hjH (e1.trans (q1.trans ej)) (fun a o h => ?_) ⟨⟨D, ms, 0, 0, upd_same, SqL.of (off_at nDj ((upd_ne nDj).trans q2)), by decide, by decide, by decide⟩, fun a o h => h⟩
      exact off_at (back a o h) ((e1.trans (q1.trans ej)) a o h)
end
end K43
namespace K43
open PySem PySem.Spec PyProof.Rows L2 Kg LamX
open Evl (Ex)
/-! ### all but the tables of code objects -/
def noT (H : Hp) : Hp := fun a => match H a with
  | some (.tbl _) => none
  | o => o
theorem noT_of {H : Hp} {a : Addr} {o : HO} (h : noT H a = some o) : H a = some o ∧ ∀ ps, o ≠ .tbl ps := by
  unfold noT at h
  split at h
  · cases h
  · rename_i n
    exact ⟨h, fun ps e => n ps (by rw [h, e])⟩
theorem noT_at {H : Hp} {a : Addr} {o : HO} (h : H a = some o) (n : ∀ ps, o ≠ .tbl ps) : noT H a = some o := by
  unfold noT
  rw [h]
  split
  · rename_i ps e
    exact absurd (Option.some.inj e) (n ps)
  · rfl
theorem noT_sub (H : Hp) : Ex (noT H) H := fun a o h => (noT_of h).1
theorem noT_extN {H H' : Hp} (e : ExtN H H') : Ex (noT H) (noT H') := fun a o h => noT_at (e a o (noT_of h).1 (noT_of h).2) (noT_of h).2
theorem noT_ex {H H' : Hp} (e : Ex H H') : Ex (noT H) (noT H') := noT_extN (ExtN.of e)
theorem noT_l {K : PySem.W.Frag} {H : Hp} {c : Addr} {xs : List V} (h : SqL K H c xs) : SqL K (noT H) c xs := by
  rcases h with (h | ⟨o, h⟩) | h
  · exact .inl (.inl (noT_at h fun ps z => nomatch z))
  · exact .inl (.inr ⟨o, noT_at h fun ps z => nomatch z⟩)
  · exact .inr h
section
variable {K : PySem.W.Frag} {B : Hp} {j : Addr} {b : Nat} {H H' : Hp}
theorem Urn.noT (u : Urn K B j b H) : Urn K (K43.noT B) j b H := by
  obtain ⟨c, ns, at', rest, h1, h2, h3⟩ := u.it
  exact ⟨⟨c, ns, at', rest, h1, noT_l h2, h3⟩, (noT_sub B).trans u.ba⟩
theorem Urn.extN (u : Urn K (K43.noT B) j b H) (e : ExtN H H') : Urn K (K43.noT B) j b H' := by
  obtain ⟨c, ns, at', rest, h1, h2, h3⟩ := u.it
  refine ⟨⟨c, ns, at', rest, e _ _ h1 (fun ps z => nomatch z), h2, h3⟩, fun a o h => ?_⟩
  have n := (noT_of h).2
  have h := u.ba a o h
  by_cases ea : a = j
  · subst ea; rw [show off a H a = none from if_pos rfl] at h; cases h
  · rw [off_ne ea] at h ⊢
    exact e a o h n
theorem Sys.extN (h : Sys H) (e : ExtN H H') : Sys H' := by
  obtain ⟨o, φ, h⟩ := h
  exact ⟨o, φ, e _ _ h fun ps z => nomatch z⟩
theorem Tabs.go {T : List (Addr × Str)} {vs : List V} (t : Tabs T H) (hj : H j = some (.lst vs)) (g : Go j H H') : Tabs T H' := by
  have ne : ∀ {a : Addr} {o : HO}, H a = some o → (∀ xs, o ≠ .lst xs) → H' a = some o := by
    intro a o h n
    refine g a o ?_ h
    rintro rfl
    rw [hj] at h; cases h
    exact n _ rfl
  intro p hp
  obtain ⟨ps, h1, h2, h3⟩ := t p hp
  refine ⟨ps, ne h1 (fun xs z => nomatch z), h2, fun pos cv h => ?_⟩
  obtain ⟨c, e, hc⟩ := h3 pos cv h
  refine ⟨c, e, ne hc ?_⟩
  intro xs z
  unfold CodeO at z
  cases z
end
theorem noT_t {K : PySem.W.Frag} {H : Hp} {c : Addr} {xs : List V} (h : SqT K H c xs) : SqT K (noT H) c xs := by
  rcases h with h | h
  · rcases h with h | ⟨o, h⟩
    · exact .inl (.inl (noT_at h fun ps z => nomatch z))
    · exact .inl (.inr ⟨o, noT_at h fun ps z => nomatch z⟩)
  · exact .inr h
mutual
theorem Da.noT {K : PySem.W.Frag} {H : Hp} : ∀ {v : V} (d : PyData), Da K H v d → Da K (K43.noT H) v d
  | _, .none, .non => .non
  | _, .bool _, .bl b => .bl b
  | _, .int _, .int i => .int i
  | _, .str _, .str x => .str x
  | _, .list ds, .lst h t => .lst (noT_l h) (DaAll.noT ds t)
  | _, .tuple ds, .tup h t => .tup (noT_t h) (DaAll.noT ds t)
  | _, .dict _, .dct h t => .dct (noT_at h fun ps z => nomatch z) (DaAll.noT _ t)
theorem DaAll.noT {K : PySem.W.Frag} {H : Hp} : ∀ {vs : List V} (ds : List PyData), DaAll K H vs ds → DaAll K (K43.noT H) vs ds
  | _, [], .nil => .nil
  | _, d :: ds, .cons h t => .cons (Da.noT d h) (DaAll.noT ds t)
end
theorem ex_extN {G H H' : Hp} (g : Ex (noT G) H) (e : ExtN H H') : Ex (noT G) H' := fun a o h => e a o (g a o h) (noT_of h).2
end K43
/-! Kg22: a dict of a module, its keys tuples of ints and texts: in, not in. -/
namespace Kg
open PySem PySem.Spec PyProof.Rows L2
/-- a dict of the module, its keys tuples -/
structure CDict (P : Program) (w : World) (K : PySem.W.Frag) (a : Addr) (xs : List (List Key × Addr × Value)) : Prop where
  no : (a == sysModules) = false
  here : ∃ o es ep, K.lookup a = some o ∧ o.ExactDict ∧ o.data = .dict es ep ∧ es.toList = xs.map (entryOfKey (tupleKind (mixKind P w)))
  nd : (xs.map (·.1)).Nodup
  keys : ∀ h : Heap, K.In h → ∀ x ∈ xs, (tupleKind (mixKind P w)).is h x.1 x.2.1
theorem CDict.of {P : Program} {w : World} {K : PySem.W.Frag} {a : Addr} {xs : List (List Key × Addr × Value)} {h : Heap} (C : CDict P w K a xs) (hK : K.In h) : h.DictOfH (tupleKind (mixKind P w)) a xs := by
  obtain ⟨o, es, ep, h1, h2, h3, h4⟩ := C.here
  exact ⟨o, es, ep, hK _ _ h1, h2, h3, h4, C.keys h hK, C.nd⟩
variable {X : Cx}
def rInKT (a : Addr) (xs : List (List Key × Addr × Value)) : V → V → Hp → VK → Prop := fun x y H Q => ∃ b k, x = .ref b ∧ y = .ref a ∧ H b = some (.tup (k.map kV)) ∧ Q (.bl (atKey xs k).isSome) H
def rNotInKT (a : Addr) (xs : List (List Key × Addr × Value)) : V → V → Hp → VK → Prop := fun x y H Q => ∃ b k, x = .ref b ∧ y = .ref a ∧ H b = some (.tup (k.map kV)) ∧ Q (.bl (!(atKey xs k).isSome)) H
theorem op_inKT {a : Addr} {xs : List (List Key × Addr × Value)} (C : CDict X.prog X.w X.K a xs) (hu : X.A.units + 1 < cLine) : OpR X (compareOp .In) (rInKT a xs) := by
  intro pins s σ H x y v u Q I rx ry h
  obtain ⟨b, k, rfl, rfl, hb, q⟩ := h
  cases (show u = Value.ref a from ry)
  cases (show v = Value.ref b from rx)
  refine wpAny_in_heap (tupleKind_room_in1 hu) (key_of I.hok hb) C.no (C.of I.kIn) ?_
  exact ⟨.bl _, H, I.tok _, rfl, q⟩
theorem op_notInKT {a : Addr} {xs : List (List Key × Addr × Value)} (C : CDict X.prog X.w X.K a xs) (hu : X.A.units + 1 < cLine) : OpR X (compareOp .NotIn) (rNotInKT a xs) := by
  intro pins s σ H x y v u Q I rx ry h
  obtain ⟨b, k, rfl, rfl, hb, q⟩ := h
  cases (show u = Value.ref a from ry)
  cases (show v = Value.ref b from rx)
  refine wpAny_notIn_heap (tupleKind_room_in1 hu) (key_of I.hok hb) C.no (C.of I.kIn) ?_
  exact ⟨.bl _, H, I.tok _, rfl, q⟩
theorem CDict.type {P : Program} {w : World} {K : PySem.W.Frag} {a : Addr} {xs : List (List Key × Addr × Value)} {s : Shared} (C : CDict P w K a xs) (hK : K.In s.heap) : s.TypeIs (.ref a) "dict" := (C.of hK).typeIs
/-- d[k] of such a dict -/
def rIxKT (a : Addr) (xs : List (List Key × Addr × Value)) : V → V → Hp → VK → Prop := fun x y H Q => ∃ b k p v, x = .ref a ∧ y = .ref b ∧ H b = some (.tup (k.map kV)) ∧ atKey xs k = some p ∧ RelV v p.2 ∧ Q v H
theorem ix_KT {a : Addr} {xs : List (List Key × Addr × Value)} (C : CDict X.prog X.w X.K a xs) (hu : X.A.units + 1 < cLine) : IxR X (rIxKT a xs) := by
  intro value slice pins s σ H x y v u Q I rx ry h hs
  obtain ⟨b, k, p, r, rfl, rfl, hb, hp, rp, q⟩ := h
  cases (show u = Value.ref b from ry)
  cases (show v = Value.ref a from rx)
  refine tail_any (C.type I.kIn) PySem.F.slot_dict_getitem.lookup ?_ hs
  refine wpAny_getItem_heap (tupleKind_room_in1 hu) (key_of I.hok hb) (C.of I.kIn) hp ?_
  exact ⟨r, H, I.tok _, rp, q⟩
end Kg
/-! Kn17: constants of a module: a dict with tuple keys, tuples of tuples of ints. -/
namespace Kn
open PySem PySem.Spec PyProof.Rows L2 Kg
open Evl (Ex)
/-- a tuple of the module -/
def KTup (K : PySem.W.Frag) (a : Addr) (ds : List D) : Prop := ∃ xs : List V, (∃ (o : Obj) (its : Array Value) (n : Nat), K.lookup a = some o ∧ o.cls = .type "tuple" ∧ o.data = .seq its n ∧ its.size ≤ sizeLine ∧ Vals xs its.toList) ∧ ∀ G, RpAll K G xs ds
section
variable {c : Cfg} {s : NS} {R : Vw → NS → Prop} {ta tb : TE} {K' : PySem.W.Frag} {D0 : Addr} {xs : List (List Key × Addr × Value)}
theorem g_tupK {gs : TGs} {vs : Nat → Prop} {ds : List D} {n : Nat} {P : NS → Prop} {a : Addr} (hk : KTup c.K a ds) (hn : ds.length = n) (h : wGs c gs vs ds s P) (hK : K' = c.K := by rfl) : wG c (gTup K' n gs) vs (.rf a) s P := by
  subst hK
  intro σ G H v Q t r k
  obtain ⟨ys, h1, h2⟩ := hk
  cases r
  exact ⟨_, ys, rfl, .inr h1, by rw [(h2 G).len]; exact hn, h σ G H _ Q t (h2 G) k⟩
theorem e_ixTK (h : wE c ta s fun w s1 => wE c tb s1 fun u s2 => ∃ a ds i d, w = .d (.rf a) ∧ KTup c.K a ds ∧ u = .d (.int i) ∧ atI ds i = some d ∧ R (.d d) s2) (hK : K' = c.K := by rfl) : wE c (tOp (rIxT K') ta tb) s R := by
  subst hK
  refine e_op h fun σ G H Hs v x w u s2 Q t r1 r2 ⟨a, ds, i, d, e1, ⟨ys, h1, h2⟩, e2, e3, p⟩ k => ?_
  subst e1 e2
  cases (show Rp c.K G v _ from r1)
  obtain ⟨y, h3, p2⟩ := atI_of (h2 G) e3
  exact ⟨_, ys, i, y, rfl, int_at r2, .inr h1, h3, k _ (.d d) s2 G H p t .refl p2⟩
theorem e_inKT (h : wE c ta s fun w s1 => wE c tb s1 fun u s2 => ∃ kd k, w = .d (.tup kd) ∧ u = .d (.rf D0) ∧ KsD kd k ∧ R (.d (.bl (atKey xs k).isSome)) s2) : wE c (tOp (rInKT D0 xs) ta tb) s R :=
  e_op h fun σ G H Hs v x w u s2 Q t r1 r2 ⟨kd, k, e1, e2, hk, p⟩ kk => by
    subst e1 e2
    cases (show Rp c.K G x _ from r2)
    cases (show Rp c.K G v (.tup kd) from r1) with
    | tup h1 h2 =>
      rw [hk.vs h2] at h1
      exact ⟨_, k, rfl, rfl, t.gh _ _ h1, kk _ (.d (.bl _)) s2 G H p t .refl (Rp.bl _)⟩
theorem e_notInKT (h : wE c ta s fun w s1 => wE c tb s1 fun u s2 => ∃ kd k, w = .d (.tup kd) ∧ u = .d (.rf D0) ∧ KsD kd k ∧ R (.d (.bl (!(atKey xs k).isSome))) s2) : wE c (tOp (rNotInKT D0 xs) ta tb) s R :=
  e_op h fun σ G H Hs v x w u s2 Q t r1 r2 ⟨kd, k, e1, e2, hk, p⟩ kk => by
    subst e1 e2
    cases (show Rp c.K G x _ from r2)
    cases (show Rp c.K G v (.tup kd) from r1) with
    | tup h1 h2 =>
      rw [hk.vs h2] at h1
      exact ⟨_, k, rfl, rfl, t.gh _ _ h1, kk _ (.d (.bl _)) s2 G H p t .refl (Rp.bl _)⟩
theorem e_getKT (h : wE c ta s fun w s1 => wE c tb s1 fun u s2 => ∃ kd k b a, w = .d (.rf D0) ∧ u = .d (.tup kd) ∧ KsD kd k ∧ atKey xs k = some (b, .ref a) ∧ R (.d (.rf a)) s2) : wE c (tOp (rIxKT D0 xs) ta tb) s R :=
  e_op h fun σ G H Hs v x w u s2 Q t r1 r2 ⟨kd, k, b, a, e1, e2, hk, hp, p⟩ kk => by
    subst e1 e2
    cases (show Rp c.K G v _ from r1)
    cases (show Rp c.K G x (.tup kd) from r2) with
    | tup h1 h2 =>
      rw [hk.vs h2] at h1
      exact ⟨_, k, _, .ref a, rfl, rfl, t.gh _ _ h1, hp, rfl, kk _ (.d (.rf a)) s2 G H p t .refl (Rp.rf a)⟩
end
end Kn
/-! Kg21: x != y, x of a class with its own == (and no !=). -/
namespace Kg
open PySem PySem.Spec PyProof.Rows L2
section
variable {M : Model} {prog : Program} {w : World} {A : Around} {E : Value → Shared → Prop} {s : Shared} {K : PySem.W.Frag} {x C f : Addr} {ox : Obj} {od : Option Obj} {b : Value}
theorem ifBound_objNe {args : List Value} {Q : Option Value → Shared → Prop} (X : K.In s.heap) (I : PySem.W.InstAt s.heap x ox C od) (hs : PySem.W.findIn K (.ref C) "__ne__" = some (some (.builtin "object.__ne__")))
    (h : wpAny M A (call (.builtin "object.__ne__") (.ref x :: args)) (fun v => Q (some v)) E s) : wpAny M A (callSpecialIfBound? (.ref x) "__ne__" args) Q E s := by
  simp only [callSpecialIfBound?, bindSpecialIfBound?]
  refine wpAny_holding (wpAny_bind (wpAny_bind (wpAny_bind (I.type.here ((PySem.W.looks_findIn X hs).here ?_)))))
  refine wpAny_bind (wpAny_askSetting (wpAny_ite ?_))
  have fin : wpAny M A (call (.builtin "object.__ne__") ([.ref x] ++ args) >>= fun v => pure (some v)) Q E s := wpAny_bind (wpAny_mono h (fun v s' h' => wpAny_pure h') fun _ _ h' => h')
  split
  · exact wpAny_bind (wpAny_of_eq (F.cmp_object.ne.bind _) (wpAny_pure (by exact fin)))
  · exact wpAny_tryCatch (wpAny_bind (wpAny_of_eq (F.cmp_object.ne.bind _) (wpAny_pure (by exact fin))))
theorem entry_ne {Q : Fin → Shared → Prop} (hu : A.units < cLine) (X : K.In s.heap) (I : PySem.W.InstAt s.heap x ox C od) (hs : PySem.W.findIn K (.ref C) "__eq__" = some (some (.ref f))) (hf : PySem.W.isFn K (.ref f) = true)
    (h : wpAny (model prog w) A (call (.ref f) [.ref x, b]) (fun v s' => ∃ r, v = .bool r ∧ Q (.done (.ret (.bool (!r)))) s') E s) :
    wpAny (model prog w) A (Builtin.«object.__ne__» ⟨[.ref x, b], []⟩) Q E s := by
  unfold Builtin.«object.__ne__»
  repeat (first
    | with_reducible refine wpAny_cRoomFor hu ?_
    | (refine wpAny_bind (m := callSpecialIfBound? (.ref x) (Str.ofString "__eq__") [b])
        (PySem.W.ifBound_K X I hs hf (wpAny_mono h (fun v s' hr => by
          obtain ⟨r, rfl, hq⟩ := hr
          repeat (first | exact hq | exact wpAny_pure hq | exact wpAny_truthy_bool hq | (refine wpAny_bind (m := truthy (.bool _)) (wpAny_truthy_bool ?_)) | wp_step)) fun _ _ e => e)))
    | wp_step)
theorem call_objNe {Q : Value → Shared → Prop} (hu : A.units + 1 < cLine) (X : K.In s.heap) (I : PySem.W.InstAt s.heap x ox C od) (hm : PySem.W.mroIn K C (.type "object") = some true) (hs : PySem.W.findIn K (.ref C) "__eq__" = some (some (.ref f))) (hf : PySem.W.isFn K (.ref f) = true)
    (h : wpAny (model prog w) A.in1 (call (.ref f) [.ref x, b]) (fun v s' => ∃ r, v = .bool r ∧ Q (.bool (!r)) s') E s) : wpAny (model prog w) A (call (.builtin "object.__ne__") [.ref x, b]) Q E s :=
  wpAny_call (codeAny_call_builtin F.cmp_object.ne.plain F.cmpEntry_ne (PySem.W.check_slot F.cmpKind_ne F.cmpSplit_ne (I.type.andThen (PySem.W.looks_mroIn X hm)) (F.cmpArgs_ne _ _) (entry_ne (A := A.in1) hu X I hs hf h)))
end
section
variable {X : Cx}
def rNeO (C : Addr) (sp : Sp) (E : XK) : R2 := fun x y H Q => ∃ a b dx dy fs gs, x = .ref a ∧ y = .ref b ∧ H a = some (.ins C dx fs) ∧ H b = some (.ins C dy gs) ∧ sp [x, y] H (fun v H' => ∃ r, v = .bl r ∧ Q (.bl (!r)) H') E
theorem op_neO {CX : CXT} {k : Nat} {C f : Addr} {fd : FuncData} {ps : List Str} {sp : Sp} {E : XK} (F : FnOk X.prog X.w X.K X.mg X.base CX k f fd ps sp) (hr : Room (k + 1) X.A)
    (hs : PySem.W.findIn X.K (.ref C) "__eq__" = some (some (.ref f))) (hf : PySem.W.isFn X.K (.ref f) = true) (hn : PySem.W.findIn X.K (.ref C) "__ne__" = some (some (.builtin "object.__ne__"))) (hm : PySem.W.mroIn X.K C (.type "object") = some true) (hb : Binds X.K fd ps []) (hx : Passes CX X E) : OpR X (compareOp .NotEq) (rNeO C sp E) := by
  intro pins s σ H x y v u Q I rx ry h
  obtain ⟨a, b, dx, dy, fs, gs, rfl, rfl, ha, hb', hsp⟩ := h
  cases rx
  cases ry
  obtain ⟨mA, J, _⟩ := ins_get I.hok ha
  obtain ⟨mB, J', _⟩ := ins_get I.hok hb'
  obtain ⟨od, J, _⟩ := J.look
  obtain ⟨od', J', _⟩ := J'.look
  have KX := I.kIn
  have hu := hr.units0
  have one : wpAny (model X.prog X.w) X.A (tryCompare (.ref a) "__ne__" (.ref b)) (fun r s' => ∃ v, r = some v ∧ EP X pins σ Q v s') X.xe s := by
    unfold tryCompare
    refine wpAny_bind (ifBound_objNe KX J hn (call_objNe (by have := hr.un; omega) KX J hm hs hf ?_))
    have hl : ([Value.ref a, Value.ref b] ++ []).length = ps.length := by
      have := F.len _ _ _ _ hsp
      simpa using this
    refine wpAny_call (codeAny_mono (F.run X.A.in1 X.stack s H ⟨[.ref a, .ref b], []⟩ [.ref a, .ref b] [V.ref a, V.ref b] _ E hr.in1 I.env0.in1 (by simpa using hb s [.ref a, .ref b] I.kIn hl) (.cons rfl (.cons rfl .nil)) hsp) fun r s' hq => ?_)
    cases r with
    | error e => exact hx pins σ H s e s' I hq
    | ok fl =>
      cases fl with
      | ret u =>
        obtain ⟨z', H', I', rz, r, e, q⟩ := I.after hq
        subst e
        cases rz
        exact ⟨r, rfl, wpAny_pure ⟨_, rfl, .bl (!r), H', I', rfl, q⟩⟩
      | next => exact False.elim hq
      | brk => exact False.elim hq
      | cont => exact False.elim hq
  show wpAny (model X.prog X.w) X.A (richCompare .NotEq (.ref a) (.ref b)) (EP X pins σ Q) X.xe s
  unfold richCompare
  simp only [oneThing_ref]
  refine wpAny_holding (wpAny_bind (wpAny_cRoomFor hu ?_))
  refine wpAny_bind (J.type.here (wpAny_bind (J'.type.here ?_)))
  split
  · rename_i q
    simp at q
  · refine wpAny_bind (wpAny_pure ?_)
    simp only [Bool.false_eq_true, if_false]
    refine wpAny_bind (wpAny_mono one (fun r s' z => ?_) fun _ _ e => e)
    obtain ⟨v, rfl, hq⟩ := z
    exact wpAny_pure hq
/-- x == t, t a tuple -/
def rEqT (K : PySem.W.Frag) (C : Addr) (sp : Sp) (E : XK) : R2 := fun x y H Q => ∃ a b dx fs xs, x = .ref a ∧ y = .ref b ∧ H a = some (.ins C dx fs) ∧ SqT K H b xs ∧ sp [x, y] H (fun v H' => ∃ r, v = .bl r ∧ Q (.bl r) H') E
theorem sub_tuple {K : PySem.W.Frag} {C : Addr} : PySem.W.subIn K (.type "tuple") (.ref C) = some false := by
  have e : fastBuiltinMro "tuple" = some [.type "tuple", .type "object"] := by decide +kernel
  show (fastBuiltinMro "tuple").map (·.contains (.ref C)) = some false
  rw [e]
  first
    | rfl
    | simp
theorem op_eqT {CX : CXT} {k : Nat} {C f : Addr} {fd : FuncData} {ps : List Str} {sp : Sp} {E : XK} (F : FnOk X.prog X.w X.K X.mg X.base CX k f fd ps sp) (hr : Room k X.A)
    (hs : PySem.W.findIn X.K (.ref C) "__eq__" = some (some (.ref f))) (hf : PySem.W.isFn X.K (.ref f) = true) (hb : Binds X.K fd ps []) (hx : Passes CX X E) : OpR X (compareOp .Eq) (rEqT X.K C sp E) := by
  intro pins s σ H x y v u Q I rx ry h
  obtain ⟨a, b, dx, fs, xs, rfl, rfl, ha, hb', hsp⟩ := h
  cases rx
  cases ry
  obtain ⟨mA, J, _⟩ := ins_get I.hok ha
  obtain ⟨od, J, _⟩ := J.look
  obtain ⟨its, rt, ⟨o, e, hc, n, d⟩, _⟩ := I.tuple hb'
  obtain ⟨m, hF⟩ := I.fr
  have T : PySem.W.Looks (model X.prog X.w) s.heap (typeOf (.ref b)) (.type "tuple") := hc ▸ (PySem.W.Looks.ld e).andThen .now
  show wpAny (model X.prog X.w) X.A (richCompare .Eq (.ref a) (.ref b)) (EP X pins σ Q) X.xe s
  refine PySem.W.cmp_K (op := .Eq) (tb := .type "tuple") hr.units0 hF I.ok.mod.kin J T (by unfold PySem.W.notFirst; rw [sub_tuple]; simp) hs hf ?_
  refine thn (run_fn F hr hb .nil hx I (show Vals [V.ref a, V.ref b] [Value.ref a, Value.ref b] from .cons rfl (.cons rfl .nil)) hsp) ?_
  rintro z s' ⟨z', H', I', rz, r, e, q⟩
  subst e
  cases rz
  exact ⟨.bl r, H', I', rfl, q⟩
end
end Kg
/-! Kn8: lambdas that are asked, their errors heard; a law's body behind its urn. -/
/-! Kn16: heard(lambda: ..) where heard makes things of its own also when nothing was raised. -/
namespace Kn
open PySem PySem.Spec PyProof.Rows L2 Kg LamX
open Evl (Ex)
section
variable {c : Cfg} {s : NS} {R : Vw → NS → Prop} {K' : PySem.W.Frag} {σ : L2.St} {G H H1 : Hp}
/-- heard(lambda: f(..)) -/
theorem e_heardW {T : List (Addr × Str)} {TT : (XK → Hp → VK → Prop) → Hp → VK → Prop} {cs : List (Addr × Str)} {φ : List D → (D → Prop) → Er → Prop} {ta : TA}
    (hTT : ∀ (tl : XK → Hp → VK → Prop) H Q, (∀ (E : XK) (N : VK), (∀ cls d H', EHrd cs Q cls d H' → E cls d H') → (∀ v H', (∀ H2, Ex H' H2 → Q .non H2) → N v H') → tl E H N) → TT tl H Q)
    (tk : c.tk = false) (hT : ∀ H, c.TB H ↔ Tabs T H)
    (h : wA c ta s fun ds s1 => φ ds (fun _ => R (.d .non) s1) fun C fs => ∃ p nm : Str, fs = [(("part" : Str), D.str p)] ∧ (C, nm) ∈ cs ∧ R (.d (.tup [.str nm, .str p])) s1) (hK : K' = c.K := by rfl) :
    wE c (tLam T TT fun E => tCall (spP K' φ) [] E ta) s R := by
  subst hK
  intro σ G H Q t k
  refine ⟨(hT H).mp t.tb, fun H1 e1 tb1 => hTT _ _ _ fun E N hE hN => ?_⟩
  obtain ⟨t1, k1⟩ := t.extN tk e1 ((hT H1).mpr tb1)
  refine h σ G H1 _ t1 fun vs ds s1 G2 H2 p t2 k2 r2 => ?_
  refine ⟨G2, ds, _, _, t2.gh, t2.gt, by rw [List.append_nil]; exact r2, p, fun v d G' H' r hh eg gh gt nw rp => hN v H' ?_, fun C fs dx xs G' H' x eg hh gh gt nw nd hd fl => hE _ _ _ ?_⟩
  · obtain ⟨t3, k3⟩ := t2.grow eg hh gh gt fun a h => (nw a h).imp id Nw.fw
    intro H3 e3
    obtain ⟨t4, k4⟩ := t3.grow (fun _ _ z => z) e3 (t3.gh.trans e3) t3.gt fun a h => .inl h
    exact k .non (.d .non) s1 G' H3 r t4 (k1.trans (k2.trans (k3.trans k4))) .non
  · obtain ⟨p, nm, rfl, hc, r⟩ := x
    have hx : xs = [(("part" : Str), V.str p)] := by
      obtain ⟨f1, f2⟩ := fl
      match xs, f1, f2 with
      | [(n, v)], f1, f2 =>
        cases f2 with
        | cons a b =>
          cases a
          simp only [List.map_cons, List.map_nil, List.cons.injEq, and_true] at f1
          subst f1
          rfl
    subst hx
    refine ⟨dx, p, rfl, hd, C, nm, hc, rfl, fun t4 H3 e3 n4 h4 => ?_⟩
    obtain ⟨t3, k3⟩ := t2.grow eg hh gh gt fun a h => (nw a h).imp id Nw.fw
    have g4 : G' t4 = none := t3.freshG (.none n4)
    have eg4 : Ex G' (upd G' t4 (.tup [.str nm, .str p])) := Evl.Ex.new g4
    obtain ⟨t5, k5⟩ := t3.grow (G' := upd G' t4 (.tup [.str nm, .str p])) eg4 e3 (fun a o h => by
      by_cases z : a = t4
      · subst z; rw [upd_same] at h; rw [h4]; exact h
      · rw [upd_ne z] at h; exact e3 a o (gh a o h)) (fun a o h => by
      by_cases z : a = t4
      · subst z; rw [upd_same] at h; cases h; exact fun _ z => nomatch z
      · rw [upd_ne z] at h; exact gt a o h) (fun a h => by
      by_cases z : a = t4
      · subst z; exact .inr (.none n4)
      · rw [upd_ne z] at h; exact .inl h)
    exact k (.ref t4) (.d (.tup [.str nm, .str p])) s1 _ H3 r t5 (k1.trans (k2.trans (k3.trans k5))) (.tup upd_same (.cons (.str _) (.cons (.str _) .nil)))
variable {ta tb : TE} {tk : TA}
/-- x != y of a class with its own == -/
theorem e_neO {C : Addr} {φ : List D → (D → Prop) → Er → Prop} {E : XK} (h : wE c ta s fun w s1 => wE c tb s1 fun u s2 => ∃ fs gs, w = .d (.ins C fs) ∧ u = .d (.ins C gs) ∧ φ [.ins C fs, .ins C gs] (fun d => ∃ r, d = .bl r ∧ R (.d (.bl (!r))) s2) (fun _ _ => False)) (hK : K' = c.K := by rfl) :
    wE c (tOp (rNeO C (spP K' φ) E) ta tb) s R := by
  subst hK
  refine e_op h fun σ G H Hs v x w u s2 Q t r1 r2 ⟨fs, gs, e1, e2, z⟩ k => ?_
  subst e1 e2
  obtain ⟨a, dx, fs', ds, rfl, h1, h2, e1⟩ := ins_at (show Rp c.K G v _ from r1)
  obtain ⟨b, dy, gs', es, rfl, h3, h4, e2⟩ := ins_at (show Rp c.K G x _ from r2)
  refine ⟨a, b, dx, dy, fs', gs', rfl, rfl, t.gh _ _ h1, t.gh _ _ h3, G, _, _, _, t.gh, t.gt, .cons r1 (.cons r2 .nil), z, fun v d G' H' ⟨r, e, q⟩ hh eg gh gt nw rp => ?_, fun _ _ _ _ _ _ z => z.elim⟩
  subst e
  obtain ⟨t2, k2⟩ := t.grow eg hh gh gt (fun a h => (nw a h).imp id Nw.fw)
  exact ⟨r, by cases rp; rfl, k (.bl (!r)) (.d (.bl (!r))) s2 G' H' q t2 k2 (Rp.bl _)⟩
/-- x == t, t a tuple -/
theorem e_eqT {C : Addr} {φ : List D → (D → Prop) → Er → Prop} {E : XK} (h : wE c ta s fun w s1 => wE c tb s1 fun u s2 => ∃ fs gs, w = .d (.ins C fs) ∧ u = .d (.tup gs) ∧ φ [.ins C fs, .tup gs] (fun d => ∃ r, d = .bl r ∧ R (.d (.bl r)) s2) (fun _ _ => False)) (hK : K' = c.K := by rfl) :
    wE c (tOp (rEqT K' C (spP K' φ) E) ta tb) s R := by
  subst hK
  refine e_op h fun σ G H Hs v x w u s2 Q t r1 r2 ⟨fs, gs, e1, e2, z⟩ k => ?_
  subst e1 e2
  obtain ⟨a, dx, fs', ds, rfl, h1, h2, e1⟩ := ins_at (show Rp c.K G v _ from r1)
  cases (show Rp c.K G x _ from r2) with
  | @tup b ys _ h3 h4 =>
    refine ⟨a, b, dx, fs', ys, rfl, rfl, t.gh _ _ h1, SqT.of (t.gh _ _ h3), G, _, _, _, t.gh, t.gt, .cons r1 (.cons (.tup h3 h4) .nil), z, fun v d G' H' ⟨r, e, q⟩ hh eg gh gt nw rp => ?_, fun _ _ _ _ _ _ z => z.elim⟩
    subst e
    obtain ⟨t2, k2⟩ := t.grow eg hh gh gt (fun a h => (nw a h).imp id Nw.fw)
    exact ⟨r, by cases rp; rfl, k (.bl r) (.d (.bl r)) s2 G' H' q t2 k2 (Rp.bl r)⟩
/-! ### a def with lambdas that shows things -/
def spLR (K : PySem.W.Frag) (T : List (Addr × Str)) (φ : Nat → List D → (Nat → D → Prop) → Prop) : Sp := fun vs H Q E => OffK K ∧ Sys H ∧ (∀ j us, vs = .ref j :: us → sysModules ≠ j) ∧ spL K T φ vs H Q E
theorem spLR_len {K : PySem.W.Frag} {T : List (Addr × Str)} {φ : Nat → List D → (Nat → D → Prop) → Prop} {n : Nat} (hl : ∀ b ds R, φ b ds R → ds.length + 1 = n) : ∀ vs H Q E, spLR K T φ vs H Q E → vs.length = n := fun vs H Q E h => spL_len hl vs H Q E h.2.2.2
theorem e_callLR {T : List (Addr × Str)} {φ : Nat → List D → (Nat → D → Prop) → Prop} {E : XK} {i : Nat} {tr : TA} (ok : ReprOk c) (nj0 : sysModules ≠ c.j) (tk : c.tk = false) (hT : ∀ H, c.TB H ↔ Tabs T H) (hi : s.γ[i]? = some .ur) (h : wA c tr s fun ds s1 => φ s1.b ds fun b' d => R (.d d) { s1 with b := b' }) (hK : K' = c.K := by rfl) :
    wE c (tCall (spLR K' T φ) [] E (tCons (tVar i) tr)) s R := by
  subst hK
  intro σ G H Q t k
  obtain ⟨hu, hj⟩ := t.sl i _ hi
  have cnt : ∀ {o}, c.nt o → Nt o := fun h => h.elim (fun z => by rw [tk] at z; cases z) id
  refine ⟨.ref c.j, hj, h σ G H _ t fun vs ds s1 G1 H1 p t1 k1 r1 => ?_⟩
  refine ⟨ok.1, ok.2 _ _ _ _ t1, fun j us e => by rw [List.append_nil] at e; cases e; exact nj0, ?_⟩
  refine ⟨G1, c.j, s1.b, vs, ds, _, by rw [List.append_nil], (hT H1).mp t1.tb, t1.gh, t1.gt, t1.gj _ ⟨hu, rfl⟩, t1.ur hu, r1, p, fun v d b' G' H' q hh tb eg gh gt nw u rp => ?_⟩
  have nj : ∀ a, ¬ c.isU a → a ≠ c.j := fun a n e => n ⟨hu, e⟩
  have nl : ∀ {xs : List V}, Nt (.lst xs) := fun _ z => nomatch z
  have nw' : ∀ a, G' a ≠ none → G1 a ≠ none ∨ Fw c H1 a := fun a h => (nw a h).imp id fun f => f.imp (fun f o e n => f o e (cnt n)) id
  have t2 : At c { s1 with b := b' } σ G' H' := by
    refine ⟨t1.len, fun i x hx => ?_, t1.dis, gh, gt, fun a u => ?_, t1.hj, fun a o h w u => hh a o (t1.fr a o h w u) (cnt w) (nj a u), fun a h => ?_, t1.g0.trans eg, fun _ => u, (hT H').mpr tb⟩
    · by_cases z : ∃ ds, x = .ow ds
      · obtain ⟨ds, rfl⟩ := z
        obtain ⟨a, xs, h1, h2, h3, h4, h5⟩ := t1.sl i _ hx
        refine ⟨a, xs, h1, h2, ?_, hh a _ h4 h5.nt (nj a (t1.notU h2)), h5.mono eg⟩
        cases q : G' a with
        | none => rfl
        | some o =>
          rcases nw' a (by rw [q]; exact fun z => nomatch z) with z | z
          · exact absurd h3 z
          · exact (h5.noW h4 z).elim
      · cases x with
        | no => trivial
        | d d => obtain ⟨v, h1, h2⟩ := t1.sl i _ hx; exact ⟨v, h1, h2.mono eg⟩
        | ur => exact t1.sl i _ hx
        | ow ds => exact absurd ⟨ds, rfl⟩ z
    · cases q : G' a with
      | none => rfl
      | some o =>
        rcases nw' a (by rw [q]; exact fun z => nomatch z) with z | z
        · exact absurd (t1.gj a u) z
        · exact absurd z (t1.thereW u)
    · rcases nw' a h with z | z
      · exact t1.nw a z
      · exact .inr (t1.freshW0 z)
  refine k v (.d d) _ G' H' q t2 (k1.trans ⟨eg, fun a o h w u _ => hh a o h (cnt w) (nj a u), fun a h => (nw' a h).elim .inl fun z => .inr (.inl z), fun _ _ h => h, fun a h o e w => ?_, fun a xs h => ?_⟩) rp
  · by_cases e2 : a = c.j
    · subst e2
      obtain ⟨_, _, _, _, hq, _⟩ := u
      exact h.no hq ntl
    · exact h.no (hh a o e (cnt w) e2) w
  · by_cases e2 : a = c.j
    · subst e2
      obtain ⟨_, _, _, _, hq, _⟩ := u
      rw [hq] at h; cases h
    · cases q : H1 a with
      | none => exact .inl (.none q)
      | some o =>
        by_cases n : c.nt o
        · have e3 := hh a o q (cnt n) e2
          rw [h] at e3
          cases e3
          exact .inl (.inr ⟨xs, q⟩)
        · exact .inl (.inl fun o' q' n' => by rw [q] at q'; cases q'; exact n n')
theorem enterLR {K : PySem.W.Frag} {N : List Str} {T : List (Addr × Str)} {G : Hp} {j : Addr} {b : Nat} {us : List V} {ds : List D} {R : Nat → D → Prop} {t : TS} {Q : VK} (off : OffK K) (sy : Sys H) (nj : sysModules ≠ j) (tb : Tabs T H) (eg : Ex G H) (gt : ∀ a o, G a = some o → Nt o) (gj : G j = none) (u : UrnAt K j b G H) (rp : RpAll K G us ds)
    (kR : ∀ v d b' G' H', R b' d → (∀ a o, H a = some o → Nt o → a ≠ j → H' a = some o) → Tabs T H' → Ex G G' → Ex G' H' → (∀ a o, G' a = some o → Nt o) → (∀ a, G' a ≠ none → G a ≠ none ∨ (∀ o, H a = some o → ¬ Nt o) ∨ ∃ xs, H a = some (.tup xs)) → UrnAt K j b' G' H' → Rp K G' v d → Q v H')
    (h : ∀ c : Cfg, c.K = K → c.tk = false → (∀ H, c.TB H ↔ Tabs T H) → ReprOk c → sysModules ≠ c.j → wS c t ⟨initS N.length (.ur :: ds.map .d), b⟩ { nx := fun s => R s.b .non, rt := fun d s => R s.b d }) : t { nx := fun _ H' => Q .non H', rt := Q } (L2.start N (.ref j :: us)) H := by
  refine enterT (Z := { nx := fun _ H' => Q .non H', rt := Q }) tb eg gt gj u (start_len (by simp [rp.len])) (fun i x hx => ?_) kR (fun _ _ => Iff.rfl) fun c e1 e2 e3 e4 keep => h c e1 e3 e4 ⟨by rw [e1]; exact off, fun s σ G' H' t => by
      obtain ⟨o, φ, hs⟩ := sy
      exact ⟨o, φ, keep _ _ _ _ t _ _ hs (fun _ z => nomatch z) nj⟩⟩ (by rw [e2]; exact nj)
  rcases init_get hx with z | rfl
  · cases i with
    | zero => cases z; exact ⟨(fun _ z => nomatch z), rfl, start_get rfl⟩
    | succ i =>
      obtain ⟨d, h1, rfl⟩ := map_get (show (ds.map Sl.d)[i]? = some x from z)
      obtain ⟨v, h2, r⟩ := rp.of h1
      exact ⟨(fun _ z => nomatch z), v, start_get (vs := .ref j :: us) (i := i + 1) h2, r⟩
  · exact ⟨(fun _ z => nomatch z), trivial⟩
/-- a call by three keywords, the last parameter first -/
def g3x : List D → List D
  | [a, b, d] => [b, d, a]
  | _ => []
theorem e_callK3x {φ : List D → (D → Prop) → Er → Prop} {E : XK} {X : Er} {gV : List V → List V → List V} (h0 : gV [] [] = []) (h1 : ∀ a, gV [] [a] = []) (h2 : ∀ a b, gV [] [a, b] = []) (h3 : ∀ a b d, gV [] [a, b, d] = [b, d, a]) (h4 : ∀ a b d e vs, gV [] (a :: b :: d :: e :: vs) = []) (hE : ErrIn c E X)
    (h : wA c tk s fun ds s1 => φ (g3x ds) (fun d => R (.d d) s1) X) (hK : K' = c.K := by rfl) : wE c (tCallK (spP K' φ) gV E tNil tk) s R := by
  refine e_callK (gD := g3x) (fun G vs ds r => ?_) hE h hK
  cases r with
  | nil => rw [h0]; exact .nil
  | cons a r =>
    cases r with
    | nil => rw [h1]; exact .nil
    | cons b r =>
      cases r with
      | nil => rw [h2]; exact .nil
      | cons d r =>
        cases r with
        | nil => rw [h3]; exact .cons b (.cons d (.cons a .nil))
        | cons e r => rw [h4]; exact .nil
end
end Kn
/-! Kn18: the facts of a module's dict whose keys and values are pairs, from the row's fragment. -/
namespace Kn
open PySem PySem.Spec PyProof.Rows L2 Kg
open Evl (Ex)
theorem kt_ii {K : PySem.W.Frag} {a : Addr} {od : Option Addr} {its : Array Value} {n : Nat} {sl : Array (Option Value)} {x y : Int} {t u : Tok} (h : K.lookup a = some ⟨.type "tuple", od, .seq its n, sl⟩) (e : its.toList = [.int x t, .int y u]) : KTup K a [.int x, .int y] := by
  have small : sizeLine = 16777216 := sizeLine_eq
  have l : its.size = 2 := by rw [← Array.length_toList, e]; rfl
  exact ⟨[.int x, .int y], ⟨_, its, n, h, rfl, rfl, by omega, by rw [e]; exact .cons ⟨t, rfl⟩ (.cons ⟨u, rfl⟩ .nil)⟩, fun G => .cons (.int x) (.cons (.int y) .nil)⟩
theorem kt_rr {K : PySem.W.Frag} {a b c : Addr} {od : Option Addr} {its : Array Value} {n : Nat} {sl : Array (Option Value)} (h : K.lookup a = some ⟨.type "tuple", od, .seq its n, sl⟩) (e : its.toList = [.ref b, .ref c]) : KTup K a [.rf b, .rf c] := by
  have small : sizeLine = 16777216 := sizeLine_eq
  have l : its.size = 2 := by rw [← Array.length_toList, e]; rfl
  exact ⟨[.ref b, .ref c], ⟨_, its, n, h, rfl, rfl, by omega, by rw [e]; exact .cons rfl (.cons rfl .nil)⟩, fun G => .cons (.rf b) (.cons (.rf c) .nil)⟩
/-- a call by four keywords, the last parameter first -/
def g4r : List D → List D
  | [a, b, d, e] => [e, d, b, a]
  | _ => []
theorem e_callK4r {c : Cfg} {s : NS} {R : Vw → NS → Prop} {tk : TA} {K' : PySem.W.Frag} {φ : List D → (D → Prop) → Er → Prop} {E : XK} {X : Er} {gV : List V → List V → List V} (h0 : gV [] [] = []) (h1 : ∀ a, gV [] [a] = []) (h2 : ∀ a b, gV [] [a, b] = []) (h3 : ∀ a b d, gV [] [a, b, d] = []) (h4 : ∀ a b d e, gV [] [a, b, d, e] = [e, d, b, a]) (h5 : ∀ a b d e f vs, gV [] (a :: b :: d :: e :: f :: vs) = []) (hE : ErrIn c E X)
    (h : wA c tk s fun ds s1 => φ (g4r ds) (fun d => R (.d d) s1) X) (hK : K' = c.K := by rfl) : wE c (tCallK (spP K' φ) gV E tNil tk) s R := by
  refine e_callK (gD := g4r) (fun G vs ds r => ?_) hE h hK
  cases r with
  | nil => rw [h0]; exact .nil
  | cons a r =>
    cases r with
    | nil => rw [h1]; exact .nil
    | cons b r =>
      cases r with
      | nil => rw [h2]; exact .nil
      | cons d r =>
        cases r with
        | nil => rw [h3]; exact .nil
        | cons e r =>
          cases r with
          | nil => rw [h4]; exact .cons e (.cons d (.cons b (.cons a .nil)))
          | cons f r => rw [h5]; exact .nil
/-- a pair that is a key -/
def KPair (K : PySem.W.Frag) (a : Addr) (x y : Int) : Prop := ∀ (P : Program) (w : World) (h : Heap), K.In h → (tupleKind (mixKind P w)).is h [.inl x, .inl y] a
theorem kq_ii {K : PySem.W.Frag} {a : Addr} {od : Option Addr} {its : Array Value} {n : Nat} {sl : Array (Option Value)} {x y : Int} {t u : Tok} (h : K.lookup a = some ⟨.type "tuple", od, .seq its n, sl⟩) (e : its.toList = [.int x t, .int y u]) : KPair K a x y := by
  intro P w hp hK
  refine ⟨_, its, n, hK _ _ h, rfl, rfl, ?_⟩
  rw [e]
  exact .cons (keyIs_int x t) (.cons (keyIs_int y u) .nil)
def hash2 (x y : Int) : Int := reduceHash (Builtin.Tuple.tupleHashOf [hashInt x, hashInt y])
theorem cd4 {K : PySem.W.Frag} {a k0 k1 k2 k3 v0 v1 v2 v3 : Addr} {es : Array DictEntry} {ep : Nat} {n0 n1 n2 n3 x0 x1 x2 x3 y0 y1 y2 y3 : Int} (no : (a == sysModules) = false)
    (hl : K.lookup a = some ⟨.type "dict", none, .dict es ep, #[]⟩) (he : es.toList.map (fun e => (e.key, e.val)) = [(.ref k0, .ref v0), (.ref k1, .ref v1), (.ref k2, .ref v2), (.ref k3, .ref v3)]) (hh : es.toList.map (·.hash) = [n0, n1, n2, n3])
    (q0 : hash2 x0 y0 = n0) (q1 : hash2 x1 y1 = n1) (q2 : hash2 x2 y2 = n2) (q3 : hash2 x3 y3 = n3) (p0 : KPair K k0 x0 y0) (p1 : KPair K k1 x1 y1) (p2 : KPair K k2 x2 y2) (p3 : KPair K k3 x3 y3)
    (nd : [(x0, y0), (x1, y1), (x2, y2), (x3, y3)].Nodup) (P : Program) (w : World) :
    CDict P w K a [([.inl x0, .inl y0], k0, .ref v0), ([.inl x1, .inl y1], k1, .ref v1), ([.inl x2, .inl y2], k2, .ref v2), ([.inl x3, .inl y3], k3, .ref v3)] := by
  refine ⟨no, ⟨_, es, ep, hl, ⟨rfl, rfl, rfl⟩, rfl, ?_⟩, ?_, ?_⟩
  · subst q0 q1 q2 q3
    generalize es.toList = l at he hh
    match l with
    | [] => simp at he
    | [_] => simp at he
    | [_, _] => simp at he
    | [_, _, _] => simp at he
    | _ :: _ :: _ :: _ :: _ :: _ => simp at he
    | [e0, e1, e2, e3] =>
      obtain ⟨a0, b0, c0⟩ := e0
      obtain ⟨a1, b1, c1⟩ := e1
      obtain ⟨a2, b2, c2⟩ := e2
      obtain ⟨a3, b3, c3⟩ := e3
      simp only [List.map_cons, List.map_nil, List.cons.injEq, Prod.mk.injEq, and_true] at he hh
      obtain ⟨⟨rfl, rfl⟩, ⟨rfl, rfl⟩, ⟨rfl, rfl⟩, rfl, rfl⟩ := he
      obtain ⟨rfl, rfl, rfl, rfl⟩ := hh
      rfl
  · have : [(x0, y0), (x1, y1), (x2, y2), (x3, y3)].map (fun z : Int × Int => ([.inl z.1, .inl z.2] : List Key)) = [[.inl x0, .inl y0], [.inl x1, .inl y1], [.inl x2, .inl y2], [.inl x3, .inl y3]] := rfl
    show ([[.inl x0, .inl y0], [.inl x1, .inl y1], [.inl x2, .inl y2], [.inl x3, .inl y3]] : List (List Key)).Nodup
    rw [← this]
    refine List.Pairwise.map _ ?_ nd
    intro z u hn e
    simp only [List.cons.injEq, Sum.inl.injEq, and_true] at e
    exact hn (Prod.ext e.1 e.2)
  · intro h hK x hx
    simp only [List.mem_cons, List.not_mem_nil, or_false] at hx
    rcases hx with rfl | rfl | rfl | rfl
    · exact p0 P w h hK
    · exact p1 P w h hK
    · exact p2 P w h hK
    · exact p3 P w h hK
theorem fit_small {i : Int} (h : i.natAbs ≤ 100000) : Fit 18 (.int i) where
  sh := (fit_int (i := i) (by omega)).sh
  lv := (fit_int (i := i) (by omega)).lv
  wt := by
    have : i.natAbs.log2 ≤ 16 := by
      rcases Nat.eq_zero_or_pos i.natAbs with e | hp
      · rw [e]; decide
      · have h1 : i.natAbs < 2 ^ 17 := Nat.lt_of_le_of_lt h (by decide)
        have := (Nat.log2_lt (by omega)).mpr h1
        omega
    simp only [PyData.weight]
    split <;> omega
  dp := by simp [PyData.depth]
theorem fit_pr {z : Int × Int} (h1 : z.1.natAbs ≤ 100000) (h2 : z.2.natAbs ≤ 100000) : Fit 38 (pP z) ∧ (pP z).depth = 1 := by
  refine ⟨(fit_seq (n := 18) (ds := [.int z.1, .int z.2]) 2 (by simp) fun d hd => ?_).2, by simp [pP, PyData.depth, PyData.depthAll]⟩
  simp only [List.mem_cons, List.not_mem_nil, or_false] at hd
  rcases hd with rfl | rfl
  · exact ⟨fit_small h1, by simp [PyData.depth]⟩
  · exact ⟨fit_small h2, by simp [PyData.depth]⟩
end Kn
/-! Kg12: {k: v}, k a tuple of ints and texts. -/
namespace Kg
open PySem PySem.Spec PyProof.Rows L2
/-- the reading: the new dict stands empty while key and value are made -/
def tDisp1 (tk tv : TE) : TE := fun σ H Q => ∀ p, H p = none → tk σ (upd H p (.dT [])) fun x H1 => tv σ H1 fun y H2 => ∃ (b : Addr) (k : List L2.Key), x = .ref b ∧ H2 p = some (.dT []) ∧ H2 b = some (.tup (k.map kV)) ∧ Q (.ref p) (upd H2 p (.dT [(k, y)]))
theorem pe_disp1T {X : Cx} {ek ev : Expr} {pos : Pos} {tk tv : TE} (hu : X.A.units + 1 < cLine) (hk : PE X ek tk) (hv : PE X ev tv) : PE X (.Dict [some ek] [ev] pos) (tDisp1 tk tv) := by
  constructor
  intro pins s σ H Q I q
  let d := s.heap.objs.size
  have hn : H d = none := I.hok.fresh (Nat.le_refl _)
  have I1 := I.laid (a := d) (o := .dT []) (h' := s.heap.push { cls := .type "dict", data := .dict #[] }) (t' := s.toks) (fun _ _ q => Heap.get?_push_of_some _ q) (Nat.le_refl _) (dt_empty s.heap I.big)
  rw [arm_eval_Dict, zip_pairTrees [some ek] [ev] X.env pos rfl rfl, dictDisplay_pairs (pairTrees [some ek] [ev] X.env pos) (by intro z; cases z) (show 1 < 17 by decide)]
  refine wpAny_bind (wpAny_standAt (wpAny_bind (wpAny_subDictH (knd := tupleKind (mixKind X.prog X.w)) (Nat.lt_of_le_of_lt (Nat.le_succ _) hu) (show 1 ≤ 15 by decide) ?_)))
  refine pairTrees_cons_walk ?_
  refine thn (hk.run pins _ σ _ _ I1 (q _ hn)) ?_
  rintro kv s1 ⟨x, H1, J1, r1, q1⟩
  refine thn (hv.run pins _ σ _ _ J1 q1) ?_
  rintro vv s2 ⟨y, H2, J2, r2, b, k, rfl, hp, hb, q2⟩
  cases (show kv = Value.ref b from r1)
  refine pairTrees_nil_walk ?_
  obtain ⟨_, sys, xs, rel, dd⟩ := dt_of J2.hok hp
  cases rel
  refine ⟨[(k, b, vv)], ⟨rfl, rfl, key_of J2.hok hb, trivial⟩, dd, ?_⟩
  rintro h' tk ⟨o, es, ep, ho, c1, c2, c3, c4, c5⟩ hs
  refine wpAny_pure ⟨.ref d, _, ?_, rfl, q2⟩
  refine J2.write (t' := tk) (x := d) (e := d) (o := .dT [(k, y)]) (by rw [hp]; exact True.intro) (.inl rfl) (fun c u n e => (hs.2 c n).trans e) ⟨o, ho⟩ ?_
  refine ⟨show 1 ≤ sizeLine by rw [sizeLine_eq]; decide, sys, [(k, b, vv)], .cons ⟨rfl, ?_, r2⟩ .nil, o, es, ep, ho, c1, c2, c3, c5⟩
  rw [upd_ne (ne_of hb hp (fun z => nomatch z))]
  exact hb
end Kg
/-! Kg20: a dict with tuples as keys != {}. -/
namespace Kg
open PySem PySem.Calls PyProof.Rows PyProof.V PySem.Spec PySem.W L2
section
variable {X : Cx}
/-- y: an empty dict -/
def rNeDT0 : R2 := fun x y H Q => ∃ a b ks, x = .ref a ∧ y = .ref b ∧ H a = some (.dT ks) ∧ H b = some (.dT []) ∧ Q (.bl (decide (ks.length ≠ 0))) H
theorem op_neDT0 (hu : X.A.units < cLine) : OpR X (compareOp .NotEq) rNeDT0 := by
  intro pins s σ H x y v u Q I rx ry h
  obtain ⟨a, b, ks, rfl, rfl, ea, eb, q⟩ := h
  obtain rfl : v = Value.ref a := rx
  obtain rfl : u = Value.ref b := ry
  obtain ⟨_, ya, va, ra, da⟩ := dt_of I.hok ea
  obtain ⟨_, yb, vb, rb, db⟩ := dt_of I.hok eb
  cases rb
  by_cases z : ks.length = 0
  · have : ks = [] := List.length_eq_zero_iff.mp z
    subst this
    cases ra
    have emp : ∀ {p : Addr}, s.heap.DictOfH (tupleKind (mixKind X.prog X.w)) p ([] : List (List L2.Key × Addr × Value)) → s.heap.DictOf (mixKind X.prog X.w) p [] := by
      rintro p ⟨o, es, ep, h1, h2, h3, h4, _, _⟩
      refine ⟨o, es, ep, h1, h2, h3, ?_, ?_, List.nodup_nil⟩
      · obtain ⟨l⟩ := es
        cases h4
        intro e he
        simp at he
      · rw [h4]; exact .nil
    exact PySem.W.keq_ne (knd := mixKind X.prog X.w) (r := true) ya yb (emp da) (emp db) hu (fun _ => .nil) (fin_bl I q (by simp))
  · obtain ⟨oa, es, ep, hoa, ca, hda, hea, _, _⟩ := da
    obtain ⟨ob, es', ep', hob, cb, hdb, heb, _, _⟩ := db
    have hla : es.size = va.length := by rw [← Array.length_toList, hea, List.length_map]
    have hlb : es'.size = 0 := by rw [← Array.length_toList, heb]; rfl
    have hlk : ks.length = va.length := ra.length
    have hsz : es.size ≠ es'.size := by omega
    have ta : s.TypeIs (.ref a) "dict" := ⟨oa, hoa, ca.1⟩
    have tb : s.TypeIs (.ref b) "dict" := ⟨ob, hob, cb.1⟩
    refine wpAny_richCompare_same_room (op := .NotEq) ta tb PySem.F.slot_dict_ne (wpAny_call_entry PySem.F.slot_dict_ne ta PySem.F.entry_dict_ne ?_ (PySem.F.args_dict_ne_2 _ _)) hu
    show wpAny _ _ (Builtin.Dict.dictSlotArgs "__ne__" ⟨[.ref a, .ref b], []⟩ >>= _) _ _ s
    refine wpAny_bind ?_
    unfold Builtin.Dict.dictSlotArgs
    refine wpAny_bind (wpAny_notOrdered_dict ta ?_)
    show wpAny _ _ (pure (Value.ref a, Value.ref b)) _ _ s
    refine wpAny_pure ?_
    refine wpAny_bind (wpAny_isInstance (T := "dict") tb PySem.F.sub_dict_dict ?_)
    simp only [Bool.not_true, Bool.false_eq_true, if_false]
    refine wpAny_bind (wpAny_pure (wpAny_bind (wpAny_pure ?_)))
    refine wpAny_bind ?_
    unfold Builtin.Dict.samePairs Builtin.Dict.showsAll
    rw [if_neg (show ¬ (a == sysModules) = true by rw [ya]; exact Bool.false_ne_true), if_neg (show ¬ (b == sysModules) = true by rw [yb]; exact Bool.false_ne_true)]
    refine wpAny_bind (wpAny_pure (wpAny_bind (wpAny_pure ?_)))
    refine wpAny_bind (wpAny_dictEntries hoa hda ?_)
    dsimp only
    refine wpAny_bind (wpAny_dictEntries hob hdb ?_)
    rw [if_pos (by simpa using hsz)]
    refine wpAny_bind (wpAny_rule (wpAny_pure ?_))
    refine wpAny_pure ⟨_, rfl, ?_⟩
    refine ⟨?_, ?_⟩
    · exact fun x => nomatch x
    · exact fin_bl I q (by simp [z])
end
end Kg
/-! Kn14: an own list lent to a call with the urn; any slice of a tuple. -/
namespace Kn
open PySem PySem.Spec PyProof.Rows L2 Kg
open Evl (Ex)
/-- names as arguments -/
def tVars : List Nat → TA
  | [] => tNil
  | i :: is => tCons (tVar i) (tVars is)
inductive VarsAt (σ : L2.St) : List Nat → List V → Prop
  | nil : VarsAt σ [] []
  | cons {i : Nat} {v : V} {is : List Nat} {vs : List V} : σ[i]? = some (some v) → VarsAt σ is vs → VarsAt σ (i :: is) (v :: vs)
theorem tVars_run {σ : L2.St} {H : Hp} {Q : List V → Hp → Prop} : ∀ {is : List Nat} {vs : List V}, VarsAt σ is vs → Q vs H → tVars is σ H Q
  | [], _, .nil, h => h
  | i :: is, _, .cons (v := v) h t, q => ⟨v, h, tVars_run (Q := fun vs H => Q (v :: vs) H) t q⟩
theorem tVars_imp {σ : L2.St} {H : Hp} : ∀ {is : List Nat} {Q Q' : List V → Hp → Prop}, (∀ vs H', H' = H → Q vs H' → Q' vs H') → tVars is σ H Q → tVars is σ H Q'
  | [], _, _, i, h => i _ _ rfl h
  | _ :: is, _, _, i, ⟨v, h, t⟩ => ⟨v, h, tVars_imp (is := is) (fun vs H' e q => i (v :: vs) H' e q) t⟩
/-- the frame's own list i is handed to a call with the urn in front, which tells a bool -/
theorem e_lendU_0 {c : Cfg} {s : NS} {R : Vw → NS → Prop} {φ : Nat → List D → (Nat → D → Prop) → Prop} {E : XK} {u : Nat} {tr : TA} (i : Nat) (ds : List D) (is : List (Nat × D)) (hu : s.γ[u]? = some .ur) (hi : s.γ[i]? = some (.own ds)) (ne : ∀ ns : List Int, ds ≠ ns.map D.int)
    (htr : tr = tVars (is.map (·.1))) (hv : ∀ p ∈ is, (unown s i ds).γ[p.1]? = some (.d p.2)) (h : φ s.b (is.map (·.2)) fun b' d => ∃ z, d = .bl z ∧ R (.d (.bl z)) { s with b := b' }) :
    wE c (tCall (spU c.K φ) [] E (tCons (tVar u) tr)) s R := fun σ G H Q t k => by
  subst htr
  obtain ⟨hcu, hj⟩ := t.sl u _ hu
  obtain ⟨a, xs, h2, f0, g0, hx, rx⟩ := t.slL hi
  obtain ⟨t2, k2⟩ := t.unown hi h2 f0 g0 hx rx
  have aj : a ≠ c.j := fun e => by subst e; exact (t.notU f0) ⟨hcu, rfl⟩
  obtain ⟨vs, hvs, rvs⟩ : ∃ vs, VarsAt σ (is.map (·.1)) vs ∧ RpAll c.K (upd G a (.lst xs)) vs (is.map (·.2)) := by
    clear h
    induction is with
    | nil => exact ⟨[], .nil, .nil⟩
    | cons p is ih =>
      obtain ⟨vs, q1, q2⟩ := ih fun p hp => hv p (List.mem_cons_of_mem _ hp)
      obtain ⟨v, e, r⟩ := t2.sl p.1 _ (hv p List.mem_cons_self)
      exact ⟨v :: vs, .cons e q1, .cons r q2⟩
  refine ⟨.ref c.j, hj, tVars_run hvs ?_⟩
  refine ⟨upd G a (.lst xs), c.j, s.b, vs, is.map (·.2), _, by rw [List.append_nil], t2.gh, t2.gt, t2.gj _ ⟨hcu, rfl⟩, t2.ur hcu, rvs, h, fun v d b' G' H' ⟨z, e, q⟩ hh eg gh gt nw un rp => ?_⟩
  subst e
  cases rp
  let G3 : Hp := fun x => if x = a then none else G' x
  have g3 : ∀ x o, G3 x = some o → x ≠ a ∧ G' x = some o := fun x o e => by
    by_cases z : x = a
    · rw [show G3 x = none from if_pos z] at e; cases e
    · exact ⟨z, (if_neg z : G3 x = G' x).symm.trans e⟩
  have g3' : ∀ x, x ≠ a → G3 x = G' x := fun x z => if_neg z
  have ga : G' a = some (.lst xs) := eg _ _ upd_same
  have u3 : UrnAt c.K c.j b' G3 H' := by
    obtain ⟨cc, ns, at', rest, q1, q2, q3⟩ := un
    refine ⟨cc, ns, at', rest, q1, ?_, q3⟩
    have allI : ∀ {ns : List Int} {ds : List D}, RpAll c.K G (ns.map V.int) ds → ds = ns.map D.int := by
      intro ns
      induction ns with
      | nil => intro ds r; cases r; rfl
      | cons n ns ih =>
        intro ds r
        cases r with
        | cons r1 r2 =>
          cases r1
          rw [ih r2]; rfl
    rcases q2 with (q2 | ⟨o, q2⟩) | q2
    · have nc : cc ≠ a := by
        rintro rfl
        rw [ga] at q2
        cases q2
        exact ne ns (allI rx)
      exact .inl (.inl ((g3' cc nc).trans q2))
    · have nc : cc ≠ a := by
        rintro rfl
        rw [ga] at q2
        cases q2
      exact .inl (.inr ⟨o, (g3' cc nc).trans q2⟩)
    · exact .inr q2
  obtain ⟨t3, k3⟩ := t.drew (b' := b') hcu hh (fun x o e => by
      have n : x ≠ a := by rintro rfl; rw [g0] at e; cases e
      rw [g3' x n]
      exact eg x o ((upd_ne n).trans e)) (fun x o e => gh x o (g3 x o e).2) (fun x o e => gt x o (g3 x o e).2) (fun x hx' => by
      cases q : G3 x with
      | none => exact absurd q hx'
      | some o =>
        obtain ⟨n, e⟩ := g3 x o q
        rcases nw x (by rw [e]; exact fun z => nomatch z) with w | w
        · rw [upd_ne n] at w; exact .inl w
        · exact .inr w) u3
  exact k _ (.d (.bl z)) _ _ H' q t3 k3 (Rp.bl z)
theorem e_lendU {c : Cfg} {s : NS} {R : Vw → NS → Prop} {K' : PySem.W.Frag} {φ : Nat → List D → (Nat → D → Prop) → Prop} {E : XK} {u : Nat} {tr : TA} (i : Nat) (ds : List D) (is : List (Nat × D)) (hu : s.γ[u]? = some .ur) (hi : s.γ[i]? = some (.own ds)) (ne : ∀ ns : List Int, ds ≠ ns.map D.int)
    (htr : tr = tVars (is.map (·.1))) (hv : ∀ p ∈ is, (unown s i ds).γ[p.1]? = some (.d p.2)) (h : φ s.b (is.map (·.2)) fun b' d => ∃ z, d = .bl z ∧ R (.d (.bl z)) { s with b := b' }) (hK : K' = c.K := by rfl) :
    wE c (tCall (spU K' φ) [] E (tCons (tVar u) tr)) s R := by
  subst hK
  exact e_lendU_0 i ds is hu hi ne htr hv h
theorem e_lendR {c : Cfg} {s : NS} {R : Vw → NS → Prop} {K' : PySem.W.Frag} {φ : Nat → List D → (Nat → D → Prop) → Prop} {E : XK} {u : Nat} {tr : TA} (ok : ReprOk c) (nj : sysModules ≠ c.j) (i : Nat) (ds : List D) (is : List (Nat × D)) (hu : s.γ[u]? = some .ur) (hi : s.γ[i]? = some (.own ds)) (ne : ∀ ns : List Int, ds ≠ ns.map D.int)
    (htr : tr = tVars (is.map (·.1))) (hv : ∀ p ∈ is, (unown s i ds).γ[p.1]? = some (.d p.2)) (h : φ s.b (is.map (·.2)) fun b' d => ∃ z, d = .bl z ∧ R (.d (.bl z)) { s with b := b' }) (hK : K' = c.K := by rfl) :
    wE c (tCall (spR K' φ) [] E (tCons (tVar u) tr)) s R := by
  subst hK
  intro σ G H Q t k
  obtain ⟨v, hv1, h1⟩ := e_lendU_0 (E := E) i ds is hu hi ne htr hv h σ G H Q t k
  obtain ⟨hcu, hj⟩ := t.sl u _ hu
  refine ⟨v, hv1, ?_⟩
  rw [hj] at hv1
  cases hv1
  subst htr
  refine tVars_imp ?_ h1
  intro vs H1 hH h2
  subst hH
  refine ⟨ok.1, ok.2 _ _ _ _ t, fun j us e => ?_, h2⟩
  rw [List.append_nil] at e
  cases e
  exact nj
/-- any slice of a tuple -/
theorem cut_tupA {c : Cfg} {s : NS} {σ : L2.St} {G H : Hp} {v : V} {ds : List D} {lo hi : Option Int} (t : At c s σ G H) (r : Rp c.K G v (.tup ds)) {Q : VK}
    (k : ∀ v' G' H', At c s σ G' H' → Kp c s σ G H s G' H' → Rp c.K G' v' (.tup (cutD ds lo hi)) → Q v' H') : rSlA c.K v lo hi H Q := by
  cases r with
  | @tup a xs _ h1 h2 =>
    refine ⟨a, xs, rfl, SqT.of (t.gh _ _ h1), fun w => ?_, fun w q hq => ?_⟩
    · refine k _ G H t .refl (.tup h1 ?_)
      have e : cutV xs lo hi = xs := by
        unfold cutV
        rw [w.1, w.2]
        simp
      have := cut_rp h2 lo hi
      rwa [e] at this
    · obtain ⟨t3, k3⟩ := t.lay (o := .tup (cutV xs lo hi)) hq (fun _ z => nomatch z)
      exact k _ _ _ t3 k3 (.tup upd_same ((cut_rp h2 lo hi).mono k3.g))
theorem e_slFromA {c : Cfg} {s : NS} {R : Vw → NS → Prop} {te tl : TE} {K' : PySem.W.Frag} (h : wE c te s fun w s1 => wE c tl s1 fun u s2 => ∃ ds n, w = .d (.tup ds) ∧ u = .d (.int n) ∧ R (.d (.tup (cutD ds (some n) none))) s2) (hK : K' = c.K := by rfl) : wE c (tSl (rSlA K') te (tPart tl) tNoPart) s R := by
  subst hK
  intro σ G H Q t k
  refine h σ G H _ t fun v w s1 G1 H1 p1 t1 k1 r1 => p1 σ G1 H1 _ t1 fun x u s2 G2 H2 ⟨ds, n, e1, e2, p⟩ t2 k2 r2 => ?_
  subst e1 e2
  refine ⟨n, int_at r2, ?_⟩
  exact cut_tupA t2 (Rp.mono k2.g (show Rp c.K G1 v _ from r1)) fun v' G' H' t3 k3 r3 => k v' (.d (.tup _)) s2 G' H' p t3 (k1.trans (k2.trans k3)) r3
theorem e_slToA {c : Cfg} {s : NS} {R : Vw → NS → Prop} {te th : TE} {K' : PySem.W.Frag} (h : wE c te s fun w s1 => wE c th s1 fun u s2 => ∃ ds n, w = .d (.tup ds) ∧ u = .d (.int n) ∧ R (.d (.tup (cutD ds none (some n)))) s2) (hK : K' = c.K := by rfl) : wE c (tSl (rSlA K') te tNoPart (tPart th)) s R := by
  subst hK
  intro σ G H Q t k
  refine h σ G H _ t fun v w s1 G1 H1 p1 t1 k1 r1 => p1 σ G1 H1 _ t1 fun x u s2 G2 H2 ⟨ds, n, e1, e2, p⟩ t2 k2 r2 => ?_
  subst e1 e2
  refine ⟨n, int_at r2, ?_⟩
  exact cut_tupA t2 (Rp.mono k2.g (show Rp c.K G1 v _ from r1)) fun v' G' H' t3 k3 r3 => k v' (.d (.tup _)) s2 G' H' p t3 (k1.trans (k2.trans k3)) r3
end Kn
/-! Kn15: dicts of the frame's own, with tuples as keys: made, set, asked, walked, listed, handed on. -/
namespace Kn
open PySem PySem.Spec PyProof.Rows L2 Kg
open Evl (Ex)
section
variable {c : Cfg} {s s1 s2 : NS} {σ : L2.St} {G H Hs : Hp} {v : V} {R : Vw → NS → Prop} {ta tb td ty tv te : TE} {N : Pst} {K' : PySem.W.Frag}
/-- a key as data -/
def kDs (k : List Key) : List D := k.map fun
  | .inl i => .int i
  | .inr x => .str x
theorem kDs_rp {K : PySem.W.Frag} {G : Hp} : ∀ k : List Key, RpAll K G (k.map kV) (kDs k)
  | [] => .nil
  | .inl i :: k => .cons (.int i) (kDs_rp k)
  | .inr x :: k => .cons (.str x) (kDs_rp k)
/-- a key's tuple may be shown at any time -/
theorem At.key (t : At c s σ G H) {q : Addr} {k : List Key} (h : H q = some (.tup (k.map kV))) : ∃ G', At c s σ G' H ∧ Kp c s σ G H s G' H ∧ Rp c.K G' (.ref q) (.tup (kDs k)) := by
  cases e : G q with
  | some o =>
    have := t.gh q o e
    rw [h] at this
    cases this
    exact ⟨G, t, .refl, .tup e (kDs_rp k)⟩
  | none =>
    have eg : Ex G (upd G q (.tup (k.map kV))) := Evl.Ex.new e
    obtain ⟨t2, k2⟩ := t.grow (H' := H) eg (fun _ _ z => z) (fun a o z => by
      by_cases n : a = q
      · subst n; rw [upd_same] at z; cases z; exact h
      · rw [upd_ne n] at z; exact t.gh a o z) (fun a o z => by
      by_cases n : a = q
      · subst n; rw [upd_same] at z; cases z; exact fun _ z => nomatch z
      · rw [upd_ne n] at z; exact t.gt a o z) (fun a z => by
      by_cases n : a = q
      · subst n; exact .inr (.inr ⟨_, h⟩)
      · rw [upd_ne n] at z; exact .inl z)
    exact ⟨_, t2, k2, .tup upd_same (kDs_rp k)⟩
theorem At.keys : ∀ {kvs : List (List Key × V)} {bs : List Addr} {G : Hp}, At c s σ G H → IsKeys H kvs bs → ∃ G', At c s σ G' H ∧ Kp c s σ G H s G' H ∧ RpAll c.K G' (bs.map V.ref) (kvs.map fun kv => D.tup (kDs kv.1))
  | [], _, G, t, .nil => ⟨G, t, .refl, .nil⟩
  | kv :: kvs, b :: bs, G, t, .cons h r => by
    obtain ⟨G1, t1, k1, r1⟩ := t.key h
    obtain ⟨G2, t2, k2, r2⟩ := At.keys t1 r
    exact ⟨G2, t2, k1.trans k2, .cons (r1.mono k2.g) r2⟩
/-! ### setting -/
def putD (kvs : List (List Key × D)) (k : List Key) (d : D) : List (List Key × D) := if hasK kvs k = true then kvs.map (fun kv => if kv.1 = k then (kv.1, d) else kv) else kvs ++ [(k, d)]
theorem put_rp {K : PySem.W.Frag} {G : Hp} {v : V} {d : D} (r : Rp K G v d) {k : List Key} {kvs : List (List Key × V)} {ds : List D} (h : RpAll K G (kvs.map (·.2)) ds) :
    ∃ es, putD ((kvs.map (·.1)).zip ds) k d = ((putK kvs k v).map (·.1)).zip es ∧ RpAll K G ((putK kvs k v).map (·.2)) es := by
  have l : (kvs.map (·.1)).length = ds.length := by rw [List.length_map, ← h.len, List.length_map]
  have ek : (List.map Prod.fst ((kvs.map (·.1)).zip ds)) = kvs.map (·.1) := by rw [List.map_fst_zip (by omega)]
  have e1 : hasK ((kvs.map (·.1)).zip ds) k = hasK kvs k := hasK_keys ek
  unfold putD putK
  rw [e1]
  by_cases c : hasK kvs k = true
  · have c' : (kvs.any fun kv => decide (kv.fst = k)) = true := c
    rw [if_pos c, if_pos c']
    clear e1 c c' ek l
    induction kvs generalizing ds with
    | nil => cases h; exact ⟨[], rfl, .nil⟩
    | cons p kvs ih =>
      cases h with
      | @cons _ _ d0 ds0 r1 r2 =>
        obtain ⟨es, q1, q2⟩ := ih r2
        by_cases e : p.1 = k
        · refine ⟨d :: es, ?_, ?_⟩
          · simp only [List.map_cons, List.zip_cons_cons, e, if_true]
            rw [q1]
          · simp only [List.map_cons, e, if_true]
            exact .cons r q2
        · refine ⟨d0 :: es, ?_, ?_⟩
          · simp only [List.map_cons, List.zip_cons_cons, e, if_false]
            rw [q1]
          · simp only [List.map_cons, e, if_false]
            exact .cons r1 q2
  · have c' : ¬ (kvs.any fun kv => decide (kv.fst = k)) = true := c
    rw [if_neg c, if_neg c']
    refine ⟨ds ++ [d], ?_, ?_⟩
    · rw [List.map_append, List.zip_append l]
      rfl
    · rw [List.map_append]
      exact h.app (.cons r .nil)
theorem own_t (t : At c s σ G H) {i : Nat} {kvs : List (List Key × D)} (hi : s.γ[i]? = some (.ow (.t kvs))) : ∃ (a : Addr) (ks : List (List Key × V)) (ds : List D), σ[i]? = some (some (.ref a)) ∧ Fr c c.H0 a ∧ G a = none ∧ H a = some (.dT ks) ∧ RpAll c.K G (ks.map (·.2)) ds ∧ kvs = (ks.map (·.1)).zip ds := by
  obtain ⟨a, u, h1, h2, h3, h4, h5⟩ := t.sl i _ hi
  generalize e : W.t kvs = w at h5
  cases h5 with
  | @t ks ds r => cases e; exact ⟨a, ks, ds, h1, h2, h3, h4, r, rfl⟩
  | _ => cases e
theorem own_addr (t : At c s σ G H) {i : Nat} {w : W} (hi : s.γ[i]? = some (.ow w)) : ∃ a, σ[i]? = some (some (.ref a)) := by
  obtain ⟨a, u, h1, _⟩ := t.sl i _ hi
  exact ⟨a, h1⟩
/-- d[y] = v, d the frame's own -/
theorem s_dput {i : Nat} (h : wD c tv s fun dv s1 => ∃ w0, s1.γ[i]? = some (.ow w0) ∧ wD c ty s1 fun dk s2 => ∃ kvs kd k, s2.γ[i]? = some (.ow (.t kvs)) ∧ dk = .tup kd ∧ KsD kd k ∧ kvs.length < sizeLine ∧ N.nx (s2.set i (.ow (.t (putD kvs k dv))))) : wS c (sDPut (tVar i) ty tv) s N := fun σ G H Z t k1 k2 k3 k4 =>
  h σ G H _ t fun v dv s1 G1 H1 ⟨w0, h0, p⟩ t1 q1 r1 => by
    obtain ⟨a, ha⟩ := own_addr t1 h0
    refine ⟨.ref a, ha, p σ G1 H1 _ t1 fun y dk s2 G2 H2 ⟨kvs, kd, k, hi, e, hk, hl, p2⟩ t2 q2 r2 => ?_⟩
    subst e
    obtain ⟨a', ks, ds, g1, g2, g3, g4, g5, g6⟩ := own_t t2 hi
    rw [ha] at g1
    cases g1
    cases r2 with
    | tup h1 h2 =>
      rw [hk.vs h2] at h1
      have ll : ks.length = kvs.length := by
        rw [g6, List.length_zip, List.length_map, ← g5.len, List.length_map]
        omega
      obtain ⟨es, e1, e2⟩ := put_rp (k := k) (r1.mono q2.g) g5
      obtain ⟨t3, q3⟩ := t2.chgW (es := .t (putD kvs k dv)) (ys := .dT (putK ks k v)) hi ha (by rw [g6, e1]; exact .t e2)
      exact ⟨a, _, rfl, DPut.t g4 (t2.gh _ _ h1) (by omega), k1 _ σ _ _ p2 t3 ((q1.trans q2).trans q3).g⟩
/-! ### asking -/
theorem e_inDTo (h : wE c ta s fun w s1 => wE c tb s1 fun u s2 => ∃ kd k i acc, w = .d (.tup kd) ∧ u = .s i ∧ s2.γ[i]? = some (.ow (.t acc)) ∧ KsD kd k ∧ R (.d (.bl (hasK acc k))) s2) : wE c (tOp rInDT ta tb) s R :=
  e_op h fun σ G H Hs v x w u s2 Q t r1 r2 ⟨kd, k, i, acc, e1, e2, hi, hk, p⟩ kk => by
    subst e1 e2
    cases (show Rp c.K G v (.tup kd) from r1) with
    | tup h1 h2 =>
      rw [hk.vs h2] at h1
      obtain ⟨a, ks, ds, g1, g2, g3, g4, g5, g6⟩ := own_t t hi
      have hs : σ[i]? = some (some x) := r2
      rw [hs] at g1
      cases g1
      have ek : (List.map Prod.fst ((ks.map (·.1)).zip ds)) = ks.map (·.1) := by rw [List.map_fst_zip]; rw [List.length_map, ← g5.len, List.length_map]; exact Nat.le_refl _
      rw [g6, hasK_keys ek] at p
      refine ⟨_, _, k, ks, rfl, rfl, g4, t.gh _ _ h1, ?_⟩
      rw [valV_has]
      exact kk _ (.d (.bl _)) s2 G H p t .refl (Rp.bl _)
theorem e_notInDTo (h : wE c ta s fun w s1 => wE c tb s1 fun u s2 => ∃ kd k i acc, w = .d (.tup kd) ∧ u = .s i ∧ s2.γ[i]? = some (.ow (.t acc)) ∧ KsD kd k ∧ R (.d (.bl (!hasK acc k))) s2) : wE c (tOp rNotInDT ta tb) s R :=
  e_op h fun σ G H Hs v x w u s2 Q t r1 r2 ⟨kd, k, i, acc, e1, e2, hi, hk, p⟩ kk => by
    subst e1 e2
    cases (show Rp c.K G v (.tup kd) from r1) with
    | tup h1 h2 =>
      rw [hk.vs h2] at h1
      obtain ⟨a, ks, ds, g1, g2, g3, g4, g5, g6⟩ := own_t t hi
      have hs : σ[i]? = some (some x) := r2
      rw [hs] at g1
      cases g1
      have ek : (List.map Prod.fst ((ks.map (·.1)).zip ds)) = ks.map (·.1) := by rw [List.map_fst_zip]; rw [List.length_map, ← g5.len, List.length_map]; exact Nat.le_refl _
      rw [g6, hasK_keys ek] at p
      refine ⟨_, _, k, ks, rfl, rfl, g4, t.gh _ _ h1, ?_⟩
      rw [valV_has]
      exact kk _ (.d (.bl _)) s2 G H p t .refl (Rp.bl _)
/-! ### making -/
theorem e_dnewTo (h : R (.fr (.t [])) s) : wE c tDNewT s R := fun σ G H Q t k p hp => by
  obtain ⟨t2, k2⟩ := t.put (o := .dT []) hp
  exact k _ (.fr (.t [])) s G _ h t2 k2 ⟨p, .dT [], rfl, .none hp, t.fresh0 (.none hp), t.freshG (.none hp), t.noOwn (.none hp), upd_same, .t (kvs := []) (ds := []) .nil⟩
/-- {k: v} -/
theorem e_disp1o (h : wD c ta s fun dk s1 => wD c tb s1 fun dv s2 => ∃ kd k, dk = .tup kd ∧ KsD kd k ∧ R (.fr (.t [(k, dv)])) s2) : wE c (tDisp1 ta tb) s R := fun σ G H Q t kk p hp => by
  obtain ⟨t1, k1⟩ := t.put (o := .dT []) hp
  have f0 := t.fresh0 (.none hp)
  have nu := t.notU f0
  have no : ∀ i, ¬ Own s σ i p := t.noOwn (.none hp)
  have ntd : c.nt (.dT []) := .inr fun _ z => nomatch z
  refine h σ G _ _ t1 fun x dk s1 G1 H1 p1 t2 k2 r1 => p1 σ G1 H1 _ t2 fun y dv s2 G2 H2 ⟨kd, k, e, hk, p2⟩ t3 k3 r2 => ?_
  subst e
  obtain ⟨g1, h1⟩ := k2.thing' ntd nu no (t.freshG (.none hp)) upd_same
  have no1 : ∀ i, ¬ Own s1 σ i p := fun i o => no i (k2.o i p o)
  obtain ⟨g2, h2⟩ := k3.thing' ntd nu no1 g1 h1
  have no2 : ∀ i, ¬ Own s2 σ i p := fun i o => no1 i (k3.o i p o)
  cases r1 with
  | tup a1 a2 =>
    rw [hk.vs a2] at a1
    refine ⟨_, k, rfl, h2, t3.gh _ _ (k3.g _ _ a1), ?_⟩
    have t4 := t3.mut (o := .dT [(k, y)]) f0 no2 g2 (fun o q kk => by rw [h2] at q; cases q; rcases kk with ⟨_, kk⟩ | ⟨_, kk⟩ <;> cases kk)
    have k4 := k1.trans (k2.trans k3)
    refine kk _ (.fr (.t [(k, dv)])) s2 G2 _ p2 t4 ⟨k4.g, fun a o h w u n => (upd_ne (by rintro rfl; rw [hp] at h; cases h)).trans (k4.h a o h w u n), k4.n, k4.o, fun a f => ?_, fun a xs h => k4.t a xs ((upd_ne (by rintro rfl; rw [upd_same] at h; cases h)).symm.trans h)⟩ ⟨p, .dT [(k, y)], rfl, .none hp, f0, g2, no2, upd_same, .t (kvs := [(k, y)]) (ds := [dv]) (.cons r2 .nil)⟩
    by_cases e : a = p
    · subst e; exact (f.no upd_same (.inr fun _ z => nomatch z)).elim
    · exact k4.m a fun o q n => f.no (o := o) (by rw [upd_ne e]; exact q) n
/-- d != {} -/
theorem e_neDT0 (h : wE c ta s fun w s1 => wE c tb s1 fun u s2 => ∃ kvs, w = .d (.dT kvs) ∧ u = .fr (.t []) ∧ R (.d (.bl (decide (kvs.length ≠ 0)))) s2) : wE c (tOp rNeDT0 ta tb) s R :=
  e_op h fun σ G H Hs v x w u s2 Q t r1 r2 ⟨kvs, e1, e2, p⟩ kk => by
    subst e1 e2
    generalize e : D.dT kvs = d at r1
    cases (show Rp c.K G v d from r1) with
    | @dT a ks ds h3 h4 =>
      cases e
      obtain ⟨b, u, rfl, _, _, _, _, q1, q2⟩ := r2
      generalize e : W.t [] = w at q2
      cases q2 with
      | @t ls es q2 =>
        cases e' : ls with
        | cons p q => subst e'; cases q2; cases e
        | nil =>
          subst e'
          have lk : ((ks.map (·.1)).zip ds).length = ks.length := by rw [List.length_zip, List.length_map, ← h4.len, List.length_map]; omega
          rw [lk] at p
          exact ⟨_, _, ks, rfl, rfl, t.gh _ _ h3, q1, kk _ (.d (.bl _)) s2 G H p t .refl (Rp.bl _)⟩
      | _ => cases e
    | _ => cases e
/-! ### handing on: a = b, b not needed any more -/
theorem s_move {i k : Nat} (h : ∃ w, s.γ[k]? = some (.ow w) ∧ i ≠ k ∧ i < s.γ.length ∧ N.nx ((s.set k .no).set i (.ow w))) : wS c (tAsg (tVar k) (gName i)) s N := fun σ G H Z t k1 k2 k3 k4 => by
  obtain ⟨w, hk, ne, li, p⟩ := h
  obtain ⟨a, u, h1, h2, h3, h4, h5⟩ := t.sl k _ hk
  refine ⟨.ref a, h1, k1 _ (σ.set i (some (.ref a))) G H p ?_ fun _ _ z => z⟩
  have own : ∀ j b, Own ((s.set k .no).set i (.ow w)) (σ.set i (some (.ref a))) j b → (j = i ∧ b = a) ∨ (j ≠ i ∧ j ≠ k ∧ Own s σ j b) := by
    rintro j b ⟨⟨w', q1⟩, q2⟩
    by_cases e : j = i
    · subst e
      rw [List.getElem?_set_self (by rw [t.len]; exact li)] at q2
      cases q2
      exact .inl ⟨rfl, rfl⟩
    · have q1' : ((s.γ.set k .no).set i (.ow w))[j]? = some (.ow w') := q1
      rw [List.getElem?_set_ne (Ne.symm e)] at q1' q2
      by_cases e2 : j = k
      · subst e2
        rw [List.getElem?_set_self (List.getElem?_eq_some_iff.mp hk).1] at q1'
        cases q1'
      · rw [List.getElem?_set_ne (Ne.symm e2)] at q1'
        exact .inr ⟨e, e2, ⟨w', q1'⟩, q2⟩
  refine ⟨?_, fun j x hx => ?_, fun j l b o1 o2 => ?_, t.gh, t.gt, t.gj, t.hj, t.fr, t.nw, t.g0, t.ur, t.tb⟩
  · show (σ.set i _).length = ((s.γ.set k .no).set i _).length
    rw [List.length_set, List.length_set, List.length_set]; exact t.len
  · have hx : ((s.γ.set k .no).set i (.ow w))[j]? = some x := hx
    by_cases e : j = i
    · subst e
      rw [List.getElem?_set_self (by rw [List.length_set]; exact li)] at hx
      cases hx
      rw [List.getElem?_set_self (by rw [t.len]; exact li)]
      exact ⟨a, u, rfl, h2, h3, h4, h5⟩
    · rw [List.getElem?_set_ne (Ne.symm e)] at hx ⊢
      by_cases e2 : j = k
      · subst e2
        rw [List.getElem?_set_self (List.getElem?_eq_some_iff.mp hk).1] at hx
        cases hx
        trivial
      · rw [List.getElem?_set_ne (Ne.symm e2)] at hx
        exact t.sl j x hx
  · rcases own j b o1 with ⟨e1, e2⟩ | ⟨e1, e2, p1⟩
    · rcases own l b o2 with ⟨e3, e4⟩ | ⟨e3, e4, p2⟩
      · rw [e1, e3]
      · subst e2; exact absurd (t.dis l k b p2 ⟨⟨w, hk⟩, h1⟩) e4
    · rcases own l b o2 with ⟨e3, e4⟩ | ⟨e3, e4, p2⟩
      · subst e4; exact absurd (t.dis j k b p1 ⟨⟨w, hk⟩, h1⟩) e2
      · exact t.dis j l b p1 p2
/-! ### the keys in a list -/
theorem e_listDT_0 (h : wE c te s fun w s1 => ∃ kvs : List (List Key × D), (w = .d (.dT kvs) ∨ w = .fr (.t kvs) ∨ ∃ i, w = .s i ∧ s1.γ[i]? = some (.ow (.t kvs))) ∧ R (.f (kvs.map fun kv => D.tup (kDs kv.1))) s1) :
    wE c (tCB (fun xs H Q => ∃ d kvs, xs = [V.ref d] ∧ Rd H d (.dT kvs) ∧ ∀ p bs, H p = none → IsKeys H kvs bs → Q (.ref p) (upd H p (.lst (bs.map V.ref)))) (tCons te tNil)) s R :=
  e_cb1 h fun σ G H Hs v w s2 Q t r ⟨kvs, e, p⟩ k => by
    obtain ⟨a, ks, ds, rfl, g1, g2, g3⟩ : ∃ (a : Addr) (ks : List (List Key × V)) (ds : List D), v = .ref a ∧ H a = some (.dT ks) ∧ RpAll c.K G (ks.map (·.2)) ds ∧ kvs = (ks.map (·.1)).zip ds := by
      rcases e with rfl | rfl | ⟨i, rfl, hi⟩
      · generalize e : D.dT kvs = d at r
        cases (show Rp c.K G v d from r) with
        | @dT a ks ds q1 q2 => cases e; exact ⟨a, ks, ds, rfl, t.gh _ _ q1, q2, rfl⟩
        | _ => cases e
      · obtain ⟨a, u, rfl, _, _, _, _, q1, q2⟩ := r
        generalize e : W.t kvs = w at q2
        cases q2 with
        | @t ks ds q2 => cases e; exact ⟨a, ks, ds, rfl, q1, q2, rfl⟩
        | _ => cases e
      · obtain ⟨a, ks, ds, q1, _, _, q4, q5, q6⟩ := own_t t hi
        have hs : σ[i]? = some (some v) := r
        rw [hs] at q1
        cases q1
        exact ⟨a, ks, ds, rfl, q4, q5, q6⟩
    refine ⟨a, ks, rfl, .inl g1, fun q bs hq hb => ?_⟩
    obtain ⟨G1, t1, k1, r1⟩ := At.keys t hb
    obtain ⟨t2, k2⟩ := t1.put (o := .lst (bs.map V.ref)) hq
    refine k _ (.f _) s2 _ _ p t2 (k1.trans k2) ⟨q, _, rfl, .none hq, t1.fresh0 (.none hq), t1.freshG (.none hq), t1.noOwn (.none hq), upd_same, .l ?_⟩
    have l : (ks.map (·.1)).length = ds.length := by rw [List.length_map, ← g2.len, List.length_map]
    have : (kvs.map fun kv => D.tup (kDs kv.1)) = ks.map fun kv => D.tup (kDs kv.1) := by
      rw [g3, show (fun kv : List Key × D => D.tup (kDs kv.1)) = (fun k => D.tup (kDs k)) ∘ Prod.fst from rfl, ← List.map_map, List.map_fst_zip (by omega), List.map_map]
      rfl
    rw [this]
    exact r1
/-- a slot is forgotten -/
theorem At.forget (t : At c s σ G H) (i : Nat) : At c (s.set i .no) σ G H := by
  have own : ∀ j b, Own (s.set i .no) σ j b → Own s σ j b ∧ j ≠ i := by
    rintro j b ⟨⟨w, q1⟩, q2⟩
    have q1' : (s.γ.set i .no)[j]? = some (.ow w) := q1
    have ne : j ≠ i := by
      rintro rfl
      rw [List.getElem?_set] at q1'
      split at q1'
      · split at q1' <;> cases q1'
      · exact absurd rfl ‹_›
    rw [List.getElem?_set_ne (Ne.symm ne)] at q1'
    exact ⟨⟨⟨w, q1'⟩, q2⟩, ne⟩
  refine ⟨by show σ.length = (s.γ.set i .no).length; rw [List.length_set]; exact t.len, fun j x hx => ?_, fun j l b o1 o2 => t.dis j l b (own j b o1).1 (own l b o2).1, t.gh, t.gt, t.gj, t.hj, t.fr, t.nw, t.g0, t.ur, t.tb⟩
  have hx : (s.γ.set i .no)[j]? = some x := hx
  by_cases e : j = i
  · subst e
    rw [List.getElem?_set] at hx
    simp only [if_true] at hx
    split at hx
    · cases hx; trivial
    · cases hx
  · rw [List.getElem?_set_ne (Ne.symm e)] at hx
    exact t.sl j x hx
/-! ### walking -/
theorem s_forDT {i : Nat} {g : TG} {tb : TS} (h : ∃ kvs, s.γ[i]? = some (.ow (.t kvs)) ∧ ∀ x : W, x.toD = none → ∃ J : Nat → NS → Prop, J 0 (s.set i (.ow x)) ∧ (∀ n s2, J n s2 → s2.γ[i]? = some (.ow x)) ∧
      (∀ n kv s2, kvs[n]? = some kv → J n s2 → wG c g (fun _ => True) (.tup (kDs kv.1)) s2 fun s3 => wS c tb s3 { nx := J (n + 1), ct := J (n + 1), bk := fun s4 => s4.γ[i]? = some (.ow x) ∧ N.nx (s4.set i (.ow (.t kvs))), rt := fun d s4 => s4.γ[i]? = some (.ow x) ∧ N.rt d (s4.set i .no) }) ∧
      ∀ s2, J kvs.length s2 → N.nx (s2.set i (.ow (.t kvs)))) : wS c (tLock (tFor (iKeys (tVar i)) g tb)) s N := fun σ G H Z t k1 k2 k3 k4 => by
  obtain ⟨kvs, hi, h⟩ := h
  obtain ⟨a, ks, ds, g1, g2, g3, g4, g5, g6⟩ := own_t t hi
  have lk : ks.length = kvs.length := by
    rw [g6, List.length_zip, List.length_map, ← g5.len, List.length_map]
    omega
  refine ⟨a, .dT ks, g4, trivial, fun od => ?_⟩
  obtain ⟨J, j0, jl, step, fin⟩ := h (.lk a (.frz od (.dT ks))) rfl
  obtain ⟨t1, q1⟩ := t.chgW (es := .lk a (.frz od (.dT ks))) (ys := .frz od (.dT ks)) hi g1 .lk
  have at_ : ∀ {s' : NS} {σ' : L2.St} {G' H' : Hp}, s'.γ[i]? = some (.ow (.lk a (.frz od (.dT ks)))) → At c s' σ' G' H' → σ'[i]? = some (some (.ref a)) ∧ H' a = some (.frz od (.dT ks)) := by
    intro s' σ' G' H' e a'
    obtain ⟨b, u, e1, _, _, e4, e5⟩ := a'.sl i _ e
    generalize e6 : W.lk a (.frz od (.dT ks)) = w at e5
    cases e5 with
    | lk => cases e6; exact ⟨e1, e4⟩
    | _ => cases e6
  have back : ∀ {s' : NS} {σ' : L2.St} {G' H' : Hp}, s'.γ[i]? = some (.ow (.lk a (.frz od (.dT ks)))) → At c s' σ' G' H' → Ex G G' → At c (s'.set i (.ow (.t kvs))) σ' G' (upd H' a (.dT ks)) := by
    intro s' σ' G' H' e a' eg
    exact (a'.chgW (es := .t kvs) (ys := .dT ks) e (at_ e a').1 (by rw [g6]; exact .t (g5.mono eg))).1
  have lose : ∀ {s' : NS} {σ' : L2.St} {G' H' : Hp}, s'.γ[i]? = some (.ow (.lk a (.frz od (.dT ks)))) → At c s' σ' G' H' → At c (s'.set i .no) σ' G' (upd H' a (.dT ks)) := by
    intro s' σ' G' H' e a'
    have own : Own s' σ' i a := ⟨⟨_, e⟩, (at_ e a').1⟩
    obtain ⟨_, _, _, f0, ga, _, _⟩ := a'.own own
    refine (a'.forget i).mut f0 (fun j o => ?_) ga (fun o q kk => by rw [(at_ e a').2] at q; cases q; rcases kk with ⟨_, kk⟩ | ⟨_, kk⟩ <;> cases kk)
    obtain ⟨⟨w, q1⟩, q2⟩ := o
    have q1' : (s'.γ.set i .no)[j]? = some (.ow w) := q1
    have ne : j ≠ i := by
      rintro rfl
      rw [List.getElem?_set_self (List.getElem?_eq_some_iff.mp e).1] at q1'
      cases q1'
    rw [List.getElem?_set_ne (Ne.symm ne)] at q1'
    exact ne (a'.dis j i a ⟨⟨w, q1'⟩, q2⟩ own)
  refine ⟨.ref a, g1, a, od, rfl, .inr ⟨ks, upd_same, ?_⟩⟩
  refine ⟨fun n m σ' H' => m = ks.length - n ∧ n ≤ ks.length ∧ ∃ s' G', J n s' ∧ At c s' σ' G' H' ∧ Ex G G', ⟨ks.length, by simp, Nat.zero_le _, _, G, j0, t1, fun _ _ z => z⟩, ?_⟩
  rintro n m σ2 H2 ⟨rfl, hn, s2, G2, p2, a2, e2⟩
  have l2 := jl n s2 p2
  obtain ⟨h1, h2⟩ := at_ l2 a2
  by_cases lt : n < ks.length
  · refine .inr ⟨⟨h2, lt⟩, fun σ' H' => ∃ s' G', J (n + 1) s' ∧ At c s' σ' G' H' ∧ Ex G G', ?_, fun x H3 y => ?_⟩
    · rintro σ' H' ⟨s', G', p', a', e'⟩
      exact ⟨ks.length - (n + 1), by omega, rfl, lt, s', G', p', a', e'⟩
    · obtain ⟨rfl, k, v, q, hkv, rfl, hq⟩ := y
      obtain ⟨G3, a3, q3, r3⟩ := a2.key hq
      obtain ⟨kv, hkv2⟩ : ∃ kv, kvs[n]? = some kv := ⟨_, List.getElem?_eq_getElem (by omega)⟩
      have ek : kv.1 = k := by
        have e1 : (kvs.map Prod.fst)[n]? = some kv.1 := by rw [List.getElem?_map, hkv2]; rfl
        have e3 : (ks.map (·.1))[n]? = some k := by rw [List.getElem?_map, hkv]; rfl
        rw [g6, List.map_fst_zip (by rw [List.length_map, ← g5.len, List.length_map]; exact Nat.le_refl _), e3] at e1
        exact (Option.some.inj e1).symm
      subst ek
      refine step n kv s2 hkv2 p2 σ2 G3 H3 _ _ a3 r3 fun σ4 s4 p4 a4 _ => ?_
      have e3 := e2.trans q3.g
      refine p4 σ4 G3 H3 _ a4 (fun s' σ' G' H' q a' e => ⟨s', G', q, a', e3.trans e⟩) (fun v d s' σ' G' H' ⟨l', q⟩ a' r => ⟨(at_ l' a').2, k2 v d _ σ' G' _ q (lose l' a') r⟩) (fun s' σ' G' H' ⟨l', q⟩ a' e => ⟨(at_ l' a').2, k1 _ σ' G' _ q (back l' a' (e3.trans e)) (e3.trans e)⟩) (fun s' σ' G' H' q a' e => ⟨s', G', q, a', e3.trans e⟩)
  · have e : n = ks.length := by omega
    subst e
    refine .inl ⟨⟨h2, Nat.le_refl _⟩, h2, k1 _ σ2 G2 _ (fin s2 (by rw [← lk]; exact p2)) (back l2 a2 e2) e2⟩
/-! ### a, b, .. = a list -/
theorem g_lst {gs : TGs} {vs : Nat → Prop} {ds : List D} {n : Nat} {P : NS → Prop} (hn : ds.length = n) (h : wGs c gs vs ds s P) (hK : K' = c.K := by rfl) : wG c (gLst K' n gs) vs (.lst ds) s P := by
  subst hK
  intro σ G H v Q a r k
  cases r with
  | lst h1 h2 => exact ⟨_, _, rfl, SqL.of (a.gh _ _ h1), by rw [h2.len]; exact hn, h σ G H _ Q a h2 k⟩
end
end Kn
/-! Kg10: x[::-1] of a list or a tuple of any items. -/
namespace Kg
open PySem PySem.Spec PyProof.Rows L2
theorem back_pick (xs : Array Value) (n : Nat) (h : xs.size = n) : (List.range n).filterMap (fun (m : Nat) => xs[(((n : Int) - 1) + (m : Int) * (-1)).toNat]?) = xs.toList.reverse := by
  subst h
  have e1 : (fun (m : Nat) => xs[(((xs.size : Int) - 1) + (m : Int) * (-1)).toNat]?) = (fun i : Nat => xs[i]?) ∘ fun m => xs.size - 1 - m := by
    funext m
    have : (((xs.size : Int) - 1) + (m : Int) * (-1)).toNat = xs.size - 1 - m := by omega
    simp only [Function.comp, this]
  rw [e1, ← List.filterMap_map, PySem.W.krv_range, List.filterMap_reverse, PySem.W.krv_all]
theorem vals_reverse : ∀ {xs : List V} {us : List Value}, Vals xs us → Vals xs.reverse us.reverse
  | _, _, .nil => .nil
  | _, _, .cons r t => by
    rw [List.reverse_cons, List.reverse_cons]
    exact (vals_reverse t).append (.cons r .nil)
section
variable {prog : Program} {w : World} {A : Around} {E : Value → Shared → Prop} {s : Shared}
theorem back_applied {sl : Addr} {vk : Value} {n : Nat} {Q : Int × Int × Nat → Shared → Prop} (hs : s.heap.IsSliceOf sl .none .none vk) (pk : IsPart vk (some (-1)))
    (h : Q ((n : Int) - 1, -1, n) s) : wpAny (model prog w) A (Builtin.Slice.sliceApplied (.ref sl) (pure (n : Int))) Q E s := by
  obtain ⟨o, here, _, parts⟩ := hs
  unfold Builtin.Slice.sliceApplied Builtin.Slice.sliceFields
  refine wpAny_bind (wpAny_bind (wpAny_field here parts (x := .none) rfl (wpAny_bind (wpAny_field here parts (x := .none) rfl (wpAny_bind (wpAny_field here parts (x := vk) rfl (wpAny_pure ?_)))))))
  refine wpAny_bind (HT.slicePart_ pk ?_)
  show wpAny _ _ (if ((-1 : Int) == 0) = true then _ else _) _ _ s
  rw [if_neg (show ¬ (((-1 : Int) == 0) = true) by decide)]
  refine wpAny_bind (slicePart_none (wpAny_bind (slicePart_none (wpAny_bind (wpAny_pure ?_)))))
  show wpAny _ _ (match Builtin.Slice.sliceAdjust none none (-1) (n : Int) with | (lo, hi) => pure (lo, (-1 : Int), Builtin.Slice.slicePlaces lo hi (-1))) _ _ s
  have e1 : Builtin.Slice.sliceAdjust none none (-1) (n : Int) = ((n : Int) - 1, -1) := by
    unfold Builtin.Slice.sliceAdjust
    simp
    try omega
  have e2 : Builtin.Slice.slicePlaces ((n : Int) - 1) (-1) (-1) = n := by
    unfold Builtin.Slice.slicePlaces
    have c : ¬ ((-1 : Int) > 0) := by decide
    simp only [c, if_false]
    split <;> simp <;> omega
  rw [e1]
  show wpAny _ _ (pure ((n : Int) - 1, (-1 : Int), Builtin.Slice.slicePlaces ((n : Int) - 1) (-1) (-1))) _ _ s
  rw [e2]
  exact wpAny_pure h
theorem tuple_back {t sl : Addr} {items : Array Value} {vk : Value} {Q : Value → Shared → Prop} (tup : IsTup s.heap t items) (hs : s.heap.IsSliceOf sl .none .none vk) (pk : IsPart vk (some (-1)))
    (fits : items.size ≤ sizeLine) (h : Q (.ref s.heap.objs.size) { s with heap := s.heap.push { cls := .type "tuple", data := .seq items.toList.reverse.toArray } }) :
    wpAny (model prog w) A (getItem (.ref t) (.ref sl)) Q E s := by
  have fits' : sizeOk (.seq items.toList.reverse.toArray) := by
    show items.toList.reverse.toArray.size ≤ sizeLine
    simpa using fits
  have isSlice : s.TypeIs (.ref sl) "slice" := hs.elim fun o z => ⟨o, z.1, z.2.1⟩
  unfold getItem
  try with_reducible refine wpAny_holding ?_
  first | refine wpAny_bind (wpAny_pure ?_) | skip
  refine wpAny_bind (wpAny_sequenceKey tup.typeIs (by decide) ?_)
  refine wpAny_bind (wpAny_callSpecial?_slot (name := Str.ofString "__getitem__") tup.typeIs PyProof.Rows.slot_tuple_getitem (wpAny_call_entry PyProof.Rows.slot_tuple_getitem tup.typeIs entry_tuple_getitem ?_ (args_tuple_getitem _ _)))
  show wpAny _ _ (Builtin.Tuple.tupleItemsOf (.ref t) >>= _) _ _ s
  refine wpAny_bind (tupleItemsOf_ tup ?_)
  refine wpAny_bind (wpAny_typeOf isSlice ?_)
  rw [if_pos (by decide)]
  refine wpAny_bind (back_applied hs pk ?_)
  have no : ¬ ((((items.size : Int) - 1) == 0 && (-1 : Int) == 1 && items.size == items.size) = true) := by
    rw [show ((-1 : Int) == 1) = false by decide, Bool.and_false, Bool.false_and]
    exact Bool.false_ne_true
  show wpAny _ _ (if (((items.size : Int) - 1) == 0 && (-1 : Int) == 1 && items.size == items.size) = true then _ else _) _ _ s
  rw [if_neg no, back_pick items items.size rfl]
  first
    | exact wpAny_bind (m := Builtin.Tuple.tupleExact _) (wpAny_newObj_type (wpAny_pure ⟨_, rfl, wpAny_pure h⟩) fits')
    | exact wpAny_bind (m := Builtin.Tuple.tupleExact _) (wpAny_newObj_type (wpAny_bind (wpAny_pure (wpAny_pure ⟨_, rfl, wpAny_pure h⟩))) fits')
    | exact wpAny_bind (wpAny_bind (m := Builtin.Tuple.tupleExact _) (wpAny_newObj_type (wpAny_pure (wpAny_pure ⟨_, rfl, wpAny_pure h⟩)) fits'))
    | exact wpAny_bind (wpAny_bind (m := Builtin.Tuple.tupleExact _) (wpAny_newObj_type (wpAny_pure ⟨_, rfl, wpAny_pure h⟩) fits'))
end
/-- x[::-1] -/
def tBack (K : PySem.W.Frag) (te : TE) (tk : TO) : TE := fun σ H Q => te σ H fun x H1 => tk σ H1 fun o H2 => o = some (-1) ∧ ∃ a xs, x = .ref a ∧
  ((SqL K H2 a xs ∧ ∀ p, H2 p = none → Q (.ref p) (upd H2 p (.lst xs.reverse))) ∨ (SqT K H2 a xs ∧ ∀ p, H2 p = none → Q (.ref p) (upd H2 p (.tup xs.reverse))))
theorem pe_back {X : Cx} {e st : Expr} {te : TE} {tk : TO} {pos p2 : Pos} (he : PE X e te) (hk : PO X (some st) tk) : PE X (.Subscript e (.Slice none none (some st) p2) pos) (tBack X.K te tk) := by
  constructor
  intro pins s σ H Q I h
  refine Subscript_ (thn (he.run pins s σ H _ I h) ?_)
  rintro v s1 ⟨x, H1, I1, r1, q1⟩
  refine wpAny_Slice ?_
  rw [evalPart_none]
  refine wpAny_pure (wpAny_pure ?_)
  refine thn (hk.run pins s1 σ H1 _ I1 q1) ?_
  rintro vk s3 ⟨o, H3, I3, pk, rfl, a, xs, rfl, q⟩
  cases (show v = Value.ref a from r1)
  let hp := s3.heap.push { cls := .type "slice", data := .fields #[.none, .none, vk] }
  have I4 : Inv X pins σ H3 { s3 with heap := hp } := I3.kept (t' := s3.toks) fun b ob z => Heap.get?_push_of_some _ z
  have hs : hp.IsSliceOf s3.heap.objs.size .none .none vk := Heap.IsSliceOf.new ..
  have laid : ∀ {o : HO} {ob : Obj}, ObjOk X.prog X.w (upd H3 hp.objs.size o) (hp.push ob) hp.objs.size o →
      Inv X pins σ (upd H3 hp.objs.size o) { s3 with heap := hp.push ob } := fun z => I4.laid (t' := s3.toks) (fun b ob z => Heap.get?_push_of_some _ z) (Nat.le_refl _) z
  have new : H3 hp.objs.size = none := I4.hok.fresh (Nat.le_refl _)
  rcases q with ⟨sq, q⟩ | ⟨sq, q⟩
  · obtain ⟨its, r, ht, hz⟩ := I4.list sq
    have len := r.length
    refine tail_any (ops := [.ref a, .ref s3.heap.objs.size]) (T := "list") ht.isList.typeIs slot_list_getitem.lookup ?_ (by with_unfolding_all rfl)
    refine wpAny_getItem_list_slice ht.isList hs .none .none pk (by decide) ?_ (by rw [List.size_toArray]; omega)
    rw [PySem.W.krv_pick]
    refine ⟨.ref hp.objs.size, _, laid (o := .lst xs.reverse) ?_, rfl, q _ new⟩
    exact ⟨by rw [List.length_reverse]; exact hz, _, 0, vals_reverse r, Heap.get?_push_size _ rfl⟩
  · obtain ⟨its, r, ht, hz⟩ := I4.tuple sq
    have len := r.length
    refine tail_any (ops := [.ref a, .ref s3.heap.objs.size]) (T := "tuple") ht.typeIs PyProof.Rows.slot_tuple_getitem.lookup ?_ (by with_unfolding_all rfl)
    refine tuple_back ht hs pk (by rw [List.size_toArray]; omega) ?_
    refine ⟨.ref hp.objs.size, _, laid (o := .tup xs.reverse) ?_, rfl, q _ new⟩
    exact ⟨by rw [List.length_reverse]; exact hz, _, vals_reverse r, IsTup.new _ _⟩
end Kg
/-! Kn19: tuples of a module as data. -/
namespace Kn
open PySem PySem.Spec PyProof.Rows L2 Kg
open Evl (Ex)
theorem key_K {P : Program} {w : World} {K : PySem.W.Frag} {b : Addr} {k : List Key} {h : Heap} (hK : K.In h) (q : SqK K b (k.map kV)) : (tupleKind (mixKind P w)).is h k b := by
  obtain ⟨o, its, n, h1, h2, h3, h4, h5⟩ := q
  refine ⟨o, its, n, hK _ _ h1, h2, h3, ?_⟩
  generalize its.toList = us at h5
  clear h1 h2 h3 h4
  induction k generalizing us with
  | nil => cases h5; exact .nil
  | cons x k ih =>
    cases h5 with
    | cons r t =>
      refine .cons ?_ (ih _ t)
      cases x with
      | inl i => obtain ⟨tk, e⟩ := (show RelV (.int i) _ from r); subst e; exact keyIs_int i tk
      | inr x => obtain ⟨tk, e⟩ := (show RelV (.str x) _ from r); subst e; exact keyIs_str x tk
section
variable {X : Cx}
/-- d[k] of a dict of the module, k made or a tuple of the module -/
def rIxKK (K : PySem.W.Frag) (a : Addr) (xs : List (List Key × Addr × Value)) : V → V → Hp → VK → Prop := fun x y H Q => ∃ b k p v, x = .ref a ∧ y = .ref b ∧ (H b = some (.tup (k.map kV)) ∨ SqK K b (k.map kV)) ∧ atKey xs k = some p ∧ RelV v p.2 ∧ Q v H
theorem ix_KK {a : Addr} {xs : List (List Key × Addr × Value)} (C : CDict X.prog X.w X.K a xs) (hu : X.A.units + 1 < cLine) : IxR X (rIxKK X.K a xs) := by
  intro value slice pins s σ H x y v u Q I rx ry h hs
  obtain ⟨b, k, p, r, rfl, rfl, hb, hp, rp, q⟩ := h
  cases (show u = Value.ref b from ry)
  cases (show v = Value.ref a from rx)
  refine tail_any (C.type I.kIn) PySem.F.slot_dict_getitem.lookup ?_ hs
  have key : (tupleKind (mixKind X.prog X.w)).is s.heap k b := hb.elim (fun hb => key_of I.hok hb) fun hb => key_K I.kIn hb
  refine wpAny_getItem_heap (tupleKind_room_in1 hu) key (C.of I.kIn) hp ?_
  exact ⟨r, H, I.tok _, rp, q⟩
end
/-- a tuple, made or of the module -/
def TupD (d : D) (ds : List D) : Prop := d = .tup ds ∨ d = .ktup ds
section
variable {c : Cfg} {s : NS} {R : Vw → NS → Prop} {ta tb : TE} {K' : PySem.W.Frag} {D0 : Addr} {xs : List (List Key × Addr × Value)}
theorem TupD.at {G : Hp} {v : V} {d : D} {ds : List D} {K : PySem.W.Frag} (h : TupD d ds) (r : Rp K G v d) : ∃ a ys, v = .ref a ∧ (G a = some (.tup ys) ∨ SqK K a ys) ∧ RpAll K G ys ds := by
  rcases h with rfl | rfl
  · cases r with
    | tup h1 h2 => exact ⟨_, _, rfl, .inl h1, h2⟩
  · cases r with
    | ktup h1 h2 => exact ⟨_, _, rfl, .inr h1, h2⟩
theorem e_ixTk (h : wE c ta s fun w s1 => wE c tb s1 fun u s2 => ∃ e ds i d, w = .d e ∧ TupD e ds ∧ u = .d (.int i) ∧ atI ds i = some d ∧ R (.d d) s2) (hK : K' = c.K := by rfl) : wE c (tOp (rIxT K') ta tb) s R := by
  subst hK
  refine e_op h fun σ G H Hs v x w u s2 Q t r1 r2 ⟨e, ds, i, d, e1, e2, e3, e4, p⟩ k => ?_
  subst e1 e3
  obtain ⟨a, ys, rfl, h1, p1⟩ := e2.at (show Rp c.K G v _ from r1)
  obtain ⟨y, h2, p2⟩ := atI_of p1 e4
  exact ⟨_, _, i, y, rfl, int_at r2, h1.elim (fun h1 => SqT.of (t.gh _ _ h1)) .inr, h2, k _ (.d d) s2 G H p t .refl p2⟩
theorem e_refK {a : Addr} {ds : List D} (hk : KTup c.K a ds) (h : R (.d (.ktup ds)) s) : wE c (tC (.ref a)) s R := fun σ G H Q t k => by
  obtain ⟨ys, h1, h2⟩ := hk
  exact k _ (.d (.ktup ds)) s G H h t .refl (Rp.ktup h1 (h2 G))
theorem e_getKK (h : wE c ta s fun w s1 => wE c tb s1 fun u s2 => ∃ e kd k b a, w = .d (.rf D0) ∧ u = .d e ∧ TupD e kd ∧ KsD kd k ∧ atKey xs k = some (b, .ref a) ∧ R (.d (.rf a)) s2) (hK : K' = c.K := by rfl) : wE c (tOp (rIxKK K' D0 xs) ta tb) s R := by
  subst hK
  refine e_op h fun σ G H Hs v x w u s2 Q t r1 r2 ⟨e, kd, k, b, a, e1, e2, e3, hk, hp, p⟩ kk => ?_
  subst e1 e2
  cases (show Rp c.K G v _ from r1)
  obtain ⟨b2, ys, rfl, h1, p1⟩ := e3.at (show Rp c.K G x _ from r2)
  rw [hk.vs p1] at h1
  exact ⟨_, k, _, .ref a, rfl, rfl, h1.imp_left (t.gh _ _), hp, rfl, kk _ (.d (.rf a)) s2 G H p t .refl (Rp.rf a)⟩
end
end Kn
/-! Kn20: defs that show things, without the urn; own lists lent to calls that tell data. -/
namespace Kn
open PySem PySem.Spec PyProof.Rows L2 Kg
open Evl (Ex)
def spS (K : PySem.W.Frag) (φ : List D → (D → Prop) → Er → Prop) : Sp := fun vs H Q E => OffK K ∧ Sys H ∧ spP K φ vs H Q E
theorem spS_len {K : PySem.W.Frag} {φ : List D → (D → Prop) → Er → Prop} {n : Nat} (hl : ∀ ds R X, φ ds R X → ds.length = n) : ∀ vs H Q E, spS K φ vs H Q E → vs.length = n := fun vs H Q E h => spP_len hl vs H Q E h.2.2
theorem enterS {K : PySem.W.Frag} {N : List Str} {G H : Hp} {vs : List V} {ds : List D} {R : D → Prop} {X : Er} {t : TS} {Q : VK} {E : XK} (off : OffK K) (sy : Sys H) (eg : Ex G H) (gt : ∀ a o, G a = some o → Nt o) (rp : RpAll K G vs ds)
    (kR : ∀ v d G' H', R d → Ex H H' → Ex G G' → Ex G' H' → (∀ a o, G' a = some o → Nt o) → (∀ a, G' a ≠ none → G a ≠ none ∨ Nw H a) → Rp K G' v d → Q v H') (kX : ErrOk K G H E X)
    (h : ∀ c : Cfg, c.K = K → ReprOk c → ErrIn c E X → wS c t ⟨initS N.length (ds.map .d), 0⟩ { nx := fun _ => R .non, rt := fun d _ => R d }) : t { nx := fun _ H' => Q .non H', rt := Q } (L2.start N vs) H := by
  let c : Cfg := ⟨K, 0, false, H, G, true, fun _ => True, fun _ _ _ _ => trivial⟩
  have f0 : ∀ {H' a}, Fr c H' a → H' a = none := fun {H' a} f => by
    cases q : H' a with
    | none => rfl
    | some o => exact (f o q (.inl rfl)).elim
  have f0w : ∀ {H' a}, Fw c H' a → Nw H' a := fun f => f.imp f0 id
  have nU : ∀ a, ¬ c.isU a := fun a u => by cases u.1
  have fin : ∀ {s : NS} {σ : L2.St} {G' H' : Hp} {v : V} {d : D}, At c s σ G' H' → Rp K G' v d → R d → Q v H' := fun a r q =>
    kR _ _ _ _ q (fun b o hb => a.fr b o hb (.inl rfl) (nU b)) a.g0 a.gh a.gt (fun b hb => (a.nw b hb).imp id f0w) r
  have ok : ReprOk c := ⟨off, fun s σ G' H' a => by
    obtain ⟨o, φ, e⟩ := sy
    exact ⟨o, φ, a.fr _ _ e (.inl rfl) (nU _)⟩⟩
  refine h c rfl ok (fun s σ G1 H1 a C fs dx xs G' H' x e1 h1 g1 t1 n1 f1 hd fr => ?_) (L2.start N vs) G H _ ⟨start_len (by rw [List.length_map]; exact rp.len), fun i x hx => ?_, ?_, eg, gt, fun a u => absurd u (nU a), fun a u => absurd u (nU a), fun a o h _ _ => h, fun a h => .inl h, fun _ _ h => h, (fun u => nomatch u), trivial⟩
    (fun s' σ' G' H' q a e => fin a .non q) (fun v d s' σ' G' H' q a r => fin a r q) (fun _ _ _ _ q => q.elim) (fun _ _ _ _ q => q.elim)
  · refine kX C fs dx xs G' H' x (a.g0.trans e1) (fun b o hb => h1 b o (a.fr b o hb (.inl rfl) (nU b))) g1 t1 (fun b hb => ?_) (f0 (a.fresh0 (.none f1))) hd fr
    rcases n1 b hb with z | z
    · exact (a.nw b z).imp id f0w
    · exact .inr (f0w (a.freshW0 z.fw))
  · rcases init_get hx with z | rfl
    · obtain ⟨d, h1, rfl⟩ := map_get z
      obtain ⟨v, h2, r⟩ := rp.of h1
      exact ⟨v, start_get h2, r⟩
    · trivial
  · rintro i k a ⟨⟨es, h1⟩, _⟩ _
    rcases init_get h1 with z | z
    · obtain ⟨d, _, e⟩ := map_get z
      cases e
    · cases z
/-- the rest of the heap -/
def butG (a : Addr) (G : Hp) : Hp := fun x => if x = a then none else G x
theorem butG_some {a x : Addr} {G : Hp} {o : HO} (e : butG a G x = some o) : x ≠ a ∧ G x = some o := by
  unfold butG at e
  by_cases z : x = a
  · rw [if_pos z] at e; cases e
  · rw [if_neg z] at e; exact ⟨z, e⟩
theorem butG_ne {a x : Addr} {G : Hp} (h : x ≠ a) : butG a G x = G x := if_neg h
/-- d does not show the list ds -/
def Apart (K : PySem.W.Frag) (ds : List D) (d : D) : Prop := ∀ (G : Hp) (a : Addr) (xs : List V) (v : V), G a = some (.lst xs) → RpAll K G xs ds → Rp K G v d → Rp K (butG a G) v d
theorem Apart.bl {K : PySem.W.Frag} {ds : List D} {z : Bool} : Apart K ds (.bl z) := fun G a xs v _ _ r => by cases r; exact .bl z
/-- an own list lent to a def without the urn that tells a truth -/
theorem e_lendS {c : Cfg} {s : NS} {R : Vw → NS → Prop} {K' : PySem.W.Frag} {φ : List D → (D → Prop) → Er → Prop} {tr : TA} (ok : ReprOk c) (i : Nat) (ds : List D) (is : List (Nat × D)) (hi : s.γ[i]? = some (.own ds))
    (hcu : c.u = true → ∀ ns : List Int, ds ≠ ns.map D.int) (htr : tr = tVars (is.map (·.1))) (hv : ∀ p ∈ is, (unown s i ds).γ[p.1]? = some (.d p.2)) (h : φ (is.map (·.2)) (fun d => ∃ z, d = .bl z ∧ R (.d (.bl z)) s) fun _ _ => False) (hK : K' = c.K := by rfl) :
    wE c (tCall (spS K' φ) [] E0 tr) s R := by
  subst hK
  intro σ G H Q t k
  subst htr
  obtain ⟨a, xs, h2, f0, g0, hx, rx⟩ := t.slL hi
  obtain ⟨t2, k2⟩ := t.unown hi h2 f0 g0 hx rx
  obtain ⟨vs, hvs, rvs⟩ : ∃ vs, VarsAt σ (is.map (·.1)) vs ∧ RpAll c.K (upd G a (.lst xs)) vs (is.map (·.2)) := by
    clear h
    induction is with
    | nil => exact ⟨[], .nil, .nil⟩
    | cons p is ih =>
      obtain ⟨vs, q1, q2⟩ := ih fun p hp => hv p (List.mem_cons_of_mem _ hp)
      obtain ⟨v, e, r⟩ := t2.sl p.1 _ (hv p List.mem_cons_self)
      exact ⟨v :: vs, .cons e q1, .cons r q2⟩
  refine tVars_run hvs ?_
  refine ⟨ok.1, ok.2 _ _ _ _ t, upd G a (.lst xs), is.map (·.2), _, (fun _ _ => False), t2.gh, t2.gt, by rw [List.append_nil]; exact rvs, h, fun v d G' H' ⟨z, e, q⟩ hh eg gh gt nw rp => ?_, fun C fs dx xs G' H' x => x.elim⟩
  subst e
  cases rp
  have ga : G' a = some (.lst xs) := eg _ _ upd_same
  obtain ⟨t3, k3⟩ := t.grow (G' := butG a G') (H' := H') (fun x o e => by
      have n : x ≠ a := by rintro rfl; rw [g0] at e; cases e
      rw [butG_ne n]
      exact eg x o ((upd_ne n).trans e)) hh (fun x o e => gh x o (butG_some e).2) (fun x o e => gt x o (butG_some e).2) (fun x hx' => by
      cases q : butG a G' x with
      | none => exact absurd q hx'
      | some o =>
        obtain ⟨n, e⟩ := butG_some q
        rcases nw x (by rw [e]; exact fun z => nomatch z) with w | w
        · rw [upd_ne n] at w; exact .inl w
        · exact .inr w.fw)
  exact k _ (.d (.bl z)) _ _ H' q t3 k3 (Rp.bl z)
/-- an own list lent to a def with the urn, what is told lies apart -/
theorem e_lendD {c : Cfg} {s : NS} {R : Vw → NS → Prop} {K' : PySem.W.Frag} {φ : Nat → List D → (Nat → D → Prop) → Prop} {E : XK} {u : Nat} {tr : TA} (i : Nat) (ds : List D) (is : List (Nat × D)) (hu : s.γ[u]? = some .ur) (hi : s.γ[i]? = some (.own ds)) (ne : ∀ ns : List Int, ds ≠ ns.map D.int)
    (htr : tr = tVars (is.map (·.1))) (hv : ∀ p ∈ is, (unown s i ds).γ[p.1]? = some (.d p.2)) (h : φ s.b (is.map (·.2)) fun b' d => Apart c.K ds d ∧ R (.d d) { s with b := b' }) (hK : K' = c.K := by rfl) :
    wE c (tCall (spU K' φ) [] E (tCons (tVar u) tr)) s R := by
  subst hK
  intro σ G H Q t k
  subst htr
  obtain ⟨hcu, hj⟩ := t.sl u _ hu
  obtain ⟨a, xs, h2, f0, g0, hx, rx⟩ := t.slL hi
  obtain ⟨t2, k2⟩ := t.unown hi h2 f0 g0 hx rx
  have aj : a ≠ c.j := fun e => by subst e; exact (t.notU f0) ⟨hcu, rfl⟩
  obtain ⟨vs, hvs, rvs⟩ : ∃ vs, VarsAt σ (is.map (·.1)) vs ∧ RpAll c.K (upd G a (.lst xs)) vs (is.map (·.2)) := by
    clear h
    induction is with
    | nil => exact ⟨[], .nil, .nil⟩
    | cons p is ih =>
      obtain ⟨vs, q1, q2⟩ := ih fun p hp => hv p (List.mem_cons_of_mem _ hp)
      obtain ⟨v, e, r⟩ := t2.sl p.1 _ (hv p List.mem_cons_self)
      exact ⟨v :: vs, .cons e q1, .cons r q2⟩
  refine ⟨.ref c.j, hj, tVars_run hvs ?_⟩
  refine ⟨upd G a (.lst xs), c.j, s.b, vs, is.map (·.2), _, by rw [List.append_nil], t2.gh, t2.gt, t2.gj _ ⟨hcu, rfl⟩, t2.ur hcu, rvs, h, fun v d b' G' H' ⟨ap, q⟩ hh eg gh gt nw un rp => ?_⟩
  have ga : G' a = some (.lst xs) := eg _ _ upd_same
  have eG : Ex G G' := fun x o e => eg x o ((upd_ne (by rintro rfl; rw [g0] at e; cases e)).trans e)
  have u3 : UrnAt c.K c.j b' (butG a G') H' := by
    obtain ⟨cc, ns, at', rest, q1, q2, q3⟩ := un
    refine ⟨cc, ns, at', rest, q1, ?_, q3⟩
    have allI : ∀ {ns : List Int} {ds : List D}, RpAll c.K G (ns.map V.int) ds → ds = ns.map D.int := by
      intro ns
      induction ns with
      | nil => intro ds r; cases r; rfl
      | cons n ns ih =>
        intro ds r
        cases r with
        | cons r1 r2 =>
          cases r1
          rw [ih r2]; rfl
    rcases q2 with (q2 | ⟨o, q2⟩) | q2
    · have nc : cc ≠ a := by
        rintro rfl
        rw [ga] at q2
        cases q2
        exact ne ns (allI rx)
      exact .inl (.inl ((butG_ne nc).trans q2))
    · have nc : cc ≠ a := by
        rintro rfl
        rw [ga] at q2
        cases q2
      exact .inl (.inr ⟨o, (butG_ne nc).trans q2⟩)
    · exact .inr q2
  obtain ⟨t3, k3⟩ := t.drew (b' := b') (G' := butG a G') hcu hh (fun x o e => by
      have n : x ≠ a := by rintro rfl; rw [g0] at e; cases e
      rw [butG_ne n]
      exact eg x o ((upd_ne n).trans e)) (fun x o e => gh x o (butG_some e).2) (fun x o e => gt x o (butG_some e).2) (fun x hx' => by
      cases q : butG a G' x with
      | none => exact absurd q hx'
      | some o =>
        obtain ⟨n, e⟩ := butG_some q
        rcases nw x (by rw [e]; exact fun z => nomatch z) with w | w
        · rw [upd_ne n] at w; exact .inl w
        · exact .inr w) u3
  exact k _ (.d d) _ _ H' q t3 k3 (ap G' a xs v ga (rx.mono eG) rp)
/-- squares lie apart from a list of pairs of squares -/
theorem apart_pairs {K : PySem.W.Frag} {es : List ((Int × Int) × (Int × Int))} (ne : es ≠ []) (fs : List (Int × Int)) : Apart K (es.map fun e => D.tup [pD e.1, pD e.2]) (.lst (fs.map pD)) := by
  intro G a xs v ga rx r
  cases r with
  | @lst b ys _ h1 h2 =>
    have tups : ∀ {ys : List V} {fs : List (Int × Int)}, RpAll K G ys (fs.map pD) → RpAll K (butG a G) ys (fs.map pD) := by
      intro ys fs
      induction fs generalizing ys with
      | nil => intro r; cases r; exact .nil
      | cons f fs ih =>
        intro r
        cases r with
        | cons r1 r2 =>
          refine .cons ?_ (ih r2)
          cases (show Rp K G _ (.tup [.int f.1, .int f.2]) from r1) with
          | @tup t ws _ k1 k2 =>
            have n : t ≠ a := by rintro rfl; rw [ga] at k1; cases k1
            refine .tup ((butG_ne n).trans k1) ?_
            cases k2 with
            | cons k2 k3 =>
              cases k2
              cases k3 with
              | cons k3 k4 =>
                cases k3
                cases k4
                exact .cons (.int _) (.cons (.int _) .nil)
    have n : b ≠ a := by
      rintro rfl
      rw [ga] at h1
      cases h1
      obtain ⟨e, es, rfl⟩ := List.exists_cons_of_ne_nil ne
      cases rx with
      | cons r1 r2 =>
        cases fs with
        | nil => cases h2
        | cons f fs =>
          cases h2 with
          | cons q1 q2 =>
            cases (show Rp K G _ (.tup [.int f.1, .int f.2]) from q1) with
            | tup k1 k2 =>
              cases r1 with
              | tup m1 m2 =>
                rw [k1] at m1
                cases m1
                cases k2 with
                | cons k2 k3 =>
                  cases k2
                  cases m2 with
                  | cons m2 m3 =>
                    cases (show Rp K G _ (.tup [.int e.1.1, .int e.1.2]) from m2)
    exact .lst ((butG_ne n).trans h1) (tups h2)
theorem RpAll.rev {K : PySem.W.Frag} {G : Hp} {xs : List V} {ds : List D} (r : RpAll K G xs ds) : RpAll K G xs.reverse ds.reverse := by
  have go : ∀ {xs : List V} {ds : List D}, RpAll K G xs ds → RpAll K G xs.reverse ds.reverse := by
    intro xs
    induction xs with
    | nil => intro ds r; cases r; exact .nil
    | cons x xs ih =>
      intro ds r
      cases r with
      | cons r1 r2 =>
        rw [List.reverse_cons, List.reverse_cons]
        exact (ih r2).app (.cons r1 .nil)
  exact go r
/-- xs[::-1] of a list -/
theorem e_back {c : Cfg} {s : NS} {R : Vw → NS → Prop} {K' : PySem.W.Frag} {te th : TE} (h : wE c te s fun w s1 => wE c th s1 fun u s2 => ∃ ds, lsOf s2 w = some ds ∧ u = .d (.int (-1)) ∧ R (.f ds.reverse) s2) (hK : K' = c.K := by rfl) : wE c (tBack K' te (tPart th)) s R := by
  subst hK
  intro σ G H Q t k
  refine h σ G H _ t fun v w s1 G1 H1 p1 t1 k1 r1 => p1 σ G1 H1 _ t1 fun x u s2 G2 H2 ⟨ds, e1, e2, p⟩ t2 k2 r2 => ?_
  subst e2
  refine ⟨-1, int_at r2, rfl, ?_⟩
  obtain ⟨a, xs, rfl, h1, rp⟩ := ls_at t2 (r1.keep k2 t1) e1
  refine ⟨a, xs, rfl, .inl ⟨SqL.of h1, fun q hq => ?_⟩⟩
  obtain ⟨t3, k3⟩ := t2.put (o := .lst xs.reverse) hq
  exact k _ (.f _) s2 G2 _ p t3 (k1.trans (k2.trans k3)) ⟨q, _, rfl, (k1.trans k2).m q (.none hq), t2.fresh0 (.none hq), t2.freshG (.none hq), t2.noOwn (.none hq), upd_same, .l (RpAll.rev rp)⟩
theorem cut_last {d : D} {ds : List D} : cutD (ds ++ [d]) none (some (-1)) = ds := by
  unfold cutD
  have e : HT.sIx (ds ++ [d]).length (ds ++ [d]).length (some (-1)) = ds.length := by
    unfold HT.sIx
    simp
    omega
  rw [e]
  simp [HT.sIx]
end Kn
/-! Kg30: in, not in a dict with ints or texts as keys. -/
namespace Kg
open PySem PySem.Spec PyProof.Rows L2
section
variable {X : Cx}
def rInDK : R2 := fun x y H Q => ∃ (a : Addr) (kvs : List (Key × V)) (k : Key), y = .ref a ∧ x = kV k ∧ H a = some (.dK kvs) ∧ Q (.bl (valV kvs k).isSome) H
def rNotInDK : R2 := fun x y H Q => ∃ (a : Addr) (kvs : List (Key × V)) (k : Key), y = .ref a ∧ x = kV k ∧ H a = some (.dK kvs) ∧ Q (.bl (!(valV kvs k).isSome)) H
theorem op_inDK (hu : X.A.units + 1 < cLine) : OpR X (compareOp .In) rInDK := by
  intro pins s σ H x y v u Q I rx ry h
  obtain ⟨a, kvs, k, rfl, rfl, ha, q⟩ := h
  cases (show u = Value.ref a from ry)
  exact d_in hu I (DGet.k ha) rx fun s' I' => ⟨.bl _, H, I', rfl, q⟩
theorem op_notInDK (hu : X.A.units + 1 < cLine) : OpR X (compareOp .NotIn) rNotInDK := by
  intro pins s σ H x y v u Q I rx ry h
  obtain ⟨a, kvs, k, rfl, rfl, ha, q⟩ := h
  cases (show u = Value.ref a from ry)
  exact d_notIn hu I (DGet.k ha) rx fun s' I' => ⟨.bl _, H, I', rfl, q⟩
end
end Kg
/-! Kn23: own dicts with plain keys, lending at calls, an item of an own list set, index of ints. -/
namespace Kn
open PySem PySem.Spec PyProof.Rows L2 Kg
open Evl (Ex)
section
variable {c : Cfg} {s s' s1 s2 : NS} {σ : L2.St} {G H : Hp} {R : Vw → NS → Prop} {N : Pst} {ta tb te tv ty ti to : TE} {tr : TA} {K' : PySem.W.Frag}
theorem e_dnewKo (h : R (.fr (.k [])) s) : wE c tDNewK s R := fun σ G H Q t k p hp => by
  obtain ⟨t2, k2⟩ := t.put (o := .dK []) hp
  exact k _ (.fr (.k [])) s _ _ h t2 k2 ⟨p, _, rfl, .none hp, t.fresh0 (.none hp), t.freshG (.none hp), t.noOwn (.none hp), upd_same, .k (kvs := []) .nil⟩
def putKD (kvs : List (Key × D)) (k : Key) (d : D) : List (Key × D) := if (kvs.any fun kv => decide (kv.1 = k)) = true then kvs.map (fun kv => if kv.1 = k then (kv.1, d) else kv) else kvs ++ [(k, d)]
theorem any_keys {α β : Type} {k : Key} : ∀ {l : List (Key × α)} {m : List (Key × β)}, l.map (·.1) = m.map (·.1) → (l.any fun kv => decide (kv.1 = k)) = m.any fun kv => decide (kv.1 = k)
  | [], [], _ => rfl
  | [], _ :: _, e => by cases e
  | _ :: _, [], e => by cases e
  | p :: l, q :: m, e => by
    injection e with e1 e2
    have e1 : p.1 = q.1 := e1
    rw [List.any_cons, List.any_cons, any_keys e2, e1]
theorem put_rpK {K : PySem.W.Frag} {G : Hp} {v : V} {d : D} (r : Rp K G v d) {k : Key} {kvs : List (Key × V)} {ds : List D} (h : RpAll K G (kvs.map (·.2)) ds) :
    ∃ es, putKD ((kvs.map (·.1)).zip ds) k d = ((putK kvs k v).map (·.1)).zip es ∧ RpAll K G ((putK kvs k v).map (·.2)) es := by
  have l : (kvs.map (·.1)).length = ds.length := by rw [List.length_map, ← h.len, List.length_map]
  have ek : (List.map Prod.fst ((kvs.map (·.1)).zip ds)) = kvs.map (·.1) := by rw [List.map_fst_zip (by omega)]
  have e1 : (((kvs.map (·.1)).zip ds).any fun kv => decide (kv.1 = k)) = kvs.any fun kv => decide (kv.1 = k) := any_keys ek
  unfold putKD putK
  rw [e1]
  by_cases c : (kvs.any fun kv => decide (kv.fst = k)) = true
  · rw [if_pos c, if_pos c]
    clear e1 c ek l
    induction kvs generalizing ds with
    | nil => cases h; exact ⟨[], rfl, .nil⟩
    | cons p kvs ih =>
      cases h with
      | @cons _ _ d0 ds0 r1 r2 =>
        obtain ⟨es, q1, q2⟩ := ih r2
        by_cases e : p.1 = k
        · refine ⟨d :: es, ?_, ?_⟩
          · simp only [List.map_cons, List.zip_cons_cons, e, if_true]
            rw [q1]
          · simp only [List.map_cons, e, if_true]
            exact .cons r q2
        · refine ⟨d0 :: es, ?_, ?_⟩
          · simp only [List.map_cons, List.zip_cons_cons, e, if_false]
            rw [q1]
          · simp only [List.map_cons, e, if_false]
            exact .cons r1 q2
  · rw [if_neg c, if_neg c]
    refine ⟨ds ++ [d], ?_, ?_⟩
    · rw [List.map_append, List.zip_append l]
      rfl
    · rw [List.map_append]
      exact h.app (.cons r .nil)
theorem own_k (t : At c s σ G H) {i : Nat} {kvs : List (Key × D)} (hi : s.γ[i]? = some (.ow (.k kvs))) : ∃ (a : Addr) (ks : List (Key × V)) (ds : List D), σ[i]? = some (some (.ref a)) ∧ Fr c c.H0 a ∧ G a = none ∧ H a = some (.dK ks) ∧ RpAll c.K G (ks.map (·.2)) ds ∧ kvs = (ks.map (·.1)).zip ds := by
  obtain ⟨a, u, h1, h2, h3, h4, h5⟩ := t.sl i _ hi
  generalize e : W.k kvs = w at h5
  cases h5 with
  | @k ks ds r => cases e; exact ⟨a, ks, ds, h1, h2, h3, h4, r, rfl⟩
  | _ => cases e
/-- d[y] = v, d the frame's own, its keys ints or texts -/
theorem s_dputK {i : Nat} (h : wD c tv s fun dv s1 => ∃ w0, s1.γ[i]? = some (.ow w0) ∧ wD c ty s1 fun dk s2 => ∃ kvs k, s2.γ[i]? = some (.ow (.k kvs)) ∧ dk = kD k ∧ kvs.length < sizeLine ∧ N.nx (s2.set i (.ow (.k (putKD kvs k dv))))) : wS c (sDPut (tVar i) ty tv) s N := fun σ G H Z t k1 k2 k3 k4 =>
  h σ G H _ t fun v dv s1 G1 H1 ⟨w0, h0, p⟩ t1 q1 r1 => by
    obtain ⟨a, ha⟩ := own_addr t1 h0
    refine ⟨.ref a, ha, p σ G1 H1 _ t1 fun y dk s2 G2 H2 ⟨kvs, k, hi, e, hl, p2⟩ t2 q2 r2 => ?_⟩
    subst e
    obtain ⟨a', ks, ds, g1, g2, g3, g4, g5, g6⟩ := own_k t2 hi
    rw [ha] at g1
    cases g1
    have ey : y = kV k := kD_rp r2
    have ll : ks.length = kvs.length := by
      rw [g6, List.length_zip, List.length_map, ← g5.len, List.length_map]
      omega
    obtain ⟨es, e1, e2⟩ := put_rpK (k := k) (r1.mono q2.g) g5
    obtain ⟨t3, q3⟩ := t2.chgW (es := .k (putKD kvs k dv)) (ys := .dK (putK ks k v)) hi ha (by rw [g6, e1]; exact .k e2)
    exact ⟨a, _, rfl, ey ▸ DPut.k g4 (by omega), k1 _ σ _ _ p2 t3 ((q1.trans q2).trans q3).g⟩
/-- the pairs of a dict with plain keys -/
def dkOf (s : NS) : Vw → Option (List (Key × D))
  | .d (.dK kvs) => some kvs
  | .s i => match s.γ[i]? with
    | some (.ow (.k kvs)) => some kvs
    | some (.d (.dK kvs)) => some kvs
    | _ => none
  | _ => none
theorem dk_at {Hs : Hp} {v : V} {w : Vw} {kvs : List (Key × D)} (t : At c s σ G H) (r : VwR c Hs s σ G H v w) (e : dkOf s w = some kvs) : ∃ a ks ds, v = .ref a ∧ H a = some (.dK ks) ∧ RpAll c.K G (ks.map (·.2)) ds ∧ kvs = (ks.map (·.1)).zip ds := by
  cases w with
  | d d =>
    cases d <;> simp only [dkOf, reduceCtorEq, Option.some.injEq] at e
    subst e
    generalize ed : D.dK _ = d at r
    cases (show Rp c.K G v d from r) with
    | dK h1 h2 => cases ed; exact ⟨_, _, _, rfl, t.gh _ _ h1, h2, rfl⟩
    | _ => cases ed
  | fr w => cases e
  | ur => cases e
  | s i =>
    have hs : σ[i]? = some (some v) := r
    cases q : s.γ[i]? with
    | none => simp [dkOf, q] at e
    | some x =>
      cases x with
      | no => simp [dkOf, q] at e
      | ur => simp [dkOf, q] at e
      | ow w =>
        cases w with
        | k es =>
          simp only [dkOf, q, Option.some.injEq] at e
          subst e
          obtain ⟨a, ks, ds, g1, g2, g3, g4, g5, g6⟩ := own_k t q
          rw [hs] at g1
          cases g1
          exact ⟨a, ks, ds, rfl, g4, g5, g6⟩
        | _ => simp [dkOf, q] at e
      | d d =>
        cases d <;> simp only [dkOf, q, reduceCtorEq, Option.some.injEq] at e
        subst e
        obtain ⟨v', h1, h2⟩ := t.sl i _ q
        rw [hs] at h1
        cases h1
        generalize ed : D.dK _ = d at h2
        cases h2 with
        | dK h1 h2 => cases ed; exact ⟨_, _, _, rfl, t.gh _ _ h1, h2, rfl⟩
        | _ => cases ed
theorem val_any {α : Type} {k : Key} : ∀ {ks : List (Key × V)} {kvs : List (Key × α)}, ks.map (·.1) = kvs.map (·.1) → (valV ks k).isSome = kvs.any fun kv => decide (kv.1 = k) := fun {ks kvs} e => by
  rw [← any_keys e, valV_any]
theorem e_inDK (h : wE c ta s fun w s1 => wE c tb s1 fun u s2 => ∃ k kvs, w = .d (kD k) ∧ dkOf s2 u = some kvs ∧ R (.d (.bl (kvs.any fun kv => decide (kv.1 = k)))) s2) : wE c (tOp rInDK ta tb) s R :=
  e_op h fun σ G H Hs v x w u s2 Q t r1 r2 ⟨k, kvs, e1, hd, p⟩ kk => by
    subst e1
    obtain ⟨a, ks, ds, rfl, g1, g2, g3⟩ := dk_at t r2 hd
    refine ⟨a, ks, k, rfl, kD_rp (show Rp c.K G v (kD k) from r1), g1, ?_⟩
    rw [val_any (kvs := kvs) (by rw [g3, List.map_fst_zip (by rw [List.length_map, ← g2.len, List.length_map]; exact Nat.le_refl _)])]
    exact kk _ (.d (.bl _)) s2 G H p t .refl (Rp.bl _)
theorem e_notInDK (h : wE c ta s fun w s1 => wE c tb s1 fun u s2 => ∃ k kvs, w = .d (kD k) ∧ dkOf s2 u = some kvs ∧ R (.d (.bl (!(kvs.any fun kv => decide (kv.1 = k))))) s2) : wE c (tOp rNotInDK ta tb) s R :=
  e_op h fun σ G H Hs v x w u s2 Q t r1 r2 ⟨k, kvs, e1, hd, p⟩ kk => by
    subst e1
    obtain ⟨a, ks, ds, rfl, g1, g2, g3⟩ := dk_at t r2 hd
    refine ⟨a, ks, k, rfl, kD_rp (show Rp c.K G v (kD k) from r1), g1, ?_⟩
    rw [val_any (kvs := kvs) (by rw [g3, List.map_fst_zip (by rw [List.length_map, ← g2.len, List.length_map]; exact Nat.le_refl _)])]
    exact kk _ (.d (.bl _)) s2 G H p t .refl (Rp.bl _)
/-- x[i] = v, x the frame's own list -/
theorem s_setL {i : Nat} (h : wD c tv s fun dv s1 => ∃ w0, s1.γ[i]? = some (.ow w0) ∧ wD c ti s1 fun dk s2 => ∃ ds n j, s2.γ[i]? = some (.own ds) ∧ dk = .int n ∧ ixN ds.length n = some j ∧ N.nx (s2.set i (.own (ds.set j dv)))) : wS c (tAsg tv (gSub (tVar i) ti rSetL)) s N := fun σ G H Z t k1 k2 k3 k4 =>
  h σ G H _ t fun v dv s1 G1 H1 ⟨w0, h0, p⟩ t1 q1 r1 => by
    obtain ⟨a, ha⟩ := own_addr t1 h0
    refine ⟨.ref a, ha, p σ G1 H1 _ t1 fun y dk s2 G2 H2 ⟨ds, n, j, hi, e, hj, p2⟩ t2 q2 r2 => ?_⟩
    subst e
    cases r2
    obtain ⟨a', xs, g1, g2, g3, g4, g5⟩ := t2.slL hi
    rw [ha] at g1
    cases g1
    obtain ⟨t3, q3⟩ := t2.chgW (es := .l (ds.set j dv)) (ys := .lst (xs.set j v)) hi ha (.l (RpAll.set (r1.mono q2.g) j g5))
    exact ⟨a, xs, n, j, rfl, rfl, g4, by rw [g5.len]; exact hj, k1 _ σ _ _ p2 t3 ((q1.trans q2).trans q3).g⟩
/-- xs.index(n) of ints -/
theorem e_index_0 (h : wE c to s fun w s1 => ∃ ns0 : List D, lsOf s1 w = some ns0 ∧ wE c te s1 fun u s2 => ∃ (ns : List Int) (n : Int) (j : Nat), lsOf s2 w = some (ns.map D.int) ∧ u = .d (.int n) ∧ ns[j]? = some n ∧ (∀ m, m < j → ns[m]? ≠ some n) ∧ R (.d (.int (j : Nat))) s2) :
    wE c (tBM c.K "list" (rIndex c.K) to (tCons te tNil)) s R := fun σ G H Q t k =>
  h σ G H _ t fun v w s1 G1 H1 ⟨ns0, e0, p⟩ t1 k1 r1 => by
    obtain ⟨a, xs0, rfl, h0, p0⟩ := ls_at t1 r1 e0
    refine ⟨ty_list h0, p σ G1 H1 _ t1 fun x u s2 G2 H2 ⟨ns, n, j, e1, e2, hj, hm, p2⟩ t2 k2 r2 => ?_⟩
    subst e2
    obtain ⟨a', xs, ea, h1, p1⟩ := ls_at t2 (r1.keep k2 t1) e1
    cases ea
    have ex : xs = ns.map V.int := p1.int_of
    subst ex
    refine ⟨a, ns.map V.int, .int n, j, .int n, rfl, by rw [int_at (Hs := H1) (i := n) r2], SqL.of h1, rfl, by rw [List.all_map]; exact List.all_eq_true.mpr fun _ _ => rfl, by rw [List.getElem?_map, hj]; rfl, by simp [eqV], fun m z' hm' hz => ?_, ?_⟩
    · rw [List.getElem?_map] at hz
      cases q : ns[m]? with
      | none => rw [q] at hz; cases hz
      | some y =>
        rw [q] at hz
        cases hz
        have : y ≠ n := fun e => hm m hm' (e ▸ q)
        simp [eqV, this]
    · exact k _ (.d (.int (j : Nat))) s2 G2 H2 p2 t2 (k1.trans k2) (Rp.int _)
theorem e_index (h : wE c to s fun w s1 => ∃ ns0 : List D, lsOf s1 w = some ns0 ∧ wE c te s1 fun u s2 => ∃ (ns : List Int) (n : Int) (j : Nat), lsOf s2 w = some (ns.map D.int) ∧ u = .d (.int n) ∧ ns[j]? = some n ∧ (∀ m, m < j → ns[m]? ≠ some n) ∧ R (.d (.int (j : Nat))) s2) (hK : K' = c.K := by rfl) :
    wE c (tBM K' "list" (rIndex K') to (tCons te tNil)) s R := by
  subst hK
  exact e_index_0 h

/-- repr of data, a new list too -/
theorem e_reprV (ok : ReprOk c) (h : wE c te s fun w s1 => ∃ p, pyVw s1 w p ∧ PyData.showable p = true ∧ p.shown.length ≤ sizeLine ∧ p.depth ≤ 60 ∧ R (.d (.str p.shown)) s1) (hK : K' = c.K := by rfl) : wE c (tCB (rRepr K') (tCons te tNil)) s R := by
  subst hK
  refine e_cb1 h fun σ G H Hs v w s2 Q t r ⟨p, q, h1, h2, h3, z⟩ k => ?_
  exact ⟨v, p, rfl, q.da t r, ok.2 _ _ _ _ t, h1, h2, h3, k _ (.d (.str _)) s2 G H z t .refl (Rp.str _)⟩
/-! ### lending -/
/-- each value is data, or the thing in slot i, that reads as d -/
inductive LRp (c : Cfg) (σ : L2.St) (i : Nat) (d : D) (G : Hp) : List V → List D → Prop
  | nil : LRp c σ i d G [] []
  | d {v : V} {e : D} {vs : List V} {ds : List D} : Rp c.K G v e → LRp c σ i d G vs ds → LRp c σ i d G (v :: vs) (e :: ds)
  | o {v : V} {vs : List V} {ds : List D} : σ[i]? = some (some v) → LRp c σ i d G vs ds → LRp c σ i d G (v :: vs) (d :: ds)
theorem LRp.mono {i : Nat} {d : D} {G G' : Hp} (e : Ex G G') {vs : List V} {ds : List D} (h : LRp c σ i d G vs ds) : LRp c σ i d G' vs ds := by
  induction h with
  | nil => exact .nil
  | d r _ ih => exact .d (r.mono e) ih
  | o h _ ih => exact .o h ih
theorem LRp.all {i : Nat} {d : D} {G G' : Hp} {v : V} (e : Ex G G') (hv : σ[i]? = some (some v)) (r : Rp c.K G' v d) {vs : List V} {ds : List D} (h : LRp c σ i d G vs ds) : RpAll c.K G' vs ds := by
  induction h with
  | nil => exact .nil
  | d r _ ih => exact .cons (r.mono e) ih
  | o h _ ih =>
    rw [hv] at h
    cases h
    exact .cons r ih
/-- arguments, the own thing in slot i among them -/
def wL (c : Cfg) (i : Nat) (d : D) (tr : TA) (s : NS) (A : List D → NS → Prop) : Prop :=
  ∀ (σ : L2.St) (G H : Hp) (Q : List V → Hp → Prop), At c s σ G H → (∀ vs ds s' G' H', A ds s' → At c s' σ G' H' → Kp c s σ G H s' G' H' → LRp c σ i d G' vs ds → Q vs H') → tr σ H Q
variable {A : List D → NS → Prop} {i : Nat} {d : D}
theorem l_nil (h : A [] s) : wL c i d tNil s A := fun σ G H Q t k => k [] [] s G H h t .refl .nil
theorem l_cons (h : wD c te s fun e s1 => wL c i d tr s1 fun ds s2 => A (e :: ds) s2) : wL c i d (tCons te tr) s A := fun σ G H Q t k =>
  h σ G H _ t fun v e s1 G1 H1 p1 t1 k1 r1 => p1 σ G1 H1 _ t1 fun vs ds s2 G2 H2 p2 t2 k2 r2 => k (v :: vs) (e :: ds) s2 G2 H2 p2 t2 (k1.trans k2) (.d (r1.mono k2.g) r2)
theorem l_var (h : (∃ w, s.γ[i]? = some (.ow w)) ∧ wL c i d tr s fun ds s2 => A (d :: ds) s2) : wL c i d (tCons (tVar i) tr) s A := fun σ G H Q t k => by
  obtain ⟨⟨w, hi⟩, p1⟩ := h
  obtain ⟨a, ha⟩ := own_addr t hi
  exact ⟨.ref a, ha, p1 σ G H _ t fun vs ds s2 G2 H2 p2 t2 k2 r2 => k (.ref a :: vs) (d :: ds) s2 G2 H2 p2 t2 k2 (.o ha r2)⟩
def scalD : D → Bool
  | .non => true | .bl _ => true | .int _ => true | .str _ => true | _ => false
theorem scal_rp {K : PySem.W.Frag} {G G' : Hp} {v : V} {e : D} (h : scalD e = true) (r : Rp K G v e) : Rp K G' v e := by
  cases r <;> first | (cases h; done) | constructor
theorem lent {w : W} {u : HO} {a : Addr} {K : PySem.W.Frag} {G G' H' : Hp} {j cc : Addr} {ns : List Int} (r : OR K G a u w) (hd : w.toD = some d) (ne : ∀ ns : List Int, d ≠ .lst (ns.map D.int)) (ga : G' a = some u) (q : SqL K G' cc (ns.map V.int)) : SqL K (butG a G') cc (ns.map V.int) := by
  have allI : ∀ {ns : List Int} {ds : List D}, RpAll K G (ns.map V.int) ds → ds = ns.map D.int := by
    intro ns
    induction ns with
    | nil => intro ds r; cases r; rfl
    | cons n ns ih =>
      intro ds r
      cases r with
      | cons r1 r2 =>
        cases r1
        rw [ih r2]; rfl
  rcases q with (q | ⟨o, q⟩) | q
  · have nc : cc ≠ a := by
      rintro rfl
      rw [ga] at q
      cases q
      cases r with
      | l rx => cases hd; exact ne ns (by rw [allI rx])
    exact .inl (.inl ((butG_ne nc).trans q))
  · have nc : cc ≠ a := by
      rintro rfl
      rw [ga] at q
      cases q
      cases r with
      | lk => cases hd
    exact .inl (.inr ⟨o, (butG_ne nc).trans q⟩)
  · exact .inr q
/-- an own thing lent to a def with the urn that tells a flat value -/
theorem e_lend {φ : Nat → List D → (Nat → D → Prop) → Prop} {E : XK} {u : Nat} (i : Nat) (d : D) (ne : ∀ ns : List Int, d ≠ .lst (ns.map D.int)) (hu : s.γ[u]? = some .ur)
    (h : wL c i d tr s fun ds s1 => (∃ w, s1.γ[i]? = some (.ow w) ∧ w.toD = some d) ∧ φ s1.b ds fun b' e => scalD e = true ∧ R (.d e) { s1 with b := b' }) (hK : K' = c.K := by rfl) :
    wE c (tCall (spU K' φ) [] E (tCons (tVar u) tr)) s R := by
  subst hK
  intro σ G H Q t0 k0
  obtain ⟨hcu, hj⟩ := t0.sl u _ hu
  refine ⟨.ref c.j, hj, h σ G H _ t0 fun vs ds s1 G1 H1 ⟨⟨w, hi, hd⟩, p⟩ t k1 rl => ?_⟩
  obtain ⟨a, o, h2, f0, g0, hx, rx⟩ := t.sl i _ hi
  obtain ⟨t2, k2⟩ := t.unownW hi h2 f0 g0 hx rx hd
  have eg1 : Ex G1 (upd G1 a o) := Evl.Ex.new g0
  have rvs : RpAll c.K (upd G1 a o) vs ds := rl.all eg1 h2 (rx.data eg1 upd_same hd)
  refine ⟨upd G1 a o, c.j, s1.b, vs, ds, _, by rw [List.append_nil], t2.gh, t2.gt, t2.gj _ ⟨hcu, rfl⟩, t2.ur hcu, rvs, p, fun v e b' G' H' ⟨sc, q⟩ hh eg gh gt nw un rp => ?_⟩
  have ga : G' a = some o := eg _ _ upd_same
  have u3 : UrnAt c.K c.j b' (butG a G') H' := by
    obtain ⟨cc, ns, at', rest, q1, q2, q3⟩ := un
    exact ⟨cc, ns, at', rest, q1, lent (j := c.j) (H' := H') rx hd ne ga q2, q3⟩
  obtain ⟨t3, k3⟩ := t.drew (b' := b') hcu hh (fun x o e => by
      have n : x ≠ a := by rintro rfl; rw [g0] at e; cases e
      rw [butG_ne n]
      exact eg x o ((upd_ne n).trans e)) (fun x o e => gh x o (butG_some e).2) (fun x o e => gt x o (butG_some e).2) (fun x hx' => by
      cases q : butG a G' x with
      | none => exact absurd q hx'
      | some o' =>
        obtain ⟨n, e⟩ := butG_some q
        rcases nw x (by rw [e]; exact fun z => nomatch z) with w | w
        · rw [upd_ne n] at w; exact .inl w
        · exact .inr w) u3
  exact k0 _ (.d e) _ _ H' q t3 (k1.trans k3) (scal_rp sc rp)
/-- .. to a def without the urn -/
theorem e_lendP {φ : List D → (D → Prop) → Er → Prop} {E : XK} (i : Nat) (d : D)
    (h : wL c i d tr s fun ds s1 => (∃ w, s1.γ[i]? = some (.ow w) ∧ w.toD = some d) ∧ φ ds (fun e => scalD e = true ∧ R (.d e) s1) fun _ _ => False) (hK : K' = c.K := by rfl) :
    wE c (tCall (spP K' φ) [] E tr) s R := by
  subst hK
  intro σ G H Q t0 k0
  refine h σ G H _ t0 fun vs ds s1 G1 H1 ⟨⟨w, hi, hd⟩, p⟩ t k1 rl => ?_
  obtain ⟨a, o, h2, f0, g0, hx, rx⟩ := t.sl i _ hi
  obtain ⟨t2, k2⟩ := t.unownW hi h2 f0 g0 hx rx hd
  have eg1 : Ex G1 (upd G1 a o) := Evl.Ex.new g0
  have rvs : RpAll c.K (upd G1 a o) vs ds := rl.all eg1 h2 (rx.data eg1 upd_same hd)
  refine ⟨upd G1 a o, ds, _, (fun _ _ => False), t2.gh, t2.gt, by rw [List.append_nil]; exact rvs, p, fun v e G' H' ⟨sc, q⟩ hh eg gh gt nw rp => ?_, fun C fs dx xs G' H' x => x.elim⟩
  obtain ⟨t3, k3⟩ := t.grow (G' := butG a G') (H' := H') (fun x o e => by
      have n : x ≠ a := by rintro rfl; rw [g0] at e; cases e
      rw [butG_ne n]
      exact eg x o ((upd_ne n).trans e)) hh (fun x o e => gh x o (butG_some e).2) (fun x o e => gt x o (butG_some e).2) (fun x hx' => by
      cases q : butG a G' x with
      | none => exact absurd q hx'
      | some o' =>
        obtain ⟨n, e⟩ := butG_some q
        rcases nw x (by rw [e]; exact fun z => nomatch z) with w | w
        · rw [upd_ne n] at w; exact .inl w
        · exact .inr w.fw)
  exact k0 _ (.d e) _ _ H' q t3 (k1.trans k3) (scal_rp sc rp)
end
end Kn
namespace K43
open PySem PySem.Spec PyProof.Rows L2 Kg
open Evl (Ex)


section
variable {P : Program} {w : World} {K : PySem.W.Frag} {mg : Str → Option Value} {base : Heap}
theorem ok_is_integer (T : Txt K mg) : FnOk P w K mg base CX0 1 T.f_is_integer T.d_is_integer ["value"] (spB K isI) := by
  refine T.F_is_integer.ok sc_is_integer (fun vs H Q E h => ?_) (fun cdv A outer s H vs Q E hr h => ?_)
  · obtain ⟨v, d, rfl, _⟩ := h
    rfl
  · obtain ⟨v, d, rfl, hd, k⟩ := h
    refine ⟨_, (pss_one (ps_ret (pe_and (pe_callB call_isi (by rfl) T.z_isinstance (by decide +kernel) (pa_cons (pv 0) (pa_cons (pe_bltn (v := .ty "int") (by rfl) T.z_int (by decide +kernel) rfl) pa_nil))) (pe_one (pe_not (pe_callB call_isi (by rfl) T.z_isinstance (by decide +kernel) (pa_cons (pv 0) (pa_cons (pe_bltn (v := .ty "bool") (by rfl) T.z_bool (by decide +kernel) rfl) pa_nil)))))))), ?_⟩
    have fin : ∀ b, b = isI d → Q (.bl b) H := fun b e => e ▸ k H (Evl.Ex.refl H)
    refine ⟨_, rfl, ?_⟩
    refine ⟨_, _, _, _, _, rfl, .ty _, tyX_of hd, kit_ty (kit_int d), ?_⟩
    refine ⟨_, rfl, ifB (fun c => ?_) (fun c => ?_)⟩
    · refine ⟨_, rfl, ?_⟩
      refine ⟨_, _, _, _, _, rfl, .ty _, tyX_of hd, kit_ty (kit_bool d), ?_⟩
      exact ⟨_, rfl, fin _ (by rw [isI_of, c]; rfl)⟩
    · exact fin _ (by rw [isI_of, c]; rfl)
/-- a bound, or none -/
inductive Bd : V → Option Int → Prop
  | non : Bd .non none
  | int (i : Int) : Bd (.int i) (some i)
def withinD (d : PyData) (lo hi : Option Int) : Bool := match d with
  | .int i => lo.all (· ≤ i) && hi.all (i ≤ ·)
  | _ => false
def spWithin (K : PySem.W.Frag) : Sp := fun vs H Q _ => ∃ v l m d lo hi, vs = [v, l, m] ∧ Da K H v d ∧ Bd l lo ∧ Bd m hi ∧ ∀ H', Ex H H' → Q (.bl (withinD d lo hi)) H'
theorem ok_is_within (T : Txt K mg) : FnOk P w K mg base CX0 2 T.f_is_within T.d_is_within ["value", "least", "most"] (spWithin K) := by
  have G_is_integer : FnOk P w K mg base CX0 1 T.f_is_integer T.d_is_integer ["value"] (spB K isI) := ok_is_integer T
  refine T.F_is_within.ok sc_is_within (fun vs H Q E h => ?_) (fun cdv A outer s H vs Q E hr h => ?_)
  · obtain ⟨v, l, m, d, lo, hi, rfl, _⟩ := h
    rfl
  · obtain ⟨v, l, m, d, lo, hi, rfl, hd, hl, hm, k⟩ := h
    have hr1 := hr
    refine ⟨_, (pss_cons (ps_if (pt_not (pt_val (pe_call G_is_integer hr1 rfl T.g_is_integer T.F_is_integer.kp (b_is_integer T) .nil pass0 (pa_cons (pv 0) pa_nil)))) (pss_one (ps_ret pe_bl)) pss_nil)
  (pss_cons (ps_if (PW.pt (pw_and (pt_cmpR op_notN (pv 1) pe_non (nomark _)) (pw_and1 (pt_cmpR op_lt (pv 0) (pv 1) (nomark _))))) (pss_one (ps_ret pe_bl)) pss_nil)
  (pss_one (ps_ret (pe_or (pe_cmpR op_isN (pv 2) pe_non (nomark _)) (pe_one (pe_cmpR op_le (pv 0) (pv 2) (nomark _)))))))), ?_⟩
    refine ⟨_, rfl, v, d, rfl, hd, fun H1 e1 => ⟨_, rfl, ?_⟩⟩
    cases hI : isI d with
    | false =>
      refine k H1 e1 |> fun q => ?_
      have e : withinD d lo hi = false := by cases d <;> simp_all [isI, withinD]
      rw [e] at q
      exact q
    | true =>
      obtain ⟨i, rfl⟩ : ∃ i, d = .int i := by cases d <;> simp_all [isI]
      cases hd
      have fin : ∀ b, b = withinD (.int i) lo hi → Q (.bl b) H1 := fun b e => e ▸ k H1 e1
      cases hl with
      | non =>
        walk_at "rd"
        cases hm with
        | non => walk_at "rd"; exact fin _ (by simp [withinD])
        | int m => walk_at "rd"; exact fin _ (by simp [withinD])
      | int l =>
        walk_at "rd"
        refine ifB (fun c => ?_) (fun c => ?_)
        · walk_at "rd"
          exact fin _ (by have := of_decide_eq_true c; simp [withinD]; omega)
        · have c' : l ≤ i := by have := of_decide_eq_false c; omega
          walk_at "rd"
          cases hm with
          | non => walk_at "rd"; exact fin _ (by simp [withinD, c'])
          | int m => walk_at "rd"; exact fin _ (by simp [withinD, c'])
theorem ok_is_square (T : Txt K mg) : FnOk P w K mg base CX0 2 T.f_is_square T.d_is_square ["value"] (spB K isSq) := by
  have G_is_integer : FnOk P w K mg base CX0 1 T.f_is_integer T.d_is_integer ["value"] (spB K isI) := ok_is_integer T
  refine T.F_is_square.ok sc_is_square (fun vs H Q E h => ?_) (fun cdv A outer s H vs Q E hr h => ?_)
  · obtain ⟨v, d, rfl, _⟩ := h
    rfl
  · obtain ⟨v, d, rfl, hd, k⟩ := h
    have hr1 := hr
    refine ⟨_, (pss_cons (ps_if (PW.pt (pw_or (pt_not (pt_val (pe_callB call_isiT (by rfl) T.z_isinstance (by decide +kernel) (pa_cons (pv 0) (pa_cons (pe_tup (pa_cons (pe_bltn (v := .ty "list") (by rfl) T.z_list (by decide +kernel) rfl) (pa_cons (pe_bltn (v := .ty "tuple") (by rfl) T.z_tuple (by decide +kernel) rfl) pa_nil))) pa_nil))))) (pw_or1 (pt_cmpR op_ne (pe_callB call_len_seq (by rfl) T.z_len (by decide +kernel) (pa_cons (pv 0) pa_nil)) pe_int (nomark _))))) (pss_one (ps_ret pe_bl)) pss_nil)
  (pss_one (ps_ret (pe_and (pe_call G_is_integer hr1 rfl T.g_is_integer T.F_is_integer.kp (b_is_integer T) .nil pass0 (pa_cons (pe_ix ix_seq (pv 0) pe_int (fun _ _ => rfl)) pa_nil)) (pe_one (pe_call G_is_integer hr1 rfl T.g_is_integer T.F_is_integer.kp (b_is_integer T) .nil pass0 (pa_cons (pe_ix ix_seq (pv 0) pe_int (fun _ _ => rfl)) pa_nil))))))), ?_⟩
    refine ⟨_, rfl, (by show 2 ≤ sizeLine; decide), fun tp hp => ?_⟩
    have hd1 := Da.mono (Evl.Ex.new (o := .tup [.ty "list", .ty "tuple"]) hp) d hd
    refine ⟨_, _, _, _, _, _, rfl, upd_same, .cons (.ty _) (.cons (.ty _) .nil), tyX_of hd1, kit_seq d, ?_⟩
    have e1 : Ex H (upd H tp (.tup [.ty "list", .ty "tuple"])) := Evl.Ex.new hp
    have fin : ∀ b H2, b = isSq d → Ex H H2 → Q (.bl b) H2 := fun b H2 e => e ▸ k H2
    refine ⟨_, rfl, ?_⟩
    refine ifB (fun c => ?_) (fun c => ?_)
    · walk_at "rd"
      refine fin _ _ ?_ e1
      cases e : seqOf d with
      | none => rw [sq_no e]
      | some ds => rw [e] at c; cases c
    · obtain ⟨ds, e⟩ : ∃ ds, seqOf d = some ds := by
        cases e : seqOf d with
        | none => rw [e] at c; cases c
        | some ds => exact ⟨ds, rfl⟩
      obtain ⟨a, xs, rfl, hs, ha⟩ := seq_at hd1 e
      walk_at "rd"
      refine ifB (fun c2 => ?_) (fun c2 => ?_)
      · walk_at "rd"
        refine fin _ _ (sq_not e ?_).symm e1
        rw [← ha.len]
        intro hl
        rw [hl] at c2
        exact absurd c2 (by decide)
      · have hl : xs.length = 2 := by
          have := of_decide_eq_true (by simpa using c2 : decide (V.int (xs.length : Int) = V.int 2) = true)
          injection this with this
          omega
        obtain ⟨x, y, d0, d1, rfl, rfl, h0, h1⟩ := da_two ha hl
        rcases hs with hs | hs
        all_goals
          walk_at "rd"
          intro H2 e2
          refine ⟨_, rfl, ifB (fun c3 => ?_) (fun c3 => ?_)⟩
          · have h1' := Da.mono e2 d1 h1
            have hs2 := seq_ex (K := K) e2 (by first | exact Or.inl hs | exact Or.inr hs)
            rcases hs2 with hs2 | hs2
            all_goals
              walk_at "rd"
              refine fun H3 e3 => fin _ _ ?_ ((e1.trans e2).trans e3)
              rw [sq_two e, c3]
              rfl
          · refine fin _ _ ?_ (e1.trans e2)
            rw [sq_two e, c3]
            rfl
end
end K43
namespace K43
open PySem PySem.Spec PyProof.Rows L2 Kg
open Evl (Ex)


section
variable {P : Program} {w : World} {K : PySem.W.Frag} {mg : Str → Option Value} {base : Heap}
/-- what an __init__ that keeps its part does -/
def spKeep (K : PySem.W.Frag) (C : Addr) : Sp := fun vs H Q _ => ∃ (a : Addr) (v : V), vs = [.ref a, v] ∧ H a = some (exo a C none) ∧
  ∀ dx, H dx = none → dx ≠ a → Q .non (upd (upd H dx (exd dx [("part", v)])) a (exo a C (some dx)))
theorem ok_BadSquare_init (T : Txt K mg) : FnOk P w K mg base CX0 1 T.f_BadSquare_init T.d_BadSquare_init ["self", "part"] (spKeep K T.c_BadSquare) := by
  refine T.F_BadSquare_init.ok sc_BadSquare_init (fun vs H Q E h => ?_) (fun cdv A outer s H vs Q E hr h => ?_)
  · obtain ⟨a, v, rfl, _⟩ := h
    rfl
  · obtain ⟨a, v, rfl, ha, k⟩ := h
    refine ⟨_, (pss_one (ps_ost (pv 0) (pv 1))), ?_⟩
    walk_at "rd"
    exact ⟨a, T.c_BadSquare, rfl, T.x_BadSquare, T.n_BadSquare_part, Or.inl ⟨ha, fun dx h1 h2 => k dx h1 h2⟩⟩
theorem ok_BadNumber_init (T : Txt K mg) : FnOk P w K mg base CX0 1 T.f_BadNumber_init T.d_BadNumber_init ["self", "part"] (spKeep K T.c_BadNumber) := by
  refine T.F_BadNumber_init.ok sc_BadNumber_init (fun vs H Q E h => ?_) (fun cdv A outer s H vs Q E hr h => ?_)
  · obtain ⟨a, v, rfl, _⟩ := h
    rfl
  · obtain ⟨a, v, rfl, ha, k⟩ := h
    refine ⟨_, (pss_one (ps_ost (pv 0) (pv 1))), ?_⟩
    walk_at "rd"
    exact ⟨a, T.c_BadNumber, rfl, T.x_BadNumber, T.n_BadNumber_part, Or.inl ⟨ha, fun dx h1 h2 => k dx h1 h2⟩⟩
theorem ok_Misfit_init (T : Txt K mg) : FnOk P w K mg base CX0 1 T.f_Misfit_init T.d_Misfit_init ["self", "part"] (spKeep K T.c_Misfit) := by
  refine T.F_Misfit_init.ok sc_Misfit_init (fun vs H Q E h => ?_) (fun cdv A outer s H vs Q E hr h => ?_)
  · obtain ⟨a, v, rfl, _⟩ := h
    rfl
  · obtain ⟨a, v, rfl, ha, k⟩ := h
    refine ⟨_, (pss_one (ps_ost (pv 0) (pv 1))), ?_⟩
    walk_at "rd"
    exact ⟨a, T.c_Misfit, rfl, T.x_Misfit, T.n_Misfit_part, Or.inl ⟨ha, fun dx h1 h2 => k dx h1 h2⟩⟩
theorem ok_BadClimb_init (T : Txt K mg) : FnOk P w K mg base CX0 1 T.f_BadClimb_init T.d_BadClimb_init ["self", "part"] (spKeep K T.c_BadClimb) := by
  refine T.F_BadClimb_init.ok sc_BadClimb_init (fun vs H Q E h => ?_) (fun cdv A outer s H vs Q E hr h => ?_)
  · obtain ⟨a, v, rfl, _⟩ := h
    rfl
  · obtain ⟨a, v, rfl, ha, k⟩ := h
    refine ⟨_, (pss_one (ps_ost (pv 0) (pv 1))), ?_⟩
    walk_at "rd"
    exact ⟨a, T.c_BadClimb, rfl, T.x_BadClimb, T.n_BadClimb_part, Or.inl ⟨ha, fun dx h1 h2 => k dx h1 h2⟩⟩
end
end K43
section
open Kg Kn LamX
open Evl (Ex)
/-! steps of the layer without the heap: `walk_at "n1"` one, `walk_at "nn"` as many as it can -/
local macro_rules | `(tactic| walk_at "om") => `(tactic| first | omega | (dsimp only; omega) | (dsimp only [NS.set, unown]; omega) | (simp only [List.length_map, List.length_append, List.length_cons, List.length_nil]; omega) | (simp only [NS.set, unown, List.length_map, List.length_append, List.length_cons, List.length_nil]; omega))
local macro_rules | `(tactic| walk_at "n0") => `(tactic| first
  | (with_reducible refine s_seq ?_)
  | (with_reducible refine s_set ?_)
  | (with_reducible refine s_ret ?_)
  | (with_reducible refine s_if ?_)
  | (with_reducible refine s_drop ?_)
  | (with_reducible refine s_next ?_)
  | (with_reducible refine s_cont ?_)
  | (with_reducible refine s_break ?_)
  | (with_reducible refine s_retN ?_)
  | (with_reducible refine s_par ?_)
  | (with_reducible refine s_par3 ?_)
  | ((with_reducible show wS _ (fun _ _ _ => tMkO _ _ _ _ _ _ _) _ _); first | refine s_raise (by assumption) ?_ | refine s_raise2 (by assumption) ?_)
  | ((with_reducible show wS _ (tAug _ _ _) _ _); first | refine s_aug (by exact rfl) ?_ | refine s_augC (by exact rfl) ?_)
  | (with_reducible refine wD_e ?_)
  | (with_reducible refine toD_d ?_)
  | (with_reducible refine toD_f ?_)
  | ((with_reducible show toD _ (.fr _) _); refine toD_fw (by exact rfl) ?_)
  | ((with_reducible show toD _ (.s _) _); first | refine toD_s (by exact rfl) ?_ | refine toD_sw (by exact rfl) (by exact rfl) ?_)
  | ((with_reducible show wE _ (tVar _) _ _); refine e_var (by exact rfl) (by exact rfl) ?_)
  | (with_reducible refine e_int ?_)
  | (with_reducible refine e_bl ?_)
  | (with_reducible refine e_str ?_)
  | (with_reducible refine e_non ?_)
  | (with_reducible refine e_ty ?_)
  | (with_reducible refine e_ref ?_)
  | (with_reducible refine e_ii ?_)
  | (with_reducible refine e_iiC ?_)
  | (with_reducible refine e_ib ?_)
  | (with_reducible refine e_eq ?_)
  | (with_reducible refine e_ne ?_)
  | ((with_reducible show wE _ (tOp (rEqNil _) _ _) _ _); refine e_eqNil ?_)
  | ((with_reducible show wE _ (tOp (rNeNil _) _ _) _ _); refine e_neNil ?_)
  | ((with_reducible show wE _ (tOp rInDT _ _) _ _); refine e_inSq ?_)
  | ((with_reducible show wE _ (tOp rNotInDT _ _) _ _); refine e_notInSq ?_)
  | ((with_reducible show wE _ (tOp (rInD _) _ _) _ _); refine e_inP ?_)
  | ((with_reducible show wE _ (tOp (rNotInD _) _ _) _ _); refine e_notInP ?_)
  | (with_reducible refine e_isN ?_)
  | (with_reducible refine e_notN ?_)
  | (with_reducible refine e_isB ?_)
  | (with_reducible refine e_neg ?_)
  | (with_reducible refine e_dnew ?_)
  | (with_reducible refine e_dget ?_)
  | (with_reducible refine e_disp ?_)
  | (with_reducible refine p_nil ?_)
  | (with_reducible refine p_cons ?_)
  | ((with_reducible show wE _ (tSl (rSlT _) _ tNoPart (tPart _)) _ _); refine e_slToT ?_)
  | ((with_reducible show wE _ (tSl (rSlT _) _ (tPart _) tNoPart) _ _); refine e_slFromT ?_)
  | ((with_reducible show wE _ (tSl _ _ tNoPart (tPart _)) _ _); refine e_slTo ?_)
  | ((with_reducible show wE _ (tSl _ _ (tPart _) tNoPart) _ _); refine e_slFrom ?_)
  | ((with_reducible show wE _ (tLam _ _ _) _ _); refine e_heard heard_tt (by assumption) (by assumption) ?_)
  | (with_reducible refine e_and ?_)
  | (with_reducible refine e_or ?_)
  | (with_reducible refine e_not ?_)
  | (with_reducible refine e_if ?_)
  | (with_reducible refine t_b ?_)
  | (with_reducible refine t_test ?_)
  | (with_reducible refine t_not ?_)
  | (with_reducible refine t_and ?_)
  | (with_reducible refine t_or ?_)
  | (with_reducible refine t_yes ?_)
  | (with_reducible refine a_nil ?_)
  | (with_reducible refine a_cons ?_)
  | (with_reducible refine v_nil ?_)
  | (with_reducible refine v_cons ?_)
  | (with_reducible refine e_tup ?_)
  | (with_reducible refine e_lst ?_)
  | ((with_reducible show wE _ (tFld _ _ _) _ _); refine e_fld ?_)
  | ((with_reducible show wE _ (tMake _ _ _ _ _) _ _); refine e_make ?_)
  | ((with_reducible show wE _ (tOp (rCatE _) _ _) _ _); refine e_catE ?_)
  | ((with_reducible show wE _ (tChain3 _ _ _ _ _ _ _) _ _); refine e_chain3 ?_)
  | (with_reducible refine e_cat ?_)
  | (with_reducible refine e_rep ?_)
  | ((with_reducible show wI _ (iTup _ _) _ _); refine i_tup ?_)
  | ((with_reducible show wI _ (iList _ _) _ _); refine i_list ?_)
  | (with_reducible refine i_rng1 ?_)
  | (with_reducible refine i_rng2 ?_)
  | ((with_reducible show wI _ (iEnum _ _) _ _); refine i_enum ?_)
  | (with_reducible refine s_for ?_)
  | ((with_reducible show wE _ (tDcT _ _ _ _ _ _) _ _); refine e_dcSq (by decide) ?_)
  | ((with_reducible show wG _ (gName _) _ _ _ _); refine g_name (by first | exact trivial | decide) ?_)
  | (with_reducible refine gs_nil ?_)
  | (with_reducible refine gs_cons ?_)
  | ((with_reducible show wG _ (gTup _ _ _) _ _ _ _); refine g_tup (by exact rfl) ?_)
  | ((with_reducible show wE _ (tOp (rIxL _) _ _) _ _); refine e_ixL ?_)
  | ((with_reducible show wE _ (tOp (rIxT _) _ _) _ _); refine e_ixT ?_)
  | ((with_reducible show wE _ (tOp (rIx _) _ _) _ _); refine e_ix ?_)
  | ((with_reducible show wE _ (tCB _ (tCons _ tNil)) _ _); refine e_len ?_)
  | ((with_reducible show wE _ (tCB _ (tCons _ tNil)) _ _); refine e_abs ?_)
  | ((with_reducible show wE _ (tCB _ (tCons _ tNil)) _ _); refine e_toInt ?_)
  | ((with_reducible show wE _ (tCB (rAll _) _) _ _); refine e_all ?_)
  | ((with_reducible show wE _ (tCB (rAny _) _) _ _); refine e_any ?_)
  | ((with_reducible show wE _ (tCB _ (tCons _ tNil)) _ _); refine e_toTup ?_)
  | ((with_reducible show wE _ (tCB _ (tCons _ tNil)) _ _); refine e_toList ?_)
  | ((with_reducible show wE _ (tChain _ _ _ _ _) _ _); refine e_chain ?_)
  | ((with_reducible show wE _ (tCB (rMax _) _) _ _); refine e_maxL ?_)
  | ((with_reducible show wE _ (tCB (rMin _) _) _ _); refine e_minL ?_)
  | ((with_reducible show wE _ (tCB (rIsi _) _) _ _); refine e_isi ?_)
  | ((with_reducible show wE _ (tCB _ (tCons _ (tCons _ tNil))) _ _); first | refine e_max2 ?_ | refine e_min2 ?_)
  | ((with_reducible show wS _ (tAsg (tTup _) (gTup _ _ _)) _ _); refine s_asgV (by repeat constructor) (by rfl) ?_)
  | ((with_reducible show wE _ (tLenSetA _ _) _ _); refine e_lenSet ?_)
  | ((with_reducible show wE _ (tBM _ _ rAppend _ _) _ _); refine e_append ?_)
  | ((with_reducible show wE _ (tBM _ _ rPopAt _ _) _ _); refine e_pop ?_)
  | ((with_reducible show wE _ (tBM _ _ _ _ (tCons _ (tCons _ tNil))) _ _); refine e_insert ?_)
  | ((with_reducible show wE _ (tCallK _ _ _ _ _) _ _); first
      | refine e_callK1 rfl (fun _ => rfl) (fun _ _ _ => rfl) (by first | assumption | exact noErr) ?_
      | refine e_callK2 rfl (fun _ => rfl) (fun _ _ => rfl) (fun _ _ _ _ => rfl) (by first | assumption | exact noErr) ?_
      | refine e_callK2' rfl (fun _ => rfl) (fun _ _ => rfl) (fun _ _ _ _ => rfl) (by first | assumption | exact noErr) ?_
      | refine e_callK3r rfl (fun _ => rfl) (fun _ _ => rfl) (fun _ _ _ => rfl) (fun _ _ _ _ _ => rfl) (by first | assumption | exact noErr) ?_)
  | ((with_reducible show wE _ (tCall (spR _ _) _ _ _) _ _); refine e_callR (by assumption) (by assumption) (by exact rfl) ?_)
  | ((with_reducible show wE _ (tCB (rRepr _) _) _ _); refine e_repr (by assumption) ?_)
  | ((with_reducible show wE _ (tCB (rReprG _) _) _ _); refine e_reprG (by assumption) ?_)
  | ((with_reducible show wE _ (tLstRg (tRg2 _ _)) _ _); refine e_lstRg ?_)
  | ((with_reducible show wE _ (tOp (rNeD _) _ _) _ _); refine e_neDL ?_)
  | ((with_reducible show wE _ (tCall (spU _ _) _ _ _) _ _); refine e_callU (by exact rfl) ?_)
  | ((with_reducible show wE _ (tCall (spP _ _) _ _ _) _ _); refine e_callP (by assumption) ?_)
  | ((with_reducible show wE _ (tCall (spP _ _) _ _ _) _ _); refine e_callP noErr ?_))
local macro_rules | `(tactic| walk_at "nx") => `(tactic| first
  | (refine ⟨_, rfl, ?_⟩)
  | (refine ⟨_, _, rfl, rfl, ?_⟩)
  | (refine ⟨_, _, _, rfl, rfl, rfl, ?_⟩)
  | (refine ⟨_, _, _, rfl, rfl, by first | exact EqS.ii _ _ | exact EqS.ss _ _ | exact EqS.bb _ _ | exact EqS.nn | exact EqS.ni _ | exact EqS.ins _ | exact EqS.ns _ | exact EqS.sn _ | exact EqS.si _ _ | exact EqS.is _ _, ?_⟩)
  | (refine ⟨_, _, _, rfl, rfl, ?_⟩)
  | (refine ⟨_, _, rfl, ?_⟩)
  | (refine ⟨_, _, rfl, by first | exact IntOf.i _ | exact IntOf.b _, ?_⟩)
  | (refine ⟨_, rfl, rfl, ?_⟩)
  | (refine ⟨_, _, _, rfl, by assumption, by assumption, rfl, ?_⟩)
  | (refine ⟨_, _, _, true, rfl, rfl, rfl, kit_ty (by decide +kernel), ?_⟩)
  | (refine ⟨_, _, _, false, rfl, rfl, rfl, kit_ty (by decide +kernel), ?_⟩))
local macro_rules | `(tactic| walk_at "n1") => `(tactic| first
  | ((with_reducible show I2 _ _ _); refine ⟨_, _, rfl, rfl, ?_⟩)
  | ((with_reducible show B1 _ _); refine ⟨_, rfl, ?_⟩)
  | ((with_reducible show I1 _ _); refine ⟨_, rfl, ?_⟩)
  | ((with_reducible show E2 _ _ _); refine ⟨_, _, _, rfl, rfl, by first | exact EqS.ii _ _ | exact EqS.ss _ _ | exact EqS.bb _ _ | exact EqS.nn | exact EqS.ni _ | exact EqS.ins _ | exact EqS.ns _ | exact EqS.sn _ | exact EqS.si _ _ | exact EqS.is _ _, ?_⟩)
  | ((with_reducible show Exists _); walk_at "nx")
  | ((with_reducible show @ite Prop _ _ _ _); first | refine ifT rfl ?_ | refine ifF rfl ?_)
  | ((with_reducible show And _ _); first | ((with_reducible show And (_ = _) _); refine ⟨rfl, _, rfl, ?_⟩) | (refine And.intro (by first | ((with_reducible show LE.le _ _); omega) | ((with_reducible show LT.lt _ _); omega) | assumption | omega | (exact cdiv_small (by omega) (by omega)) | (walk_at "om") | (refine Or.inl ⟨?_, ?_⟩ <;> omega) | (refine Or.inr ⟨?_, ?_⟩ <;> omega) | (refine ⟨?_, ?_⟩ <;> omega) | (refine ⟨?_, ?_, ?_⟩ <;> omega)) ?_))
  | walk_at "n0"
  | walk_at "nx")
local macro_rules | `(tactic| walk_at "cl") => `(tactic| dsimp only [initS, NS.set, NS.wipe, unown, unownD, wipeγ, List.set, List.map, List.length, List.cons_append, List.nil_append, List.replicate, Nat.reduceAdd, Nat.reduceSub, Nat.reduceMul, List.replicate, Bool.not_true, Bool.not_false])
local macro_rules | `(tactic| walk_at "nn") => `(tactic| repeat (walk_at "n1"))
local macro_rules | `(tactic| walk_at "nd") => `(tactic| repeat (first | walk_at "n1" | ((with_reducible show ∀ r : Int, 0 ≤ r → _ → _); intro r r0 r1; (try walk_at "cl"))))
namespace K43
open PySem PySem.Spec PyProof.Rows L2 Kg Kn
open Evl (Ex)


section
variable {P : Program} {w : World} {K : PySem.W.Frag} {mg : Str → Option Value} {base : Heap}
theorem urn_of {B : Hp} {j : Addr} {b : Nat} {G H : Hp} (eg : Ex G H) (gj : G j = none) (u : UrnAt K j b G H) : Urn K G j b H :=
  ⟨u, fun a o h => off_at (by rintro rfl; rw [gj] at h; cases h) (eg a o h)⟩
theorem log_big {n : Int} {k : Nat} (h : n.natAbs < 2 ^ k) (hk : k < 8999) : n.natAbs.log2 < 9000 := by
  by_cases z : n.natAbs = 0
  · rw [z]; decide
  · have := (Nat.log2_lt z).mpr h
    omega
/-- one draw -/
def pDraw : Nat → List D → (Nat → D → Prop) → Prop := fun b ds R => ∃ (n : Int), ds = [.int n] ∧ 1 ≤ b ∧ 0 < n ∧ n.natAbs.log2 < 9000 ∧ ∀ r, 0 ≤ r → r < n → R (b - 1) (.int r)
theorem ok_tap (T : Txt K mg) : FnOk P w K mg base CX0 1 T.f_w_pour T.d_w_pour ["keg", "many"] (spU K pDraw) := by
  refine (ok_draw T).imp fun vs H Q E h => ?_
  obtain ⟨G, j, b, us, ds, R, rfl, eg, gt, gj, u, rp, ⟨n, rfl, hb, h0, h9, k⟩, kR⟩ := h
  cases rp with
  | cons r r' =>
    cases r
    cases r'
    refine ⟨j, G, b - 1, n, rfl, h0, h9, urn_of (B := G) eg gj (by rw [Nat.sub_add_cancel hb]; exact u), fun r H' r0 r1 g u' => ?_⟩
    refine kR _ (.int r) (b - 1) G H' (k r r0 r1) (fun a o h n => g a o n h) (fun _ _ h => h) (fun a o h => (off_sub j _) a o (u'.ba a o h)) gt (fun a h => .inl h) u'.it (Rp.int r)
/-- an item is drawn -/
def pPick : Nat → List D → (Nat → D → Prop) → Prop := fun b ds R => ∃ (es : List D), ds = [.lst es] ∧ 1 ≤ b ∧ es ≠ [] ∧ es.length ≤ 1000 ∧ ∀ e ∈ es, R (b - 1) e
theorem ok_one (T : Txt K mg) : FnOk P w K mg base CX0 2 T.f_w_one T.d_w_one ["keg", "some"] (spU K pPick) := by
  have G_w_pour : FnOk P w K mg base CX0 1 T.f_w_pour T.d_w_pour ["keg", "many"] (spU K pDraw) := ok_tap T
  refine T.F_w_one.ok sc_w_one (spU_len fun b ds R ⟨es, e, _⟩ => by rw [e]; rfl) (fun cdv A outer s H vs Q E hr h => ?_)
  obtain ⟨G, j, b, us, ds, R, rfl, eg, gt, gj, u, rp, ⟨es, rfl, hb, ne, le, k⟩, kR⟩ := h
  have hr1 := hr
  refine ⟨_, (pss_one (ps_ret (pe_ix ix_list (pv 1) (pe_call G_w_pour hr1 rfl T.g_w_pour T.F_w_pour.kp (b_w_pour T) .nil pass0 (pa_cons (pv 0) (pa_cons (pe_callB call_len_seq (by rfl) T.z_len (by decide +kernel) (pa_cons (pv 1) pa_nil)) pa_nil))) (fun _ _ => rfl)))), ?_⟩
  refine enterU eg gt gj u rp kR fun c hc => ?_
  subst hc
  walk_at "nn"
  have l0 := List.length_pos_iff.mpr ne
  refine ⟨by omega, log_small (by omega), fun r r0 r1 => ?_⟩
  walk_at "cl"
  obtain ⟨x, hx, mx⟩ := atI_nat r0 r1
  refine ⟨_, _, _, rfl, rfl, hx, ?_⟩
  walk_at "nn"
  exact k x mx
/-- a draw below 2 ** 100 -/
def pTap : Nat → List D → (Nat → D → Prop) → Prop := fun b ds R => ∃ (n : Int), ds = [.int n] ∧ 1 ≤ b ∧ 0 < n ∧ n < 2 ^ 100 ∧ ∀ r, 0 ≤ r → r < n → R (b - 1) (.int r)
theorem ok_tapS (T : Txt K mg) : FnOk P w K mg base CX0 1 T.f_w_pour T.d_w_pour ["keg", "many"] (spU K pTap) := by
  refine (ok_tap T).imp fun vs H Q E h => ?_
  obtain ⟨G, j, b, us, ds, R, h1, h2, h3, h4, h5, h6, ⟨n, e, hb, n0, n1, k⟩, kR⟩ := h
  exact ⟨G, j, b, us, ds, R, h1, h2, h3, h4, h5, h6, ⟨n, e, hb, n0, log_big (k := 100) (by omega) (by decide), k⟩, kR⟩
end
end K43
namespace K43
open PySem PySem.Spec PyProof.Rows L2 Kg Kn
open Evl (Ex)


/-- a square's numbers -/
def sqD : D → Option (Int × Int)
  | .tup [.int x, .int y] => some (x, y)
  | .lst [.int x, .int y] => some (x, y)
  | .ktup [.int x, .int y] => some (x, y)
  | _ => none
theorem sqD_of {d : D} {p : PyData} (h : Py d p) : isSq p = (sqD d).isSome := by
  have two : ∀ {ds : List D} {ps : List PyData}, PyAll ds ps → isSq (.list ps) = (sqD (.lst ds)).isSome ∧ isSq (.tuple ps) = (sqD (.tup ds)).isSome ∧ isSq (.tuple ps) = (sqD (.ktup ds)).isSome := by
    intro ds ps h
    cases h with
    | nil => exact ⟨rfl, rfl, rfl⟩
    | cons h1 h2 =>
      cases h2 with
      | nil => exact ⟨by cases h1 <;> rfl, by cases h1 <;> rfl, by cases h1 <;> rfl⟩
      | cons h3 h4 =>
        cases h4 with
        | nil => exact ⟨by cases h1 <;> cases h3 <;> rfl, by cases h1 <;> cases h3 <;> rfl, by cases h1 <;> cases h3 <;> rfl⟩
        | cons h5 h6 => exact ⟨by cases h1 <;> cases h3 <;> rfl, by cases h1 <;> cases h3 <;> rfl, by cases h1 <;> cases h3 <;> rfl⟩
  cases h with
  | lst h => exact (two h).1
  | tup h => exact (two h).2.1
  | ktup h => exact (two h).2.2
  | _ => rfl
section
variable {P : Program} {w : World} {K : PySem.W.Frag} {mg : Str → Option Value} {base : Heap}
def pIsSq : List D → (D → Prop) → Er → Prop := fun ds R _ => ∃ (d : D) (p : PyData), ds = [d] ∧ Py d p ∧ R (.bl (sqD d).isSome)
theorem ok_sq (T : Txt K mg) : FnOk P w K mg base CX0 2 T.f_is_square T.d_is_square ["value"] (spP K pIsSq) := by
  refine (ok_is_square T).imp fun vs H Q E h => ?_
  obtain ⟨G, ds, R, X, eg, gt, rp, ⟨d, p, rfl, hp, k⟩, kR, kX⟩ := h
  cases rp with
  | cons r r' =>
    cases r'
    refine ⟨_, p, rfl, Da.mono eg _ (Rp.da p hp r), fun H' e => ?_⟩
    rw [sqD_of hp]
    exact kR _ _ G H' k e (fun _ _ h => h) (fun a o h => e a o (eg a o h)) gt (fun a h => .inl h) (.bl _)
def bdD : Option Int → D
  | none => .non
  | some i => .int i
/-- is it a number within -/
def inD (lo hi : Option Int) : D → Bool
  | .int i => lo.all (· ≤ i) && hi.all (i ≤ ·)
  | _ => false
theorem inD_int {d : D} {l h : Int} (a : inD (some l) (some h) d = true) : ∃ i, d = .int i ∧ l ≤ i ∧ i ≤ h := by
  cases d <;> simp [inD] at a
  exact ⟨_, rfl, a.1, a.2⟩
def pWithin : List D → (D → Prop) → Er → Prop := fun ds R _ => ∃ (d : D) (p : PyData) (lo hi : Option Int), ds = [d, bdD lo, bdD hi] ∧ Py d p ∧ R (.bl (inD lo hi d))
theorem bd_of {G : Hp} {v : V} : ∀ {o : Option Int}, Rp K G v (bdD o) → Bd v o
  | none, h => by cases (show Rp K G v .non from h); exact .non
  | some i, h => by cases (show Rp K G v (.int i) from h); exact .int i
theorem ok_within (T : Txt K mg) : FnOk P w K mg base CX0 2 T.f_is_within T.d_is_within ["value", "least", "most"] (spP K pWithin) := by
  refine (ok_is_within T).imp fun vs H Q E h => ?_
  obtain ⟨G, ds, R, X, eg, gt, rp, ⟨d, p, lo, hi, rfl, hp, k⟩, kR, kX⟩ := h
  cases rp with
  | cons r r' =>
    cases r' with
    | cons r2 r' =>
      cases r' with
      | cons r3 r' =>
        cases r'
        refine ⟨_, _, _, p, lo, hi, rfl, Da.mono eg _ (Rp.da p hp r), bd_of r2, bd_of r3, fun H' e => ?_⟩
        have e2 : withinD p lo hi = inD lo hi d := by cases hp <;> rfl
        rw [e2]
        exact kR _ _ G H' k e (fun _ _ h => h) (fun a o h => e a o (eg a o h)) gt (fun a h => .inl h) (.bl _)
theorem ok_BadSquare_init' (T : Txt K mg) : FnOk P w K mg base CX0 1 T.f_BadSquare_init T.d_BadSquare_init ["self", "part"] (Kn.spKeep T.c_BadSquare "part") := ok_BadSquare_init T
theorem ok_BadNumber_init' (T : Txt K mg) : FnOk P w K mg base CX0 1 T.f_BadNumber_init T.d_BadNumber_init ["self", "part"] (Kn.spKeep T.c_BadNumber "part") := ok_BadNumber_init T
theorem ok_BadClimb_init' (T : Txt K mg) : FnOk P w K mg base CX0 1 T.f_BadClimb_init T.d_BadClimb_init ["self", "part"] (Kn.spKeep T.c_BadClimb "part") := ok_BadClimb_init T
theorem ok_Misfit_init' (T : Txt K mg) : FnOk P w K mg base CX0 1 T.f_Misfit_init T.d_Misfit_init ["self", "part"] (Kn.spKeep T.c_Misfit "part") := ok_Misfit_init T
/-- a square as a tuple, or the error -/
def pSq (C : Addr) : List D → (D → Prop) → Er → Prop := fun ds R X => ∃ (d q : D) (p : PyData), ds = [d, q] ∧ Py d p ∧ (∀ x y : Int, sqD d = some (x, y) → R (.tup [.int x, .int y])) ∧ (sqD d = none → X C [("part", q)])
theorem ok_taken_square (T : Txt K mg) : FnOk P w K mg base (L2.CX P w) 3 T.f_taken_square T.d_taken_square ["square", "part"] (spP K (pSq T.c_BadSquare)) := by
  have G_is_square : FnOk P w K mg base CX0 2 T.f_is_square T.d_is_square ["value"] (spP K pIsSq) := ok_sq T
  have G_BadSquare_init : FnOk P w K mg base CX0 1 T.f_BadSquare_init T.d_BadSquare_init ["self", "part"] (Kn.spKeep T.c_BadSquare "part") := ok_BadSquare_init' T
  refine T.F_taken_square.okX sc_taken_square (spP_len fun ds R X ⟨d, q, p, h, _⟩ => by rw [h]; rfl) (fun cdv A outer s H vs Q E hr h => ?_)
  obtain ⟨G, ds, R, X, eg, gt, rp, ⟨d, q, p, rfl, hp, k1, k2⟩, kR, kX⟩ := h
  have hr1 := hr
  have small : sizeLine = 16777216 := sizeLine_eq
  refine ⟨_, (pss_cons (ps_if (pt_not (pt_val (pe_call G_is_square hr1 rfl T.g_is_square T.F_is_square.kp (b_is_square T) .nil pass0 (pa_cons (pv 0) pa_nil)))) (pss_one (ps_raise rfl (takes_of rfl rfl rfl rfl) (pmk_oex T.x_BadSquare T.i_BadSquare T.t_BadSquare G_BadSquare_init hr1 (b_BadSquare_init T) .nil pass0 rfl T.gc_BadSquare (pa_cons (pv 1) pa_nil)))) pss_nil)
  (pss_one (ps_ret (pe_tup (pa_cons (pe_ix ix_seq (pv 0) pe_int (fun _ _ => rfl)) (pa_cons (pe_ix ix_seq (pv 0) pe_int (fun _ _ => rfl)) pa_nil)))))), ?_⟩
  refine enterP eg gt rp kR kX fun c hc hX => ?_
  subst hc
  walk_at "cl"
  walk_at "nn"
  refine ⟨d, p, rfl, hp, ?_⟩
  walk_at "nn"
  refine ifB (fun c1 => ?_) (fun c1 => ?_)
  · walk_at "nn"
    exact k2 (by cases e : sqD d with | none => rfl | some z => rw [e] at c1; cases c1)
  obtain ⟨⟨x, y⟩, e⟩ : ∃ z, sqD d = some z := by
    cases e : sqD d with
    | none => rw [e] at c1; cases c1
    | some z => exact ⟨z, rfl⟩
  have k := k1 x y e
  obtain rfl | rfl | rfl : d = .tup [.int x, .int y] ∨ d = .lst [.int x, .int y] ∨ d = .ktup [.int x, .int y] := by
    unfold sqD at e
    split at e
    · cases e; exact .inl rfl
    · cases e; exact .inr (.inl rfl)
    · cases e; exact .inr (.inr rfl)
    · cases e
  all_goals
    walk_at "nn"
    exact k
/-- a number within, or the error -/
def pNum (C : Addr) : List D → (D → Prop) → Er → Prop := fun ds R X => ∃ (d q : D) (p : PyData) (lo hi : Option Int), ds = [d, bdD lo, bdD hi, q] ∧ Py d p ∧ (inD lo hi d = true → R d) ∧ (inD lo hi d = false → X C [("part", q)])
theorem ok_taken_number (T : Txt K mg) : FnOk P w K mg base (L2.CX P w) 3 T.f_taken_number T.d_taken_number ["number", "least", "most", "part"] (spP K (pNum T.c_BadNumber)) := by
  have G_is_within : FnOk P w K mg base CX0 2 T.f_is_within T.d_is_within ["value", "least", "most"] (spP K pWithin) := ok_within T
  have G_BadNumber_init : FnOk P w K mg base CX0 1 T.f_BadNumber_init T.d_BadNumber_init ["self", "part"] (Kn.spKeep T.c_BadNumber "part") := ok_BadNumber_init' T
  refine T.F_taken_number.okX sc_taken_number (spP_len fun ds R X ⟨d, q, p, lo, hi, h, _⟩ => by rw [h]; rfl) (fun cdv A outer s H vs Q E hr h => ?_)
  obtain ⟨G, ds, R, X, eg, gt, rp, ⟨d, q, p, lo, hi, rfl, hp, k1, k2⟩, kR, kX⟩ := h
  have hr1 := hr
  refine ⟨_, (pss_cons (ps_if (pt_not (pt_val (pe_call G_is_within hr1 rfl T.g_is_within T.F_is_within.kp (b_is_within T) .nil pass0 (pa_cons (pv 0) (pa_cons (pv 1) (pa_cons (pv 2) pa_nil)))))) (pss_one (ps_raise rfl (takes_of rfl rfl rfl rfl) (pmk_oex T.x_BadNumber T.i_BadNumber T.t_BadNumber G_BadNumber_init hr1 (b_BadNumber_init T) .nil pass0 rfl T.gc_BadNumber (pa_cons (pv 3) pa_nil)))) pss_nil)
  (pss_one (ps_ret (pv 0)))), ?_⟩
  refine enterP eg gt rp kR kX fun c hc hX => ?_
  subst hc
  walk_at "cl"
  walk_at "nn"
  refine ⟨d, p, lo, hi, rfl, hp, ?_⟩
  walk_at "nn"
  refine ifB (fun c1 => ?_) (fun c1 => ?_)
  · walk_at "nn"
    exact k2 (by simpa using c1)
  walk_at "nn"
  exact k1 (by simpa using c1)
/-- a power, or the error -/
def pPow (C : Addr) : List D → (D → Prop) → Er → Prop := fun ds R X => ∃ (d : D) (p : PyData), ds = [d] ∧ Py d p ∧ (inD (some 1) (some 9) d = true → R d) ∧ (inD (some 1) (some 9) d = false → X C [("part", .str "power")])
theorem ok_taken_power (T : Txt K mg) : FnOk P w K mg base (L2.CX P w) 4 T.f_taken_power T.d_taken_power ["power"] (spP K (pPow T.c_BadNumber)) := by
  have G_taken_number : FnOk P w K mg base (L2.CX P w) 3 T.f_taken_number T.d_taken_number ["number", "least", "most", "part"] (spP K (pNum T.c_BadNumber)) := ok_taken_number T
  refine T.F_taken_power.okX sc_taken_power (spP_len fun ds R X ⟨d, p, h, _⟩ => by rw [h]; rfl) (fun cdv A outer s H vs Q E hr h => ?_)
  obtain ⟨G, ds, R, X, eg, gt, rp, ⟨d, p, rfl, hp, k1, k2⟩, kR, kX⟩ := h
  have hr1 := hr
  refine ⟨_, (pss_one (ps_ret (pe_call G_taken_number hr1 rfl T.g_taken_number T.F_taken_number.kp (b_taken_number T) .nil (passes_call (takes_of rfl rfl rfl rfl) (fun _ _ _ _ h => h)) (pa_cons (pv 0) (pa_cons pe_int (pa_cons (C8.pe_gc (v := .int 9) rfl T.v_MOST_POWER rfl) (pa_cons pe_str pa_nil))))))), ?_⟩
  refine enterP eg gt rp kR kX fun c hc hX => ?_
  subst hc
  walk_at "cl"
  walk_at "nn"
  refine ⟨d, .str "power", p, some 1, some 9, rfl, hp, fun a => ?_, k2⟩
  walk_at "nn"
  exact k1 a
def combsI (p : Int) : Int := 4 * p ^ 3 + 1
def pCombs : List D → (D → Prop) → Er → Prop := fun ds R _ => ∃ p : Int, ds = [.int p] ∧ 1 ≤ p ∧ p ≤ 9 ∧ R (.int (combsI p))
theorem ok_combs_of (T : Txt K mg) : FnOk P w K mg base CX0 1 T.f_combs_of T.d_combs_of ["power"] (spP K pCombs) := by
  refine T.F_combs_of.ok sc_combs_of (spP_len fun ds R X ⟨d, h, _⟩ => by rw [h]; rfl) (fun cdv A outer s H vs Q E hr h => ?_)
  obtain ⟨G, ds, R, X, eg, gt, rp, ⟨p, rfl, p1, p9, k⟩, kR, kX⟩ := h
  have hr1 := hr
  refine ⟨_, (pss_one (ps_ret (pe_op op_add (pe_op op_mul pe_int (pe_op op_pow (pv 0) pe_int)) pe_int))), ?_⟩
  refine enterP eg gt rp kR kX fun c hc hX => ?_
  subst hc
  walk_at "cl"
  walk_at "nn"
  exact k
/-- how often the lot is doubled -/
def lotE (p : Int) : Nat := [0, 4, 9, 12, 14, 16, 17, 19, 19, 20].getD p.toNat 0
theorem lotE_lt {p : Int} (p1 : 1 ≤ p) (p9 : p ≤ 9) {i : Nat} (h : i ≤ lotE p) : decide ((2 : Int) ^ i < 16 * p ^ 5) = decide (i < lotE p) := by
  have go : ∀ q : Fin 10, 1 ≤ q.val → ∀ i : Fin 21, i.val ≤ lotE q.val → decide ((2 : Int) ^ i.val < 16 * (q.val : Int) ^ 5) = decide (i.val < lotE q.val) := by decide +kernel
  have e : p = (p.toNat : Int) := by omega
  have l20 : ∀ q : Fin 10, lotE q.val ≤ 20 := by decide +kernel
  have q20 := l20 ⟨p.toNat, by omega⟩
  have := go ⟨p.toNat, by omega⟩ (by simp only; omega) ⟨i, by simp only at q20; rw [e] at h; omega⟩ (by simp only; rw [e] at h; exact h)
  simp only at this
  rw [e]
  exact this
theorem combs_less (p : Int) : combsI p - 1 = 4 * p ^ 3 := by unfold combsI; omega
theorem lotE_le (p : Int) (p1 : 1 ≤ p) (p9 : p ≤ 9) : lotE p ≤ 20 := by
  have l20 : ∀ q : Fin 10, lotE q.val ≤ 20 := by decide +kernel
  have q20 := l20 ⟨p.toNat, by omega⟩
  rwa [show ((p.toNat : Nat) : Int) = p by omega] at q20
theorem cube_le {p : Int} (p1 : 1 ≤ p) (p9 : p ≤ 9) : (4 * p ^ 3).toNat ≤ 2916 ∧ 0 ≤ 4 * p ^ 3 := by
  have go : ∀ q : Fin 10, (4 * (q.val : Int) ^ 3).toNat ≤ 2916 ∧ 0 ≤ 4 * (q.val : Int) ^ 3 := by decide +kernel
  have := go ⟨p.toNat, by omega⟩
  rwa [show ((p.toNat : Nat) : Int) = p by omega] at this
theorem shl_lot {p : Int} (p1 : 1 ≤ p) (p9 : p ≤ 9) : CShl (2 ^ lotE p) (combsI p - 1) := by
  obtain ⟨c1, c2⟩ := cube_le p1 p9
  have l := lotE_le p p1 p9
  rw [combs_less, ← Int.toNat_of_nonneg c2]
  refine shl_ok (n := 21) ?_ (by omega)
  rw [Int.natAbs_pow]
  exact Nat.pow_lt_pow_right (by decide) (by omega)
/-- the height -/
def hgt (p : Int) : Int := 2 ^ lotE p * 2 ^ (4 * p ^ 3).toNat
def pHgt : List D → (D → Prop) → Er → Prop := fun ds R _ => ∃ p : Int, ds = [.int p] ∧ 1 ≤ p ∧ p ≤ 9 ∧ R (.int (hgt p))
theorem ok_height_of (T : Txt K mg) : FnOk P w K mg base CX0 2 T.f_height_of T.d_height_of ["power"] (spP K pHgt) := by
  have G_combs_of : FnOk P w K mg base CX0 1 T.f_combs_of T.d_combs_of ["power"] (spP K pCombs) := ok_combs_of T
  refine T.F_height_of.ok sc_height_of (spP_len fun ds R X ⟨d, h, _⟩ => by rw [h]; rfl) (fun cdv A outer s H vs Q E hr h => ?_)
  obtain ⟨G, ds, R, X, eg, gt, rp, ⟨p, rfl, p1, p9, k⟩, kR, kX⟩ := h
  have hr1 := hr
  refine ⟨_, (pss_cons (ps_set (i := 1) sc_height_of.nd rfl (Or.inl rfl) pe_int)
  (pss_cons (ps_while PassesOwn.never (pt_cmpR op_lt (pv 1) (pe_op op_mul pe_int (pe_op op_pow (pv 0) pe_int)) (nomark _)) (pss_one (ps_aug (i := 1) sc_height_of.nd rfl (Or.inl rfl) pe_int ip_mul)))
  (pss_one (ps_ret (pe_op op_shlW (pv 1) (pe_op op_sub (pe_call G_combs_of hr1 rfl T.g_combs_of T.F_combs_of.kp (b_combs_of T) .nil pass0 (pa_cons (pv 0) pa_nil)) pe_int)))))), ?_⟩
  refine enterP eg gt rp kR kX fun c hc hX => ?_
  subst hc
  walk_at "cl"
  walk_at "nn"
  refine s_while (fun m s' => ∃ i : Nat, s' = ⟨[.d (.int p), .d (.int (2 ^ i))], 0⟩ ∧ i + m = lotE p) (lotE p) ⟨0, rfl, by omega⟩ ?_
  rintro m s1 ⟨i, rfl, hi⟩
  walk_at "nn"
  rw [show decide ((2 : Int) ^ i < 16 * p ^ Int.toNat 5) = decide (i < lotE p) from lotE_lt p1 p9 (by omega)]
  refine ifB (fun c1 => ?_) (fun c1 => ?_)
  · have l := of_decide_eq_true c1
    walk_at "nn"
    exact ⟨m - 1, by omega, i + 1, by rw [Int.pow_succ]; rfl, by omega⟩
  · have l := of_decide_eq_false c1
    have e : i = lotE p := by omega
    subst e
    walk_at "nn"
    refine ⟨shl_lot p1 p9, ?_⟩
    rw [combs_less]
    exact k

end
end K43
namespace K43
open PySem PySem.Spec PyProof.Rows L2 Kg Kn
open Evl (Ex)


/-- a climb -/
structure Cl where
  p : Int
  x : Int
  y : Int
  os : List (Int × Int)
  ls : List Int
def clD (C : Addr) (c : Cl) : D := .ins C [("power", .int c.p), ("turn", .int c.ls.sum), ("square", .tup [.int c.x, .int c.y]), ("origins", .tup (c.os.map pD)), ("lasted", .tup (c.ls.map .int))]
section
variable {P : Program} {w : World} {K : PySem.W.Frag} {mg : Str → Option Value} {base : Heap}
def pInit : List D → List (Str × D) → Prop := fun ds fs => ∃ (p sq os : D) (ns : List Int), ds = [p, sq, os, .tup (ns.map .int)] ∧ fs = ([("power", p), ("turn", .int ns.sum), ("square", sq), ("origins", os), ("lasted", .tup (ns.map .int))] : List (Str × D))
theorem sqT_up {K : PySem.W.Frag} {H : Hp} {a x C dx : Addr} {xs : List V} {fs : List (Str × V)} {o : HO} (h : SqT K H a xs) (hx : H x = some (.ins C dx fs)) : SqT K (upd H x o) a xs := by
  rcases h with (h | ⟨q, h⟩) | h
  · exact .inl (.inl ((upd_ne (by rintro rfl; rw [hx] at h; cases h)).trans h))
  · exact .inl (.inr ⟨q, (upd_ne (by rintro rfl; rw [hx] at h; cases h)).trans h⟩)
  · exact .inr h
theorem ok_init (T : Txt K mg) : FnOk P w K mg base CX0 1 T.f_Climb_init T.d_Climb_init ["self", "power", "square", "origins", "lasted"] (spInit K T.c_Climb pInit) := by
  refine T.F_Climb_init.ok sc_Climb_init (fun vs H Q E h => ?_) (fun cdv A outer s H vs Q E hr h => ?_)
  · obtain ⟨G, x, dx, us, ds, fs, rfl, _, rp, _, ⟨p, sq, os, ns, rfl, _⟩, _⟩ := h
    rw [List.length_cons, rp.len]
    rfl
  · obtain ⟨G, x, dx, us, ds, fs, rfl, eg, rp, hx, ⟨p, sq, os, ns, rfl, rfl⟩, k⟩ := h
    cases rp with
    | cons r1 rp =>
    cases rp with
    | cons r2 rp =>
    cases rp with
    | cons r3 rp =>
    cases rp with
    | cons r4 rp =>
    cases rp
    rename_i v1 v2 v3 v4
    have hr1 := hr
    refine ⟨_, (pss_cons (ps_fld (pv 0) (pv 1) rfl)
  (pss_cons (ps_fld (pv 0) (pe_callB (cr_sumT rfl) (by rfl) T.z_sum (by decide +kernel) (pa_cons (pv 4) pa_nil)) rfl)
  (pss_cons (ps_fld (pv 0) (pv 2) rfl)
  (pss_cons (ps_fld (pv 0) (pv 3) rfl)
  (pss_one (ps_fld (pv 0) (pv 4) rfl)))))), ?_⟩
    have cl := T.oc_Climb.cl
    obtain ⟨a, hv4, ha, hn⟩ : ∃ a, v4 = .ref a ∧ SqT K G a (ns.map V.int) ∧ True := by
      cases (show Rp K G v4 (.tup (ns.map D.int)) from r4) with
      | tup h1 h2 => rw [RpAll.toInts h2] at h1; exact ⟨_, rfl, SqT.of h1, trivial⟩
    subst hv4
    refine ⟨_, rfl, _, rfl, x, T.c_Climb, dx, _, rfl, hx, cl, T.n_Climb_power, by decide, ?_⟩
    rw [show putF ("power" : Str) v1 [] = [(("power" : Str), v1)] from rfl]
    refine ⟨_, rfl, a, ns, rfl, sqT_up (Evl.ex_t eg ha) hx, ?_⟩
    refine ⟨_, rfl, x, T.c_Climb, dx, _, rfl, upd_same, cl, T.n_Climb_turn, (show 1 < 1000 by decide), ?_⟩
    rw [upd_upd]
    rw [show putF ("turn" : Str) (V.int ns.sum) [(("power" : Str), v1)] = [(("power" : Str), v1), (("turn" : Str), V.int ns.sum)] from rfl]
    refine ⟨_, rfl, ?_⟩
    refine ⟨_, rfl, x, T.c_Climb, dx, _, rfl, upd_same, cl, T.n_Climb_square, (show 2 < 1000 by decide), ?_⟩
    rw [upd_upd]
    rw [show putF ("square" : Str) (v2) [(("power" : Str), v1), (("turn" : Str), V.int ns.sum)] = [(("power" : Str), v1), (("turn" : Str), V.int ns.sum), (("square" : Str), v2)] from rfl]
    refine ⟨_, rfl, ?_⟩
    refine ⟨_, rfl, x, T.c_Climb, dx, _, rfl, upd_same, cl, T.n_Climb_origins, (show 3 < 1000 by decide), ?_⟩
    rw [upd_upd]
    rw [show putF ("origins" : Str) (v3) [(("power" : Str), v1), (("turn" : Str), V.int ns.sum), (("square" : Str), v2)] = [(("power" : Str), v1), (("turn" : Str), V.int ns.sum), (("square" : Str), v2), (("origins" : Str), v3)] from rfl]
    refine ⟨_, rfl, ?_⟩
    refine ⟨_, rfl, x, T.c_Climb, dx, _, rfl, upd_same, cl, T.n_Climb_lasted, (show 4 < 1000 by decide), ?_⟩
    rw [upd_upd]
    rw [show putF ("lasted" : Str) (V.ref a) [(("power" : Str), v1), (("turn" : Str), V.int ns.sum), (("square" : Str), v2), (("origins" : Str), v3)] = [(("power" : Str), v1), (("turn" : Str), V.int ns.sum), (("square" : Str), v2), (("origins" : Str), v3), (("lasted" : Str), V.ref a)] from rfl]
    exact k [("power", v1), ("turn", .int ns.sum), ("square", v2), ("origins", v3), ("lasted", .ref a)] rfl (.cons r1 (.cons (.int _) (.cons r2 (.cons r3 (.cons r4 .nil)))))
def Leads (p st x y n u v : Int) : Prop := 1 ≤ n ∧ n ≤ v - y ∧ v - y ≤ p * n ∧ (if u - x < 0 then -(u - x) else u - x) ≤ p * n ∧ v < hgt p ∧ (st = combsI p ∨ (n ≤ hgt p - y - hgt p / 2 ^ (st + 1).toNat ∧ v - y < hgt p - y - hgt p / 2 ^ (st + 1).toNat + p))
def Ends (p st v : Int) : Prop := st < combsI p ∧ hgt p - v ≤ hgt p / 2 ^ (st + 1).toNat
instance (p st v : Int) : Decidable (Ends p st v) := inferInstanceAs (Decidable (_ ∧ _))
def stg (c : Cl) : Int := (c.os.length : Int) - 1
structure Wf (c : Cl) : Prop where
  p1 : 1 ≤ c.p
  p9 : c.p ≤ 9
  os : 1 ≤ c.os.length
  ls : c.ls.length = c.os.length
  le : c.os.length ≤ 3000
def Cl.mv (c : Cl) (n u v : Int) : Cl := if Ends c.p (stg c) v then ⟨c.p, u, v, c.os ++ [(u, v)], c.ls.dropLast ++ [c.ls.getLastD 0 + n] ++ [0]⟩ else ⟨c.p, u, v, c.os, c.ls.dropLast ++ [c.ls.getLastD 0 + n]⟩
def pCheck (C : Addr) : List D → (D → Prop) → Er → Prop := fun ds R _ => ∃ fs, ds = [.ins C fs] ∧ R .non
theorem ok_check (T : Txt K mg) : FnOk P w K mg base (L2.CX P w) 3 T.f_check_climb T.d_check_climb ["climb"] (spP K (pCheck T.c_Climb)) := by
  have G_BadClimb_init : FnOk P w K mg base CX0 1 T.f_BadClimb_init T.d_BadClimb_init ["self", "part"] (Kn.spKeep T.c_BadClimb "part") := ok_BadClimb_init' T
  refine T.F_check_climb.okX sc_check_climb (spP_len fun ds R X ⟨fs, h, _⟩ => by rw [h]; rfl) (fun cdv A outer s H vs Q E hr h => ?_)
  obtain ⟨G, ds, R, X, eg, gt, rp, ⟨fs, rfl, k⟩, kR, kX⟩ := h
  have hr1 := hr
  have small : sizeLine = 16777216 := sizeLine_eq
  refine ⟨_, (pss_one (ps_if (pt_not (pt_val (pe_callB call_isi (by rfl) T.z_isinstance (by decide +kernel) (pa_cons (pv 0) (pa_cons (pe_glob (v := .ref T.c_Climb) rfl T.gc_Climb rfl) pa_nil))))) (pss_one (ps_raise rfl (takes_of rfl rfl rfl rfl) (pmk_oex T.x_BadClimb T.i_BadClimb T.t_BadClimb G_BadClimb_init hr1 (b_BadClimb_init T) .nil pass0 rfl T.gc_BadClimb (pa_cons pe_str pa_nil)))) pss_nil)), ?_⟩
  refine enterP eg gt rp kR kX fun c hc hX => ?_
  subst hc
  walk_at "cl"
  refine s_if ?_
  refine t_not ?_
  refine t_b ?_
  refine e_isiC ?_
  walk_at "nn"
  refine ⟨T.oc_Climb, T.k_Climb_Climb, ?_⟩
  walk_at "nn"
  exact k
def pStage (C : Addr) : List D → (D → Prop) → Er → Prop := fun ds R _ => ∃ c, ds = [clD C c] ∧ Wf c ∧ R (.int (stg c))
theorem ok_stage (T : Txt K mg) : FnOk P w K mg base CX0 1 T.f_stage_of T.d_stage_of ["climb"] (spP K (pStage T.c_Climb)) := by
  refine T.F_stage_of.ok sc_stage_of (spP_len fun ds R X ⟨fs, h, _⟩ => by rw [h]; rfl) (fun cdv A outer s H vs Q E hr h => ?_)
  obtain ⟨G, ds, R, X, eg, gt, rp, ⟨cl, rfl, wf, k⟩, kR, kX⟩ := h
  have hr1 := hr
  have small : sizeLine = 16777216 := sizeLine_eq
  have hcl := T.oc_Climb.cl
  have hn := T.n_Climb_origins
  refine ⟨_, (pss_one (ps_ret (pe_op op_sub (pe_callB call_len_seq (by rfl) T.z_len (by decide +kernel) (pa_cons (pe_fld (pv 0) rfl) pa_nil)) pe_int))), ?_⟩
  refine enterP eg gt rp kR kX fun c hc hX => ?_
  subst hc
  walk_at "cl"
  unfold clD
  walk_at "nn"
  rw [List.length_map]
  exact k
def pLeads : List D → (D → Prop) → Er → Prop := fun ds R _ => ∃ p st x y n u v : Int, ds = [.int p, .int st, .tup [.int x, .int y], .int n, .tup [.int u, .int v]] ∧ 1 ≤ p ∧ p ≤ 9 ∧ 0 ≤ st ∧ (Leads p st x y n u v → R (.bl true)) ∧ (¬ Leads p st x y n u v → R (.bl false))
theorem ok_leads (T : Txt K mg) : FnOk P w K mg base CX0 3 T.f_leads T.d_leads ["power", "stage", "square", "turns", "goal"] (spP K pLeads) := by
  have G_height_of : FnOk P w K mg base CX0 2 T.f_height_of T.d_height_of ["power"] (spP K pHgt) := ok_height_of T
  have G_combs_of : FnOk P w K mg base CX0 2 T.f_combs_of T.d_combs_of ["power"] (spP K pCombs) := (ok_combs_of T).mono (by decide)
  refine T.F_leads.ok sc_leads (spP_len fun ds R X ⟨p, st, x, y, n, u, v, h, _⟩ => by rw [h]; rfl) (fun cdv A outer s H vs Q E hr h => ?_)
  obtain ⟨G, ds, R, X, eg, gt, rp, ⟨p, st, x, y, n, u, v, rfl, p1, p9, s0, k1, k2⟩, kR, kX⟩ := h
  have hr1 := hr
  have small : sizeLine = 16777216 := sizeLine_eq
  refine ⟨_, (pss_cons (ps_set (i := 5) sc_leads.nd rfl (Or.inl rfl) (pe_call G_height_of hr1 rfl T.g_height_of T.F_height_of.kp (b_height_of T) .nil pass0 (pa_cons (pv 0) pa_nil)))
  (pss_cons (ps_set (i := 6) sc_leads.nd rfl (Or.inl rfl) (pe_op op_sub (pe_ix ix_tup (pv 4) pe_int (fun _ _ => rfl)) (pe_ix ix_tup (pv 2) pe_int (fun _ _ => rfl))))
  (pss_cons (ps_if (PW.pt (pw_or (pt_not (pt_chain3 op_le op_le op_le pe_int (pv 3) (pv 6) (pe_op op_mul (pv 0) (pv 3)))) (pw_or (pt_cmpR op_gt (pe_callB call_abs (by rfl) T.z_abs (by decide +kernel) (pa_cons (pe_op op_sub (pe_ix ix_tup (pv 4) pe_int (fun _ _ => rfl)) (pe_ix ix_tup (pv 2) pe_int (fun _ _ => rfl))) pa_nil)) (pe_op op_mul (pv 0) (pv 3)) (nomark _)) (pw_or1 (pt_cmpR op_ge (pe_ix ix_tup (pv 4) pe_int (fun _ _ => rfl)) (pv 5) (nomark _)))))) (pss_one (ps_ret pe_bl)) pss_nil)
  (pss_cons (ps_if (pt_cmpR op_eq (pv 1) (pe_call G_combs_of hr1 rfl T.g_combs_of T.F_combs_of.kp (b_combs_of T) .nil pass0 (pa_cons (pv 0) pa_nil)) (nomark _)) (pss_one (ps_ret pe_bl)) pss_nil)
  (pss_cons (ps_set (i := 7) sc_leads.nd rfl (Or.inl rfl) (pe_op op_sub (pe_op op_sub (pv 5) (pe_ix ix_tup (pv 2) pe_int (fun _ _ => rfl))) (pe_op op_shr (pv 5) (pe_op op_add (pv 1) pe_int))))
  (pss_one (ps_ret (pe_and (pe_cmpR op_le (pv 3) (pv 7) (nomark _)) (pe_one (pe_cmpR op_lt (pv 6) (pe_op op_add (pv 7) (pv 0)) (nomark _))))))))))), ?_⟩
  refine enterP eg gt rp kR kX fun c hc hX => ?_
  subst hc
  walk_at "cl"
  walk_at "nn"
  have no : (Leads p st x y n u v → False) → R (.bl false) := fun z => k2 z
  refine ifB (fun c1 => ?_) (fun c1 => ?_)
  case refine_2 =>
    have d1 := of_decide_eq_false c1
    walk_at "nn"
    exact no fun z => d1 z.1
  walk_at "nn"
  refine ifB (fun c2 => ?_) (fun c2 => ?_)
  case refine_2 =>
    have d2 := of_decide_eq_false c2
    walk_at "nn"
    exact no fun z => d2 z.2.1
  walk_at "nn"
  refine ifB (fun c3 => ?_) (fun c3 => ?_)
  · have d3 : ¬ v - y ≤ p * n := by simpa using c3
    walk_at "nn"
    exact no fun z => d3 z.2.2.1
  have d3 : v - y ≤ p * n := by simpa using c3
  walk_at "nn"
  refine ifB (fun c4 => ?_) (fun c4 => ?_)
  · have d4 := of_decide_eq_true c4
    walk_at "nn"
    exact no fun z => by have := z.2.2.2.1; omega
  have d4 := of_decide_eq_false c4
  walk_at "nn"
  refine ifB (fun c5 => ?_) (fun c5 => ?_)
  · have d5 := of_decide_eq_true c5
    walk_at "nn"
    exact no fun z => by have := z.2.2.2.2.1; omega
  have d5 := of_decide_eq_false c5
  have d1 := of_decide_eq_true c1
  have d2 := of_decide_eq_true c2
  have yes : (st = combsI p ∨ (n ≤ hgt p - y - hgt p / 2 ^ (st + 1).toNat ∧ v - y < hgt p - y - hgt p / 2 ^ (st + 1).toNat + p)) → R (.bl true) := fun z => k1 ⟨d1, d2, d3, by omega, by omega, z⟩
  walk_at "nn"
  refine ifB (fun c6 => ?_) (fun c6 => ?_)
  · walk_at "nn"
    exact yes (.inl (of_decide_eq_true c6))
  have d6 := of_decide_eq_false c6
  walk_at "nn"
  refine ifB (fun c7 => ?_) (fun c7 => ?_)
  · have d7 := of_decide_eq_true c7
    walk_at "nn"
    by_cases d8 : v - y < hgt p - y - hgt p / 2 ^ (st + 1).toNat + p
    · rw [decide_eq_true d8]
      exact yes (.inr ⟨d7, d8⟩)
    · rw [decide_eq_false d8]
      exact no fun z => z.2.2.2.2.2.elim d6 fun q => d8 q.2
  · have d7 := of_decide_eq_false c7
    walk_at "nn"
    exact no fun z => z.2.2.2.2.2.elim d6 fun q => d7 q.1
def pEnds : List D → (D → Prop) → Er → Prop := fun ds R _ => ∃ p st x y : Int, ds = [.int p, .int st, .tup [.int x, .int y]] ∧ 1 ≤ p ∧ p ≤ 9 ∧ 0 ≤ st ∧ R (.bl (decide (Ends p st y)))
theorem ok_ends (T : Txt K mg) : FnOk P w K mg base CX0 3 T.f_ends T.d_ends ["power", "stage", "square"] (spP K pEnds) := by
  have G_height_of : FnOk P w K mg base CX0 2 T.f_height_of T.d_height_of ["power"] (spP K pHgt) := ok_height_of T
  have G_combs_of : FnOk P w K mg base CX0 2 T.f_combs_of T.d_combs_of ["power"] (spP K pCombs) := (ok_combs_of T).mono (by decide)
  refine T.F_ends.ok sc_ends (spP_len fun ds R X ⟨p, st, x, y, h, _⟩ => by rw [h]; rfl) (fun cdv A outer s H vs Q E hr h => ?_)
  obtain ⟨G, ds, R, X, eg, gt, rp, ⟨p, st, x, y, rfl, p1, p9, s0, k⟩, kR, kX⟩ := h
  have hr1 := hr
  have small : sizeLine = 16777216 := sizeLine_eq
  refine ⟨_, (pss_cons (ps_set (i := 3) sc_ends.nd rfl (Or.inl rfl) (pe_call G_height_of hr1 rfl T.g_height_of T.F_height_of.kp (b_height_of T) .nil pass0 (pa_cons (pv 0) pa_nil)))
  (pss_one (ps_ret (pe_and (pe_cmpR op_lt (pv 1) (pe_call G_combs_of hr1 rfl T.g_combs_of T.F_combs_of.kp (b_combs_of T) .nil pass0 (pa_cons (pv 0) pa_nil)) (nomark _)) (pe_one (pe_cmpR op_le (pe_op op_sub (pv 3) (pe_ix ix_tup (pv 2) pe_int (fun _ _ => rfl))) (pe_op op_shr (pv 3) (pe_op op_add (pv 1) pe_int)) (nomark _))))))), ?_⟩
  refine enterP eg gt rp kR kX fun c hc hX => ?_
  subst hc
  walk_at "cl"
  walk_at "nn"
  refine ifB (fun c1 => ?_) (fun c1 => ?_)
  · walk_at "nn"
    rw [show decide (hgt p - y ≤ hgt p / 2 ^ (st + 1).toNat) = decide (Ends p st y) from decide_eq_decide.mpr ⟨fun z => ⟨of_decide_eq_true c1, z⟩, fun z => z.2⟩]
    exact k
  · rw [show decide (Ends p st y) = false from decide_eq_false fun z => of_decide_eq_false c1 z.1] at k
    walk_at "nn"
    exact k
theorem in_pow {i : Int} (i1 : 1 ≤ i) (i9 : i ≤ 9) (z : inD (some 1) (some 9) (.int i) = false) : False := by
  simp only [inD, Option.all_some, Bool.and_eq_false_iff, decide_eq_false_iff_not] at z
  omega
/-- a new climb -/
def c0 (p : Int) : Cl := ⟨p, 0, 0, [(0, 0)], [0]⟩
def pBegun (C : Addr) : List D → (D → Prop) → Er → Prop := fun ds R _ => ∃ p : Int, ds = [.int p] ∧ 1 ≤ p ∧ p ≤ 9 ∧ R (clD C (c0 p))
theorem ok_begun (T : Txt K mg) : FnOk P w K mg base (L2.CX P w) 6 T.f_begun T.d_begun ["power"] (spP K (pBegun T.c_Climb)) := by
  have G_taken_power : FnOk P w K mg base (L2.CX P w) 5 T.f_taken_power T.d_taken_power ["power"] (spP K (pPow T.c_BadNumber)) := (ok_taken_power T).mono (by decide)
  have G_Climb_init : FnOk P w K mg base CX0 4 T.f_Climb_init T.d_Climb_init ["self", "power", "square", "origins", "lasted"] (spInit K T.c_Climb pInit) := (ok_init T).mono (by decide)
  refine T.F_begun.okX sc_begun (spP_len fun ds R X ⟨p, h, _⟩ => by rw [h]; rfl) (fun cdv A outer s H vs Q E hr h => ?_)
  obtain ⟨G, ds, R, X, eg, gt, rp, ⟨p, rfl, p1, p9, k⟩, kR, kX⟩ := h
  have hr1 := hr
  have small : sizeLine = 16777216 := sizeLine_eq
  refine ⟨_, (pss_one (ps_ret (pe_make T.mk_Climb G_Climb_init hr1 (by rfl) T.gc_Climb (b_Climb_init T) .nil pass0 (pa_cons (pe_call G_taken_power hr1 rfl T.g_taken_power T.F_taken_power.kp (b_taken_power T) .nil (passes_call (takes_of rfl rfl rfl rfl) (fun _ _ _ _ h => h)) (pa_cons (pv 0) pa_nil)) (pa_cons (pe_tup (pa_cons pe_int (pa_cons pe_int pa_nil))) (pa_cons (pe_tup (pa_cons (pe_tup (pa_cons pe_int (pa_cons pe_int pa_nil))) pa_nil)) (pa_cons (pe_tup (pa_cons pe_int pa_nil)) pa_nil))))))), ?_⟩
  refine enterP eg gt rp kR kX fun c hc hX => ?_
  subst hc
  walk_at "cl"
  walk_at "nn"
  refine ⟨.int p, .int p, rfl, .int _, fun _ => ?_, fun z => (in_pow p1 p9 z).elim⟩
  walk_at "nn"
  refine ⟨_, ⟨.int p, _, _, [0], rfl, rfl⟩, ?_⟩
  walk_at "nn"
  exact k
theorem cut_last (ns : List Int) : Kn.cutD (ns.map D.int) none (some (-1)) = ns.dropLast.map D.int := by
  have e : HT.sIx (ns.map D.int).length (ns.map D.int).length (some (-1)) = ns.length - 1 := by
    unfold HT.sIx
    simp only [List.length_map]
    rw [if_pos (by decide)]
    omega
  unfold Kn.cutD
  rw [e, List.dropLast_eq_take, List.map_take]
  rfl
theorem cut_ne {n : Nat} (h : n ≠ 0) : HT.sIx n n (some (-1)) ≠ n := by
  unfold HT.sIx
  simp only []
  rw [if_pos (by decide)]
  omega
theorem at_last {ns : List Int} (h : ns.length ≠ 0) : atI (ns.map D.int) (-1) = some (.int (ns.getLastD 0)) := by
  have n : ns ≠ [] := by rintro rfl; simp at h
  have e : ns.map D.int = ns.dropLast.map D.int ++ [.int (ns.getLastD 0)] := by
    conv => lhs; rw [← List.dropLast_concat_getLast n]
    rw [List.map_append, List.getLastD_eq_getLast?, List.getLast?_eq_some_getLast n]
    rfl
  rw [e]
  exact L2.atI_last _ _
def pMoved (C cM : Addr) : List D → (D → Prop) → Er → Prop := fun ds R X => ∃ (c : Cl) (n : Int) (e : D) (pe : PyData) (u v : Int), ds = [clD C c, .int n, e] ∧ Wf c ∧ c.os.length < 3000 ∧ 1 ≤ n ∧ Py e pe ∧ sqD e = some (u, v) ∧
  (Leads c.p (stg c) c.x c.y n u v → R (clD C (c.mv n u v))) ∧ (¬ Leads c.p (stg c) c.x c.y n u v → X cM [("part", .str "square")])
theorem ok_moved (T : Txt K mg) : FnOk P w K mg base (L2.CX P w) 6 T.f_moved T.d_moved ["climb", "turns", "square"] (spP K (pMoved T.c_Climb T.c_Misfit)) := by
  have G_check_climb : FnOk P w K mg base (L2.CX P w) 5 T.f_check_climb T.d_check_climb ["climb"] (spP K (pCheck T.c_Climb)) := (ok_check T).mono (by decide)
  have G_taken_number : FnOk P w K mg base (L2.CX P w) 5 T.f_taken_number T.d_taken_number ["number", "least", "most", "part"] (spP K (pNum T.c_BadNumber)) := (ok_taken_number T).mono (by decide)
  have G_taken_square : FnOk P w K mg base (L2.CX P w) 5 T.f_taken_square T.d_taken_square ["square", "part"] (spP K (pSq T.c_BadSquare)) := (ok_taken_square T).mono (by decide)
  have G_stage_of : FnOk P w K mg base CX0 5 T.f_stage_of T.d_stage_of ["climb"] (spP K (pStage T.c_Climb)) := (ok_stage T).mono (by decide)
  have G_leads : FnOk P w K mg base CX0 5 T.f_leads T.d_leads ["power", "stage", "square", "turns", "goal"] (spP K pLeads) := (ok_leads T).mono (by decide)
  have G_ends : FnOk P w K mg base CX0 5 T.f_ends T.d_ends ["power", "stage", "square"] (spP K pEnds) := (ok_ends T).mono (by decide)
  have G_Climb_init : FnOk P w K mg base CX0 4 T.f_Climb_init T.d_Climb_init ["self", "power", "square", "origins", "lasted"] (spInit K T.c_Climb pInit) := (ok_init T).mono (by decide)
  have G_Misfit_init : FnOk P w K mg base CX0 4 T.f_Misfit_init T.d_Misfit_init ["self", "part"] (Kn.spKeep T.c_Misfit "part") := (ok_Misfit_init' T).mono (by decide)
  refine T.F_moved.okX sc_moved (spP_len fun ds R X ⟨c, n, e, pe, u, v, h, _⟩ => by rw [h]; rfl) (fun cdv A outer s H vs Q E hr h => ?_)
  obtain ⟨G, ds, R, X, eg, gt, rp, ⟨m, n, e, pe, u, v, rfl, wf, lt, n1, hpe, he, k1, k2⟩, kR, kX⟩ := h
  have hr1 := hr
  have small : sizeLine = 16777216 := sizeLine_eq
  have hcl := T.oc_Climb.cl
  have hn1 := T.n_Climb_power
  have hn2 := T.n_Climb_square
  have hn3 := T.n_Climb_origins
  have hn4 := T.n_Climb_lasted
  refine ⟨_, (pss_cons (ps_expr (pe_call G_check_climb hr1 rfl T.g_check_climb T.F_check_climb.kp (b_check_climb T) .nil (passes_call (takes_of rfl rfl rfl rfl) (fun _ _ _ _ h => h)) (pa_cons (pv 0) pa_nil)))
  (pss_cons (ps_expr (pe_call G_taken_number hr1 rfl T.g_taken_number T.F_taken_number.kp (b_taken_number T) .nil (passes_call (takes_of rfl rfl rfl rfl) (fun _ _ _ _ h => h)) (pa_cons (pv 1) (pa_cons pe_int (pa_cons pe_non (pa_cons pe_str pa_nil))))))
  (pss_cons (ps_set (i := 3) sc_moved.nd rfl (Or.inl rfl) (pe_call G_taken_square hr1 rfl T.g_taken_square T.F_taken_square.kp (b_taken_square T) .nil (passes_call (takes_of rfl rfl rfl rfl) (fun _ _ _ _ h => h)) (pa_cons (pv 2) (pa_cons pe_str pa_nil))))
  (pss_cons (ps_set (i := 4) sc_moved.nd rfl (Or.inl rfl) (pe_call G_stage_of hr1 rfl T.g_stage_of T.F_stage_of.kp (b_stage_of T) .nil pass0 (pa_cons (pv 0) pa_nil)))
  (pss_cons (ps_if (pt_not (pt_val (pe_call G_leads hr1 rfl T.g_leads T.F_leads.kp (b_leads T) .nil pass0 (pa_cons (pe_fld (pv 0) rfl) (pa_cons (pv 4) (pa_cons (pe_fld (pv 0) rfl) (pa_cons (pv 1) (pa_cons (pv 3) pa_nil)))))))) (pss_one (ps_raise rfl (takes_of rfl rfl rfl rfl) (pmk_oex T.x_Misfit T.i_Misfit T.t_Misfit G_Misfit_init hr1 (b_Misfit_init T) .nil pass0 rfl T.gc_Misfit (pa_cons pe_str pa_nil)))) pss_nil)
  (pss_cons (ps_set (i := 5) sc_moved.nd rfl (Or.inl rfl) (pe_op op_catE (pe_slice sl_tup (pe_fld (pv 0) rfl) po_none (po_some (pe_un un_neg pe_int))) (pe_tup (pa_cons (pe_op op_add (pe_ix ix_tup (pe_fld (pv 0) rfl) (pe_un un_neg pe_int) (fun _ _ => rfl)) (pv 1)) pa_nil))))
  (pss_cons (ps_if (pt_val (pe_call G_ends hr1 rfl T.g_ends T.F_ends.kp (b_ends T) .nil pass0 (pa_cons (pe_fld (pv 0) rfl) (pa_cons (pv 4) (pa_cons (pv 3) pa_nil))))) (pss_one (ps_ret (pe_make T.mk_Climb G_Climb_init hr1 (by rfl) T.gc_Climb (b_Climb_init T) .nil pass0 (pa_cons (pe_fld (pv 0) rfl) (pa_cons (pv 3) (pa_cons (pe_op op_catE (pe_fld (pv 0) rfl) (pe_tup (pa_cons (pv 3) pa_nil))) (pa_cons (pe_op op_catE (pv 5) (pe_tup (pa_cons pe_int pa_nil))) pa_nil))))))) pss_nil)
  (pss_one (ps_ret (pe_make T.mk_Climb G_Climb_init hr1 (by rfl) T.gc_Climb (b_Climb_init T) .nil pass0 (pa_cons (pe_fld (pv 0) rfl) (pa_cons (pv 3) (pa_cons (pe_fld (pv 0) rfl) (pa_cons (pv 5) pa_nil)))))))))))))), ?_⟩
  refine enterP eg gt rp kR kX fun c hc hX => ?_
  subst hc
  walk_at "cl"
  walk_at "nn"
  refine ⟨.int n, .str "turns", .int n, some 1, none, rfl, .int n, fun _ => ?_, fun z => ?_⟩
  case refine_2 => simp [inD] at z; omega
  walk_at "nn"
  refine ⟨e, .str "square", pe, rfl, hpe, fun x' y' ee => ?_, fun z => (by rw [he] at z; cases z)⟩
  rw [he] at ee
  cases ee
  walk_at "nn"
  have s0 : 0 ≤ stg m := by have := wf.os; unfold stg; omega
  refine ⟨m.p, stg m, m.x, m.y, n, u, v, rfl, wf.p1, wf.p9, s0, fun L => ?_, fun L => ?_⟩
  case refine_2 =>
    walk_at "nn"
    exact k2 L
  have k := k1 L
  have hl : m.ls.length ≠ 0 := by have := wf.ls; have := wf.os; omega
  have ll := wf.ls
  walk_at "nn"
  refine ⟨cut_ne (by rw [List.length_map]; exact hl), ?_⟩
  walk_at "nn"
  refine ⟨_, -1, _, rfl, rfl, at_last hl, ?_⟩
  walk_at "nn"
  rw [cut_last]
  refine ⟨by simp only [List.length_map, List.length_dropLast, List.length_cons, List.length_nil]; omega, ?_⟩
  walk_at "nn"
  refine ⟨m.p, stg m, u, v, rfl, wf.p1, wf.p9, s0, ?_⟩
  walk_at "nn"
  unfold Cl.mv at k
  refine ifB (fun c1 => ?_) (fun c1 => ?_)
  · rw [if_pos (of_decide_eq_true c1)] at k
    walk_at "nn"
    refine ⟨by simp only [List.length_append, List.length_map, List.length_dropLast, List.length_cons, List.length_nil]; omega, ?_⟩
    walk_at "nn"
    refine ⟨_, ⟨_, _, _, m.ls.dropLast ++ [m.ls.getLastD 0 + n] ++ [0], by rw [List.map_append, List.map_append]; rfl, rfl⟩, ?_⟩
    walk_at "nn"
    unfold clD at k
    simp only at k
    rw [show (m.os ++ [(u, v)]).map pD = m.os.map pD ++ [.tup [.int u, .int v]] by rw [List.map_append]; rfl] at k
    exact k
  · rw [if_neg (of_decide_eq_false c1)] at k
    walk_at "nn"
    refine ⟨_, ⟨_, _, _, m.ls.dropLast ++ [m.ls.getLastD 0 + n], by rw [List.map_append]; rfl, rfl⟩, ?_⟩
    walk_at "nn"
    exact k
end
end K43
namespace K43
open PySem PySem.Spec PyProof.Rows L2 Kg Kn
open Evl (Ex)


section
variable {P : Program} {w : World} {K : PySem.W.Frag} {mg : Str → Option Value} {base : Heap}
/-- the first column that is due, and how many -/
def colF (p st ox oy : Int) : Int := ox - p * (hgt p - oy) + (st - (ox - p * (hgt p - oy))) % combsI p
def colN (p st ox oy : Int) : Int := (ox + p * (hgt p - oy) - colF p st ox oy) / combsI p + 1
theorem combs_pos {p : Int} (p1 : 1 ≤ p) (p9 : p ≤ 9) : 0 < combsI p ∧ combsI p < 3000 := by
  obtain ⟨c1, c2⟩ := cube_le p1 p9
  unfold combsI
  omega
def pCols : List D → (D → Prop) → Er → Prop := fun ds R _ => ∃ p st ox oy : Int, ds = [.int p, .int st, .tup [.int ox, .int oy]] ∧ 1 ≤ p ∧ p ≤ 9 ∧ R (.tup [.int (colF p st ox oy), .int (colN p st ox oy)])
theorem ok_cols (T : Txt K mg) : FnOk P w K mg base CX0 3 T.f_columns_due T.d_columns_due ["power", "stage", "origin"] (spP K pCols) := by
  have G_height_of : FnOk P w K mg base CX0 2 T.f_height_of T.d_height_of ["power"] (spP K pHgt) := ok_height_of T
  have G_combs_of : FnOk P w K mg base CX0 2 T.f_combs_of T.d_combs_of ["power"] (spP K pCombs) := (ok_combs_of T).mono (by decide)
  refine T.F_columns_due.ok sc_columns_due (spP_len fun ds R X ⟨p, st, x, y, h, _⟩ => by rw [h]; rfl) (fun cdv A outer s H vs Q E hr h => ?_)
  obtain ⟨G, ds, R, X, eg, gt, rp, ⟨p, st, ox, oy, rfl, p1, p9, k⟩, kR, kX⟩ := h
  have hr1 := hr
  have small : sizeLine = 16777216 := sizeLine_eq
  obtain ⟨cp, cq⟩ := combs_pos p1 p9
  refine ⟨_, (pss_cons (ps_set (i := 3) sc_columns_due.nd rfl (Or.inl rfl) (pe_call G_combs_of hr1 rfl T.g_combs_of T.F_combs_of.kp (b_combs_of T) .nil pass0 (pa_cons (pv 0) pa_nil)))
  (pss_cons (ps_set (i := 4) sc_columns_due.nd rfl (Or.inl rfl) (pe_op op_mul (pv 0) (pe_op op_sub (pe_call G_height_of hr1 rfl T.g_height_of T.F_height_of.kp (b_height_of T) .nil pass0 (pa_cons (pv 0) pa_nil)) (pe_ix ix_tup (pv 2) pe_int (fun _ _ => rfl)))))
  (pss_cons (ps_set (i := 5) sc_columns_due.nd rfl (Or.inl rfl) (pe_op op_sub (pe_ix ix_tup (pv 2) pe_int (fun _ _ => rfl)) (pv 4)))
  (pss_cons (ps_set (i := 6) sc_columns_due.nd rfl (Or.inl rfl) (pe_op op_add (pv 5) (pe_op op_mod (pe_op op_sub (pv 1) (pv 5)) (pv 3))))
  (pss_one (ps_ret (pe_tup (pa_cons (pv 6) (pa_cons (pe_op op_add (pe_op op_fdivW (pe_op op_sub (pe_op op_add (pe_ix ix_tup (pv 2) pe_int (fun _ _ => rfl)) (pv 4)) (pv 6)) (pv 3)) pe_int) pa_nil))))))))), ?_⟩
  refine enterP eg gt rp kR kX fun c hc hX => ?_
  subst hc
  walk_at "cl"
  walk_at "nn"
  exact k
def lastO (c : Cl) : Int × Int := c.os.getLastD (0, 0)
def due (c : Cl) : Int := if stg c = combsI c.p then 0 else colN c.p (stg c) (lastO c).1 (lastO c).2 * c.p
theorem at_stg {c : Cl} (h : 1 ≤ c.os.length) : atI (c.os.map pD) (stg c) = some (.tup [.int (lastO c).1, .int (lastO c).2]) := by
  have n : c.os ≠ [] := by rintro z; rw [z] at h; simp at h
  have e : c.os[c.os.length - 1]? = some (lastO c) := by
    unfold lastO
    rw [List.getLastD_eq_getLast?, ← List.getLast?_eq_getElem?, List.getLast?_eq_some_getLast n]
    rfl
  unfold atI ixN
  rw [List.length_map, if_pos (by unfold stg; omega), if_pos (by unfold stg; omega)]
  show (c.os.map pD)[(stg c).toNat]? = _
  rw [show (stg c).toNat = c.os.length - 1 by unfold stg; omega, List.getElem?_map, e]
  rfl
def pDue (C : Addr) : List D → (D → Prop) → Er → Prop := fun ds R _ => ∃ c, ds = [clD C c] ∧ Wf c ∧ R (.int (due c))
theorem ok_due (T : Txt K mg) : FnOk P w K mg base (L2.CX P w) 5 T.f_due_of T.d_due_of ["climb"] (spP K (pDue T.c_Climb)) := by
  have G_check_climb : FnOk P w K mg base (L2.CX P w) 4 T.f_check_climb T.d_check_climb ["climb"] (spP K (pCheck T.c_Climb)) := (ok_check T).mono (by decide)
  have G_combs_of : FnOk P w K mg base CX0 4 T.f_combs_of T.d_combs_of ["power"] (spP K pCombs) := (ok_combs_of T).mono (by decide)
  have G_stage_of : FnOk P w K mg base CX0 4 T.f_stage_of T.d_stage_of ["climb"] (spP K (pStage T.c_Climb)) := (ok_stage T).mono (by decide)
  have G_columns_due : FnOk P w K mg base CX0 4 T.f_columns_due T.d_columns_due ["power", "stage", "origin"] (spP K pCols) := (ok_cols T).mono (by decide)
  refine T.F_due_of.okX sc_due_of (spP_len fun ds R X ⟨c, h, _⟩ => by rw [h]; rfl) (fun cdv A outer s H vs Q E hr h => ?_)
  obtain ⟨G, ds, R, X, eg, gt, rp, ⟨m, rfl, wf, k⟩, kR, kX⟩ := h
  have hr1 := hr
  have small : sizeLine = 16777216 := sizeLine_eq
  have hcl := T.oc_Climb.cl
  have hn1 := T.n_Climb_power
  have hn3 := T.n_Climb_origins
  have p1 := wf.p1
  have p9 := wf.p9
  refine ⟨_, (pss_cons (ps_expr (pe_call G_check_climb hr1 rfl T.g_check_climb T.F_check_climb.kp (b_check_climb T) .nil (passes_call (takes_of rfl rfl rfl rfl) (fun _ _ _ _ h => h)) (pa_cons (pv 0) pa_nil)))
  (pss_cons (ps_set (i := 1) sc_due_of.nd rfl (Or.inl rfl) (pe_call G_stage_of hr1 rfl T.g_stage_of T.F_stage_of.kp (b_stage_of T) .nil pass0 (pa_cons (pv 0) pa_nil)))
  (pss_cons (ps_if (pt_cmpR op_eq (pv 1) (pe_call G_combs_of hr1 rfl T.g_combs_of T.F_combs_of.kp (b_combs_of T) .nil pass0 (pa_cons (pe_fld (pv 0) rfl) pa_nil)) (nomark _)) (pss_one (ps_ret pe_int)) pss_nil)
  (pss_cons (ps_asg (pe_call G_columns_due hr1 rfl T.g_columns_due T.F_columns_due.kp (b_columns_due T) .nil pass0 (pa_cons (pe_fld (pv 0) rfl) (pa_cons (pv 1) (pa_cons (pe_ix ix_tup (pe_fld (pv 0) rfl) (pv 1) (fun _ _ => rfl)) pa_nil)))) (pg_tup rfl (pgs_cons (pg_name (i := 2) sc_due_of.nd rfl (Or.inl rfl)) (pgs_cons (pg_name (i := 3) sc_due_of.nd rfl (Or.inl rfl)) pgs_nil))))
  (pss_one (ps_ret (pe_op op_mul (pv 3) (pe_fld (pv 0) rfl)))))))), ?_⟩
  refine enterP eg gt rp kR kX fun c hc hX => ?_
  subst hc
  walk_at "cl"
  walk_at "nn"
  unfold due at k
  refine ifB (fun c1 => ?_) (fun c1 => ?_)
  · rw [if_pos (of_decide_eq_true c1)] at k
    walk_at "nn"
    exact k
  rw [if_neg (of_decide_eq_false c1)] at k
  walk_at "nn"
  refine s_asg ?_
  walk_at "nn"
  refine ⟨_, stg m, _, rfl, rfl, at_stg wf.os, ?_⟩
  walk_at "nn"
  refine ⟨m.p, stg m, _, _, rfl, p1, p9, ?_⟩
  walk_at "nn"
  exact k
/-- the square that is burnt next -/
def burnD (c : Cl) : D := if c.ls.getLastD 0 ≥ due c then .non else .tup [.int (colF c.p (stg c) (lastO c).1 (lastO c).2 + c.ls.getLastD 0 / c.p * combsI c.p), .int (hgt c.p + c.ls.getLastD 0 % c.p)]
def pBurn (C : Addr) : List D → (D → Prop) → Er → Prop := fun ds R _ => ∃ c, ds = [clD C c] ∧ Wf c ∧ R (burnD c)
theorem ok_burn (T : Txt K mg) : FnOk P w K mg base (L2.CX P w) 6 T.f_burn_of T.d_burn_of ["climb"] (spP K (pBurn T.c_Climb)) := by
  have G_due_of : FnOk P w K mg base (L2.CX P w) 5 T.f_due_of T.d_due_of ["climb"] (spP K (pDue T.c_Climb)) := ok_due T
  have G_combs_of : FnOk P w K mg base CX0 5 T.f_combs_of T.d_combs_of ["power"] (spP K pCombs) := (ok_combs_of T).mono (by decide)
  have G_height_of : FnOk P w K mg base CX0 5 T.f_height_of T.d_height_of ["power"] (spP K pHgt) := (ok_height_of T).mono (by decide)
  have G_stage_of : FnOk P w K mg base CX0 5 T.f_stage_of T.d_stage_of ["climb"] (spP K (pStage T.c_Climb)) := (ok_stage T).mono (by decide)
  have G_columns_due : FnOk P w K mg base CX0 5 T.f_columns_due T.d_columns_due ["power", "stage", "origin"] (spP K pCols) := (ok_cols T).mono (by decide)
  refine T.F_burn_of.okX sc_burn_of (spP_len fun ds R X ⟨c, h, _⟩ => by rw [h]; rfl) (fun cdv A outer s H vs Q E hr h => ?_)
  obtain ⟨G, ds, R, X, eg, gt, rp, ⟨m, rfl, wf, k⟩, kR, kX⟩ := h
  have hr1 := hr
  have small : sizeLine = 16777216 := sizeLine_eq
  have hcl := T.oc_Climb.cl
  have hn1 := T.n_Climb_power
  have hn3 := T.n_Climb_origins
  have hn4 := T.n_Climb_lasted
  have p1 := wf.p1
  have p9 := wf.p9
  obtain ⟨cp, cq⟩ := combs_pos p1 p9
  have hl : m.ls.length ≠ 0 := by have := wf.ls; have := wf.os; omega
  refine ⟨_, (pss_cons (ps_set (i := 1) sc_burn_of.nd rfl (Or.inl rfl) (pe_call G_due_of hr1 rfl T.g_due_of T.F_due_of.kp (b_due_of T) .nil (passes_call (takes_of rfl rfl rfl rfl) (fun _ _ _ _ h => h)) (pa_cons (pv 0) pa_nil)))
  (pss_cons (ps_set (i := 2) sc_burn_of.nd rfl (Or.inl rfl) (pe_ix ix_tup (pe_fld (pv 0) rfl) (pe_un un_neg pe_int) (fun _ _ => rfl)))
  (pss_cons (ps_if (pt_cmpR op_ge (pv 2) (pv 1) (nomark _)) (pss_one (ps_ret pe_non)) pss_nil)
  (pss_cons (ps_set (i := 3) sc_burn_of.nd rfl (Or.inl rfl) (pe_call G_stage_of hr1 rfl T.g_stage_of T.F_stage_of.kp (b_stage_of T) .nil pass0 (pa_cons (pv 0) pa_nil)))
  (pss_cons (ps_asg (pe_call G_columns_due hr1 rfl T.g_columns_due T.F_columns_due.kp (b_columns_due T) .nil pass0 (pa_cons (pe_fld (pv 0) rfl) (pa_cons (pv 3) (pa_cons (pe_ix ix_tup (pe_fld (pv 0) rfl) (pv 3) (fun _ _ => rfl)) pa_nil)))) (pg_tup rfl (pgs_cons (pg_name (i := 4) sc_burn_of.nd rfl (Or.inl rfl)) (pgs_cons (pg_name (i := 5) sc_burn_of.nd rfl (Or.inl rfl)) pgs_nil))))
  (pss_one (ps_ret (pe_tup (pa_cons (pe_op op_add (pv 4) (pe_op op_mul (pe_op op_fdivW (pv 2) (pe_fld (pv 0) rfl)) (pe_call G_combs_of hr1 rfl T.g_combs_of T.F_combs_of.kp (b_combs_of T) .nil pass0 (pa_cons (pe_fld (pv 0) rfl) pa_nil)))) (pa_cons (pe_op op_add (pe_call G_height_of hr1 rfl T.g_height_of T.F_height_of.kp (b_height_of T) .nil pass0 (pa_cons (pe_fld (pv 0) rfl) pa_nil)) (pe_op op_mod (pv 2) (pe_fld (pv 0) rfl))) pa_nil)))))))))), ?_⟩
  refine enterP eg gt rp kR kX fun c hc hX => ?_
  subst hc
  walk_at "cl"
  walk_at "nn"
  refine ⟨_, -1, _, rfl, rfl, at_last hl, ?_⟩
  walk_at "nn"
  unfold burnD at k
  refine ifB (fun c1 => ?_) (fun c1 => ?_)
  · rw [if_pos (of_decide_eq_true c1)] at k
    walk_at "nn"
    exact k
  rw [if_neg (of_decide_eq_false c1)] at k
  walk_at "nn"
  refine s_asg ?_
  walk_at "nn"
  refine ⟨_, stg m, _, rfl, rfl, at_stg wf.os, ?_⟩
  walk_at "nn"
  refine ⟨m.p, stg m, _, _, rfl, p1, p9, ?_⟩
  walk_at "nn"
  exact k
theorem at_get {α : Type} {xs : List α} {i : Int} (h0 : 0 ≤ i) (h1 : i < xs.length) : atI xs i = xs[i.toNat]? := by
  unfold atI ixN
  rw [if_pos h0, if_pos h1]
  rfl
/-- the square is burnt -/
def Burnt (c : Cl) (u v : Int) : Prop := 0 ≤ v - hgt c.p ∧ v - hgt c.p < c.p ∧ ∃ o l, c.os[(u % combsI c.p).toNat]? = some o ∧ c.ls[(u % combsI c.p).toNat]? = some l ∧
  0 ≤ (u - colF c.p (u % combsI c.p) o.1 o.2) / combsI c.p ∧ (u - colF c.p (u % combsI c.p) o.1 o.2) / combsI c.p < colN c.p (u % combsI c.p) o.1 o.2 ∧
  (u - colF c.p (u % combsI c.p) o.1 o.2) / combsI c.p * c.p + (v - hgt c.p) < l
def pIsB (C : Addr) : List D → (D → Prop) → Er → Prop := fun ds R _ => ∃ (c : Cl) (e : D) (pe : PyData) (u v : Int), ds = [clD C c, e] ∧ Wf c ∧ Py e pe ∧ sqD e = some (u, v) ∧ (Burnt c u v → R (.bl true)) ∧ (¬ Burnt c u v → R (.bl false))
theorem ok_isB (T : Txt K mg) : FnOk P w K mg base (L2.CX P w) 6 T.f_is_burnt T.d_is_burnt ["climb", "square"] (spP K (pIsB T.c_Climb)) := by
  have G_check_climb : FnOk P w K mg base (L2.CX P w) 5 T.f_check_climb T.d_check_climb ["climb"] (spP K (pCheck T.c_Climb)) := (ok_check T).mono (by decide)
  have G_taken_square : FnOk P w K mg base (L2.CX P w) 5 T.f_taken_square T.d_taken_square ["square", "part"] (spP K (pSq T.c_BadSquare)) := (ok_taken_square T).mono (by decide)
  have G_combs_of : FnOk P w K mg base CX0 5 T.f_combs_of T.d_combs_of ["power"] (spP K pCombs) := (ok_combs_of T).mono (by decide)
  have G_height_of : FnOk P w K mg base CX0 5 T.f_height_of T.d_height_of ["power"] (spP K pHgt) := (ok_height_of T).mono (by decide)
  have G_columns_due : FnOk P w K mg base CX0 5 T.f_columns_due T.d_columns_due ["power", "stage", "origin"] (spP K pCols) := (ok_cols T).mono (by decide)
  refine T.F_is_burnt.okX sc_is_burnt (spP_len fun ds R X ⟨c, e, pe, u, v, h, _⟩ => by rw [h]; rfl) (fun cdv A outer s H vs Q E hr h => ?_)
  obtain ⟨G, ds, R, X, eg, gt, rp, ⟨m, e, pe, u, v, rfl, wf, hpe, he, k1, k2⟩, kR, kX⟩ := h
  have hr1 := hr
  have small : sizeLine = 16777216 := sizeLine_eq
  have hcl := T.oc_Climb.cl
  have hn1 := T.n_Climb_power
  have hn3 := T.n_Climb_origins
  have hn4 := T.n_Climb_lasted
  have p1 := wf.p1
  have p9 := wf.p9
  obtain ⟨cp, cq⟩ := combs_pos p1 p9
  refine ⟨_, (pss_cons (ps_expr (pe_call G_check_climb hr1 rfl T.g_check_climb T.F_check_climb.kp (b_check_climb T) .nil (passes_call (takes_of rfl rfl rfl rfl) (fun _ _ _ _ h => h)) (pa_cons (pv 0) pa_nil)))
  (pss_cons (ps_asg (pe_call G_taken_square hr1 rfl T.g_taken_square T.F_taken_square.kp (b_taken_square T) .nil (passes_call (takes_of rfl rfl rfl rfl) (fun _ _ _ _ h => h)) (pa_cons (pv 1) (pa_cons pe_str pa_nil))) (pg_tup rfl (pgs_cons (pg_name (i := 2) sc_is_burnt.nd rfl (Or.inl rfl)) (pgs_cons (pg_name (i := 3) sc_is_burnt.nd rfl (Or.inl rfl)) pgs_nil))))
  (pss_cons (ps_set (i := 4) sc_is_burnt.nd rfl (Or.inl rfl) (pe_op op_sub (pv 3) (pe_call G_height_of hr1 rfl T.g_height_of T.F_height_of.kp (b_height_of T) .nil pass0 (pa_cons (pe_fld (pv 0) rfl) pa_nil))))
  (pss_cons (ps_set (i := 5) sc_is_burnt.nd rfl (Or.inl rfl) (pe_call G_combs_of hr1 rfl T.g_combs_of T.F_combs_of.kp (b_combs_of T) .nil pass0 (pa_cons (pe_fld (pv 0) rfl) pa_nil)))
  (pss_cons (ps_set (i := 6) sc_is_burnt.nd rfl (Or.inl rfl) (pe_op op_mod (pv 2) (pv 5)))
  (pss_cons (ps_if (PW.pt (pw_or (pt_not (pt_chain op_le op_lt pe_int (pv 4) (pe_fld (pv 0) rfl))) (pw_or1 (pt_cmpR op_ge (pv 6) (pe_callB call_len_seq (by rfl) T.z_len (by decide +kernel) (pa_cons (pe_fld (pv 0) rfl) pa_nil)) (nomark _))))) (pss_one (ps_ret pe_bl)) pss_nil)
  (pss_cons (ps_asg (pe_call G_columns_due hr1 rfl T.g_columns_due T.F_columns_due.kp (b_columns_due T) .nil pass0 (pa_cons (pe_fld (pv 0) rfl) (pa_cons (pv 6) (pa_cons (pe_ix ix_tup (pe_fld (pv 0) rfl) (pv 6) (fun _ _ => rfl)) pa_nil)))) (pg_tup rfl (pgs_cons (pg_name (i := 7) sc_is_burnt.nd rfl (Or.inl rfl)) (pgs_cons (pg_name (i := 8) sc_is_burnt.nd rfl (Or.inl rfl)) pgs_nil))))
  (pss_cons (ps_set (i := 9) sc_is_burnt.nd rfl (Or.inl rfl) (pe_op op_fdivW (pe_op op_sub (pv 2) (pv 7)) (pv 5)))
  (pss_one (ps_ret (pe_and (pe_chain op_le op_lt pe_int (pv 9) (pv 8)) (pe_one (pe_cmpR op_lt (pe_op op_add (pe_op op_mul (pv 9) (pe_fld (pv 0) rfl)) (pv 4)) (pe_ix ix_tup (pe_fld (pv 0) rfl) (pv 6) (fun _ _ => rfl)) (nomark _)))))))))))))), ?_⟩
  refine enterP eg gt rp kR kX fun c hc hX => ?_
  subst hc
  walk_at "cl"
  walk_at "nn"
  refine s_asg ?_
  walk_at "nn"
  refine ⟨e, .str "square", pe, rfl, hpe, fun x' y' ee => ?_, fun z => (by rw [he] at z; cases z)⟩
  rw [he] at ee
  cases ee
  walk_at "nn"
  have no : (Burnt m u v → False) → R (.bl false) := fun z => k2 z
  refine ifB (fun c1 => ?_) (fun c1 => ?_)
  case refine_2 =>
    have d1 := of_decide_eq_false c1
    walk_at "nn"
    exact no fun z => d1 z.1
  have d1 := of_decide_eq_true c1
  walk_at "nn"
  refine ifB (fun c2 => ?_) (fun c2 => ?_)
  · have d2 : ¬ v - hgt m.p < m.p := by simpa using c2
    walk_at "nn"
    exact no fun z => d2 z.2.1
  have d2 : v - hgt m.p < m.p := by simpa using c2
  walk_at "nn"
  rw [List.length_map]
  have s0 : 0 ≤ u % combsI m.p := Int.emod_nonneg _ (by omega)
  refine ifB (fun c3 => ?_) (fun c3 => ?_)
  · have d3 : (m.os.length : Int) ≤ u % combsI m.p := of_decide_eq_true c3
    walk_at "nn"
    refine no fun z => ?_
    obtain ⟨o, l, h1, _⟩ := z.2.2
    have := (List.getElem?_eq_some_iff.mp h1).1
    omega
  have d3 : ¬ (m.os.length : Int) ≤ u % combsI m.p := of_decide_eq_false c3
  obtain ⟨o, ho⟩ : ∃ o, m.os[(u % combsI m.p).toNat]? = some o := ⟨_, List.getElem?_eq_getElem (by omega)⟩
  obtain ⟨l, hl⟩ : ∃ l, m.ls[(u % combsI m.p).toNat]? = some l := ⟨_, List.getElem?_eq_getElem (by rw [wf.ls]; omega)⟩
  have a1 : atI (m.os.map pD) (u % combsI m.p) = some (.tup [.int o.1, .int o.2]) := by
    rw [at_get s0 (by rw [List.length_map]; omega), List.getElem?_map, ho]; rfl
  have a2 : atI (m.ls.map D.int) (u % combsI m.p) = some (.int l) := by
    rw [at_get s0 (by rw [List.length_map, wf.ls]; omega), List.getElem?_map, hl]; rfl
  walk_at "nn"
  refine s_asg ?_
  walk_at "nn"
  refine ⟨_, u % combsI m.p, _, rfl, rfl, a1, ?_⟩
  walk_at "nn"
  refine ⟨m.p, u % combsI m.p, _, _, rfl, p1, p9, ?_⟩
  walk_at "nn"
  have no' : ∀ b, (¬ Burnt m u v) → b = false → R (.bl b) := fun b z e => e ▸ k2 z
  have iff : Burnt m u v ↔ (0 ≤ (u - colF m.p (u % combsI m.p) o.1 o.2) / combsI m.p ∧ (u - colF m.p (u % combsI m.p) o.1 o.2) / combsI m.p < colN m.p (u % combsI m.p) o.1 o.2 ∧
      (u - colF m.p (u % combsI m.p) o.1 o.2) / combsI m.p * m.p + (v - hgt m.p) < l) := by
    constructor
    · rintro ⟨_, _, o', l', q1, q2, q3⟩
      rw [ho] at q1
      rw [hl] at q2
      cases q1
      cases q2
      exact q3
    · exact fun z => ⟨d1, d2, o, l, ho, hl, z⟩
  refine ifB (fun c4 => ?_) (fun c4 => ?_)
  case refine_2 =>
    have d4 := of_decide_eq_false c4
    walk_at "nn"
    exact no fun z => d4 (iff.mp z).1
  have d4 := of_decide_eq_true c4
  walk_at "nn"
  refine ifB (fun c5 => ?_) (fun c5 => ?_)
  case refine_2 =>
    have d5 := of_decide_eq_false c5
    walk_at "nn"
    exact no fun z => d5 (iff.mp z).2.1
  have d5 := of_decide_eq_true c5
  walk_at "nn"
  refine ⟨_, u % combsI m.p, _, rfl, rfl, a2, ?_⟩
  walk_at "nn"
  by_cases d6 : (u - colF m.p (u % combsI m.p) o.1 o.2) / combsI m.p * m.p + (v - hgt m.p) < l
  · rw [decide_eq_true d6]
    exact k1 (iff.mpr ⟨d4, d5, d6⟩)
  · rw [decide_eq_false d6]
    exact no fun z => d6 (iff.mp z).2.2
theorem eqv_int (i j : Int) : PyData.eqv (.int i) (.int j) = decide (i = j) := by rw [PyData.eqv]; rfl
end
end K43
namespace K43
open PySem PySem.Spec PyProof.Rows L2 Kg Kn
open Evl (Ex)


section
variable {P : Program} {w : World} {K : PySem.W.Frag} {mg : Str → Option Value} {base : Heap}
def pCaught (C : Addr) : List D → (D → Prop) → Er → Prop := fun ds R _ => ∃ c, ds = [clD C c] ∧ Wf c ∧ R (.bl (decide (c.y = hgt c.p - 1)))
theorem ok_caught (T : Txt K mg) : FnOk P w K mg base (L2.CX P w) 5 T.f_is_caught T.d_is_caught ["climb"] (spP K (pCaught T.c_Climb)) := by
  have G_check_climb : FnOk P w K mg base (L2.CX P w) 4 T.f_check_climb T.d_check_climb ["climb"] (spP K (pCheck T.c_Climb)) := (ok_check T).mono (by decide)
  have G_height_of : FnOk P w K mg base CX0 4 T.f_height_of T.d_height_of ["power"] (spP K pHgt) := (ok_height_of T).mono (by decide)
  refine T.F_is_caught.okX sc_is_caught (spP_len fun ds R X ⟨c, h, _⟩ => by rw [h]; rfl) (fun cdv A outer s H vs Q E hr h => ?_)
  obtain ⟨G, ds, R, X, eg, gt, rp, ⟨m, rfl, wf, k⟩, kR, kX⟩ := h
  have hr1 := hr
  have small : sizeLine = 16777216 := sizeLine_eq
  have hcl := T.oc_Climb.cl
  have hn1 := T.n_Climb_power
  have hn2 := T.n_Climb_square
  have p1 := wf.p1
  have p9 := wf.p9
  refine ⟨_, (pss_cons (ps_expr (pe_call G_check_climb hr1 rfl T.g_check_climb T.F_check_climb.kp (b_check_climb T) .nil (passes_call (takes_of rfl rfl rfl rfl) (fun _ _ _ _ h => h)) (pa_cons (pv 0) pa_nil)))
  (pss_one (ps_ret (pe_cmpR op_eq (pe_ix ix_tup (pe_fld (pv 0) rfl) pe_int (fun _ _ => rfl)) (pe_op op_sub (pe_call G_height_of hr1 rfl T.g_height_of T.F_height_of.kp (b_height_of T) .nil pass0 (pa_cons (pe_fld (pv 0) rfl) pa_nil)) pe_int) (nomark _))))), ?_⟩
  refine enterP eg gt rp kR kX fun c hc hX => ?_
  subst hc
  walk_at "cl"
  walk_at "nn"
  exact k
end
end K43
namespace K43
open PySem PySem.Spec PyProof.Rows L2 Kg Kn
open Evl (Ex)


local macro_rules | `(tactic| walk_at "n0") => `(tactic| first
  | ((with_reducible show wE _ (tCB (rIsiT _) _) _ _); refine e_isiLT ?_)
  | ((with_reducible show wE _ (tCB (rTypA _) _) _ _); refine e_typeO ?_)
  | ((with_reducible show wE _ (tOp (rIsC _) _ _) _ _); refine e_isCC ?_)
  | ((with_reducible show wE _ (tOp (rEqD _) _ _) _ _); refine e_eqDL ?_)
  | ((with_reducible show wE _ (tMake _ (spMk _ _ _) _ _ _) _ _); refine e_mk ?_))
/-- with tuples for lists, down to n -/
def Fx : Nat → D → D → Prop
  | 0, _, _ => False
  | n + 1, d, e => (∃ t, tyN d = some t ∧ seqN t = false ∧ e = d) ∨ ∃ zs : List (D × D), (d = .lst (zs.map (·.1)) ∨ d = .tup (zs.map (·.1))) ∧ e = .tup (zs.map (·.2)) ∧ zs.length < sizeLine ∧ ∀ z ∈ zs, Fx n z.1 z.2
def pFix (n : Nat) : List D → (D → Prop) → Er → Prop := fun ds R _ => ∃ d e, ds = [d] ∧ Fx n d e ∧ R e
section
variable {P : Program} {w : World} {K : PySem.W.Frag} {mg : Str → Option Value} {base : Heap}
theorem ok_fixed (T : Txt K mg) : ∀ n, FnOk P w K mg base CX0 n T.f_fixed T.d_fixed ["value"] (spP K (pFix n))
  | 0 => by
    have no : ∀ vs H Q E, ¬ spP K (pFix 0) vs H Q E := fun vs H Q E ⟨_, _, _, _, _, _, _, ⟨_, _, _, h, _⟩, _⟩ => h
    refine ⟨fun vs H Q E h => (no _ _ _ _ h).elim, ?_⟩
    intros
    exact (no _ _ _ _ (by assumption)).elim
  | n + 1 => by
    have G_fixed : FnOk P w K mg base CX0 n T.f_fixed T.d_fixed ["value"] (spP K (pFix n)) := ok_fixed T n
    refine T.F_fixed.ok sc_fixed (spP_len fun ds R X ⟨d, e, h, _⟩ => by rw [h]; rfl) (fun cdv A outer s H vs Q E hr h => ?_)
    obtain ⟨G, ds, R, X, eg, gt, rp, ⟨d, e, rfl, fx, k⟩, kR, kX⟩ := h
    have hr1 := hr
    have small : sizeLine = 16777216 := sizeLine_eq
    refine ⟨_, (pss_cons (ps_if (pt_val (pe_callB call_isiT (by rfl) T.z_isinstance (by decide +kernel) (pa_cons (pv 0) (pa_cons (pe_tup (pa_cons (pe_bltn (v := .ty "list") (by rfl) T.z_list (by decide +kernel) rfl) (pa_cons (pe_bltn (v := .ty "tuple") (by rfl) T.z_tuple (by decide +kernel) rfl) pa_nil))) pa_nil)))) (pss_one (ps_ret (pe_callTy call_tuple_of (by rfl) T.z_tuple (by decide +kernel) (pa_cons (pe_lc (own := [("item", 1)]) (g := (gName 1)) rfl sc_fixed.nd (pi_or (pi_list (pv 0)) (pi_tup (pv 0))) (blkOk_by (own := [("item", 1)]) (N := ["value", "item"]) (sc := defScope s_fixed) (by decide +kernel)) (fun _ _ _ _ _ => (pg_name (i := 1) sc_fixed.nd rfl (Or.inl rfl))) (fun _ _ _ _ _ => pts_nil) (fun _ _ _ _ _ => (pe_call G_fixed hr1 rfl T.g_fixed T.F_fixed.kp (b_fixed T) .nil pass0 (pa_cons (pv 1) pa_nil)))) pa_nil)))) pss_nil)
  (pss_one (ps_ret (pv 0)))), ?_⟩
    refine enterP eg gt rp kR kX fun c hc hX => ?_
    subst hc
    walk_at "cl"
    rcases fx with ⟨t, h1, h2, rfl⟩ | ⟨zs, h1, rfl, hz, fz⟩
    · walk_at "nn"
      refine ⟨_, t, rfl, h1, ?_⟩
      rw [h2]
      walk_at "nn"
      exact k
    · rcases h1 with rfl | rfl
      · walk_at "nn"
        refine e_lcP ?_
        refine i_or1 ?_
        walk_at "nn"
        refine ⟨D × D, zs, (·.1), fun z => some z.2, rfl, hz, fun z hzz => ?_, ?_⟩
        · walk_at "nn"
          exact ⟨z.1, z.2, rfl, fz z hzz, rfl, rfl, rfl⟩
        rw [List.filterMap_eq_map']
        walk_at "nn"
        exact k
      · walk_at "nn"
        refine e_lcP ?_
        refine i_or2 ?_
        walk_at "nn"
        refine ⟨D × D, zs, (·.1), fun z => some z.2, rfl, hz, fun z hzz => ?_, ?_⟩
        · walk_at "nn"
          exact ⟨z.1, z.2, rfl, fz z hzz, rfl, rfl, rfl⟩
        rw [List.filterMap_eq_map']
        walk_at "nn"
        exact k
/-- Paper.__init__(self, word, parts ..), self new -/
def spPap (K : PySem.W.Frag) (n : Nat) : Sp := fun vs H Q _ => ∃ G x C dx wd us ds es, vs = .ref x :: wd :: us ∧ Ex G H ∧ (∀ a o, G a = some o → Nt o) ∧ G x = none ∧ RpAll K G us ds ∧ H x = some (.ins C dx []) ∧ Cls K C ∧ NoAttr K C "word" ∧ NoAttr K C "parts" ∧
  us.length ≤ sizeLine ∧ Fx n (.tup ds) (.tup es) ∧
  ∀ (q : V) (G' H' : Hp), (∀ a o, a ≠ x → H a = some o → H' a = some o) → Ex G G' → Ex G' H' → (∀ a o, G' a = some o → Nt o) → G' x = none → (∀ a, G' a ≠ none → G a ≠ none ∨ Nw H a) → H' x = some (.ins C dx [("word", wd), ("parts", q)]) → Rp K G' q (.tup es) → Q .non H'
theorem ok_pap (T : Txt K mg) (n : Nat) : FnR P w K mg base CX0 (n + 1) T.f_Paper_init (spPap K n) := by
  have G_fixed : FnOk P w K mg base CX0 n T.f_fixed T.d_fixed ["value"] (spP K (pFix n)) := ok_fixed T n
  obtain ⟨oc, od, kV, doc, pm, an, cdv, ct, osl, e, lk, hcd⟩ := T.F_Paper_init.ex
  have base0 := StX.fn_star (P := P) (w := w) (mg := mg) (base := base) (CX := CX0) (k := n) (ps := ["self", "word"]) (pv := "parts") (N := ["self", "word", "parts"])
    (sp := fun vs H Q E => ∃ G x C dx wd p ds es, vs = [.ref x, wd, .ref p] ∧ Ex G H ∧ (∀ a o, G a = some o → Nt o) ∧ G x = none ∧ Rp K G (.ref p) (.tup ds) ∧ H x = some (.ins C dx []) ∧ Cls K C ∧ NoAttr K C "word" ∧ NoAttr K C "parts" ∧ Fx n (.tup ds) (.tup es) ∧
      ∀ (q : V) (G' H' : Hp), (∀ a o, a ≠ x → H a = some o → H' a = some o) → Ex G G' → Ex G' H' → (∀ a o, G' a = some o → Nt o) → G' x = none → (∀ a, G' a ≠ none → G a ≠ none ∨ Nw H a) → H' x = some (.ins C dx [("word", wd), ("parts", q)]) → Rp K G' q (.tup es) → Q .non H')
    (e ▸ lk) hcd sc_Paper_init StX.cxUp_none (fun us rest hl => match us, rest, hl with | [_, _], [], _ => rfl | [_, _], _ :: _, _ => rfl) (fun A outer s H vs Q E hr h => ?_)
  · refine base0.imp fun vs H Q E h => ?_
    obtain ⟨G, x, C, dx, wd, us, ds, es, rfl, eg, gt, gx, rp, hx, cl, n1, n2, lu, fx, k⟩ := h
    refine ⟨[.ref x, wd], us, rfl, rfl, lu, fun p hp => ?_⟩
    have gp : G p = none := by
      cases q : G p with
      | none => rfl
      | some o => rw [eg p o q] at hp; cases hp
    have xp : x ≠ p := by rintro rfl; rw [hx] at hp; cases hp
    have e1 : Ex G (upd G p (.tup us)) := Evl.Ex.new gp
    refine ⟨upd G p (.tup us), x, C, dx, wd, p, ds, es, rfl, ?_, ?_, by rw [upd_ne xp]; exact gx, .tup upd_same (rp.mono e1), by rw [upd_ne xp]; exact hx, cl, n1, n2, fx, fun q G' H' h1 h2 h3 h4 h5 h6 h7 h8 => ?_⟩
    · intro a o ha
      by_cases z : a = p
      · subst z; rw [upd_same] at ha ⊢; exact ha
      · rw [upd_ne z] at ha ⊢; exact eg a o ha
    · intro a o ha
      by_cases z : a = p
      · subst z; rw [upd_same] at ha; cases ha; exact fun _ z => nomatch z
      · rw [upd_ne z] at ha; exact gt a o ha
    · refine k q G' H' (fun a o n ha => h1 a o n ?_) (e1.trans h2) h3 h4 h5 (fun a ha => ?_) h7 h8
      · rw [upd_ne (by rintro rfl; rw [hp] at ha; cases ha)]; exact ha
      · rcases h6 a ha with z | z
        · by_cases e : a = p
          · subst e; exact .inr (.inl hp)
          · rw [upd_ne e] at z; exact .inl z
        · by_cases e : a = p
          · subst e; exact .inr (.inl hp)
          · rcases z with z | ⟨xs, z⟩
            · rw [upd_ne e] at z; exact .inr (.inl z)
            · rw [upd_ne e] at z; exact .inr (.inr ⟨xs, z⟩)
  · obtain ⟨G, x, C, dx, wd, p, ds, es, rfl, eg, gt, gx, rp, hx, cl, n1, n2, fx, k⟩ := h
    have hr1 := hr
    refine nox_ex ⟨_, (pss_cons (ps_fld (pv 0) (pv 1) rfl)
  (pss_one (ps_fld (pv 0) (pe_call G_fixed hr1 rfl T.g_fixed T.F_fixed.kp (b_fixed T) .nil pass0 (pa_cons (pv 2) pa_nil)) rfl))), ?_⟩
    have w0 : ∀ o, (upd H x (.ins C dx [("word", wd)])) x = some o → o = .ins C dx [("word", wd)] := fun o e => by rw [upd_same] at e; cases e; rfl
    refine ⟨_, rfl, _, rfl, x, C, dx, _, rfl, hx, cl, n1, by decide, ?_⟩
    rw [show putF ("word" : Str) wd [] = [(("word" : Str), wd)] from rfl]
    have eg1 : Ex G (upd H x (.ins C dx [("word", wd)])) := fun a o ha => by
      rw [upd_ne (by rintro rfl; rw [gx] at ha; cases ha)]; exact eg a o ha
    refine ⟨_, rfl, G, [.tup ds], fun d => d = .tup es, fun _ _ => False, eg1, gt, .cons rp .nil, ⟨.tup ds, .tup es, rfl, fx, rfl⟩, fun v d G' H' e hh eg' gh gt' nw rp' => ?_, fun _ _ _ _ _ _ z => z.elim⟩
    subst e
    have gx' : G' x = none := by
      cases q : G' x with
      | none => rfl
      | some o =>
        rcases nw x (by rw [q]; exact fun z => nomatch z) with z | z | ⟨xs, z⟩
        · exact absurd gx z
        · rw [upd_same] at z; cases z
        · rw [upd_same] at z; cases z
    refine ⟨_, rfl, x, C, dx, _, rfl, hh _ _ upd_same, cl, n2, (show 1 < 1000 by decide), ?_⟩
    rw [show putF ("parts" : Str) v [(("word" : Str), wd)] = [(("word" : Str), wd), (("parts" : Str), v)] from rfl]
    refine k v G' _ (fun a o n ha => ?_) eg' (fun a o ha => ?_) gt' gx' (fun a ha => ?_) upd_same rp'
    · rw [upd_ne n]; exact hh a o ((upd_ne n).trans ha)
    · rw [upd_ne (by rintro rfl; rw [gx'] at ha; cases ha)]; exact gh a o ha
    · rcases nw a ha with z | z | ⟨xs, z⟩
      · exact .inl z
      · by_cases e : a = x
        · subst e; exact absurd gx' ha
        · rw [upd_ne e] at z; exact .inr (.inl z)
      · by_cases e : a = x
        · subst e; exact absurd gx' ha
        · rw [upd_ne e] at z; exact .inr (.inr ⟨xs, z⟩)
def pCInit (n : Nat) : List D → List (Str × D) → Prop := fun ds fs => ∃ a b q a' b' q' : D, ds = [a, b, q] ∧ Fx n (.tup [a, b, q]) (.tup [a', b', q']) ∧ fs = ([("word", .str "caught"), ("parts", .tup [a', b', q']), ("origins", a'), ("lasted", b'), ("square", q')] : List (Str × D))
theorem ok_cinit (T : Txt K mg) (n : Nat) : FnOk P w K mg base CX0 (n + 2) T.f_Caught_init T.d_Caught_init ["self", "origins", "lasted", "square"] (spMk K T.c_Caught (pCInit n)) := by
  have G_Paper_init : FnR P w K mg base CX0 (n + 1) T.f_Paper_init (spPap K n) := ok_pap T n
  refine T.F_Caught_init.ok sc_Caught_init (fun vs H Q E h => ?_) (fun cdv A outer s H vs Q E hr h => ?_)
  · obtain ⟨G, x, dx, us, ds, fs, rfl, _, _, _, rp, _, ⟨a, b, q, a', b', q', rfl, _⟩, _⟩ := h
    rw [List.length_cons, rp.len]
    rfl
  · obtain ⟨G, x, dx, us, ds, fs, rfl, eg, gt, gx, rp, hx, ⟨a, b, q, a', b', q', rfl, fx, rfl⟩, k⟩ := h
    have hr1 := hr
    have lu := rp.len
    have small : sizeLine = 16777216 := sizeLine_eq
    have cl := T.oc_Caught.cl
    obtain ⟨v1, v2, v3, rfl⟩ : ∃ v1 v2 v3, us = [v1, v2, v3] := by
      match us, lu with
      | [v1, v2, v3], _ => exact ⟨v1, v2, v3, rfl⟩
    refine ⟨_, (pss_cons (ps_expr (Kg.pe_fmeth (pe_glob (v := .ref T.c_Paper) rfl T.gc_Paper rfl) T.cf_Paper_init G_Paper_init hr1 pass0 (pa_cons (pv 0) (pa_cons pe_str (pa_cons (pv 1) (pa_cons (pv 2) (pa_cons (pv 3) pa_nil)))))))
  (pss_one (ps_asg (pe_fld (pv 0) rfl) (pg_tup rfl (pgs_cons (Kg.pg_fld (pv 0)) (pgs_cons (Kg.pg_fld (pv 0)) (pgs_cons (Kg.pg_fld (pv 0)) pgs_nil))))))), ?_⟩
    refine ⟨rfl, _, rfl, _, rfl, _, rfl, _, rfl, ?_⟩
    refine ⟨G, x, T.c_Caught, dx, .str "caught", [v1, v2, v3], [a, b, q], [a', b', q'], rfl, eg, gt, gx, rp, hx, cl, T.n_Caught_word, T.n_Caught_parts, by simp only [List.length_cons, List.length_nil]; rw [small]; decide, fx, fun q0 G' H' h1 h2 h3 h4 h5 h6 h7 h8 => ?_⟩
    obtain ⟨p0, u1, u2, u3, rfl, hp0, r1, r2, r3⟩ : ∃ p0 u1 u2 u3, q0 = .ref p0 ∧ G' p0 = some (.tup [u1, u2, u3]) ∧ Rp K G' u1 a' ∧ Rp K G' u2 b' ∧ Rp K G' u3 q' := by
      cases h8 with
      | tup g1 g2 =>
        cases g2 with
        | cons r1 g2 =>
        cases g2 with
        | cons r2 g2 =>
        cases g2 with
        | cons r3 g2 =>
        cases g2
        exact ⟨_, _, _, _, rfl, g1, r1, r2, r3⟩
    refine ⟨_, rfl, x, T.c_Caught, dx, _, _, rfl, h7, cl, T.n_Caught_parts, rfl, ?_⟩
    refine ⟨p0, _, rfl, SqT.of (h3 _ _ hp0), rfl, ?_⟩
    refine ⟨_, _, rfl, _, rfl, x, T.c_Caught, dx, _, rfl, h7, cl, T.n_Caught_origins, (show 2 < 1000 by decide), ?_⟩
    refine ⟨_, _, rfl, _, rfl, x, T.c_Caught, dx, _, rfl, upd_same, cl, T.n_Caught_lasted, (show 3 < 1000 by decide), ?_⟩
    refine ⟨_, _, rfl, _, rfl, x, T.c_Caught, dx, _, rfl, upd_same, cl, T.n_Caught_square, (show 4 < 1000 by decide), ?_⟩
    refine ⟨rfl, ?_⟩
    rw [upd_upd, upd_upd]
    refine k [("word", .str "caught"), ("parts", .ref p0), ("origins", u1), ("lasted", u2), ("square", u3)] G' _ (fun c o n hc => by rw [upd_ne n]; exact h1 c o n hc) h2 (fun c o hc => by rw [upd_ne (by rintro rfl; rw [h5] at hc; cases hc)]; exact h3 c o hc) h4 h5 h6 upd_same rfl ?_
    exact .cons (.str _) (.cons (.tup hp0 (.cons r1 (.cons r2 (.cons r3 .nil)))) (.cons r1 (.cons r2 (.cons r3 .nil))))
def pFInit (n : Nat) : List D → List (Str × D) → Prop := fun ds fs => ∃ a a' : D, ds = [a] ∧ Fx n (.tup [a]) (.tup [a']) ∧ fs = ([("word", .str "free"), ("parts", .tup [a']), ("square", a')] : List (Str × D))
theorem ok_finit (T : Txt K mg) (n : Nat) : FnOk P w K mg base CX0 (n + 2) T.f_Free_init T.d_Free_init ["self", "square"] (spMk K T.c_Free (pFInit n)) := by
  have G_Paper_init : FnR P w K mg base CX0 (n + 1) T.f_Paper_init (spPap K n) := ok_pap T n
  refine T.F_Free_init.ok sc_Free_init (fun vs H Q E h => ?_) (fun cdv A outer s H vs Q E hr h => ?_)
  · obtain ⟨G, x, dx, us, ds, fs, rfl, _, _, _, rp, _, ⟨a, a', rfl, _⟩, _⟩ := h
    rw [List.length_cons, rp.len]
    rfl
  · obtain ⟨G, x, dx, us, ds, fs, rfl, eg, gt, gx, rp, hx, ⟨a, a', rfl, fx, rfl⟩, k⟩ := h
    have hr1 := hr
    have lu := rp.len
    have small : sizeLine = 16777216 := sizeLine_eq
    have cl := T.oc_Free.cl
    obtain ⟨v1, rfl⟩ : ∃ v1, us = [v1] := by
      match us, lu with
      | [v1], _ => exact ⟨v1, rfl⟩
    refine ⟨_, (pss_cons (ps_expr (Kg.pe_fmeth (pe_glob (v := .ref T.c_Denial) rfl T.gc_Denial rfl) T.cf_Denial_init G_Paper_init hr1 pass0 (pa_cons (pv 0) (pa_cons pe_str (pa_cons (pv 1) pa_nil)))))
  (pss_one (ps_fld (pv 0) (pe_ix ix_tup (pe_fld (pv 0) rfl) pe_int (fun _ _ => rfl)) rfl))), ?_⟩
    refine ⟨rfl, _, rfl, _, rfl, ?_⟩
    refine ⟨G, x, T.c_Free, dx, .str "free", [v1], [a], [a'], rfl, eg, gt, gx, rp, hx, cl, T.n_Free_word, T.n_Free_parts, by simp only [List.length_cons, List.length_nil]; rw [small]; decide, fx, fun q0 G' H' h1 h2 h3 h4 h5 h6 h7 h8 => ?_⟩
    obtain ⟨p0, u1, rfl, hp0, r1⟩ : ∃ p0 u1, q0 = .ref p0 ∧ G' p0 = some (.tup [u1]) ∧ Rp K G' u1 a' := by
      cases h8 with
      | tup g1 g2 =>
        cases g2 with
        | cons r1 g2 =>
        cases g2
        exact ⟨_, _, rfl, g1, r1⟩
    refine ⟨_, rfl, x, T.c_Free, dx, _, _, rfl, h7, cl, T.n_Free_parts, rfl, ?_⟩
    refine ⟨p0, _, 0, u1, rfl, rfl, SqT.of (h3 _ _ hp0), rfl, ?_⟩
    refine ⟨_, rfl, x, T.c_Free, dx, _, rfl, h7, cl, T.n_Free_square, (show 2 < 1000 by decide), ?_⟩
    refine k [("word", .str "free"), ("parts", .ref p0), ("square", u1)] G' _ (fun c o n hc => by rw [upd_ne n]; exact h1 c o n hc) h2 (fun c o hc => by rw [upd_ne (by rintro rfl; rw [h5] at hc; cases hc)]; exact h3 c o hc) h4 h5 h6 upd_same rfl ?_
    exact .cons (.str _) (.cons (.tup hp0 (.cons r1 .nil)) (.cons r1 .nil))
/-- a Caught of origins, lengths and a square -/
def cauD (C : Addr) (os : List (Int × Int)) (ls : List Int) (q : Int × Int) : D := .ins C [("word", .str "caught"), ("parts", .tup [.tup (os.map pD), .tup (ls.map .int), pD q]), ("origins", .tup (os.map pD)), ("lasted", .tup (ls.map .int)), ("square", pD q)]
def freD (C : Addr) (q : Int × Int) : D := .ins C [("word", .str "free"), ("parts", .tup [pD q]), ("square", pD q)]
theorem fx_int {n : Nat} (i : Int) : Fx (n + 1) (.int i) (.int i) := .inl ⟨"int", rfl, by decide, rfl⟩
theorem fx_pair {n : Nat} (q : Int × Int) : Fx (n + 2) (pD q) (pD q) := .inr ⟨[(.int q.1, .int q.1), (.int q.2, .int q.2)], .inr rfl, rfl, by simp only [List.length_cons, List.length_nil]; rw [sizeLine_eq]; decide, fun z hz => by
  simp only [List.mem_cons, List.not_mem_nil, or_false] at hz
  rcases hz with rfl | rfl <;> exact fx_int _⟩
theorem fx_pairs {n : Nat} (os : List (Int × Int)) (l : os.length < 4000) : Fx (n + 3) (.tup (os.map pD)) (.tup (os.map pD)) := .inr ⟨os.map fun q => (pD q, pD q), .inr (by rw [List.map_map]; rfl), by rw [List.map_map]; rfl, by rw [sizeLine_eq, List.length_map]; omega, fun z hz => by
  obtain ⟨q, _, rfl⟩ := List.mem_map.mp hz
  exact fx_pair q⟩
theorem fx_ints {n : Nat} (ls : List Int) (l : ls.length < 4000) : Fx (n + 2) (.tup (ls.map D.int)) (.tup (ls.map D.int)) := .inr ⟨ls.map fun q => (.int q, .int q), .inr (by rw [List.map_map]; rfl), by rw [List.map_map]; rfl, by rw [sizeLine_eq, List.length_map]; omega, fun z hz => by
  obtain ⟨q, _, rfl⟩ := List.mem_map.mp hz
  exact fx_int q⟩
theorem init_cau {os : List (Int × Int)} {ls : List Int} {q : Int × Int} (l1 : os.length < 4000) (l2 : ls.length < 4000) :
    pCInit 4 [.tup (os.map pD), .tup (ls.map .int), pD q] [("word", .str "caught"), ("parts", .tup [.tup (os.map pD), .tup (ls.map .int), pD q]), ("origins", .tup (os.map pD)), ("lasted", .tup (ls.map .int)), ("square", pD q)] :=
  ⟨_, _, _, _, _, _, rfl, .inr ⟨[(.tup (os.map pD), .tup (os.map pD)), (.tup (ls.map .int), .tup (ls.map .int)), (pD q, pD q)], .inr rfl, rfl, by simp only [List.length_cons, List.length_nil]; rw [sizeLine_eq]; decide, fun z hz => by
    simp only [List.mem_cons, List.not_mem_nil, or_false] at hz
    rcases hz with rfl | rfl | rfl
    · exact fx_pairs os l1
    · exact fx_ints ls l2
    · exact fx_pair q⟩, rfl⟩
theorem init_fre {q : Int × Int} : pFInit 4 [pD q] [("word", .str "free"), ("parts", .tup [pD q]), ("square", pD q)] :=
  ⟨_, _, rfl, .inr ⟨[(pD q, pD q)], .inr rfl, rfl, by simp only [List.length_cons, List.length_nil]; rw [sizeLine_eq]; decide, fun z hz => by
    simp only [List.mem_cons, List.not_mem_nil, or_false] at hz
    subst hz
    exact fx_pair q⟩, rfl⟩
def cauP (os : List (Int × Int)) (ls : List Int) (q : Int × Int) : PyData := .tuple [.tuple (os.map pP), .tuple (ls.map .int), pP q]
theorem cau_py (os : List (Int × Int)) (ls : List Int) (q : Int × Int) : Py (.tup [.tup (os.map pD), .tup (ls.map .int), pD q]) (cauP os ls q) := .tup (.cons (.tup (py_pairs os)) (.cons (.tup (py_ints ls)) (.cons (py_pair q) .nil)))
theorem pPs_pl : ∀ os : List (Int × Int), PyData.plainAll (os.map pP) = true ∧ PyData.canLayAll0 (os.map pP) = true ∧ PyData.depthAll (os.map pP) ≤ 1
  | [] => ⟨rfl, rfl, by simp [PyData.depthAll]⟩
  | z :: os => by
    obtain ⟨h1, h2, h3⟩ := pPs_pl os
    refine ⟨by simp [PyData.plainAll, pP, PyData.plain, h1], by simp [PyData.canLayAll0, pP, PyData.canLay0, h2], ?_⟩
    simp only [List.map_cons, PyData.depthAll, pP, PyData.depth]
    omega
theorem ints_pl : ∀ ls : List Int, PyData.plainAll (ls.map PyData.int) = true ∧ PyData.canLayAll0 (ls.map PyData.int) = true ∧ PyData.depthAll (ls.map PyData.int) = 0
  | [] => ⟨rfl, rfl, by simp [PyData.depthAll]⟩
  | z :: ls => by
    obtain ⟨h1, h2, h3⟩ := ints_pl ls
    exact ⟨by simp [PyData.plainAll, PyData.plain, h1], by simp [PyData.canLayAll0, PyData.canLay0, h2], by simp [PyData.depthAll, PyData.depth, h3]⟩
theorem pP_pl (q : Int × Int) : (pP q).plain = true ∧ (pP q).canLay0 = true ∧ (pP q).depth = 1 := by simp [pP, PyData.plain, PyData.plainAll, PyData.canLay0, PyData.canLayAll0, PyData.depth, PyData.depthAll]
theorem cau_eqv (os : List (Int × Int)) (ls : List Int) (q : Int × Int) : PyData.eqv (cauP os ls q) (cauP os ls q) = true := SeqAt.eqv_refl_plain _ (by
  simp only [cauP, PyData.plain, PyData.plainAll, (pPs_pl os).1, (ints_pl ls).1, (pP_pl q).1, Bool.and_true])
theorem cau_shaped {os : List (Int × Int)} {ls : List Int} {q : Int × Int} (l1 : os.length ≤ 6) (l2 : ls.length ≤ 6) : SeqAt.shaped (cauP os ls q) = true := by
  obtain ⟨-, a1, a2⟩ := pPs_pl os
  obtain ⟨-, b1, b2⟩ := ints_pl ls
  obtain ⟨-, c1, c2⟩ := pP_pl q
  simp only [SeqAt.shaped, cauP, PyData.canLay0, PyData.canLayAll0, a1, b1, c1, PyData.depth, PyData.depthAll, b2, c2, Bool.and_true, Bool.true_and, decide_eq_true_eq]
  omega
/-- Paper's == of two Caughts -/
def pEqC (C : Addr) : List D → (D → Prop) → Er → Prop := fun ds R _ => ∃ os ls q, ds = [cauD C os ls q, cauD C os ls q] ∧ os.length ≤ 6 ∧ ls.length ≤ 6 ∧ R (.bl true)
theorem ok_peq (T : Txt K mg) : FnOk P w K mg base CX0 1 T.f_Paper_eq T.d_Paper_eq ["self", "other"] (spP K (pEqC T.c_Caught)) := by
  refine T.F_Paper_eq.ok sc_Paper_eq (spP_len fun ds R X ⟨_, _, _, h, _⟩ => by rw [h]; rfl) (fun cdv A outer s H vs Q E hr h => ?_)
  obtain ⟨G, ds, R, X, eg, gt, rp, ⟨os, ls, q, rfl, l1, l2, k⟩, kR, kX⟩ := h
  have hr1 := hr
  have small : sizeLine = 16777216 := sizeLine_eq
  have hu64 : (A.deeper (envOfC "Paper.__eq__" (defScope s_Paper_eq) s.heap.objs.size T.f_Paper_eq cdv)).units + 64 < cLine := by have := hr.un; omega
  have cl := T.oc_Caught.cl
  have n1 := T.n_Caught_word
  have n2 := T.n_Caught_parts
  refine ⟨_, (pss_one (ps_ret (pe_and (pe_cmpR Kg.op_isC (pe_callTy Kg.call_typeA (by rfl) T.z_type (by decide +kernel) (pa_cons (pv 0) pa_nil)) (pe_callTy Kg.call_typeA (by rfl) T.z_type (by decide +kernel) (pa_cons (pv 1) pa_nil)) (nomark _)) (pe_and (pe_cmpR op_eq (pe_fld (pv 0) rfl) (pe_fld (pv 1) rfl) (nomark _)) (pe_one (pe_cmpR (op_eqD hu64) (pe_fld (pv 0) rfl) (pe_fld (pv 1) rfl) (nomark _))))))), ?_⟩
  refine enterP eg gt rp kR kX fun c hc hX => ?_
  subst hc
  walk_at "cl"
  unfold cauD
  walk_at "nn"
  refine ⟨T.ty_Caught, T.ty_Caught, ?_⟩
  rw [decide_eq_true rfl]
  walk_at "nn"
  refine ⟨cauP os ls q, cauP os ls q, .inl ⟨_, rfl, cau_py os ls q⟩, .inl ⟨_, rfl, cau_py os ls q⟩, cau_shaped l1 l2, cau_shaped l1 l2, ?_⟩
  rw [cau_eqv]
  walk_at "nn"
  exact k
def pBool : List D → (D → Prop) → Er → Prop := fun ds R _ => ∃ d, ds = [d] ∧ R (.bl false)
theorem ok_dbool (T : Txt K mg) : FnOk P w K mg base CX0 1 T.f_Denial___bool__ T.d_Denial___bool__ ["self"] (spP K pBool) := by
  refine T.F_Denial___bool__.ok sc_Denial___bool__ (spP_len fun ds R X ⟨_, h, _⟩ => by rw [h]; rfl) (fun cdv A outer s H vs Q E hr h => ?_)
  obtain ⟨G, ds, R, X, eg, gt, rp, ⟨d, rfl, k⟩, kR, kX⟩ := h
  have hr1 := hr
  refine ⟨_, (pss_one (ps_ret pe_bl)), ?_⟩
  refine enterP eg gt rp kR kX fun c hc hX => ?_
  subst hc
  walk_at "cl"
  walk_at "nn"
  exact k
def pJudged (C cC cF : Addr) : List D → (D → Prop) → Er → Prop := fun ds R _ => ∃ c, ds = [clD C c] ∧ Wf c ∧ (c.y = hgt c.p - 1 → R (cauD cC c.os c.ls (c.x, c.y))) ∧ (¬ c.y = hgt c.p - 1 → R (freD cF (c.x, c.y + 1)))
theorem ok_judged (T : Txt K mg) : FnOk P w K mg base (L2.CX P w) 8 T.f_judged T.d_judged ["climb"] (spP K (pJudged T.c_Climb T.c_Caught T.c_Free)) := by
  have G_check_climb : FnOk P w K mg base (L2.CX P w) 7 T.f_check_climb T.d_check_climb ["climb"] (spP K (pCheck T.c_Climb)) := (ok_check T).mono (by decide)
  have G_is_caught : FnOk P w K mg base (L2.CX P w) 7 T.f_is_caught T.d_is_caught ["climb"] (spP K (pCaught T.c_Climb)) := (ok_caught T).mono (by decide)
  have G_Caught_init : FnOk P w K mg base CX0 6 T.f_Caught_init T.d_Caught_init ["self", "origins", "lasted", "square"] (spMk K T.c_Caught (pCInit 4)) := ok_cinit T 4
  have G_Free_init : FnOk P w K mg base CX0 6 T.f_Free_init T.d_Free_init ["self", "square"] (spMk K T.c_Free (pFInit 4)) := ok_finit T 4
  refine T.F_judged.okX sc_judged (spP_len fun ds R X ⟨c, h, _⟩ => by rw [h]; rfl) (fun cdv A outer s H vs Q E hr h => ?_)
  obtain ⟨G, ds, R, X, eg, gt, rp, ⟨m, rfl, wf, k1, k2⟩, kR, kX⟩ := h
  have hr1 := hr
  have small : sizeLine = 16777216 := sizeLine_eq
  have hcl := T.oc_Climb.cl
  have hn2 := T.n_Climb_square
  have hn3 := T.n_Climb_origins
  have hn4 := T.n_Climb_lasted
  refine ⟨_, (pss_cons (ps_expr (pe_call G_check_climb hr1 rfl T.g_check_climb T.F_check_climb.kp (b_check_climb T) .nil (passes_call (takes_of rfl rfl rfl rfl) (fun _ _ _ _ h => h)) (pa_cons (pv 0) pa_nil)))
  (pss_cons (ps_if (pt_val (pe_call G_is_caught hr1 rfl T.g_is_caught T.F_is_caught.kp (b_is_caught T) .nil (passes_call (takes_of rfl rfl rfl rfl) (fun _ _ _ _ h => h)) (pa_cons (pv 0) pa_nil))) (pss_one (ps_ret (pe_make T.mk_Caught G_Caught_init hr1 (by rfl) T.gc_Caught (b_Caught_init T) .nil pass0 (pa_cons (pe_fld (pv 0) rfl) (pa_cons (pe_fld (pv 0) rfl) (pa_cons (pe_fld (pv 0) rfl) pa_nil)))))) pss_nil)
  (pss_cons (ps_asg (pe_fld (pv 0) rfl) (pg_tup rfl (pgs_cons (pg_name (i := 1) sc_judged.nd rfl (Or.inl rfl)) (pgs_cons (pg_name (i := 2) sc_judged.nd rfl (Or.inl rfl)) pgs_nil))))
  (pss_one (ps_ret (pe_make T.mk_Free G_Free_init hr1 (by rfl) T.gc_Free (b_Free_init T) .nil pass0 (pa_cons (pe_tup (pa_cons (pv 1) (pa_cons (pe_op op_add (pv 2) pe_int) pa_nil))) pa_nil))))))), ?_⟩
  refine enterP eg gt rp kR kX fun c hc hX => ?_
  subst hc
  walk_at "cl"
  walk_at "nn"
  dsimp only
  have lo := wf.le
  have ll := wf.ls
  refine ifB (fun d1 => ?_) (fun d1 => ?_)
  · have k := k1 (of_decide_eq_true d1)
    unfold clD
    walk_at "nn"
    refine ⟨_, init_cau (os := m.os) (ls := m.ls) (q := (m.x, m.y)) (by omega) (by omega), ?_⟩
    walk_at "nn"
    exact k
  · have k := k2 (of_decide_eq_false d1)
    unfold clD
    walk_at "nn"
    refine s_asg ?_
    walk_at "nn"
    refine ⟨_, init_fre (q := (m.x, m.y + 1)), ?_⟩
    walk_at "nn"
    exact k
end
end K43
namespace K43
open PySem PySem.Spec PyProof.Rows L2 Kg Kn
open Evl (Ex)
theorem e_notB {c : Cfg} {s : NS} {ta tb : TE} {R : Vw → NS → Prop} (h : wE c ta s fun w s1 => wE c tb s1 fun u s2 => ∃ a b, w = .d (.bl a) ∧ u = .d (.bl b) ∧ R (.d (.bl (!decide (a = b)))) s2) : wE c (tOp rNotB ta tb) s R :=
  e_op h fun σ G H Hs v x w u s2 Q t r1 r2 ⟨a, b, e1, e2, p⟩ k => by
    subst e1 e2
    exact ⟨a, b, bl_at r1, bl_at r2, k _ (.d (.bl _)) s2 G H p t .refl (Rp.bl _)⟩


local macro_rules | `(tactic| walk_at "n0") => `(tactic| first
  | (with_reducible refine e_notB ?_)
  | ((with_reducible show wT _ (fun σ H Q => _) _ _); refine t_truO ?_)
  | ((with_reducible show wE _ (tOp rInDK _ _) _ _); refine e_inDK ?_)
  | ((with_reducible show wE _ (tOp rNotInDK _ _) _ _); refine e_notInDK ?_)
  | ((with_reducible show wE _ (tBM _ _ (rIndex _) _ _) _ _); refine e_index ?_))
/-- the book of what is burnt -/
def bkL (us : List Int) : List (Key × D) := us.map fun u => (.inl u, .bl true)
def bkD (us : List Int) : D := .dK (bkL us)
theorem bk_any (us : List Int) (n : Int) : ((bkL us).any fun kv => decide (kv.1 = (.inl n : Key))) = decide (n ∈ us) := by
  rw [Bool.eq_iff_iff, List.any_eq_true, decide_eq_true_eq]
  unfold bkL
  constructor
  · rintro ⟨kv, h1, h2⟩
    obtain ⟨u, hu, rfl⟩ := List.mem_map.mp h1
    have := of_decide_eq_true h2
    cases this
    exact hu
  · exact fun h => ⟨_, List.mem_map.mpr ⟨n, h, rfl⟩, decide_eq_true rfl⟩
section
variable {P : Program} {w : World} {K : PySem.W.Frag} {mg : Str → Option Value} {base : Heap}
def pStep : Nat → List D → (Nat → D → Prop) → Prop := fun b ds R => ∃ (way x left : Int) (us : List Int), ds = [.int way, .int x, .int left, bkD us] ∧ 1 ≤ b ∧ 0 ≤ left ∧ left ≤ 256 ∧ -1000 ≤ x ∧ x ≤ 1000 ∧ us.length ≤ 300 ∧
  ∀ (b' : Nat) (d : Int), b ≤ b' + 1 → -1 ≤ d → d ≤ 1 → R b' (.int d)
theorem ok_step (T : Txt K mg) : FnOk P w K mg base CX0 2 T.f_w_step T.d_w_step ["keg", "way", "x", "left", "burnt"] (spU K pStep) := by
  have G_w_pour : FnOk P w K mg base CX0 1 T.f_w_pour T.d_w_pour ["keg", "many"] (spU K pTap) := ok_tapS T
  refine T.F_w_step.ok sc_w_step (spU_len fun b ds R ⟨_, _, _, _, e, _⟩ => by rw [e]; rfl) (fun cdv A outer s H vs Q E hr h => ?_)
  obtain ⟨G, j, b, us, ds, R, rfl, eg, gt, gj, u, rp, ⟨way, x, left, bk, rfl, b1, l0, l1, x0, x1, lb, k⟩, kR⟩ := h
  have hr1 := hr
  have hu1 := hu_of hr
  have small : sizeLine = 16777216 := sizeLine_eq
  refine ⟨_, (pss_cons (ps_if (pt_cmpR op_eq (pv 1) pe_int (nomark _)) (pss_one (ps_ret pe_int)) pss_nil)
  (pss_cons (ps_if (pt_cmpR op_eq (pv 1) pe_int (nomark _)) (pss_one (ps_ret (pe_op op_sub pe_int (pe_op op_mul pe_int (pe_op op_mod (pe_op op_fdivW (pe_callTy call_int1 (by rfl) T.z_int (by decide +kernel) (pa_cons (pv 3) pa_nil)) pe_int) pe_int))))) pss_nil)
  (pss_cons (ps_if (pt_cmpR op_eq (pv 1) pe_int (nomark _)) (pss_one (ps_ret (pe_un un_neg pe_int))) pss_nil)
  (pss_cons (ps_if (pt_cmpR op_eq (pv 1) pe_int (nomark _)) (pss_one (ps_ret (pe_ifExp (pt_cmpR op_eq (pe_op op_mod (pe_callTy call_int1 (by rfl) T.z_int (by decide +kernel) (pa_cons (pv 3) pa_nil)) pe_int) pe_int (nomark _)) (pe_op op_sub (pe_call G_w_pour hr1 rfl T.g_w_pour T.F_w_pour.kp (b_w_pour T) .nil pass0 (pa_cons (pv 0) (pa_cons pe_int pa_nil))) pe_int) (pe_op op_sub pe_int (pe_op op_mod (pe_callTy call_int1 (by rfl) T.z_int (by decide +kernel) (pa_cons (pv 3) pa_nil)) pe_int))))) pss_nil)
  (pss_cons (ps_set (i := 5) sc_w_step.nd rfl (Or.inl rfl) (pe_lst pa_nil))
  (pss_cons (ps_for PassesOwn.never rfl (pi_list (pe_lst (pa_cons (pe_un un_neg pe_int) (pa_cons pe_int (pa_cons pe_int pa_nil))))) (pg_name (i := 6) sc_w_step.nd rfl (Or.inl rfl))
  (pss_one (ps_expr (pe_bm PySem.F.plainAttrs_list PySem.F.slot_list_append PySem.F.type_list_append mt_append (pv 5) (pa_cons (pe_callB call_len_seq (by rfl) T.z_len (by decide +kernel) (pa_cons (pe_lc (own := [("column", 7)]) (g := (gName 7)) rfl sc_w_step.nd (pi_range2 (by rfl) T.z_range (pa_cons (pe_op op_sub (pe_op op_add (pv 2) (pv 6)) pe_int) (pa_cons (pe_op op_add (pe_op op_add (pv 2) (pv 6)) pe_int) pa_nil))) (blkOk_by (own := [("column", 7)]) (N := ["keg", "way", "x", "left", "burnt", "counts", "aside", "column", "worth"]) (sc := defScope s_w_step) (by decide +kernel)) (fun _ _ _ _ _ => (pg_name (i := 7) sc_w_step.nd rfl (Or.inl rfl))) (fun _ _ _ _ _ => (pts_one (pt_cmpR (Kg.op_inDK hu1) (pv 7) (pv 4) (by rfl)))) (fun _ _ _ _ _ => (pv 7))) pa_nil)) pa_nil)))))
  (pss_cons (ps_set (i := 8) sc_w_step.nd rfl (Or.inl rfl) (pe_ifExp (pt_cmpR op_eq (pv 1) pe_int (nomark _)) (pe_callB (cr_min rfl) (by rfl) T.z_min (by decide +kernel) (pa_cons (pv 5) pa_nil)) (pe_callB (cr_max rfl) (by rfl) T.z_max (by decide +kernel) (pa_cons (pv 5) pa_nil))))
  (pss_one (ps_ret (pe_op op_sub (pe_bm PySem.F.plainAttrs_list PySem.F.slot_list_index PySem.F.type_list_index mt_index (pv 5) (pa_cons (pv 8) pa_nil)) pe_int)))))))))), ?_⟩
  refine enterU eg gt gj u rp kR fun c hc => ?_
  subst hc
  walk_at "cl"
  walk_at "nn"
  refine ifB (fun d1 => ?_) (fun d1 => ?_)
  · walk_at "nn"
    exact k b 0 (by omega) (by decide) (by decide)
  walk_at "nn"
  refine ifB (fun d2 => ?_) (fun d2 => ?_)
  · walk_at "nn"
    exact k b _ (by omega) (by omega) (by omega)
  walk_at "nn"
  refine ifB (fun d3 => ?_) (fun d3 => ?_)
  · walk_at "nn"
    exact k b _ (by omega) (by omega) (by omega)
  walk_at "nn"
  refine ifB (fun d4 => ?_) (fun d4 => ?_)
  · walk_at "nn"
    refine ifB (fun d5 => ?_) (fun d5 => ?_)
    · walk_at "nn"
      intro r r0 r1
      walk_at "nn"
      exact k (b - 1) _ (by omega) (by omega) (by omega)
    · walk_at "nn"
      exact k b _ (by omega) (by omega) (by omega)
  walk_at "nn"
  refine ⟨fun i s1 => ∃ (cs : List Int) (x6 x7 : Sl), s1 = ⟨[.ur, .d (.int way), .d (.int x), .d (.int left), .d (bkD bk), .own (cs.map .int), x6, x7, .no], b⟩ ∧ cs.length = i, .inl ⟨[], .no, .no, rfl, rfl⟩, ?_, ?_⟩
  · rintro i d s1 hd ⟨cs, x6, x7, rfl, hl⟩
    obtain ⟨a, rfl, a0, a1, i3⟩ : ∃ a : Int, d = .int a ∧ -1 ≤ a ∧ a ≤ 1 ∧ i < 3 := by
      match i, hd with
      | 0, hd => cases hd; exact ⟨_, rfl, by decide, by decide, by decide⟩
      | 1, hd => cases hd; exact ⟨_, rfl, by decide, by decide, by decide⟩
      | 2, hd => cases hd; exact ⟨_, rfl, by decide, by decide, by decide⟩
      | n + 3, hd => cases hd
    walk_at "nn"
    refine e_lcP ?_
    walk_at "nn"
    refine ⟨Nat, List.range (x + a + 6 - (x + a - 5)).toNat, fun n => .int (x + a - 5 + n), fun n => if decide (x + a - 5 + (n : Int) ∈ bk) = true then some (.int (x + a - 5 + n)) else none, rfl, by rw [List.length_range]; omega, fun z hz => ?_, ?_⟩
    · walk_at "nn"
      refine ⟨.inl _, bkL bk, rfl, rfl, ?_⟩
      rw [bk_any]
      walk_at "nn"
      dsimp only
      refine ifB (fun d1 => ?_) (fun d1 => ?_)
      · walk_at "nn"
        exact ⟨rfl, rfl, by rw [if_pos d1]⟩
      · exact ⟨rfl, rfl, by rw [if_neg (by rw [d1]; decide)]⟩
    generalize List.filterMap _ _ = L
    walk_at "nn"
    refine ⟨cs ++ [(L.length : Int)], _, _, by rw [List.map_append]; rfl, by rw [List.length_append, hl]; rfl⟩
  · rintro s1 ⟨cs, x6, x7, rfl, hl⟩
    have hl : cs.length = 3 := hl
    have fin : ∀ m, m ∈ cs → ∃ j : Nat, cs[j]? = some m ∧ (∀ i, i < j → cs[i]? ≠ some m) ∧ j < 3 := by
      intro m hm
      match cs, hl, hm with
      | [p, q, r], _, hm =>
        by_cases e1 : p = m
        · exact ⟨0, by rw [e1]; rfl, fun i h => absurd h (Nat.not_lt_zero _), by decide⟩
        by_cases e2 : q = m
        · exact ⟨1, by rw [e2]; rfl, fun i h => by
            obtain rfl : i = 0 := by omega
            intro e; cases e; exact e1 rfl, by decide⟩
        have e3 : r = m := by
          simp only [List.mem_cons, List.not_mem_nil, or_false] at hm
          rcases hm with rfl | rfl | rfl
          · exact absurd rfl e1
          · exact absurd rfl e2
          · rfl
        exact ⟨2, by rw [e3]; rfl, fun i h => by
          obtain rfl | rfl : i = 0 ∨ i = 1 := by omega
          · intro e; cases e; exact e1 rfl
          · intro e; cases e; exact e2 rfl, by decide⟩
    walk_at "nn"
    dsimp only
    refine ifB (fun d5 => ?_) (fun d5 => ?_)
    · walk_at "nn"
      intro m m1 m2
      obtain ⟨j, j1, j2, j3⟩ := fin m m1
      walk_at "nn"
      refine ⟨cs, m, j, rfl, rfl, j1, j2, ?_⟩
      walk_at "nn"
      exact k b _ (by omega) (by omega) (by omega)
    · walk_at "nn"
      intro m m1 m2
      obtain ⟨j, j1, j2, j3⟩ := fin m m1
      walk_at "nn"
      refine ⟨cs, m, j, rfl, rfl, j1, j2, ?_⟩
      walk_at "nn"
      exact k b _ (by omega) (by omega) (by omega)
def pShut : List D → (D → Prop) → Er → Prop := fun ds R _ => ∃ (us : List Int) (x left comb : Int), ds = [bkD us, .int x, .int left, .int comb] ∧ 0 ≤ left ∧ left ≤ 256 ∧ -1000 ≤ x ∧ x ≤ 1000 ∧ us.length ≤ 300 ∧ 0 ≤ comb ∧ comb < 5 ∧ (∀ col, x - left ≤ col → col ≤ x + left → col % 5 = comb → col ∈ us) ∧ R (.bl true)
theorem ok_shut (T : Txt K mg) : FnOk P w K mg base CX0 1 T.f_w_shut T.d_w_shut ["burnt", "x", "left", "comb"] (spP K pShut) := by
  refine T.F_w_shut.ok sc_w_shut (spP_len fun ds R X ⟨_, _, _, _, e, _⟩ => by rw [e]; rfl) (fun cdv A outer s H vs Q E hr h => ?_)
  obtain ⟨G, ds, R, X, eg, gt, rp, ⟨bk, x, left, comb, rfl, l0, l1, x0, x1, lb, c0, c1, al, k⟩, kR, kX⟩ := h
  have hr1 := hr
  have hu1 := hu_of hr
  have hu2 := hr.units
  have small : sizeLine = 16777216 := sizeLine_eq
  refine ⟨_, (pss_one (ps_ret (pe_cmpR (op_eqNil hu2) (pe_lc (own := [("column", 4)]) (g := (gName 4)) rfl sc_w_shut.nd (pi_range2 (by rfl) T.z_range (pa_cons (pe_op op_sub (pv 1) (pv 2)) (pa_cons (pe_op op_add (pe_op op_add (pv 1) (pv 2)) pe_int) pa_nil))) (blkOk_by (own := [("column", 4)]) (N := ["burnt", "x", "left", "comb", "column"]) (sc := defScope s_w_shut) (by decide +kernel)) (fun _ _ _ _ _ => (pg_name (i := 4) sc_w_shut.nd rfl (Or.inl rfl))) (fun _ _ _ _ _ => (pts_one (PW.pt (pw_and (pt_cmpR op_eq (pe_op op_mod (pe_callTy call_int1 (by rfl) T.z_int (by decide +kernel) (pa_cons (pe_op op_sub (pv 4) (pv 3)) pa_nil)) pe_int) pe_int (nomark _)) (pw_and1 (pt_cmpR (Kg.op_notInDK hu1) (pv 4) (pv 0) (by rfl))))))) (fun _ _ _ _ _ => (pv 4))) (pe_lst pa_nil) (nomark _)))), ?_⟩
  refine enterP eg gt rp kR kX fun c hc hX => ?_
  subst hc
  walk_at "cl"
  walk_at "nn"
  refine e_lcP ?_
  walk_at "nn"
  refine ⟨Nat, List.range (x + left + 1 - (x - left)).toNat, fun n => .int (x - left + n), fun _ => none, rfl, by rw [List.length_range]; omega, fun z hz => ?_, ?_⟩
  · have z0 := List.mem_range.mp hz
    walk_at "nn"
    dsimp only
    refine ifB (fun d1 => ?_) (fun d1 => ?_)
    · walk_at "nn"
      refine ⟨.inl _, bkL bk, rfl, rfl, ?_⟩
      rw [bk_any, decide_eq_true (al _ (by omega) (by omega) (by have := of_decide_eq_true d1; omega))]
      walk_at "nn"
      exact ⟨rfl, rfl, rfl⟩
    · walk_at "nn"
      exact ⟨rfl, rfl, rfl⟩
  rw [show List.filterMap (fun _ : Nat => (none : Option D)) _ = [] from List.filterMap_eq_nil_iff.mpr fun _ _ => rfl]
  walk_at "nn"
  refine ⟨rfl, ?_⟩
  walk_at "nn"
  exact k
end
end K43
namespace K43
open PySem PySem.Spec PyProof.Rows L2 Kg Kn
open Evl (Ex)


local macro_rules | `(tactic| walk_at "n0") => `(tactic| first
  | (with_reducible refine e_notB ?_)
  | ((with_reducible show wE _ (tCB (rIsi _) _) _ _); refine e_isiO ?_)
  | ((with_reducible show wT _ (fun σ H Q => _) _ _); refine t_truO ?_)
  | ((with_reducible show wE _ (tOp rInDK _ _) _ _); refine e_inDK ?_)
  | ((with_reducible show wE _ (tOp rNotInDK _ _) _ _); refine e_notInDK ?_)
  | ((with_reducible show wE _ (tBM _ _ (rIndex _) _ _) _ _); refine e_index ?_))
section
variable {P : Program} {w : World} {K : PySem.W.Frag} {mg : Str → Option Value} {base : Heap}
def pFree (C : Addr) : List D → (D → Prop) → Er → Prop := fun ds R _ => ∃ c, ds = [clD C c, .int c.x, .int c.y] ∧ Wf c ∧ c.y ≠ hgt c.p - 1 ∧ R (.bl true)
theorem ok_free (T : Txt K mg) : FnOk P w K mg base CX0 9 T.f_w_is_free T.d_w_is_free ["climb", "x", "y"] (spP K (pFree T.c_Climb)) := by
  have G_judged : FnOk P w K mg base (L2.CX P w) 8 T.f_judged T.d_judged ["climb"] (spP K (pJudged T.c_Climb T.c_Caught T.c_Free)) := ok_judged T
  have G_is_caught : FnOk P w K mg base (L2.CX P w) 8 T.f_is_caught T.d_is_caught ["climb"] (spP K (pCaught T.c_Climb)) := (ok_caught T).mono (by decide)
  have G_Denial___bool__ : FnOk P w K mg base CX0 8 T.f_Denial___bool__ T.d_Denial___bool__ ["self"] (spP K pBool) := (ok_dbool T).mono (by decide)
  refine T.F_w_is_free.ok sc_w_is_free (spP_len fun ds R X ⟨_, e, _⟩ => by rw [e]; rfl) (fun cdv A outer s H vs Q E hr h => ?_)
  obtain ⟨G, ds, R, X, eg, gt, rp, ⟨m, rfl, wf, ny, k⟩, kR, kX⟩ := h
  have hr1 := hr
  have small : sizeLine = 16777216 := sizeLine_eq
  have cl := T.oc_Free.cl
  have n1 := T.n_Free_square
  refine ⟨_, (pss_cons (ps_set (i := 3) sc_w_is_free.nd rfl (Or.inl rfl) (pe_call G_judged hr1 rfl T.g_judged T.F_judged.kp (b_judged T) .nil (passes_call LamX.takes0 (fun _ _ _ _ h => h)) (pa_cons (pv 0) pa_nil)))
  (pss_cons (ps_if (PW.pt (pw_or (pt_cmpR op_notBl (pe_callKW G_is_caught hr1 rfl T.g_is_caught T.F_is_caught.kp (kb_is_caught_climb T) (passes_call LamX.takes0 (fun _ _ _ _ h => h)) (pk_cons (pv 0) pk_nil)) pe_bl (nomark _)) (pw_or (pt_not (pt_val (pe_callB call_isi (by rfl) T.z_isinstance (by decide +kernel) (pa_cons (pv 3) (pa_cons (pe_glob (v := .ref T.c_Free) rfl T.gc_Free rfl) pa_nil))))) (pw_or (L2.pt_truthR (pv 3) (Kg.tru_own G_Denial___bool__ hr1 T.qb_Free T.qbf_Free (b_Denial___bool__ T) pass0) (by intro _; rfl)) (pw_or1 (pt_cmpR op_ne (pe_callB call_len_seq (by rfl) T.z_len (by decide +kernel) (pa_cons (pe_fld (pv 3) rfl) pa_nil)) pe_int (nomark _))))))) (pss_one (ps_ret pe_bl)) pss_nil)
  (pss_one (ps_ret (pe_and (pe_cmpR op_eq (pe_ix ix_tup (pe_fld (pv 3) rfl) pe_int (fun _ _ => rfl)) (pe_op op_add (pv 2) pe_int) (nomark _)) (pe_one (pe_cmpR op_le (pe_callB call_abs (by rfl) T.z_abs (by decide +kernel) (pa_cons (pe_op op_sub (pe_ix ix_tup (pe_fld (pv 3) rfl) pe_int (fun _ _ => rfl)) (pv 1)) pa_nil)) pe_int (nomark _)))))))), ?_⟩
  refine enterP eg gt rp kR kX fun c hc hX => ?_
  subst hc
  walk_at "cl"
  walk_at "nn"
  intro _
  unfold freD
  walk_at "nn"
  rw [decide_eq_false ny]
  dsimp only
  refine ifF rfl ?_
  walk_at "nn"
  refine ⟨_, _, _, true, rfl, rfl, T.oc_Free, T.k_Free_Free, ?_⟩
  walk_at "nn"
  refine ifT (by simp) ?_
  walk_at "nn"
  rw [decide_eq_true (by split <;> omega)]
  exact k
end
end K43
namespace K43
open PySem PySem.Spec PyProof.Rows L2 Kg Kn
open Evl (Ex)
theorem hgt1 : hgt 1 = 256 := by decide
theorem combs1 : combsI 1 = 5 := by decide
/-- where the stages end -/
def lo : Nat → Int
  | 0 => 0 | 1 => 128 | 2 => 192 | 3 => 224 | 4 => 240 | 5 => 248 | _ => 256
theorem mv_end {c : Cl} {n u v : Int} (e : Ends c.p (stg c) v) : c.mv n u v = ⟨c.p, u, v, c.os ++ [(u, v)], c.ls.dropLast ++ [c.ls.getLastD 0 + n] ++ [0]⟩ := if_pos e
theorem mv_on {c : Cl} {n u v : Int} (e : ¬ Ends c.p (stg c) v) : c.mv n u v = ⟨c.p, u, v, c.os, c.ls.dropLast ++ [c.ls.getLastD 0 + n]⟩ := if_neg e
theorem mv_wf {c : Cl} {n u v : Int} (w : Wf c) (l : c.os.length < 3000) : Wf (c.mv n u v) := by
  have h1 := w.os
  have h2 := w.ls
  unfold Cl.mv
  split
  · exact ⟨w.p1, w.p9, by simp, by simp only [List.length_append, List.length_dropLast, List.length_cons, List.length_nil]; omega, by simp only [List.length_append, List.length_cons, List.length_nil]; omega⟩
  · exact ⟨w.p1, w.p9, w.os, by simp only [List.length_append, List.length_dropLast, List.length_cons, List.length_nil]; omega, w.le⟩
theorem ls_cut {c : Cl} (w : Wf c) : ∃ A z, c.ls = A ++ [z] ∧ c.ls.dropLast = A ∧ c.ls.getLastD 0 = z ∧ A.length + 1 = c.os.length := by
  have h1 := w.os
  have h2 := w.ls
  have n : c.ls ≠ [] := by rintro e; rw [e] at h2; simp at h2; omega
  refine ⟨c.ls.dropLast, c.ls.getLast n, (List.dropLast_concat_getLast n).symm, rfl, ?_, by rw [List.length_dropLast]; omega⟩
  rw [List.getLastD_eq_getLast?, List.getLast?_eq_some_getLast n]
  rfl
theorem lastO_at {c : Cl} (w : Wf c) : c.os[c.os.length - 1]? = some (lastO c) := by
  have h := w.os
  have n : c.os ≠ [] := by rintro z; rw [z] at h; simp at h
  unfold lastO
  rw [List.getLastD_eq_getLast?, ← List.getLast?_eq_getElem?, List.getLast?_eq_some_getLast n]
  rfl
/-- a climb of power 1 after t turns -/
structure Up (t : Int) (c : Cl) : Prop where
  hp : c.p = 1
  wf : Wf c
  y : c.y = t
  t0 : 0 ≤ t
  t255 : t ≤ 255
  x1 : -t ≤ c.x
  x2 : c.x ≤ t
  le : c.os.length ≤ 6
  lw : lo (c.os.length - 1) ≤ t
  hi : c.os.length ≤ 5 → t < lo c.os.length
  la : c.ls.getLastD 0 = t - lo (c.os.length - 1)
  os : ∀ i o, c.os[i]? = some o → o.2 = lo i ∧ c.x - o.1 ≤ t - lo i ∧ o.1 - c.x ≤ t - lo i
  ls : ∀ i l, i + 1 < c.os.length → c.ls[i]? = some l → l = lo (i + 1) - lo i
  sum : c.ls.sum = t
theorem Up.start : Up 0 (c0 1) := by
  refine ⟨rfl, ⟨by decide, by decide, Nat.le_refl 1, rfl, by show 1 ≤ 3000; decide⟩, rfl, by decide, by decide, by decide, by decide, by decide, by decide, fun _ => by decide, rfl, fun i o h => ?_, fun i l hi h => absurd hi (by show ¬ (i + 1 < 1); omega), rfl⟩
  cases i with
  | zero => cases h; exact ⟨rfl, by decide, by decide⟩
  | succ i => cases h
theorem sum_last (A : List Int) (z : Int) : (A ++ [z]).sum = A.sum + z := by simp
/-- one turn further up -/
theorem Up.next {t d : Int} {c : Cl} (u : Up t c) (ht : t < 255) (d1 : -1 ≤ d) (d2 : d ≤ 1) :
    Leads c.p (stg c) c.x c.y 1 (c.x + d) (t + 1) ∧ Up (t + 1) (c.mv 1 (c.x + d) (t + 1)) ∧ (c.mv 1 (c.x + d) (t + 1)).x = c.x + d ∧
    ((t + 1 = 128 ∨ t + 1 = 192 ∨ t + 1 = 224 ∨ t + 1 = 240 ∨ t + 1 = 248) ↔ Ends c.p (stg c) (t + 1)) ∧ (Ends c.p (stg c) (t + 1) → c.os.length ≤ 5) := by
  obtain ⟨A, z, q1, q2, q3, q4⟩ := ls_cut u.wf
  have hle := u.le
  have hos := u.wf.os
  have hlo := u.lw
  have hhi := u.hi
  have hla := u.la
  have hy := u.y
  have hp := u.hp
  have hsum := u.sum
  have hx1 := u.x1
  have hx2 := u.x2
  have t0 := u.t0
  have sg : stg c = (c.os.length : Int) - 1 := rfl
  have v : ∀ k : Nat, k < 5 → 256 - (256 : Int) / 2 ^ (((k + 1 : Nat) : Int) - 1 + 1).toNat = lo (k + 1) := by decide
  have lomono : ∀ k : Nat, k < 6 → lo k < lo (k + 1) := by decide
  obtain ⟨k, hk⟩ : ∃ k, c.os.length = k + 1 := ⟨c.os.length - 1, by omega⟩
  rw [hk] at hlo hhi hla hle q4
  simp only [Nat.add_sub_cancel] at hlo hla
  have k6 : k < 6 := by omega
  have v0 := v k
  have tab : (k = 0 ∧ lo k = 0 ∧ lo (k + 1) = 128) ∨ (k = 1 ∧ lo k = 128 ∧ lo (k + 1) = 192) ∨ (k = 2 ∧ lo k = 192 ∧ lo (k + 1) = 224) ∨ (k = 3 ∧ lo k = 224 ∧ lo (k + 1) = 240) ∨ (k = 4 ∧ lo k = 240 ∧ lo (k + 1) = 248) ∨ (k = 5 ∧ lo k = 248 ∧ lo (k + 1) = 256) := by
    obtain rfl | rfl | rfl | rfl | rfl | rfl : k = 0 ∨ k = 1 ∨ k = 2 ∨ k = 3 ∨ k = 4 ∨ k = 5 := by omega
    all_goals decide
  have lm := lomono k k6
  have E : Ends c.p (stg c) (t + 1) ↔ (k < 5 ∧ lo (k + 1) ≤ t + 1) := by
    unfold Ends
    rw [hp, hgt1, combs1, sg, hk]
    generalize hg : (256 : Int) / 2 ^ (((k + 1 : Nat) : Int) - 1 + 1).toNat = g at v0
    omega
  have S : (t + 1 = 128 ∨ t + 1 = 192 ∨ t + 1 = 224 ∨ t + 1 = 240 ∨ t + 1 = 248) ↔ Ends c.p (stg c) (t + 1) := by
    rw [E]
    omega
  have wf' := mv_wf (n := 1) (u := c.x + d) (v := t + 1) u.wf (by omega)
  have L : Leads c.p (stg c) c.x c.y 1 (c.x + d) (t + 1) := by
    rw [hp, hy, sg, hk]
    refine ⟨by omega, by omega, by omega, by split <;> omega, by rw [hgt1]; omega, ?_⟩
    rw [combs1, hgt1]
    generalize hg : (256 : Int) / 2 ^ (((k + 1 : Nat) : Int) - 1 + 1).toNat = g at v0
    by_cases c5 : k = 5
    · exact .inl (by omega)
    · have := hhi (by omega)
      exact .inr ⟨by omega, by omega⟩
  have gA : ∀ i l, i < A.length → A[i]? = some l → l = lo (i + 1) - lo i := fun i l hi h => u.ls i l (by omega) (by rw [q1, List.getElem?_append_left hi]; exact h)
  have sA : A.sum + z = t := by rw [← sum_last, ← q1]; exact hsum
  refine ⟨L, ?_, by unfold Cl.mv; split <;> rfl, S, fun e => by have := (E.mp e).1; omega⟩
  by_cases e : Ends c.p (stg c) (t + 1)
  · have e2 := E.mp e
    have h5 := hhi (by omega)
    have tl : t + 1 = lo (k + 1) := by omega
    have lm2 := lomono (k + 1) (by omega)
    rw [mv_end e] at wf' ⊢
    rw [q2, q3] at wf' ⊢
    have len : (c.os ++ [(c.x + d, t + 1)]).length = k + 2 := by rw [List.length_append, hk]; rfl
    refine ⟨hp, wf', rfl, by omega, by omega, by show -(t + 1) ≤ c.x + d; omega, by show c.x + d ≤ t + 1; omega, by show (c.os ++ _).length ≤ 6; omega, by show lo ((c.os ++ _).length - 1) ≤ t + 1; rw [len]; show lo (k + 1) ≤ _; omega, fun _ => by show t + 1 < lo (c.os ++ _).length; rw [len]; show t + 1 < lo (k + 1 + 1); omega, ?_, fun i o h => ?_, fun i l hi h => ?_, ?_⟩
    · show (A ++ [z + 1] ++ [0]).getLastD 0 = _
      rw [List.getLastD_concat]
      show 0 = t + 1 - lo ((c.os ++ _).length - 1)
      rw [len]
      show 0 = t + 1 - lo (k + 1)
      omega
    · have h : (c.os ++ [(c.x + d, t + 1)])[i]? = some o := h
      show o.2 = lo i ∧ c.x + d - o.1 ≤ t + 1 - lo i ∧ o.1 - (c.x + d) ≤ t + 1 - lo i
      by_cases q : i < c.os.length
      · rw [List.getElem?_append_left q] at h
        obtain ⟨h1, h2, h3⟩ := u.os i o h
        exact ⟨h1, by omega, by omega⟩
      · rw [List.getElem?_append_right (by omega)] at h
        have l0 := (List.getElem?_eq_some_iff.mp h).1
        simp only [List.length_singleton] at l0
        have q0 : i = k + 1 := by omega
        rw [show i - c.os.length = 0 by omega] at h
        cases h
        subst q0
        show t + 1 = lo (k + 1) ∧ c.x + d - (c.x + d) ≤ _ ∧ c.x + d - (c.x + d) ≤ _
        omega
    · have h : (A ++ [z + 1] ++ [0])[i]? = some l := h
      have hi : i + 1 < (c.os ++ [(c.x + d, t + 1)]).length := hi
      rw [len] at hi
      rw [List.getElem?_append_left (by rw [List.length_append, List.length_singleton]; omega)] at h
      by_cases q : i < A.length
      · rw [List.getElem?_append_left q] at h
        exact gA i l q h
      · have ik : i = k := by omega
        subst ik
        rw [List.getElem?_append_right (by omega), show i - A.length = 0 by omega] at h
        cases h
        omega
    · show (A ++ [z + 1] ++ [0]).sum = t + 1
      rw [sum_last, sum_last]
      omega
  · have e2 : ¬ (k < 5 ∧ lo (k + 1) ≤ t + 1) := fun z => e (E.mpr z)
    rw [mv_on e] at wf' ⊢
    rw [q2, q3] at wf' ⊢
    refine ⟨hp, wf', rfl, by omega, by omega, by show -(t + 1) ≤ c.x + d; omega, by show c.x + d ≤ t + 1; omega, by show c.os.length ≤ 6; omega, by show lo (c.os.length - 1) ≤ t + 1; rw [hk]; show lo k ≤ _; omega, fun q => ?_, ?_, fun i o h => ?_, fun i l hi h => ?_, ?_⟩
    · have q : c.os.length ≤ 5 := q
      show t + 1 < lo c.os.length
      rw [hk] at q ⊢
      omega
    · show (A ++ [z + 1]).getLastD 0 = t + 1 - lo (c.os.length - 1)
      rw [List.getLastD_concat, hk]
      show z + 1 = t + 1 - lo k
      omega
    · obtain ⟨h1, h2, h3⟩ := u.os i o h
      show o.2 = lo i ∧ c.x + d - o.1 ≤ t + 1 - lo i ∧ o.1 - (c.x + d) ≤ t + 1 - lo i
      exact ⟨h1, by omega, by omega⟩
    · have h : (A ++ [z + 1])[i]? = some l := h
      have hi : i + 1 < c.os.length := hi
      rw [List.getElem?_append_left (by omega)] at h
      exact gA i l (by omega) h
    · show (A ++ [z + 1]).sum = t + 1
      rw [sum_last]
      omega
theorem colF1 (st ox oy : Int) : colF 1 st ox oy = (ox - (256 - oy)) + (st - (ox - (256 - oy))) % 5 := by
  unfold colF
  rw [hgt1, combs1, Int.one_mul]
theorem colN1 (st ox oy : Int) : colN 1 st ox oy = (ox + (256 - oy) - colF 1 st ox oy) / 5 + 1 := by
  unfold colN
  rw [hgt1, combs1, Int.one_mul]
theorem burnt1 {c : Cl} (hp : c.p = 1) {col : Int} : Burnt c col 256 ↔ ∃ o l, c.os[(col % 5).toNat]? = some o ∧ c.ls[(col % 5).toNat]? = some l ∧
    0 ≤ (col - colF 1 (col % 5) o.1 o.2) / 5 ∧ (col - colF 1 (col % 5) o.1 o.2) / 5 < colN 1 (col % 5) o.1 o.2 ∧ (col - colF 1 (col % 5) o.1 o.2) / 5 < l := by
  unfold Burnt
  rw [hp, hgt1, combs1]
  constructor
  · rintro ⟨_, _, o, l, h1, h2, h3, h4, h5⟩
    exact ⟨o, l, h1, h2, h3, h4, by omega⟩
  · rintro ⟨o, l, h1, h2, h3, h4, h5⟩
    exact ⟨by omega, by omega, o, l, h1, h2, h3, h4, by omega⟩
theorem lo_tab {k : Nat} (k6 : k < 6) : (k = 0 ∧ lo k = 0 ∧ lo (k + 1) = 128) ∨ (k = 1 ∧ lo k = 128 ∧ lo (k + 1) = 192) ∨ (k = 2 ∧ lo k = 192 ∧ lo (k + 1) = 224) ∨ (k = 3 ∧ lo k = 224 ∧ lo (k + 1) = 240) ∨ (k = 4 ∧ lo k = 240 ∧ lo (k + 1) = 248) ∨ (k = 5 ∧ lo k = 248 ∧ lo (k + 1) = 256) := by
  obtain rfl | rfl | rfl | rfl | rfl | rfl : k = 0 ∨ k = 1 ∨ k = 2 ∨ k = 3 ∨ k = 4 ∨ k = 5 := by omega
  all_goals decide
/-- a comb of an ended stage is burnt in reach -/
theorem Up.reach {t : Int} {c : Cl} (u : Up t c) {i : Nat} (hi : i + 1 < c.os.length) {col : Int} (h1 : c.x - (256 - t) ≤ col) (h2 : col ≤ c.x + (256 - t)) (hm : col % 5 = i) : Burnt c col 256 := by
  rw [burnt1 u.hp, hm, Int.toNat_natCast]
  have wl := u.wf.ls
  obtain ⟨o, ho⟩ : ∃ o, c.os[i]? = some o := ⟨_, List.getElem?_eq_getElem (by omega)⟩
  obtain ⟨l, hl⟩ : ∃ l, c.ls[i]? = some l := ⟨_, List.getElem?_eq_getElem (by omega)⟩
  obtain ⟨o2, c1, c2⟩ := u.os i o ho
  have el := u.ls i l hi hl
  have le := u.le
  have tb := lo_tab (k := i) (by omega)
  refine ⟨o, l, ho, hl, ?_⟩
  rw [colN1, colF1, o2]
  generalize hL : o.1 - (256 - lo i) = L
  omega
/-- what burns next, and nothing else -/
theorem Up.burn {t : Int} {c : Cl} (u : Up t c) : ∃ ob : Option Int, (burnD c = match ob with | none => D.non | some b => .tup [.int b, .int 256]) ∧ (∀ b, ob = some b → ¬ Burnt c b 256) ∧
    ∀ x y col, Burnt (c.mv 1 x y) col 256 ↔ Burnt c col 256 ∨ ob = some col := by
  obtain ⟨A, z, q1, q2, q3, q4⟩ := ls_cut u.wf
  have hle := u.le
  have hos := u.wf.os
  have hlo := u.lw
  have hla := u.la
  have hp := u.hp
  have lO := lastO_at u.wf
  obtain ⟨k, hk⟩ : ∃ k, c.os.length = k + 1 := ⟨c.os.length - 1, by omega⟩
  have sg : stg c = (k : Int) := by unfold stg; omega
  rw [hk] at hlo hla hle q4 lO
  simp only [Nat.add_sub_cancel] at hlo hla lO
  have z0 : 0 ≤ z := by omega
  have lk : c.ls[k]? = some z := by rw [q1, List.getElem?_append_right (by omega), show k - A.length = 0 by omega]; rfl
  have hp' : ∀ x y, (c.mv 1 x y).p = 1 := fun x y => by unfold Cl.mv; split <;> exact hp
  -- the new lists
  have os' : ∀ x y i, i ≤ k → (c.mv 1 x y).os[i]? = c.os[i]? := fun x y i h => by
    unfold Cl.mv
    split
    · exact List.getElem?_append_left (by omega)
    · rfl
  have ls' : ∀ x y i, i < k → (c.mv 1 x y).ls[i]? = c.ls[i]? := fun x y i h => by
    unfold Cl.mv
    rw [q2, q1]
    split
    · show (A ++ [_] ++ [0])[i]? = _
      rw [List.append_assoc, List.getElem?_append_left (by omega), List.getElem?_append_left (by omega)]
    · show (A ++ [_])[i]? = _
      rw [List.getElem?_append_left (by omega), List.getElem?_append_left (by omega)]
  have lk' : ∀ x y, (c.mv 1 x y).ls[k]? = some (z + 1) := fun x y => by
    unfold Cl.mv
    rw [q2, q3]
    split
    · show (A ++ [z + 1] ++ [0])[k]? = _
      rw [List.getElem?_append_left (by rw [List.length_append, List.length_singleton]; omega), List.getElem?_append_right (by omega), show k - A.length = 0 by omega]
      rfl
    · show (A ++ [z + 1])[k]? = _
      rw [List.getElem?_append_right (by omega), show k - A.length = 0 by omega]
      rfl
  have up' : ∀ x y i l, k < i → (c.mv 1 x y).ls[i]? = some l → l = 0 := fun x y i l h e => by
    unfold Cl.mv at e
    rw [q2, q3] at e
    split at e
    · have e : (A ++ [z + 1] ++ [0])[i]? = some l := e
      rw [List.getElem?_append_right (by rw [List.length_append, List.length_singleton]; omega)] at e
      have l0 := (List.getElem?_eq_some_iff.mp e).1
      simp only [List.length_singleton] at l0
      rw [show i - (A ++ [z + 1]).length = 0 by omega] at e
      cases e
      rfl
    · have e : (A ++ [z + 1])[i]? = some l := e
      have := (List.getElem?_eq_some_iff.mp e).1
      rw [List.length_append, List.length_singleton] at this
      omega
  have no : ∀ col, k < (col % 5).toNat → ¬ Burnt c col 256 := fun col h b => by
    obtain ⟨o, l, h1, _⟩ := (burnt1 hp).mp b
    have := (List.getElem?_eq_some_iff.mp h1).1
    omega
  have no' : ∀ x y col, k < (col % 5).toNat → ¬ Burnt (c.mv 1 x y) col 256 := fun x y col h b => by
    obtain ⟨o, l, h1, h2, h3, h4, h5⟩ := (burnt1 (hp' x y)).mp b
    have := up' x y _ l h h2
    omega
  have lt : ∀ x y col, (col % 5).toNat < k → (Burnt (c.mv 1 x y) col 256 ↔ Burnt c col 256) := fun x y col h => by
    rw [burnt1 hp, burnt1 (hp' x y), os' x y _ (by omega), ls' x y _ h]
  have at_ : ∀ col : Int, (col % 5).toNat = k → (Burnt c col 256 ↔ 0 ≤ (col - colF 1 k (lastO c).1 (lastO c).2) / 5 ∧ (col - colF 1 k (lastO c).1 (lastO c).2) / 5 < colN 1 k (lastO c).1 (lastO c).2 ∧ (col - colF 1 k (lastO c).1 (lastO c).2) / 5 < z) := fun col h => by
    have e : col % 5 = (k : Int) := by omega
    rw [burnt1 hp, h, e]
    constructor
    · rintro ⟨o, l, h1, h2, h3⟩
      rw [lO] at h1; rw [lk] at h2
      cases h1; cases h2
      exact h3
    · exact fun h3 => ⟨_, _, lO, lk, h3⟩
  have at' : ∀ x y, ∀ col : Int, (col % 5).toNat = k → (Burnt (c.mv 1 x y) col 256 ↔ 0 ≤ (col - colF 1 k (lastO c).1 (lastO c).2) / 5 ∧ (col - colF 1 k (lastO c).1 (lastO c).2) / 5 < colN 1 k (lastO c).1 (lastO c).2 ∧ (col - colF 1 k (lastO c).1 (lastO c).2) / 5 < z + 1) := fun x y col h => by
    have e : col % 5 = (k : Int) := by omega
    rw [burnt1 (hp' x y), h, e]
    constructor
    · rintro ⟨o, l, h1, h2, h3⟩
      rw [os' x y k (by omega), lO] at h1; rw [lk'] at h2
      cases h1; cases h2
      exact h3
    · exact fun h3 => ⟨_, _, (os' x y k (by omega)).trans lO, lk' x y, h3⟩
  have dd : due c = if (k : Int) = 5 then 0 else colN 1 k (lastO c).1 (lastO c).2 := by
    unfold due
    rw [sg, hp, combs1, Int.mul_one]
  have bd : burnD c = if z ≥ due c then .non else .tup [.int (colF 1 k (lastO c).1 (lastO c).2 + z * 5), .int 256] := by
    unfold burnD
    rw [q3, sg, hp, hgt1, combs1, Int.ediv_one, Int.emod_one, Int.add_zero]
  have cf := colF1 k (lastO c).1 (lastO c).2
  generalize hF : colF 1 (k : Int) (lastO c).1 (lastO c).2 = F at *
  generalize hN : colN 1 (k : Int) (lastO c).1 (lastO c).2 = N at *
  have split : ∀ col : Int, (col % 5).toNat < k ∨ (col % 5).toNat = k ∨ k < (col % 5).toNat := fun col => by omega
  by_cases q : z ≥ due c
  · refine ⟨none, by rw [bd, if_pos q], fun b h => (by cases h), fun x y col => ?_⟩
    have stay : Burnt (c.mv 1 x y) col 256 ↔ Burnt c col 256 := by
      rcases split col with h | h | h
      · exact lt x y col h
      · rw [at_ col h, at' x y col h]
        rw [dd] at q
        by_cases k5 : (k : Int) = 5
        · omega
        · rw [if_neg k5] at q
          omega
      · exact ⟨fun b => absurd b (no' x y col h), fun b => absurd b (no col h)⟩
    rw [stay]
    exact ⟨.inl, fun h => h.elim id fun h => by cases h⟩
  · rw [dd] at q
    have k5 : ¬ (k : Int) = 5 := fun e => by rw [if_pos e] at q; omega
    rw [if_neg k5] at q
    have bm : (F + z * 5) % 5 = (k : Int) := by omega
    refine ⟨some (F + z * 5), by rw [bd, dd, if_neg k5, if_neg q], fun b h => ?_, fun x y col => ?_⟩
    · cases h
      rw [at_ _ (by omega)]
      omega
    · rcases split col with h | h | h
      · rw [lt x y col h]
        refine ⟨.inl, fun z' => z'.elim id fun e => ?_⟩
        cases e
        omega
      · rw [at_ col h, at' x y col h]
        constructor
        · intro b
          by_cases w : (col - F) / 5 < z
          · exact .inl ⟨b.1, b.2.1, w⟩
          · exact .inr (congrArg some (by omega))
        · rintro (b | e)
          · omega
          · cases e
            omega
      · refine ⟨fun b => absurd b (no' x y col h), fun b => ?_⟩
        rcases b with b | e
        · exact absurd b (no col h)
        · cases e
          omega
theorem Up.small {t : Int} {c : Cl} (u : Up t c) : (∀ o ∈ c.os, o.1.natAbs ≤ 1000 ∧ o.2.natAbs ≤ 1000) ∧ ∀ l ∈ c.ls, l.natAbs ≤ 1000 := by
  have le := u.le
  have wl := u.wf.ls
  have t0 := u.t0
  have t2 := u.t255
  have x1 := u.x1
  have x2 := u.x2
  constructor
  · intro o ho
    obtain ⟨i, hi, rfl⟩ := List.getElem_of_mem ho
    obtain ⟨h1, h2, h3⟩ := u.os i _ (List.getElem?_eq_getElem hi)
    have tb := lo_tab (k := i) (by omega)
    omega
  · intro l hl
    obtain ⟨i, hi, rfl⟩ := List.getElem_of_mem hl
    have tb := lo_tab (k := i) (by omega)
    by_cases q : i + 1 < c.os.length
    · have := u.ls i _ q (List.getElem?_eq_getElem hi)
      omega
    · have la := u.la
      obtain ⟨A, z, q1, q2, q3, q4⟩ := ls_cut u.wf
      have e : c.ls[i] = z := by
        have h : c.ls[i]? = some z := by rw [q1, List.getElem?_append_right (by omega), show i - A.length = 0 by omega]; rfl
        rw [List.getElem?_eq_getElem hi] at h
        exact Option.some.inj h
      rw [e, ← q3, la]
      have := u.lw
      rw [show c.os.length - 1 = i by omega] at this ⊢
      omega
end K43
namespace K43
open PySem PySem.Spec PyProof.Rows L2 Kg Kn
open Evl (Ex)


local macro_rules | `(tactic| walk_at "n0") => `(tactic| first
  | (with_reducible refine e_notB ?_)
  | ((with_reducible show wE _ (tOp (rIn _ false) _ _) _ _); refine e_inTI ?_)
  | ((with_reducible show wE _ (tCB (rRepr _) _) _ _); refine e_reprV (by assumption) ?_)
  | ((with_reducible show wE _ (tOp (rEqO _ _ _) _ _) _ _); refine e_eqO ?_)
  | ((with_reducible show wE _ tDNewK _ _); refine e_dnewKo ?_)
  | ((with_reducible show wE _ (tOp rInDK _ _) _ _); refine e_inDK ?_)
  | ((with_reducible show wE _ (tOp rNotInDK _ _) _ _); refine e_notInDK ?_)
  | ((with_reducible show wE _ (tMake _ (spMk _ _ _) _ _ _) _ _); refine e_mk ?_))
local macro_rules | `(tactic| walk_at "ns") => `(tactic| repeat ((fail_if_success (with_reducible show wS _ (tSeq _ _) _ _)); walk_at "n1"))
local macro_rules | `(tactic| walk_at "np") => `(tactic| repeat ((fail_if_success (with_reducible show wE _ (tCall (spU _ pStep) _ _ _) _ _)); walk_at "n1"))
local macro_rules | `(tactic| walk_at "nq") => `(tactic| repeat ((fail_if_success (with_reducible show wE _ (tCall (spP _ pShut) _ _ _) _ _)); walk_at "n1"))
theorem s_seqM {c : Cfg} {s : NS} {ta tb : TS} {N : Pst} (M : NS → Prop) (h : wS c ta s { N with nx := M }) (h2 : ∀ s1, M s1 → wS c tb s1 N) : wS c (tSeq ta tb) s N :=
  s_seq (fun σ G H Z a k1 k2 k3 k4 => h σ G H Z a (fun s' σ' G' H' q => k1 s' σ' G' H' (h2 s' q)) k2 k3 k4)
theorem in_ints (n : Int) : ∀ ns : List Int, inV (.int n) (ns.map V.int) = decide (n ∈ ns)
  | [] => rfl
  | m :: ns => by
    have ih := in_ints n ns
    unfold inV at ih ⊢
    rw [List.map_cons, List.any_cons, ih]
    by_cases e : m = n
    · subst e; simp [eqV]
    · have e' : ¬ n = m := fun z => e z.symm
      simp [eqV, e, e']
/-- n in (a, b, ..) -/
theorem e_inTI {c : Cfg} {s : NS} {ta tb : TE} {R : Vw → NS → Prop} {K' : PySem.W.Frag} (h : wE c ta s fun w s1 => wE c tb s1 fun u s2 => ∃ (n : Int) (ns : List Int), w = .d (.int n) ∧ u = .d (.tup (ns.map D.int)) ∧ R (.d (.bl (decide (n ∈ ns)))) s2) (hK : K' = c.K := by rfl) : wE c (tOp (rIn K' false) ta tb) s R := by
  subst hK
  refine e_op h fun σ G H Hs v x w u s2 Q t r1 r2 ⟨n, ns, e1, e2, p⟩ k => ?_
  subst e1 e2
  cases (show Rp c.K G v (.int n) from r1)
  cases (show Rp c.K G x _ from r2) with
  | tup h1 h2 =>
    rw [h2.int_of] at h1
    refine ⟨_, _, rfl, .inr (SqT.of (t.gh _ _ h1)), rfl, by rw [List.all_map]; exact List.all_eq_true.mpr fun _ _ => rfl, ?_⟩
    rw [if_neg (by decide), in_ints]
    exact k _ (.d (.bl _)) s2 G H p t .refl (Rp.bl _)
theorem set_last (ns : List Int) (n : Int) (h : ns.length ≠ 0) : (ns.map D.int).set (ns.length - 1) (.int n) = (ns.dropLast ++ [n]).map D.int := by
  have ne : ns ≠ [] := by rintro rfl; simp at h
  have e : ns.map D.int = ns.dropLast.map D.int ++ [.int (ns.getLast ne)] := by
    conv => lhs; rw [← List.dropLast_concat_getLast ne]
    rw [List.map_append]; rfl
  have l : ns.length - 1 = (ns.dropLast.map D.int).length := by rw [List.length_map, List.length_dropLast]
  rw [l, e, List.map_append, List.set_append_right _ _ (Nat.le_refl _), Nat.sub_self]
  rfl
theorem put_new {bk : List Int} {q : Int} (h : ¬ q ∈ bk) : putKD (bkL bk) (.inl q) (.bl true) = bkL (bk ++ [q]) := by
  unfold putKD
  rw [bk_any, decide_eq_false h, if_neg (by decide)]
  unfold bkL
  rw [List.map_append]
  rfl
theorem burnt0 (u : Int) : ¬ Burnt (c0 1) u 256 := fun b => by
  obtain ⟨o, l, h1, h2, h3, h4, h5⟩ := (burnt1 rfl).mp b
  have h2 : ([0] : List Int)[(u % 5).toNat]? = some l := h2
  match e : (u % 5).toNat, h2 with
  | 0, h2 => cases h2; omega
  | n + 1, h2 => cases h2
theorem fit_bl (b : Bool) : Fit 20 (.bool b) := by
  cases b <;> exact ⟨by decide +kernel, by decide +kernel, by decide +kernel, by decide +kernel⟩
theorem rep_okV {p : PyData} {n : Nat} {R : Prop} (h : Fit n p) (hn : n ≤ 200000) (k : R) : PyData.showable p = true ∧ p.shown.length ≤ sizeLine ∧ p.depth ≤ 60 ∧ R :=
  ⟨h.sh, h.line hn, Nat.le_trans h.dp (by decide), k⟩
section
variable {P : Program} {w : World} {K : PySem.W.Frag} {mg : Str → Option Value} {base : Heap}
def pClimbed : Nat → List D → (Nat → D → Prop) → Prop := fun b ds R => ∃ way : Int, ds = [.int way] ∧ 300 ≤ b ∧ ∀ b', R b' (.bl true)
theorem ok_climbed (T : Txt K mg) : FnG P w K mg base CX0 10 T.f_w_climbed T.d_w_climbed ["keg", "way"] (spR K pClimbed) := by
  have G_w_step : FnOk P w K mg base CX0 9 T.f_w_step T.d_w_step ["keg", "way", "x", "left", "burnt"] (spU K pStep) := (ok_step T).mono (by decide)
  have G_w_shut : FnOk P w K mg base CX0 9 T.f_w_shut T.d_w_shut ["burnt", "x", "left", "comb"] (spP K pShut) := (ok_shut T).mono (by decide)
  have G_w_is_free : FnOk P w K mg base CX0 9 T.f_w_is_free T.d_w_is_free ["climb", "x", "y"] (spP K (pFree T.c_Climb)) := ok_free T
  have G_begun := (ok_begun (P := P) (w := w) (base := base) T).mono (k := 9) (by decide)
  have G_moved := (ok_moved (P := P) (w := w) (base := base) T).mono (k := 9) (by decide)
  have G_burn_of := (ok_burn (P := P) (w := w) (base := base) T).mono (k := 9) (by decide)
  have G_is_burnt := (ok_isB (P := P) (w := w) (base := base) T).mono (k := 9) (by decide)
  have G_is_caught := (ok_caught (P := P) (w := w) (base := base) T).mono (k := 9) (by decide)
  have G_judged := (ok_judged (P := P) (w := w) (base := base) T).mono (k := 9) (by decide)
  have G_Caught_init : FnOk P w K mg base CX0 8 T.f_Caught_init T.d_Caught_init ["self", "origins", "lasted", "square"] (spMk K T.c_Caught (pCInit 4)) := (ok_cinit T 4).mono (by decide)
  have G_Paper_eq : FnOk P w K mg base CX0 9 T.f_Paper_eq T.d_Paper_eq ["self", "other"] (spP K (pEqC T.c_Caught)) := (ok_peq T).mono (by decide)
  refine okG T.F_w_climbed sc_w_climbed (k := 9) (spR_len fun b ds R ⟨p, e, _⟩ => by rw [e]; rfl) (fun cdv A outer s H vs Q E hr gd h => ?_)
  obtain ⟨off0, sy, nj, G, j, b, us, ds, R, rfl, eg, gt, gj, u, rp, ⟨way, rfl, hb, k⟩, kR⟩ := h
  have nj := nj j us rfl
  have hr1 := hr
  have hu1 := hu_of (hr.mono (j := 9) (by decide))
  have hu2 := hr.units
  have hu64 : (A.deeper (envOfC "_law_climbed" (defScope s_w_climbed) s.heap.objs.size T.f_w_climbed cdv)).units + 64 < cLine := by have := hr.un; omega
  have small : sizeLine = 16777216 := sizeLine_eq
  have hcl := T.oc_Climb.cl
  have hn0 := T.n_Climb_turn
  have hn2 := T.n_Climb_square
  have hn3 := T.n_Climb_origins
  have hn4 := T.n_Climb_lasted
  refine ⟨_, (pss_cons (ps_asg (pe_tup (pa_cons (pe_call G_begun hr1 rfl T.g_begun T.F_begun.kp (b_begun T) .nil (passes_call LamX.takes0 (fun _ _ _ _ h => h)) (pa_cons pe_int pa_nil)) (pa_cons pe_dnewK (pa_cons pe_int (pa_cons (pe_lst (pa_cons (pe_tup (pa_cons pe_int (pa_cons pe_int pa_nil))) pa_nil)) (pa_cons (pe_lst (pa_cons pe_int pa_nil)) pa_nil)))))) (pg_tup rfl (pgs_cons (pg_name (i := 2) sc_w_climbed.nd rfl (Or.inr rfl)) (pgs_cons (pg_name (i := 3) sc_w_climbed.nd rfl (Or.inr rfl)) (pgs_cons (pg_name (i := 4) sc_w_climbed.nd rfl (Or.inr rfl)) (pgs_cons (pg_name (i := 5) sc_w_climbed.nd rfl (Or.inl rfl)) (pgs_cons (pg_name (i := 6) sc_w_climbed.nd rfl (Or.inl rfl)) pgs_nil)))))))
  (pss_cons (ps_for PassesOwn.never rfl (pi_range1 (by rfl) T.z_range (pa_cons pe_int pa_nil)) (pg_name (i := 7) sc_w_climbed.nd rfl (Or.inl rfl))
  (pss_cons (ps_set (i := 8) sc_w_climbed.nd rfl (Or.inl rfl) (pe_call G_burn_of hr1 rfl T.g_burn_of T.F_burn_of.kp (b_burn_of T) .nil (passes_call LamX.takes0 (fun _ _ _ _ h => h)) (pa_cons (pv 2) pa_nil)))
  (pss_cons (ps_if (PW.pt (pw_and (pt_cmpR op_eq (pe_op op_mod (pe_callTy call_int1 (by rfl) T.z_int (by decide +kernel) (pa_cons (pv 7) pa_nil)) pe_int) pe_int (nomark _)) (pw_and1 (pt_not (pt_val (pe_call G_w_is_free hr1 rfl T.g_w_is_free T.F_w_is_free.kp (b_w_is_free T) .nil pass0 (pa_cons (pv 2) (pa_cons (pv 4) (pa_cons (pv 7) pa_nil))))))))) (pss_one (ps_ret pe_bl)) pss_nil)
  (pss_cons (ps_if (pt_cmpR op_notN (pv 8) pe_non (nomark _)) (pss_cons (ps_if (PW.pt (pw_or (pt_not (pt_val (pe_callB call_isi (by rfl) T.z_isinstance (by decide +kernel) (pa_cons (pv 8) (pa_cons (pe_bltn (v := .ty "tuple") (by rfl) T.z_tuple (by decide +kernel) rfl) pa_nil))))) (pw_or (pt_cmpR op_ne (pe_callB call_len_seq (by rfl) T.z_len (by decide +kernel) (pa_cons (pv 8) pa_nil)) pe_int (nomark _)) (pw_or (pt_cmpR op_ne (pe_ix ix_tup (pv 8) pe_int (fun _ _ => rfl)) pe_int (nomark _)) (pw_or1 (pt_cmpR (Kg.op_inDK hu1) (pe_ix ix_tup (pv 8) pe_int (fun _ _ => rfl)) (pv 3) (by rfl))))))) (pss_one (ps_ret pe_bl)) pss_nil)
  (pss_one (ps_dput hu1 (pv 3) (pe_ix ix_tup (pv 8) pe_int (fun _ _ => rfl)) pe_bl rfl))) pss_nil)
  (pss_cons (ps_set (i := 4) sc_w_climbed.nd rfl (Or.inr rfl) (pe_op op_add (pv 4) (pe_call G_w_step hr1 rfl T.g_w_step T.F_w_step.kp (b_w_step T) .nil pass0 (pa_cons (pv 0) (pa_cons (pv 1) (pa_cons (pv 4) (pa_cons (pe_op op_sub pe_int (pv 7)) (pa_cons (pv 3) pa_nil))))))))
  (pss_cons (ps_set (i := 2) sc_w_climbed.nd rfl (Or.inr rfl) (pe_call G_moved hr1 rfl T.g_moved T.F_moved.kp (b_moved T) .nil (passes_call LamX.takes0 (fun _ _ _ _ h => h)) (pa_cons (pv 2) (pa_cons pe_int (pa_cons (pe_tup (pa_cons (pv 4) (pa_cons (pe_op op_add (pv 7) pe_int) pa_nil))) pa_nil)))))
  (pss_cons (ps_asg (pe_op op_add (pe_ix ix_list (pv 6) (pe_un un_neg pe_int) (fun _ _ => rfl)) pe_int) (pg_sub (pv 6) (pe_un un_neg pe_int) set_list))
  (pss_cons (ps_if (pt_cmpR op_in_seq (pe_op op_add (pv 7) pe_int) (pe_tup (pa_cons pe_int (pa_cons pe_int (pa_cons pe_int (pa_cons pe_int (pa_cons pe_int pa_nil)))))) (by rfl)) (pss_cons (ps_if (pt_not (pt_val (pe_call G_w_shut hr1 rfl T.g_w_shut T.F_w_shut.kp (b_w_shut T) .nil pass0 (pa_cons (pv 3) (pa_cons (pv 4) (pa_cons (pe_op op_sub pe_int (pv 7)) (pa_cons (pe_op op_sub (pe_callB call_len_seq (by rfl) T.z_len (by decide +kernel) (pa_cons (pv 6) pa_nil)) pe_int) pa_nil))))))) (pss_one (ps_ret pe_bl)) pss_nil)
  (pss_cons (ps_expr (pe_bm PySem.F.plainAttrs_list PySem.F.slot_list_append PySem.F.type_list_append mt_append (pv 5) (pa_cons (pe_tup (pa_cons (pv 4) (pa_cons (pe_op op_add (pv 7) pe_int) pa_nil))) pa_nil)))
  (pss_one (ps_expr (pe_bm PySem.F.plainAttrs_list PySem.F.slot_list_append PySem.F.type_list_append mt_append (pv 6) (pa_cons pe_int pa_nil)))))) pss_nil)
  (pss_one (ps_if (pt_cmpR op_ne (pe_callB (cr_repr gd hu64 off0) (by rfl) T.z_repr (by decide +kernel) (pa_cons (pe_lst (pa_cons (pe_fld (pv 2) rfl) (pa_cons (pe_fld (pv 2) rfl) (pa_cons (pe_fld (pv 2) rfl) (pa_cons (pe_fld (pv 2) rfl) pa_nil))))) pa_nil)) (pe_callB (cr_repr gd hu64 off0) (by rfl) T.z_repr (by decide +kernel) (pa_cons (pe_lst (pa_cons (pe_op op_add (pv 7) pe_int) (pa_cons (pe_tup (pa_cons (pv 4) (pa_cons (pe_op op_add (pv 7) pe_int) pa_nil))) (pa_cons (pe_callTy call_tuple_of (by rfl) T.z_tuple (by decide +kernel) (pa_cons (pv 5) pa_nil)) (pa_cons (pe_callTy call_tuple_of (by rfl) T.z_tuple (by decide +kernel) (pa_cons (pv 6) pa_nil)) pa_nil))))) pa_nil)) (nomark _)) (pss_one (ps_ret pe_bl)) pss_nil))))))))))
  (pss_cons (ps_if (PW.pt (pw_or (pt_cmpR (op_neNil hu2) (pe_lc (own := [("aside", 9)]) (g := (gName 9)) rfl sc_w_climbed.nd (pi_list (pe_lst (pa_cons (pe_un un_neg pe_int) (pa_cons pe_int (pa_cons pe_int pa_nil))))) (blkOk_by (own := [("aside", 9)]) (N := ["keg", "way", "climb", "burnt", "x", "origins", "lasted", "turn", "burn", "aside", "told"]) (sc := defScope s_w_climbed) (by decide +kernel)) (fun _ _ _ _ _ => (pg_name (i := 9) sc_w_climbed.nd rfl (Or.inl rfl))) (fun _ _ _ _ _ => (pts_one (pt_cmpR (Kg.op_notInDK hu1) (pe_op op_add (pv 4) (pv 9)) (pv 3) (by rfl)))) (fun _ _ _ _ _ => (pv 9))) (pe_lst pa_nil) (nomark _)) (pw_or (pt_cmpR op_notN (pe_call G_burn_of hr1 rfl T.g_burn_of T.F_burn_of.kp (b_burn_of T) .nil (passes_call LamX.takes0 (fun _ _ _ _ h => h)) (pa_cons (pv 2) pa_nil)) pe_non (nomark _)) (pw_or1 (pt_cmpR op_notBl (pe_call G_is_caught hr1 rfl T.g_is_caught T.F_is_caught.kp (b_is_caught T) .nil (passes_call LamX.takes0 (fun _ _ _ _ h => h)) (pa_cons (pv 2) pa_nil)) pe_bl (nomark _)))))) (pss_one (ps_ret pe_bl)) pss_nil)
  (pss_cons (ps_setLc (i := 10) (own := [("aside", 9)]) (g := (gName 9)) rfl sc_w_climbed.nd rfl rfl (sw_true rfl rfl rfl (by decide +kernel)) (pi_range2 (by rfl) T.z_range (pa_cons (pe_un un_neg pe_int) (pa_cons pe_int pa_nil))) (blkOk_by (own := [("aside", 9)]) (N := ["keg", "way", "climb", "burnt", "x", "origins", "lasted", "turn", "burn", "aside", "told"]) (sc := defScope s_w_climbed) (by decide +kernel)) (fun _ _ _ _ _ => (pg_name (i := 9) sc_w_climbed.nd rfl (Or.inl rfl))) (fun _ _ _ _ _ => pts_nil) (fun _ _ _ _ _ => (pe_call G_is_burnt hr1 rfl T.g_is_burnt T.F_is_burnt.kp (b_is_burnt T) .nil (passes_call LamX.takes0 (fun _ _ _ _ h => h)) (pa_cons (pv 2) (pa_cons (pe_tup (pa_cons (pe_op op_add (pv 4) (pv 9)) (pa_cons pe_int pa_nil))) pa_nil)))))
  (pss_cons (ps_if (pt_cmpR op_ne (pe_callB (cr_repr gd hu64 off0) (by rfl) T.z_repr (by decide +kernel) (pa_cons (pv 10) pa_nil)) (pe_callB (cr_repr gd hu64 off0) (by rfl) T.z_repr (by decide +kernel) (pa_cons (pe_lc (own := [("aside", 9)]) (g := (gName 9)) rfl sc_w_climbed.nd (pi_range2 (by rfl) T.z_range (pa_cons (pe_un un_neg pe_int) (pa_cons pe_int pa_nil))) (blkOk_by (own := [("aside", 9)]) (N := ["keg", "way", "climb", "burnt", "x", "origins", "lasted", "turn", "burn", "aside", "told"]) (sc := defScope s_w_climbed) (by decide +kernel)) (fun _ _ _ _ _ => (pg_name (i := 9) sc_w_climbed.nd rfl (Or.inl rfl))) (fun _ _ _ _ _ => pts_nil) (fun _ _ _ _ _ => (pe_cmpR (Kg.op_inDK hu1) (pe_op op_add (pv 4) (pv 9)) (pv 3) (by rfl)))) pa_nil)) (nomark _)) (pss_one (ps_ret pe_bl)) pss_nil)
  (pss_one (ps_ret (pe_cmpR (Kg.op_eqO G_Paper_eq hr1 T.q_Caught T.qf_Caught (b_Paper_eq T) pass0) (pe_callKW G_judged hr1 rfl T.g_judged T.F_judged.kp (kb_judged_climb T) (passes_call LamX.takes0 (fun _ _ _ _ h => h)) (pk_cons (pv 2) pk_nil)) (pe_make T.mk_Caught G_Caught_init hr1 (by rfl) T.gc_Caught (b_Caught_init T) .nil pass0 (pa_cons (pe_callTy call_tuple_of (by rfl) T.z_tuple (by decide +kernel) (pa_cons (pv 5) pa_nil)) (pa_cons (pe_callTy call_tuple_of (by rfl) T.z_tuple (by decide +kernel) (pa_cons (pv 6) pa_nil)) (pa_cons (pe_tup (pa_cons (pv 4) (pa_cons pe_int pa_nil))) pa_nil)))) (nomark _))))))))), ?_⟩
  refine enterR off0 sy nj eg gt gj u rp kR fun c hc ok njc => ?_
  subst hc
  walk_at "cl"
  refine s_seq ?_
  walk_at "ns"
  walk_at "cl"
  refine s_seq ?_
  walk_at "nn"
  refine ⟨fun i s1 => ∃ (m : Cl) (bk : List Int) (x7 x8 x9 x10 : Sl) (b' : Nat), s1 = ⟨[.ur, .d (.int way), .d (clD T.c_Climb m), .ow (.k (bkL bk)), .d (.int m.x), .own (m.os.map pD), .own (m.ls.map .int), x7, x8, x9, x10], b'⟩ ∧
      Up i m ∧ bk.length ≤ i ∧ (∀ u, u ∈ bk ↔ Burnt m u 256) ∧ b ≤ b' + i, .inl ⟨c0 1, [], .no, .no, .no, .no, b, rfl, Up.start, Nat.le_refl 0, fun u => ?_, Nat.le_refl _⟩, ?_, ?_⟩
  · exact ⟨fun h => (nomatch h), fun h => absurd h (burnt0 u)⟩
  · rintro i d0 s1 hd ⟨m, bk, x7, x8, x9, x10, b', rfl, up, lb, hbk, bb⟩
    obtain ⟨hi, rfl⟩ := rangeD_get hd
    rw [Int.zero_add]
    have i255 : i < 255 := by omega
    have wf := up.wf
    have ux1 := up.x1
    have ux2 := up.x2
    obtain ⟨ob, bD, bN, bM⟩ := up.burn
    walk_at "ns"
    refine s_seq ?_
    walk_at "ns"
    walk_at "cl"
    refine s_seqM (fun s1 => s1 = ⟨[.ur, .d (.int way), .d (clD T.c_Climb m), .ow (.k (bkL bk)), .d (.int m.x), .own (m.os.map pD), .own (m.ls.map .int), .d (.int i), .d (burnD m), x9, x10], b'⟩) ?_ ?_
    · walk_at "nn"
      refine ifB (fun d1 => ?_) (fun d1 => ?_)
      · walk_at "nn"
        refine ⟨m, by rw [show (i : Int) = m.y by rw [up.y]], wf, by rw [up.y, up.hp, hgt1]; omega, ?_⟩
        walk_at "nn"
        rfl
      · walk_at "nn"
        rfl
    rintro s1 rfl
    refine s_seqM (fun s1 => ∃ bk', s1 = ⟨[.ur, .d (.int way), .d (clD T.c_Climb m), .ow (.k (bkL bk')), .d (.int m.x), .own (m.os.map pD), .own (m.ls.map .int), .d (.int i), .d (burnD m), x9, x10], b'⟩ ∧ bk'.length ≤ i + 1 ∧ ∀ u, u ∈ bk' ↔ Burnt m u 256 ∨ ob = some u) ?_ ?_
    · cases ob with
      | none =>
        rw [bD]
        walk_at "nn"
        exact fun u => by rw [hbk]; exact ⟨.inl, fun h => h.elim id fun e => nomatch e⟩
      | some q =>
        have nq := bN q rfl
        rw [bD]
        have nqb : ¬ q ∈ bk := fun h => nq ((hbk q).mp h)
        walk_at "nn"
        refine ⟨.inl q, bkL bk, rfl, rfl, ?_⟩
        rw [bk_any, decide_eq_false nqb]
        walk_at "nn"
        refine s_dputK ?_
        walk_at "nn"
        refine ⟨bkL bk, .inl q, rfl, rfl, by unfold bkL; rw [List.length_map]; omega, ?_⟩
        rw [put_new nqb]
        refine ⟨bk ++ [q], rfl, by rw [List.length_append, List.length_singleton]; omega, fun u => ?_⟩
        rw [List.mem_append, List.mem_singleton, hbk]
        exact ⟨fun h => h.imp id fun e => by rw [e], fun h => h.imp id fun e => by cases e; rfl⟩
    rintro s1 ⟨bk', rfl, lb', hbk'⟩
    refine s_seq ?_
    walk_at "np"
    refine e_lend 3 (bkD bk') (fun ns e => by cases e) rfl ?_
    refine l_cons ?_
    walk_at "nn"
    refine l_cons ?_
    walk_at "nn"
    refine l_cons ?_
    walk_at "nn"
    refine l_var ⟨⟨_, rfl⟩, l_nil ?_⟩
    refine ⟨⟨_, rfl, rfl⟩, way, m.x, _, bk', rfl, (show 1 ≤ b' by omega), by omega, by omega, by omega, by omega, by omega, fun b2 d hb2 d1 d2 => ⟨rfl, ?_⟩⟩
    have hb2 : b' ≤ b2 + 1 := hb2
    obtain ⟨L, up', hx, hE, hE5⟩ := up.next (by omega) d1 d2
    have wl := wf.ls
    have wo := wf.os
    have ule := up.le
    have hl : m.ls.length ≠ 0 := by omega
    walk_at "nn"
    walk_at "cl"
    refine ⟨m, 1, _, _, m.x + d, (i : Int) + 1, rfl, wf, by omega, by decide, .tup (.cons (.int _) (.cons (.int _) .nil)), rfl, fun _ => ?_, fun nL => (nL L).elim⟩
    obtain ⟨m', hm⟩ : ∃ m', m.mv 1 (m.x + d) ((i : Int) + 1) = m' := ⟨_, rfl⟩
    have bM' := fun col => bM (m.x + d) ((i : Int) + 1) col
    have eos : m'.os = if Ends m.p (stg m) ((i : Int) + 1) then m.os ++ [(m.x + d, (i : Int) + 1)] else m.os := by rw [← hm]; unfold Cl.mv; split <;> rfl
    have els : m'.ls = if Ends m.p (stg m) ((i : Int) + 1) then m.ls.dropLast ++ [m.ls.getLastD 0 + 1] ++ [0] else m.ls.dropLast ++ [m.ls.getLastD 0 + 1] := by rw [← hm]; unfold Cl.mv; split <;> rfl
    rw [hm] at up' hx bM' ⊢
    clear bM hm
    have bk2 : ∀ u, u ∈ bk' ↔ Burnt m' u 256 := fun u => by rw [hbk', bM']
    have up1 := up'.x1
    have up2 := up'.x2
    walk_at "ns"
    try walk_at "cl"
    refine s_seq ?_
    refine s_setL ?_
    walk_at "nn"
    refine ⟨_, -1, _, rfl, rfl, at_last hl, ?_⟩
    walk_at "nn"
    refine ⟨_, -1, m.ls.length - 1, rfl, rfl, by unfold ixN; rw [List.length_map, if_neg (by decide), if_pos (by omega)]; congr 1; omega, ?_⟩
    rw [set_last _ _ hl]
    walk_at "ns"
    try walk_at "cl"
    refine s_seqM (fun s1 => s1 = ⟨[.ur, .d (.int way), .d (clD T.c_Climb m'), .ow (.k (bkL bk')), .d (.int m'.x), .own (m'.os.map pD), .own (m'.ls.map .int), .d (.int i), .d (burnD m), x9, x10], b2⟩) ?_ ?_
    · refine s_if ?_
      refine t_test ?_
      refine e_inTI ?_
      walk_at "nn"
      refine ⟨(i : Int) + 1, [128, 192, 224, 240, 248], rfl, rfl, ?_⟩
      walk_at "nn"
      have hin : ((i : Int) + 1 ∈ ([128, 192, 224, 240, 248] : List Int)) ↔ Ends m.p (stg m) ((i : Int) + 1) := by
        rw [← hE]; simp only [List.mem_cons, List.not_mem_nil, or_false]
      dsimp only
      refine ifB (fun d3 => ?_) (fun d3 => ?_)
      · have en := hin.mp (of_decide_eq_true d3)
        rw [if_pos en] at eos els
        have l5 := hE5 en
        walk_at "nq"
        refine e_lendP 3 (bkD bk') ?_
        refine l_var ⟨⟨_, rfl⟩, ?_⟩
        refine l_cons ?_
        walk_at "nn"
        refine l_cons ?_
        walk_at "nn"
        refine l_cons ?_
        walk_at "nn"
        refine l_nil ?_
        have lc : ((List.map D.int (m.ls.dropLast ++ [m.ls.getLastD 0 + 1])).length : Int) - 1 = (m.os.length : Int) - 1 := by
          simp only [List.length_map, List.length_append, List.length_dropLast, List.length_singleton]
          omega
        refine ⟨⟨_, rfl, rfl⟩, bk', m.x + d, 255 - (i : Int), _, rfl, by omega, by omega, by omega, by omega, by omega, by rw [lc]; omega, by rw [lc]; omega, fun col c1 c2 c3 => ?_, rfl, ?_⟩
        · rw [lc] at c3
          rw [bk2]
          exact up'.reach (i := m.os.length - 1) (by rw [eos, List.length_append, List.length_singleton]; omega) (by rw [hx]; omega) (by rw [hx]; omega) (by omega)
        walk_at "nn"
        dsimp only
        rw [eos, els, hx]
        simp only [List.map_append]
        rfl
      · have en : ¬ Ends m.p (stg m) ((i : Int) + 1) := fun z => absurd (hin.mpr z) (of_decide_eq_false d3)
        rw [if_neg en] at eos els
        walk_at "nn"
        rw [eos, els, hx]
    rintro s1 rfl
    have py1 : Py (.lst [.int ((i : Int) + 1), .tup [.int m'.x, .int ((i : Int) + 1)], .tup (m'.os.map pD), .tup (m'.ls.map .int)]) (.list [.int ((i : Int) + 1), pP (m'.x, (i : Int) + 1), .tuple (m'.os.map pP), .tuple (m'.ls.map .int)]) :=
      .lst (.cons (.int _) (.cons (.tup (.cons (.int _) (.cons (.int _) .nil))) (.cons (.tup (py_pairs _)) (.cons (.tup (py_ints _)) .nil))))
    obtain ⟨so, sl⟩ := up'.small
    have le' := up'.le
    have wl' := up'.wf.ls
    have f1 : Fit 940 (.list [.int ((i : Int) + 1), pP (m'.x, (i : Int) + 1), .tuple (m'.os.map pP), .tuple (m'.ls.map .int)]) := by
      refine (fit_seq (n := 234) (ds := _) 4 (by simp) fun d hd => ?_).1
      have q1 : Fit 234 (.tuple (m'.os.map pP)) := (fit_seq (n := 38) (ds := m'.os.map pP) 6 (by rw [List.length_map]; omega) fun d hd => by
        obtain ⟨o, ho, rfl⟩ := List.mem_map.mp hd
        obtain ⟨h1, h2⟩ := so o ho
        have := fit_pr (z := o) (by omega) (by omega)
        exact ⟨this.1, by rw [this.2]; decide⟩).2
      have q2 : Fit 114 (.tuple (m'.ls.map .int)) := (fit_seq (n := 18) (ds := m'.ls.map .int) 6 (by rw [List.length_map]; omega) fun d hd => by
        obtain ⟨l, hl, rfl⟩ := List.mem_map.mp hd
        exact ⟨fit_small (by have := sl l hl; omega), by simp [PyData.depth]⟩).2
      have q3 := fit_pr (z := (m'.x, (i : Int) + 1)) (by dsimp only; omega) (by dsimp only; omega)
      have d1 := (pPs_pl m'.os).2.2
      have d2 := (ints_pl m'.ls).2.2
      simp only [List.mem_cons, List.not_mem_nil, or_false] at hd
      rcases hd with rfl | rfl | rfl | rfl
      · exact ⟨(fit_small (by omega)).mono (by decide), by simp [PyData.depth]⟩
      · exact ⟨q3.1.mono (by decide), by rw [q3.2]; decide⟩
      · exact ⟨q1, by rw [PyData.depth]; omega⟩
      · exact ⟨q2.mono (by decide), by rw [PyData.depth]; omega⟩
    have vw : ∀ s : NS, pyVw s (Vw.f [D.int ((i : Int) + 1), D.tup [D.int m'.x, D.int ((i : Int) + 1)], D.tup (List.map pD m'.os), D.tup (List.map D.int m'.ls)]) (.list [.int ((i : Int) + 1), pP (m'.x, (i : Int) + 1), .tuple (m'.os.map pP), .tuple (m'.ls.map .int)]) := fun s => .inr ⟨_, _, rfl, .cons (.int _) (.cons (.tup (.cons (.int _) (.cons (.int _) .nil))) (.cons (.tup (py_pairs _)) (.cons (.tup (py_ints _)) .nil))), rfl⟩
    obtain ⟨pd, vw, r1, r2, r3⟩ : ∃ pd, (∀ s : NS, pyVw s (Vw.f [D.int ((i : Int) + 1), D.tup [D.int m'.x, D.int ((i : Int) + 1)], D.tup (List.map pD m'.os), D.tup (List.map D.int m'.ls)]) pd) ∧ PyData.showable pd = true ∧ pd.shown.length ≤ sizeLine ∧ pd.depth ≤ 60 := ⟨_, vw, f1.sh, f1.line (by decide), Nat.le_trans f1.dp (by decide)⟩
    unfold clD
    walk_at "nn"
    rw [up'.sum, up'.y]
    refine ⟨_, vw _, r1, r2, r3, ?_⟩
    walk_at "nn"
    refine ⟨_, vw _, r1, r2, r3, ?_⟩
    walk_at "nn"
    rw [decide_eq_true rfl]
    walk_at "nn"
    exact ⟨m', bk', _, _, _, _, b2, by rw [up'.sum, up'.y], up', lb', bk2, by omega⟩
  · rintro s1 ⟨m, bk, x7, x8, x9, x10, b', rfl, up, lb, hbk, bb⟩
    have up : Up 255 m := up
    have lb : bk.length ≤ 255 := lb
    have wf := up.wf
    have hi := up.hi
    have ux1 := up.x1
    have ux2 := up.x2
    have ule := up.le
    have wo := wf.os
    have wl := wf.ls
    have l6 : m.os.length = 6 := by
      by_cases q : m.os.length ≤ 5
      · have := hi q
        obtain e | e | e | e | e : m.os.length = 1 ∨ m.os.length = 2 ∨ m.os.length = 3 ∨ m.os.length = 4 ∨ m.os.length = 5 := by omega
        all_goals
          rw [e] at this
          simp only [lo] at this
          omega
      · omega
    have all3 : ∀ a : Int, -1 ≤ a → a ≤ 1 → m.x + a ∈ bk := fun a a1 a2 => by
      rw [hbk]
      exact up.reach (i := ((m.x + a) % 5).toNat) (by omega) (by omega) (by omega) (by omega)
    walk_at "ns"
    dsimp only
    refine s_seq ?_
    refine s_if ?_
    refine t_or ?_
    refine t_test ?_
    refine e_neNil ?_
    refine e_lcP ?_
    walk_at "nn"
    refine ⟨Int, [-1, 0, 1], D.int, fun _ => none, rfl, by rw [small]; decide, fun z hz => ?_, ?_⟩
    · have hz2 : -1 ≤ z ∧ z ≤ 1 := by
        simp only [List.mem_cons, List.not_mem_nil, or_false] at hz
        omega
      walk_at "nn"
      refine ⟨.inl _, bkL bk, rfl, rfl, ?_⟩
      rw [bk_any, decide_eq_true (all3 z hz2.1 hz2.2)]
      walk_at "nn"
      exact ⟨rfl, rfl, rfl⟩
    rw [show List.filterMap (fun _ : Int => (none : Option D)) [-1, 0, 1] = [] from rfl]
    have bn : burnD m = .non := by
      have la := up.la
      rw [l6] at la
      unfold burnD due
      rw [show stg m = 5 by unfold stg; omega, up.hp, combs1, if_pos rfl, if_pos]
      have : lo (6 - 1) = 248 := rfl
      omega
    walk_at "nn"
    rw [bn]
    dsimp only
    refine ifF rfl ?_
    walk_at "nn"
    rw [decide_eq_true (by rw [up.y, up.hp, hgt1]; decide)]
    walk_at "nn"
    refine e_lcP ?_
    walk_at "nn"
    refine ⟨Nat, List.range 25, fun n => .int (-12 + (n : Int)), fun n => some (.bl (decide (m.x + (-12 + (n : Int)) ∈ bk))), rfl, by rw [small]; decide, fun z hz => ?_, ?_⟩
    · walk_at "nn"
      refine ⟨m, _, _, m.x + (-12 + (z : Int)), 256, rfl, wf, .tup (.cons (.int _) (.cons (.int _) .nil)), rfl, fun hB => ?_, fun hB => ?_⟩
      · exact ⟨rfl, rfl, congrArg (fun b => some (D.bl b)) (decide_eq_true ((hbk _).mpr hB))⟩
      · exact ⟨rfl, rfl, congrArg (fun b => some (D.bl b)) (decide_eq_false fun h => hB ((hbk _).mp h))⟩
    rw [List.filterMap_eq_map']
    obtain ⟨pd, vw, vw2, r1, r2, r3⟩ : ∃ pd, (∀ s : NS, s.γ[10]? = some (.own ((List.range 25).map fun (n : Nat) => D.bl (decide (m.x + (-12 + (n : Int)) ∈ bk)))) → pyVw s (.s 10) pd) ∧ (∀ s : NS, pyVw s (Vw.f ((List.range 25).map fun (n : Nat) => D.bl (decide (m.x + (-12 + (n : Int)) ∈ bk)))) pd) ∧ PyData.showable pd = true ∧ pd.shown.length ≤ sizeLine ∧ pd.depth ≤ 60 := by
      have pa : ∀ L : List Nat, PyAll (L.map fun (n : Nat) => D.bl (decide (m.x + (-12 + (n : Int)) ∈ bk))) (L.map fun (n : Nat) => PyData.bool (decide (m.x + (-12 + (n : Int)) ∈ bk))) := fun L => by
        induction L with
        | nil => exact .nil
        | cons n L ih => exact .cons (.bl _) ih
      have f1 : Fit 525 (.list ((List.range 25).map fun (n : Nat) => PyData.bool (decide (m.x + (-12 + (n : Int)) ∈ bk)))) := (fit_seq (n := 20) (ds := _) 25 (by rw [List.length_map, List.length_range]; exact Nat.le_refl 25) fun d hd => by
        obtain ⟨n, _, rfl⟩ := List.mem_map.mp hd
        exact ⟨fit_bl _, by simp [PyData.depth]⟩).1
      exact ⟨_, fun s h => .inr ⟨_, _, by simp only [lsOf, h], pa _, rfl⟩, fun s => .inr ⟨_, _, rfl, pa _, rfl⟩, f1.sh, f1.line (by decide), Nat.le_trans f1.dp (by decide)⟩
    walk_at "nn"
    refine ⟨_, vw _ rfl, r1, r2, r3, ?_⟩
    walk_at "nn"
    refine e_lcP ?_
    walk_at "nn"
    refine ⟨Nat, List.range 25, fun n => .int (-12 + (n : Int)), fun n => some (.bl (decide (m.x + (-12 + (n : Int)) ∈ bk))), rfl, by rw [small]; decide, fun z hz => ?_, ?_⟩
    · walk_at "nn"
      refine ⟨.inl _, bkL bk, rfl, rfl, ?_⟩
      rw [bk_any]
      walk_at "nn"
      exact ⟨rfl, rfl, rfl⟩
    rw [List.filterMap_eq_map']
    walk_at "nn"
    refine ⟨_, vw2 _, r1, r2, r3, ?_⟩
    walk_at "nn"
    rw [decide_eq_true rfl]
    walk_at "nn"
    have hy : m.y = hgt m.p - 1 := by rw [up.y, up.hp, hgt1]; decide
    refine ⟨fun _ => ?_, fun z => absurd hy z⟩
    have ey : m.y = 255 := up.y
    rw [ey]
    unfold cauD
    walk_at "nn"
    refine ⟨_, init_cau (os := m.os) (ls := m.ls) (q := (m.x, 255)) (by omega) (by omega), ?_⟩
    walk_at "nn"
    refine ⟨m.os, m.ls, (m.x, 255), rfl, by omega, by omega, true, rfl, ?_⟩
    walk_at "nn"
    exact k b'
end
end K43
namespace K43
open PySem PySem.Spec PyProof.Rows L2 Kg Kn LamX
open Evl (Ex)




local macro_rules | `(tactic| walk_at "ns") => `(tactic| repeat ((fail_if_success (with_reducible show wS _ (tSeq _ _) _ _)); walk_at "n1"))
section
variable {P : Program} {w : World} {K : PySem.W.Frag} {mg : Str → Option Value} {base : Heap}
def spLaw (K : PySem.W.Frag) (cs : List (Addr × Addr)) : Sp := fun vs H Q _ => ∃ (a : Addr) (ns : List Int), vs = [.ref a] ∧ ns.length ≤ 63 ∧ OffK K ∧ EntryT K cs H a ns ∧ ∀ H', Q (.bl true) H'
theorem ok_law (T : Txt K mg) : FnG P w K mg base CX0 11 T.f_law T.d_law ["script"] (spLaw K []) := by
  have G_w_keg : FnOk P w K mg base CX0 10 T.f_w_keg T.d_w_keg ["script"] (spUrn K) := (ok_urn T).mono (by decide)
  have G_w_one : FnOk P w K mg base CX0 10 T.f_w_one T.d_w_one ["keg", "some"] (spU K pPick) := (ok_one T).mono (by decide)
  have G_w_climbed := (ok_climbed (P := P) (w := w) (base := base) T).mono (k := 10) (by decide)
  refine okG T.F_law sc_law (k := 10) (fun vs H Q E h => ?_) (fun cdv A outer s H vs Q E hr gd h => ?_)
  · obtain ⟨a, ns, rfl, _⟩ := h
    rfl
  · obtain ⟨a, ns, rfl, hl, off0, en, k⟩ := h
    have hr1 := hr
    have small : sizeLine = 16777216 := sizeLine_eq
    have hu64 : (A.deeper (envOfC "law" (defScope s_law) s.heap.objs.size T.f_law cdv)).units + 64 < cLine := by have := hr.un; omega
    refine ⟨_, (pss_cons (ps_set (i := 1) sc_law.nd rfl (Or.inl rfl) (pe_call G_w_keg hr1 rfl T.g_w_keg T.F_w_keg.kp (b_w_keg T) .nil pass0 (pa_cons (pv 0) pa_nil)))
  (pss_one (ps_ret (pe_callG G_w_climbed hr1 gd rfl T.g_w_climbed T.F_w_climbed.kp (b_w_climbed T) .nil pass0 (pa_cons (pv 1) (pa_cons (pe_call G_w_one hr1 rfl T.g_w_one T.F_w_one.kp (b_w_one T) .nil pass0 (pa_cons (pv 1) (pa_cons (pe_lst (pa_cons pe_int (pa_cons pe_int (pa_cons pe_int (pa_cons pe_int (pa_cons pe_int (pa_cons pe_int (pa_cons pe_int (pa_cons pe_int pa_nil))))))))) pa_nil))) pa_nil)))))), ?_⟩
    walk_at "rd"
    refine ⟨a, ns, rfl, en.script, hl, fun j B0 H1 hj e1 eB u => ?_⟩
    have nsys : sysModules ≠ j := fun e => by
      obtain ⟨o, φ, h⟩ := en.sys
      rw [e, hj] at h; cases h
    have sys1 : Sys H1 := en.sys.mono e1
    have bj : B0 j = none := by
      cases q : B0 j with
      | none => rfl
      | some o => have := u.ba _ _ q; rw [show off j H1 j = none from if_pos rfl] at this; cases this
    have gj : noT B0 j = none := by unfold noT; rw [bj]
    obtain ⟨cc, ms, at', rest, q1, q2, q3, q4, q5⟩ := u.it
    dsimp only [gName]
    have es : (L2.start ["script", "keg"] [V.ref a]).set 1 (some (V.ref j)) = [some (.ref a), some (.ref j)] := rfl
    rw [es]
    refine enterT (Z := { nx := fun _ H' => Q .non H', rt := Q }) (T := []) (G := noT B0) (j := j) (b := 1000000) (γ := [.no, .ur]) (R := fun _ d => d = .bl true) (fun r hr' => nomatch hr') (fun x o h => off_sub j _ _ _ (u.ba _ _ (noT_sub _ _ _ h))) (fun x o h => (noT_of h).2) gj ⟨cc, ms, at', rest, q1, noT_l q2, q3, q4, q5⟩ ?_ ?_ ?_ (fun _ _ => Iff.rfl) ?_
    · rfl
    · intro i x hx
      match i, hx with
      | 0, hx => cases hx; exact ⟨(fun _ z => nomatch z), trivial⟩
      | 1, hx => cases hx; exact ⟨(fun _ z => nomatch z), rfl, rfl⟩
      | n + 2, hx => cases hx
    · intro v d b' G' H' hd _ _ _ _ _ _ _ rp
      subst hd
      cases rp
      exact k H'
    intro c' hc hcj htk hT keep
    have ok : ReprOk c' := ⟨by rw [hc]; exact off0, fun s σ G' H' t => by
      obtain ⟨o, φ, h⟩ := sys1
      exact ⟨o, φ, keep _ _ _ _ t _ _ h (fun _ z => nomatch z) nsys⟩⟩
    have njc : sysModules ≠ c'.j := by rw [hcj]; exact nsys
    subst hc
    walk_at "nd"
    refine ⟨by simp, by simp, fun e he => ?_⟩
    obtain ⟨st, rfl⟩ : ∃ z : Int, e = .int z := by
      simp only [List.mem_cons, List.not_mem_nil, or_false] at he
      rcases he with rfl | rfl | rfl | rfl | rfl | rfl | rfl | rfl <;> exact ⟨_, rfl⟩
    walk_at "nd"
    intro b'
    walk_at "nd"
    rfl
end
end K43
end
namespace K43
open PySem PySem.Spec PyProof.Rows L2 Kg
theorem all_mk {l : PySem.W.OpenLaw} {w : World} {K : PySem.W.Frag} {h : Heap} {mg : Str → Option Value} {fa : Addr} {q : Program} (X : K.In h) (G : h.Ns mainGlobals mg) (hfa : mg "law" = some (.ref fa))
    {c_BadNumber : Addr}
    {c_BadSquare : Addr}
    {c_BadClimb : Addr}
    {c_Misfit : Addr}
    {c_FlightError : Addr}
    {nm_BadNumber q_BadNumber : Str} {N_BadNumber : Addr} {bs_BadNumber : List Value} {sn_BadNumber : List Str} {sub_BadNumber : List Value} {ab_BadNumber : Bool} {col_BadNumber : Option Bool} {dd_BadNumber : Option Addr} {k0_BadNumber k1_BadNumber k2_BadNumber k3_BadNumber k5_BadNumber : Option Value}
    {nm_BadSquare q_BadSquare : Str} {N_BadSquare : Addr} {bs_BadSquare : List Value} {sn_BadSquare : List Str} {sub_BadSquare : List Value} {ab_BadSquare : Bool} {col_BadSquare : Option Bool} {dd_BadSquare : Option Addr} {k0_BadSquare k1_BadSquare k2_BadSquare k3_BadSquare k5_BadSquare : Option Value}
    {nm_BadClimb q_BadClimb : Str} {N_BadClimb : Addr} {bs_BadClimb : List Value} {sn_BadClimb : List Str} {sub_BadClimb : List Value} {ab_BadClimb : Bool} {col_BadClimb : Option Bool} {dd_BadClimb : Option Addr} {k0_BadClimb k1_BadClimb k2_BadClimb k3_BadClimb k5_BadClimb : Option Value}
    {nm_Misfit q_Misfit : Str} {N_Misfit : Addr} {bs_Misfit : List Value} {sn_Misfit : List Str} {sub_Misfit : List Value} {ab_Misfit : Bool} {col_Misfit : Option Bool} {dd_Misfit : Option Addr} {k0_Misfit k1_Misfit k2_Misfit k3_Misfit k5_Misfit : Option Value}
    {f0 : Addr} {od0 an0 : Option Addr} {sl0 : Array (Option Value)} {oc0 kV0 dc0 pm0 cd0 ct0 : Value}
    {f1 : Addr} {od1 an1 : Option Addr} {sl1 : Array (Option Value)} {oc1 kV1 dc1 pm1 cd1 ct1 : Value}
    {f2 : Addr} {od2 an2 : Option Addr} {sl2 : Array (Option Value)} {oc2 kV2 dc2 pm2 cd2 ct2 : Value}
    {f3 : Addr} {od3 an3 : Option Addr} {sl3 : Array (Option Value)} {oc3 kV3 dc3 pm3 cd3 ct3 : Value}
    {f4 : Addr} {od4 an4 : Option Addr} {sl4 : Array (Option Value)} {oc4 kV4 dc4 pm4 cd4 ct4 : Value}
    {f5 : Addr} {od5 an5 : Option Addr} {sl5 : Array (Option Value)} {oc5 kV5 dc5 pm5 cd5 ct5 : Value}
    {f6 : Addr} {od6 an6 : Option Addr} {sl6 : Array (Option Value)} {oc6 kV6 dc6 pm6 cd6 ct6 : Value}
    {f7 : Addr} {od7 an7 : Option Addr} {sl7 : Array (Option Value)} {oc7 kV7 dc7 pm7 cd7 ct7 : Value}
    {f8 : Addr} {od8 an8 : Option Addr} {sl8 : Array (Option Value)} {oc8 kV8 dc8 pm8 cd8 ct8 : Value}
    {f9 : Addr} {od9 an9 : Option Addr} {sl9 : Array (Option Value)} {oc9 kV9 dc9 pm9 cd9 ct9 : Value}
    {f10 : Addr} {od10 an10 : Option Addr} {sl10 : Array (Option Value)} {oc10 kV10 dc10 pm10 cd10 ct10 : Value}
    {f11 : Addr} {od11 an11 : Option Addr} {sl11 : Array (Option Value)} {oc11 kV11 dc11 pm11 cd11 ct11 : Value}
    {f12 : Addr} {od12 an12 : Option Addr} {sl12 : Array (Option Value)} {oc12 kV12 dc12 pm12 cd12 ct12 : Value}
    {f13 : Addr} {od13 an13 : Option Addr} {sl13 : Array (Option Value)} {oc13 kV13 dc13 pm13 cd13 ct13 : Value}
    {f14 : Addr} {od14 an14 : Option Addr} {sl14 : Array (Option Value)} {oc14 kV14 dc14 pm14 cd14 ct14 : Value}
    {f15 : Addr} {od15 an15 : Option Addr} {sl15 : Array (Option Value)} {oc15 kV15 dc15 pm15 cd15 ct15 : Value}
    {f16 : Addr} {od16 an16 : Option Addr} {sl16 : Array (Option Value)} {oc16 kV16 dc16 pm16 cd16 ct16 : Value}
    {f17 : Addr} {od17 an17 : Option Addr} {sl17 : Array (Option Value)} {oc17 kV17 dc17 pm17 cd17 ct17 : Value}
    {f18 : Addr} {od18 an18 : Option Addr} {sl18 : Array (Option Value)} {oc18 kV18 dc18 pm18 cd18 ct18 : Value}
    {f19 : Addr} {od19 an19 : Option Addr} {sl19 : Array (Option Value)} {oc19 kV19 dc19 pm19 cd19 ct19 : Value}
    {f20 : Addr} {od20 an20 : Option Addr} {sl20 : Array (Option Value)} {oc20 kV20 dc20 pm20 cd20 ct20 : Value}
    {f21 : Addr} {od21 an21 : Option Addr} {sl21 : Array (Option Value)} {oc21 kV21 dc21 pm21 cd21 ct21 : Value}
    {f22 : Addr} {od22 an22 : Option Addr} {sl22 : Array (Option Value)} {oc22 kV22 dc22 pm22 cd22 ct22 : Value}
    {f23 : Addr} {od23 an23 : Option Addr} {sl23 : Array (Option Value)} {oc23 kV23 dc23 pm23 cd23 ct23 : Value}
    {f24 : Addr} {od24 an24 : Option Addr} {sl24 : Array (Option Value)} {oc24 kV24 dc24 pm24 cd24 ct24 : Value}
    {f25 : Addr} {od25 an25 : Option Addr} {sl25 : Array (Option Value)} {oc25 kV25 dc25 pm25 cd25 ct25 : Value}
    {f26 : Addr} {od26 an26 : Option Addr} {sl26 : Array (Option Value)} {oc26 kV26 dc26 pm26 cd26 ct26 : Value}
    {f27 : Addr} {od27 an27 : Option Addr} {sl27 : Array (Option Value)} {oc27 kV27 dc27 pm27 cd27 ct27 : Value}
    {f28 : Addr} {od28 an28 : Option Addr} {sl28 : Array (Option Value)} {oc28 kV28 dc28 pm28 cd28 ct28 : Value}
    {f29 : Addr} {od29 an29 : Option Addr} {sl29 : Array (Option Value)} {oc29 kV29 dc29 pm29 cd29 ct29 : Value}
    {f30 : Addr} {od30 an30 : Option Addr} {sl30 : Array (Option Value)} {oc30 kV30 dc30 pm30 cd30 ct30 : Value}
    {f31 : Addr} {od31 an31 : Option Addr} {sl31 : Array (Option Value)} {oc31 kV31 dc31 pm31 cd31 ct31 : Value}
    {f32 : Addr} {od32 an32 : Option Addr} {sl32 : Array (Option Value)} {oc32 kV32 dc32 pm32 cd32 ct32 : Value}
    {f33 : Addr} {od33 an33 : Option Addr} {sl33 : Array (Option Value)} {oc33 kV33 dc33 pm33 cd33 ct33 : Value}
    {f34 : Addr} {od34 an34 : Option Addr} {sl34 : Array (Option Value)} {oc34 kV34 dc34 pm34 cd34 ct34 : Value}
    {f35 : Addr} {od35 an35 : Option Addr} {sl35 : Array (Option Value)} {oc35 kV35 dc35 pm35 cd35 ct35 : Value}
    {f36 : Addr} {od36 an36 : Option Addr} {sl36 : Array (Option Value)} {oc36 kV36 dc36 pm36 cd36 ct36 : Value}
    {f37 : Addr} {od37 an37 : Option Addr} {sl37 : Array (Option Value)} {oc37 kV37 dc37 pm37 cd37 ct37 : Value}
    {f38 : Addr} {od38 an38 : Option Addr} {sl38 : Array (Option Value)} {oc38 kV38 dc38 pm38 cd38 ct38 : Value}
    {f39 : Addr} {od39 an39 : Option Addr} {sl39 : Array (Option Value)} {oc39 kV39 dc39 pm39 cd39 ct39 : Value}
    {f40 : Addr} {od40 an40 : Option Addr} {sl40 : Array (Option Value)} {oc40 kV40 dc40 pm40 cd40 ct40 : Value}
    {f41 : Addr} {od41 an41 : Option Addr} {sl41 : Array (Option Value)} {oc41 kV41 dc41 pm41 cd41 ct41 : Value}
    {c_Denial : Addr}
    {c_Climb : Addr}
    {c_Paper : Addr}
    {c_Caught : Addr}
    {c_Free : Addr}
    {tk_MOST_POWER : Tok}
    (a4 : PySem.W.nsIn K mainGlobals "is_integer" = some (some (.ref f4)))
    (l4 : K.lookup f4 = some ⟨oc4, od4, .func (PySem.W.fnOf "is_integer" "is_integer" (defArgs s_is_integer) (defBody s_is_integer) (defScope s_is_integer) .none kV4 dc4 pm4 an4 cd4 ct4), sl4⟩)
    (c4 : PySem.W.codeIn K cd4 "is_integer" = true)
    (k4 : PySem.W.keepIn K (.ref f4) = true)
    (a5 : PySem.W.nsIn K mainGlobals "is_within" = some (some (.ref f5)))
    (l5 : K.lookup f5 = some ⟨oc5, od5, .func (PySem.W.fnOf "is_within" "is_within" (defArgs s_is_within) (defBody s_is_within) (defScope s_is_within) .none kV5 dc5 pm5 an5 cd5 ct5), sl5⟩)
    (c5 : PySem.W.codeIn K cd5 "is_within" = true)
    (k5 : PySem.W.keepIn K (.ref f5) = true)
    (a6 : PySem.W.nsIn K mainGlobals "is_square" = some (some (.ref f6)))
    (l6 : K.lookup f6 = some ⟨oc6, od6, .func (PySem.W.fnOf "is_square" "is_square" (defArgs s_is_square) (defBody s_is_square) (defScope s_is_square) .none kV6 dc6 pm6 an6 cd6 ct6), sl6⟩)
    (c6 : PySem.W.codeIn K cd6 "is_square" = true)
    (k6 : PySem.W.keepIn K (.ref f6) = true)
    (a7 : PySem.W.nsIn K mainGlobals "taken_square" = some (some (.ref f7)))
    (l7 : K.lookup f7 = some ⟨oc7, od7, .func (PySem.W.fnOf "taken_square" "taken_square" (defArgs s_taken_square) (defBody s_taken_square) (defScope s_taken_square) .none kV7 dc7 pm7 an7 cd7 ct7), sl7⟩)
    (c7 : PySem.W.codeIn K cd7 "taken_square" = true)
    (k7 : PySem.W.keepIn K (.ref f7) = true)
    (a8 : PySem.W.nsIn K mainGlobals "taken_number" = some (some (.ref f8)))
    (l8 : K.lookup f8 = some ⟨oc8, od8, .func (PySem.W.fnOf "taken_number" "taken_number" (defArgs s_taken_number) (defBody s_taken_number) (defScope s_taken_number) .none kV8 dc8 pm8 an8 cd8 ct8), sl8⟩)
    (c8 : PySem.W.codeIn K cd8 "taken_number" = true)
    (k8 : PySem.W.keepIn K (.ref f8) = true)
    (a9 : PySem.W.nsIn K mainGlobals "taken_power" = some (some (.ref f9)))
    (l9 : K.lookup f9 = some ⟨oc9, od9, .func (PySem.W.fnOf "taken_power" "taken_power" (defArgs s_taken_power) (defBody s_taken_power) (defScope s_taken_power) .none kV9 dc9 pm9 an9 cd9 ct9), sl9⟩)
    (c9 : PySem.W.codeIn K cd9 "taken_power" = true)
    (k9 : PySem.W.keepIn K (.ref f9) = true)
    (a10 : PySem.W.nsIn K mainGlobals "combs_of" = some (some (.ref f10)))
    (l10 : K.lookup f10 = some ⟨oc10, od10, .func (PySem.W.fnOf "combs_of" "combs_of" (defArgs s_combs_of) (defBody s_combs_of) (defScope s_combs_of) .none kV10 dc10 pm10 an10 cd10 ct10), sl10⟩)
    (c10 : PySem.W.codeIn K cd10 "combs_of" = true)
    (k10 : PySem.W.keepIn K (.ref f10) = true)
    (a11 : PySem.W.nsIn K mainGlobals "height_of" = some (some (.ref f11)))
    (l11 : K.lookup f11 = some ⟨oc11, od11, .func (PySem.W.fnOf "height_of" "height_of" (defArgs s_height_of) (defBody s_height_of) (defScope s_height_of) .none kV11 dc11 pm11 an11 cd11 ct11), sl11⟩)
    (c11 : PySem.W.codeIn K cd11 "height_of" = true)
    (k11 : PySem.W.keepIn K (.ref f11) = true)
    (a14 : PySem.W.nsIn K mainGlobals "begun" = some (some (.ref f14)))
    (l14 : K.lookup f14 = some ⟨oc14, od14, .func (PySem.W.fnOf "begun" "begun" (defArgs s_begun) (defBody s_begun) (defScope s_begun) .none kV14 dc14 pm14 an14 cd14 ct14), sl14⟩)
    (c14 : PySem.W.codeIn K cd14 "begun" = true)
    (k14 : PySem.W.keepIn K (.ref f14) = true)
    (a15 : PySem.W.nsIn K mainGlobals "moved" = some (some (.ref f15)))
    (l15 : K.lookup f15 = some ⟨oc15, od15, .func (PySem.W.fnOf "moved" "moved" (defArgs s_moved) (defBody s_moved) (defScope s_moved) .none kV15 dc15 pm15 an15 cd15 ct15), sl15⟩)
    (c15 : PySem.W.codeIn K cd15 "moved" = true)
    (k15 : PySem.W.keepIn K (.ref f15) = true)
    (a16 : PySem.W.nsIn K mainGlobals "burn_of" = some (some (.ref f16)))
    (l16 : K.lookup f16 = some ⟨oc16, od16, .func (PySem.W.fnOf "burn_of" "burn_of" (defArgs s_burn_of) (defBody s_burn_of) (defScope s_burn_of) .none kV16 dc16 pm16 an16 cd16 ct16), sl16⟩)
    (c16 : PySem.W.codeIn K cd16 "burn_of" = true)
    (k16 : PySem.W.keepIn K (.ref f16) = true)
    (a17 : PySem.W.nsIn K mainGlobals "due_of" = some (some (.ref f17)))
    (l17 : K.lookup f17 = some ⟨oc17, od17, .func (PySem.W.fnOf "due_of" "due_of" (defArgs s_due_of) (defBody s_due_of) (defScope s_due_of) .none kV17 dc17 pm17 an17 cd17 ct17), sl17⟩)
    (c17 : PySem.W.codeIn K cd17 "due_of" = true)
    (k17 : PySem.W.keepIn K (.ref f17) = true)
    (a18 : PySem.W.nsIn K mainGlobals "is_burnt" = some (some (.ref f18)))
    (l18 : K.lookup f18 = some ⟨oc18, od18, .func (PySem.W.fnOf "is_burnt" "is_burnt" (defArgs s_is_burnt) (defBody s_is_burnt) (defScope s_is_burnt) .none kV18 dc18 pm18 an18 cd18 ct18), sl18⟩)
    (c18 : PySem.W.codeIn K cd18 "is_burnt" = true)
    (k18 : PySem.W.keepIn K (.ref f18) = true)
    (a19 : PySem.W.nsIn K mainGlobals "is_caught" = some (some (.ref f19)))
    (l19 : K.lookup f19 = some ⟨oc19, od19, .func (PySem.W.fnOf "is_caught" "is_caught" (defArgs s_is_caught) (defBody s_is_caught) (defScope s_is_caught) .none kV19 dc19 pm19 an19 cd19 ct19), sl19⟩)
    (c19 : PySem.W.codeIn K cd19 "is_caught" = true)
    (k19 : PySem.W.keepIn K (.ref f19) = true)
    (a20 : PySem.W.nsIn K mainGlobals "check_climb" = some (some (.ref f20)))
    (l20 : K.lookup f20 = some ⟨oc20, od20, .func (PySem.W.fnOf "check_climb" "check_climb" (defArgs s_check_climb) (defBody s_check_climb) (defScope s_check_climb) .none kV20 dc20 pm20 an20 cd20 ct20), sl20⟩)
    (c20 : PySem.W.codeIn K cd20 "check_climb" = true)
    (k20 : PySem.W.keepIn K (.ref f20) = true)
    (a21 : PySem.W.nsIn K mainGlobals "stage_of" = some (some (.ref f21)))
    (l21 : K.lookup f21 = some ⟨oc21, od21, .func (PySem.W.fnOf "stage_of" "stage_of" (defArgs s_stage_of) (defBody s_stage_of) (defScope s_stage_of) .none kV21 dc21 pm21 an21 cd21 ct21), sl21⟩)
    (c21 : PySem.W.codeIn K cd21 "stage_of" = true)
    (k21 : PySem.W.keepIn K (.ref f21) = true)
    (a22 : PySem.W.nsIn K mainGlobals "leads" = some (some (.ref f22)))
    (l22 : K.lookup f22 = some ⟨oc22, od22, .func (PySem.W.fnOf "leads" "leads" (defArgs s_leads) (defBody s_leads) (defScope s_leads) .none kV22 dc22 pm22 an22 cd22 ct22), sl22⟩)
    (c22 : PySem.W.codeIn K cd22 "leads" = true)
    (k22 : PySem.W.keepIn K (.ref f22) = true)
    (a23 : PySem.W.nsIn K mainGlobals "ends" = some (some (.ref f23)))
    (l23 : K.lookup f23 = some ⟨oc23, od23, .func (PySem.W.fnOf "ends" "ends" (defArgs s_ends) (defBody s_ends) (defScope s_ends) .none kV23 dc23 pm23 an23 cd23 ct23), sl23⟩)
    (c23 : PySem.W.codeIn K cd23 "ends" = true)
    (k23 : PySem.W.keepIn K (.ref f23) = true)
    (a24 : PySem.W.nsIn K mainGlobals "columns_due" = some (some (.ref f24)))
    (l24 : K.lookup f24 = some ⟨oc24, od24, .func (PySem.W.fnOf "columns_due" "columns_due" (defArgs s_columns_due) (defBody s_columns_due) (defScope s_columns_due) .none kV24 dc24 pm24 an24 cd24 ct24), sl24⟩)
    (c24 : PySem.W.codeIn K cd24 "columns_due" = true)
    (k24 : PySem.W.keepIn K (.ref f24) = true)
    (a25 : PySem.W.nsIn K mainGlobals "fixed" = some (some (.ref f25)))
    (l25 : K.lookup f25 = some ⟨oc25, od25, .func (PySem.W.fnOf "fixed" "fixed" (defArgs s_fixed) (defBody s_fixed) (defScope s_fixed) .none kV25 dc25 pm25 an25 cd25 ct25), sl25⟩)
    (c25 : PySem.W.codeIn K cd25 "fixed" = true)
    (k25 : PySem.W.keepIn K (.ref f25) = true)
    (a33 : PySem.W.nsIn K mainGlobals "judged" = some (some (.ref f33)))
    (l33 : K.lookup f33 = some ⟨oc33, od33, .func (PySem.W.fnOf "judged" "judged" (defArgs s_judged) (defBody s_judged) (defScope s_judged) .none kV33 dc33 pm33 an33 cd33 ct33), sl33⟩)
    (c33 : PySem.W.codeIn K cd33 "judged" = true)
    (k33 : PySem.W.keepIn K (.ref f33) = true)
    (a34 : PySem.W.nsIn K mainGlobals "_law_keg" = some (some (.ref f34)))
    (l34 : K.lookup f34 = some ⟨oc34, od34, .func (PySem.W.fnOf "_law_keg" "_law_keg" (defArgs s_w_keg) (defBody s_w_keg) (defScope s_w_keg) .none kV34 dc34 pm34 an34 cd34 ct34), sl34⟩)
    (c34 : PySem.W.codeIn K cd34 "_law_keg" = true)
    (k34 : PySem.W.keepIn K (.ref f34) = true)
    (a35 : PySem.W.nsIn K mainGlobals "_law_pour" = some (some (.ref f35)))
    (l35 : K.lookup f35 = some ⟨oc35, od35, .func (PySem.W.fnOf "_law_pour" "_law_pour" (defArgs s_w_pour) (defBody s_w_pour) (defScope s_w_pour) .none kV35 dc35 pm35 an35 cd35 ct35), sl35⟩)
    (c35 : PySem.W.codeIn K cd35 "_law_pour" = true)
    (k35 : PySem.W.keepIn K (.ref f35) = true)
    (a36 : PySem.W.nsIn K mainGlobals "_law_one" = some (some (.ref f36)))
    (l36 : K.lookup f36 = some ⟨oc36, od36, .func (PySem.W.fnOf "_law_one" "_law_one" (defArgs s_w_one) (defBody s_w_one) (defScope s_w_one) .none kV36 dc36 pm36 an36 cd36 ct36), sl36⟩)
    (c36 : PySem.W.codeIn K cd36 "_law_one" = true)
    (k36 : PySem.W.keepIn K (.ref f36) = true)
    (a37 : PySem.W.nsIn K mainGlobals "_law_step" = some (some (.ref f37)))
    (l37 : K.lookup f37 = some ⟨oc37, od37, .func (PySem.W.fnOf "_law_step" "_law_step" (defArgs s_w_step) (defBody s_w_step) (defScope s_w_step) .none kV37 dc37 pm37 an37 cd37 ct37), sl37⟩)
    (c37 : PySem.W.codeIn K cd37 "_law_step" = true)
    (k37 : PySem.W.keepIn K (.ref f37) = true)
    (a38 : PySem.W.nsIn K mainGlobals "_law_shut" = some (some (.ref f38)))
    (l38 : K.lookup f38 = some ⟨oc38, od38, .func (PySem.W.fnOf "_law_shut" "_law_shut" (defArgs s_w_shut) (defBody s_w_shut) (defScope s_w_shut) .none kV38 dc38 pm38 an38 cd38 ct38), sl38⟩)
    (c38 : PySem.W.codeIn K cd38 "_law_shut" = true)
    (k38 : PySem.W.keepIn K (.ref f38) = true)
    (a39 : PySem.W.nsIn K mainGlobals "_law_is_free" = some (some (.ref f39)))
    (l39 : K.lookup f39 = some ⟨oc39, od39, .func (PySem.W.fnOf "_law_is_free" "_law_is_free" (defArgs s_w_is_free) (defBody s_w_is_free) (defScope s_w_is_free) .none kV39 dc39 pm39 an39 cd39 ct39), sl39⟩)
    (c39 : PySem.W.codeIn K cd39 "_law_is_free" = true)
    (k39 : PySem.W.keepIn K (.ref f39) = true)
    (a40 : PySem.W.nsIn K mainGlobals "_law_climbed" = some (some (.ref f40)))
    (l40 : K.lookup f40 = some ⟨oc40, od40, .func (PySem.W.fnOf "_law_climbed" "_law_climbed" (defArgs s_w_climbed) (defBody s_w_climbed) (defScope s_w_climbed) .none kV40 dc40 pm40 an40 cd40 ct40), sl40⟩)
    (c40 : PySem.W.codeIn K cd40 "_law_climbed" = true)
    (k40 : PySem.W.keepIn K (.ref f40) = true)
    (a41 : PySem.W.nsIn K mainGlobals "law" = some (some (.ref f41)))
    (l41 : K.lookup f41 = some ⟨oc41, od41, .func (PySem.W.fnOf "law" "law" (defArgs s_law) (defBody s_law) (defScope s_law) .none kV41 dc41 pm41 an41 cd41 ct41), sl41⟩)
    (c41 : PySem.W.codeIn K cd41 "law" = true)
    (k41 : PySem.W.keepIn K (.ref f41) = true)
    (aC_BadNumber : PySem.W.nsIn K mainGlobals "BadNumber" = some (some (.ref c_BadNumber)))
    (aC_BadSquare : PySem.W.nsIn K mainGlobals "BadSquare" = some (some (.ref c_BadSquare)))
    (aC_BadClimb : PySem.W.nsIn K mainGlobals "BadClimb" = some (some (.ref c_BadClimb)))
    (aC_Misfit : PySem.W.nsIn K mainGlobals "Misfit" = some (some (.ref c_Misfit)))
    (aC_FlightError : PySem.W.nsIn K mainGlobals "FlightError" = some (some (.ref c_FlightError)))
    (x_BadNumber : K.lookup c_BadNumber = some (excClassObj nm_BadNumber q_BadNumber c_BadNumber N_BadNumber bs_BadNumber [.ref c_FlightError, .type "ValueError", .type "Exception", .type "BaseException", .type "object"] true sn_BadNumber sub_BadNumber ab_BadNumber col_BadNumber dd_BadNumber k0_BadNumber k1_BadNumber k2_BadNumber k3_BadNumber k5_BadNumber "ValueError.__new__"))
    (sa_BadNumber : PySem.W.findIn K (.ref c_BadNumber) "__setattr__" = some (some (.builtin "object.__setattr__")))
    (exC_BadNumber : PySem.W.subIn K (.ref c_BadNumber) (.type "BaseException") = some true)
    (tyC_BadNumber : PySem.W.typeIn K (.ref c_BadNumber) = some (.type "type"))
    (kC_BadNumber : PySem.W.keepIn K (.ref c_BadNumber) = true)
    (i_BadNumber : PySem.W.findIn K (.ref c_BadNumber) "__init__" = some (some (.ref f0)))
    (t_BadNumber : PySem.W.typeIn K (.ref f0) = some (.type "function"))
    (n_BadNumber_part : PySem.W.findIn K (.ref c_BadNumber) "part" = some none)
    (x_BadSquare : K.lookup c_BadSquare = some (excClassObj nm_BadSquare q_BadSquare c_BadSquare N_BadSquare bs_BadSquare [.ref c_FlightError, .type "ValueError", .type "Exception", .type "BaseException", .type "object"] true sn_BadSquare sub_BadSquare ab_BadSquare col_BadSquare dd_BadSquare k0_BadSquare k1_BadSquare k2_BadSquare k3_BadSquare k5_BadSquare "ValueError.__new__"))
    (sa_BadSquare : PySem.W.findIn K (.ref c_BadSquare) "__setattr__" = some (some (.builtin "object.__setattr__")))
    (exC_BadSquare : PySem.W.subIn K (.ref c_BadSquare) (.type "BaseException") = some true)
    (tyC_BadSquare : PySem.W.typeIn K (.ref c_BadSquare) = some (.type "type"))
    (kC_BadSquare : PySem.W.keepIn K (.ref c_BadSquare) = true)
    (i_BadSquare : PySem.W.findIn K (.ref c_BadSquare) "__init__" = some (some (.ref f1)))
    (t_BadSquare : PySem.W.typeIn K (.ref f1) = some (.type "function"))
    (n_BadSquare_part : PySem.W.findIn K (.ref c_BadSquare) "part" = some none)
    (x_BadClimb : K.lookup c_BadClimb = some (excClassObj nm_BadClimb q_BadClimb c_BadClimb N_BadClimb bs_BadClimb [.ref c_FlightError, .type "ValueError", .type "Exception", .type "BaseException", .type "object"] true sn_BadClimb sub_BadClimb ab_BadClimb col_BadClimb dd_BadClimb k0_BadClimb k1_BadClimb k2_BadClimb k3_BadClimb k5_BadClimb "ValueError.__new__"))
    (sa_BadClimb : PySem.W.findIn K (.ref c_BadClimb) "__setattr__" = some (some (.builtin "object.__setattr__")))
    (exC_BadClimb : PySem.W.subIn K (.ref c_BadClimb) (.type "BaseException") = some true)
    (tyC_BadClimb : PySem.W.typeIn K (.ref c_BadClimb) = some (.type "type"))
    (kC_BadClimb : PySem.W.keepIn K (.ref c_BadClimb) = true)
    (i_BadClimb : PySem.W.findIn K (.ref c_BadClimb) "__init__" = some (some (.ref f2)))
    (t_BadClimb : PySem.W.typeIn K (.ref f2) = some (.type "function"))
    (n_BadClimb_part : PySem.W.findIn K (.ref c_BadClimb) "part" = some none)
    (x_Misfit : K.lookup c_Misfit = some (excClassObj nm_Misfit q_Misfit c_Misfit N_Misfit bs_Misfit [.ref c_FlightError, .type "ValueError", .type "Exception", .type "BaseException", .type "object"] true sn_Misfit sub_Misfit ab_Misfit col_Misfit dd_Misfit k0_Misfit k1_Misfit k2_Misfit k3_Misfit k5_Misfit "ValueError.__new__"))
    (sa_Misfit : PySem.W.findIn K (.ref c_Misfit) "__setattr__" = some (some (.builtin "object.__setattr__")))
    (exC_Misfit : PySem.W.subIn K (.ref c_Misfit) (.type "BaseException") = some true)
    (tyC_Misfit : PySem.W.typeIn K (.ref c_Misfit) = some (.type "type"))
    (kC_Misfit : PySem.W.keepIn K (.ref c_Misfit) = true)
    (i_Misfit : PySem.W.findIn K (.ref c_Misfit) "__init__" = some (some (.ref f3)))
    (t_Misfit : PySem.W.typeIn K (.ref f3) = some (.type "function"))
    (n_Misfit_part : PySem.W.findIn K (.ref c_Misfit) "part" = some none)
    (aC_Denial : PySem.W.nsIn K mainGlobals "Denial" = some (some (.ref c_Denial)))
    (aC_Climb : PySem.W.nsIn K mainGlobals "Climb" = some (some (.ref c_Climb)))
    (pg_Climb : PySem.W.plainGet K c_Climb Str.empty = true)
    (hd_Climb : PySem.W.hasDictIn K c_Climb = true)
    (po_Climb : PySem.W.plainOver K c_Climb = true)
    (sa_Climb : PySem.W.findIn K (.ref c_Climb) "__setattr__" = some (some (.builtin "object.__setattr__")))
    (ha_Climb : PySem.W.findIn K (.ref c_Climb) "__class__" = some (some (.builtin "object.__class__")))
    (hm_Climb : PySem.W.mroIn K c_Climb (.type "object") = some true)
    (mk_Climb : PySem.W.makesIn K c_Climb = true)
    (kc_Climb : PySem.W.keepIn K (.ref c_Climb) = true)
    (i_Climb : PySem.W.findIn K (.ref c_Climb) "__init__" = some (some (.ref f12)))
    (if_Climb : PySem.W.isFn K (.ref f12) = true)
    (n_Climb_power : PySem.W.findIn K (.ref c_Climb) "power" = some none)
    (n_Climb_turn : PySem.W.findIn K (.ref c_Climb) "turn" = some none)
    (n_Climb_square : PySem.W.findIn K (.ref c_Climb) "square" = some none)
    (n_Climb_origins : PySem.W.findIn K (.ref c_Climb) "origins" = some none)
    (n_Climb_lasted : PySem.W.findIn K (.ref c_Climb) "lasted" = some none)
    (tyQ_Climb : PySem.W.typeIn K (.ref c_Climb) = some (.type "type"))
    (q_Climb : PySem.W.findIn K (.ref c_Climb) "__eq__" = some (some (.ref f13)))
    (qf_Climb : PySem.W.isFn K (.ref f13) = true)
    (aC_Paper : PySem.W.nsIn K mainGlobals "Paper" = some (some (.ref c_Paper)))
    (pg_Paper : PySem.W.plainGet K c_Paper Str.empty = true)
    (hd_Paper : PySem.W.hasDictIn K c_Paper = true)
    (po_Paper : PySem.W.plainOver K c_Paper = true)
    (sa_Paper : PySem.W.findIn K (.ref c_Paper) "__setattr__" = some (some (.builtin "object.__setattr__")))
    (ha_Paper : PySem.W.findIn K (.ref c_Paper) "__class__" = some (some (.builtin "object.__class__")))
    (hm_Paper : PySem.W.mroIn K c_Paper (.type "object") = some true)
    (mk_Paper : PySem.W.makesIn K c_Paper = true)
    (kc_Paper : PySem.W.keepIn K (.ref c_Paper) = true)
    (i_Paper : PySem.W.findIn K (.ref c_Paper) "__init__" = some (some (.ref f26)))
    (if_Paper : PySem.W.isFn K (.ref f26) = true)
    (n_Paper_word : PySem.W.findIn K (.ref c_Paper) "word" = some none)
    (n_Paper_parts : PySem.W.findIn K (.ref c_Paper) "parts" = some none)
    (tyQ_Paper : PySem.W.typeIn K (.ref c_Paper) = some (.type "type"))
    (qb_Paper : PySem.W.findIn K (.ref c_Paper) "__bool__" = some (some (.ref f28)))
    (qbf_Paper : PySem.W.isFn K (.ref f28) = true)
    (q_Paper : PySem.W.findIn K (.ref c_Paper) "__eq__" = some (some (.ref f27)))
    (qf_Paper : PySem.W.isFn K (.ref f27) = true)
    (aC_Caught : PySem.W.nsIn K mainGlobals "Caught" = some (some (.ref c_Caught)))
    (pg_Caught : PySem.W.plainGet K c_Caught Str.empty = true)
    (hd_Caught : PySem.W.hasDictIn K c_Caught = true)
    (po_Caught : PySem.W.plainOver K c_Caught = true)
    (sa_Caught : PySem.W.findIn K (.ref c_Caught) "__setattr__" = some (some (.builtin "object.__setattr__")))
    (ha_Caught : PySem.W.findIn K (.ref c_Caught) "__class__" = some (some (.builtin "object.__class__")))
    (hm_Caught : PySem.W.mroIn K c_Caught (.type "object") = some true)
    (mk_Caught : PySem.W.makesIn K c_Caught = true)
    (kc_Caught : PySem.W.keepIn K (.ref c_Caught) = true)
    (i_Caught : PySem.W.findIn K (.ref c_Caught) "__init__" = some (some (.ref f31)))
    (if_Caught : PySem.W.isFn K (.ref f31) = true)
    (n_Caught_word : PySem.W.findIn K (.ref c_Caught) "word" = some none)
    (n_Caught_parts : PySem.W.findIn K (.ref c_Caught) "parts" = some none)
    (n_Caught_origins : PySem.W.findIn K (.ref c_Caught) "origins" = some none)
    (n_Caught_lasted : PySem.W.findIn K (.ref c_Caught) "lasted" = some none)
    (n_Caught_square : PySem.W.findIn K (.ref c_Caught) "square" = some none)
    (tyQ_Caught : PySem.W.typeIn K (.ref c_Caught) = some (.type "type"))
    (qb_Caught : PySem.W.findIn K (.ref c_Caught) "__bool__" = some (some (.ref f28)))
    (qbf_Caught : PySem.W.isFn K (.ref f28) = true)
    (q_Caught : PySem.W.findIn K (.ref c_Caught) "__eq__" = some (some (.ref f27)))
    (qf_Caught : PySem.W.isFn K (.ref f27) = true)
    (aC_Free : PySem.W.nsIn K mainGlobals "Free" = some (some (.ref c_Free)))
    (pg_Free : PySem.W.plainGet K c_Free Str.empty = true)
    (hd_Free : PySem.W.hasDictIn K c_Free = true)
    (po_Free : PySem.W.plainOver K c_Free = true)
    (sa_Free : PySem.W.findIn K (.ref c_Free) "__setattr__" = some (some (.builtin "object.__setattr__")))
    (ha_Free : PySem.W.findIn K (.ref c_Free) "__class__" = some (some (.builtin "object.__class__")))
    (hm_Free : PySem.W.mroIn K c_Free (.type "object") = some true)
    (mk_Free : PySem.W.makesIn K c_Free = true)
    (kc_Free : PySem.W.keepIn K (.ref c_Free) = true)
    (i_Free : PySem.W.findIn K (.ref c_Free) "__init__" = some (some (.ref f32)))
    (if_Free : PySem.W.isFn K (.ref f32) = true)
    (n_Free_word : PySem.W.findIn K (.ref c_Free) "word" = some none)
    (n_Free_parts : PySem.W.findIn K (.ref c_Free) "parts" = some none)
    (n_Free_square : PySem.W.findIn K (.ref c_Free) "square" = some none)
    (tyQ_Free : PySem.W.typeIn K (.ref c_Free) = some (.type "type"))
    (qb_Free : PySem.W.findIn K (.ref c_Free) "__bool__" = some (some (.ref f30)))
    (qbf_Free : PySem.W.isFn K (.ref f30) = true)
    (q_Free : PySem.W.findIn K (.ref c_Free) "__eq__" = some (some (.ref f29)))
    (qf_Free : PySem.W.isFn K (.ref f29) = true)
    (hn_ : PySem.W.specialIn K (.builtin "object.__class__") "__get__" = some (some (.builtin "getset_descriptor.__get__")))
    (ht_ : PySem.W.takesIn K (.builtin "object.__class__") = some true)
    (vr_Denial : PySem.W.readsIn K c_Denial (.type "type") = true)
    (vg_Denial : PySem.W.specialIn K (.ref c_Denial) "__getattribute__" = some (some (.builtin "type.__getattribute__")))
    (vf_Denial : PySem.W.findCls K (.ref c_Denial) (.type "type") "__init__" = some (.val (.ref f26)))
    (vr_Paper : PySem.W.readsIn K c_Paper (.type "type") = true)
    (vg_Paper : PySem.W.specialIn K (.ref c_Paper) "__getattribute__" = some (some (.builtin "type.__getattribute__")))
    (vf_Paper : PySem.W.findCls K (.ref c_Paper) (.type "type") "__init__" = some (.val (.ref f26)))
    (l0 : K.lookup f0 = some ⟨oc0, od0, .func (PySem.W.fnOf "__init__" "BadNumber.__init__" (defArgs s_BadNumber_init) (defBody s_BadNumber_init) (defScope s_BadNumber_init) .none kV0 dc0 pm0 an0 cd0 ct0), sl0⟩)
    (c0 : PySem.W.codeIn K cd0 "BadNumber.__init__" = true)
    (k0 : PySem.W.keepIn K (.ref f0) = true)
    (l1 : K.lookup f1 = some ⟨oc1, od1, .func (PySem.W.fnOf "__init__" "BadSquare.__init__" (defArgs s_BadSquare_init) (defBody s_BadSquare_init) (defScope s_BadSquare_init) .none kV1 dc1 pm1 an1 cd1 ct1), sl1⟩)
    (c1 : PySem.W.codeIn K cd1 "BadSquare.__init__" = true)
    (k1 : PySem.W.keepIn K (.ref f1) = true)
    (l2 : K.lookup f2 = some ⟨oc2, od2, .func (PySem.W.fnOf "__init__" "BadClimb.__init__" (defArgs s_BadClimb_init) (defBody s_BadClimb_init) (defScope s_BadClimb_init) .none kV2 dc2 pm2 an2 cd2 ct2), sl2⟩)
    (c2 : PySem.W.codeIn K cd2 "BadClimb.__init__" = true)
    (k2 : PySem.W.keepIn K (.ref f2) = true)
    (l3 : K.lookup f3 = some ⟨oc3, od3, .func (PySem.W.fnOf "__init__" "Misfit.__init__" (defArgs s_Misfit_init) (defBody s_Misfit_init) (defScope s_Misfit_init) .none kV3 dc3 pm3 an3 cd3 ct3), sl3⟩)
    (c3 : PySem.W.codeIn K cd3 "Misfit.__init__" = true)
    (k3 : PySem.W.keepIn K (.ref f3) = true)
    (l12 : K.lookup f12 = some ⟨oc12, od12, .func (PySem.W.fnOf "__init__" "Climb.__init__" (defArgs s_Climb_init) (defBody s_Climb_init) (defScope s_Climb_init) .none kV12 dc12 pm12 an12 cd12 ct12), sl12⟩)
    (c12 : PySem.W.codeIn K cd12 "Climb.__init__" = true)
    (k12 : PySem.W.keepIn K (.ref f12) = true)
    (l13 : K.lookup f13 = some ⟨oc13, od13, .func (PySem.W.fnOf "__eq__" "Climb.__eq__" (defArgs s_Climb_eq) (defBody s_Climb_eq) (defScope s_Climb_eq) .none kV13 dc13 pm13 an13 cd13 ct13), sl13⟩)
    (c13 : PySem.W.codeIn K cd13 "Climb.__eq__" = true)
    (k13 : PySem.W.keepIn K (.ref f13) = true)
    (l26 : K.lookup f26 = some ⟨oc26, od26, .func (PySem.W.fnOf "__init__" "Paper.__init__" (defArgs s_Paper_init) (defBody s_Paper_init) (defScope s_Paper_init) .none kV26 dc26 pm26 an26 cd26 ct26), sl26⟩)
    (c26 : PySem.W.codeIn K cd26 "Paper.__init__" = true)
    (k26 : PySem.W.keepIn K (.ref f26) = true)
    (l27 : K.lookup f27 = some ⟨oc27, od27, .func (PySem.W.fnOf "__eq__" "Paper.__eq__" (defArgs s_Paper_eq) (defBody s_Paper_eq) (defScope s_Paper_eq) .none kV27 dc27 pm27 an27 cd27 ct27), sl27⟩)
    (c27 : PySem.W.codeIn K cd27 "Paper.__eq__" = true)
    (k27 : PySem.W.keepIn K (.ref f27) = true)
    (l28 : K.lookup f28 = some ⟨oc28, od28, .func (PySem.W.fnOf "__bool__" "Paper.__bool__" (defArgs s_Paper___bool__) (defBody s_Paper___bool__) (defScope s_Paper___bool__) .none kV28 dc28 pm28 an28 cd28 ct28), sl28⟩)
    (c28 : PySem.W.codeIn K cd28 "Paper.__bool__" = true)
    (k28 : PySem.W.keepIn K (.ref f28) = true)
    (l29 : K.lookup f29 = some ⟨oc29, od29, .func (PySem.W.fnOf "__eq__" "Denial.__eq__" (defArgs s_Denial_eq) (defBody s_Denial_eq) (defScope s_Denial_eq) .none kV29 dc29 pm29 an29 cd29 ct29), sl29⟩)
    (c29 : PySem.W.codeIn K cd29 "Denial.__eq__" = true)
    (k29 : PySem.W.keepIn K (.ref f29) = true)
    (l30 : K.lookup f30 = some ⟨oc30, od30, .func (PySem.W.fnOf "__bool__" "Denial.__bool__" (defArgs s_Denial___bool__) (defBody s_Denial___bool__) (defScope s_Denial___bool__) .none kV30 dc30 pm30 an30 cd30 ct30), sl30⟩)
    (c30 : PySem.W.codeIn K cd30 "Denial.__bool__" = true)
    (k30 : PySem.W.keepIn K (.ref f30) = true)
    (l31 : K.lookup f31 = some ⟨oc31, od31, .func (PySem.W.fnOf "__init__" "Caught.__init__" (defArgs s_Caught_init) (defBody s_Caught_init) (defScope s_Caught_init) .none kV31 dc31 pm31 an31 cd31 ct31), sl31⟩)
    (c31 : PySem.W.codeIn K cd31 "Caught.__init__" = true)
    (k31 : PySem.W.keepIn K (.ref f31) = true)
    (l32 : K.lookup f32 = some ⟨oc32, od32, .func (PySem.W.fnOf "__init__" "Free.__init__" (defArgs s_Free_init) (defBody s_Free_init) (defScope s_Free_init) .none kV32 dc32 pm32 an32 cd32 ct32), sl32⟩)
    (c32 : PySem.W.codeIn K cd32 "Free.__init__" = true)
    (k32 : PySem.W.keepIn K (.ref f32) = true)
    (y_abs : PySem.W.nsIn K mainGlobals "abs" = some none)
    (y_bool : PySem.W.nsIn K mainGlobals "bool" = some none)
    (y_int : PySem.W.nsIn K mainGlobals "int" = some none)
    (y_isinstance : PySem.W.nsIn K mainGlobals "isinstance" = some none)
    (y_len : PySem.W.nsIn K mainGlobals "len" = some none)
    (y_list : PySem.W.nsIn K mainGlobals "list" = some none)
    (y_max : PySem.W.nsIn K mainGlobals "max" = some none)
    (y_min : PySem.W.nsIn K mainGlobals "min" = some none)
    (y_range : PySem.W.nsIn K mainGlobals "range" = some none)
    (y_repr : PySem.W.nsIn K mainGlobals "repr" = some none)
    (y_sum : PySem.W.nsIn K mainGlobals "sum" = some none)
    (y_tuple : PySem.W.nsIn K mainGlobals "tuple" = some none)
    (y_type : PySem.W.nsIn K mainGlobals "type" = some none)
    (w_MOST_POWER : PySem.W.nsIn K mainGlobals "MOST_POWER" = some (some (.int 9 tk_MOST_POWER)))
    (ym : K.lookup sysModules = none) :
    OffK K ∧ ∃ (fd : FuncData) (cs : List (Addr × Addr)), NamesTab q K cs ∧ (∀ (s : Shared) (v : Value), BindsTo s fd ⟨[v], []⟩ [("script", v)]) ∧
      ∀ base : Heap, K.In base → base.Ns mainGlobals mg → (∀ p ∈ cs, LamX.TabB base mg p.1 p.2) → base.NoDigits → FnG l.prog w K mg base CX0 11 fa fd ["script"] (spLaw K cs) := by
  have e := hfa.symm.trans (PySem.W.mg_of X G a41)
  cases e
  let T : Txt K mg := {
    f_BadNumber_init := _, d_BadNumber_init := _, F_BadNumber_init := fun_mk (st := s_BadNumber_init) l0 c0 k0,
    f_BadSquare_init := _, d_BadSquare_init := _, F_BadSquare_init := fun_mk (st := s_BadSquare_init) l1 c1 k1,
    f_BadClimb_init := _, d_BadClimb_init := _, F_BadClimb_init := fun_mk (st := s_BadClimb_init) l2 c2 k2,
    f_Misfit_init := _, d_Misfit_init := _, F_Misfit_init := fun_mk (st := s_Misfit_init) l3 c3 k3,
    f_is_integer := _, d_is_integer := _, F_is_integer := fun_mk (st := s_is_integer) l4 c4 k4, g_is_integer := PySem.W.mg_of X G a4,
    f_is_within := _, d_is_within := _, F_is_within := fun_mk (st := s_is_within) l5 c5 k5, g_is_within := PySem.W.mg_of X G a5,
    f_is_square := _, d_is_square := _, F_is_square := fun_mk (st := s_is_square) l6 c6 k6, g_is_square := PySem.W.mg_of X G a6,
    f_taken_square := _, d_taken_square := _, F_taken_square := fun_mk (st := s_taken_square) l7 c7 k7, g_taken_square := PySem.W.mg_of X G a7,
    f_taken_number := _, d_taken_number := _, F_taken_number := fun_mk (st := s_taken_number) l8 c8 k8, g_taken_number := PySem.W.mg_of X G a8,
    f_taken_power := _, d_taken_power := _, F_taken_power := fun_mk (st := s_taken_power) l9 c9 k9, g_taken_power := PySem.W.mg_of X G a9,
    f_combs_of := _, d_combs_of := _, F_combs_of := fun_mk (st := s_combs_of) l10 c10 k10, g_combs_of := PySem.W.mg_of X G a10,
    f_height_of := _, d_height_of := _, F_height_of := fun_mk (st := s_height_of) l11 c11 k11, g_height_of := PySem.W.mg_of X G a11,
    f_Climb_init := _, d_Climb_init := _, F_Climb_init := fun_mk (st := s_Climb_init) l12 c12 k12,
    f_Climb_eq := _, d_Climb_eq := _, F_Climb_eq := fun_mk (st := s_Climb_eq) l13 c13 k13,
    f_begun := _, d_begun := _, F_begun := fun_mk (st := s_begun) l14 c14 k14, g_begun := PySem.W.mg_of X G a14,
    f_moved := _, d_moved := _, F_moved := fun_mk (st := s_moved) l15 c15 k15, g_moved := PySem.W.mg_of X G a15,
    f_burn_of := _, d_burn_of := _, F_burn_of := fun_mk (st := s_burn_of) l16 c16 k16, g_burn_of := PySem.W.mg_of X G a16,
    f_due_of := _, d_due_of := _, F_due_of := fun_mk (st := s_due_of) l17 c17 k17, g_due_of := PySem.W.mg_of X G a17,
    f_is_burnt := _, d_is_burnt := _, F_is_burnt := fun_mk (st := s_is_burnt) l18 c18 k18, g_is_burnt := PySem.W.mg_of X G a18,
    f_is_caught := _, d_is_caught := _, F_is_caught := fun_mk (st := s_is_caught) l19 c19 k19, g_is_caught := PySem.W.mg_of X G a19,
    f_check_climb := _, d_check_climb := _, F_check_climb := fun_mk (st := s_check_climb) l20 c20 k20, g_check_climb := PySem.W.mg_of X G a20,
    f_stage_of := _, d_stage_of := _, F_stage_of := fun_mk (st := s_stage_of) l21 c21 k21, g_stage_of := PySem.W.mg_of X G a21,
    f_leads := _, d_leads := _, F_leads := fun_mk (st := s_leads) l22 c22 k22, g_leads := PySem.W.mg_of X G a22,
    f_ends := _, d_ends := _, F_ends := fun_mk (st := s_ends) l23 c23 k23, g_ends := PySem.W.mg_of X G a23,
    f_columns_due := _, d_columns_due := _, F_columns_due := fun_mk (st := s_columns_due) l24 c24 k24, g_columns_due := PySem.W.mg_of X G a24,
    f_fixed := _, d_fixed := _, F_fixed := fun_mk (st := s_fixed) l25 c25 k25, g_fixed := PySem.W.mg_of X G a25,
    f_Paper_init := _, d_Paper_init := _, F_Paper_init := fun_mk (st := s_Paper_init) l26 c26 k26,
    f_Paper_eq := _, d_Paper_eq := _, F_Paper_eq := fun_mk (st := s_Paper_eq) l27 c27 k27,
    f_Paper___bool__ := _, d_Paper___bool__ := _, F_Paper___bool__ := fun_mk (st := s_Paper___bool__) l28 c28 k28,
    f_Denial_eq := _, d_Denial_eq := _, F_Denial_eq := fun_mk (st := s_Denial_eq) l29 c29 k29,
    f_Denial___bool__ := _, d_Denial___bool__ := _, F_Denial___bool__ := fun_mk (st := s_Denial___bool__) l30 c30 k30,
    f_Caught_init := _, d_Caught_init := _, F_Caught_init := fun_mk (st := s_Caught_init) l31 c31 k31,
    f_Free_init := _, d_Free_init := _, F_Free_init := fun_mk (st := s_Free_init) l32 c32 k32,
    f_judged := _, d_judged := _, F_judged := fun_mk (st := s_judged) l33 c33 k33, g_judged := PySem.W.mg_of X G a33,
    f_w_keg := _, d_w_keg := _, F_w_keg := fun_mk (st := s_w_keg) l34 c34 k34, g_w_keg := PySem.W.mg_of X G a34,
    f_w_pour := _, d_w_pour := _, F_w_pour := fun_mk (st := s_w_pour) l35 c35 k35, g_w_pour := PySem.W.mg_of X G a35,
    f_w_one := _, d_w_one := _, F_w_one := fun_mk (st := s_w_one) l36 c36 k36, g_w_one := PySem.W.mg_of X G a36,
    f_w_step := _, d_w_step := _, F_w_step := fun_mk (st := s_w_step) l37 c37 k37, g_w_step := PySem.W.mg_of X G a37,
    f_w_shut := _, d_w_shut := _, F_w_shut := fun_mk (st := s_w_shut) l38 c38 k38, g_w_shut := PySem.W.mg_of X G a38,
    f_w_is_free := _, d_w_is_free := _, F_w_is_free := fun_mk (st := s_w_is_free) l39 c39 k39, g_w_is_free := PySem.W.mg_of X G a39,
    f_w_climbed := _, d_w_climbed := _, F_w_climbed := fun_mk (st := s_w_climbed) l40 c40 k40, g_w_climbed := PySem.W.mg_of X G a40,
    f_law := _, d_law := _, F_law := fun_mk (st := s_law) l41 c41 k41, g_law := PySem.W.mg_of X G a41,
    c_BadNumber := _, gc_BadNumber := PySem.W.mg_of X G aC_BadNumber,
    c_BadSquare := _, gc_BadSquare := PySem.W.mg_of X G aC_BadSquare,
    c_BadClimb := _, gc_BadClimb := PySem.W.mg_of X G aC_BadClimb,
    c_Misfit := _, gc_Misfit := PySem.W.mg_of X G aC_Misfit,
    c_FlightError := _, gc_FlightError := PySem.W.mg_of X G aC_FlightError,
    x_BadNumber := ⟨⟨_, _, _, _, _, _, _, _, _, _, _, _, _, _, _, x_BadNumber, rfl⟩, sa_BadNumber, exC_BadNumber, tyC_BadNumber, kC_BadNumber⟩,
    i_BadNumber := i_BadNumber, t_BadNumber := t_BadNumber,
    n_BadNumber_part := n_BadNumber_part,
    x_BadSquare := ⟨⟨_, _, _, _, _, _, _, _, _, _, _, _, _, _, _, x_BadSquare, rfl⟩, sa_BadSquare, exC_BadSquare, tyC_BadSquare, kC_BadSquare⟩,
    i_BadSquare := i_BadSquare, t_BadSquare := t_BadSquare,
    n_BadSquare_part := n_BadSquare_part,
    x_BadClimb := ⟨⟨_, _, _, _, _, _, _, _, _, _, _, _, _, _, _, x_BadClimb, rfl⟩, sa_BadClimb, exC_BadClimb, tyC_BadClimb, kC_BadClimb⟩,
    i_BadClimb := i_BadClimb, t_BadClimb := t_BadClimb,
    n_BadClimb_part := n_BadClimb_part,
    x_Misfit := ⟨⟨_, _, _, _, _, _, _, _, _, _, _, _, _, _, _, x_Misfit, rfl⟩, sa_Misfit, exC_Misfit, tyC_Misfit, kC_Misfit⟩,
    i_Misfit := i_Misfit, t_Misfit := t_Misfit,
    n_Misfit_part := n_Misfit_part,
    c_Denial := _, gc_Denial := PySem.W.mg_of X G aC_Denial,
    n_Climb_power := n_Climb_power,
    n_Climb_turn := n_Climb_turn,
    n_Climb_square := n_Climb_square,
    n_Climb_origins := n_Climb_origins,
    n_Climb_lasted := n_Climb_lasted,
    c_Climb := _, gc_Climb := PySem.W.mg_of X G aC_Climb, oc_Climb := ⟨⟨pg_Climb, hd_Climb, po_Climb, sa_Climb⟩, ha_Climb, hn_, ht_, hm_Climb⟩, mk_Climb := ⟨mk_Climb, i_Climb, if_Climb, kc_Climb⟩, k_Climb_Climb := kit_self,
    ty_Climb := tyQ_Climb,
    q_Climb := q_Climb, qf_Climb := qf_Climb,
    n_Paper_word := n_Paper_word,
    n_Paper_parts := n_Paper_parts,
    c_Paper := _, gc_Paper := PySem.W.mg_of X G aC_Paper, oc_Paper := ⟨⟨pg_Paper, hd_Paper, po_Paper, sa_Paper⟩, ha_Paper, hn_, ht_, hm_Paper⟩, mk_Paper := ⟨mk_Paper, i_Paper, if_Paper, kc_Paper⟩, k_Paper_Paper := kit_self,
    ty_Paper := tyQ_Paper,
    qb_Paper := qb_Paper, qbf_Paper := qbf_Paper,
    q_Paper := q_Paper, qf_Paper := qf_Paper,
    n_Caught_word := n_Caught_word,
    n_Caught_parts := n_Caught_parts,
    n_Caught_origins := n_Caught_origins,
    n_Caught_lasted := n_Caught_lasted,
    n_Caught_square := n_Caught_square,
    c_Caught := _, gc_Caught := PySem.W.mg_of X G aC_Caught, oc_Caught := ⟨⟨pg_Caught, hd_Caught, po_Caught, sa_Caught⟩, ha_Caught, hn_, ht_, hm_Caught⟩, mk_Caught := ⟨mk_Caught, i_Caught, if_Caught, kc_Caught⟩, k_Caught_Caught := kit_self,
    ty_Caught := tyQ_Caught,
    qb_Caught := qb_Caught, qbf_Caught := qbf_Caught,
    q_Caught := q_Caught, qf_Caught := qf_Caught,
    n_Free_word := n_Free_word,
    n_Free_parts := n_Free_parts,
    n_Free_square := n_Free_square,
    c_Free := _, gc_Free := PySem.W.mg_of X G aC_Free, oc_Free := ⟨⟨pg_Free, hd_Free, po_Free, sa_Free⟩, ha_Free, hn_, ht_, hm_Free⟩, mk_Free := ⟨mk_Free, i_Free, if_Free, kc_Free⟩, k_Free_Free := kit_self,
    ty_Free := tyQ_Free,
    qb_Free := qb_Free, qbf_Free := qbf_Free,
    q_Free := q_Free, qf_Free := qf_Free,
    cf_Denial_init := ⟨⟨vr_Denial, vg_Denial⟩, vf_Denial, k26⟩,
    cf_Paper_init := ⟨⟨vr_Paper, vg_Paper⟩, vf_Paper, k26⟩,
    z_abs := PySem.W.mg_none_of X G y_abs,
    z_bool := PySem.W.mg_none_of X G y_bool,
    z_int := PySem.W.mg_none_of X G y_int,
    z_isinstance := PySem.W.mg_none_of X G y_isinstance,
    z_len := PySem.W.mg_none_of X G y_len,
    z_list := PySem.W.mg_none_of X G y_list,
    z_max := PySem.W.mg_none_of X G y_max,
    z_min := PySem.W.mg_none_of X G y_min,
    z_range := PySem.W.mg_none_of X G y_range,
    z_repr := PySem.W.mg_none_of X G y_repr,
    z_sum := PySem.W.mg_none_of X G y_sum,
    z_tuple := PySem.W.mg_none_of X G y_tuple,
    z_type := PySem.W.mg_none_of X G y_type,
    v_MOST_POWER := ⟨_, PySem.W.mg_of X G w_MOST_POWER, ⟨_, rfl⟩⟩ }
  exact ⟨ym, T.d_law, [], (fun p hp => nomatch hp), fun s v => .of_eq rfl, fun base _ _ _ nd => ok_law T⟩
theorem room : Room 11 callerA := ⟨rfl, by decide, by decide⟩
end K43

open PySem PySem.W PyProof.Rows in
set_option maxRecDepth 100000 in
set_option maxHeartbeats 0 in
theorem PySem.Challenge.cw_nevercaught_k43_whole_power_one_is_caugh_holds : PySem.Challenge.rw_nevercaught_k43_whole_power_one_is_caugh.Holds := by
  w_on; o_law; k_head; (case hw => w_witness2)
  k_fill
  refine Kg.walkT (l := PySem.Challenge.rw_nevercaught_k43_whole_power_one_is_caugh) (n := 63) (k := 11) (x := "script") (sp := fun K cs => K43.spLaw K cs) (by decide +kernel) rfl (by decide) rfl K43.room (fun w h Y => PySem.W.kIn_of Y) ?F (fun K cs H a ns hl off e => ⟨a, ns, rfl, hl, off, e, fun _ => rfl⟩)
  case F =>
    intro w mg fa h KX G hmg
    refine' K43.all_mk KX G hmg ?a4 ?l4 ?c4 ?k4 ?a5 ?l5 ?c5 ?k5 ?a6 ?l6 ?c6 ?k6 ?a7 ?l7 ?c7 ?k7 ?a8 ?l8 ?c8 ?k8 ?a9 ?l9 ?c9 ?k9 ?a10 ?l10 ?c10 ?k10 ?a11 ?l11 ?c11 ?k11 ?a14 ?l14 ?c14 ?k14 ?a15 ?l15 ?c15 ?k15 ?a16 ?l16 ?c16 ?k16 ?a17 ?l17 ?c17 ?k17 ?a18 ?l18 ?c18 ?k18 ?a19 ?l19 ?c19 ?k19 ?a20 ?l20 ?c20 ?k20 ?a21 ?l21 ?c21 ?k21 ?a22 ?l22 ?c22 ?k22 ?a23 ?l23 ?c23 ?k23 ?a24 ?l24 ?c24 ?k24 ?a25 ?l25 ?c25 ?k25 ?a33 ?l33 ?c33 ?k33 ?a34 ?l34 ?c34 ?k34 ?a35 ?l35 ?c35 ?k35 ?a36 ?l36 ?c36 ?k36 ?a37 ?l37 ?c37 ?k37 ?a38 ?l38 ?c38 ?k38 ?a39 ?l39 ?c39 ?k39 ?a40 ?l40 ?c40 ?k40 ?a41 ?l41 ?c41 ?k41 ?aC_BadNumber ?aC_BadSquare ?aC_BadClimb ?aC_Misfit ?aC_FlightError ?x_BadNumber ?sa_BadNumber ?exC_BadNumber ?tyC_BadNumber ?kC_BadNumber ?i_BadNumber ?t_BadNumber ?n_BadNumber_part ?x_BadSquare ?sa_BadSquare ?exC_BadSquare ?tyC_BadSquare ?kC_BadSquare ?i_BadSquare ?t_BadSquare ?n_BadSquare_part ?x_BadClimb ?sa_BadClimb ?exC_BadClimb ?tyC_BadClimb ?kC_BadClimb ?i_BadClimb ?t_BadClimb ?n_BadClimb_part ?x_Misfit ?sa_Misfit ?exC_Misfit ?tyC_Misfit ?kC_Misfit ?i_Misfit ?t_Misfit ?n_Misfit_part ?aC_Denial ?aC_Climb ?pg_Climb ?hd_Climb ?po_Climb ?sa_Climb ?ha_Climb ?hm_Climb ?mk_Climb ?kc_Climb ?i_Climb ?if_Climb ?n_Climb_power ?n_Climb_turn ?n_Climb_square ?n_Climb_origins ?n_Climb_lasted ?tyQ_Climb ?q_Climb ?qf_Climb ?aC_Paper ?pg_Paper ?hd_Paper ?po_Paper ?sa_Paper ?ha_Paper ?hm_Paper ?mk_Paper ?kc_Paper ?i_Paper ?if_Paper ?n_Paper_word ?n_Paper_parts ?tyQ_Paper ?qb_Paper ?qbf_Paper ?q_Paper ?qf_Paper ?aC_Caught ?pg_Caught ?hd_Caught ?po_Caught ?sa_Caught ?ha_Caught ?hm_Caught ?mk_Caught ?kc_Caught ?i_Caught ?if_Caught ?n_Caught_word ?n_Caught_parts ?n_Caught_origins ?n_Caught_lasted ?n_Caught_square ?tyQ_Caught ?qb_Caught ?qbf_Caught ?q_Caught ?qf_Caught ?aC_Free ?pg_Free ?hd_Free ?po_Free ?sa_Free ?ha_Free ?hm_Free ?mk_Free ?kc_Free ?i_Free ?if_Free ?n_Free_word ?n_Free_parts ?n_Free_square ?tyQ_Free ?qb_Free ?qbf_Free ?q_Free ?qf_Free ?hn_ ?ht_ ?vr_Denial ?vg_Denial ?vf_Denial ?vr_Paper ?vg_Paper ?vf_Paper ?l0 ?c0 ?k0 ?l1 ?c1 ?k1 ?l2 ?c2 ?k2 ?l3 ?c3 ?k3 ?l12 ?c12 ?k12 ?l13 ?c13 ?k13 ?l26 ?c26 ?k26 ?l27 ?c27 ?k27 ?l28 ?c28 ?k28 ?l29 ?c29 ?k29 ?l30 ?c30 ?k30 ?l31 ?c31 ?k31 ?l32 ?c32 ?k32 ?y_abs ?y_bool ?y_int ?y_isinstance ?y_len ?y_list ?y_max ?y_min ?y_range ?y_repr ?y_sum ?y_tuple ?y_type ?w_MOST_POWER ?ym
    (case a4 => k_is)
    (case l4 => k_is)
    (case c4 => k_is)
    (case k4 => k_is)
    (case a5 => k_is)
    (case l5 => k_is)
    (case c5 => k_is)
    (case k5 => k_is)
    (case a6 => k_is)
    (case l6 => k_is)
    (case c6 => k_is)
    (case k6 => k_is)
    (case a7 => k_is)
    (case l7 => k_is)
    (case c7 => k_is)
    (case k7 => k_is)
    (case a8 => k_is)
    (case l8 => k_is)
    (case c8 => k_is)
    (case k8 => k_is)
    (case a9 => k_is)
    (case l9 => k_is)
    (case c9 => k_is)
    (case k9 => k_is)
    (case a10 => k_is)
    (case l10 => k_is)
    (case c10 => k_is)
    (case k10 => k_is)
    (case a11 => k_is)
    (case l11 => k_is)
    (case c11 => k_is)
    (case k11 => k_is)
    (case a14 => k_is)
    (case l14 => k_is)
    (case c14 => k_is)
    (case k14 => k_is)
    (case a15 => k_is)
    (case l15 => k_is)
    (case c15 => k_is)
    (case k15 => k_is)
    (case a16 => k_is)
    (case l16 => k_is)
    (case c16 => k_is)
    (case k16 => k_is)
    (case a17 => k_is)
    (case l17 => k_is)
    (case c17 => k_is)
    (case k17 => k_is)
    (case a18 => k_is)
    (case l18 => k_is)
    (case c18 => k_is)
    (case k18 => k_is)
    (case a19 => k_is)
    (case l19 => k_is)
    (case c19 => k_is)
    (case k19 => k_is)
    (case a20 => k_is)
    (case l20 => k_is)
    (case c20 => k_is)
    (case k20 => k_is)
    (case a21 => k_is)
    (case l21 => k_is)
    (case c21 => k_is)
    (case k21 => k_is)
    (case a22 => k_is)
    (case l22 => k_is)
    (case c22 => k_is)
    (case k22 => k_is)
    (case a23 => k_is)
    (case l23 => k_is)
    (case c23 => k_is)
    (case k23 => k_is)
    (case a24 => k_is)
    (case l24 => k_is)
    (case c24 => k_is)
    (case k24 => k_is)
    (case a25 => k_is)
    (case l25 => k_is)
    (case c25 => k_is)
    (case k25 => k_is)
    (case a33 => k_is)
    (case l33 => k_is)
    (case c33 => k_is)
    (case k33 => k_is)
    (case a34 => k_is)
    (case l34 => k_is)
    (case c34 => k_is)
    (case k34 => k_is)
    (case a35 => k_is)
    (case l35 => k_is)
    (case c35 => k_is)
    (case k35 => k_is)
    (case a36 => k_is)
    (case l36 => k_is)
    (case c36 => k_is)
    (case k36 => k_is)
    (case a37 => k_is)
    (case l37 => k_is)
    (case c37 => k_is)
    (case k37 => k_is)
    (case a38 => k_is)
    (case l38 => k_is)
    (case c38 => k_is)
    (case k38 => k_is)
    (case a39 => k_is)
    (case l39 => k_is)
    (case c39 => k_is)
    (case k39 => k_is)
    (case a40 => k_is)
    (case l40 => k_is)
    (case c40 => k_is)
    (case k40 => k_is)
    (case a41 => k_is)
    (case l41 => k_is)
    (case c41 => k_is)
    (case k41 => k_is)
    (case aC_BadNumber => k_is)
    (case aC_BadSquare => k_is)
    (case aC_BadClimb => k_is)
    (case aC_Misfit => k_is)
    (case aC_FlightError => k_is)
    (case x_BadNumber => k_is)
    (case sa_BadNumber => k_is)
    (case exC_BadNumber => k_is)
    (case tyC_BadNumber => k_is)
    (case kC_BadNumber => k_is)
    (case i_BadNumber => k_is)
    (case t_BadNumber => k_is)
    (case n_BadNumber_part => k_is)
    (case x_BadSquare => k_is)
    (case sa_BadSquare => k_is)
    (case exC_BadSquare => k_is)
    (case tyC_BadSquare => k_is)
    (case kC_BadSquare => k_is)
    (case i_BadSquare => k_is)
    (case t_BadSquare => k_is)
    (case n_BadSquare_part => k_is)
    (case x_BadClimb => k_is)
    (case sa_BadClimb => k_is)
    (case exC_BadClimb => k_is)
    (case tyC_BadClimb => k_is)
    (case kC_BadClimb => k_is)
    (case i_BadClimb => k_is)
    (case t_BadClimb => k_is)
    (case n_BadClimb_part => k_is)
    (case x_Misfit => k_is)
    (case sa_Misfit => k_is)
    (case exC_Misfit => k_is)
    (case tyC_Misfit => k_is)
    (case kC_Misfit => k_is)
    (case i_Misfit => k_is)
    (case t_Misfit => k_is)
    (case n_Misfit_part => k_is)
    (case aC_Denial => k_is)
    (case aC_Climb => k_is)
    (case pg_Climb => k_is)
    (case hd_Climb => k_is)
    (case po_Climb => k_is)
    (case sa_Climb => k_is)
    (case ha_Climb => k_is)
    (case hm_Climb => k_is)
    (case mk_Climb => k_is)
    (case kc_Climb => k_is)
    (case i_Climb => k_is)
    (case if_Climb => k_is)
    (case n_Climb_power => k_is)
    (case n_Climb_turn => k_is)
    (case n_Climb_square => k_is)
    (case n_Climb_origins => k_is)
    (case n_Climb_lasted => k_is)
    (case tyQ_Climb => k_is)
    (case q_Climb => k_is)
    (case qf_Climb => k_is)
    (case aC_Paper => k_is)
    (case pg_Paper => k_is)
    (case hd_Paper => k_is)
    (case po_Paper => k_is)
    (case sa_Paper => k_is)
    (case ha_Paper => k_is)
    (case hm_Paper => k_is)
    (case mk_Paper => k_is)
    (case kc_Paper => k_is)
    (case i_Paper => k_is)
    (case if_Paper => k_is)
    (case n_Paper_word => k_is)
    (case n_Paper_parts => k_is)
    (case tyQ_Paper => k_is)
    (case qb_Paper => k_is)
    (case qbf_Paper => k_is)
    (case q_Paper => k_is)
    (case qf_Paper => k_is)
    (case aC_Caught => k_is)
    (case pg_Caught => k_is)
    (case hd_Caught => k_is)
    (case po_Caught => k_is)
    (case sa_Caught => k_is)
    (case ha_Caught => k_is)
    (case hm_Caught => k_is)
    (case mk_Caught => k_is)
    (case kc_Caught => k_is)
    (case i_Caught => k_is)
    (case if_Caught => k_is)
    (case n_Caught_word => k_is)
    (case n_Caught_parts => k_is)
    (case n_Caught_origins => k_is)
    (case n_Caught_lasted => k_is)
    (case n_Caught_square => k_is)
    (case tyQ_Caught => k_is)
    (case qb_Caught => k_is)
    (case qbf_Caught => k_is)
    (case q_Caught => k_is)
    (case qf_Caught => k_is)
    (case aC_Free => k_is)
    (case pg_Free => k_is)
    (case hd_Free => k_is)
    (case po_Free => k_is)
    (case sa_Free => k_is)
    (case ha_Free => k_is)
    (case hm_Free => k_is)
    (case mk_Free => k_is)
    (case kc_Free => k_is)
    (case i_Free => k_is)
    (case if_Free => k_is)
    (case n_Free_word => k_is)
    (case n_Free_parts => k_is)
    (case n_Free_square => k_is)
    (case tyQ_Free => k_is)
    (case qb_Free => k_is)
    (case qbf_Free => k_is)
    (case q_Free => k_is)
    (case qf_Free => k_is)
    (case hn_ => k_is)
    (case ht_ => k_is)
    (case vr_Denial => k_is)
    (case vg_Denial => k_is)
    (case vf_Denial => k_is)
    (case vr_Paper => k_is)
    (case vg_Paper => k_is)
    (case vf_Paper => k_is)
    (case l0 => k_is)
    (case c0 => k_is)
    (case k0 => k_is)
    (case l1 => k_is)
    (case c1 => k_is)
    (case k1 => k_is)
    (case l2 => k_is)
    (case c2 => k_is)
    (case k2 => k_is)
    (case l3 => k_is)
    (case c3 => k_is)
    (case k3 => k_is)
    (case l12 => k_is)
    (case c12 => k_is)
    (case k12 => k_is)
    (case l13 => k_is)
    (case c13 => k_is)
    (case k13 => k_is)
    (case l26 => k_is)
    (case c26 => k_is)
    (case k26 => k_is)
    (case l27 => k_is)
    (case c27 => k_is)
    (case k27 => k_is)
    (case l28 => k_is)
    (case c28 => k_is)
    (case k28 => k_is)
    (case l29 => k_is)
    (case c29 => k_is)
    (case k29 => k_is)
    (case l30 => k_is)
    (case c30 => k_is)
    (case k30 => k_is)
    (case l31 => k_is)
    (case c31 => k_is)
    (case k31 => k_is)
    (case l32 => k_is)
    (case c32 => k_is)
    (case k32 => k_is)
    (case y_abs => k_is)
    (case y_bool => k_is)
    (case y_int => k_is)
    (case y_isinstance => k_is)
    (case y_len => k_is)
    (case y_list => k_is)
    (case y_max => k_is)
    (case y_min => k_is)
    (case y_range => k_is)
    (case y_repr => k_is)
    (case y_sum => k_is)
    (case y_tuple => k_is)
    (case y_type => k_is)
    (case w_MOST_POWER => k_is)
    (case ym => rfl)
#print axioms PySem.Challenge.cw_nevercaught_k43_whole_power_one_is_caugh_holds
