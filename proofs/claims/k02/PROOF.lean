import PyProof.Rows.All
import Wide.All
import OpenK.AllK
import Wide.FinOn
import HandS.Base
import HandS.Call
import HandS.List
import HandS.Comp
import HandS.Ends
import HandS.Dict
import HandS.Iter
import HandS.Words
import HandS.ForMost
import HandS.IsInst
import HandS.Evl
import HandS.SetBool
import HandS.TupSets
import HandS.Deep
import HandS.Wide
import HandS.More
import PySem.Challenge.RW_nevercaught_k02_plain_values
set_option Elab.async false
set_option linter.all false
set_option maxRecDepth 100000
set_option maxHeartbeats 4000000
section
open PySem PySem.Spec PyProof.Rows L2
/-! steps of a reading: `walk_at "rd1"` answers one question, `walk_at "rd"` as many as it can -/
local macro_rules | `(tactic| walk_at "rd cond") => `(tactic| first
  | exact rfl | assumption | omega | (dsimp only; omega)
  | (refine Or.inl ⟨?_, ?_⟩ <;> omega) | (refine Or.inr ⟨?_, ?_⟩ <;> omega)
  | (refine Nat.le_trans (m := 64) ?_ (by decide); simp only [List.length_cons, List.length_nil]; omega)
  | (refine ⟨?_, ?_, ?_⟩ <;> first | omega | decide) | (refine ⟨?_, ?_⟩ <;> first | assumption | omega | decide))
local macro_rules | `(tactic| walk_at "rd1") => `(tactic| first
  | refine ⟨_, rfl, ?_⟩
  | refine ⟨_, _, rfl, rfl, ?_⟩
  | refine Or.inl ⟨_, rfl, ?_⟩
  | refine Or.inr ⟨_, rfl, ?_⟩
  | refine ⟨_, _, _, _, rfl, rfl, SqL.of (by assumption), by rfl, ?_⟩
  | refine ⟨_, _, _, _, rfl, rfl, SqL.of upd_same, by rfl, ?_⟩
  | refine ⟨_, _, _, _, rfl, rfl, by assumption, by rfl, ?_⟩
  | refine ⟨_, _, _, _, rfl, rfl, upd_same, by rfl, ?_⟩
  | refine ⟨_, _, _, _, rfl, rfl, by assumption, by assumption, ?_⟩
  | refine Or.inl ⟨_, _, _, _, rfl, rfl, by assumption, by rfl, ?_⟩
  | refine Or.inr (Or.inl ⟨_, _, _, _, rfl, rfl, by assumption, by rfl, ?_⟩)
  | refine ⟨_, _, _, _, rfl, by decide, by decide, by assumption, ?_⟩
  | refine ⟨_, _, _, rfl, by assumption, ?_⟩
  | refine ⟨_, _, rfl, by assumption, ?_⟩
  | refine ⟨_, _, rfl, .inl (SqL.of (by assumption)), ?_⟩
  | refine ⟨_, _, rfl, .inl (SqL.of upd_same), ?_⟩
  | refine ⟨_, _, rfl, .inl (by assumption), ?_⟩
  | refine ⟨_, _, rfl, .inr (SqT.of (by assumption)), ?_⟩
  | refine ⟨_, _, rfl, .inr (SqT.of upd_same), ?_⟩
  | refine ⟨_, _, rfl, .inr (by assumption), ?_⟩
  | (refine And.intro ?_ ?_; focus (walk_at "rd cond")))
local macro_rules | `(tactic| walk_at "rd") => `(tactic| repeat (walk_at "rd1"))
/-! Kg1: defs that are called while nothing is being shown (no guard runs), so that they may ask repr of lists. -/
namespace Kg
open PySem PySem.Spec PyProof.Rows L2

section
variable {P : Program} {w : World} {K : PySem.W.Frag} {mg : Str → Option Value} {base : Heap} {CX : CXT} {k : Nat} {f : Addr} {fd : FuncData} {ps : List Str} {sp : Sp}
/-- a def's promise, kept where no guard runs around the call -/
structure FnG (P : Program) (w : World) (K : PySem.W.Frag) (mg : Str → Option Value) (base : Heap) (CX : CXT)
    (k : Nat) (f : Addr) (fd : FuncData) (ps : List Str) (sp : Sp) : Prop where
  many : ∀ vs H Q E, sp vs H Q E → vs.length = ps.length
  goes : ∀ (A : Around) (outer : List Env) (s : Shared) (H : Hp) (args : Args) (us : List Value) (vs : List V) (Q : VK) (E : XK),
    Room k A → A.guards = some [] → Env0 P w K mg base A outer s H → BindsTo s fd args (ps.zip us) → Vals vs us →
    sp vs H Q E → codeAny (model P w) A (.call (.ref f) args) (CR CX outer P w H s Q E) s
theorem FnG.of (F : FnOk P w K mg base CX k f fd ps sp) : FnG P w K mg base CX k f fd ps sp :=
  ⟨F.len, fun A outer s H args us vs Q E hr _ => F.run A outer s H args us vs Q E hr⟩
theorem FnG.mono {j : Nat} (F : FnG P w K mg base CX j f fd ps sp) (h : j ≤ k) : FnG P w K mg base CX k f fd ps sp :=
  ⟨F.many, fun A outer s H args us vs Q E hr => F.goes A outer s H args us vs Q E (hr.mono h)⟩
end

theorem guards_deeper (A : Around) (env : Env) : (A.deeper env).guards = A.guards := rfl

section
variable {P : Program} {w : World} {K : PySem.W.Frag} {mg : Str → Option Value} {base : Heap} {CX : CXT} {k : Nat} {f : Addr}
variable {name qual : Str} {pars : Arguments} {body : List Stmt} {sc : Scope} {dV kV doc pm cdv ct oc : Value} {an od : Option Addr} {osl : Array (Option Value)} {N ps : List Str} {sp : Sp}
/-- a def by its body, where no guard runs -/
theorem fnG_of (at_f : K.lookup f = some ⟨oc, od, .func (PySem.W.fnOf name qual pars body sc dV kV doc pm an cdv ct), osl⟩)
    (its_code : PySem.W.codeIn K cdv qual = true) (S : FnScope N ps sc) (many : ∀ vs H Q E, sp vs H Q E → vs.length = ps.length)
    (its_body : ∀ (A : Around) (outer : List Env) (s : Shared) (H : Hp) (vs : List V) (Q : VK) (E : XK),
      Room k (A.deeper (envOfC qual sc s.heap.objs.size f cdv)) → A.guards = some [] → sp vs H Q E →
      ∃ t, PSs (cxOf CX P w K mg base N qual sc f cdv A outer s H E) body t ∧
        t { nx := fun _ H' => Q .non H', rt := Q } (start N vs) H) :
    FnG P w K mg base CX (k + 1) f (PySem.W.fnOf name qual pars body sc dV kV doc pm an cdv ct) ps sp := by
  constructor
  · exact many
  · intro A outer s H args us vs Q E hr hg e0 hb r hs
    have hl := many _ _ _ _ hs
    have old : ∀ b o, base.get? b = some o → s.heap.get? b = some o := fun b o e => (e0.bs b o e).1
    have here : K.In s.heap := e0.mod.kin.keeps old
    have kinds : ∀ y ∈ ps.zip us, sc.names.lookup y.1 = some .local ∨
        (sc.names.lookup y.1 = some .cell ∧ ((cellsFrom (s.heap.objs.size + 1) sc.names []).lookup y.1).isSome = true) := by
      rintro ⟨n, v⟩ hy
      exact (S.par n (List.of_mem_zip hy).1).imp id fun q => ⟨q, PySem.W.cellsFrom_some _ _ _ (.inl q)⟩
    apply codeAny_call_function hr.depth (here _ _ at_f) rfl S.co S.gen rfl (PySem.W.codeRec_of here its_code) (hb _ _ _ _ _)
    apply wpAny_newFunctionEnv_cells S.kind kinds
    intro fun' env he s1
    subst env
    refine ⟨(e0.mod.nolimit.keeps old).keeps s1.toInCall.keep, codeAny_func ?_⟩
    obtain ⟨t, ht, hq⟩ := its_body A outer s H vs Q E (hr.deeper _) hg hs
    have J := inv_start (CX := CX) (E := E) S hr.hd e0 hl r s1
    refine wpAny_mono (ht.run [] _ (start N vs) H _ J hq) ?_ fun e s' z => z
    rintro fl s' hh
    have fin : ∀ {σ' : L2.St} {H' : Hp} {v : V} {u : Value}, Inv (cxOf CX P w K mg base N qual sc f cdv A outer s H E) [] σ' H' s' →
        RelV v u → Q v H' → CE outer P w H s Q u s' := by
      intro σ' H' v u I rv q
      exact ⟨v, H', I.os, I.bare, I.base, I.hok, rv, q⟩
    cases fl with
    | next => exact hh.elim fun σ' z => z.elim fun H' z => fin (v := V.non) (u := Value.none) z.1 rfl z.2
    | ret u => exact hh.elim fun v z => z.elim fun σ' z => z.elim fun H' z => fin z.1 z.2.1 z.2.2
    | brk => exact (hh.elim fun _ z => z.elim fun _ z => z.2).elim
    | cont => exact (hh.elim fun _ z => z.elim fun _ z => z.2).elim
end

section
variable {P : Program} {w : World} {K : PySem.W.Frag} {mg : Str → Option Value} {base : Heap}
theorem okG {x qual : Str} {st : Stmt} {f : Addr} {fd : FuncData} {N ps : List Str} {k : Nat} {sp : Sp} (F : Fun K x qual st f fd)
    (S : FnScope N ps (defScope st)) (many : ∀ vs H Q E, sp vs H Q E → vs.length = ps.length)
    (its_body : ∀ (cdv : Value) (A : Around) (outer : List Env) (s : Shared) (H : Hp) (vs : List V) (Q : VK) (E : XK),
      Room k (A.deeper (envOfC qual (defScope st) s.heap.objs.size f cdv)) → A.guards = some [] → sp vs H Q E →
      ∃ t, PSs (cxOf CX0 P w K mg base N qual (defScope st) f cdv A outer s H E).nox (defBody st) t ∧
        t { nx := fun _ H' => Q .non H', rt := Q } (start N vs) H) : FnG P w K mg base CX0 (k + 1) f fd ps sp := by
  obtain ⟨oc, od, kV, doc, pm, an, cdv, ct, osl, e, lk, hcd⟩ := F.ex
  subst e
  refine fnG_of lk hcd S many ?_
  intro A outer s H vs Q E hr hg hs
  obtain ⟨t, h, q⟩ := its_body cdv A outer s H vs Q E hr hg hs
  exact ⟨t, h.nox, q⟩
end

section
variable {X : Cx} {CX : CXT} {k : Nat} {f : Addr} {fd : FuncData} {ps : List Str} {sp : Sp} {dvs : List V} {ds : List Value} {E : XK} {x : Str} {p pos : Pos} {e : Expr} {es : List Expr} {t : TA}
theorem runG {pins : List (Addr × Obj)} {σ : L2.St} {H : Hp} {s : Shared} {Q : VK} {us : List Value} {vs : List V}
    (F : FnG X.prog X.w X.K X.mg X.base CX k f fd ps sp) (hr : Room k X.A) (gd : X.A.guards = some []) (hb : Binds X.K fd ps ds)
    (hd : Vals dvs ds) (hx : Passes CX X E) (I : Inv X pins σ H s) (r : Vals vs us) (h : sp (vs ++ dvs) H Q E) :
    wpAny (model X.prog X.w) X.A (call (.ref f) us) (EP X pins σ Q) X.xe s := by
  have both : Vals (vs ++ dvs) (us ++ ds) := r.append hd
  have hl : (us ++ ds).length = ps.length := both.length ▸ F.many _ _ _ _ h
  have it := F.goes X.A X.stack s H ⟨us, []⟩ (us ++ ds) (vs ++ dvs) Q E hr gd I.env0 (hb s us I.kIn hl) both h
  refine wpAny_call (codeAny_mono it ?_)
  rintro (e | fl) s' hq
  · exact hx pins σ H s e s' I hq
  · cases fl <;> first | exact I.after hq | exact False.elim hq
theorem pe_callG (F : FnG X.prog X.w X.K X.mg X.base CX k f fd ps sp) (hr : Room k X.A) (gd : X.A.guards = some []) (hg : Gl X x)
    (hm : X.mg x = some (.ref f)) (hk : PySem.W.keepIn X.K (.ref f) = true) (hb : Binds X.K fd ps ds) (hd : Vals dvs ds) (hx : Passes CX X E)
    (ha : PA X (e :: es) t) (hdb : (x == ("__debug__" : Str)) = false := by decide)
    (he : starEach (e :: es) X.env = (false, eval e X.env) :: starEach es X.env := by rfl)
    (hpl : (backTo pos (starEach es X.env)).any (·.1) = false := by rfl) : PE X (.Call (.Name x p) (e :: es) [] pos) (tCall sp dvs E t) := by
  constructor
  intro pins s σ H Q I h
  apply wpAny_Call_Name_kw (ld_glob I hg hm _ hdb)
  refine PySem.W.callWith_K (h₀ := X.base) I.ok.mod.kin hk ?_ he hpl
  refine thn (ha.run pos pins s σ H _ I h) ?_
  rintro us s1 ⟨vs, H1, I1, r, q⟩
  exact ⟨I1.kIn, runG F hr gd hb hd hx I1 r q⟩

/-- f(k = v, ..): keywords alone -/
theorem pe_callKW {ks : List Str} {kws : List Keyword} {g : List Value → List Value → List Value} {gV : List V → List V → List V} {tk : TA}
    (F : FnOk X.prog X.w X.K X.mg X.base CX k f fd ps sp) (hr : Room k X.A) (hg : Gl X x) (hm : X.mg x = some (.ref f))
    (hk : PySem.W.keepIn X.K (.ref f) = true) (hb : KBinds X.K fd ps ks g gV) (hx : Passes CX X E) (hkw : PK X kws tk)
    (hall : (backToKw pos (keywordEach kws X.env)).all (·.1.isSome) = true := by rfl)
    (hks : (backToKw pos (keywordEach kws X.env)).filterMap (·.1) = ks := by rfl) (hdb : (x == ("__debug__" : Str)) = false := by decide)
    (hpl : (backToKw pos (keywordEach kws X.env)).any (·.1.isNone) = false := by rfl) :
    PE X (.Call (.Name x p) [] kws pos) (tCallK sp gV E tNil tk) := by
  constructor
  intro pins s σ H Q I h
  apply wpAny_Call_Name_kw (ld_glob I hg hm _ hdb)
  refine PySem.W.callWith_KW0 (h₀ := X.base) I.ok.mod.kin hk hall ?_ ?_
  · refine thn (hkw.run pos pins s σ H _ I h) ?_
    rintro ws s2 ⟨zs, H2, I2, rz, q2⟩
    refine ⟨I2.kIn, ?_⟩
    rw [hks]
    exact run_fnk (us := []) (vs := []) F hr hb hx I2 .nil rz q2
  · exact hpl
end
end Kg
/-! Kg2: data of any depth (dicts with written keys among them): what stands for it, its repr, its kind. -/
namespace Kg
open PySem PySem.Spec PyProof.Rows L2
open Evl (Ex)

def keyD : Key → PyData
  | .inl i => .int i
  | .inr x => .str x
mutual
inductive Da (K : PySem.W.Frag) (H : Hp) : V → PyData → Prop
  | non : Da K H .non .none
  | bl (b : Bool) : Da K H (.bl b) (.bool b)
  | int (i : Int) : Da K H (.int i) (.int i)
  | str (x : Str) : Da K H (.str x) (.str x)
  | lst {a : Addr} {xs : List V} {ds : List PyData} : SqL K H a xs → DaAll K H xs ds → Da K H (.ref a) (.list ds)
  | tup {a : Addr} {xs : List V} {ds : List PyData} : SqT K H a xs → DaAll K H xs ds → Da K H (.ref a) (.tuple ds)
  | dct {a : Addr} {kvs : List (Key × V)} {ds : List PyData} : H a = some (.dK kvs) → DaAll K H (kvs.map (·.2)) ds →
      Da K H (.ref a) (.dict ((kvs.map fun kv => keyD kv.1).zip ds))
inductive DaAll (K : PySem.W.Frag) (H : Hp) : List V → List PyData → Prop
  | nil : DaAll K H [] []
  | cons {v : V} {vs : List V} {d : PyData} {ds : List PyData} : Da K H v d → DaAll K H vs ds → DaAll K H (v :: vs) (d :: ds)
end
theorem DaAll.len {K : PySem.W.Frag} {H : Hp} : ∀ {vs : List V} {ds : List PyData}, DaAll K H vs ds → vs.length = ds.length
  | _, _, .nil => rfl
  | _, _, .cons _ t => by simp [DaAll.len t]
theorem DaAll.at {K : PySem.W.Frag} {H : Hp} : ∀ {vs : List V} {ds : List PyData} {i : Nat} {v : V}, DaAll K H vs ds → vs[i]? = some v → ∃ d, ds[i]? = some d ∧ Da K H v d
  | _, _, _, _, .nil, h => by simp at h
  | _, _, 0, _, .cons h _, e => ⟨_, rfl, by simp at e; exact e ▸ h⟩
  | _, _, i + 1, _, .cons _ t, e => DaAll.at (i := i) t (by simpa using e)
theorem DaAll.app {K : PySem.W.Frag} {H : Hp} : ∀ {vs ws : List V} {ds es : List PyData}, DaAll K H vs ds → DaAll K H ws es → DaAll K H (vs ++ ws) (ds ++ es)
  | _, _, _, _, .nil, h => h
  | _, _, _, _, .cons h t, g => .cons h (DaAll.app t g)
mutual
theorem Da.mono {K : PySem.W.Frag} {H H' : Hp} (e : Ex H H') : ∀ {v : V} (d : PyData), Da K H v d → Da K H' v d
  | _, .none, .non => .non
  | _, .bool _, .bl b => .bl b
  | _, .int _, .int i => .int i
  | _, .str _, .str x => .str x
  | _, .list ds, .lst h t => .lst (Evl.ex_l e h) (DaAll.mono e ds t)
  | _, .tuple ds, .tup h t => .tup (Evl.ex_t e h) (DaAll.mono e ds t)
  | _, .dict _, .dct h t => .dct (e _ _ h) (DaAll.mono e _ t)
theorem DaAll.mono {K : PySem.W.Frag} {H H' : Hp} (e : Ex H H') : ∀ {vs : List V} (ds : List PyData), DaAll K H vs ds → DaAll K H' vs ds
  | _, [], .nil => .nil
  | _, d :: ds, .cons h t => .cons (Da.mono e d h) (DaAll.mono e ds t)
end
/-- the modules' dict stands, known and not to be written -/
def Sys (H : Hp) : Prop := ∃ o φ, H sysModules = some (.frz o (.ext φ))
theorem Sys.mono {H H' : Hp} (e : Ex H H') (h : Sys H) : Sys H' := by
  obtain ⟨o, φ, h⟩ := h
  exact ⟨o, φ, e _ _ h⟩
/-- it is none of the written part's lists and tuples -/
def OffK (K : PySem.W.Frag) : Prop := K.lookup sysModules = none

section
variable {X : Cx} {pins : List (Addr × Obj)} {σ : L2.St} {H : Hp} {s : Shared}
theorem off_l {K : PySem.W.Frag} {a : Addr} {xs : List V} (y : Sys H) (k : OffK K) (h : SqL K H a xs) : a ≠ sysModules := by
  rintro rfl
  obtain ⟨o, φ, e⟩ := y
  rcases h with (h | ⟨o', h⟩) | ⟨o', _, _, h, _⟩
  · rw [e] at h; cases h
  · rw [e] at h; cases h
  · rw [show K.lookup sysModules = none from k] at h; cases h
theorem pairs_keys {P : Program} {w : World} {h : Heap} : ∀ {es : List DictEntry} {kvs : List (Key × Value)}, Pairs (mixKind P w) es kvs → ReadsAll h (es.map (·.key)) (kvs.map fun kv => keyD kv.1) []
  | _, _, .nil => .nil
  | e :: es, kv :: kvs, .cons g _ t => by
    have r : Reads h e.key (keyD kv.1) [] := by
      rcases keyIs_shape (show keyIs kv.1 e.key = true from g) with ⟨i, t, e1, e2⟩ | ⟨x, t, e1, e2⟩
      · rw [e1, e2]; exact Reads.int i t
      · rw [e1, e2]; exact Reads.str x t
    exact ReadsAll.cons (as := []) (bs := []) r (pairs_keys t)
theorem pairs_vals {P : Program} {w : World} : ∀ {es : List DictEntry} {kvs : List (Key × Value)}, Pairs (mixKind P w) es kvs → es.map (·.val) = kvs.map (·.2)
  | _, _, .nil => rfl
  | _, _, .cons _ e t => by simp [e, pairs_vals t]
theorem kv_vals : ∀ {kvs : List (Key × V)} {vs : List (Key × Value)}, KV kvs vs → Vals (kvs.map (·.2)) (vs.map (·.2)) ∧ vs.map (fun kv => keyD kv.1) = kvs.map fun kv => keyD kv.1
  | _, _, .nil => ⟨.nil, rfl⟩
  | _, _, .cons r t => ⟨.cons r.2 (kv_vals t).1, by simp [r.1, (kv_vals t).2]⟩
theorem zip_fst {α β : Type} : ∀ {xs : List α} {ys : List β}, xs.length = ys.length → (xs.zip ys).map (·.1) = xs
  | [], _, _ => rfl
  | _ :: _, [], h => by simp at h
  | x :: xs, y :: ys, h => by simp [zip_fst (xs := xs) (ys := ys) (by simpa using h)]
theorem zip_snd {α β : Type} : ∀ {xs : List α} {ys : List β}, xs.length = ys.length → (xs.zip ys).map (·.2) = ys
  | [], [], _ => rfl
  | [], _ :: _, h => by simp at h
  | _ :: _, [], h => by simp at h
  | x :: xs, y :: ys, h => by simp [zip_snd (xs := xs) (ys := ys) (by simpa using h)]
mutual
theorem Da.reads (I : Inv X pins σ H s) (y : Sys H) (k : OffK X.K) : ∀ (d : PyData) (v : V) (u : Value), Da X.K H v d → RelV v u → ∃ as, Reads s.heap u d as ∧ sysModules ∉ as
  | .none, _, _, .non, r => by cases r; exact ⟨_, Reads.none, by simp⟩
  | .bool b, _, _, .bl _, r => by cases r; exact ⟨_, Reads.bool b, by simp⟩
  | .int i, _, _, .int _, r => by obtain ⟨t, rfl⟩ := r; exact ⟨_, Reads.int i t, by simp⟩
  | .str x, _, _, .str _, r => by obtain ⟨t, rfl⟩ := r; exact ⟨_, Reads.str x t, by simp⟩
  | .list ds, _, _, .lst (a := a) hs ha, r => by
    cases r
    obtain ⟨its, rv, ⟨o, n, ho, hc, _, hd⟩, _⟩ := I.list hs
    obtain ⟨as, hr, hn⟩ := DaAll.reads I y k ds _ its ha rv
    have na := off_l y k hs
    exact ⟨_, Reads.list ho hc hd hr, by simp [hn, Ne.symm na]⟩
  | .tuple ds, _, _, .tup hs ha, r => by
    cases r
    obtain ⟨its, rv, ⟨o, ho, hc, n, hd⟩, _⟩ := I.tuple hs
    obtain ⟨as, hr, hn⟩ := DaAll.reads I y k ds _ its ha rv
    exact ⟨_, Reads.tuple ho hc hd hr, hn⟩
  | .dict _, _, _, .dct (a := a) (kvs := kvs) (ds := ds) he ha, r => by
    cases r
    obtain ⟨z, hsy, vs, rel, o, es, ep, ho, hx, hd, hk, hp, nd⟩ := I.hok a _ he
    obtain ⟨rv, ek⟩ := kv_vals rel
    obtain ⟨bs, hr, hn⟩ := DaAll.reads I y k ds _ (vs.map (·.2)) ha rv
    have hl : (kvs.map fun kv => keyD kv.1).length = ds.length := by
      rw [List.length_map, ← ha.len, List.length_map]
    have r1 := pairs_keys (h := s.heap) hp
    rw [ek] at r1
    have r2 := pairs_vals hp
    refine ⟨a :: [] ++ bs, Reads.dict ho hx.1 hd (as := []) ?_ ?_, ?_⟩
    · rw [zip_fst hl]; exact r1
    · rw [zip_snd hl, r2]; exact hr
    · have na : a ≠ sysModules := by simpa using hsy
      simp [hn, Ne.symm na]
theorem DaAll.reads (I : Inv X pins σ H s) (y : Sys H) (k : OffK X.K) : ∀ (ds : List PyData) (vs : List V) (us : List Value), DaAll X.K H vs ds → Vals vs us → ∃ as, ReadsAll s.heap us ds as ∧ sysModules ∉ as
  | [], _, _, .nil, r => by cases r; exact ⟨_, ReadsAll.nil, by simp⟩
  | d :: ds, _, _, .cons h1 h2, r => by
    cases r with
    | cons r1 r2 =>
      obtain ⟨as, q1, n1⟩ := Da.reads I y k d _ _ h1 r1
      obtain ⟨bs, q2, n2⟩ := DaAll.reads I y k ds _ _ h2 r2
      exact ⟨_, ReadsAll.cons q1 q2, by simp [n1, n2]⟩
end

/-- repr(x), x of any data -/
def rRepr (K : PySem.W.Frag) : List V → Hp → VK → Prop := fun xs H Q => ∃ x d, xs = [x] ∧ Da K H x d ∧ Sys H ∧ PyData.showable d = true ∧ d.shown.length ≤ sizeLine ∧ d.depth ≤ 60 ∧ Q (.str d.shown) H
theorem cr_repr (gd : X.A.guards = some []) (hu : X.A.units + 64 < cLine) (k : OffK X.K) : CallR X (.builtin "repr") (rRepr X.K) := by
  intro pins s σ H xs us Q I r h
  obtain ⟨x, d, e, hd, y, hs, hz, hdp, q⟩ := h
  subst e
  obtain ⟨u, e, rx⟩ := vals1 r
  subst e
  cases hd with
  | non => cases rx; exact PySem.P.repr_of_none ⟨.str _, H, I.tok _, ⟨_, rfl⟩, by simpa only [PyData.shown] using q⟩
  | bl b => cases rx; exact PySem.P.repr_of_bool ⟨.str _, H, I.tok _, ⟨_, rfl⟩, by simpa only [PyData.shown] using q⟩
  | int i =>
    obtain ⟨t, rfl⟩ := rx
    have hi : i.natAbs.log2 < 1920 := by simpa [PyData.showable] using hs
    exact PySem.P.repr_of_int hi ⟨.str _, H, I.tok _, ⟨_, rfl⟩, by simpa only [PyData.shown] using q⟩
  | str z =>
    obtain ⟨t, rfl⟩ := rx
    exact PySem.P.repr_of_str ⟨.str _, H, I.tok _, ⟨_, rfl⟩, by simpa only [PyData.shown] using q⟩ (by simpa only [PyData.shown] using hz)
  | @lst a ys ds h1 h2 =>
    cases rx
    obtain ⟨as, hr, hn⟩ := Da.reads I y k _ _ _ (Da.lst h1 h2) (show RelV (.ref a) (.ref a) from rfl)
    exact repr_of_reads' hr hs (fun _ => hn) gd (by omega) (fun _ _ e => e) (fun h' t tk kk => ⟨.str _, H, I.kept kk, ⟨_, rfl⟩, q⟩) hz
  | @tup a ys ds h1 h2 =>
    cases rx
    obtain ⟨as, hr, hn⟩ := Da.reads I y k _ _ _ (Da.tup h1 h2) (show RelV (.ref a) (.ref a) from rfl)
    exact repr_of_reads' hr hs (fun _ => hn) gd (by omega) (fun _ _ e => e) (fun h' t tk kk => ⟨.str _, H, I.kept kk, ⟨_, rfl⟩, q⟩) hz
  | @dct a kvs ds h1 h2 =>
    cases rx
    obtain ⟨as, hr, hn⟩ := Da.reads I y k _ _ _ (Da.dct h1 h2) (show RelV (.ref a) (.ref a) from rfl)
    exact repr_of_reads' hr hs (fun _ => hn) gd (by omega) (fun _ _ e => e) (fun h' t tk kk => ⟨.str _, H, I.kept kk, ⟨_, rfl⟩, q⟩) hz
/-- repr of what is no list, no tuple and no dict: no guard is asked -/
def rReprB : List V → Hp → VK → Prop := fun xs H Q => ∃ b, xs = [.bl b] ∧ Q (.str (if b then "True" else "False")) H
theorem cr_reprB : CallR X (.builtin "repr") rReprB := by
  intro pins s σ H xs us Q I r h
  obtain ⟨b, e, q⟩ := h
  subst e
  obtain ⟨u, e, rx⟩ := vals1 r
  subst e
  cases rx
  exact PySem.P.repr_of_bool ⟨.str _, H, I.tok _, ⟨_, rfl⟩, q⟩
end

/-! ### kinds -/
def tyD : PyData → String
  | .none => "NoneType" | .bool _ => "bool" | .int _ => "int" | .str _ => "str" | .list _ => "list" | .tuple _ => "tuple" | .dict _ => "dict"
theorem tyX_of {K : PySem.W.Frag} {H : Hp} {v : V} {d : PyData} (h : Da K H v d) : TyX K H v (.type (tyD d)) := by
  cases h with
  | non => exact .base .non
  | bl b => exact .base (.bl b)
  | int i => exact .base (.int i)
  | str x => exact .base (.str x)
  | lst h1 h2 =>
    rcases h1 with (h | ⟨o, h⟩) | ⟨o, _, _, h, c, _⟩
    · exact .base (.lst h)
    · exact .base (.frz h)
    · exact .kList h c
  | tup h1 h2 =>
    rcases h1 with (h | ⟨o, h⟩) | ⟨o, _, _, h, c, _⟩
    · exact .base (.tup h)
    · exact .fTuple h
    · exact .kTuple h c
  | dct h1 h2 => exact .base (.dK h1)
end Kg
/-! Kg4: set comprehensions whose members are tuples of ints. -/
namespace Kg
open PySem PySem.Spec PyProof.Rows L2 PpSet
section
variable {P : Program} {w : World} {A : Around} {E : Value → Shared → Prop} {s : Shared} {a : Addr}
/-- found.add((..)) -/
theorem set_add_tup {L : List (Addr × List Int)} {es : Array (Int × Value)} {ep : Nat} {t : SetTable} (R : SetTR P w s.heap a L es ep t)
    {x : Addr} {k : List Int} (hx : IsT P w s.heap k x) (hu : A.units + 1 < cLine) (few : L.length + 1 < 64) {Q : Value → Shared → Prop}
    (q : ∀ h' tk L' es' ep' t', Heap.SameBut a s.heap h' → SetTR P w h' a L' es' ep' t' → (k ∈ L.map (·.2) → L' = L) →
      (k ∉ L.map (·.2) → L'.Perm ((x, k) :: L)) → Q .none { s with heap := h', toks := tk }) :
    wpAny (model P w) A (call (.builtin "set.add") [.ref a, .ref x]) Q E s := by
  obtain ⟨o, ho, hex, hd⟩ := R.ob
  refine wpAny_call_entry F.slot_set_add (show s.TypeIs (.ref a) "set" from ⟨o, ho, hex.1⟩) F.entry_set_add ?_ (F.args_set_add_2 _ _)
  unfold Builtin.«set.add» Builtin.Frozenset.oneOther
  simp only [List.isEmpty_nil, bind_assoc]
  unfold Builtin.Frozenset.addrOf setAdd
  refine wpAny_bind (wpAny_pure ?_)
  try dsimp only
  refine wpAny_bind (wpAny_pure ?_)
  try dsimp only
  refine wpAny_bind ?_
  refine wpAny_holding ?_
  have room : A.in1.units < cLine := hu
  refine wpAny_bind (wpAny_pyHash_tuple room hx ?_)
  refine add_at (s := { s with toks := s.toks + (k.length + 1) }) R hx room few ?_
  intro b h' L' es' ep' t' sb R' c1 c2
  show wpAny _ _ (ret Value.none) _ _ _
  exact wpAny_pure ⟨_, rfl, q h' _ L' es' ep' t' sb R' c1 c2⟩
end

section
variable {X : Cx}
theorem addT_ok {pins : List (Addr × Obj)} {σ : L2.St} {H : Hp} {s : Shared} {E : Value → Shared → Prop} {D x : Addr} {L : List (Addr × List Int)} {k : List Int} {Q : Value → Shared → Prop}
    (I : Inv X pins σ H s) (hu : X.A.units + 1 < cLine) (hD : H D = some (SetTO X.prog X.w D L)) (hL : ∀ p ∈ L, SqT X.K H p.1 (p.2.map V.int))
    (hx : SqT X.K H x (k.map V.int)) (few : L.length + 1 < 64)
    (q : ∀ s' L', Inv X pins σ (upd H D (SetTO X.prog X.w D L')) s' → (k ∈ L.map (·.2) → L' = L) → (k ∉ L.map (·.2) → L'.Perm ((x, k) :: L)) → Q .none s') :
    wpAny (model X.prog X.w) X.A (call (.builtin "set.add") [.ref D, .ref x]) Q E s := by
  have R0 : SetT0 X.prog X.w s.heap D L := (I.hok D _ hD).1
  obtain ⟨es, ep, t, R⟩ := R0.full fun p hp => I.isT (hL p hp)
  refine set_add_tup R (I.isT hx) hu few ?_
  intro h' tk L' es' ep' t' sb R' c1 c2
  obtain ⟨o', ho', _⟩ := R'.ob
  refine q _ L' (I.write (e := D) (t' := tk) (by rw [hD]; trivial) (.inl rfl) ?_ ⟨o', ho'⟩ (setTO_new R'.t0)) c1 c2
  exact fun b u hb hu' => (sb.2 b hb).trans hu'

/-- a comprehension's reading: D the new set, L what it holds -/
def tScT (K : PySem.W.Frag) (P : Program) (w : World) (wi : TI) (g : TG) (tt : TT) (te : TE) (vs : List Nat) : TE := fun σ H Q => wi σ H fun J H1 =>
  ∀ D, H1 D = none → ∃ W : Nat → Nat → Hp → Prop, (∃ m, W 0 m (upd H1 D (SetTO P w D []))) ∧
    ∀ i m H, W i m H → (J.stop i H ∧ Q (.ref D) H) ∨
      (J.go i H ∧ ∃ Nx : Hp → Prop, (∀ H', Nx H' → ∃ m', m' < m ∧ W (i + 1) m' H') ∧
        ∀ x H', J.yld i H x H' → g x (wipe σ vs) H' fun σ2 H2 => wipe σ2 vs = wipe σ vs ∧ tt σ2 H2 fun b H3 =>
          if b = true then te σ2 H3 fun y H4 => ∃ (t : Addr) (k : List Int) (L : List (Addr × List Int)), y = .ref t ∧ SqT K H4 t (k.map V.int) ∧
            H4 D = some (SetTO P w D L) ∧ (∀ p ∈ L, SqT K H4 p.1 (p.2.map V.int)) ∧ L.length + 1 < 64 ∧
            ∀ L', (k ∈ L.map (·.2) → L' = L) → (k ∉ L.map (·.2) → L'.Perm ((t, k) :: L)) → Nx (upd H4 D (SetTO P w D L'))
          else Nx H3)

theorem scT_core {pins : List (Addr × Obj)} {s : Shared} {σ : L2.St} {H : Hp} {Q : VK} {el tg iter : Expr} {ifs : List Expr} {sc : Scope} {ow : List (PySem.Str × Nat)} {pos pos' : Pos} {wi : TI} {g : TG} {tt : TT} {te : TE}
    {use : Option (Value → Sem Unit)} {Qf : Value → Shared → Prop} (hu : X.A.units + 1 < cLine) (hc : X.calm = true) (hN : X.N.Nodup) (I : Inv X pins σ H s)
    (hi : PI X tg iter wi) (ok : BlkOk X.N X.env.scope sc ow)
    (pgs : ∀ (s : Shared) (H : Hp) (C : Addr) (cl : List (PySem.Str × Addr)) (fp : List Addr), PG (X.blk s H sc (compEnvC sc cl C X.env) fp) tg g)
    (pts : ∀ (s : Shared) (H : Hp) (C : Addr) (cl : List (PySem.Str × Addr)) (fp : List Addr), PTs (X.blk s H sc (compEnvC sc cl C X.env) fp) ifs tt)
    (pes : ∀ (s : Shared) (H : Hp) (C : Addr) (cl : List (PySem.Str × Addr)) (fp : List Addr), PE (X.blk s H sc (compEnvC sc cl C X.env) fp) el te)
    (hs : ∀ x, foldedSetIterable iter X.env x = pure x) (h : tScT X.K X.prog X.w wi g tt te (ow.map (·.2)) σ H Q)
    (fine : ∀ D C s' m H', Inv X pins σ H' s' → Q (.ref D) H' → s'.heap.Ns C m → FpOk X pins H' C →
      compPost (model X.prog X.w) X.A X.xe use Qf (.ref D) C (.ok .next) s') :
    wpAny (model X.prog X.w) X.A (comprehension (.SetComp el [⟨tg, iter, ifs, 0⟩] sc pos) sc X.env pos' (newSet (.type "set")) false (eval iter X.env) use) Qf X.xe s := by
  have frees : ∀ y ∈ sc.names, y.2 = .free → ∃ c, X.env.cells.lookup y.1 = some c := by
    intro y hy e
    rcases ok.free y hy e with z | z
    · exact I.ok.has _ (.inl z)
    · exact I.ok.has _ (.inr z)
  refine wpAny_comprehension_free (use := use) rfl hs (closure_ok frees) ok.kind (fun y hy e => by rw [ok.uniq y hy, e]) ?_
  refine thn (hi.run pins s σ H _ I h) ?_
  intro xv s1 hx
  refine thn hx ?_
  rintro itv s2 ⟨it, fp, tn, J, H2, e, I2, T, st2, f2, q⟩
  subst e
  refine newSet_ok (newEnv_comp ?_)
  generalize hD : s2.heap.objs.size = D
  obtain ⟨W, ⟨m0, w0⟩, turn⟩ := q D (I2.hok.fresh (Nat.le_of_eq hD))
  generalize hs3 : ({ s2 with heap := s2.heap.push { cls := .type "set", dict := none, data := .set #[] 0 (.fresh 0 0 (!X.w.params.followText "set-order")) } } : Shared) = s3
  have h3 : s3.heap = s2.heap.push { cls := .type "set", dict := none, data := .set #[] 0 (.fresh 0 0 (!X.w.params.followText "set-order")) } := by rw [← hs3]
  have I3 : Inv X pins σ (upd H2 D (SetTO X.prog X.w D [])) s3 := by
    rw [← hs3]
    refine I2.laid (t' := s2.toks) (fun b o e => Heap.get?_push_of_some _ e) (Nat.le_of_eq hD) ?_
    rw [← hD]
    exact setTO_new (setTR_fresh (P := X.prog) (Heap.get?_push_size _ rfl)).t0
  have szs : ∀ b ∈ fp, b < s2.heap.objs.size := by
    intro b hb
    obtain ⟨o, e, _⟩ := T.obj _ _ st2 b hb
    exact Heap.lt_size e
  have f3 : ∀ b ∈ fp, FpOk X pins (upd H2 D (SetTO X.prog X.w D [])) b ∧ b < s3.heap.objs.size := by
    intro b hb
    have lt := szs b hb
    refine ⟨⟨?_, (f2 b hb).2⟩, by rw [h3, Heap.size_push]; exact Nat.lt_succ_of_lt lt⟩
    rw [upd_ne (hD ▸ Nat.ne_of_lt lt)]
    exact (f2 b hb).1
  have st3 : tn 0 s3.heap := T.keep _ _ _ st2 fun b _ o e => h3 ▸ Heap.get?_push_of_some _ e
  have I4 := block_start I3 ok hN f3
  have pg := pgs s3 (upd H2 D (SetTO X.prog X.w D [])) s3.heap.objs.size (cellsFrom (s3.heap.objs.size + 1) sc.names (cloFrom X.env.cells sc.names [])) fp
  have pt := pts s3 (upd H2 D (SetTO X.prog X.w D [])) s3.heap.objs.size (cellsFrom (s3.heap.objs.size + 1) sc.names (cloFrom X.env.cells sc.names [])) fp
  have pe := pes s3 (upd H2 D (SetTO X.prog X.w D [])) s3.heap.objs.size (cellsFrom (s3.heap.objs.size + 1) sc.names (cloFrom X.env.cells sc.names [])) fp
  show codeAny _ _ (.compStart (.SetComp el [⟨tg, iter, ifs, 0⟩] sc pos) 0 (.ref it) (.ref D)
      (compEnvC sc (cellsFrom (s3.heap.objs.size + 1) sc.names (cloFrom X.env.cells sc.names [])) s3.heap.objs.size X.env))
    (compPost (model X.prog X.w) X.A X.xe use Qf (.ref D) s3.heap.objs.size)
    { s3 with heap := pushCells (s3.heap.push { cls := .type "dict", data := .dict #[] }) sc.names }
  have nfp : ∀ b ∈ fp, (upd H2 D (SetTO X.prog X.w D [])) b = none := fun b hb => (f3 b hb).1.1
  generalize hce : compEnvC sc (cellsFrom (s3.heap.objs.size + 1) sc.names (cloFrom X.env.cells sc.names [])) s3.heap.objs.size X.env = ce at I4 pg pt pe ⊢
  have cL : ce.locals = s3.heap.objs.size := hce ▸ rfl
  generalize hH3 : upd H2 D (SetTO X.prog X.w D []) = H3 at I3 I4 pg pt pe w0 nfp f3
  generalize hs4 : ({ s3 with heap := pushCells (s3.heap.push { cls := .type "dict", data := .dict #[] }) sc.names } : Shared) = s4 at I4 ⊢
  have st4 : tn 0 s4.heap := T.keep _ _ _ st3 fun b _ o e => hs4 ▸ pushCells_keeps _ _ _ _ (Heap.get?_push_of_some _ e)
  have stat : ∀ {σ' : L2.St} {H' : Hp} {s' : Shared}, Inv (X.blk s3 H3 sc ce fp) [] σ' H' s' → (∀ b ∈ fp, H' b = none) →
      ∀ b ∈ fp, FpOk (X.blk s3 H3 sc ce fp) [] H' b := by
    intro σ' H' s' J' hn b hb
    exact ⟨hn b hb, (J'.ok.exf b hb).1, J'.ok.exfs b hb, .inl hb, fun x c e => (J'.ok.exf b hb).2 x c e,
      fun p hp => absurd (show p ∈ ([] : List (Addr × Obj)) ++ [] from hp) (by simp)⟩
  have loop : codeAny (model X.prog X.w) X.A (.compLoop (.SetComp el [⟨tg, iter, ifs, 0⟩] sc pos) 0 (.ref it) (.ref D) ce)
      (compPost (model X.prog X.w) X.A X.xe use Qf (.ref D) s3.heap.objs.size) s4 := by
    refine compLoopS_any (fun n s' => ∃ i H', Inv (X.blk s3 H3 sc ce fp) [] (wipe σ (ow.map (·.2))) H' s' ∧
      tn i s'.heap ∧ (∀ b ∈ fp, H' b = none) ∧ W i n H') ?_ m0 ⟨0, H3, I4, st4, nfp, w0⟩
    rintro n s5 ⟨i, H5, I5, st5, n5, w5⟩
    rcases turn i n H5 w5 with ⟨stop, qq⟩ | ⟨go, Nx, hNx, step⟩
    · refine thnF (T.done (X.blk s3 H3 sc ce fp) rfl rfl rfl hc i [] s5 _ H5 (fun _ _ => False) I5 (stat I5 n5) st5 stop) ?_
      rintro r s6 ⟨hr, I6⟩
      subst hr
      have I7 : Inv X pins σ H5 s6 := I3.call' (ch := fp) I6.os I6.base I6.hok I6.bare fun b hb =>
        ⟨(f3 b hb).1.2.2.2.1, (f3 b hb).1.2.1, (f3 b hb).1.2.2.2.2.1, (f3 b hb).1.2.2.2.2.2⟩
      have nC : H5 s3.heap.objs.size = none := cL ▸ (show H5 ce.locals = none from I6.free)
      obtain ⟨m, hn, _⟩ := I6.loc
      have hn : s6.heap.Ns ce.locals m := hn
      rw [cL] at hn
      exact fine D s3.heap.objs.size s6 m H5 I7 qq hn (I3.fpOk (Nat.le_refl _) nC)
    · refine thnF (T.item (X.blk s3 H3 sc ce fp) rfl rfl rfl hc i [] s5 _ H5 (fun _ _ => False) I5 (stat I5 n5) st5 go) ?_
      rintro r s6 ⟨u, hr, h6⟩
      subst hr
      refine thnF h6 ?_
      rintro _ s7 ⟨x, H7, I7, r7, y7, st7, n7⟩
      refine thnF (pg.run _ s7 _ H7 x u _ (I7.pinned (stat I7 n7) (T.obj _ _ st7)) r7 (step x H7 y7)) ?_
      rintro _ s8 ⟨σ8, H8, I8, hw8, q8⟩
      refine thnF (pt.run _ s8 σ8 H8 _ I8 q8) ?_
      rintro b s9 ⟨H9, I9, q9⟩
      have fin : ∀ {s' : Shared} {H' : Hp}, Inv (X.blk s3 H3 sc ce fp) ([] ++ pinsAt fp s7.heap) σ8 H' s' → Nx H' →
          ∃ m, m < n ∧ ∃ i H', Inv (X.blk s3 H3 sc ce fp) [] (wipe σ (ow.map (·.2))) H' s' ∧ tn i s'.heap ∧ (∀ b ∈ fp, H' b = none) ∧ W i m H' := by
        intro s' H' J' nx
        obtain ⟨m', hm, w'⟩ := hNx H' nx
        have pin' : ∀ b ∈ fp, ∀ o, s7.heap.get? b = some o → s'.heap.get? b = some o ∧ H' b = none := by
          intro b hb o e
          have z := J'.pin (b, o) (List.mem_append_right _ (List.mem_append_right _ (mem_pinsAt hb e)))
          exact ⟨z.1, z.2.1⟩
        have hl : (wipe σ (ow.map (·.2))).length = σ8.length := by rw [← hw8, wipe_length]
        refine ⟨m', hm, i + 1, H', (J'.unpinned (pins := [])).weak hl ?_, T.keep _ _ _ st7 fun b hb o e => (pin' b hb o e).1, ?_, w'⟩
        · intro j v e
          rw [← hw8] at e
          exact (wipe_some e).1
        · intro b hb
          obtain ⟨o, e, _⟩ := T.obj _ _ st7 b hb
          exact (pin' b hb o e).2
      cases b with
      | false =>
        simp only [Bool.false_eq_true, if_false] at q9 ⊢
        exact fin I9 q9
      | true =>
        simp only [if_true] at q9 ⊢
        refine thnF (pe.run _ s9 σ8 H9 _ I9 q9) ?_
        rintro z s10 ⟨yv, H10, I10, r10, t, k, L, ey, ht, hD10, hL, few, nx⟩
        subst ey
        cases (show z = Value.ref t from r10)
        refine addT_ok (X := X.blk s3 H3 sc ce fp) I10 hu hD10 hL ht few ?_
        intro s11 L' I11 c1 c2
        exact fin I11 (nx L' c1 c2)
  exact codeAny_compStart_set loop (T.self X.A 0 _ _ _ st4 loop)
/-- {(..) for x in xs}, a value -/
theorem pe_scT {el tg iter : Expr} {ifs : List Expr} {sc : Scope} {ow : List (PySem.Str × Nat)} {pos : Pos} {wi : TI} {g : TG} {tt : TT} {te : TE} (hu : X.A.units + 1 < cLine) (hc : X.calm = true) (hN : X.N.Nodup)
    (hi : PI X tg iter wi) (ok : BlkOk X.N X.env.scope sc ow)
    (pgs : ∀ (s : Shared) (H : Hp) (C : Addr) (cl : List (PySem.Str × Addr)) (fp : List Addr), PG (X.blk s H sc (compEnvC sc cl C X.env) fp) tg g)
    (pts : ∀ (s : Shared) (H : Hp) (C : Addr) (cl : List (PySem.Str × Addr)) (fp : List Addr), PTs (X.blk s H sc (compEnvC sc cl C X.env) fp) ifs tt)
    (pes : ∀ (s : Shared) (H : Hp) (C : Addr) (cl : List (PySem.Str × Addr)) (fp : List Addr), PE (X.blk s H sc (compEnvC sc cl C X.env) fp) el te)
    (hs : ∀ x, foldedSetIterable iter X.env x = pure x := by intro _; rfl) :
    PE X (.SetComp el [⟨tg, iter, ifs, 0⟩] sc pos) (tScT X.K X.prog X.w wi g tt te (ow.map (·.2))) := by
  constructor
  intro pins s σ H Q I h
  rw [eval_SetComp]
  refine scT_core hu hc hN I hi ok pgs pts pes hs h ?_
  intro D C s' m H' I' q hn f
  refine ⟨m, hn, ?_⟩
  intro h'' sb
  obtain ⟨f0, f1, _, f3, f4, f5⟩ := f
  exact ⟨.ref D, H', I'.turned (t' := s'.toks) (fun b o hb e => (sb.2 b hb).trans e) f0 f1 f3 f4 f5, rfl, q⟩
end
/-- the turns of such a comprehension over a list or a tuple that stands -/
theorem scT_seq {P : Program} {w : World} {K : PySem.W.Frag} {J : It} {xs : List V} {g : TG} {tt : TT} {te : TE} {vs : List Nat} {σ : L2.St} {H1 : Hp} {D : Addr} {Qd : Hp → Prop} (Pv : Nat → Hp → Prop)
    (h0 : Pv 0 (upd H1 D (SetTO P w D []))) (stops : ∀ H, Pv xs.length H → J.stop xs.length H) (goes : ∀ i H, i < xs.length → Pv i H → J.go i H)
    (yields : ∀ i H x H', i < xs.length → Pv i H → J.yld i H x H' → H' = H ∧ xs[i]? = some x)
    (hs : ∀ i x H, xs[i]? = some x → Pv i H → g x (wipe σ vs) H fun σ2 H2 => wipe σ2 vs = wipe σ vs ∧ tt σ2 H2 fun b H3 =>
      if b = true then te σ2 H3 fun y H4 => ∃ (t : Addr) (k : List Int) (L : List (Addr × List Int)), y = .ref t ∧ SqT K H4 t (k.map V.int) ∧
        H4 D = some (SetTO P w D L) ∧ (∀ p ∈ L, SqT K H4 p.1 (p.2.map V.int)) ∧ L.length + 1 < 64 ∧
        ∀ L', (k ∈ L.map (·.2) → L' = L) → (k ∉ L.map (·.2) → L'.Perm ((t, k) :: L)) → Pv (i + 1) (upd H4 D (SetTO P w D L'))
      else Pv (i + 1) H3) (hd : ∀ H, Pv xs.length H → Qd H) :
    ∃ W : Nat → Nat → Hp → Prop, (∃ m, W 0 m (upd H1 D (SetTO P w D []))) ∧
      ∀ i m H, W i m H → (J.stop i H ∧ Qd H) ∨
        (J.go i H ∧ ∃ Nx : Hp → Prop, (∀ H', Nx H' → ∃ m', m' < m ∧ W (i + 1) m' H') ∧
          ∀ x H', J.yld i H x H' → g x (wipe σ vs) H' fun σ2 H2 => wipe σ2 vs = wipe σ vs ∧ tt σ2 H2 fun b H3 =>
            if b = true then te σ2 H3 fun y H4 => ∃ (t : Addr) (k : List Int) (L : List (Addr × List Int)), y = .ref t ∧ SqT K H4 t (k.map V.int) ∧
              H4 D = some (SetTO P w D L) ∧ (∀ p ∈ L, SqT K H4 p.1 (p.2.map V.int)) ∧ L.length + 1 < 64 ∧
              ∀ L', (k ∈ L.map (·.2) → L' = L) → (k ∉ L.map (·.2) → L'.Perm ((t, k) :: L)) → Nx (upd H4 D (SetTO P w D L'))
            else Nx H3) := by
  refine ⟨fun i m H => m = xs.length - i ∧ i ≤ xs.length ∧ Pv i H, ⟨xs.length, by simp, Nat.zero_le _, h0⟩, ?_⟩
  rintro i m H ⟨rfl, hi, p⟩
  by_cases lt : i < xs.length
  · refine .inr ⟨goes i H lt p, Pv (i + 1), fun H' p' => ⟨xs.length - (i + 1), by omega, rfl, lt, p'⟩, ?_⟩
    intro x H' y
    obtain ⟨e, hx⟩ := yields i H x H' lt p y
    subst e
    exact hs i x _ hx p
  · obtain rfl : i = xs.length := by omega
    exact .inl ⟨stops H p, hd H p⟩
end Kg
namespace PySem.SeqAt
open PySem
theorem list_eq_no_dict (l b : Addr) (items : Array Value) (es : Array DictEntry) (n n2 : Nat) (dd dd2 : Option Addr) (sl sl2 : Array (Option Value)) :
    Meets (Builtin.«list.__eq__» ⟨[.ref l, .ref b], []⟩) (fun _ R s =>
      s.heap.get? l = some { cls := .type "list", dict := dd, data := .seq items n, slots := sl } ∧
      s.heap.get? b = some { cls := .type "dict", dict := dd2, data := .dict es n2, slots := sl2 } ∧ R (.ok (.ret .notImplemented)) s) := by
  refine .of_wp fun prog w A R s h => ?_
  obtain ⟨hp, g, d, tk, os⟩ := s
  obtain ⟨hl, hb, h⟩ := h
  have f1 := F.sub_dict_list
  wp_walk using wpAny_loadPart' hl, wpAny_loadPart' hb
  exact ⟨_, rfl, h⟩
section
variable {A : Around} {s : Shared}
/-- a dict is no list -/
theorem RcAt.dict_list {l b : Addr} {items : Array Value} {o : Obj} {es : Array DictEntry} {ep : Nat} (ho : s.heap.get? b = some o) (hx : o.ExactDict)
    (hd : o.data = .dict es ep) (hl : s.heap.IsList l items) (hu : A.units < cLine) : RcAt A s (.ref b) (.ref l) false := by
  intro prog w E Q h
  obtain ⟨⟨c1, d1, a1, s1⟩, h1, k1, n1, e1⟩ := id hl
  obtain ⟨c2, d2, a2, s2⟩ := o
  obtain ⟨k2, _⟩ := hx
  simp only at k1 e1 k2 hd
  subst k1 e1 k2 hd
  have ne : b ≠ l := by
    intro e
    rw [e, h1] at ho
    injection ho with e2
    injection e2 with e3
    injection e3 with e4
    exact absurd e4 (by decide)
  have tb : s.TypeIs (.ref b) "dict" := ⟨_, ho, rfl⟩
  refine rc_eq_decline_or (k := false) tb ⟨_, h1, rfl⟩ (by decide) F.sub_list_dict F.slot_dict_eq F.slot_list_eq_refl ?_ ?_ ?_ (.inr hu) h
  · intro Q' hq
    refine wpAny_call_entry F.slot_dict_eq tb F.entry_dict_eq ?_ (F.args_dict_eq_2 _ _)
    show wpAny _ _ (Builtin.Dict.dictSlotArgs "__eq__" ⟨[.ref b, .ref l], []⟩ >>= _) _ _ s
    refine wpAny_bind ?_
    unfold Builtin.Dict.dictSlotArgs
    refine wpAny_bind (wpAny_notOrdered_dict tb ?_)
    show wpAny _ _ (pure (Value.ref b, Value.ref l)) _ _ s
    refine wpAny_pure ?_
    refine wpAny_bind (wpAny_isInstance (T := "list") ⟨_, h1, rfl⟩ F.sub_list_dict ?_)
    simp only [Bool.not_false, if_true]
    first
      | exact wpAny_pure ⟨_, rfl, hq⟩
      | exact wpAny_bind (wpAny_rule (wpAny_pure ⟨_, rfl, hq⟩))
  · intro Q' hq
    exact call_meets F.slot_list_eq_refl ⟨_, h1, rfl⟩ F.entry_list_eq (F.args_list_eq_2 _ _) (list_eq_no_dict l b items es n1 ep d1 d2 s1 s2) ⟨h1, ho, hq⟩
  · intro Q' hq
    exact wpAny_isSame_ref_other' ne ho h1 (by simp) hq
end
end PySem.SeqAt
namespace Kg
open PySem PySem.Spec PyProof.Rows L2
open Evl (Ex)

theorem pi_or {X : Cx} {tg l : Expr} {t1 t2 : TI} (h1 : PI X tg l t1) (h2 : PI X tg l t2) : PI X tg l (fun σ H R => t1 σ H R ∨ t2 σ H R) := by
  constructor
  intro pins s σ H R I h
  exact h.elim (h1.run pins s σ H R I) (h2.run pins s σ H R I)

mutual
theorem Da.dp {K : PySem.W.Frag} {H : Hp} : ∀ (d : PyData) {v : V}, PyData.canLay0 d = true → Da K H v d → Dp K H v d
  | .none, _, _, .non => .non
  | .bool _, _, _, .bl b => .bl b
  | .int _, _, _, .int i => .int i
  | .str _, _, _, .str x => .str x
  | .list ds, _, h, .lst a b => .lst a (DaAll.dp ds (by simpa [PyData.canLay0] using h) b)
  | .tuple ds, _, h, .tup a b => .tup a (DaAll.dp ds (by simpa [PyData.canLay0] using h) b)
  | .dict _, _, h, _ => by simp [PyData.canLay0] at h
theorem DaAll.dp {K : PySem.W.Frag} {H : Hp} : ∀ (ds : List PyData) {vs : List V}, PyData.canLayAll0 ds = true → DaAll K H vs ds → DpAll K H vs ds
  | [], _, _, .nil => .nil
  | d :: ds, _, h, .cons a b => by
    have h2 : d.canLay0 = true ∧ PyData.canLayAll0 ds = true := by simpa [PyData.canLayAll0] using h
    exact .cons (Da.dp d h2.1 a) (DaAll.dp ds h2.2 b)
end
section
variable {X : Cx}
/-- a dict == a list -/
def rEqDL (K : PySem.W.Frag) : R2 := fun x y H Q => ∃ a b kvs ys, x = .ref a ∧ H a = some (.dK kvs) ∧ y = .ref b ∧ SqL K H b ys ∧ Q (.bl false) H
theorem op_eqDL (hu : X.A.units + 64 < cLine) : OpR X (compareOp .Eq) (rEqDL X.K) := by
  intro pins s σ H x y v u Q I rx ry h
  obtain ⟨a, b, kvs, ys, e1, ha, e2, hb, q⟩ := h
  subst e1
  subst e2
  cases (show v = Value.ref a from rx)
  cases (show u = Value.ref b from ry)
  obtain ⟨_, _, vs, _, o, es, ep, ho, hx, hd, _⟩ := I.hok a _ ha
  obtain ⟨its, _, pl, _⟩ := I.list hb
  exact PySem.SeqAt.RcAt.dict_list ho hx hd pl.isList (by omega) X.prog X.w X.xe _ ⟨.bl _, H, I, rfl, q⟩

/-- len of a new set of tuples -/
def rLenST (P : Program) (w : World) : List V → Hp → VK → Prop := fun xs H Q => ∃ a L, xs = [.ref a] ∧ H a = some (SetTO P w a L) ∧ Q (.int (L.length : Int)) H
theorem cr_lenST : CallR X (.builtin "len") (rLenST X.prog X.w) := by
  intro pins s σ H xs us Q I r h
  obtain ⟨a, L, e, ha, q⟩ := h
  subst e
  obtain ⟨u, e, rx⟩ := vals1 r
  subst e
  cases (show u = Value.ref a from rx)
  have R0 : SetT0 X.prog X.w s.heap a L := (I.hok a _ ha).1
  obtain ⟨es, ep, t, ⟨o, ho, hx, hd⟩, hr, tab, _, _, _, room, few⟩ := R0.ex
  have hl : es.size = L.length := by
    have := congrArg List.length hr
    simpa [rowsOf] using this
  have hp : t.place.size = L.length := by
    have := tab.sz
    rwa [List.length_map] at this
  have fits : t.fits es.size = true := by
    unfold SetTable.fits SetTable.fill
    rw [tab.dm]
    simp only [Bool.and_eq_true, beq_iff_eq, decide_eq_true_eq]
    refine ⟨by rw [hp, hl], ?_⟩
    show t.place.size + 0 ≤ t.mask
    omega
  exact call_len_set ho hx hd fits (by rw [hl]; omega) ⟨.int (L.length : Int), H, (I.tok _), ⟨_, by rw [hl]⟩, q⟩
end
section
variable {X : Cx}
/-- a list of anything against a list without items -/
def rEqNil (K : PySem.W.Frag) : R2 := fun x y H Q => ∃ a b xs, x = .ref a ∧ y = .ref b ∧ SqL K H a xs ∧ SqL K H b [] ∧ Q (.bl xs.isEmpty) H
def rNeNil (K : PySem.W.Frag) : R2 := fun x y H Q => ∃ a b xs, x = .ref a ∧ y = .ref b ∧ SqL K H a xs ∧ SqL K H b [] ∧ Q (.bl (!xs.isEmpty)) H
theorem op_eqNil (hu : X.A.units + 64 < cLine) : OpR X (compareOp .Eq) (rEqNil X.K) := by
  intro pins s σ H x y v u Q I rx ry h
  obtain ⟨a, b, xs, e1, e2, ha, hb, q⟩ := h
  subst e1
  subst e2
  cases (show v = Value.ref a from rx)
  cases (show u = Value.ref b from ry)
  obtain ⟨its, r1, pl, _⟩ := I.list ha
  obtain ⟨its2, r2, pl2, _⟩ := I.list hb
  cases r2
  have room : X.A.units < cLine := by omega
  cases r1 with
  | nil =>
    refine SeqAt.RcAt.lists (e := fun _ => true) pl.isList pl2.isList rfl room ?_ X.prog X.w X.xe _ ⟨.bl _, H, I, rfl, q⟩
    intro j h1
    exact absurd h1 (by simp)
  | cons _ _ =>
    exact SeqAt.RcAt.lists_lengths pl.isList pl2.isList (by simp) room X.prog X.w X.xe _ ⟨.bl _, H, I, rfl, q⟩
theorem op_neNil (hu : X.A.units + 64 < cLine) : OpR X (compareOp .NotEq) (rNeNil X.K) := by
  intro pins s σ H x y v u Q I rx ry h
  obtain ⟨a, b, xs, e1, e2, ha, hb, q⟩ := h
  subst e1
  subst e2
  cases (show v = Value.ref a from rx)
  cases (show u = Value.ref b from ry)
  obtain ⟨its, r1, pl, _⟩ := I.list ha
  obtain ⟨its2, r2, pl2, _⟩ := I.list hb
  cases r2
  have room : X.A.units < cLine := by omega
  cases r1 with
  | nil =>
    refine SeqAt.RcNeAt.lists (e := fun _ => true) pl.isList pl2.isList rfl room ?_ X.prog X.w X.xe _ ⟨.bl _, H, I, rfl, q⟩
    intro j h1
    exact absurd h1 (by simp)
  | cons _ _ =>
    exact SeqAt.RcNeAt.lists_lengths pl.isList pl2.isList (by simp) room X.prog X.w X.xe _ ⟨.bl _, H, I, rfl, q⟩
end
/-- a list comprehension over anything of n turns -/
theorem lc_gen {J : It} (n : Nat) {g : TG} {tt : TT} {te : TE} {vs : List Nat} {σ : L2.St} {H1 : Hp} {D : Addr} {Qd : Hp → Prop} (Pv : Nat → Hp → Prop)
    (h0 : Pv 0 (upd H1 D (.lst []))) (stops : ∀ H, Pv n H → J.stop n H) (goes : ∀ i H, i < n → Pv i H → J.go i H)
    (hs : ∀ i x H H', i < n → Pv i H → J.yld i H x H' → g x (wipe σ vs) H' fun σ2 H2 => wipe σ2 vs = wipe σ vs ∧ tt σ2 H2 fun b H3 =>
      if b = true then te σ2 H3 fun y H4 => ∃ acc, H4 D = some (.lst acc) ∧ acc.length < sizeLine ∧ Pv (i + 1) (upd H4 D (.lst (acc ++ [y]))) else Pv (i + 1) H3)
    (hd : ∀ H, Pv n H → Qd H) :
    ∃ W : Nat → Nat → Hp → Prop, (∃ m, W 0 m (upd H1 D (.lst []))) ∧
      ∀ i m H, W i m H → (J.stop i H ∧ Qd H) ∨
        (J.go i H ∧ ∃ Nx : Hp → Prop, (∀ H', Nx H' → ∃ m', m' < m ∧ W (i + 1) m' H') ∧
          ∀ x H', J.yld i H x H' → g x (wipe σ vs) H' fun σ2 H2 => wipe σ2 vs = wipe σ vs ∧ tt σ2 H2 fun b H3 =>
            if b = true then te σ2 H3 fun y H4 => ∃ acc, H4 D = some (.lst acc) ∧ acc.length < sizeLine ∧ Nx (upd H4 D (.lst (acc ++ [y]))) else Nx H3) := by
  refine ⟨fun i m H => m = n - i ∧ i ≤ n ∧ Pv i H, ⟨n, by simp, Nat.zero_le _, h0⟩, ?_⟩
  rintro i m H ⟨rfl, hi, p⟩
  by_cases lt : i < n
  · refine .inr ⟨goes i H lt p, Pv (i + 1), fun H' p' => ⟨n - (i + 1), by omega, rfl, lt, p'⟩, ?_⟩
    intro x H' y
    exact hs i x H H' lt p y
  · obtain rfl : i = n := by omega
    exact .inl ⟨stops H p, hd H p⟩
/-- xs[:n] -/
theorem cut_to (xs : List V) (n : Nat) : cutV xs none (some (n : Int)) = xs.take n := by
  unfold cutV HT.sIx
  simp only []
  have h : ¬ (n : Int) < 0 := by omega
  simp [h]
theorem ifB {c : Bool} {A B : Prop} (h1 : c = true → A) (h2 : c = false → B) : if c = true then A else B := by
  cases c with
  | true => rw [if_pos rfl]; exact h1 rfl
  | false => rw [if_neg Bool.false_ne_true]; exact h2 rfl
theorem ifT {c : Bool} {A B : Prop} (h : c = true) (h1 : A) : if c = true then A else B := by rw [if_pos h]; exact h1
theorem ifF {c : Bool} {A B : Prop} (h : c = false) (h1 : B) : if c = true then A else B := by
  rw [h, if_neg Bool.false_ne_true]; exact h1
/-- the greatest number that a draw makes -/
theorem mix_bound {a b c u v : Int} (h1 : 0 ≤ a) (h2 : a < 2 ^ 32) (h3 : 0 ≤ b) (h4 : b < 2 ^ 24) (h5 : 0 ≤ c) (h6 : c < 2 ^ 20) (h7 : 0 ≤ u) (h8 : u < 2 ^ 20) (h9 : 0 ≤ v) (h10 : v < 2 ^ 20) :
    (a * b + u * c * c + v).natAbs < 2 ^ 64 := by
  have e1 : a * b ≤ 2 ^ 32 * 2 ^ 24 := Int.mul_le_mul (by omega) (by omega) h3 (by decide)
  have e2 : 0 ≤ a * b := Int.mul_nonneg h1 h3
  have e3 : u * c ≤ 2 ^ 20 * 2 ^ 20 := Int.mul_le_mul (by omega) (by omega) h5 (by decide)
  have e4 : 0 ≤ u * c := Int.mul_nonneg h7 h5
  have e5 : u * c * c ≤ 2 ^ 40 * 2 ^ 20 := Int.mul_le_mul (by omega) (by omega) h5 (by decide)
  have e6 : 0 ≤ u * c * c := Int.mul_nonneg e4 h5
  omega
end Kg
/-! Kg6: what is a number, a square, a list of unlike squares, over data. -/
namespace Kg
open PySem PySem.Spec PyProof.Rows L2
open Evl (Ex)
def isI : PyData → Bool
  | .int _ => true
  | _ => false
def isIB : PyData → Bool
  | .int _ => true
  | .bool _ => true
  | _ => false
def isBo : PyData → Bool
  | .bool _ => true
  | _ => false
def isLi : PyData → Bool
  | .list _ => true
  | _ => false
def isTu : PyData → Bool
  | .tuple _ => true
  | _ => false
def seqOf : PyData → Option (List PyData)
  | .list ds => some ds
  | .tuple ds => some ds
  | _ => none
def intOf : PyData → Option Int
  | .int i => some i
  | _ => none
def sqOf (d : PyData) : Option (Int × Int) := match seqOf d with
  | some [a, b] => match intOf a, intOf b with
    | some x, some y => some (x, y)
    | _, _ => none
  | _ => none
def isSq (d : PyData) : Bool := (sqOf d).isSome
def areSq (d : PyData) : Bool := match seqOf d with
  | some ds => ds.all isSq && decide ((ds.map sqOf).Nodup)
  | none => false
theorem isI_of (d : PyData) : isI d = (isIB d && !isBo d) := by cases d <;> rfl
theorem isI_intOf (d : PyData) : isI d = (intOf d).isSome := by cases d <;> rfl
theorem kit_int : ∀ d : PyData, kitB (tyD d) "int" = some (isIB d)
  | .none => (by decide +kernel : kitB "NoneType" "int" = some false)
  | .bool _ => (by decide +kernel : kitB "bool" "int" = some true)
  | .int _ => (by decide +kernel : kitB "int" "int" = some true)
  | .str _ => (by decide +kernel : kitB "str" "int" = some false)
  | .list _ => (by decide +kernel : kitB "list" "int" = some false)
  | .tuple _ => (by decide +kernel : kitB "tuple" "int" = some false)
  | .dict _ => (by decide +kernel : kitB "dict" "int" = some false)
theorem kit_bool : ∀ d : PyData, kitB (tyD d) "bool" = some (isBo d)
  | .none => (by decide +kernel : kitB "NoneType" "bool" = some false)
  | .bool _ => (by decide +kernel : kitB "bool" "bool" = some true)
  | .int _ => (by decide +kernel : kitB "int" "bool" = some false)
  | .str _ => (by decide +kernel : kitB "str" "bool" = some false)
  | .list _ => (by decide +kernel : kitB "list" "bool" = some false)
  | .tuple _ => (by decide +kernel : kitB "tuple" "bool" = some false)
  | .dict _ => (by decide +kernel : kitB "dict" "bool" = some false)
theorem kit_list : ∀ d : PyData, kitB (tyD d) "list" = some (isLi d)
  | .none => (by decide +kernel : kitB "NoneType" "list" = some false)
  | .bool _ => (by decide +kernel : kitB "bool" "list" = some false)
  | .int _ => (by decide +kernel : kitB "int" "list" = some false)
  | .str _ => (by decide +kernel : kitB "str" "list" = some false)
  | .list _ => (by decide +kernel : kitB "list" "list" = some true)
  | .tuple _ => (by decide +kernel : kitB "tuple" "list" = some false)
  | .dict _ => (by decide +kernel : kitB "dict" "list" = some false)
theorem kit_tuple : ∀ d : PyData, kitB (tyD d) "tuple" = some (isTu d)
  | .none => (by decide +kernel : kitB "NoneType" "tuple" = some false)
  | .bool _ => (by decide +kernel : kitB "bool" "tuple" = some false)
  | .int _ => (by decide +kernel : kitB "int" "tuple" = some false)
  | .str _ => (by decide +kernel : kitB "str" "tuple" = some false)
  | .list _ => (by decide +kernel : kitB "list" "tuple" = some false)
  | .tuple _ => (by decide +kernel : kitB "tuple" "tuple" = some true)
  | .dict _ => (by decide +kernel : kitB "dict" "tuple" = some false)
theorem q_bl {Q : VK} {a b : Bool} {H : Hp} (e : a = b) (q : Q (.bl b) H) : Q (.bl a) H := e ▸ q
theorem isi_at {K : PySem.W.Frag} {H : Hp} {v : V} {d : PyData} {T : String} {b : Bool} {Q : VK} (h : Da K H v d) (e : kitB (tyD d) T = some b) (q : Q (.bl b) H) : rIsi K [v, .ty T] H Q :=
  ⟨v, .ty T, _, _, b, rfl, .ty T, tyX_of h, kit_ty e, q⟩
theorem kit_seq {K : PySem.W.Frag} (d : PyData) : PySem.W.kitAny K (.type (tyD d)) [.type "list", .type "tuple"] = some (seqOf d).isSome := by
  refine kitAny_cons (kit_ty (kit_list d)) (fun h => kitAny_cons (kit_ty (kit_tuple d)) (fun h2 => ?_) (fun h2 => ?_)) (fun h => ?_)
  · rw [kitAny_nil]
    cases d <;> simp_all [seqOf, isLi, isTu]
  · cases d <;> simp_all [seqOf, isLi, isTu]
  · cases d <;> simp_all [seqOf, isLi, isTu]
theorem isiT_at {K : PySem.W.Frag} {H : Hp} {v : V} {d : PyData} {tp : Addr} {Q : VK} (h : Da K H v d) (ht : H tp = some (.tup [.ty "list", .ty "tuple"]))
    (q : Q (.bl (seqOf d).isSome) H) : rIsiT K [v, .ref tp] H Q :=
  ⟨v, tp, _, _, _, _, rfl, ht, .cons (.ty _) (.cons (.ty _) .nil), tyX_of h, kit_seq d, q⟩
/-- a list or a tuple: where it stands, its items -/
theorem seq_at {K : PySem.W.Frag} {H : Hp} {v : V} {d : PyData} {ds : List PyData} (h : Da K H v d) (e : seqOf d = some ds) :
    ∃ (a : Addr) (xs : List V), v = .ref a ∧ (SqL K H a xs ∨ SqT K H a xs) ∧ DaAll K H xs ds := by
  cases h with
  | lst h1 h2 => cases e; exact ⟨_, _, rfl, .inl h1, h2⟩
  | tup h1 h2 => cases e; exact ⟨_, _, rfl, .inr h1, h2⟩
  | _ => cases e
/-- a promise: a truth about one thing's data -/
def spB (K : PySem.W.Frag) (f : PyData → Bool) : Sp := fun vs H Q _ => ∃ v d, vs = [v] ∧ Da K H v d ∧ ∀ H', Ex H H' → Q (.bl (f d)) H'
theorem seq_ex {K : PySem.W.Frag} {H H' : Hp} {a : Addr} {xs : List V} (e : Ex H H') (h : SqL K H a xs ∨ SqT K H a xs) : SqL K H' a xs ∨ SqT K H' a xs :=
  h.imp (Evl.ex_l e) (Evl.ex_t e)
/-- an item of a list or a tuple -/
theorem ix_of {K : PySem.W.Frag} {H : Hp} {a : Addr} {xs : List V} {i : Int} {v : V} {Q : VK} (h : SqL K H a xs ∨ SqT K H a xs) (hi : atI xs i = some v) (q : Q v H) : rIx K (.ref a) (.int i) H Q :=
  h.elim (fun h => .inl ⟨_, _, _, _, rfl, rfl, h, hi, q⟩) (fun h => .inr (.inl ⟨_, _, _, _, rfl, rfl, h, hi, q⟩))
theorem sq_two {d a b : PyData} (e : seqOf d = some [a, b]) : isSq d = (isI a && isI b) := by
  unfold isSq sqOf
  rw [e]
  cases a <;> cases b <;> rfl
theorem sq_not {d : PyData} {ds : List PyData} (e : seqOf d = some ds) (h : ds.length ≠ 2) : isSq d = false := by
  unfold isSq sqOf
  rw [e]
  match ds, h with
  | [], _ => rfl
  | [_], _ => rfl
  | [_, _], h => exact absurd rfl h
  | _ :: _ :: _ :: _, _ => rfl
theorem sq_no {d : PyData} (e : seqOf d = none) : isSq d = false := by
  unfold isSq sqOf
  rw [e]
  rfl
theorem da_two {K : PySem.W.Frag} {H : Hp} {xs : List V} {ds : List PyData} (h : DaAll K H xs ds) (hl : xs.length = 2) : ∃ x y a b, xs = [x, y] ∧ ds = [a, b] ∧ Da K H x a ∧ Da K H y b := by
  match xs, ds, h, hl with
  | [x, y], [a, b], .cons h1 (.cons h2 .nil), _ => exact ⟨x, y, a, b, rfl, rfl, h1, h2⟩
end Kg
/-! Kg7: lists without repetition; what a set of squares holds. -/
namespace Kg
open PySem PySem.Spec PyProof.Rows L2
open Evl (Ex)
theorem len_of_sub {α : Type} [DecidableEq α] : ∀ (M N : List α), M.Nodup → (∀ x ∈ M, x ∈ N) → M.length ≤ N.length
  | [], _, _, _ => Nat.zero_le _
  | x :: M, N, hd, hs => by
    have hx : x ∈ N := hs x List.mem_cons_self
    have hd' := List.nodup_cons.mp hd
    have ih := len_of_sub M (N.erase x) hd'.2 fun y hy =>
      (List.mem_erase_of_ne (show y ≠ x from fun e => hd'.1 (by rw [← e]; exact hy))).mpr (hs y (List.mem_cons_of_mem _ hy))
    rw [List.length_erase_of_mem hx] at ih
    have : 0 < N.length := List.length_pos_of_mem hx
    simp only [List.length_cons]
    omega
theorem dup_of {α : Type} [DecidableEq α] : ∀ (N : List α), ¬ N.Nodup → ∃ x, x ∈ N ∧ ∀ y ∈ N, y ∈ N.erase x
  | [], h => absurd List.nodup_nil h
  | a :: N, h => by
    by_cases ha : a ∈ N
    · refine ⟨a, List.mem_cons_self, ?_⟩
      intro y hy
      rw [List.erase_cons_head]
      rcases List.mem_cons.mp hy with e | hy
      · exact e ▸ ha
      · exact hy
    · have hN : ¬ N.Nodup := fun q => h (List.nodup_cons.mpr ⟨ha, q⟩)
      obtain ⟨x, hx, hall⟩ := dup_of N hN
      refine ⟨x, List.mem_cons_of_mem _ hx, ?_⟩
      have ne : ¬ (a == x) = true := by
        intro e
        exact ha (by rw [beq_iff_eq.mp e]; exact hx)
      intro y hy
      rw [List.erase_cons, if_neg ne]
      rcases List.mem_cons.mp hy with e | hy
      · rw [e]; exact List.mem_cons_self
      · exact List.mem_cons_of_mem _ (hall y hy)
/-- as many unlike ones as there are: all are unlike -/
theorem len_iff_nodup {α : Type} [DecidableEq α] {M N : List α} (hd : M.Nodup) (h : ∀ x, x ∈ M ↔ x ∈ N) : M.length = N.length ↔ N.Nodup := by
  constructor
  · intro e
    rcases Classical.em N.Nodup with q | hN
    · exact q
    · obtain ⟨x, hx, hall⟩ := dup_of N hN
      have := len_of_sub M (N.erase x) hd fun y hy => hall y ((h y).mp hy)
      rw [List.length_erase_of_mem hx] at this
      have : 0 < N.length := List.length_pos_of_mem hx
      omega
  · intro hN
    have a := len_of_sub M N hd fun x => (h x).mp
    have b := len_of_sub N M hN fun x => (h x).mpr
    omega
/-- a square's two numbers -/
def keyOf (d : PyData) : List Int := match sqOf d with
  | some (x, y) => [x, y]
  | none => []
theorem keys_nodup {ds : List PyData} (h : ds.all isSq = true) : (ds.map keyOf).Nodup ↔ (ds.map sqOf).Nodup := by
  have inj : ∀ a ∈ ds, ∀ b ∈ ds, keyOf a = keyOf b ↔ sqOf a = sqOf b := by
    intro a ha b hb
    have h1 : isSq a = true := List.all_eq_true.mp h a ha
    have h2 : isSq b = true := List.all_eq_true.mp h b hb
    unfold keyOf
    unfold isSq at h1 h2
    match e1 : sqOf a, e2 : sqOf b with
    | some (x, y), some (z, u) => simp
    | none, _ => rw [e1] at h1; cases h1
    | some _, none => rw [e2] at h2; cases h2
  clear h
  induction ds with
  | nil => simp
  | cons d ds ih =>
    simp only [List.map_cons, List.nodup_cons, List.mem_map, not_exists, not_and]
    have ih' := ih fun a ha b hb => inj a (List.mem_cons_of_mem _ ha) b (List.mem_cons_of_mem _ hb)
    constructor
    · rintro ⟨a, b⟩
      exact ⟨fun x hx e => a x hx ((inj x (List.mem_cons_of_mem _ hx) d List.mem_cons_self).mpr e), ih'.mp b⟩
    · rintro ⟨a, b⟩
      exact ⟨fun x hx e => a x hx ((inj x (List.mem_cons_of_mem _ hx) d List.mem_cons_self).mp e), ih'.mpr b⟩
/-- a square as data: a list or a tuple of its two numbers -/
theorem sq_at {K : PySem.W.Frag} {H : Hp} {v : V} {d : PyData} (h : Da K H v d) (e : isSq d = true) :
    ∃ (a : Addr) (x y : Int), v = .ref a ∧ sqOf d = some (x, y) ∧ (SqL K H a [.int x, .int y] ∨ SqT K H a [.int x, .int y]) := by
  match hs : seqOf d with
  | none => rw [sq_no hs] at e; cases e
  | some ds =>
    by_cases hl : ds.length = 2
    · obtain ⟨a, xs, ev, hq, ha⟩ := seq_at h hs
      obtain ⟨x, y, da, db, e1, e2, h1, h2⟩ := da_two ha (ha.len.trans hl)
      subst e1 e2
      rw [sq_two hs] at e
      obtain ⟨i1, i2⟩ := Bool.and_eq_true_iff.mp e
      cases h1 <;> first | cases i1 | skip
      cases h2 <;> first | cases i2 | skip
      exact ⟨a, _, _, ev, by unfold sqOf; rw [hs]; rfl, hq⟩
    · rw [sq_not hs hl] at e; cases e
/-- what a set of squares holds behind i items -/
structure Held (K : PySem.W.Frag) (P : Program) (w : World) (D : Addr) (H1 : Hp) (ds : List PyData) (i : Nat) (H : Hp) : Prop where
  ex : Ex H1 H
  it : ∃ L : List (Addr × List Int), H D = some (SetTO P w D L) ∧ (∀ p ∈ L, SqT K H p.1 (p.2.map V.int)) ∧
    (∀ k, k ∈ L.map (·.2) ↔ k ∈ (ds.take i).map keyOf) ∧ (L.map (·.2)).Nodup ∧ L.length ≤ i
theorem take_one {α : Type} {l : List α} {i : Nat} {x : α} (h : l[i]? = some x) : l.take (i + 1) = l.take i ++ [x] := by
  rw [List.take_add_one, h]; rfl
theorem Held.turn {K : PySem.W.Frag} {P : Program} {w : World} {D t : Addr} {H1 H2 : Hp} {ds : List PyData} {i : Nat} {d : PyData} {L L' : List (Addr × List Int)}
    (ex : Ex H1 H2) (h0 : H1 D = none) (hd : ds[i]? = some d) (hD : H2 D = some (SetTO P w D L)) (hL : ∀ p ∈ L, SqT K H2 p.1 (p.2.map V.int)) (ht : SqT K H2 t ((keyOf d).map V.int))
    (hk : ∀ k, k ∈ L.map (·.2) ↔ k ∈ (ds.take i).map keyOf) (nd : (L.map (·.2)).Nodup) (hl : L.length ≤ i)
    (c1 : keyOf d ∈ L.map (·.2) → L' = L) (c2 : keyOf d ∉ L.map (·.2) → L'.Perm ((t, keyOf d) :: L)) : Held K P w D H1 ds (i + 1) (upd H2 D (SetTO P w D L')) := by
  have keep : ∀ p xs, SqT K H2 p xs → SqT K (upd H2 D (SetTO P w D L')) p xs := by
    intro p xs h
    rcases h with (h | ⟨o, h⟩) | h
    · refine .inl (.inl ((upd_ne ?_).trans h))
      intro e; rw [e, hD] at h; cases h
    · refine .inl (.inr ⟨o, (upd_ne ?_).trans h⟩)
      intro e; rw [e, hD] at h; cases h
    · exact .inr h
  refine ⟨Evl.Ex.mut ex h0, L', upd_same, ?_, ?_, ?_, ?_⟩
  · intro p hp
    refine keep _ _ ?_
    by_cases c : keyOf d ∈ L.map (·.2)
    · rw [c1 c] at hp; exact hL p hp
    · rcases List.mem_cons.mp ((c2 c).mem_iff.mp hp) with e | hp
      · rw [e]; exact ht
      · exact hL p hp
  · intro k
    rw [take_one hd, List.map_append, List.mem_append]
    by_cases c : keyOf d ∈ L.map (·.2)
    · rw [c1 c, hk]
      constructor
      · exact .inl
      · rintro (h | h)
        · exact h
        · rw [List.map_cons, List.map_nil, List.mem_singleton] at h
          rw [h]; exact (hk _).mp c
    · have pm := (c2 c).map (·.2)
      rw [pm.mem_iff, List.map_cons, List.mem_cons, hk]
      simp only [List.map_cons, List.map_nil, List.mem_singleton]
      exact Or.comm
  · by_cases c : keyOf d ∈ L.map (·.2)
    · rw [c1 c]; exact nd
    · have pm := (c2 c).map (·.2)
      rw [pm.nodup_iff, List.map_cons]
      exact List.nodup_cons.mpr ⟨c, nd⟩
  · by_cases c : keyOf d ∈ L.map (·.2)
    · rw [c1 c]; omega
    · rw [(c2 c).length_eq, List.length_cons]; omega
/-- the pairs of a list of squares -/
def prs (ds : List PyData) : List (Int × Int) := ds.filterMap sqOf
theorem prs_some {ds : List PyData} (h : ds.all isSq = true) : ds.map sqOf = (prs ds).map some := by
  induction ds with
  | nil => rfl
  | cons d ds ih =>
    simp only [List.all_cons, Bool.and_eq_true] at h
    obtain ⟨h1, h2⟩ := h
    unfold isSq at h1
    obtain ⟨z, hz⟩ := Option.isSome_iff_exists.mp h1
    unfold prs
    rw [List.filterMap_cons_some hz, List.map_cons, List.map_cons, hz, ih h2]
    rfl
theorem prs_len {ds : List PyData} (h : ds.all isSq = true) : (prs ds).length = ds.length := by
  have := congrArg List.length (prs_some h)
  simpa using this.symm
theorem prs_at {ds : List PyData} (h : ds.all isSq = true) {i : Nat} {d : PyData} (hd : ds[i]? = some d) : ∃ z, (prs ds)[i]? = some z ∧ sqOf d = some z := by
  have e := congrArg (·[i]?) (prs_some h)
  simp only [List.getElem?_map, hd, Option.map_some] at e
  cases q : (prs ds)[i]? with
  | none => rw [q] at e; cases e
  | some z => rw [q] at e; exact ⟨z, rfl, Option.some.inj e⟩
theorem nodup_some {α : Type} (zs : List α) : (zs.map some).Nodup ↔ zs.Nodup := by
  induction zs with
  | nil => simp
  | cons z zs ih =>
    simp only [List.map_cons, List.nodup_cons, List.mem_map, not_exists, not_and]
    constructor
    · rintro ⟨a, b⟩
      exact ⟨fun hz => a z hz rfl, ih.mp b⟩
    · rintro ⟨a, b⟩
      exact ⟨fun x hx e => a (Option.some.inj e ▸ hx), ih.mpr b⟩
def pairL (z : Int × Int) : PyData := .list [.int z.1, .int z.2]
theorem pairL_shaped (z : Int × Int) : SeqAt.shaped (pairL z) = true := by
  simp [pairL, SeqAt.shaped, PyData.canLay0, PyData.canLayAll0, PyData.depth, PyData.depthAll]
theorem pairLs_lay : ∀ zs : List (Int × Int), PyData.canLayAll0 (zs.map pairL) = true
  | [] => by simp [PyData.canLayAll0]
  | z :: zs => by simp [PyData.canLayAll0, pairLs_lay zs, pairL, PyData.canLay0]
theorem pairLs_depth : ∀ zs : List (Int × Int), PyData.depthAll (zs.map pairL) ≤ 1
  | [] => by simp [PyData.depthAll]
  | z :: zs => by
    have := pairLs_depth zs
    simp only [List.map_cons, PyData.depthAll, pairL, PyData.depth]
    omega
theorem pairLs_shaped (zs : List (Int × Int)) : SeqAt.shaped (.list (zs.map pairL)) = true := by
  have := pairLs_depth zs
  unfold SeqAt.shaped
  rw [PyData.canLay0, pairLs_lay, Bool.true_and, PyData.depth]
  exact decide_eq_true (by omega)
theorem pairL_eqv (z u : Int × Int) : PyData.eqv (pairL z) (pairL u) = decide (z = u) := by
  obtain ⟨a, b⟩ := z
  obtain ⟨c, d⟩ := u
  simp only [pairL, PyData.eqv, PyData.eqvAll, Bool.and_true]
  by_cases h1 : a = c <;> by_cases h2 : b = d <;> simp [h1, h2]
theorem pairLs_any (zs : List (Int × Int)) (u : Int × Int) : ((zs.map pairL).any fun z => PyData.eqv z (pairL u)) = decide (u ∈ zs) := by
  induction zs with
  | nil => simp
  | cons z zs ih =>
    rw [List.map_cons, List.any_cons, ih, pairL_eqv]
    by_cases h : z = u
    · simp [h]
    · have h2 : ¬ u = z := fun e => h e.symm
      simp [h, h2]
theorem nodup_next {α : Type} [DecidableEq α] {zs : List α} {i : Nat} {z : α} (h : zs[i]? = some z) : (zs.take (i + 1)).Nodup ↔ (zs.take i).Nodup ∧ z ∉ zs.take i := by
  rw [take_one h, List.nodup_append]
  constructor
  · rintro ⟨a, _, c⟩
    exact ⟨a, fun hz => c z hz z (List.mem_singleton.mpr rfl) rfl⟩
  · rintro ⟨a, b⟩
    exact ⟨a, by simp, fun x hx y hy e => b (by rw [List.mem_singleton] at hy; rw [← hy, ← e]; exact hx)⟩
/-- rows of two numbers, at their places -/
structure Rows2 (H : Hp) (rs : List Addr) (zs : List (Int × Int)) : Prop where
  len : rs.length = zs.length
  row : ∀ (j : Nat) (r : Addr) (z : Int × Int), rs[j]? = some r → zs[j]? = some z → H r = some (.lst [.int z.1, .int z.2])
theorem Rows2.mono {H H' : Hp} {rs : List Addr} {zs : List (Int × Int)} (e : Ex H H') (h : Rows2 H rs zs) : Rows2 H' rs zs := ⟨h.len, fun j r z a b => e _ _ (h.row j r z a b)⟩
theorem Rows2.dp {K : PySem.W.Frag} {H : Hp} : ∀ {rs : List Addr} {zs : List (Int × Int)}, Rows2 H rs zs → DpAll K H (rs.map V.ref) (zs.map pairL)
  | [], [], _ => .nil
  | [], _ :: _, h => absurd h.len (by simp)
  | _ :: _, [], h => absurd h.len (by simp)
  | r :: rs, z :: zs, h => .cons (.lst (SqL.of (h.row 0 r z rfl rfl)) (.cons (.int _) (.cons (.int _) .nil)))
      (Rows2.dp ⟨by simpa using h.len, fun j r' z' a b => h.row (j + 1) r' z' (by simpa using a) (by simpa using b)⟩)
theorem Rows2.take {H : Hp} {rs : List Addr} {zs : List (Int × Int)} (h : Rows2 H rs zs) (i : Nat) : Rows2 H (rs.take i) (zs.take i) := by
  refine ⟨by simp [h.len], ?_⟩
  intro j r z a b
  by_cases hj : j < i
  · rw [List.getElem?_take_of_lt hj] at a b
    exact h.row j r z a b
  · rw [List.getElem?_take_eq_none (by omega)] at a
    cases a
/-- data that is shown in a short text -/
structure Fit (n : Nat) (d : PyData) : Prop where
  sh : d.showable = true
  lv : d.leavesShort 70 = true
  wt : d.weight ≤ n
  dp : d.depth ≤ 3
theorem Fit.mono {n m : Nat} {d : PyData} (h : Fit n d) (l : n ≤ m) : Fit m d := ⟨h.sh, h.lv, Nat.le_trans h.wt l, h.dp⟩
theorem log_le {n : Nat} (h : n ≤ 2 * 10 ^ 60) : n.log2 ≤ 201 := by
  rcases Nat.eq_zero_or_pos n with e | hp
  · subst e; decide
  · have h1 : n < 2 ^ 202 := Nat.lt_of_le_of_lt h (by decide)
    have := (Nat.log2_lt (by omega)).mpr h1
    omega
theorem fit_int {i : Int} (h : i.natAbs ≤ 2 * 10 ^ 60) : Fit 202 (.int i) where
  sh := by
    have := log_le h
    simp [PyData.showable]
    omega
  lv := by
    have h1 : i.natAbs < 10 ^ 61 := Nat.lt_of_le_of_lt h (by decide)
    have e := int_text_length_le10 (k := 61) (by decide) h1
    simp only [PyData.leavesShort, decide_eq_true_eq]
    show (Str.ofString (toString i)).length ≤ 70
    rw [PySem.ofString_length]
    omega
  wt := by
    have := log_le h
    simp only [PyData.weight]
    split <;> omega
  dp := by simp [PyData.depth]
theorem fit_seq {n : Nat} {ds : List PyData} (m : Nat) (hl : ds.length ≤ m) (h : ∀ d ∈ ds, Fit n d ∧ d.depth ≤ 2) : Fit (m * (n + 1)) (.list ds) ∧ Fit (m * (n + 1)) (.tuple ds) := by
  have a1 : PyData.showableAll ds = true := PySem.Spec.showableAll_of fun d hd => (h d hd).1.sh
  have a2 : ∀ ds : List PyData, (∀ d ∈ ds, Fit n d ∧ d.depth ≤ 2) → PyData.leavesShortAll 70 ds = true ∧ PyData.weightAll ds ≤ ds.length * (n + 1) ∧ PyData.depthAll ds ≤ 2 := by
    intro ds
    induction ds with
    | nil => intro _; simp [PyData.leavesShortAll, PyData.weightAll, PyData.depthAll]
    | cons d ds ih =>
      intro h
      obtain ⟨b1, b2, b3⟩ := ih fun x hx => h x (List.mem_cons_of_mem _ hx)
      obtain ⟨c, c2⟩ := h d List.mem_cons_self
      have := c.wt
      refine ⟨by simp [PyData.leavesShortAll, c.lv, b1], ?_, ?_⟩
      · simp only [PyData.weightAll, List.length_cons, Nat.succ_mul]
        omega
      · simp only [PyData.depthAll]
        omega
  obtain ⟨b1, b2, b3⟩ := a2 ds h
  have b4 : ds.length * (n + 1) ≤ m * (n + 1) := Nat.mul_le_mul_right _ hl
  refine ⟨⟨by simpa [PyData.showable] using a1, by simpa [PyData.leavesShort] using b1, ?_, ?_⟩, ⟨by simpa [PyData.showable] using a1, by simpa [PyData.leavesShort] using b1, ?_, ?_⟩⟩
  · simp only [PyData.weight]; omega
  · simp only [PyData.depth]; omega
  · simp only [PyData.weight]; omega
  · simp only [PyData.depth]; omega
theorem Fit.line {n : Nat} {d : PyData} (h : Fit n d) (hn : n ≤ 200000) : d.shown.length ≤ sizeLine := by
  have := PyData.shown_le 70 (by decide) d h.lv
  have := h.wt
  rw [sizeLine_eq]
  omega
end Kg
/-! Kg3: the end of a law's row: the law's def, called where no guard runs, the modules' dict known. -/
namespace Kg
open PySem PySem.Spec PyProof.Rows L2

/-- what is tracked at the entry: the script and the modules' dict, both known, neither to be written -/
def Only2 (H : Hp) : Prop := ∀ b u, H b = some u → ∃ o u', u = .frz o u'
/-- what the top's callers know of their place -/
structure Entry (K : PySem.W.Frag) (H : Hp) (a : Addr) (ns : List Int) : Prop where
  only : Only2 H
  sys : Sys H
  script : SqL K H a (ns.map V.int)
  ne : a ≠ sysModules

section
variable {P : Program} {w : World} {K : PySem.W.Frag} {mg mb : Str → Option Value} {k : Nat} {fa a : Addr} {fd : FuncData} {x : Str} {sp : Sp} {s₁ : Shared} {vs : List Value} {ns : List Int}
/-- from an abstract heap in which known things alone are tracked -/
theorem call_from (KX : K.In s₁.heap) (hns : s₁.heap.Ns mainGlobals mg) (hb : s₁.heap.Ns builtinsNs mb)
    (hbb : ∀ x : Str, x ≠ "__name__" → mb x = bootBuiltins x) (hlim : s₁.heap.NoLimit) (hg : s₁.gens = #[]) (hr : Room k callerA)
    (F : ∀ base : Heap, K.In base → base.Ns mainGlobals mg → FnG P w K mg base CX0 k fa fd [x] sp)
    (hbind : ∀ (s : Shared) (u : Value), BindsTo s fd ⟨[u], []⟩ [(x, u)])
    (H : Hp) (hO : Only2 H) (hok : HOk P w H s₁.heap) (offK : ∀ b, H b ≠ none → K.lookup b = none)
    (offN : H mainGlobals = none ∧ H builtinsNs = none ∧ H cStatics = none)
    (hsp : sp [.ref a] H (fun v _ => v = .bl true) fun _ _ _ => False) :
    codeAny (model P w) callerA (.call (.ref fa) ⟨[.ref a], []⟩)
      (fun r s' => r = .ok (.ret (.bool true)) ∧ OldK s₁.heap s'.heap ∧ s'.os = s₁.os ∧ AllBare s'.gens) s₁ := by
  have inK : K.In (hidT s₁.heap H) := by
    intro b o e
    refine hidT_get (KX b o e) ?_
    cases q : H b with
    | none => rfl
    | some u => rw [offK b (by rw [q]; simp)] at e; cases e
  have ns_in : ∀ {b : Addr} {m : Str → Option Value}, H b = none → s₁.heap.Ns b m → (hidT s₁.heap H).Ns b m := by
    rintro b m n ⟨o, es, ep, e, d, r⟩
    exact ⟨o, es, ep, hidT_get e n, d, r⟩
  have hM : Mod K mg (hidT s₁.heap H) :=
    ⟨inK, ns_in offN.1 hns, ⟨mb, ns_in offN.2.1 hb, hbb⟩, hlim.elim fun mc z => ⟨mc, ns_in offN.2.2 z.1, z.2⟩⟩
  have e0 : Env0 P w K mg (hidT s₁.heap H) callerA [] s₁ H :=
    ⟨rfl, hM, fun b o e => of_hidT e, Nat.le_of_eq (hidT_size _ _), trivial, fun b hb => absurd (show b ∈ ([] : List Addr) from hb) (by simp), hok, .of_eq hg⟩
  have it := (F _ inK (ns_in offN.1 hns)).goes callerA [] s₁ H ⟨[.ref a], []⟩ [.ref a] [.ref a] _ _ hr rfl e0 (hbind s₁ (.ref a)) (.cons rfl .nil) hsp
  refine codeAny_mono it ?_
  rintro (e | fl) s' h
  · exact False.elim h
  · cases fl with
    | ret u =>
      obtain ⟨v, H', os, bare, un, hok', r', q⟩ := h
      obtain rfl : v = .bl true := q
      obtain rfl : u = Value.bool true := r'
      refine ⟨rfl, OldK.of_keep ?_, os, bare⟩
      intro b o e
      cases q : H b with
      | none => exact un.keep b o e q (fun z => nomatch (show b ∈ ([] : List Addr) from z)) (by simp)
      | some u =>
        obtain ⟨ob, u', rfl⟩ := hO b u q
        have e1 := (hok b _ q).1
        have e2 := (hok' b _ (un.frzs b ob _ q)).1
        rw [e] at e1; cases e1
        exact e2
    | next => exact False.elim h
    | brk => exact False.elim h
    | cont => exact False.elim h

theorem lawG_call (KX : K.In s₁.heap) (hns : s₁.heap.Ns mainGlobals mg) (hb : s₁.heap.Ns builtinsNs mb)
    (hbb : ∀ x : Str, x ≠ "__name__" → mb x = bootBuiltins x) (hlim : s₁.heap.NoLimit) (hg : s₁.gens = #[]) (hmods : ∃ mm, s₁.heap.Ns sysModules mm) (off : OffK K)
    (ha : s₁.heap.get? a = some { cls := .type "list", data := .seq vs.toArray }) (hi : IntsAre vs ns) (hl : ns.length ≤ sizeLine) (hr : Room k callerA)
    (F : ∀ base : Heap, K.In base → base.Ns mainGlobals mg → FnG P w K mg base CX0 k fa fd [x] sp)
    (hbind : ∀ (s : Shared) (u : Value), BindsTo s fd ⟨[u], []⟩ [(x, u)]) (hlow : a ≠ sysModules)
    (hsp : ∀ H : Hp, Entry K H a ns → sp [.ref a] H (fun v _ => v = .bl true) fun _ _ _ => False) :
    codeAny (model P w) callerA (.call (.ref fa) ⟨[.ref a], []⟩)
      (fun r s' => r = .ok (.ret (.bool true)) ∧ OldK s₁.heap s'.heap ∧ s'.os = s₁.os ∧ AllBare s'.gens) s₁ := by
  have rv := vals_ints hi
  have lenV := hi.length
  obtain ⟨mm, om, _, _, hm, _⟩ := hmods
  have isNs : ∀ {b : Addr} {m : Str → Option Value}, s₁.heap.Ns b m → b ≠ a := by
    rintro b m ⟨o, es, ep, e, d, r⟩ rfl
    rw [ha] at e; cases e
    cases (show Data.seq vs.toArray _ = Data.dict es ep from d)
  have n1 : mainGlobals ≠ a := isNs hns
  have n2 : builtinsNs ≠ a := isNs hb
  have n3 : cStatics ≠ a := hlim.elim fun mc z => isNs z.1
  cases hk : K.lookup a with
  | some o =>
    have e := KX a o hk
    rw [ha] at e; cases e
    let H : Hp := fun b => if b = sysModules then some (.frz om (.ext fun _ => True)) else none
    have hH : H sysModules = some (.frz om (.ext fun _ => True)) := if_pos rfl
    have hN : ∀ b, b ≠ sysModules → H b = none := fun b h => if_neg h
    have hU : ∀ b u, H b = some u → b = sysModules ∧ u = .frz om (.ext fun _ => True) := by
      intro b u z
      by_cases h : b = sysModules
      · subst h; rw [hH] at z; cases z; exact ⟨rfl, rfl⟩
      · rw [hN b h] at z; cases z
    refine call_from KX hns hb hbb hlim hg hr F hbind H ?_ ?_ ?_ ⟨hN _ (by decide), hN _ (by decide), hN _ (by decide)⟩ (hsp H ⟨?_, ⟨om, _, hH⟩, ?_, hlow⟩)
    · intro b u z; exact ⟨_, _, (hU b u z).2⟩
    · intro b u z
      obtain ⟨rfl, rfl⟩ := hU b u z
      exact ⟨hm, trivial, ⟨om, hm⟩, fun _ _ _ _ => trivial⟩
    · intro b z
      cases q : H b with
      | none => exact absurd q z
      | some u => rw [(hU b u q).1]; exact off
    · intro b u z; exact ⟨_, _, (hU b u z).2⟩
    · exact .inr ⟨_, vs.toArray, _, hk, rfl, rfl, rfl, by rw [List.size_toArray, lenV]; exact hl, by simpa using rv⟩
  | none =>
    let H : Hp := fun b => if b = sysModules then some (.frz om (.ext fun _ => True)) else if b = a then some (.frz { cls := .type "list", data := .seq vs.toArray } (.lst (ns.map V.int))) else none
    have hH : H sysModules = some (.frz om (.ext fun _ => True)) := if_pos rfl
    have hA : H a = some (.frz { cls := .type "list", data := .seq vs.toArray } (.lst (ns.map V.int))) := (if_neg hlow).trans (if_pos rfl)
    have hN : ∀ b, b ≠ sysModules → b ≠ a → H b = none := fun b h g => (if_neg h).trans (if_neg g)
    have hU : ∀ b u, H b = some u → (b = sysModules ∧ u = .frz om (.ext fun _ => True)) ∨ (b = a ∧ u = .frz { cls := .type "list", data := .seq vs.toArray } (.lst (ns.map V.int))) := by
      intro b u z
      by_cases h : b = sysModules
      · subst h; rw [hH] at z; cases z; exact .inl ⟨rfl, rfl⟩
      · by_cases g : b = a
        · subst g; rw [hA] at z; cases z; exact .inr ⟨rfl, rfl⟩
        · rw [hN b h g] at z; cases z
    have hF : Only2 H := by
      intro b u z
      rcases hU b u z with ⟨_, e⟩ | ⟨_, e⟩ <;> exact ⟨_, _, e⟩
    refine call_from KX hns hb hbb hlim hg hr F hbind H hF ?_ ?_ ⟨hN _ (by decide) n1, hN _ (by decide) n2, hN _ (by decide) n3⟩ (hsp H ⟨hF, ⟨om, _, hH⟩, ?_, hlow⟩)
    · intro b u z
      rcases hU b u z with ⟨rfl, rfl⟩ | ⟨rfl, rfl⟩
      · exact ⟨hm, trivial, ⟨om, hm⟩, fun _ _ _ _ => trivial⟩
      · exact ⟨ha, by rw [List.length_map]; exact hl, vs, _, rv, ha⟩
    · intro b z
      cases q : H b with
      | none => exact absurd q z
      | some u =>
        rcases hU b u q with ⟨e, _⟩ | ⟨e, _⟩
        · rw [e]; exact off
        · rw [e]; exact hk
    · exact .inl (.inr ⟨_, hA⟩)
end

section
open PySem.W PySem.Calls
theorem walkG {l : OpenLaw} {n k : Nat} {q : Program} {loose : List Str} {XP : (Str → Option Value) → Heap → Prop} {YP : World → Heap → Prop}
    {d : DefRec} {K : Params → Frag} {sp : Frag → Sp} {x : Str} (himp : importsNone q = true) (hn : l.most = some n) (hn2 : n ≤ sizeLine) (hdf : d.params.defaults = []) (hr : Room k callerA)
    (hY : ∀ (w : World) (h : Heap), YP w h → (K w.params).In h)
    (F : ∀ (w : World) (mg : Str → Option Value) (fa : Addr) (h : Heap), (K w.params).In h → h.Ns mainGlobals mg → mg d.name = some (.ref fa) →
      OffK (K w.params) ∧ ∃ fd : FuncData, (∀ (s : Shared) (u : Value), BindsTo s fd ⟨[u], []⟩ [(x, u)]) ∧
        ∀ base : Heap, (K w.params).In base → base.Ns mainGlobals mg → FnG l.prog w (K w.params) mg base CX0 k fa fd [x] (sp (K w.params)))
    (hsp : ∀ (K : Frag) (H : Hp) (a : Addr) (ns : List Int), ns.length ≤ n → OffK K → Entry K H a ns → sp K [.ref a] H (fun v _ => v = .bl true) fun _ _ _ => False) :
    WalkO q loose XP YP l.row.toRowW d [] (fun f vs => PySem.call f vs) := by
  intro w s₀ s₁ mg mb G Y fa o pm cd doc dV kV ho hd hcd hD hmg hg args vals as hpre hlay hrd hwl hlo
  cases Dflts.none hD hdf
  cases Dflts.noKw hD
  obtain ⟨a, vs, ns, e1, e2, hobj, hints, hlen⟩ := Att.script_of hn hpre hwl
  subst e1
  subst e2
  have low : a ≠ sysModules := by
    cases hrd with
    | cons r _ =>
      cases r with
      | list h1 h2 h3 h4 => exact beq_eq_false_iff_ne.mp (hlo a (by simp))
  have KX := hY w _ Y
  obtain ⟨off, fd, hb, hF⟩ := F w mg fa _ KX G.T.g hmg
  have it := lawG_call (P := l.prog) KX G.T.g G.T.b G.T.builtins G.T.nolimit hg ((G.T.seer himp).mods.elim fun mm z => ⟨mm, z.1⟩) off hobj hints (Nat.le_trans hlen hn2) hr hF hb low
    fun H e => hsp (K w.params) H a ns hlen off e
  refine enter_call (codeAny_mono it ?_)
  rintro r s' ⟨rfl, h2, h3, h4⟩
  refine ⟨.inl ⟨.bool true, .bool true, [], rfl, fun _ => rfl, .bool true, Att.post_true l _, ?_⟩, h2, h3, h4⟩
  exact fun _ => ⟨List.Pairwise.nil, fun _ hm => nomatch hm⟩
end
end Kg
namespace K02
open PySem PySem.Spec PyProof.Rows L2 Kg
open Evl (Ex)
def topS (i : Nat) : Stmt := PySem.Challenge.pw_nevercaught_k02_plain_values.main.body.getD i (.Pass ⟨0, 0, 0, 0⟩)
section
abbrev s_is_integer : Stmt := topS 1
theorem sc_is_integer : FnScope ["value"] ["value"] (defScope s_is_integer) := ⟨rfl, rfl, rfl, by decide +kernel, rfl, by decide +kernel, by decide +kernel⟩
abbrev s_is_within : Stmt := topS 2
theorem sc_is_within : FnScope ["value", "least", "most"] ["value", "least", "most"] (defScope s_is_within) := ⟨rfl, rfl, rfl, by decide +kernel, rfl, by decide +kernel, by decide +kernel⟩
abbrev s_is_square : Stmt := topS 3
theorem sc_is_square : FnScope ["value"] ["value"] (defScope s_is_square) := ⟨rfl, rfl, rfl, by decide +kernel, rfl, by decide +kernel, by decide +kernel⟩
abbrev s_are_squares : Stmt := topS 4
theorem sc_are_squares : FnScope ["value", "item"] ["value"] (defScope s_are_squares) := ⟨rfl, rfl, rfl, by decide +kernel, rfl, by decide +kernel, by decide +kernel⟩
abbrev s_w_urn : Stmt := topS 6
theorem sc_w_urn : FnScope ["script", "cell"] ["script"] (defScope s_w_urn) := ⟨rfl, rfl, rfl, by decide +kernel, rfl, by decide +kernel, by decide +kernel⟩
abbrev s_w_draw : Stmt := topS 7
theorem sc_w_draw : FnScope ["jar", "many", "rest", "at", "cell", "mixed"] ["jar", "many"] (defScope s_w_draw) := ⟨rfl, rfl, rfl, by decide +kernel, rfl, by decide +kernel, by decide +kernel⟩
abbrev s_w_number : Stmt := topS 8
theorem sc_w_number : FnScope ["urn", "size"] ["urn"] (defScope s_w_number) := ⟨rfl, rfl, rfl, by decide +kernel, rfl, by decide +kernel, by decide +kernel⟩
abbrev s_w_odd : Stmt := topS 9
theorem sc_w_odd : FnScope ["urn"] ["urn"] (defScope s_w_odd) := ⟨rfl, rfl, rfl, by decide +kernel, rfl, by decide +kernel, by decide +kernel⟩
abbrev s_w_pair : Stmt := topS 10
theorem sc_w_pair : FnScope ["urn", "kind", "turn", "pair"] ["urn"] (defScope s_w_pair) := ⟨rfl, rfl, rfl, by decide +kernel, rfl, by decide +kernel, by decide +kernel⟩
abbrev s_w_is_number : Stmt := topS 11
theorem sc_w_is_number : FnScope ["value"] ["value"] (defScope s_w_is_number) := ⟨rfl, rfl, rfl, by decide +kernel, rfl, by decide +kernel, by decide +kernel⟩
abbrev s_w_is_pair : Stmt := topS 12
theorem sc_w_is_pair : FnScope ["value"] ["value"] (defScope s_w_is_pair) := ⟨rfl, rfl, rfl, by decide +kernel, rfl, by decide +kernel, by decide +kernel⟩
abbrev s_w_are_pairs : Stmt := topS 13
theorem sc_w_are_pairs : FnScope ["value", "each", "rows", "at", "row"] ["value"] (defScope s_w_are_pairs) := ⟨rfl, rfl, rfl, by decide +kernel, rfl, by decide +kernel, by decide +kernel⟩
abbrev s_law : Stmt := topS 14
theorem sc_law : FnScope ["script", "urn", "turn", "number", "least", "most", "due", "pair", "some", "spot", "each", "value", "kept", "odd"] ["script"] (defScope s_law) := ⟨rfl, rfl, rfl, by decide +kernel, rfl, by decide +kernel, by decide +kernel⟩
/-- where the text's defs stand, and what it leaves as it was -/
structure Txt (K : PySem.W.Frag) (mg : Str → Option Value) where
  f_is_integer : Addr
  d_is_integer : FuncData
  F_is_integer : Fun K "is_integer" "is_integer" s_is_integer f_is_integer d_is_integer
  g_is_integer : mg "is_integer" = some (.ref f_is_integer)
  f_is_within : Addr
  d_is_within : FuncData
  F_is_within : Fun K "is_within" "is_within" s_is_within f_is_within d_is_within
  g_is_within : mg "is_within" = some (.ref f_is_within)
  f_is_square : Addr
  d_is_square : FuncData
  F_is_square : Fun K "is_square" "is_square" s_is_square f_is_square d_is_square
  g_is_square : mg "is_square" = some (.ref f_is_square)
  f_are_squares : Addr
  d_are_squares : FuncData
  F_are_squares : Fun K "are_squares" "are_squares" s_are_squares f_are_squares d_are_squares
  g_are_squares : mg "are_squares" = some (.ref f_are_squares)
  f_w_urn : Addr
  d_w_urn : FuncData
  F_w_urn : Fun K "_law_urn" "_law_urn" s_w_urn f_w_urn d_w_urn
  g_w_urn : mg "_law_urn" = some (.ref f_w_urn)
  f_w_draw : Addr
  d_w_draw : FuncData
  F_w_draw : Fun K "_law_draw" "_law_draw" s_w_draw f_w_draw d_w_draw
  g_w_draw : mg "_law_draw" = some (.ref f_w_draw)
  f_w_number : Addr
  d_w_number : FuncData
  F_w_number : Fun K "_law_number" "_law_number" s_w_number f_w_number d_w_number
  g_w_number : mg "_law_number" = some (.ref f_w_number)
  f_w_odd : Addr
  d_w_odd : FuncData
  F_w_odd : Fun K "_law_odd" "_law_odd" s_w_odd f_w_odd d_w_odd
  g_w_odd : mg "_law_odd" = some (.ref f_w_odd)
  f_w_pair : Addr
  d_w_pair : FuncData
  F_w_pair : Fun K "_law_pair" "_law_pair" s_w_pair f_w_pair d_w_pair
  g_w_pair : mg "_law_pair" = some (.ref f_w_pair)
  f_w_is_number : Addr
  d_w_is_number : FuncData
  F_w_is_number : Fun K "_law_is_number" "_law_is_number" s_w_is_number f_w_is_number d_w_is_number
  g_w_is_number : mg "_law_is_number" = some (.ref f_w_is_number)
  f_w_is_pair : Addr
  d_w_is_pair : FuncData
  F_w_is_pair : Fun K "_law_is_pair" "_law_is_pair" s_w_is_pair f_w_is_pair d_w_is_pair
  g_w_is_pair : mg "_law_is_pair" = some (.ref f_w_is_pair)
  f_w_are_pairs : Addr
  d_w_are_pairs : FuncData
  F_w_are_pairs : Fun K "_law_are_pairs" "_law_are_pairs" s_w_are_pairs f_w_are_pairs d_w_are_pairs
  g_w_are_pairs : mg "_law_are_pairs" = some (.ref f_w_are_pairs)
  f_law : Addr
  d_law : FuncData
  F_law : Fun K "law" "law" s_law f_law d_law
  g_law : mg "law" = some (.ref f_law)
  z_abs : mg "abs" = none
  z_all : mg "all" = none
  z_bool : mg "bool" = none
  z_enumerate : mg "enumerate" = none
  z_int : mg "int" = none
  z_isinstance : mg "isinstance" = none
  z_len : mg "len" = none
  z_list : mg "list" = none
  z_range : mg "range" = none
  z_repr : mg "repr" = none
  z_tuple : mg "tuple" = none
variable {K : PySem.W.Frag} {mg : Str → Option Value}
theorem b_is_integer (T : Txt K mg) : Binds K T.d_is_integer ["value"] [] := T.F_is_integer.binds fun _ _ _ _ _ _ us hl => match us, hl with | [_], _ => rfl
theorem b_is_within (T : Txt K mg) : Binds K T.d_is_within ["value", "least", "most"] [] := T.F_is_within.binds fun _ _ _ _ _ _ us hl => match us, hl with | [_, _, _], _ => rfl
theorem b_is_square (T : Txt K mg) : Binds K T.d_is_square ["value"] [] := T.F_is_square.binds fun _ _ _ _ _ _ us hl => match us, hl with | [_], _ => rfl
theorem b_are_squares (T : Txt K mg) : Binds K T.d_are_squares ["value"] [] := T.F_are_squares.binds fun _ _ _ _ _ _ us hl => match us, hl with | [_], _ => rfl
theorem b_w_urn (T : Txt K mg) : Binds K T.d_w_urn ["script"] [] := T.F_w_urn.binds fun _ _ _ _ _ _ us hl => match us, hl with | [_], _ => rfl
theorem b_w_draw (T : Txt K mg) : Binds K T.d_w_draw ["jar", "many"] [] := T.F_w_draw.binds fun _ _ _ _ _ _ us hl => match us, hl with | [_, _], _ => rfl
theorem b_w_number (T : Txt K mg) : Binds K T.d_w_number ["urn"] [] := T.F_w_number.binds fun _ _ _ _ _ _ us hl => match us, hl with | [_], _ => rfl
theorem b_w_odd (T : Txt K mg) : Binds K T.d_w_odd ["urn"] [] := T.F_w_odd.binds fun _ _ _ _ _ _ us hl => match us, hl with | [_], _ => rfl
theorem b_w_pair (T : Txt K mg) : Binds K T.d_w_pair ["urn"] [] := T.F_w_pair.binds fun _ _ _ _ _ _ us hl => match us, hl with | [_], _ => rfl
theorem b_w_is_number (T : Txt K mg) : Binds K T.d_w_is_number ["value"] [] := T.F_w_is_number.binds fun _ _ _ _ _ _ us hl => match us, hl with | [_], _ => rfl
theorem b_w_is_pair (T : Txt K mg) : Binds K T.d_w_is_pair ["value"] [] := T.F_w_is_pair.binds fun _ _ _ _ _ _ us hl => match us, hl with | [_], _ => rfl
theorem b_w_are_pairs (T : Txt K mg) : Binds K T.d_w_are_pairs ["value"] [] := T.F_w_are_pairs.binds fun _ _ _ _ _ _ us hl => match us, hl with | [_], _ => rfl
theorem b_law (T : Txt K mg) : Binds K T.d_law ["script"] [] := T.F_law.binds fun _ _ _ _ _ _ us hl => match us, hl with | [_], _ => rfl
def pm_is_integer_value {α : Type} (us ws : List α) : List α := match us, ws with | [], [v0] => [v0] | _, _ => []
theorem kb_is_integer_value (T : Txt K mg) : KBinds K T.d_is_integer ["value"] ["value"] (fun us ws => pm_is_integer_value us ws) (fun us ws => pm_is_integer_value us ws) := by
  obtain ⟨oc, od, kV, doc, pm, an, cdv, ct, osl, e, lk, hcd⟩ := T.F_is_integer.ex
  constructor
  · intro s us ws _ hl
    rcases us with _ | ⟨u, us⟩
    · rcases ws with _ | ⟨v0, _ | ⟨v1, ws⟩⟩
      · exact absurd hl (by simp [pm_is_integer_value])
      · rw [e]; exact .of_eq rfl
      · exact absurd hl (by simp [pm_is_integer_value])
    · exact absurd hl (by simp [pm_is_integer_value])
  · intro vs us zs ws r1 r2
    cases r1 with
    | cons _ _ => exact .nil
    | nil =>
      cases r2 with
      | nil => exact .nil
      | cons q0 r2 =>
        cases r2 with
        | nil => exact (.cons q0 .nil)
        | cons _ _ => exact .nil
def pm_is_within_most_value_least {α : Type} (us ws : List α) : List α := match us, ws with | [], [v0, v1, v2] => [v1, v2, v0] | _, _ => []
theorem kb_is_within_most_value_least (T : Txt K mg) : KBinds K T.d_is_within ["value", "least", "most"] ["most", "value", "least"] (fun us ws => pm_is_within_most_value_least us ws) (fun us ws => pm_is_within_most_value_least us ws) := by
  obtain ⟨oc, od, kV, doc, pm, an, cdv, ct, osl, e, lk, hcd⟩ := T.F_is_within.ex
  constructor
  · intro s us ws _ hl
    rcases us with _ | ⟨u, us⟩
    · rcases ws with _ | ⟨v0, _ | ⟨v1, _ | ⟨v2, _ | ⟨v3, ws⟩⟩⟩⟩
      · exact absurd hl (by simp [pm_is_within_most_value_least])
      · exact absurd hl (by simp [pm_is_within_most_value_least])
      · exact absurd hl (by simp [pm_is_within_most_value_least])
      · rw [e]; exact .of_eq rfl
      · exact absurd hl (by simp [pm_is_within_most_value_least])
    · exact absurd hl (by simp [pm_is_within_most_value_least])
  · intro vs us zs ws r1 r2
    cases r1 with
    | cons _ _ => exact .nil
    | nil =>
      cases r2 with
      | nil => exact .nil
      | cons q0 r2 =>
        cases r2 with
        | nil => exact .nil
        | cons q1 r2 =>
          cases r2 with
          | nil => exact .nil
          | cons q2 r2 =>
            cases r2 with
            | nil => exact (.cons q1 (.cons q2 (.cons q0 .nil)))
            | cons _ _ => exact .nil
def pm_is_square_value {α : Type} (us ws : List α) : List α := match us, ws with | [], [v0] => [v0] | _, _ => []
theorem kb_is_square_value (T : Txt K mg) : KBinds K T.d_is_square ["value"] ["value"] (fun us ws => pm_is_square_value us ws) (fun us ws => pm_is_square_value us ws) := by
  obtain ⟨oc, od, kV, doc, pm, an, cdv, ct, osl, e, lk, hcd⟩ := T.F_is_square.ex
  constructor
  · intro s us ws _ hl
    rcases us with _ | ⟨u, us⟩
    · rcases ws with _ | ⟨v0, _ | ⟨v1, ws⟩⟩
      · exact absurd hl (by simp [pm_is_square_value])
      · rw [e]; exact .of_eq rfl
      · exact absurd hl (by simp [pm_is_square_value])
    · exact absurd hl (by simp [pm_is_square_value])
  · intro vs us zs ws r1 r2
    cases r1 with
    | cons _ _ => exact .nil
    | nil =>
      cases r2 with
      | nil => exact .nil
      | cons q0 r2 =>
        cases r2 with
        | nil => exact (.cons q0 .nil)
        | cons _ _ => exact .nil
def pm_are_squares_value {α : Type} (us ws : List α) : List α := match us, ws with | [], [v0] => [v0] | _, _ => []
theorem kb_are_squares_value (T : Txt K mg) : KBinds K T.d_are_squares ["value"] ["value"] (fun us ws => pm_are_squares_value us ws) (fun us ws => pm_are_squares_value us ws) := by
  obtain ⟨oc, od, kV, doc, pm, an, cdv, ct, osl, e, lk, hcd⟩ := T.F_are_squares.ex
  constructor
  · intro s us ws _ hl
    rcases us with _ | ⟨u, us⟩
    · rcases ws with _ | ⟨v0, _ | ⟨v1, ws⟩⟩
      · exact absurd hl (by simp [pm_are_squares_value])
      · rw [e]; exact .of_eq rfl
      · exact absurd hl (by simp [pm_are_squares_value])
    · exact absurd hl (by simp [pm_are_squares_value])
  · intro vs us zs ws r1 r2
    cases r1 with
    | cons _ _ => exact .nil
    | nil =>
      cases r2 with
      | nil => exact .nil
      | cons q0 r2 =>
        cases r2 with
        | nil => exact (.cons q0 .nil)
        | cons _ _ => exact .nil
end

/-! ### the urn -/
/-- all but the urn stands -/
def Go (j : Addr) (H H' : Hp) : Prop := ∀ a o, a ≠ j → H a = some o → H' a = some o
theorem Go.refl (j : Addr) (H : Hp) : Go j H H := fun _ _ _ h => h
theorem Go.trans {j : Addr} {H H1 H2 : Hp} (a : Go j H H1) (b : Go j H1 H2) : Go j H H2 := fun x o n h => b x o n (a x o n h)
theorem Go.of {j : Addr} {H H' : Hp} (e : Ex H H') : Go j H H' := fun a o _ h => e a o h
theorem Go.upd {j : Addr} {H : Hp} {o : HO} : Go j H (upd H j o) := fun a u n h => (upd_ne n).trans h
/-- the heap without the urn -/
def off (j : Addr) (H : Hp) : Hp := fun a => if a = j then none else H a
theorem off_ne {j a : Addr} {H : Hp} (h : a ≠ j) : off j H a = H a := if_neg h
theorem Go.ex {j : Addr} {H H' : Hp} (g : Go j H H') : Ex (off j H) (off j H') := by
  intro a o h
  by_cases e : a = j
  · subst e; rw [show off a H a = none from if_pos rfl] at h; cases h
  · rw [off_ne e] at h ⊢; exact g a o e h
theorem off_sub (j : Addr) (H : Hp) : Ex (off j H) H := by
  intro a o h
  by_cases e : a = j
  · subst e; rw [show off a H a = none from if_pos rfl] at h; cases h
  · rwa [off_ne e] at h
/-- the urn at j: b draws are left to it; its numbers stand in B, which is never changed -/
structure Urn (K : PySem.W.Frag) (B : Hp) (j : Addr) (b : Nat) (H : Hp) : Prop where
  it : ∃ (c : Addr) (ns : List Int) (at' rest : Int), H j = some (.lst [.ref c, .int at', .int rest]) ∧ SqL K B c (ns.map V.int) ∧ 0 ≤ at' ∧ at' + b ≤ 1000000 ∧ 0 ≤ rest
  ba : Ex B (off j H)
section
variable {K : PySem.W.Frag} {B : Hp} {j : Addr}
theorem Urn.less {b b' : Nat} {H : Hp} (u : Urn K B j b H) (h : b' ≤ b) : Urn K B j b' H := by
  obtain ⟨c, ns, at', rest, h1, h2, h3, h4, h5⟩ := u.it
  exact ⟨⟨c, ns, at', rest, h1, h2, h3, by omega, h5⟩, u.ba⟩
theorem Urn.ex {b : Nat} {H H' : Hp} (u : Urn K B j b H) (e : Ex H H') : Urn K B j b H' := by
  obtain ⟨c, ns, at', rest, h1, h2, h3, h4, h5⟩ := u.it
  exact ⟨⟨c, ns, at', rest, e _ _ h1, h2, h3, h4, h5⟩, u.ba.trans (Go.of e).ex⟩
theorem Urn.there {b : Nat} {H : Hp} (u : Urn K B j b H) : H j ≠ none := by
  obtain ⟨c, ns, a, r, h, _⟩ := u.it
  rw [h]
  exact fun z => nomatch z
theorem Urn.ne {p : Addr} {b : Nat} {H : Hp} (u : Urn K B j b H) (h : H p = none) : p ≠ j := fun e => u.there (e ▸ h)
/-- a thing that was made after the urn may change -/
theorem Urn.mut {D : Addr} {b b2 : Nat} {H H2 : Hp} {o : HO} (u : Urn K B j b H) (u2 : Urn K B j b2 H2) (hD : H2 D = none) : Urn K B j b (L2.upd H D o) := by
  obtain ⟨c, ns, at', rest, h1, h2, h3, h4, h5⟩ := u.it
  refine ⟨⟨c, ns, at', rest, (upd_ne (u2.ne hD).symm).trans h1, h2, h3, h4, h5⟩, fun a x hx => ?_⟩
  have n1 : a ≠ D := by
    rintro rfl
    have := off_sub j _ _ _ (u2.ba _ _ hx)
    rw [hD] at this; cases this
  have h6 := u.ba _ _ hx
  have n2 : a ≠ j := by
    rintro rfl
    rw [show off a H a = none from if_pos rfl] at h6; cases h6
  rw [off_ne n2] at h6 ⊢
  exact (upd_ne n1).trans h6
end
/-- what H' has and H had not -/
def neu (H H' : Hp) : Hp := fun a => match H a with
  | none => H' a
  | some _ => none
theorem neu_at {H H' : Hp} {a : Addr} (h : H a = none) : neu H H' a = H' a := by unfold neu; rw [h]
theorem neu_of {H H' : Hp} {a : Addr} {o : HO} (h : neu H H' a = some o) : H a = none ∧ H' a = some o := by
  unfold neu at h
  cases q : H a with
  | none => rw [q] at h; exact ⟨rfl, h⟩
  | some _ => rw [q] at h; cases h
theorem at_neu {H H' : Hp} {a : Addr} {o : HO} (h : H a = none) (h' : H' a = some o) : neu H H' a = some o := (neu_at h).trans h'
theorem off_at {j a : Addr} {H : Hp} {o : HO} (ne : a ≠ j) (h : H a = some o) : off j H a = some o := (off_ne ne).trans h
section
variable {K : PySem.W.Frag} {B : Hp} {j : Addr} {b : Nat}
theorem Urn.back {H H1 : Hp} {p : Addr} (u : Urn K B j b H1) (g : Go j H H1) (h : H1 p = none) : H p = none := by
  cases q : H p with
  | none => rfl
  | some o => rw [g p o (u.ne h) q] at h; cases h
theorem neu_ex {H H2 H3 H4 : Hp} (u : Urn K B j b H2) (g : Go j H H2) (g' : Go j H3 H4) : Ex (neu H2 H3) (neu H H4) := by
  intro a o h
  obtain ⟨h1, h2⟩ := neu_of h
  exact at_neu (u.back g h1) (g' a o (u.ne h1) h2)
theorem neu_off {H H' : Hp} {D : Addr} (h : H D ≠ none) : Ex (neu H H') (off D H') := by
  intro a o q
  obtain ⟨h1, h2⟩ := neu_of q
  exact off_at (fun e => h (e ▸ h1)) h2
theorem neu_off2 {H H' : Hp} {D : Addr} (u : Urn K B j b H) (h : H D ≠ none) : Ex (neu H H') (off D (off j H')) := by
  intro a o q
  obtain ⟨h1, h2⟩ := neu_of q
  exact off_at (fun e => h (e ▸ h1)) (off_at (fun e => u.there (e ▸ h1)) h2)
end
/-- one draw -/
def spDraw (K : PySem.W.Frag) : Sp := fun vs H Q _ => ∃ (j : Addr) (B : Hp) (b : Nat) (n : Int), vs = [.ref j, .int n] ∧ 0 < n ∧ n.natAbs.log2 < 9000 ∧ Urn K B j (b + 1) H ∧
  ∀ (r : Int) (H' : Hp), 0 ≤ r → r < n → Go j H H' → Urn K B j b H' → Q (.int r) H'

end K02
namespace K02
open PySem PySem.Spec PyProof.Rows L2 Kg
open Evl (Ex)


section
variable {P : Program} {w : World} {K : PySem.W.Frag} {mg : Str → Option Value} {base : Heap}
theorem ints_dp {H : Hp} : ∀ ns : List Int, DpAll K H (ns.map V.int) (ns.map PyData.int)
  | [] => .nil
  | n :: ns => .cons (.int n) (ints_dp ns)
theorem ints_lay : ∀ ns : List Int, PyData.canLayAll0 (ns.map PyData.int) = true
  | [] => by simp [PyData.canLayAll0]
  | n :: ns => by simp [PyData.canLayAll0, PyData.canLay0, ints_lay ns]
theorem ints_depth : ∀ ns : List Int, PyData.depthAll (ns.map PyData.int) = 0
  | [] => by simp [PyData.depthAll]
  | n :: ns => by simp [PyData.depthAll, PyData.depth, ints_depth ns]
theorem ints_shaped (ns : List Int) : SeqAt.shaped (.list (ns.map PyData.int)) = true := by
  simp [SeqAt.shaped, PyData.canLay0, PyData.depth, ints_lay, ints_depth]
theorem ok_draw (T : Txt K mg) : FnOk P w K mg base CX0 1 T.f_w_draw T.d_w_draw ["jar", "many"] (spDraw K) := by
  refine T.F_w_draw.ok sc_w_draw (fun vs H Q E h => ?_) (fun cdv A outer s H vs Q E hr h => ?_)
  · obtain ⟨j, B, b, n, rfl, _⟩ := h
    rfl
  · obtain ⟨j, B, b, n, rfl, hn, hn9, u, k⟩ := h
    have hr1 := hr
    have hu2 := hr.units
    obtain ⟨c, ns, at', rest, hj, hc, h0, h1, h2⟩ := u.it
    have hcO : SqL K (off j H) c (ns.map V.int) := Evl.ex_l u.ba hc
    have hcH : SqL K H c (ns.map V.int) := Evl.ex_l (u.ba.trans (off_sub j H)) hc
    refine ⟨_, (pss_cons (ps_if (pt_cmpR op_gt (pe_ix ix_list (pv 0) pe_int (fun _ _ => rfl)) pe_int (nomark _)) (pss_cons (ps_set (i := 2) sc_w_draw.nd rfl (Or.inl rfl) (pe_callTy call_int1 (by rfl) T.z_int (by decide +kernel) (pa_cons (pe_ix ix_list (pv 0) pe_int (fun _ _ => rfl)) pa_nil)))
  (pss_cons (ps_asg (pe_op op_fdivW (pv 2) (pv 1)) (pg_sub (pv 0) pe_int set_list))
  (pss_one (ps_ret (pe_op op_mod (pe_callTy call_int1 (by rfl) T.z_int (by decide +kernel) (pa_cons (pv 2) pa_nil)) (pv 1)))))) pss_nil)
  (pss_cons (ps_set (i := 3) sc_w_draw.nd rfl (Or.inl rfl) (pe_ix ix_list (pv 0) pe_int (fun _ _ => rfl)))
  (pss_cons (ps_asg (pe_op op_add (pv 3) pe_int) (pg_sub (pv 0) pe_int set_list))
  (pss_cons (ps_set (i := 4) sc_w_draw.nd rfl (Or.inl rfl) (pe_op op_add (pe_op op_mul pe_int (pv 3)) pe_int))
  (Evl.pss_cut (ps_if (pt_cmpR (op_neD hu2) (pe_ix ix_list (pv 0) pe_int (fun _ _ => rfl)) (pe_lst pa_nil) (nomark _)) (pss_one (ps_set (i := 4) sc_w_draw.nd rfl (Or.inl rfl) (pe_ix ix_list (pe_ix ix_list (pv 0) pe_int (fun _ _ => rfl)) (pe_op op_mod (pe_callTy call_int1 (by rfl) T.z_int (by decide +kernel) (pa_cons (pv 3) pa_nil)) (pe_callB call_len_seq (by rfl) T.z_len (by decide +kernel) (pa_cons (pe_ix ix_list (pv 0) pe_int (fun _ _ => rfl)) pa_nil))) (fun _ _ => rfl)))) pss_nil)
  (pss_cons (ps_if (PW.pt (pw_and (pt_cmpR op_lt (pv 3) (pe_callB call_len_seq (by rfl) T.z_len (by decide +kernel) (pa_cons (pe_ix ix_list (pv 0) pe_int (fun _ _ => rfl)) pa_nil)) (nomark _)) (pw_and1 (pt_cmpR op_ge (pe_callB call_abs (by rfl) T.z_abs (by decide +kernel) (pa_cons (pv 4) pa_nil)) (pe_op op_pow pe_int pe_int) (nomark _))))) (pss_cons (ps_set (i := 2) sc_w_draw.nd rfl (Or.inl rfl) (pe_op op_add (pe_op op_mul pe_int (pe_op op_sub (pe_callB call_abs (by rfl) T.z_abs (by decide +kernel) (pa_cons (pv 4) pa_nil)) (pe_op op_pow pe_int pe_int))) (pe_callTy call_int1 (by rfl) T.z_int (by decide +kernel) (pa_cons (pe_cmpR op_lt (pv 4) pe_int (nomark _)) pa_nil))))
  (pss_cons (ps_asg (pe_op op_fdivW (pe_callTy call_int1 (by rfl) T.z_int (by decide +kernel) (pa_cons (pv 2) pa_nil)) (pv 1)) (pg_sub (pv 0) pe_int set_list))
  (pss_one (ps_ret (pe_op op_mod (pe_callTy call_int1 (by rfl) T.z_int (by decide +kernel) (pa_cons (pv 2) pa_nil)) (pv 1)))))) pss_nil)
  (pss_cons (ps_set (i := 5) sc_w_draw.nd rfl (Or.inl rfl) (pe_op op_mod (pe_callTy call_int1 (by rfl) T.z_int (by decide +kernel) (pa_cons (pe_op op_pow (pe_op op_add (pe_op op_add (pe_op op_mod (pe_callTy call_int1 (by rfl) T.z_int (by decide +kernel) (pa_cons (pv 4) pa_nil)) pe_int) (pe_op op_mul pe_int (pv 3))) pe_int) pe_int) pa_nil)) pe_int))
  (pss_cons (ps_set (i := 5) sc_w_draw.nd rfl (Or.inl rfl) (pe_op op_mod (pe_callTy call_int1 (by rfl) T.z_int (by decide +kernel) (pa_cons (pe_op op_pow (pe_op op_add (pe_op op_add (pe_op op_mul (pv 5) (pe_op op_add (pe_op op_mul pe_int (pv 3)) pe_int)) (pe_op op_mul (pe_op op_mul pe_int (pv 3)) (pv 3))) pe_int) pe_int) pa_nil)) pe_int))
  (pss_one (ps_ret (pe_op op_mod (pe_callTy call_int1 (by rfl) T.z_int (by decide +kernel) (pa_cons (pe_op op_fdivW (pv 5) pe_int) pa_nil)) (pv 1)))))))))))), ?_⟩
    walk_at "rd"
    refine ifB (fun c1 => ?_) (fun c1 => ?_)
    · walk_at "rd"
      refine k _ _ (Int.emod_nonneg _ (by omega)) (Int.emod_lt_of_pos _ hn) Go.upd ⟨⟨c, ns, at', rest / n, upd_same, hc, h0, by omega, Int.ediv_nonneg h2 (by omega)⟩, u.ba.trans Go.upd.ex⟩
    · have hcG : SqL K (upd H j (.lst [.ref c, .int (at' + 1), .int rest])) c (ns.map V.int) := Evl.ex_l (off_sub j _) (Evl.ex_l Go.upd.ex hcO)
      walk_at "rd"
      refine ⟨fun σ' H' => ∃ cl : Int, σ' = [some (.ref j), some (.int n), none, some (.int at'), some (.int cl), none] ∧ Go j H H' ∧ H' j = some (.lst [.ref c, .int (at' + 1), .int rest]), ?_, ?_⟩
      · walk_at "rd"
        intro l hl
        have njl : j ≠ l := fun e => by rw [← e, upd_same] at hl; cases hl
        have g2 : Go j H (upd (upd H j (.lst [.ref c, .int (at' + 1), .int rest])) l (.lst [])) := Go.upd.trans (Go.of (Ex.new hl))
        have hj2 : upd (upd H j (.lst [.ref c, .int (at' + 1), .int rest])) l (.lst []) j = some (.lst [.ref c, .int (at' + 1), .int rest]) := (upd_ne njl).trans upd_same
        have hl2 : upd (upd H j (.lst [.ref c, .int (at' + 1), .int rest])) l (.lst []) l = some (.lst []) := upd_same
        have hc2 : SqL K (upd (upd H j (.lst [.ref c, .int (at' + 1), .int rest])) l (.lst [])) c (ns.map V.int) := Evl.ex_l (off_sub j _) (Evl.ex_l g2.ex hcO)
        refine ⟨.list (ns.map .int), .list [], .lst hc2 (ints_dp ns), .lst (SqL.of hl2) .nil, ints_shaped ns, by decide, ?_⟩
        walk_at "rd"
        refine ifB (fun c2 => ?_) (fun c2 => ?_)
        · have ne : ns ≠ [] := by
            rintro rfl
            simp [PyData.eqv, PyData.eqvAll] at c2
          have hlen : 0 < ((ns.map V.int).length : Int) := by
            rw [List.length_map]
            have := List.length_pos_iff.mpr ne
            omega
          have m0 := Int.emod_nonneg at' (show ((ns.map V.int).length : Int) ≠ 0 by omega)
          have m1 := Int.emod_lt_of_pos at' hlen
          obtain ⟨z, hz⟩ : ∃ z, atI (ns.map V.int) (at' % ((ns.map V.int).length : Int)) = some (.int z) := by
            generalize hm : at' % ((ns.map V.int).length : Int) = m at m0 m1
            obtain ⟨z, hz⟩ : ∃ z, ns[m.toNat]? = some z := ⟨_, List.getElem?_eq_getElem (by rw [List.length_map] at m1; omega)⟩
            exact ⟨z, at_of (j := m.toNat) (by omega) (by rw [List.getElem?_map, hz]; rfl)⟩
          walk_at "rd"
          exact hj2
        · exact ⟨_, rfl, g2, hj2⟩
      · rintro σ' H2 ⟨cl, rfl, g2, hj2⟩
        have hc2 : SqL K H2 c (ns.map V.int) := Evl.ex_l (off_sub j _) (Evl.ex_l g2.ex hcO)
        have last : ∀ H3, Go j H H3 → H3 j = some (.lst [.ref c, .int (at' + 1), .int rest]) → ∀ r : Int, 0 ≤ r → r < n → Q (.int r) H3 :=
          fun H3 g3 h3 r r0 r1 => k r H3 r0 r1 g3 ⟨⟨c, ns, at' + 1, rest, h3, hc, by omega, by omega, h2⟩, u.ba.trans g3.ex⟩
        walk_at "rd"
        refine ifB (fun c2 => ?_) (fun c2 => ?_)
        · walk_at "rd"
          refine ifB (fun c3 => ?_) (fun c3 => ?_)
          · walk_at "rd"
            have c4 : (10 : Int) ^ 18 ≤ if cl < 0 then -cl else cl := of_decide_eq_true c3
            refine k _ _ (Int.emod_nonneg _ (by omega)) (Int.emod_lt_of_pos _ hn) (g2.trans Go.upd) ⟨⟨c, ns, at' + 1, _, upd_same, hc, by omega, by omega, Int.ediv_nonneg ?_ (by omega)⟩, u.ba.trans (g2.trans Go.upd).ex⟩
            show (0 : Int) ≤ 2 * ((if cl < 0 then -cl else cl) - 10 ^ 18) + (if decide (cl < 0) = true then 1 else 0)
            split <;> split <;> omega
          · walk_at "rd"
            refine ⟨⟨by decide, by decide, mix_bound (by omega) (by omega) (by omega) (by omega) (by omega) (by omega) (by omega) (by omega) (by omega) (by omega)⟩, ?_⟩
            walk_at "rd"
            exact last _ g2 hj2 _ (Int.emod_nonneg _ (by omega)) (Int.emod_lt_of_pos _ hn)
        · walk_at "rd"
          refine ⟨⟨by decide, by decide, mix_bound (by omega) (by omega) (by omega) (by omega) (by omega) (by omega) (by omega) (by omega) (by omega) (by omega)⟩, ?_⟩
          walk_at "rd"
          exact last _ g2 hj2 _ (Int.emod_nonneg _ (by omega)) (Int.emod_lt_of_pos _ hn)
end
end K02
namespace K02
open PySem PySem.Spec PyProof.Rows L2 Kg
open Evl (Ex)


section
variable {P : Program} {w : World} {K : PySem.W.Frag} {mg : Str → Option Value} {base : Heap}
theorem ok_is_integer (T : Txt K mg) : FnOk P w K mg base CX0 1 T.f_is_integer T.d_is_integer ["value"] (spB K isI) := by
  refine T.F_is_integer.ok sc_is_integer (fun vs H Q E h => ?_) (fun cdv A outer s H vs Q E hr h => ?_)
  · obtain ⟨v, d, rfl, _⟩ := h
    rfl
  · obtain ⟨v, d, rfl, hd, k⟩ := h
    refine ⟨_, (pss_one (ps_ret (pe_and (pe_callB call_isi (by rfl) T.z_isinstance (by decide +kernel) (pa_cons (pv 0) (pa_cons (pe_bltn (v := .ty "int") (by rfl) T.z_int (by decide +kernel) rfl) pa_nil))) (pe_one (pe_not (pe_callB call_isi (by rfl) T.z_isinstance (by decide +kernel) (pa_cons (pv 0) (pa_cons (pe_bltn (v := .ty "bool") (by rfl) T.z_bool (by decide +kernel) rfl) pa_nil)))))))), ?_⟩
    have fin : ∀ b, b = isI d → Q (.bl b) H := fun b e => e ▸ k H (Evl.Ex.refl H)
    refine ⟨_, rfl, ?_⟩
    refine ⟨_, _, _, _, _, rfl, .ty _, tyX_of hd, kit_ty (kit_int d), ?_⟩
    refine ⟨_, rfl, ifB (fun c => ?_) (fun c => ?_)⟩
    · refine ⟨_, rfl, ?_⟩
      refine ⟨_, _, _, _, _, rfl, .ty _, tyX_of hd, kit_ty (kit_bool d), ?_⟩
      exact ⟨_, rfl, fin _ (by rw [isI_of, c]; rfl)⟩
    · exact fin _ (by rw [isI_of, c]; rfl)
/-- a bound, or none -/
inductive Bd : V → Option Int → Prop
  | non : Bd .non none
  | int (i : Int) : Bd (.int i) (some i)
def withinD (d : PyData) (lo hi : Option Int) : Bool := match d with
  | .int i => lo.all (· ≤ i) && hi.all (i ≤ ·)
  | _ => false
def spWithin (K : PySem.W.Frag) : Sp := fun vs H Q _ => ∃ v l m d lo hi, vs = [v, l, m] ∧ Da K H v d ∧ Bd l lo ∧ Bd m hi ∧ ∀ H', Ex H H' → Q (.bl (withinD d lo hi)) H'
theorem ok_is_within (T : Txt K mg) : FnOk P w K mg base CX0 2 T.f_is_within T.d_is_within ["value", "least", "most"] (spWithin K) := by
  have G_is_integer : FnOk P w K mg base CX0 1 T.f_is_integer T.d_is_integer ["value"] (spB K isI) := ok_is_integer T
  refine T.F_is_within.ok sc_is_within (fun vs H Q E h => ?_) (fun cdv A outer s H vs Q E hr h => ?_)
  · obtain ⟨v, l, m, d, lo, hi, rfl, _⟩ := h
    rfl
  · obtain ⟨v, l, m, d, lo, hi, rfl, hd, hl, hm, k⟩ := h
    have hr1 := hr
    refine ⟨_, (pss_cons (ps_if (pt_not (pt_val (pe_call G_is_integer hr1 rfl T.g_is_integer T.F_is_integer.kp (b_is_integer T) .nil pass0 (pa_cons (pv 0) pa_nil)))) (pss_one (ps_ret pe_bl)) pss_nil)
  (pss_cons (ps_if (PW.pt (pw_and (pt_cmpR op_notN (pv 1) pe_non (nomark _)) (pw_and1 (pt_cmpR op_lt (pv 0) (pv 1) (nomark _))))) (pss_one (ps_ret pe_bl)) pss_nil)
  (pss_one (ps_ret (pe_or (pe_cmpR op_isN (pv 2) pe_non (nomark _)) (pe_one (pe_cmpR op_le (pv 0) (pv 2) (nomark _)))))))), ?_⟩
    refine ⟨_, rfl, v, d, rfl, hd, fun H1 e1 => ⟨_, rfl, ?_⟩⟩
    cases hI : isI d with
    | false =>
      refine k H1 e1 |> fun q => ?_
      have e : withinD d lo hi = false := by cases d <;> simp_all [isI, withinD]
      rw [e] at q
      exact q
    | true =>
      obtain ⟨i, rfl⟩ : ∃ i, d = .int i := by cases d <;> simp_all [isI]
      cases hd
      have fin : ∀ b, b = withinD (.int i) lo hi → Q (.bl b) H1 := fun b e => e ▸ k H1 e1
      cases hl with
      | non =>
        walk_at "rd"
        cases hm with
        | non => walk_at "rd"; exact fin _ (by simp [withinD])
        | int m => walk_at "rd"; exact fin _ (by simp [withinD])
      | int l =>
        walk_at "rd"
        refine ifB (fun c => ?_) (fun c => ?_)
        · walk_at "rd"
          exact fin _ (by have := of_decide_eq_true c; simp [withinD]; omega)
        · have c' : l ≤ i := by have := of_decide_eq_false c; omega
          walk_at "rd"
          cases hm with
          | non => walk_at "rd"; exact fin _ (by simp [withinD, c'])
          | int m => walk_at "rd"; exact fin _ (by simp [withinD, c'])
theorem ok_is_square (T : Txt K mg) : FnOk P w K mg base CX0 2 T.f_is_square T.d_is_square ["value"] (spB K isSq) := by
  have G_is_integer : FnOk P w K mg base CX0 1 T.f_is_integer T.d_is_integer ["value"] (spB K isI) := ok_is_integer T
  refine T.F_is_square.ok sc_is_square (fun vs H Q E h => ?_) (fun cdv A outer s H vs Q E hr h => ?_)
  · obtain ⟨v, d, rfl, _⟩ := h
    rfl
  · obtain ⟨v, d, rfl, hd, k⟩ := h
    have hr1 := hr
    refine ⟨_, (pss_cons (ps_if (PW.pt (pw_or (pt_not (pt_val (pe_callB call_isiT (by rfl) T.z_isinstance (by decide +kernel) (pa_cons (pv 0) (pa_cons (pe_tup (pa_cons (pe_bltn (v := .ty "list") (by rfl) T.z_list (by decide +kernel) rfl) (pa_cons (pe_bltn (v := .ty "tuple") (by rfl) T.z_tuple (by decide +kernel) rfl) pa_nil))) pa_nil))))) (pw_or1 (pt_cmpR op_ne (pe_callB call_len_seq (by rfl) T.z_len (by decide +kernel) (pa_cons (pv 0) pa_nil)) pe_int (nomark _))))) (pss_one (ps_ret pe_bl)) pss_nil)
  (pss_one (ps_ret (pe_and (pe_call G_is_integer hr1 rfl T.g_is_integer T.F_is_integer.kp (b_is_integer T) .nil pass0 (pa_cons (pe_ix ix_seq (pv 0) pe_int (fun _ _ => rfl)) pa_nil)) (pe_one (pe_call G_is_integer hr1 rfl T.g_is_integer T.F_is_integer.kp (b_is_integer T) .nil pass0 (pa_cons (pe_ix ix_seq (pv 0) pe_int (fun _ _ => rfl)) pa_nil))))))), ?_⟩
    refine ⟨_, rfl, (by show 2 ≤ sizeLine; decide), fun tp hp => ?_⟩
    have hd1 := Da.mono (Evl.Ex.new (o := .tup [.ty "list", .ty "tuple"]) hp) d hd
    refine ⟨_, _, _, _, _, _, rfl, upd_same, .cons (.ty _) (.cons (.ty _) .nil), tyX_of hd1, kit_seq d, ?_⟩
    have e1 : Ex H (upd H tp (.tup [.ty "list", .ty "tuple"])) := Evl.Ex.new hp
    have fin : ∀ b H2, b = isSq d → Ex H H2 → Q (.bl b) H2 := fun b H2 e => e ▸ k H2
    refine ⟨_, rfl, ?_⟩
    refine ifB (fun c => ?_) (fun c => ?_)
    · walk_at "rd"
      refine fin _ _ ?_ e1
      cases e : seqOf d with
      | none => rw [sq_no e]
      | some ds => rw [e] at c; cases c
    · obtain ⟨ds, e⟩ : ∃ ds, seqOf d = some ds := by
        cases e : seqOf d with
        | none => rw [e] at c; cases c
        | some ds => exact ⟨ds, rfl⟩
      obtain ⟨a, xs, rfl, hs, ha⟩ := seq_at hd1 e
      walk_at "rd"
      refine ifB (fun c2 => ?_) (fun c2 => ?_)
      · walk_at "rd"
        refine fin _ _ (sq_not e ?_).symm e1
        rw [← ha.len]
        intro hl
        rw [hl] at c2
        exact absurd c2 (by decide)
      · have hl : xs.length = 2 := by
          have := of_decide_eq_true (by simpa using c2 : decide (V.int (xs.length : Int) = V.int 2) = true)
          injection this with this
          omega
        obtain ⟨x, y, d0, d1, rfl, rfl, h0, h1⟩ := da_two ha hl
        rcases hs with hs | hs
        all_goals
          walk_at "rd"
          intro H2 e2
          refine ⟨_, rfl, ifB (fun c3 => ?_) (fun c3 => ?_)⟩
          · have h1' := Da.mono e2 d1 h1
            have hs2 := seq_ex (K := K) e2 (by first | exact Or.inl hs | exact Or.inr hs)
            rcases hs2 with hs2 | hs2
            all_goals
              walk_at "rd"
              refine fun H3 e3 => fin _ _ ?_ ((e1.trans e2).trans e3)
              rw [sq_two e, c3]
              rfl
          · refine fin _ _ ?_ (e1.trans e2)
            rw [sq_two e, c3]
            rfl
end
end K02
namespace K02
open PySem PySem.Spec PyProof.Rows L2 Kg
open Evl (Ex)


section
variable {P : Program} {w : World} {K : PySem.W.Frag} {mg : Str → Option Value} {base : Heap}
def spAre (K : PySem.W.Frag) : Sp := fun vs H Q _ => ∃ v d, vs = [v] ∧ Da K H v d ∧ (∀ ds, seqOf d = some ds → ds.length < 60) ∧ ∀ H', Ex H H' → Q (.bl (areSq d)) H'
theorem ok_are_squares (T : Txt K mg) : FnOk P w K mg base CX0 3 T.f_are_squares T.d_are_squares ["value"] (spAre K) := by
  have G_is_square : FnOk P w K mg base CX0 2 T.f_is_square T.d_is_square ["value"] (spB K isSq) := ok_is_square T
  refine T.F_are_squares.ok sc_are_squares (fun vs H Q E h => ?_) (fun cdv A outer s H vs Q E hr h => ?_)
  · obtain ⟨v, d, rfl, _⟩ := h
    rfl
  · obtain ⟨v, d, rfl, hd, few, k⟩ := h
    have hr1 := hr
    have hu1 := hu_of hr
    refine ⟨_, (pss_cons (ps_if (pt_not (pt_val (pe_callB call_isiT (by rfl) T.z_isinstance (by decide +kernel) (pa_cons (pv 0) (pa_cons (pe_tup (pa_cons (pe_bltn (v := .ty "list") (by rfl) T.z_list (by decide +kernel) rfl) (pa_cons (pe_bltn (v := .ty "tuple") (by rfl) T.z_tuple (by decide +kernel) rfl) pa_nil))) pa_nil))))) (pss_one (ps_ret pe_bl)) pss_nil)
  (pss_cons (ps_if (pt_not (pt_val (pe_callB (cr_all rfl) (by rfl) T.z_all (by decide +kernel) (pa_cons (pe_lc (own := [("item", 1)]) (g := (gName 1)) rfl sc_are_squares.nd (pi_or (pi_list (pv 0)) (pi_tup (pv 0))) (blkOk_by (own := [("item", 1)]) (N := ["value", "item"]) (sc := defScope s_are_squares) (by decide +kernel)) (fun _ _ _ _ _ => (pg_name (i := 1) sc_are_squares.nd rfl (Or.inl rfl))) (fun _ _ _ _ _ => pts_nil) (fun _ _ _ _ _ => (pe_call G_is_square hr1 rfl T.g_is_square T.F_is_square.kp (b_is_square T) .nil pass0 (pa_cons (pv 1) pa_nil)))) pa_nil)))) (pss_one (ps_ret pe_bl)) pss_nil)
  (pss_one (ps_ret (pe_cmpR op_eq (pe_callB cr_lenST (by rfl) T.z_len (by decide +kernel) (pa_cons (pe_scT hu1 rfl sc_are_squares.nd (pi_or (pi_list (pv 0)) (pi_tup (pv 0))) (blkOk_by (own := [("item", 1)]) (N := ["value", "item"]) (sc := defScope s_are_squares) (by decide +kernel)) (fun _ _ _ _ _ => (pg_name (i := 1) sc_are_squares.nd rfl (Or.inl rfl))) (fun _ _ _ _ _ => pts_nil) (fun _ _ _ _ _ => (pe_tup (pa_cons (pe_ix (show IxR _ (rIx K) from ix_seq) (pv 1) pe_int (fun _ _ => rfl)) (pa_cons (pe_ix (show IxR _ (rIx K) from ix_seq) (pv 1) pe_int (fun _ _ => rfl)) pa_nil))))) pa_nil)) (pe_callB call_len_seq (by rfl) T.z_len (by decide +kernel) (pa_cons (pv 0) pa_nil)) (nomark _)))))), ?_⟩
    refine ⟨_, rfl, (by show 2 ≤ sizeLine; decide), fun tp hp => ?_⟩
    have hd1 := Da.mono (Evl.Ex.new (o := .tup [.ty "list", .ty "tuple"]) hp) d hd
    refine ⟨_, _, _, _, _, _, rfl, upd_same, .cons (.ty _) (.cons (.ty _) .nil), tyX_of hd1, kit_seq d, ?_⟩
    have e1 : Ex H (upd H tp (.tup [.ty "list", .ty "tuple"])) := Evl.Ex.new hp
    have fin : ∀ b H2, b = areSq d → Ex H H2 → Q (.bl b) H2 := fun b H2 e => e ▸ k H2
    refine ⟨_, rfl, ?_⟩
    refine ifB (fun c => ?_) (fun c => ?_)
    · walk_at "rd"
      refine fin _ _ ?_ e1
      unfold areSq
      cases e : seqOf d with
      | none => rfl
      | some ds => rw [e] at c; cases c
    · obtain ⟨ds, e⟩ : ∃ ds, seqOf d = some ds := by
        cases e : seqOf d with
        | none => rw [e] at c; cases c
        | some ds => exact ⟨ds, rfl⟩
      have are : areSq d = (ds.all isSq && decide ((ds.map sqOf).Nodup)) := by unfold areSq; rw [e]
      have few := few ds e
      obtain ⟨a, xs, rfl, hs, ha⟩ := seq_at hd1 e
      have hlen := ha.len
      generalize upd H tp (.tup [.ty "list", .ty "tuple"]) = H1 at hd1 e1 hs ha ⊢
      have small : sizeLine = 16777216 := sizeLine_eq
      rcases hs with hs | hs
      · refine Or.inl ?_
        refine ⟨_, rfl, a, rfl, ⟨xs, hs⟩, fun D hD => ?_⟩
        refine lc_list (K := K) (a := a) (xs := xs) (fun i H' => Ex H1 H' ∧ H' D = some (.lst (((ds.take i).map isSq).map V.bl))) ⟨Evl.Ex.new hD, upd_same⟩ (fun i H' _ p => Evl.ex_l p.1 hs) ?_ ?_
        · rintro i x H' hi ⟨p1, p2⟩
          obtain ⟨di, hdi, hx⟩ := ha.at hi
          have lt := (List.getElem?_eq_some_iff.mp hi).1
          refine ⟨rfl, ?_⟩
          refine ⟨_, rfl, x, di, rfl, Da.mono p1 di hx, fun H4 e4 => ?_⟩
          refine ⟨_, e4 D _ p2, ?_, Evl.Ex.mut (p1.trans e4) hD, ?_⟩
          · simp only [List.length_map, List.length_take]
            omega
          · rw [upd_same, take_one hdi]
            simp
        · rintro H2 ⟨p1, p2⟩
          have hall : ((ds.take xs.length).map isSq).all id = ds.all isSq := by
            rw [hlen, List.take_length, List.all_map]; rfl
          refine ⟨D, _, rfl, SqL.of p2, ?_⟩
          rw [hall]
          refine ⟨_, rfl, ?_⟩
          refine ifB (fun c2 => ?_) (fun c2 => ?_)
          · have c3 : ds.all isSq = false := by simpa using c2
            walk_at "rd"
            refine fin _ _ ?_ (e1.trans p1)
            rw [are, c3]
            rfl
          · have c3 : ds.all isSq = true := by simpa using c2
            have hsq : ∀ i x, xs[i]? = some x → ∃ d, ds[i]? = some d ∧ Da K H1 x d ∧ isSq d = true := fun i x hi => by
              obtain ⟨d, hd, hx⟩ := ha.at hi
              exact ⟨d, hd, hx, List.all_eq_true.mp c3 d (List.mem_of_getElem? hd)⟩
            refine Or.inl ?_
            refine ⟨_, rfl, a, rfl, ⟨xs, Evl.ex_l p1 hs⟩, fun D2 hD2 => ?_⟩
            refine scT_seq (xs := xs) (Held K P w D2 H2 ds) ⟨Evl.Ex.new hD2, [], upd_same, by simp, by simp, by simp, by simp⟩ (fun H3 h3 => ⟨xs, Evl.ex_l (p1.trans h3.ex) hs, Nat.le_refl _⟩)
              (fun i H3 hi h3 => ⟨xs, xs[i], Evl.ex_l (p1.trans h3.ex) hs, by simp [hi]⟩) (fun i H3 x H' hi h3 y => ⟨y.1, y.2 xs (Evl.ex_l (p1.trans h3.ex) hs)⟩) ?_ ?_
            · rintro i x H3 hi h3
              obtain ⟨di, hdi, hx, hsd⟩ := hsq i x hi
              have lt := (List.getElem?_eq_some_iff.mp hi).1
              obtain ⟨L, hL, hLt, hLk, hLn, hLl⟩ := h3.it
              obtain ⟨c0, z0, z1, rfl, hsq2, hc0⟩ := sq_at (Da.mono (p1.trans h3.ex) di hx) hsd
              have kq : Kg.keyOf di = [z0, z1] := by unfold Kg.keyOf; rw [hsq2]
              refine ⟨rfl, ?_⟩
              rcases hc0 with hc0 | hc0
              all_goals
                walk_at "rd"
                intro t ht
                have et : Ex H3 (upd H3 t (.tup [.int z0, .int z1])) := Evl.Ex.new ht
                refine ⟨t, Kg.keyOf di, L, rfl, .inl (.inl ?_), et _ _ hL, fun p hp => Evl.ex_t et (hLt p hp), by omega, fun L' c1 c2 => ?_⟩
                · rw [kq]; exact upd_same
                · refine Held.turn (h3.ex.trans et) hD2 hdi (et _ _ hL) (fun p hp => Evl.ex_t et (hLt p hp)) (.inl (.inl ?_)) hLk hLn hLl c1 c2
                  rw [kq]; exact upd_same
            · rintro H3 h3
              obtain ⟨L, hL, hLt, hLk, hLn, hLl⟩ := h3.it
              have hx2 := Evl.ex_l (p1.trans h3.ex) hs
              walk_at "rd"
              refine fin _ _ ?_ ((e1.trans p1).trans h3.ex)
              rw [are, c3, Bool.true_and]
              have iff := len_iff_nodup (M := L.map (·.2)) (N := ds.map Kg.keyOf) hLn (by rw [hlen, List.take_length] at hLk; exact hLk)
              rw [List.length_map, List.length_map, keys_nodup c3] at iff
              have e5 : (V.int (L.length : Int) = V.int (xs.length : Int)) ↔ L.length = ds.length := by
                constructor
                · intro z
                  injection z with z
                  omega
                · intro z
                  rw [z, hlen]
              exact decide_eq_decide.mpr (e5.trans iff)
      · refine Or.inr ?_
        refine ⟨_, rfl, a, rfl, ⟨xs, hs⟩, fun D hD => ?_⟩
        refine lc_tup (K := K) (a := a) (xs := xs) (fun i H' => Ex H1 H' ∧ H' D = some (.lst (((ds.take i).map isSq).map V.bl))) ⟨Evl.Ex.new hD, upd_same⟩ (fun i H' _ p => Evl.ex_t p.1 hs) ?_ ?_
        · rintro i x H' hi ⟨p1, p2⟩
          obtain ⟨di, hdi, hx⟩ := ha.at hi
          have lt := (List.getElem?_eq_some_iff.mp hi).1
          refine ⟨rfl, ?_⟩
          refine ⟨_, rfl, x, di, rfl, Da.mono p1 di hx, fun H4 e4 => ?_⟩
          refine ⟨_, e4 D _ p2, ?_, Evl.Ex.mut (p1.trans e4) hD, ?_⟩
          · simp only [List.length_map, List.length_take]
            omega
          · rw [upd_same, take_one hdi]
            simp
        · rintro H2 ⟨p1, p2⟩
          have hall : ((ds.take xs.length).map isSq).all id = ds.all isSq := by
            rw [hlen, List.take_length, List.all_map]; rfl
          refine ⟨D, _, rfl, SqL.of p2, ?_⟩
          rw [hall]
          refine ⟨_, rfl, ?_⟩
          refine ifB (fun c2 => ?_) (fun c2 => ?_)
          · have c3 : ds.all isSq = false := by simpa using c2
            walk_at "rd"
            refine fin _ _ ?_ (e1.trans p1)
            rw [are, c3]
            rfl
          · have c3 : ds.all isSq = true := by simpa using c2
            have hsq : ∀ i x, xs[i]? = some x → ∃ d, ds[i]? = some d ∧ Da K H1 x d ∧ isSq d = true := fun i x hi => by
              obtain ⟨d, hd, hx⟩ := ha.at hi
              exact ⟨d, hd, hx, List.all_eq_true.mp c3 d (List.mem_of_getElem? hd)⟩
            refine Or.inr ?_
            refine ⟨_, rfl, a, rfl, ⟨xs, Evl.ex_t p1 hs⟩, fun D2 hD2 => ?_⟩
            refine scT_seq (xs := xs) (Held K P w D2 H2 ds) ⟨Evl.Ex.new hD2, [], upd_same, by simp, by simp, by simp, by simp⟩ (fun H3 h3 => ⟨xs, Evl.ex_t (p1.trans h3.ex) hs, Nat.le_refl _⟩)
              (fun i H3 hi h3 => ⟨xs, xs[i], Evl.ex_t (p1.trans h3.ex) hs, by simp [hi]⟩) (fun i H3 x H' hi h3 y => ⟨y.1, y.2 xs (Evl.ex_t (p1.trans h3.ex) hs)⟩) ?_ ?_
            · rintro i x H3 hi h3
              obtain ⟨di, hdi, hx, hsd⟩ := hsq i x hi
              have lt := (List.getElem?_eq_some_iff.mp hi).1
              obtain ⟨L, hL, hLt, hLk, hLn, hLl⟩ := h3.it
              obtain ⟨c0, z0, z1, rfl, hsq2, hc0⟩ := sq_at (Da.mono (p1.trans h3.ex) di hx) hsd
              have kq : Kg.keyOf di = [z0, z1] := by unfold Kg.keyOf; rw [hsq2]
              refine ⟨rfl, ?_⟩
              rcases hc0 with hc0 | hc0
              all_goals
                walk_at "rd"
                intro t ht
                have et : Ex H3 (upd H3 t (.tup [.int z0, .int z1])) := Evl.Ex.new ht
                refine ⟨t, Kg.keyOf di, L, rfl, .inl (.inl ?_), et _ _ hL, fun p hp => Evl.ex_t et (hLt p hp), by omega, fun L' c1 c2 => ?_⟩
                · rw [kq]; exact upd_same
                · refine Held.turn (h3.ex.trans et) hD2 hdi (et _ _ hL) (fun p hp => Evl.ex_t et (hLt p hp)) (.inl (.inl ?_)) hLk hLn hLl c1 c2
                  rw [kq]; exact upd_same
            · rintro H3 h3
              obtain ⟨L, hL, hLt, hLk, hLn, hLl⟩ := h3.it
              have hx2 := Evl.ex_t (p1.trans h3.ex) hs
              walk_at "rd"
              refine fin _ _ ?_ ((e1.trans p1).trans h3.ex)
              rw [are, c3, Bool.true_and]
              have iff := len_iff_nodup (M := L.map (·.2)) (N := ds.map Kg.keyOf) hLn (by rw [hlen, List.take_length] at hLk; exact hLk)
              rw [List.length_map, List.length_map, keys_nodup c3] at iff
              have e5 : (V.int (L.length : Int) = V.int (xs.length : Int)) ↔ L.length = ds.length := by
                constructor
                · intro z
                  injection z with z
                  omega
                · intro z
                  rw [z, hlen]
              exact decide_eq_decide.mpr (e5.trans iff)
end
end K02
namespace K02
open PySem PySem.Spec PyProof.Rows L2 Kg
open Evl (Ex)


section
variable {P : Program} {w : World} {K : PySem.W.Frag} {mg : Str → Option Value} {base : Heap}
theorem ok_w_is_number (T : Txt K mg) : FnOk P w K mg base CX0 1 T.f_w_is_number T.d_w_is_number ["value"] (spB K isI) := by
  refine T.F_w_is_number.ok sc_w_is_number (fun vs H Q E h => ?_) (fun cdv A outer s H vs Q E hr h => ?_)
  · obtain ⟨v, d, rfl, _⟩ := h
    rfl
  · obtain ⟨v, d, rfl, hd, k⟩ := h
    refine ⟨_, (pss_one (ps_ret (pe_and (pe_callB call_isi (by rfl) T.z_isinstance (by decide +kernel) (pa_cons (pv 0) (pa_cons (pe_bltn (v := .ty "int") (by rfl) T.z_int (by decide +kernel) rfl) pa_nil))) (pe_one (pe_not (pe_callB call_isi (by rfl) T.z_isinstance (by decide +kernel) (pa_cons (pv 0) (pa_cons (pe_bltn (v := .ty "bool") (by rfl) T.z_bool (by decide +kernel) rfl) pa_nil)))))))), ?_⟩
    have fin : ∀ b, b = isI d → Q (.bl b) H := fun b e => e ▸ k H (Evl.Ex.refl H)
    refine ⟨_, rfl, ?_⟩
    refine ⟨_, _, _, _, _, rfl, .ty _, tyX_of hd, kit_ty (kit_int d), ?_⟩
    refine ⟨_, rfl, ifB (fun c => ?_) (fun c => ?_)⟩
    · refine ⟨_, rfl, ?_⟩
      refine ⟨_, _, _, _, _, rfl, .ty _, tyX_of hd, kit_ty (kit_bool d), ?_⟩
      exact ⟨_, rfl, fin _ (by rw [isI_of, c]; rfl)⟩
    · exact fin _ (by rw [isI_of, c]; rfl)
theorem ok_w_is_pair (T : Txt K mg) : FnOk P w K mg base CX0 2 T.f_w_is_pair T.d_w_is_pair ["value"] (spB K isSq) := by
  have G_w_is_number : FnOk P w K mg base CX0 1 T.f_w_is_number T.d_w_is_number ["value"] (spB K isI) := ok_w_is_number T
  refine T.F_w_is_pair.ok sc_w_is_pair (fun vs H Q E h => ?_) (fun cdv A outer s H vs Q E hr h => ?_)
  · obtain ⟨v, d, rfl, _⟩ := h
    rfl
  · obtain ⟨v, d, rfl, hd, k⟩ := h
    have hr1 := hr
    refine ⟨_, (pss_one (ps_ret (pe_and (pe_callB call_isiT (by rfl) T.z_isinstance (by decide +kernel) (pa_cons (pv 0) (pa_cons (pe_tup (pa_cons (pe_bltn (v := .ty "list") (by rfl) T.z_list (by decide +kernel) rfl) (pa_cons (pe_bltn (v := .ty "tuple") (by rfl) T.z_tuple (by decide +kernel) rfl) pa_nil))) pa_nil))) (pe_and (pe_cmpR op_eq (pe_callB call_len_seq (by rfl) T.z_len (by decide +kernel) (pa_cons (pv 0) pa_nil)) pe_int (nomark _)) (pe_and (pe_call G_w_is_number hr1 rfl T.g_w_is_number T.F_w_is_number.kp (b_w_is_number T) .nil pass0 (pa_cons (pe_ix ix_seq (pv 0) pe_int (fun _ _ => rfl)) pa_nil)) (pe_one (pe_call G_w_is_number hr1 rfl T.g_w_is_number T.F_w_is_number.kp (b_w_is_number T) .nil pass0 (pa_cons (pe_ix ix_seq (pv 0) pe_int (fun _ _ => rfl)) pa_nil)))))))), ?_⟩
    refine ⟨_, rfl, (by show 2 ≤ sizeLine; decide), fun tp hp => ?_⟩
    have hd1 := Da.mono (Evl.Ex.new (o := .tup [.ty "list", .ty "tuple"]) hp) d hd
    refine ⟨_, _, _, _, _, _, rfl, upd_same, .cons (.ty _) (.cons (.ty _) .nil), tyX_of hd1, kit_seq d, ?_⟩
    have e1 : Ex H (upd H tp (.tup [.ty "list", .ty "tuple"])) := Evl.Ex.new hp
    have fin : ∀ b H2, b = isSq d → Ex H H2 → Q (.bl b) H2 := fun b H2 e => e ▸ k H2
    refine ⟨_, rfl, ?_⟩
    refine ifB (fun c => ?_) (fun c => ?_)
    · obtain ⟨ds, e⟩ := Option.isSome_iff_exists.mp c
      obtain ⟨a, xs, rfl, hs, ha⟩ := seq_at hd1 e
      walk_at "rd"
      refine ifB (fun c2 => ?_) (fun c2 => ?_)
      · have hl : xs.length = 2 := by
          have := of_decide_eq_true c2
          injection this with this
          omega
        obtain ⟨x, y, d0, d1, rfl, rfl, h0, h1⟩ := da_two ha hl
        rcases hs with hs | hs
        all_goals
          walk_at "rd"
          intro H2 e2
          refine ⟨_, rfl, ifB (fun c3 => ?_) (fun c3 => ?_)⟩
          · have h1' := Da.mono e2 d1 h1
            have hs2 := seq_ex (K := K) e2 (by first | exact Or.inl hs | exact Or.inr hs)
            rcases hs2 with hs2 | hs2
            all_goals
              walk_at "rd"
              refine fun H3 e3 => fin _ _ ?_ ((e1.trans e2).trans e3)
              rw [sq_two e, c3]
              rfl
          · refine fin _ _ ?_ (e1.trans e2)
            rw [sq_two e, c3]
            rfl
      · refine fin _ _ (sq_not e ?_).symm e1
        rw [← ha.len]
        intro hl
        rw [hl] at c2
        exact absurd c2 (by decide)
    · refine fin _ _ ?_ e1
      cases e : seqOf d with
      | none => rw [sq_no e]
      | some ds => rw [e] at c; cases c
theorem ok_w_are_pairs (T : Txt K mg) : FnOk P w K mg base CX0 3 T.f_w_are_pairs T.d_w_are_pairs ["value"] (spAre K) := by
  have G_w_is_pair : FnOk P w K mg base CX0 2 T.f_w_is_pair T.d_w_is_pair ["value"] (spB K isSq) := ok_w_is_pair T
  refine T.F_w_are_pairs.ok sc_w_are_pairs (fun vs H Q E h => ?_) (fun cdv A outer s H vs Q E hr h => ?_)
  · obtain ⟨v, d, rfl, _⟩ := h
    rfl
  · obtain ⟨v, d, rfl, hd, few, k⟩ := h
    have hr1 := hr
    have hu2 := hr.units
    have hu65 : (A.deeper (envOfC "_law_are_pairs" (defScope s_w_are_pairs) s.heap.objs.size T.f_w_are_pairs cdv)).units + 65 < cLine := by have := hr.un; omega
    refine ⟨_, (pss_cons (ps_if (PW.pt (pw_or (pt_not (pt_val (pe_callB call_isiT (by rfl) T.z_isinstance (by decide +kernel) (pa_cons (pv 0) (pa_cons (pe_tup (pa_cons (pe_bltn (v := .ty "list") (by rfl) T.z_list (by decide +kernel) rfl) (pa_cons (pe_bltn (v := .ty "tuple") (by rfl) T.z_tuple (by decide +kernel) rfl) pa_nil))) pa_nil))))) (pw_or1 (pt_cmpR (op_neNil hu2) (pe_lc (own := [("each", 1)]) (g := (gName 1)) rfl sc_w_are_pairs.nd (pi_or (pi_list (pv 0)) (pi_tup (pv 0))) (blkOk_by (own := [("each", 1)]) (N := ["value", "each", "rows", "at", "row"]) (sc := defScope s_w_are_pairs) (by decide +kernel)) (fun _ _ _ _ _ => (pg_name (i := 1) sc_w_are_pairs.nd rfl (Or.inl rfl))) (fun _ _ _ _ _ => (pts_one (pt_not (pt_val (pe_call G_w_is_pair hr1 rfl T.g_w_is_pair T.F_w_is_pair.kp (b_w_is_pair T) .nil pass0 (pa_cons (pv 1) pa_nil)))))) (fun _ _ _ _ _ => (pv 1))) (pe_lst pa_nil) (nomark _))))) (pss_one (ps_ret pe_bl)) pss_nil)
  (pss_cons (ps_set (i := 2) sc_w_are_pairs.nd rfl (Or.inr rfl) (pe_lc (own := [("each", 1)]) (g := (gName 1)) rfl sc_w_are_pairs.nd (pi_or (pi_list (pv 0)) (pi_tup (pv 0))) (blkOk_by (own := [("each", 1)]) (N := ["value", "each", "rows", "at", "row"]) (sc := defScope s_w_are_pairs) (by decide +kernel)) (fun _ _ _ _ _ => (pg_name (i := 1) sc_w_are_pairs.nd rfl (Or.inl rfl))) (fun _ _ _ _ _ => pts_nil) (fun _ _ _ _ _ => (pe_lst (pa_cons (pe_ix (show IxR _ (rIx K) from ix_seq) (pv 1) pe_int (fun _ _ => rfl)) (pa_cons (pe_ix (show IxR _ (rIx K) from ix_seq) (pv 1) pe_int (fun _ _ => rfl)) pa_nil))))))
  (pss_one (ps_ret (pe_cmpR (op_eqNil hu2) (pe_lc (own := [("at", 3), ("row", 4)]) (g := (gTup K 2 (gCons (gName 3) (gCons (gName 4) gNil)))) rfl sc_w_are_pairs.nd (pi_enum (by rfl) T.z_enumerate (pa_cons (pv 2) pa_nil)) (blkOk_by (own := [("at", 3), ("row", 4)]) (N := ["value", "each", "rows", "at", "row"]) (sc := defScope s_w_are_pairs) (by decide +kernel)) (fun _ _ _ _ _ => (show PG _ _ (gTup K 2 (gCons (gName 3) (gCons (gName 4) gNil))) from pg_tup rfl (pgs_cons (pg_name (i := 3) sc_w_are_pairs.nd rfl (Or.inl rfl)) (pgs_cons (pg_name (i := 4) sc_w_are_pairs.nd rfl (Or.inl rfl)) pgs_nil)))) (fun _ _ _ _ _ => (pts_one (pt_cmpR (show OpR _ _ (rInD K) from op_inD hu65) (pv 4) (pe_slice (show SlR _ (rSlL K) from sl_list) (pv 2) po_none (po_some (pv 3))) (by rfl)))) (fun _ _ _ _ _ => (pv 3))) (pe_lst pa_nil) (nomark _)))))), ?_⟩
    have small : sizeLine = 16777216 := sizeLine_eq
    refine ⟨_, rfl, (by show 2 ≤ sizeLine; decide), fun tp hp => ?_⟩
    have hd1 := Da.mono (Evl.Ex.new (o := .tup [.ty "list", .ty "tuple"]) hp) d hd
    refine ⟨_, _, _, _, _, _, rfl, upd_same, .cons (.ty _) (.cons (.ty _) .nil), tyX_of hd1, kit_seq d, ?_⟩
    have e1 : Ex H (upd H tp (.tup [.ty "list", .ty "tuple"])) := Evl.Ex.new hp
    have fin : ∀ b H2, b = areSq d → Ex H H2 → Q (.bl b) H2 := fun b H2 e => e ▸ k H2
    refine ⟨_, rfl, ?_⟩
    refine ifB (fun c => ?_) (fun c => ?_)
    · walk_at "rd"
      refine fin _ _ ?_ e1
      unfold areSq
      cases e : seqOf d with
      | none => rfl
      | some ds => rw [e] at c; cases c
    · obtain ⟨ds, e⟩ : ∃ ds, seqOf d = some ds := by
        cases e : seqOf d with
        | none => rw [e] at c; cases c
        | some ds => exact ⟨ds, rfl⟩
      have are : areSq d = (ds.all isSq && decide ((ds.map sqOf).Nodup)) := by unfold areSq; rw [e]
      have few := few ds e
      obtain ⟨a, xs, rfl, hs, ha⟩ := seq_at hd1 e
      have hlen := ha.len
      generalize upd H tp (.tup [.ty "list", .ty "tuple"]) = H1 at hd1 e1 hs ha ⊢
      rcases hs with hs | hs
      · refine Or.inl ?_
        refine ⟨_, rfl, a, rfl, ⟨xs, hs⟩, fun D hD => ?_⟩
        refine lc_list (K := K) (a := a) (xs := xs) (fun i H' => Ex H1 H' ∧ ∃ acc, H' D = some (.lst acc) ∧ acc.isEmpty = (ds.take i).all isSq ∧ acc.length ≤ i) ⟨Evl.Ex.new hD, [], upd_same, rfl, Nat.le_refl _⟩ (fun i H' _ p => Evl.ex_l p.1 hs) ?_ ?_
        · rintro i x H' hi ⟨p1, acc, p2, p3, p4⟩
          obtain ⟨di, hdi, hx⟩ := ha.at hi
          have lt := (List.getElem?_eq_some_iff.mp hi).1
          refine ⟨rfl, ?_⟩
          refine ⟨_, rfl, x, di, rfl, Da.mono p1 di hx, fun H4 e4 => ?_⟩
          refine ⟨_, rfl, ?_⟩
          refine ifB (fun c2 => ?_) (fun c2 => ?_)
          · refine ⟨_, rfl, acc, e4 D _ p2, by omega, Evl.Ex.mut (p1.trans e4) hD, _, upd_same, ?_, ?_⟩
            · rw [take_one hdi, List.all_append]
              have : isSq di = false := by simpa using c2
              simp [this]
            · rw [List.length_append, List.length_singleton]; omega
          · refine ⟨p1.trans e4, acc, e4 D _ p2, ?_, by omega⟩
            rw [take_one hdi, List.all_append, ← p3]
            have : isSq di = true := by simpa using c2
            simp [this]
        · rintro H2 ⟨p1, acc, p2, p3, p4⟩
          refine ⟨Nat.zero_le _, fun l hl => ?_⟩
          have el : Ex H2 (upd H2 l (.lst [])) := Evl.Ex.new hl
          refine ⟨D, l, acc, rfl, rfl, SqL.of (el _ _ p2), SqL.of upd_same, ?_⟩
          refine ⟨_, rfl, ?_⟩
          have hall : acc.isEmpty = ds.all isSq := by rw [p3, hlen, List.take_length]
          refine ifB (fun c2 => ?_) (fun c2 => ?_)
          · walk_at "rd"
            refine fin _ _ ?_ ((e1.trans p1).trans el)
            have : ds.all isSq = false := by rw [← hall]; simpa using c2
            rw [are, this]
            rfl
          · have c3 : ds.all isSq = true := by rw [← hall]; simpa using c2
            have hsq : ∀ i x, xs[i]? = some x → ∃ d z, ds[i]? = some d ∧ Da K H1 x d ∧ isSq d = true ∧ (prs ds)[i]? = some z ∧ sqOf d = some z := fun i x hi => by
              obtain ⟨d, hd, hx⟩ := ha.at hi
              obtain ⟨z, h1, h2⟩ := prs_at c3 hd
              exact ⟨d, z, hd, hx, List.all_eq_true.mp c3 d (List.mem_of_getElem? hd), h1, h2⟩
            have hpl := prs_len c3
            have q1 := p1.trans el
            generalize upd H2 l (.lst []) = H3 at q1 ⊢
            refine Or.inl ?_
            refine ⟨_, rfl, a, rfl, ⟨xs, Evl.ex_l q1 hs⟩, fun D2 hD2 => ?_⟩
            refine lc_list (K := K) (a := a) (xs := xs) (fun i H' => Ex H3 H' ∧ ∃ rs : List Addr, H' D2 = some (.lst (rs.map V.ref)) ∧ Rows2 H' rs ((prs ds).take i)) ⟨Evl.Ex.new hD2, [], upd_same, rfl, by simp⟩ (fun i H' _ p => Evl.ex_l (q1.trans p.1) hs) ?_ ?_
            · rintro i x H' hi ⟨r1, rs, r2, r3⟩
              obtain ⟨di, z, hdi, hx, hsd, hz, hz2⟩ := hsq i x hi
              have lt := (List.getElem?_eq_some_iff.mp hi).1
              obtain ⟨c0, z0, z1, rfl, hq, hc0⟩ := sq_at (Da.mono (q1.trans r1) di hx) hsd
              have ez : z = (z0, z1) := Option.some.inj (hz2.symm.trans hq)
              refine ⟨rfl, ?_⟩
              have hrl : rs.length ≤ i := by rw [r3.len, List.length_take]; omega
              rcases hc0 with hc0 | hc0
              all_goals
                walk_at "rd"
                intro t ht
                have et : Ex H' (upd H' t (.lst [.int z0, .int z1])) := Evl.Ex.new ht
                have ntD : t ≠ D2 := fun q => by rw [q, r2] at ht; cases ht
                refine ⟨_, et _ _ r2, by rw [List.length_map]; omega, Evl.Ex.mut (r1.trans et) hD2, rs ++ [t], ?_, ?_, ?_⟩
                · rw [upd_same, List.map_append]; rfl
                · rw [take_one hz, List.length_append, List.length_append, r3.len]; rfl
                · intro j r z' hj hj'
                  have hne : r ≠ D2 ∧ upd H' t (.lst [.int z0, .int z1]) r = some (.lst [.int z'.1, .int z'.2]) := by
                    rw [take_one hz] at hj'
                    by_cases hjl : j < rs.length
                    · rw [List.getElem?_append_left hjl] at hj
                      rw [List.getElem?_append_left (by rw [← r3.len]; exact hjl)] at hj'
                      have := r3.row j r z' hj hj'
                      refine ⟨fun q => ?_, et _ _ this⟩
                      rw [q, r2] at this
                      injection this with this
                      injection this with this
                      cases rs with
                      | nil => cases this
                      | cons r0 rs => injection this with this; cases this
                    · have hje : j = rs.length := by
                        have := (List.getElem?_eq_some_iff.mp hj).1
                        rw [List.length_append, List.length_singleton] at this
                        omega
                      subst hje
                      rw [List.getElem?_append_right (Nat.le_refl _)] at hj
                      rw [r3.len, List.getElem?_append_right (Nat.le_refl _)] at hj'
                      simp at hj hj'
                      subst hj hj'
                      rw [ez]
                      exact ⟨ntD, upd_same⟩
                  exact (upd_ne hne.1).trans hne.2
            · rintro H4 ⟨r1, rs, r2, r3⟩
              rw [hlen, ← hpl, List.take_length] at r3
              have q2 := q1.trans r1
              refine ⟨_, rfl, D2, _, rfl, SqL.of r2, fun D3 hD3 => ?_⟩
              refine lc_gen (J := Ite K D2) rs.length (fun i H' => Ex H4 H' ∧ ∃ acc, H' D3 = some (.lst acc) ∧ acc.isEmpty = decide (((prs ds).take i).Nodup) ∧ acc.length ≤ i)
                ⟨Evl.Ex.new hD3, [], upd_same, by simp, Nat.le_refl _⟩ (fun H' p => ⟨_, SqL.of (p.1 _ _ r2), by rw [List.length_map]; exact Nat.le_refl _⟩)
                (fun i H' lt p => ⟨_, .ref rs[i], SqL.of (p.1 _ _ r2), by simp [lt]⟩) ?_ ?_
              · rintro i x H5 H' lt ⟨s1, acc, s2, s3, s4⟩ ⟨T', x', rfl, hT, rfl, hx⟩
                have hri := hx _ (SqL.of (s1 _ _ r2))
                rw [List.getElem?_map] at hri
                have hrl : rs.length = (prs ds).length := r3.len
                obtain ⟨z, hz⟩ : ∃ z, (prs ds)[i]? = some z := ⟨_, List.getElem?_eq_getElem (by omega)⟩
                have hr0 : rs[i]? = some rs[i] := List.getElem?_eq_getElem lt
                rw [hr0] at hri
                have ex' : x' = .ref rs[i] := (Option.some.inj hri).symm
                subst ex'
                have e5 : Ex H5 (upd H5 T' (.tup [.int (i : Nat), .ref rs[i]])) := Evl.Ex.new hT
                have hrow := r3.row i rs[i] z hr0 hz
                refine ⟨T', _, rfl, SqT.of upd_same, rfl, _, _, rfl, _, _, rfl, rfl, rfl, ?_⟩
                walk_at "rd"
                have cut : cutV (rs.map V.ref) none (some (i : Int)) = (rs.take i).map V.ref := by rw [cut_to, List.map_take]
                refine ⟨D2, _, rfl, SqL.of (e5 _ _ (s1 _ _ r2)), fun p hp => ?_⟩
                have e6 : Ex (upd H5 T' (.tup [.int (i : Nat), .ref rs[i]])) (upd (upd H5 T' (.tup [.int (i : Nat), .ref rs[i]])) p (.lst (cutV (rs.map V.ref) none (some (i : Int))))) := Evl.Ex.new hp
                have all := s1.trans (e5.trans e6)
                refine ⟨pairL z, ((prs ds).take i).map pairL, .lst (SqL.of (all _ _ hrow)) (.cons (.int _) (.cons (.int _) .nil)),
                  .lst (xs := (rs.take i).map V.ref) (SqL.of (by rw [upd_same, cut])) ((r3.take i).mono all).dp, pairL_shaped z, pairLs_shaped _, ?_⟩
                rw [pairLs_any]
                refine ⟨_, rfl, ?_⟩
                have nd := nodup_next hz
                have back := (e5.trans e6) D3 _ s2
                refine ifB (fun c4 => ?_) (fun c4 => ?_)
                · have c5 := of_decide_eq_true c4
                  refine ⟨_, rfl, acc, back, by omega, Evl.Ex.mut all hD3, _, upd_same, ?_, ?_⟩
                  · have : ¬ ((prs ds).take (i + 1)).Nodup := fun q => (nd.mp q).2 c5
                    rw [decide_eq_false this]
                    simp
                  · rw [List.length_append, List.length_singleton]; omega
                · have c5 := of_decide_eq_false c4
                  refine ⟨all, acc, back, ?_, by omega⟩
                  rw [s3]
                  exact decide_eq_decide.mpr ⟨fun q => nd.mpr ⟨q, c5⟩, fun q => (nd.mp q).1⟩
              · rintro H5 ⟨s1, acc, s2, s3, s4⟩
                refine ⟨Nat.zero_le _, fun l2 hl2 => ?_⟩
                have e6 : Ex H5 (upd H5 l2 (.lst [])) := Evl.Ex.new hl2
                refine ⟨D3, l2, acc, rfl, rfl, SqL.of (e6 _ _ s2), SqL.of upd_same, ?_⟩
                refine fin _ _ ?_ (e1.trans (q2.trans (s1.trans e6)))
                have hrl : rs.length = (prs ds).length := r3.len
                rw [are, c3, Bool.true_and, s3, hrl, List.take_length, prs_some c3]
                exact decide_eq_decide.mpr (nodup_some _).symm
      · refine Or.inr ?_
        refine ⟨_, rfl, a, rfl, ⟨xs, hs⟩, fun D hD => ?_⟩
        refine lc_tup (K := K) (a := a) (xs := xs) (fun i H' => Ex H1 H' ∧ ∃ acc, H' D = some (.lst acc) ∧ acc.isEmpty = (ds.take i).all isSq ∧ acc.length ≤ i) ⟨Evl.Ex.new hD, [], upd_same, rfl, Nat.le_refl _⟩ (fun i H' _ p => Evl.ex_t p.1 hs) ?_ ?_
        · rintro i x H' hi ⟨p1, acc, p2, p3, p4⟩
          obtain ⟨di, hdi, hx⟩ := ha.at hi
          have lt := (List.getElem?_eq_some_iff.mp hi).1
          refine ⟨rfl, ?_⟩
          refine ⟨_, rfl, x, di, rfl, Da.mono p1 di hx, fun H4 e4 => ?_⟩
          refine ⟨_, rfl, ?_⟩
          refine ifB (fun c2 => ?_) (fun c2 => ?_)
          · refine ⟨_, rfl, acc, e4 D _ p2, by omega, Evl.Ex.mut (p1.trans e4) hD, _, upd_same, ?_, ?_⟩
            · rw [take_one hdi, List.all_append]
              have : isSq di = false := by simpa using c2
              simp [this]
            · rw [List.length_append, List.length_singleton]; omega
          · refine ⟨p1.trans e4, acc, e4 D _ p2, ?_, by omega⟩
            rw [take_one hdi, List.all_append, ← p3]
            have : isSq di = true := by simpa using c2
            simp [this]
        · rintro H2 ⟨p1, acc, p2, p3, p4⟩
          refine ⟨Nat.zero_le _, fun l hl => ?_⟩
          have el : Ex H2 (upd H2 l (.lst [])) := Evl.Ex.new hl
          refine ⟨D, l, acc, rfl, rfl, SqL.of (el _ _ p2), SqL.of upd_same, ?_⟩
          refine ⟨_, rfl, ?_⟩
          have hall : acc.isEmpty = ds.all isSq := by rw [p3, hlen, List.take_length]
          refine ifB (fun c2 => ?_) (fun c2 => ?_)
          · walk_at "rd"
            refine fin _ _ ?_ ((e1.trans p1).trans el)
            have : ds.all isSq = false := by rw [← hall]; simpa using c2
            rw [are, this]
            rfl
          · have c3 : ds.all isSq = true := by rw [← hall]; simpa using c2
            have hsq : ∀ i x, xs[i]? = some x → ∃ d z, ds[i]? = some d ∧ Da K H1 x d ∧ isSq d = true ∧ (prs ds)[i]? = some z ∧ sqOf d = some z := fun i x hi => by
              obtain ⟨d, hd, hx⟩ := ha.at hi
              obtain ⟨z, h1, h2⟩ := prs_at c3 hd
              exact ⟨d, z, hd, hx, List.all_eq_true.mp c3 d (List.mem_of_getElem? hd), h1, h2⟩
            have hpl := prs_len c3
            have q1 := p1.trans el
            generalize upd H2 l (.lst []) = H3 at q1 ⊢
            refine Or.inr ?_
            refine ⟨_, rfl, a, rfl, ⟨xs, Evl.ex_t q1 hs⟩, fun D2 hD2 => ?_⟩
            refine lc_tup (K := K) (a := a) (xs := xs) (fun i H' => Ex H3 H' ∧ ∃ rs : List Addr, H' D2 = some (.lst (rs.map V.ref)) ∧ Rows2 H' rs ((prs ds).take i)) ⟨Evl.Ex.new hD2, [], upd_same, rfl, by simp⟩ (fun i H' _ p => Evl.ex_t (q1.trans p.1) hs) ?_ ?_
            · rintro i x H' hi ⟨r1, rs, r2, r3⟩
              obtain ⟨di, z, hdi, hx, hsd, hz, hz2⟩ := hsq i x hi
              have lt := (List.getElem?_eq_some_iff.mp hi).1
              obtain ⟨c0, z0, z1, rfl, hq, hc0⟩ := sq_at (Da.mono (q1.trans r1) di hx) hsd
              have ez : z = (z0, z1) := Option.some.inj (hz2.symm.trans hq)
              refine ⟨rfl, ?_⟩
              have hrl : rs.length ≤ i := by rw [r3.len, List.length_take]; omega
              rcases hc0 with hc0 | hc0
              all_goals
                walk_at "rd"
                intro t ht
                have et : Ex H' (upd H' t (.lst [.int z0, .int z1])) := Evl.Ex.new ht
                have ntD : t ≠ D2 := fun q => by rw [q, r2] at ht; cases ht
                refine ⟨_, et _ _ r2, by rw [List.length_map]; omega, Evl.Ex.mut (r1.trans et) hD2, rs ++ [t], ?_, ?_, ?_⟩
                · rw [upd_same, List.map_append]; rfl
                · rw [take_one hz, List.length_append, List.length_append, r3.len]; rfl
                · intro j r z' hj hj'
                  have hne : r ≠ D2 ∧ upd H' t (.lst [.int z0, .int z1]) r = some (.lst [.int z'.1, .int z'.2]) := by
                    rw [take_one hz] at hj'
                    by_cases hjl : j < rs.length
                    · rw [List.getElem?_append_left hjl] at hj
                      rw [List.getElem?_append_left (by rw [← r3.len]; exact hjl)] at hj'
                      have := r3.row j r z' hj hj'
                      refine ⟨fun q => ?_, et _ _ this⟩
                      rw [q, r2] at this
                      injection this with this
                      injection this with this
                      cases rs with
                      | nil => cases this
                      | cons r0 rs => injection this with this; cases this
                    · have hje : j = rs.length := by
                        have := (List.getElem?_eq_some_iff.mp hj).1
                        rw [List.length_append, List.length_singleton] at this
                        omega
                      subst hje
                      rw [List.getElem?_append_right (Nat.le_refl _)] at hj
                      rw [r3.len, List.getElem?_append_right (Nat.le_refl _)] at hj'
                      simp at hj hj'
                      subst hj hj'
                      rw [ez]
                      exact ⟨ntD, upd_same⟩
                  exact (upd_ne hne.1).trans hne.2
            · rintro H4 ⟨r1, rs, r2, r3⟩
              rw [hlen, ← hpl, List.take_length] at r3
              have q2 := q1.trans r1
              refine ⟨_, rfl, D2, _, rfl, SqL.of r2, fun D3 hD3 => ?_⟩
              refine lc_gen (J := Ite K D2) rs.length (fun i H' => Ex H4 H' ∧ ∃ acc, H' D3 = some (.lst acc) ∧ acc.isEmpty = decide (((prs ds).take i).Nodup) ∧ acc.length ≤ i)
                ⟨Evl.Ex.new hD3, [], upd_same, by simp, Nat.le_refl _⟩ (fun H' p => ⟨_, SqL.of (p.1 _ _ r2), by rw [List.length_map]; exact Nat.le_refl _⟩)
                (fun i H' lt p => ⟨_, .ref rs[i], SqL.of (p.1 _ _ r2), by simp [lt]⟩) ?_ ?_
              · rintro i x H5 H' lt ⟨s1, acc, s2, s3, s4⟩ ⟨T', x', rfl, hT, rfl, hx⟩
                have hri := hx _ (SqL.of (s1 _ _ r2))
                rw [List.getElem?_map] at hri
                have hrl : rs.length = (prs ds).length := r3.len
                obtain ⟨z, hz⟩ : ∃ z, (prs ds)[i]? = some z := ⟨_, List.getElem?_eq_getElem (by omega)⟩
                have hr0 : rs[i]? = some rs[i] := List.getElem?_eq_getElem lt
                rw [hr0] at hri
                have ex' : x' = .ref rs[i] := (Option.some.inj hri).symm
                subst ex'
                have e5 : Ex H5 (upd H5 T' (.tup [.int (i : Nat), .ref rs[i]])) := Evl.Ex.new hT
                have hrow := r3.row i rs[i] z hr0 hz
                refine ⟨T', _, rfl, SqT.of upd_same, rfl, _, _, rfl, _, _, rfl, rfl, rfl, ?_⟩
                walk_at "rd"
                have cut : cutV (rs.map V.ref) none (some (i : Int)) = (rs.take i).map V.ref := by rw [cut_to, List.map_take]
                refine ⟨D2, _, rfl, SqL.of (e5 _ _ (s1 _ _ r2)), fun p hp => ?_⟩
                have e6 : Ex (upd H5 T' (.tup [.int (i : Nat), .ref rs[i]])) (upd (upd H5 T' (.tup [.int (i : Nat), .ref rs[i]])) p (.lst (cutV (rs.map V.ref) none (some (i : Int))))) := Evl.Ex.new hp
                have all := s1.trans (e5.trans e6)
                refine ⟨pairL z, ((prs ds).take i).map pairL, .lst (SqL.of (all _ _ hrow)) (.cons (.int _) (.cons (.int _) .nil)),
                  .lst (xs := (rs.take i).map V.ref) (SqL.of (by rw [upd_same, cut])) ((r3.take i).mono all).dp, pairL_shaped z, pairLs_shaped _, ?_⟩
                rw [pairLs_any]
                refine ⟨_, rfl, ?_⟩
                have nd := nodup_next hz
                have back := (e5.trans e6) D3 _ s2
                refine ifB (fun c4 => ?_) (fun c4 => ?_)
                · have c5 := of_decide_eq_true c4
                  refine ⟨_, rfl, acc, back, by omega, Evl.Ex.mut all hD3, _, upd_same, ?_, ?_⟩
                  · have : ¬ ((prs ds).take (i + 1)).Nodup := fun q => (nd.mp q).2 c5
                    rw [decide_eq_false this]
                    simp
                  · rw [List.length_append, List.length_singleton]; omega
                · have c5 := of_decide_eq_false c4
                  refine ⟨all, acc, back, ?_, by omega⟩
                  rw [s3]
                  exact decide_eq_decide.mpr ⟨fun q => nd.mpr ⟨q, c5⟩, fun q => (nd.mp q).1⟩
              · rintro H5 ⟨s1, acc, s2, s3, s4⟩
                refine ⟨Nat.zero_le _, fun l2 hl2 => ?_⟩
                have e6 : Ex H5 (upd H5 l2 (.lst [])) := Evl.Ex.new hl2
                refine ⟨D3, l2, acc, rfl, rfl, SqL.of (e6 _ _ s2), SqL.of upd_same, ?_⟩
                refine fin _ _ ?_ (e1.trans (q2.trans (s1.trans e6)))
                have hrl : rs.length = (prs ds).length := r3.len
                rw [are, c3, Bool.true_and, s3, hrl, List.take_length, prs_some c3]
                exact decide_eq_decide.mpr (nodup_some _).symm
end
end K02
namespace K02
open PySem PySem.Spec PyProof.Rows L2 Kg
open Evl (Ex)


section
variable {P : Program} {w : World} {K : PySem.W.Frag} {mg : Str → Option Value} {base : Heap}
def spUrn (K : PySem.W.Frag) : Sp := fun vs H Q _ => ∃ (a : Addr) (ns : List Int), vs = [.ref a] ∧ SqL K H a (ns.map V.int) ∧ ns.length ≤ 63 ∧
  ∀ (j : Addr) (B H' : Hp), H j = none → Ex H H' → Ex H B → Urn K B j 1000000 H' → Q (.ref j) H'
theorem ok_urn (T : Txt K mg) : FnOk P w K mg base CX0 1 T.f_w_urn T.d_w_urn ["script"] (spUrn K) := by
  refine T.F_w_urn.ok sc_w_urn (fun vs H Q E h => ?_) (fun cdv A outer s H vs Q E hr h => ?_)
  · obtain ⟨a, ns, rfl, _⟩ := h
    rfl
  · obtain ⟨a, ns, rfl, hs, hl, k⟩ := h
    refine ⟨_, (pss_one (ps_ret (pe_lst (pa_cons (pe_lc (own := [("cell", 1)]) (g := (gName 1)) rfl sc_w_urn.nd (pi_list (pe_slice sl_list (pv 0) po_none (po_some pe_int))) (blkOk_by (own := [("cell", 1)]) (N := ["script", "cell"]) (sc := defScope s_w_urn) (by decide +kernel)) (fun _ _ _ _ _ => (pg_name (i := 1) sc_w_urn.nd rfl (Or.inl rfl))) (fun _ _ _ _ _ => pts_nil) (fun _ _ _ _ _ => (pe_callTy call_int1 (by rfl) T.z_int (by decide +kernel) (pa_cons (pv 1) pa_nil)))) (pa_cons pe_int (pa_cons pe_int pa_nil)))))), ?_⟩
    have small : sizeLine = 16777216 := sizeLine_eq
    walk_at "rd"
    intro p hp
    have cut : cutV (ns.map V.int) none (some (63 : Int)) = ns.map V.int := by
      rw [show (63 : Int) = ((63 : Nat) : Int) from rfl, cut_to, List.take_of_length_le (by rw [List.length_map]; exact hl)]
    have e1 : Ex H (upd H p (.lst (cutV (ns.map V.int) none (some (63 : Int))))) := Evl.Ex.new hp
    have h1 : upd H p (.lst (cutV (ns.map V.int) none (some (63 : Int)))) p = some (.lst (ns.map V.int)) := by rw [upd_same, cut]
    refine ⟨p, rfl, ⟨_, SqL.of h1⟩, fun D hD => ?_⟩
    refine lc_list (K := K) (a := p) (xs := ns.map V.int) (fun i H' => Ex (upd H p (.lst (cutV (ns.map V.int) none (some (63 : Int))))) H' ∧ H' D = some (.lst ((ns.take i).map V.int)))
      ⟨Evl.Ex.new hD, upd_same⟩ (fun i H' _ q => SqL.of (q.1 _ _ h1)) ?_ ?_
    · rintro i x H' hi ⟨q1, q2⟩
      rw [List.getElem?_map] at hi
      obtain ⟨z, hz, rfl⟩ := Option.map_eq_some_iff.mp hi
      refine ⟨rfl, ?_⟩
      walk_at "rd"
      refine ⟨_, q2, ?_, Evl.Ex.mut q1 hD, ?_⟩
      · rw [List.length_map, List.length_take]; omega
      · rw [upd_same, take_one hz, List.map_append]; rfl
    · rintro H2 ⟨q1, q2⟩
      rw [List.length_map, List.take_length] at q2
      walk_at "rd"
      intro j hj
      have ej := Evl.Ex.new (o := .lst [.ref D, .int 0, .int 0]) hj
      have hjH : H j = none := Evl.fresh_back (e1.trans q1) hj
      have nDj : D ≠ j := fun e => by rw [← e, q2] at hj; cases hj
      have back : ∀ a o, H a = some o → a ≠ j := fun a o h e => by rw [e, hjH] at h; cases h
      refine k j (off j (upd H2 j (.lst [.ref D, .int 0, .int 0]))) _ hjH (e1.trans (q1.trans ej)) (fun a o h => ?_) ⟨⟨D, ns, 0, 0, upd_same, SqL.of (off_at nDj ((upd_ne nDj).trans q2)), by decide, by decide, by decide⟩, fun a o h => h⟩
      exact off_at (back a o h) ((e1.trans (q1.trans ej)) a o h)
def spNum (K : PySem.W.Frag) : Sp := fun vs H Q _ => ∃ (j : Addr) (B : Hp) (b : Nat), vs = [.ref j] ∧ Urn K B j (b + 2) H ∧
  ∀ (i : Int) (H' : Hp), i.natAbs ≤ 10 ^ 60 → Go j H H' → Urn K B j b H' → Q (.int i) H'
theorem ok_num (T : Txt K mg) : FnOk P w K mg base CX0 2 T.f_w_number T.d_w_number ["urn"] (spNum K) := by
  have G_w_draw : FnOk P w K mg base CX0 1 T.f_w_draw T.d_w_draw ["jar", "many"] (spDraw K) := ok_draw T
  refine T.F_w_number.ok sc_w_number (fun vs H Q E h => ?_) (fun cdv A outer s H vs Q E hr h => ?_)
  · obtain ⟨j, B, b, rfl, _⟩ := h
    rfl
  · obtain ⟨j, B, b, rfl, u, k⟩ := h
    have hr1 := hr
    refine ⟨_, (pss_cons (ps_set (i := 1) sc_w_number.nd rfl (Or.inl rfl) (pe_ix ix_list (pe_lst (pa_cons pe_int (pa_cons pe_int (pa_cons (pe_op op_pow pe_int pe_int) (pa_cons (pe_op op_pow pe_int pe_int) pa_nil))))) (pe_call G_w_draw hr1 rfl T.g_w_draw T.F_w_draw.kp (b_w_draw T) .nil pass0 (pa_cons (pv 0) (pa_cons pe_int pa_nil))) (fun _ _ => rfl)))
  (pss_one (ps_ret (pe_op op_sub (pe_call G_w_draw hr1 rfl T.g_w_draw T.F_w_draw.kp (b_w_draw T) .nil pass0 (pa_cons (pv 0) (pa_cons (pe_op op_add (pe_op op_mul pe_int (pv 1)) pe_int) pa_nil))) (pv 1))))), ?_⟩
    walk_at "rd"
    intro l hl
    have nlj := u.ne hl
    walk_at "rd"
    refine ⟨j, B, b + 1, 4, rfl, by decide, by decide, u.ex (Evl.Ex.new hl), fun r H2 r0 r1 g2 u2 => ?_⟩
    have hl2 := g2 l _ nlj upd_same
    have g1 : Go j H H2 := (Go.of (Evl.Ex.new hl)).trans g2
    have : r = 0 ∨ r = 1 ∨ r = 2 ∨ r = 3 := by omega
    rcases this with rfl | rfl | rfl | rfl
    all_goals
      refine ⟨_, _, _, _, rfl, rfl, SqL.of hl2, by rfl, ?_⟩
      walk_at "rd"
      rintro r2 H3 r3 r4 g3 u3
      walk_at "rd"
      refine k _ _ ?_ (g1.trans g3) u3
      have p1 : (10 : Int) ^ Int.toNat 9 = 10 ^ 9 := rfl
      have p2 : (10 : Int) ^ Int.toNat 60 = 10 ^ 60 := rfl
      first
        | omega
        | (rw [p1] at r4 ⊢; omega)
        | (rw [p2] at r4 ⊢; omega)
/-! ### odd things -/
def odds : List PyData := [.none, .bool true, .bool false, .str "5", .str "", .list [], .list [.int 3], .tuple [.int 0, .int 0], .dict [], .dict [(.int 1, .int 2)]]
def spOdd (K : PySem.W.Frag) : Sp := fun vs H Q _ => ∃ (j : Addr) (B : Hp) (b : Nat), vs = [.ref j] ∧ Urn K B j (b + 1) H ∧
  ∀ (v : V) (d : PyData) (H' : Hp), d ∈ odds → Da K (neu H H') v d → Go j H H' → Urn K B j b H' → Q v H'
theorem ok_odd (T : Txt K mg) : FnOk P w K mg base CX0 2 T.f_w_odd T.d_w_odd ["urn"] (spOdd K) := by
  have G_w_draw : FnOk P w K mg base CX0 1 T.f_w_draw T.d_w_draw ["jar", "many"] (spDraw K) := ok_draw T
  refine T.F_w_odd.ok sc_w_odd (fun vs H Q E h => ?_) (fun cdv A outer s H vs Q E hr h => ?_)
  · obtain ⟨j, B, b, rfl, _⟩ := h
    rfl
  · obtain ⟨j, B, b, rfl, u, k⟩ := h
    have hr1 := hr
    refine ⟨_, (pss_one (ps_ret (pe_ix ix_list (pe_lst (pa_cons pe_non (pa_cons pe_bl (pa_cons pe_bl (pa_cons pe_str (pa_cons pe_str (pa_cons (pe_lst pa_nil) (pa_cons (pe_lst (pa_cons pe_int pa_nil)) (pa_cons (pe_tup (pa_cons pe_int (pa_cons pe_int pa_nil))) (pa_cons pe_dnewK (pa_cons (pe_disp (pps_cons pe_int pe_int pps_nil) (by rfl) (by rfl) (fun z => by cases z) (by decide)) pa_nil))))))))))) (pe_call G_w_draw hr1 rfl T.g_w_draw T.F_w_draw.kp (b_w_draw T) .nil pass0 (pa_cons (pv 0) (pa_cons pe_int pa_nil))) (fun _ _ => rfl)))), ?_⟩
    walk_at "rd"
    intro p1 hp1
    have ep1 : Ex H (upd H p1 (.lst [])) := Evl.Ex.new hp1
    have ap1 : upd H p1 (.lst []) p1 = some (.lst []) := upd_same
    generalize upd H p1 (.lst []) = A1 at ep1 ap1 ⊢
    walk_at "rd"
    intro p2 hp2
    have ep2 : Ex A1 (upd A1 p2 (.lst [.int 3])) := Evl.Ex.new hp2
    have ap2 : upd A1 p2 (.lst [.int 3]) p2 = some (.lst [.int 3]) := upd_same
    generalize upd A1 p2 (.lst [.int 3]) = A2 at ep2 ap2 ⊢
    walk_at "rd"
    intro p3 hp3
    have ep3 : Ex A2 (upd A2 p3 (.tup [.int 0,.int 0])) := Evl.Ex.new hp3
    have ap3 : upd A2 p3 (.tup [.int 0,.int 0]) p3 = some (.tup [.int 0,.int 0]) := upd_same
    generalize upd A2 p3 (.tup [.int 0,.int 0]) = A3 at ep3 ap3 ⊢
    intro p4 hp4
    have ep4 : Ex A3 (upd A3 p4 (.dK [])) := Evl.Ex.new hp4
    have ap4 : upd A3 p4 (.dK []) p4 = some (.dK []) := upd_same
    generalize upd A3 p4 (.dK []) = A4 at ep4 ap4 ⊢
    intro p5 hp5
    walk_at "rd"
    refine ⟨upd_same, [(.inl 1, .int 2)], rfl, by decide, ?_⟩
    have e5 : Ex A4 (upd (upd A4 p5 (.dK [])) p5 (.dK (mergeK [] [(.inl 1, .int 2)]))) := Evl.Ex.mut (Evl.Ex.new hp5) hp5
    have a5 : upd (upd A4 p5 (.dK [])) p5 (.dK (mergeK [] [(.inl 1, .int 2)])) p5 = some (.dK [(.inl 1, .int 2)]) := upd_same
    generalize upd (upd A4 p5 (.dK [])) p5 (.dK (mergeK [] [(.inl 1, .int 2)])) = A5 at e5 a5 ⊢
    walk_at "rd"
    intro l hl
    have el : Ex A5 (upd A5 l (.lst [.non,.bl true,.bl false,.str "5",.str "",.ref p1,.ref p2,.ref p3,.ref p4,.ref p5])) := Evl.Ex.new hl
    have al : upd A5 l (.lst [.non,.bl true,.bl false,.str "5",.str "",.ref p1,.ref p2,.ref p3,.ref p4,.ref p5]) l = some (.lst [.non,.bl true,.bl false,.str "5",.str "",.ref p1,.ref p2,.ref p3,.ref p4,.ref p5]) := upd_same
    generalize upd A5 l (.lst [.non,.bl true,.bl false,.str "5",.str "",.ref p1,.ref p2,.ref p3,.ref p4,.ref p5]) = A6 at el al ⊢
    have f5 : Ex A5 A6 := el
    have f4 := e5.trans f5
    have f3 := ep4.trans f4
    have f2 := ep3.trans f3
    have f1 := ep2.trans f2
    have f0 := ep1.trans f1
    walk_at "rd"
    refine ⟨j, B, b, 10, rfl, by decide, by decide, u.ex f0, fun r H2 r0 r1 g2 u2 => ?_⟩
    have gj : Go j H H2 := (Go.of f0).trans g2
    have far : ∀ p o, A6 p = some o → p ≠ j → H2 p = some o := fun p o h n => g2 p o n h
    have nj : ∀ p, H p = none → p ≠ j := fun p h => u.ne h
    have m1 := hp1
    have m2 := Evl.fresh_back ep1 hp2
    have m3 := Evl.fresh_back (ep1.trans ep2) hp3
    have m4 := Evl.fresh_back ((ep1.trans ep2).trans ep3) hp4
    have m5 := Evl.fresh_back (((ep1.trans ep2).trans ep3).trans ep4) hp5
    have n1 := nj p1 m1
    have n2 := nj p2 m2
    have n3 := nj p3 m3
    have n4 := nj p4 m4
    have n5 := nj p5 m5
    have nl := nj l (Evl.fresh_back ((((ep1.trans ep2).trans ep3).trans ep4).trans e5) hl)
    have b1 := at_neu m1 (far p1 _ (f1 _ _ ap1) n1)
    have b2 := at_neu m2 (far p2 _ (f2 _ _ ap2) n2)
    have b3 := at_neu m3 (far p3 _ (f3 _ _ ap3) n3)
    have b4 := at_neu m4 (far p4 _ (f4 _ _ ap4) n4)
    have b5 := at_neu m5 (far p5 _ (f5 _ _ a5) n5)
    have bl := far l _ al nl
    have fin : ∀ v d, d ∈ odds → Da K (neu H H2) v d → Q v H2 := fun v d hd hv => k v d H2 hd hv gj u2
    have : r = 0 ∨ r = 1 ∨ r = 2 ∨ r = 3 ∨ r = 4 ∨ r = 5 ∨ r = 6 ∨ r = 7 ∨ r = 8 ∨ r = 9 := by omega
    rcases this with rfl | rfl | rfl | rfl | rfl | rfl | rfl | rfl | rfl | rfl
    all_goals refine ⟨_, _, _, _, rfl, rfl, SqL.of bl, by rfl, ?_⟩
    · exact fin _ .none (by simp [odds]) .non
    · exact fin _ (.bool true) (by simp [odds]) (.bl _)
    · exact fin _ (.bool false) (by simp [odds]) (.bl _)
    · exact fin _ (.str "5") (by simp [odds]) (.str _)
    · exact fin _ (.str "") (by simp [odds]) (.str _)
    · exact fin _ (.list []) (by simp [odds]) (.lst (SqL.of b1) .nil)
    · exact fin _ (.list [.int 3]) (by simp [odds]) (.lst (SqL.of b2) (.cons (.int 3) .nil))
    · exact fin _ (.tuple [.int 0, .int 0]) (by simp [odds]) (.tup (SqT.of b3) (.cons (.int 0) (.cons (.int 0) .nil)))
    · exact fin _ (.dict []) (by simp [odds]) (.dct b4 .nil)
    · exact fin _ (.dict [(.int 1, .int 2)]) (by simp [odds]) (.dct b5 (.cons (.int 2) .nil))
theorem Go.mut {j D : Addr} {H H' : Hp} {o : HO} (g : Go j H H') (h : H D = none) : Go j H (L2.upd H' D o) := fun a u n e => (upd_ne (ne_of_none e h)).trans (g a u n e)
theorem ints_da {H : Hp} : ∀ zs : List Int, DaAll K H (zs.map V.int) (zs.map PyData.int)
  | [] => .nil
  | z :: zs => .cons (.int z) (ints_da zs)
theorem odd_fit : ∀ d ∈ odds, Fit 100 d ∧ d.depth ≤ 1 := by
  intro d hd
  simp only [odds, List.mem_cons, List.not_mem_nil, or_false] at hd
  rcases hd with rfl | rfl | rfl | rfl | rfl | rfl | rfl | rfl | rfl | rfl
  all_goals
    refine ⟨⟨?_, ?_, ?_, ?_⟩, ?_⟩ <;> decide +kernel
def spPair (K : PySem.W.Frag) : Sp := fun vs H Q _ => ∃ (j : Addr) (B : Hp) (b : Nat), vs = [.ref j] ∧ Urn K B j (b + 10) H ∧
  ∀ (v : V) (d : PyData) (H' : Hp), Fit 1000 d → d.depth ≤ 2 → Da K (neu H H') v d → Go j H H' → Urn K B j b H' → Q v H'
theorem ok_pair (T : Txt K mg) : FnOk P w K mg base CX0 3 T.f_w_pair T.d_w_pair ["urn"] (spPair K) := by
  have G_w_draw : FnOk P w K mg base CX0 2 T.f_w_draw T.d_w_draw ["jar", "many"] (spDraw K) := (ok_draw T).mono (by decide)
  have G_w_number : FnOk P w K mg base CX0 2 T.f_w_number T.d_w_number ["urn"] (spNum K) := ok_num T
  have G_w_odd : FnOk P w K mg base CX0 2 T.f_w_odd T.d_w_odd ["urn"] (spOdd K) := ok_odd T
  refine T.F_w_pair.ok sc_w_pair (fun vs H Q E h => ?_) (fun cdv A outer s H vs Q E hr h => ?_)
  · obtain ⟨j, B, b, rfl, _⟩ := h
    rfl
  · obtain ⟨j, B, b, rfl, u, k⟩ := h
    have hr1 := hr
    refine ⟨_, (pss_cons (ps_set (i := 1) sc_w_pair.nd rfl (Or.inl rfl) (pe_call G_w_draw hr1 rfl T.g_w_draw T.F_w_draw.kp (b_w_draw T) .nil pass0 (pa_cons (pv 0) (pa_cons pe_int pa_nil))))
  (pss_cons (ps_if (pt_cmpR op_eq (pv 1) pe_int (nomark _)) (pss_one (ps_ret (pe_lc (own := [("turn", 2)]) (g := (gName 2)) rfl sc_w_pair.nd (pi_range1 (by rfl) T.z_range (pa_cons (pe_ix ix_list (pe_lst (pa_cons pe_int (pa_cons pe_int (pa_cons pe_int (pa_cons pe_int pa_nil))))) (pe_call G_w_draw hr1 rfl T.g_w_draw T.F_w_draw.kp (b_w_draw T) .nil pass0 (pa_cons (pv 0) (pa_cons pe_int pa_nil))) (fun _ _ => rfl)) pa_nil)) (blkOk_by (own := [("turn", 2)]) (N := ["urn", "kind", "turn", "pair"]) (sc := defScope s_w_pair) (by decide +kernel)) (fun _ _ _ _ _ => (pg_name (i := 2) sc_w_pair.nd rfl (Or.inl rfl))) (fun _ _ _ _ _ => pts_nil) (fun _ _ _ _ _ => (pe_call G_w_number hr1 rfl T.g_w_number T.F_w_number.kp (b_w_number T) .nil pass0 (pa_cons (pv 0) pa_nil)))))) pss_nil)
  (pss_cons (ps_if (pt_cmpR op_eq (pv 1) pe_int (nomark _)) (pss_one (ps_ret (pe_tup (pa_cons (pe_call G_w_number hr1 rfl T.g_w_number T.F_w_number.kp (b_w_number T) .nil pass0 (pa_cons (pv 0) pa_nil)) (pa_cons (pe_call G_w_odd hr1 rfl T.g_w_odd T.F_w_odd.kp (b_w_odd T) .nil pass0 (pa_cons (pv 0) pa_nil)) pa_nil))))) pss_nil)
  (pss_cons (ps_if (pt_cmpR op_eq (pv 1) pe_int (nomark _)) (pss_one (ps_ret (pe_call G_w_odd hr1 rfl T.g_w_odd T.F_w_odd.kp (b_w_odd T) .nil pass0 (pa_cons (pv 0) pa_nil)))) pss_nil)
  (pss_cons (ps_set (i := 3) sc_w_pair.nd rfl (Or.inl rfl) (pe_lst (pa_cons (pe_op op_sub (pe_call G_w_draw hr1 rfl T.g_w_draw T.F_w_draw.kp (b_w_draw T) .nil pass0 (pa_cons (pv 0) (pa_cons pe_int pa_nil))) pe_int) (pa_cons (pe_op op_sub (pe_call G_w_draw hr1 rfl T.g_w_draw T.F_w_draw.kp (b_w_draw T) .nil pass0 (pa_cons (pv 0) (pa_cons pe_int pa_nil))) pe_int) pa_nil))))
  (pss_one (ps_ret (pe_ifExp (pt_cmpR op_eq (pe_call G_w_draw hr1 rfl T.g_w_draw T.F_w_draw.kp (b_w_draw T) .nil pass0 (pa_cons (pv 0) (pa_cons pe_int pa_nil))) pe_int (nomark _)) (pe_callTy call_tuple_of (by rfl) T.z_tuple (by decide +kernel) (pa_cons (pv 3) pa_nil)) (pv 3))))))))), ?_⟩
    have small : sizeLine = 16777216 := sizeLine_eq
    walk_at "rd"
    rintro r H1 r0 r1 g1 u1
    walk_at "rd"
    refine ifB (fun c1 => ?_) (fun c1 => ?_)
    · walk_at "rd"
      intro l hl
      have u1' := u1.ex (Evl.Ex.new (o := .lst [.int 0, .int 1, .int 3, .int 4]) hl)
      walk_at "rd"
      rintro r2 H2 r3 r4 g2 u2
      have hl2 := g2 l _ (u1.ne hl) upd_same
      have gg : Go j H H2 := g1.trans ((Go.of (Evl.Ex.new hl)).trans g2)
      obtain ⟨m, hm, hm4⟩ : ∃ m : Nat, atI ([.int 0, .int 1, .int 3, .int 4] : List V) r2 = some (.int (m : Int)) ∧ m ≤ 4 := by
        have : r2 = 0 ∨ r2 = 1 ∨ r2 = 2 ∨ r2 = 3 := by omega
        rcases this with rfl | rfl | rfl | rfl
        · exact ⟨0, rfl, by decide⟩
        · exact ⟨1, rfl, by decide⟩
        · exact ⟨3, rfl, by decide⟩
        · exact ⟨4, rfl, by decide⟩
      refine ⟨_, _, _, _, rfl, rfl, SqL.of hl2, hm, ?_⟩
      refine ⟨(m : Int), rfl, by omega, by omega, fun D hD => ?_⟩
      refine lc_range (lo := 0) (n := (m : Int).toNat) (fun i H' => Go j H2 H' ∧ Urn K B j (b + 2 * (4 - i)) H' ∧ ∃ zs : List Int, H' D = some (.lst (zs.map V.int)) ∧ zs.length = i ∧ ∀ z ∈ zs, z.natAbs ≤ 10 ^ 60)
        ⟨Go.of (Evl.Ex.new hD), (u2.less (by omega)).ex (Evl.Ex.new hD), [], upd_same, rfl, by simp⟩ ?_ ?_
      · rintro i H' hi ⟨q1, q2, zs, q3, q4, q5⟩
        refine ⟨rfl, ?_⟩
        have q2' := q2.less (b' := b + 2 * (4 - (i + 1)) + 2) (by omega)
        walk_at "rd"
        rintro z H3 hz g3 u3
        have nD := u2.ne hD
        have h3 := g3 D _ nD q3
        refine ⟨_, h3, by rw [List.length_map]; omega, Go.mut (q1.trans g3) hD, ?_, zs ++ [z], ?_, ?_, ?_⟩
        · exact u3.mut u2 hD
        · rw [upd_same, List.map_append]; rfl
        · rw [List.length_append, List.length_singleton, q4]
        · intro y hy
          rcases List.mem_append.mp hy with hy | hy
          · exact q5 y hy
          · rw [List.mem_singleton.mp hy]; exact hz
      · rintro H' ⟨q1, q2, zs, q3, q4, q5⟩
        have nD := u2.ne hD
        refine k _ (.list (zs.map .int)) _ ((fit_seq 4 ?_ (n := 202) ?_).1.mono (by decide)) ?_ ?_ (gg.trans q1) (q2.less (by omega))
        · rw [List.length_map, q4]; omega
        · intro x hx
          obtain ⟨z, hz, rfl⟩ := List.mem_map.mp hx
          exact ⟨fit_int (Nat.le_trans (q5 z hz) (by decide)), by simp [PyData.depth]⟩
        · simp only [PyData.depth, ints_depth]; omega
        · exact .lst (SqL.of (at_neu (u2.back gg hD) q3)) (ints_da zs)
    · walk_at "rd"
      refine ifB (fun c2 => ?_) (fun c2 => ?_)
      · walk_at "rd"
        rintro z H2 hz g2 u2
        walk_at "rd"
        rintro v d H3 hd hv g3 u3
        walk_at "rd"
        intro p hp
        have np := u3.ne hp
        have e := Evl.Ex.new (o := .tup [.int z, v]) hp
        obtain ⟨f1, f2⟩ := odd_fit d hd
        refine k _ (.tuple [.int z, d]) _ ((fit_seq 2 (by simp) (n := 202) ?_).2.mono (by decide)) ?_ ?_ (g1.trans (g2.trans (g3.trans (Go.of e)))) ((u3.ex e).less (by omega))
        · intro x hx
          simp only [List.mem_cons, List.not_mem_nil, or_false] at hx
          rcases hx with rfl | rfl
          · exact ⟨fit_int (by omega), by simp [PyData.depth]⟩
          · exact ⟨f1.mono (by decide), by omega⟩
        · simp only [PyData.depth, PyData.depthAll]
          omega
        · exact .tup (SqT.of (at_neu (u3.back (g1.trans (g2.trans g3)) hp) upd_same)) (.cons (.int z) (.cons (Da.mono (neu_ex u2 (g1.trans g2) (Go.of e)) d hv) .nil))
      · walk_at "rd"
        refine ifB (fun c3 => ?_) (fun c3 => ?_)
        · walk_at "rd"
          rintro v d H3 hd hv g3 u3
          obtain ⟨f1, f2⟩ := odd_fit d hd
          exact k _ d _ (f1.mono (by decide)) (by omega) (Da.mono (neu_ex u1 g1 (Go.refl j _)) d hv) (g1.trans g3) (u3.less (by omega))
        · walk_at "rd"
          rintro z1 H2 z10 z11 g2 u2
          walk_at "rd"
          rintro z2 H3 z20 z21 g3 u3
          walk_at "rd"
          intro p hp
          have np := u3.ne hp
          have e := Evl.Ex.new (o := .lst [.int (z1 - 2), .int (z2 - 2)]) hp
          have u3' := u3.ex e
          have gg : Go j H _ := g1.trans (g2.trans (g3.trans (Go.of e)))
          have pl : ∀ H4, Go j (upd H3 p (.lst [.int (z1 - 2), .int (z2 - 2)])) H4 → H4 p = some (.lst [.int (z1 - 2), .int (z2 - 2)]) := fun H4 g => g p _ np upd_same
          have ft := fit_seq 2 (ds := [.int (z1 - 2), .int (z2 - 2)]) (by simp) (n := 202) (by
            intro x hx
            simp only [List.mem_cons, List.not_mem_nil, or_false] at hx
            rcases hx with rfl | rfl <;> exact ⟨fit_int (by omega), by simp [PyData.depth]⟩)
          walk_at "rd"
          rintro z3 H4 z30 z31 g4 u4
          have h4 := pl H4 g4
          walk_at "rd"
          refine ifB (fun c4 => ?_) (fun c4 => ?_)
          · refine ⟨_, rfl, p, _, rfl, Or.inl ⟨SqL.of h4, fun t ht => ?_⟩⟩
            have et := Evl.Ex.new (o := .tup [.int (z1 - 2), .int (z2 - 2)]) ht
            refine k _ (.tuple [.int (z1 - 2), .int (z2 - 2)]) _ (ft.2.mono (by decide)) (by simp [PyData.depth, PyData.depthAll]) ?_ (gg.trans (g4.trans (Go.of et))) ((u4.ex et).less (by omega))
            exact .tup (SqT.of (at_neu (u4.back (gg.trans g4) ht) upd_same)) (.cons (.int _) (.cons (.int _) .nil))
          · walk_at "rd"
            refine k _ (.list [.int (z1 - 2), .int (z2 - 2)]) _ (ft.1.mono (by decide)) (by simp [PyData.depth, PyData.depthAll]) ?_ (gg.trans g4) (u4.less (by omega))
            exact .lst (SqL.of (at_neu (u3.back (g1.trans (g2.trans g3)) hp) h4)) (.cons (.int _) (.cons (.int _) .nil))
end
end K02
namespace K02
open PySem PySem.Spec PyProof.Rows L2 Kg
open Evl (Ex)


section
variable {P : Program} {w : World} {K : PySem.W.Frag} {mg : Str → Option Value} {base : Heap}
def spLaw (K : PySem.W.Frag) : Sp := fun vs H Q _ => ∃ (a : Addr) (ns : List Int), vs = [.ref a] ∧ ns.length ≤ 63 ∧ OffK K ∧ Kg.Entry K H a ns ∧ ∀ H', Q (.bl true) H'
/-- a list of short data, written once more -/
structure Bag (K : PySem.W.Frag) (j D : Addr) (xs : List V) (ds : List PyData) (n : Nat) (H : Hp) : Prop where
  it : H D = some (.lst xs)
  ne : D ≠ j
  da : DaAll K (off D (off j H)) xs ds
  len : ds.length ≤ n
  fit : ∀ d ∈ ds, Fit 1000 d ∧ d.depth ≤ 2
theorem Bag.go {j D : Addr} {xs : List V} {ds : List PyData} {n : Nat} {H H' : Hp} (h : Bag K j D xs ds n H) (g : Go j H H') : Bag K j D xs ds n H' :=
  ⟨g _ _ h.ne h.it, h.ne, DaAll.mono (Go.ex (j := D) (Go.of g.ex)) ds h.da, h.len, h.fit⟩
theorem off_upd {j D : Addr} {H : Hp} {o : HO} : Ex (off D (off j H)) (off D (off j (upd H D o))) := by
  intro a x h
  by_cases e : a = D
  · subst e; rw [show off a (off j H) a = none from if_pos rfl] at h; cases h
  · rw [off_ne e] at h ⊢
    by_cases e2 : a = j
    · subst e2; rw [show off a H a = none from if_pos rfl] at h; cases h
    · rw [off_ne e2] at h ⊢
      exact (upd_ne e).trans h
theorem within_no {d : PyData} {lo hi : Option Int} (h : isI d = false) : withinD d lo hi = false := by
  cases d <;> first | rfl | cases h
theorem da_take {H : Hp} : ∀ (n : Nat) {vs : List V} {ds : List PyData}, DaAll K H vs ds → DaAll K H (vs.take n) (ds.take n)
  | 0, _, _, _ => .nil
  | _ + 1, _, _, .nil => .nil
  | n + 1, _, _, .cons h t => .cons h (da_take n t)
theorem da_drop {H : Hp} : ∀ (n : Nat) {vs : List V} {ds : List PyData}, DaAll K H vs ds → DaAll K H (vs.drop n) (ds.drop n)
  | 0, _, _, h => h
  | _ + 1, _, _, .nil => .nil
  | n + 1, _, _, .cons _ t => da_drop n t
theorem int_back {d : PyData} {x : Int} (h : intOf d = some x) : d = .int x := by
  cases d <;> first | (cases h; rfl) | cases h
theorem sq_shape {d : PyData} {y z : Int} (h : sqOf d = some (y, z)) : d = .list [.int y, .int z] ∨ d = .tuple [.int y, .int z] := by
  have two : ∀ ds : List PyData, seqOf d = some ds → ds = [.int y, .int z] := by
    intro ds e
    unfold sqOf at h
    rw [e] at h
    match ds, h with
    | [a, b], h =>
      dsimp only at h
      cases ha : intOf a with
      | none => rw [ha] at h; cases h
      | some x => cases hb : intOf b with
        | none => rw [ha, hb] at h; cases h
        | some x' =>
          rw [ha, hb] at h
          cases h
          rw [int_back ha, int_back hb]
  cases d with
  | list ds => exact .inl (congrArg _ (two ds rfl))
  | tuple ds => exact .inr (congrArg _ (two ds rfl))
  | _ => cases h
theorem fit_pair {n : Nat} {d : PyData} {y z : Int} (h : sqOf d = some (y, z)) (f : Fit n d) : Fit n (.list [.int y, .int z]) := by
  rcases sq_shape h with rfl | rfl
  · exact f
  · refine ⟨?_, ?_, ?_, ?_⟩
    · have := f.sh; simpa [PyData.showable] using this
    · have := f.lv; simpa [PyData.leavesShort] using this
    · have := f.wt; simpa [PyData.weight] using this
    · have := f.dp; simpa [PyData.depth] using this
theorem odd_lay : ∀ d ∈ odds, (d.canLay0 = true ∧ SeqAt.shaped d = true) ∨ ∃ ps, d = .dict ps := by
  intro d hd
  simp only [odds, List.mem_cons, List.not_mem_nil, or_false] at hd
  rcases hd with rfl | rfl | rfl | rfl | rfl | rfl | rfl | rfl | rfl | rfl
  all_goals first
    | exact .inl ⟨by decide +kernel, by decide +kernel⟩
    | exact .inr ⟨_, rfl⟩
theorem odd_are : ∀ d ∈ odds, areSq d = (PyData.eqv d (.list []) && isLi d) ∧ ∀ ds, seqOf d = some ds → ds.length < 60 := by
  intro d hd
  simp only [odds, List.mem_cons, List.not_mem_nil, or_false] at hd
  rcases hd with rfl | rfl | rfl | rfl | rfl | rfl | rfl | rfl | rfl | rfl
  all_goals
    refine ⟨by decide +kernel, ?_⟩
    intro ds h
    cases h
    all_goals decide
theorem int_of {H : Hp} {v : V} {d : PyData} (h : Da K H v d) (e : isI d = true) : ∃ z, v = .int z ∧ d = .int z := by
  cases h <;> first | exact ⟨_, rfl, rfl⟩ | cases e
theorem ok_law (T : Txt K mg) : FnG P w K mg base CX0 4 T.f_law T.d_law ["script"] (spLaw K) := by
  have G_w_urn : FnOk P w K mg base CX0 3 T.f_w_urn T.d_w_urn ["script"] (spUrn K) := (ok_urn T).mono (by decide)
  have G_w_draw : FnOk P w K mg base CX0 3 T.f_w_draw T.d_w_draw ["jar", "many"] (spDraw K) := (ok_draw T).mono (by decide)
  have G_w_number : FnOk P w K mg base CX0 3 T.f_w_number T.d_w_number ["urn"] (spNum K) := (ok_num T).mono (by decide)
  have G_w_odd : FnOk P w K mg base CX0 3 T.f_w_odd T.d_w_odd ["urn"] (spOdd K) := (ok_odd T).mono (by decide)
  have G_w_pair : FnOk P w K mg base CX0 3 T.f_w_pair T.d_w_pair ["urn"] (spPair K) := ok_pair T
  have G_is_integer : FnOk P w K mg base CX0 3 T.f_is_integer T.d_is_integer ["value"] (spB K isI) := (ok_is_integer T).mono (by decide)
  have G_is_within : FnOk P w K mg base CX0 3 T.f_is_within T.d_is_within ["value", "least", "most"] (spWithin K) := (ok_is_within T).mono (by decide)
  have G_is_square : FnOk P w K mg base CX0 3 T.f_is_square T.d_is_square ["value"] (spB K isSq) := (ok_is_square T).mono (by decide)
  have G_are_squares : FnOk P w K mg base CX0 3 T.f_are_squares T.d_are_squares ["value"] (spAre K) := ok_are_squares T
  have G_w_is_number : FnOk P w K mg base CX0 3 T.f_w_is_number T.d_w_is_number ["value"] (spB K isI) := (ok_w_is_number T).mono (by decide)
  have G_w_is_pair : FnOk P w K mg base CX0 3 T.f_w_is_pair T.d_w_is_pair ["value"] (spB K isSq) := (ok_w_is_pair T).mono (by decide)
  have G_w_are_pairs : FnOk P w K mg base CX0 3 T.f_w_are_pairs T.d_w_are_pairs ["value"] (spAre K) := ok_w_are_pairs T
  refine okG T.F_law sc_law (fun vs H Q E h => ?_) (fun cdv A outer s H vs Q E hr gd h => ?_)
  · obtain ⟨a, ns, rfl, _⟩ := h
    rfl
  · obtain ⟨a, ns, rfl, hl, off0, en, k⟩ := h
    have hr1 := hr
    have hu2 := hr.units
    have hu1 := hr.units
    refine ⟨_, (pss_cons (ps_set (i := 1) sc_law.nd rfl (Or.inr rfl) (pe_call G_w_urn hr1 rfl T.g_w_urn T.F_w_urn.kp (b_w_urn T) .nil pass0 (pa_cons (pv 0) pa_nil)))
  (pss_cons (ps_for PassesOwn.never rfl (pi_range1 (by rfl) T.z_range (pa_cons pe_int pa_nil)) (pg_name (i := 2) sc_law.nd rfl (Or.inl rfl))
  (Evl.pss_cut (ps_set (i := 3) sc_law.nd rfl (Or.inl rfl) (pe_ifExp (pt_cmpR op_gt (pe_call G_w_draw hr1 rfl T.g_w_draw T.F_w_draw.kp (b_w_draw T) .nil pass0 (pa_cons (pv 1) (pa_cons pe_int pa_nil))) pe_int (nomark _)) (pe_call G_w_number hr1 rfl T.g_w_number T.F_w_number.kp (b_w_number T) .nil pass0 (pa_cons (pv 1) pa_nil)) (pe_call G_w_odd hr1 rfl T.g_w_odd T.F_w_odd.kp (b_w_odd T) .nil pass0 (pa_cons (pv 1) pa_nil))))
  (Evl.pss_cut (ps_set (i := 4) sc_law.nd rfl (Or.inl rfl) (pe_ifExp (pt_cmpR op_eq (pe_call G_w_draw hr1 rfl T.g_w_draw T.F_w_draw.kp (b_w_draw T) .nil pass0 (pa_cons (pv 1) (pa_cons pe_int pa_nil))) pe_int (nomark _)) pe_non (pe_call G_w_number hr1 rfl T.g_w_number T.F_w_number.kp (b_w_number T) .nil pass0 (pa_cons (pv 1) pa_nil))))
  (Evl.pss_cut (ps_set (i := 5) sc_law.nd rfl (Or.inl rfl) (pe_ifExp (pt_cmpR op_eq (pe_call G_w_draw hr1 rfl T.g_w_draw T.F_w_draw.kp (b_w_draw T) .nil pass0 (pa_cons (pv 1) (pa_cons pe_int pa_nil))) pe_int (nomark _)) pe_non (pe_call G_w_number hr1 rfl T.g_w_number T.F_w_number.kp (b_w_number T) .nil pass0 (pa_cons (pv 1) pa_nil))))
  (Evl.pss_cut (ps_if (PW.pt (pw_and (pt_val (pe_call G_w_is_number hr1 rfl T.g_w_is_number T.F_w_is_number.kp (b_w_is_number T) .nil pass0 (pa_cons (pv 3) pa_nil))) (pw_and1 (pt_cmpR op_eq (pe_call G_w_draw hr1 rfl T.g_w_draw T.F_w_draw.kp (b_w_draw T) .nil pass0 (pa_cons (pv 1) (pa_cons pe_int pa_nil))) pe_int (nomark _))))) (pss_one (ps_asg (pe_ix ix_list (pe_lst (pa_cons (pe_tup (pa_cons (pv 3) (pa_cons pe_non pa_nil))) (pa_cons (pe_tup (pa_cons pe_non (pa_cons (pv 3) pa_nil))) (pa_cons (pe_tup (pa_cons (pv 3) (pa_cons (pv 3) pa_nil))) (pa_cons (pe_tup (pa_cons (pe_op op_add (pv 3) pe_int) (pa_cons pe_non pa_nil))) (pa_cons (pe_tup (pa_cons pe_non (pa_cons (pe_op op_sub (pv 3) pe_int) pa_nil))) pa_nil)))))) (pe_call G_w_draw hr1 rfl T.g_w_draw T.F_w_draw.kp (b_w_draw T) .nil pass0 (pa_cons (pv 1) (pa_cons pe_int pa_nil))) (fun _ _ => rfl)) (pg_tup rfl (pgs_cons (pg_name (i := 4) sc_law.nd rfl (Or.inl rfl)) (pgs_cons (pg_name (i := 5) sc_law.nd rfl (Or.inl rfl)) pgs_nil))))) pss_nil)
  (Evl.pss_cut (ps_set (i := 6) sc_law.nd rfl (Or.inl rfl) (pe_call G_w_is_number hr1 rfl T.g_w_is_number T.F_w_is_number.kp (b_w_is_number T) .nil pass0 (pa_cons (pv 3) pa_nil)))
  (Evl.pss_cut (ps_if (PW.pt (pw_or (pt_cmpR op_ne (pe_callB cr_reprB (by rfl) T.z_repr (by decide +kernel) (pa_cons (pe_call G_is_integer hr1 rfl T.g_is_integer T.F_is_integer.kp (b_is_integer T) .nil pass0 (pa_cons (pv 3) pa_nil)) pa_nil)) (pe_callB cr_reprB (by rfl) T.z_repr (by decide +kernel) (pa_cons (pv 6) pa_nil)) (nomark _)) (pw_or1 (pt_cmpR op_ne (pe_callB cr_reprB (by rfl) T.z_repr (by decide +kernel) (pa_cons (pe_callKW G_is_integer hr1 rfl T.g_is_integer T.F_is_integer.kp (kb_is_integer_value T) pass0 (pk_cons (pv 3) pk_nil)) pa_nil)) (pe_callB cr_reprB (by rfl) T.z_repr (by decide +kernel) (pa_cons (pv 6) pa_nil)) (nomark _))))) (pss_one (ps_ret pe_bl)) pss_nil)
  (Evl.pss_cut (ps_set (i := 6) sc_law.nd rfl (Or.inl rfl) (pe_and (pv 6) (pe_and (pe_or (pe_cmpR op_isN (pv 4) pe_non (nomark _)) (pe_one (pe_cmpR op_ge (pv 3) (pv 4) (nomark _)))) (pe_one (pe_or (pe_cmpR op_isN (pv 5) pe_non (nomark _)) (pe_one (pe_cmpR op_le (pv 3) (pv 5) (nomark _))))))))
  (Evl.pss_cut (ps_if (PW.pt (pw_or (pt_cmpR op_ne (pe_callB cr_reprB (by rfl) T.z_repr (by decide +kernel) (pa_cons (pe_call G_is_within hr1 rfl T.g_is_within T.F_is_within.kp (b_is_within T) .nil pass0 (pa_cons (pv 3) (pa_cons (pv 4) (pa_cons (pv 5) pa_nil)))) pa_nil)) (pe_callB cr_reprB (by rfl) T.z_repr (by decide +kernel) (pa_cons (pv 6) pa_nil)) (nomark _)) (pw_or1 (pt_cmpR op_ne (pe_callB cr_reprB (by rfl) T.z_repr (by decide +kernel) (pa_cons (pe_callKW G_is_within hr1 rfl T.g_is_within T.F_is_within.kp (kb_is_within_most_value_least T) pass0 (pk_cons (pv 5) (pk_cons (pv 3) (pk_cons (pv 4) pk_nil)))) pa_nil)) (pe_callB cr_reprB (by rfl) T.z_repr (by decide +kernel) (pa_cons (pv 6) pa_nil)) (nomark _))))) (pss_one (ps_ret pe_bl)) pss_nil)
  (Evl.pss_cut (ps_set (i := 7) sc_law.nd rfl (Or.inl rfl) (pe_call G_w_pair hr1 rfl T.g_w_pair T.F_w_pair.kp (b_w_pair T) .nil pass0 (pa_cons (pv 1) pa_nil)))
  (Evl.pss_cut (ps_if (PW.pt (pw_or (pt_cmpR op_ne (pe_callB cr_reprB (by rfl) T.z_repr (by decide +kernel) (pa_cons (pe_call G_is_square hr1 rfl T.g_is_square T.F_is_square.kp (b_is_square T) .nil pass0 (pa_cons (pv 7) pa_nil)) pa_nil)) (pe_callB cr_reprB (by rfl) T.z_repr (by decide +kernel) (pa_cons (pe_call G_w_is_pair hr1 rfl T.g_w_is_pair T.F_w_is_pair.kp (b_w_is_pair T) .nil pass0 (pa_cons (pv 7) pa_nil)) pa_nil)) (nomark _)) (pw_or1 (pt_cmpR op_ne (pe_callB cr_reprB (by rfl) T.z_repr (by decide +kernel) (pa_cons (pe_callKW G_is_square hr1 rfl T.g_is_square T.F_is_square.kp (kb_is_square_value T) pass0 (pk_cons (pv 7) pk_nil)) pa_nil)) (pe_callB cr_reprB (by rfl) T.z_repr (by decide +kernel) (pa_cons (pe_call G_w_is_pair hr1 rfl T.g_w_is_pair T.F_w_is_pair.kp (b_w_is_pair T) .nil pass0 (pa_cons (pv 7) pa_nil)) pa_nil)) (nomark _))))) (pss_one (ps_ret pe_bl)) pss_nil)
  (Evl.pss_cut (ps_setLc (i := 8) (own := [("spot", 9)]) (g := (gName 9)) rfl sc_law.nd rfl rfl (sw_true rfl rfl rfl (by decide +kernel)) (pi_range1 (by rfl) T.z_range (pa_cons (pe_call G_w_draw hr1 rfl T.g_w_draw T.F_w_draw.kp (b_w_draw T) .nil pass0 (pa_cons (pv 1) (pa_cons pe_int pa_nil))) pa_nil)) (blkOk_by (own := [("spot", 9)]) (N := ["script", "urn", "turn", "number", "least", "most", "due", "pair", "some", "spot", "each", "value", "kept", "odd"]) (sc := defScope s_law) (by decide +kernel)) (fun _ _ _ _ _ => (pg_name (i := 9) sc_law.nd rfl (Or.inl rfl))) (fun _ _ _ _ _ => pts_nil) (fun _ _ _ _ _ => (pe_call G_w_pair hr1 rfl T.g_w_pair T.F_w_pair.kp (b_w_pair T) .nil pass0 (pa_cons (pv 1) pa_nil))))
  (Evl.pss_cut (ps_if (pt_cmpR op_eq (pe_call G_w_draw hr1 rfl T.g_w_draw T.F_w_draw.kp (b_w_draw T) .nil pass0 (pa_cons (pv 1) (pa_cons pe_int pa_nil))) pe_int (nomark _)) (pss_one (ps_setLc (i := 8) (own := [("each", 10)]) (g := (gName 10)) rfl sc_law.nd rfl rfl (sw_true rfl rfl rfl (by decide +kernel)) (pi_list (pv 8)) (blkOk_by (own := [("each", 10)]) (N := ["script", "urn", "turn", "number", "least", "most", "due", "pair", "some", "spot", "each", "value", "kept", "odd"]) (sc := defScope s_law) (by decide +kernel)) (fun _ _ _ _ _ => (pg_name (i := 10) sc_law.nd rfl (Or.inl rfl))) (fun _ _ _ _ _ => (pts_one (pt_val (pe_call G_w_is_pair hr1 rfl T.g_w_is_pair T.F_w_is_pair.kp (b_w_is_pair T) .nil pass0 (pa_cons (pv 10) pa_nil))))) (fun _ _ _ _ _ => (pv 10)))) pss_nil)
  (Evl.pss_cut (ps_if (PW.pt (pw_and (pt_cmpR (op_neNil hu2) (pv 8) (pe_lst pa_nil) (nomark _)) (pw_and (pt_cmpR op_eq (pe_call G_w_draw hr1 rfl T.g_w_draw T.F_w_draw.kp (b_w_draw T) .nil pass0 (pa_cons (pv 1) (pa_cons pe_int pa_nil))) pe_int (nomark _)) (pw_and1 (pt_val (pe_call G_w_is_pair hr1 rfl T.g_w_is_pair T.F_w_is_pair.kp (b_w_is_pair T) .nil pass0 (pa_cons (pe_ix ix_list (pv 8) pe_int (fun _ _ => rfl)) pa_nil))))))) (pss_one (ps_expr (pe_bm PySem.F.plainAttrs_list PySem.F.slot_list_insert PySem.F.type_list_insert mt_insert (pv 8) (pa_cons (pe_call G_w_draw hr1 rfl T.g_w_draw T.F_w_draw.kp (b_w_draw T) .nil pass0 (pa_cons (pv 1) (pa_cons (pe_op op_add (pe_callB call_len_seq (by rfl) T.z_len (by decide +kernel) (pa_cons (pv 8) pa_nil)) pe_int) pa_nil))) (pa_cons (pe_lst (pa_cons (pe_ix ix_seq (pe_ix ix_list (pv 8) pe_int (fun _ _ => rfl)) pe_int (fun _ _ => rfl)) (pa_cons (pe_ix ix_seq (pe_ix ix_list (pv 8) pe_int (fun _ _ => rfl)) pe_int (fun _ _ => rfl)) pa_nil))) pa_nil))))) pss_nil)
  (Evl.pss_cut (ps_set (i := 11) sc_law.nd rfl (Or.inl rfl) (pe_ifExp (pt_cmpR op_eq (pe_call G_w_draw hr1 rfl T.g_w_draw T.F_w_draw.kp (b_w_draw T) .nil pass0 (pa_cons (pv 1) (pa_cons pe_int pa_nil))) pe_int (nomark _)) (pe_callTy call_tuple_of (by rfl) T.z_tuple (by decide +kernel) (pa_cons (pv 8) pa_nil)) (pv 8)))
  (Evl.pss_cut (ps_set (i := 12) sc_law.nd rfl (Or.inl rfl) (pe_callB (cr_repr gd hu2 off0) (by rfl) T.z_repr (by decide +kernel) (pa_cons (pv 11) pa_nil)))
  (Evl.pss_cut (ps_if (PW.pt (pw_or (pt_cmpR op_ne (pe_callB cr_reprB (by rfl) T.z_repr (by decide +kernel) (pa_cons (pe_call G_are_squares hr1 rfl T.g_are_squares T.F_are_squares.kp (b_are_squares T) .nil pass0 (pa_cons (pv 11) pa_nil)) pa_nil)) (pe_callB cr_reprB (by rfl) T.z_repr (by decide +kernel) (pa_cons (pe_call G_w_are_pairs hr1 rfl T.g_w_are_pairs T.F_w_are_pairs.kp (b_w_are_pairs T) .nil pass0 (pa_cons (pv 11) pa_nil)) pa_nil)) (nomark _)) (pw_or (pt_cmpR op_ne (pe_callB cr_reprB (by rfl) T.z_repr (by decide +kernel) (pa_cons (pe_callKW G_are_squares hr1 rfl T.g_are_squares T.F_are_squares.kp (kb_are_squares_value T) pass0 (pk_cons (pv 11) pk_nil)) pa_nil)) (pe_callB cr_reprB (by rfl) T.z_repr (by decide +kernel) (pa_cons (pe_call G_w_are_pairs hr1 rfl T.g_w_are_pairs T.F_w_are_pairs.kp (b_w_are_pairs T) .nil pass0 (pa_cons (pv 11) pa_nil)) pa_nil)) (nomark _)) (pw_or1 (pt_cmpR op_ne (pe_callB (cr_repr gd hu2 off0) (by rfl) T.z_repr (by decide +kernel) (pa_cons (pv 11) pa_nil)) (pv 12) (nomark _)))))) (pss_one (ps_ret pe_bl)) pss_nil)
  (pss_cons (ps_set (i := 13) sc_law.nd rfl (Or.inl rfl) (pe_call G_w_odd hr1 rfl T.g_w_odd T.F_w_odd.kp (b_w_odd T) .nil pass0 (pa_cons (pv 1) pa_nil)))
  (pss_one (ps_if (pt_cmpR op_ne (pe_callB cr_reprB (by rfl) T.z_repr (by decide +kernel) (pa_cons (pe_call G_are_squares hr1 rfl T.g_are_squares T.F_are_squares.kp (b_are_squares T) .nil pass0 (pa_cons (pv 13) pa_nil)) pa_nil)) (pe_callB cr_reprB (by rfl) T.z_repr (by decide +kernel) (pa_cons (pe_and (pe_cmpR ((op_eqD hu2).or (op_eqDL hu2)) (pv 13) (pe_lst pa_nil) (nomark _)) (pe_one (pe_callB call_isi (by rfl) T.z_isinstance (by decide +kernel) (pa_cons (pv 13) (pa_cons (pe_bltn (v := .ty "list") (by rfl) T.z_list (by decide +kernel) rfl) pa_nil))))) pa_nil)) (nomark _)) (pss_one (ps_ret pe_bl)) pss_nil))))))))))))))))))))
  (pss_one (ps_ret pe_bl)))), ?_⟩
    have small : sizeLine = 16777216 := sizeLine_eq
    walk_at "rd"
    refine ⟨a, ns, rfl, en.script, hl, fun j B H1 hj e1 eB u => ?_⟩
    have nsys : sysModules ≠ j := fun e => by
      obtain ⟨o, φ, h⟩ := en.sys
      rw [e, hj] at h; cases h
    have sysG : ∀ {H'}, Go j H1 H' → Sys H' := fun {H'} g => by
      obtain ⟨o, φ, h⟩ := en.sys.mono e1
      exact ⟨o, φ, g _ _ nsys h⟩
    walk_at "rd"
    refine (for_range (n := 4) (lo := 0) (fun i σ H' => Go j H1 H' ∧ Urn K B j (400 - 100 * i) H' ∧ ∃ x2 x3 x4 x5 x6 x7 x8 x9 x10 x11 x12 x13, σ = [some (.ref a), some (.ref j), x2, x3, x4, x5, x6, x7, x8, x9, x10, x11, x12, x13])
      ⟨Go.refl j _, u.less (by decide), _, _, _, _, _, _, _, _, _, _, _, _, rfl⟩ ?_ ?_)
    · rintro i σ H2 hi ⟨g2, u2, x2, x3, x4, x5, x6, x7, x8, x9, x10, x11, x12, x13, rfl⟩
      have bud : 400 - 100 * i = (400 - 100 * (i + 1)) + 100 := by omega
      rw [bud] at u2
      generalize 400 - 100 * (i + 1) = b at u2 ⊢
      refine ⟨fun σ' H' => ∃ nv nd, σ' = [some (.ref a), some (.ref j), some (.int (0 + (i : Int))), some nv, x4, x5, x6, x7, x8, x9, x10, x11, x12, x13] ∧ Go j H2 H' ∧ Urn K B j (b + 90) H' ∧ Da K (off j H') nv nd, ?_, ?_⟩
      · --S
        walk_at "rd"
        rintro r H3 r0 r1 g3 u3
        walk_at "rd"
        refine ifB (fun c1 => ?_) (fun c1 => ?_)
        · walk_at "rd"
          rintro z H4 hz g4 u4
          exact ⟨_, _, rfl, g3.trans g4, u4.less (by omega), .int z⟩
        · walk_at "rd"
          rintro v d H4 hd hv g4 u4
          exact ⟨_, _, rfl, g3.trans g4, u4.less (by omega), Da.mono (neu_off u3.there) d hv⟩
      --E
      rintro σ' H3 ⟨nv, nd, rfl, g3, u3, hn⟩
      refine ⟨fun σ' H' => ∃ lv lo, σ' = [some (.ref a), some (.ref j), some (.int (0 + (i : Int))), some nv, some lv, x5, x6, x7, x8, x9, x10, x11, x12, x13] ∧ Go j H3 H' ∧ Urn K B j (b + 85) H' ∧ Bd lv lo, ?_, ?_⟩
      · --S
        walk_at "rd"
        rintro r H4 r0 r1 g4 u4
        walk_at "rd"
        refine ifB (fun c1 => ?_) (fun c1 => ?_)
        · walk_at "rd"
          exact ⟨_, _, rfl, g4, u4.less (by omega), .non⟩
        · walk_at "rd"
          rintro z H5 hz g5 u5
          exact ⟨_, _, rfl, g4.trans g5, u5.less (by omega), .int z⟩
      --E
      rintro σ' H4 ⟨lv, lo, rfl, g4, u4, hlo⟩
      refine ⟨fun σ' H' => ∃ mv hi, σ' = [some (.ref a), some (.ref j), some (.int (0 + (i : Int))), some nv, some lv, some mv, x6, x7, x8, x9, x10, x11, x12, x13] ∧ Go j H4 H' ∧ Urn K B j (b + 80) H' ∧ Bd mv hi, ?_, ?_⟩
      · --S
        walk_at "rd"
        rintro r H5 r0 r1 g5 u5
        walk_at "rd"
        refine ifB (fun c1 => ?_) (fun c1 => ?_)
        · walk_at "rd"
          exact ⟨_, _, rfl, g5, u5.less (by omega), .non⟩
        · walk_at "rd"
          rintro z H6 hz g6 u6
          exact ⟨_, _, rfl, g5.trans g6, u6.less (by omega), .int z⟩
      --E
      rintro σ' H5 ⟨mv, hi, rfl, g5, u5, hhi⟩
      refine ⟨fun σ' H' => ∃ lv lo mv hi, σ' = [some (.ref a), some (.ref j), some (.int (0 + (i : Int))), some nv, some lv, some mv, x6, x7, x8, x9, x10, x11, x12, x13] ∧ Go j H5 H' ∧ Urn K B j (b + 75) H' ∧ Bd lv lo ∧ Bd mv hi, ?_, ?_⟩
      · --S
        have hn5 : Da K (off j H5) nv nd := Da.mono (g4.trans g5).ex nd hn
        walk_at "rd"
        refine ⟨nv, nd, rfl, Da.mono (off_sub j H5) nd hn5, fun H6 e6 => ?_⟩
        have u6 := u5.ex e6
        walk_at "rd"
        refine ifB (fun c1 => ?_) (fun c1 => ?_)
        · obtain ⟨z, rfl, rfl⟩ := int_of hn5 c1
          walk_at "rd"
          rintro r H7 r0 r1 g7 u7
          have g57 := (Go.of (j := j) e6).trans g7
          walk_at "rd"
          refine ifB (fun c2 => ?_) (fun c2 => ?_)
          · walk_at "rd"
            intro p1 hp1
            have ep1 : Ex H7 (upd H7 p1 (.tup [.int z,.non])) := Evl.Ex.new hp1
            have ap1 : upd H7 p1 (.tup [.int z,.non]) p1 = some (.tup [.int z,.non]) := upd_same
            generalize upd H7 p1 (.tup [.int z,.non]) = A1 at ep1 ap1 ⊢
            walk_at "rd"
            intro p2 hp2
            have ep2 : Ex A1 (upd A1 p2 (.tup [.non,.int z])) := Evl.Ex.new hp2
            have ap2 : upd A1 p2 (.tup [.non,.int z]) p2 = some (.tup [.non,.int z]) := upd_same
            generalize upd A1 p2 (.tup [.non,.int z]) = A2 at ep2 ap2 ⊢
            walk_at "rd"
            intro p3 hp3
            have ep3 : Ex A2 (upd A2 p3 (.tup [.int z,.int z])) := Evl.Ex.new hp3
            have ap3 : upd A2 p3 (.tup [.int z,.int z]) p3 = some (.tup [.int z,.int z]) := upd_same
            generalize upd A2 p3 (.tup [.int z,.int z]) = A3 at ep3 ap3 ⊢
            walk_at "rd"
            intro p4 hp4
            have ep4 : Ex A3 (upd A3 p4 (.tup [.int (z+1),.non])) := Evl.Ex.new hp4
            have ap4 : upd A3 p4 (.tup [.int (z+1),.non]) p4 = some (.tup [.int (z+1),.non]) := upd_same
            generalize upd A3 p4 (.tup [.int (z+1),.non]) = A4 at ep4 ap4 ⊢
            walk_at "rd"
            intro p5 hp5
            have ep5 : Ex A4 (upd A4 p5 (.tup [.non,.int (z-1)])) := Evl.Ex.new hp5
            have ap5 : upd A4 p5 (.tup [.non,.int (z-1)]) p5 = some (.tup [.non,.int (z-1)]) := upd_same
            generalize upd A4 p5 (.tup [.non,.int (z-1)]) = A5 at ep5 ap5 ⊢
            walk_at "rd"
            intro l hl
            have el : Ex A5 (upd A5 l (.lst [.ref p1,.ref p2,.ref p3,.ref p4,.ref p5])) := Evl.Ex.new hl
            have al : upd A5 l (.lst [.ref p1,.ref p2,.ref p3,.ref p4,.ref p5]) l = some (.lst [.ref p1,.ref p2,.ref p3,.ref p4,.ref p5]) := upd_same
            generalize upd A5 l (.lst [.ref p1,.ref p2,.ref p3,.ref p4,.ref p5]) = A6 at el al ⊢
            have f5 : Ex A5 A6 := el
            have f4 := ep5.trans f5
            have f3 := ep4.trans f4
            have f2 := ep3.trans f3
            have f1 := ep2.trans f2
            have f0 := ep1.trans f1
            have u8 := u7.ex f0
            walk_at "rd"
            rintro q H8 q0 q1 g8 u8'
            have n1 := u7.ne hp1
            have n2 := u7.ne (Evl.fresh_back ep1 hp2)
            have n3 := u7.ne (Evl.fresh_back (ep1.trans ep2) hp3)
            have n4 := u7.ne (Evl.fresh_back ((ep1.trans ep2).trans ep3) hp4)
            have n5 := u7.ne (Evl.fresh_back (((ep1.trans ep2).trans ep3).trans ep4) hp5)
            have nl := u7.ne (Evl.fresh_back ((((ep1.trans ep2).trans ep3).trans ep4).trans ep5) hl)
            have b1 := g8 p1 _ n1 (f1 _ _ ap1)
            have b2 := g8 p2 _ n2 (f2 _ _ ap2)
            have b3 := g8 p3 _ n3 (f3 _ _ ap3)
            have b4 := g8 p4 _ n4 (f4 _ _ ap4)
            have b5 := g8 p5 _ n5 (f5 _ _ ap5)
            have bl := g8 l _ nl al
            have g58 : Go j H5 H8 := g57.trans ((Go.of f0).trans g8)
            have : q = 0 ∨ q = 1 ∨ q = 2 ∨ q = 3 ∨ q = 4 := by omega
            rcases this with rfl | rfl | rfl | rfl | rfl
            all_goals refine ⟨_, _, _, _, rfl, rfl, SqL.of bl, by rfl, ?_⟩
            · exact ⟨_, _, rfl, SqT.of b1, rfl, _, _, rfl, _, _, rfl, rfl, _, _, _, _, rfl, g58, u8'.less (by omega), .int _, .non⟩
            · exact ⟨_, _, rfl, SqT.of b2, rfl, _, _, rfl, _, _, rfl, rfl, _, _, _, _, rfl, g58, u8'.less (by omega), .non, .int _⟩
            · exact ⟨_, _, rfl, SqT.of b3, rfl, _, _, rfl, _, _, rfl, rfl, _, _, _, _, rfl, g58, u8'.less (by omega), .int _, .int _⟩
            · exact ⟨_, _, rfl, SqT.of b4, rfl, _, _, rfl, _, _, rfl, rfl, _, _, _, _, rfl, g58, u8'.less (by omega), .int _, .non⟩
            · exact ⟨_, _, rfl, SqT.of b5, rfl, _, _, rfl, _, _, rfl, rfl, _, _, _, _, rfl, g58, u8'.less (by omega), .non, .int _⟩
          · walk_at "rd"
            exact ⟨_, _, _, _, rfl, g57, u7.less (by omega), hlo, hhi⟩
        · walk_at "rd"
          exact ⟨_, _, _, _, rfl, Go.of e6, u6.less (by omega), hlo, hhi⟩
      --E
      clear hlo hhi
      rintro σ' H6 ⟨lv, lo, mv, hi, rfl, g6, u6, hlo, hhi⟩
      have hn6 : Da K (off j H6) nv nd := Da.mono ((g4.trans g5).trans g6).ex nd hn
      have hD6 : Da K H6 nv nd := Da.mono (off_sub j H6) nd hn6
      have g26 : Go j H1 H6 := ((((g2.trans g3).trans g4).trans g5).trans g6)
      clear g2 g3 g4 g5 g6 u2 u3 u4 u5 hn hn6
      refine ⟨fun σ' H' => σ' = [some (.ref a), some (.ref j), some (.int (0 + (i : Int))), some nv, some lv, some mv, some (.bl (isI nd)), x7, x8, x9, x10, x11, x12, x13] ∧ Ex H6 H', ?_, ?_⟩
      · --S
        walk_at "rd"
        exact fun H7 e7 => ⟨rfl, e7⟩
      --E
      rintro σ' H7 ⟨rfl, e7⟩
      have hD7 := Da.mono e7 nd hD6
      refine ⟨fun σ' H' => σ' = [some (.ref a), some (.ref j), some (.int (0 + (i : Int))), some nv, some lv, some mv, some (.bl (isI nd)), x7, x8, x9, x10, x11, x12, x13] ∧ Ex H7 H', ?_, ?_⟩
      · --S
        walk_at "rd"
        intro H8 e8
        walk_at "rd"
        refine ifF (by simp) ?_
        walk_at "rd"
        refine ⟨nv, nd, rfl, Da.mono e8 nd hD7, fun H9 e9 => ?_⟩
        walk_at "rd"
        refine ifF (by simp) ?_
        walk_at "rd"
        exact e8.trans e9
      --E
      rintro σ' H8 ⟨rfl, e8⟩
      have hD8 := Da.mono e8 nd hD7
      refine ⟨fun σ' H' => σ' = [some (.ref a), some (.ref j), some (.int (0 + (i : Int))), some nv, some lv, some mv, some (.bl (withinD nd lo hi)), x7, x8, x9, x10, x11, x12, x13] ∧ H' = H8, ?_, ?_⟩
      · --S
        walk_at "rd"
        refine ifB (fun c1 => ?_) (fun c1 => ?_)
        · obtain ⟨z, rfl, rfl⟩ := int_of hD8 c1
          cases hlo <;> cases hhi
          · walk_at "rd"
            rfl
          · walk_at "rd"
            rfl
          · walk_at "rd"
            refine ifB (fun c2 => ?_) (fun c2 => ?_)
            · walk_at "rd"
              refine ifT rfl ?_
              refine ⟨?_, rfl⟩
              simp_all [withinD]
            · refine ⟨?_, rfl⟩
              simp_all [withinD]
          · walk_at "rd"
            refine ifB (fun c2 => ?_) (fun c2 => ?_)
            · walk_at "rd"
              refine ⟨?_, rfl⟩
              simp_all [withinD]
            · refine ⟨?_, rfl⟩
              simp_all [withinD]
              intros; omega
        · refine ⟨?_, rfl⟩
          rw [within_no c1, c1]
          rfl
      --E
      rintro σ' H8 ⟨rfl, rfl⟩
      refine ⟨fun σ' H' => σ' = [some (.ref a), some (.ref j), some (.int (0 + (i : Int))), some nv, some lv, some mv, some (.bl (withinD nd lo hi)), x7, x8, x9, x10, x11, x12, x13] ∧ Ex H8 H', ?_, ?_⟩
      · --S
        walk_at "rd"
        refine ⟨nv, lv, mv, nd, lo, hi, rfl, hD8, hlo, hhi, fun H9 e9 => ?_⟩
        walk_at "rd"
        refine ifF (by simp) ?_
        walk_at "rd"
        refine ⟨nv, lv, mv, nd, lo, hi, rfl, Da.mono e9 nd hD8, hlo, hhi, fun H10 e10 => ?_⟩
        walk_at "rd"
        refine ifF (by simp) ?_
        walk_at "rd"
        exact e9.trans e10
      --E
      rintro σ' H9 ⟨rfl, e9⟩
      have u9 : Urn K B j (b + 75) H9 := ((u6.ex e7).ex e8).ex e9
      have g9 : Go j H1 H9 := g26.trans (Go.of ((e7.trans e8).trans e9))
      clear e7 e8 e9 u6 g26 hD6 hD7 hD8 hlo hhi
      refine ⟨fun σ' H' => ∃ pv pd, σ' = [some (.ref a), some (.ref j), some (.int (0 + (i : Int))), some nv, some lv, some mv, some (.bl (withinD nd lo hi)), some pv, x8, x9, x10, x11, x12, x13] ∧ Go j H9 H' ∧ Urn K B j (b + 60) H' ∧ Da K (off j H') pv pd, ?_, ?_⟩
      · --S
        walk_at "rd"
        rintro v d H10 fd dd hv g10 u10
        walk_at "rd"
        exact ⟨_, _, rfl, g10, u10.less (by omega), Da.mono (neu_off u9.there) d hv⟩
      --E
      rintro σ' H10 ⟨pv, pd, rfl, g10, u10, hp⟩
      have hp' := Da.mono (off_sub j H10) pd hp
      refine ⟨fun σ' H' => σ' = [some (.ref a), some (.ref j), some (.int (0 + (i : Int))), some nv, some lv, some mv, some (.bl (withinD nd lo hi)), some pv, x8, x9, x10, x11, x12, x13] ∧ Ex H10 H', ?_, ?_⟩
      · --S
        walk_at "rd"
        intro H11 e11
        walk_at "rd"
        refine ⟨pv, pd, rfl, Da.mono e11 pd hp', fun H12 e12 => ?_⟩
        walk_at "rd"
        refine ifF (by simp) ?_
        walk_at "rd"
        refine ⟨pv, pd, rfl, Da.mono (e11.trans e12) pd hp', fun H13 e13 => ?_⟩
        walk_at "rd"
        refine ⟨pv, pd, rfl, Da.mono ((e11.trans e12).trans e13) pd hp', fun H14 e14 => ?_⟩
        walk_at "rd"
        refine ifF (by simp) ?_
        walk_at "rd"
        exact ((e11.trans e12).trans e13).trans e14
      --E
      rintro σ' H11 ⟨rfl, e11⟩
      have u11 := u10.ex e11
      have g11 := (g9.trans g10).trans (Go.of e11)
      clear g9 g10 u9 u10 e11 hp hp'
      refine ⟨fun σ' H' => ∃ D xs ds, σ' = [some (.ref a), some (.ref j), some (.int (0 + (i : Int))), some nv, some lv, some mv, some (.bl (withinD nd lo hi)), some pv, some (.ref D), x9, x10, x11, x12, x13] ∧ Go j H11 H' ∧ Urn K B j (b + 15) H' ∧ Bag K j D xs ds 4 H' ∧ H11 D = none, ?_, ?_⟩
      · --S
        walk_at "rd"
        rintro r H12 r0 r1 g12 u12
        refine ⟨r, rfl, by omega, by omega, fun D hD => ?_⟩
        have eD := Evl.Ex.new (o := .lst []) hD
        refine lc_range (lo := 0) (n := r.toNat) (fun m H' => Go j H12 H' ∧ Urn K B j (b + 15 + 10 * (4 - m)) H' ∧ ∃ xs ds, Bag K j D xs ds 4 H' ∧ ds.length = m ∧ xs.length = m)
          ⟨Go.of eD, (u12.less (by omega)).ex eD, [], [], ⟨upd_same, u12.ne hD, .nil, by simp, by simp⟩, rfl, rfl⟩ ?_ ?_
        · rintro m H' hm ⟨q1, q2, xs, ds, q3, q4, q5⟩
          refine ⟨rfl, ?_⟩
          have q2' := q2.less (b' := b + 15 + 10 * (4 - (m + 1)) + 10) (by omega)
          walk_at "rd"
          rintro v d H13 fd dd hv g13 u13
          have h3 := q3.go g13
          refine ⟨xs, h3.it, by omega, Go.mut (q1.trans g13) hD, u13.mut u12 hD, xs ++ [v], ds ++ [d], ⟨upd_same, q3.ne, ?_, ?_, ?_⟩, ?_, ?_⟩
          · exact DaAll.app (DaAll.mono off_upd ds h3.da) (.cons (Da.mono ((neu_off2 q2 (by rw [q3.it]; exact fun z => nomatch z)).trans off_upd) d hv) .nil)
          · rw [List.length_append, List.length_singleton]; omega
          · intro x hx
            rcases List.mem_append.mp hx with hx | hx
            · exact q3.fit x hx
            · rw [List.mem_singleton.mp hx]; exact ⟨fd, dd⟩
          · rw [List.length_append, List.length_singleton]; omega
          · rw [List.length_append, List.length_singleton]; omega
        · rintro H' ⟨q1, q2, xs, ds, q3, q4, q5⟩
          exact ⟨D, xs, ds, rfl, g12.trans q1, q2.less (by omega), q3, u12.back g12 hD⟩
      --E
      rintro σ' H12 ⟨D, xs, ds, rfl, g12, u12, bg, hD⟩
      refine ⟨fun σ' H' => ∃ D xs ds, σ' = [some (.ref a), some (.ref j), some (.int (0 + (i : Int))), some nv, some lv, some mv, some (.bl (withinD nd lo hi)), some pv, some (.ref D), x9, x10, x11, x12, x13] ∧ Go j H11 H' ∧ Urn K B j (b + 14) H' ∧ Bag K j D xs ds 4 H' ∧ H11 D = none, ?_, ?_⟩
      · --S
        walk_at "rd"
        rintro r H13 r0 r1 g13 u13
        walk_at "rd"
        refine ifB (fun c1 => ?_) (fun c1 => ?_)
        · have bg := bg.go g13
          walk_at "rd"
          refine ⟨⟨_, SqL.of bg.it⟩, fun D2 hD2 => ?_⟩
          have eD := Evl.Ex.new (o := .lst []) hD2
          have far : ∀ H', Ex H13 H' → Ex (off D (off j H13)) (off D2 (off j H')) := by
            intro H' e b o h
            have h1 := off_sub j _ _ _ (off_sub D _ _ _ h)
            have n1 : b ≠ j := by
              rintro rfl
              have := off_sub D _ _ _ h
              rw [show off b H13 b = none from if_pos rfl] at this; cases this
            exact off_at (fun e => by rw [e, hD2] at h1; cases h1) (off_at n1 (e _ _ h1))
          refine lc_list (K := K) (a := D) (xs := xs) (fun m H' => Ex H13 H' ∧ ∃ ys es, H' D2 = some (.lst ys) ∧ DaAll K (off D (off j H13)) ys es ∧ es.length ≤ m ∧ ∀ d ∈ es, Fit 1000 d ∧ d.depth ≤ 2)
            ⟨eD, [], [], upd_same, .nil, by simp, by simp⟩ (fun m H' _ q => SqL.of (q.1 _ _ bg.it)) ?_ ?_
          · rintro m x H' hx ⟨q1, ys, es, q2, q3, q4, q5⟩
            obtain ⟨d, hd, hv⟩ := bg.da.at hx
            have hvH : Da K H' x d := Da.mono (off_sub j _) d (Da.mono (off_sub D2 _) d (Da.mono (far H' q1) d hv))
            refine ⟨rfl, ?_⟩
            walk_at "rd"
            intro H14 e14
            have e1314 := q1.trans e14
            refine ⟨_, rfl, ?_⟩
            refine ifB (fun c2 => ?_) (fun c2 => ?_)
            · walk_at "rd"
              refine ⟨ys, e14 _ _ q2, ?_, Evl.Ex.mut e1314 hD2, ys ++ [x], es ++ [d], upd_same, DaAll.app q3 (.cons hv .nil), ?_, ?_⟩
              · have := q3.len; have := bg.da.len; have := bg.len; have := List.getElem?_eq_some_iff.mp hx; obtain ⟨hlt, _⟩ := this; omega
              · rw [List.length_append, List.length_singleton]; omega
              · intro y hy
                rcases List.mem_append.mp hy with hy | hy
                · exact q5 y hy
                · rw [List.mem_singleton.mp hy]; exact bg.fit d (List.mem_of_getElem? hd)
            · exact ⟨e1314, ys, es, e14 _ _ q2, q3, by omega, q5⟩
          · rintro H' ⟨q1, ys, es, q2, q3, q4, q5⟩
            have hl := bg.len
            have hl2 := bg.da.len
            exact ⟨D2, ys, es, rfl, (g12.trans g13).trans (Go.of q1), u13.ex q1, ⟨q2, u13.ne hD2, DaAll.mono (far H' q1) es q3, by omega, q5⟩, u12.back g12 (u13.back g13 hD2)⟩
        · walk_at "rd"
          exact ⟨D, xs, ds, rfl, g12.trans g13, u13, bg.go g13, hD⟩
      --E
      rintro σ' H13 ⟨D, xs, ds, rfl, g13, u13, bg, hD⟩
      have hDs : ∀ H', Bag K j D xs ds 4 H' → xs.length ≤ 4 := fun H' q => by have := q.da.len; have := q.len; omega
      refine ⟨fun σ' H' => ∃ xs ds, σ' = [some (.ref a), some (.ref j), some (.int (0 + (i : Int))), some nv, some lv, some mv, some (.bl (withinD nd lo hi)), some pv, some (.ref D), x9, x10, x11, x12, x13] ∧ Go j H11 H' ∧ Urn K B j (b + 12) H' ∧ Bag K j D xs ds 5 H', ?_, ?_⟩
      · --S
        have less : ∀ H', Bag K j D xs ds 4 H' → Bag K j D xs ds 5 H' := fun H' q => ⟨q.it, q.ne, q.da, Nat.le_succ_of_le q.len, q.fit⟩
        walk_at "rd"
        intro l hl
        have el := Evl.Ex.new (o := .lst []) hl
        have bl := bg.go (Go.of el)
        have ul := u13.ex el
        refine ⟨_, _, _, rfl, rfl, SqL.of bl.it, SqL.of upd_same, ?_⟩
        walk_at "rd"
        refine ifB (fun c1 => ?_) (fun c1 => ?_)
        · obtain ⟨x, xt, rfl⟩ : ∃ x xt, xs = x :: xt := by
            cases xs with
            | nil => cases c1
            | cons x t => exact ⟨x, t, rfl⟩
          walk_at "rd"
          rintro r H14 r0 r1 g14 u14
          have b14 := bl.go g14
          have g14' := (g13.trans (Go.of el)).trans g14
          have hit := b14.it
          walk_at "rd"
          refine ifB (fun c2 => ?_) (fun c2 => ?_)
          · obtain ⟨d, hd0, hv⟩ := b14.da.at (i := 0) (v := x) rfl
            have hvH : Da K H14 x d := Da.mono (off_sub j _) d (Da.mono (off_sub D _) d hv)
            walk_at "rd"
            refine ⟨D, _, 0, x, rfl, rfl, SqL.of hit, at_of (j := 0) rfl rfl, ?_⟩
            walk_at "rd"
            intro H15 e15
            have u15 := u14.ex e15
            have b15 := b14.go (Go.of e15)
            have it15 := b15.it
            walk_at "rd"
            refine ifB (fun c3 => ?_) (fun c3 => ?_)
            · obtain ⟨p, y, z, rfl, sq, hq⟩ := sq_at hv c3
              walk_at "rd"
              refine ⟨Or.inl ⟨rfl, _, SqL.of it15⟩, ?_⟩
              walk_at "rd"
              have hx5 : (V.ref p :: xt).length ≤ 4 := hDs _ b15
              refine ⟨j, B, b + 12, _, rfl, by omega, ?_, u15.less (by omega), fun q H16 q0 q1 g16 u16 => ?_⟩
              · exact Nat.lt_of_le_of_lt (Nat.log2_le_self _) (by omega)
              have b16 := b15.go g16
              have it16 := b16.it
              have gg : Ex (off D (off j H14)) (off D (off j H16)) := Go.ex (j := D) (Go.of ((Go.of e15).trans g16).ex)
              have hq16 := seq_ex ((gg.trans (off_sub D _)).trans (off_sub j _)) hq
              walk_at "rd"
              refine ⟨D, _, 0, .ref p, rfl, rfl, SqL.of it16, at_of (j := 0) rfl rfl, ?_⟩
              walk_at "rd"
              refine ix_of hq16 rfl ?_
              walk_at "rd"
              refine ⟨D, _, 0, .ref p, rfl, rfl, SqL.of it16, at_of (j := 0) rfl rfl, ?_⟩
              walk_at "rd"
              refine ix_of hq16 rfl ?_
              walk_at "rd"
              intro l2 hl2
              have nD : l2 ≠ D := fun e => by rw [e, it16] at hl2; cases hl2
              have e17 := Evl.Ex.new (o := .lst [.int y, .int z]) hl2
              have b17 := b16.go (Go.of e17)
              have u17 := u16.ex e17
              refine ⟨D, _, q, .ref l2, rfl, rfl, b17.it, by rw [small]; omega, q0, by omega, ?_⟩
              have gAll := (g14'.trans (Go.of e15)).trans (g16.trans (Go.of e17))
              have new : Da K (off D (off j (upd H16 l2 (.lst [.int y, .int z])))) (.ref l2) (.list [.int y, .int z]) :=
                .lst (SqL.of (off_at nD (off_at (u16.ne hl2) upd_same))) (.cons (.int _) (.cons (.int _) .nil))
              have len4 := b17.len
              refine ⟨_, ds.take q.toNat ++ [.list [.int y, .int z]] ++ ds.drop q.toNat, rfl, Go.mut gAll hD, u17.mut u11 hD, upd_same, b17.ne, ?_, ?_, ?_⟩
              · exact DaAll.mono off_upd _ (DaAll.app (DaAll.app (da_take _ b17.da) (.cons new .nil)) (da_drop _ b17.da))
              · simp only [List.length_append, List.length_take, List.length_drop, List.length_singleton]; omega
              · intro e he
                rcases List.mem_append.mp he with he | he
                · rcases List.mem_append.mp he with he | he
                  · exact b17.fit e (List.mem_of_mem_take he)
                  · rw [List.mem_singleton.mp he]
                    exact ⟨fit_pair sq (b17.fit d (List.mem_of_getElem? hd0)).1, by simp [PyData.depth, PyData.depthAll]⟩
                · exact b17.fit e (List.mem_of_mem_drop he)
            · exact ⟨_, _, rfl, g14'.trans (Go.of e15), u15.less (by omega), less _ b15⟩
          · walk_at "rd"
            exact ⟨_, _, rfl, g14', u14.less (by omega), less _ b14⟩
        · walk_at "rd"
          exact ⟨_, _, rfl, g13.trans (Go.of el), ul.less (by omega), less _ bl⟩
      --E
      rintro σ' H14 ⟨xs, ds, rfl, g14, u14, bg⟩
      refine ⟨fun σ' H' => ∃ vv vd, σ' = [some (.ref a), some (.ref j), some (.int (0 + (i : Int))), some nv, some lv, some mv, some (.bl (withinD nd lo hi)), some pv, some (.ref D), x9, x10, some vv, x12, x13] ∧ Go j H11 H' ∧ Urn K B j (b + 10) H' ∧ Da K (off j H') vv vd ∧ (∀ ds, seqOf vd = some ds → ds.length < 60) ∧ Fit 6000 vd, ?_, ?_⟩
      · --S
        have hf := fit_seq 5 (n := 1000) bg.len bg.fit
        walk_at "rd"
        rintro r H15 r0 r1 g15 u15
        have b15 := bg.go g15
        walk_at "rd"
        refine ifB (fun c1 => ?_) (fun c1 => ?_)
        · walk_at "rd"
          refine ⟨D, _, rfl, Or.inl ⟨SqL.of b15.it, fun t ht => ?_⟩⟩
          have et := Evl.Ex.new (o := .tup xs) ht
          walk_at "rd"
          refine ⟨_, .tuple ds, rfl, (g14.trans g15).trans (Go.of et), (u15.ex et).less (by omega), .tup (SqT.of (off_at (u15.ne ht) upd_same)) ?_, ?_, hf.2.mono (by decide)⟩
          · exact DaAll.mono ((off_sub D _).trans (Go.of et).ex) ds b15.da
          · intro es h; cases h; have := bg.len; omega
        · walk_at "rd"
          refine ⟨_, .list ds, rfl, g14.trans g15, u15.less (by omega), .lst (SqL.of (off_at b15.ne b15.it)) ?_, ?_, hf.1.mono (by decide)⟩
          · exact DaAll.mono (off_sub D _) ds b15.da
          · intro es h; cases h; have := bg.len; omega
      --E
      rintro σ' H15 ⟨vv, vd, rfl, g15, u15, hv, hl5, hf⟩
      have g115 := g11.trans g15
      have hvH := Da.mono (off_sub j _) vd hv
      refine ⟨fun σ' H' => σ' = [some (.ref a), some (.ref j), some (.int (0 + (i : Int))), some nv, some lv, some mv, some (.bl (withinD nd lo hi)), some pv, some (.ref D), x9, x10, some vv, some (.str vd.shown), x13] ∧ H' = H15, ?_, ?_⟩
      · --S
        walk_at "rd"
        exact ⟨sysG g115, hf.sh, hf.line (by decide), by have := hf.dp; omega, rfl, rfl⟩
      --E
      rintro σ' H15 ⟨rfl, rfl⟩
      refine ⟨fun σ' H' => σ' = [some (.ref a), some (.ref j), some (.int (0 + (i : Int))), some nv, some lv, some mv, some (.bl (withinD nd lo hi)), some pv, some (.ref D), x9, x10, some vv, some (.str vd.shown), x13] ∧ Ex H15 H', ?_, ?_⟩
      · --S
        walk_at "rd"
        intro H16 e16
        walk_at "rd"
        refine ⟨vv, vd, rfl, Da.mono e16 vd hvH, hl5, fun H17 e17 => ?_⟩
        walk_at "rd"
        refine ifF (by simp) ?_
        walk_at "rd"
        refine ⟨vv, vd, rfl, Da.mono (e16.trans e17) vd hvH, hl5, fun H18 e18 => ?_⟩
        walk_at "rd"
        refine ⟨vv, vd, rfl, Da.mono ((e16.trans e17).trans e18) vd hvH, hl5, fun H19 e19 => ?_⟩
        walk_at "rd"
        refine ifF (by simp) ?_
        walk_at "rd"
        refine ⟨vv, vd, rfl, Da.mono (((e16.trans e17).trans e18).trans e19) vd hvH, sysG (g115.trans (Go.of (((e16.trans e17).trans e18).trans e19))), hf.sh, hf.line (by decide), by have := hf.dp; omega, ?_⟩
        walk_at "rd"
        refine ifF (by simp) ?_
        walk_at "rd"
        exact ((e16.trans e17).trans e18).trans e19
      --E
      rintro σ' H16 ⟨rfl, e16⟩
      have u16 := u15.ex e16
      have g16 := g115.trans (Go.of e16)
      clear hv hvH hl5 hf g115 g15 u15 e16
      walk_at "rd"
      rintro v d H17 hd hv g17 u17
      have hvH := Da.mono (off_sub j _) d (Da.mono (neu_off u16.there) d hv)
      obtain ⟨are1, are2⟩ := odd_are d hd
      walk_at "rd"
      intro H18 e18
      have hv18 := Da.mono e18 d hvH
      walk_at "rd"
      intro l hl
      have e19 := Evl.Ex.new (o := .lst []) hl
      have hv19 := Da.mono e19 d hv18
      walk_at "rd"
      have lnil : SqL K (upd H18 l (.lst [])) l [] := SqL.of upd_same
      have u19 := ((u17.ex e18).ex e19).less (b' := b) (by omega)
      have g19 := (g16.trans g17).trans (Go.of (j := j) (e18.trans e19))
      rcases odd_lay d hd with ⟨lay, sh⟩ | ⟨ps, rfl⟩
      · refine Or.inl ⟨d, .list [], Da.dp d lay hv19, .lst lnil .nil, sh, by decide, ?_⟩
        refine ⟨_, rfl, ?_⟩
        refine ifB (fun c1 => ?_) (fun c1 => ?_)
        · walk_at "rd"
          refine ⟨v, .ty "list", _, _, _, rfl, .ty "list", tyX_of hv19, kit_ty (kit_list d), ?_⟩
          walk_at "rd"
          refine ifF (by rw [are1, c1]; simp) ?_
          walk_at "rd"
          first | exact ⟨_, _, _, _, _, _, _, _, _, _, _, _, rfl⟩ | exact ⟨g19, u19, _, _, _, _, _, _, _, _, _, _, _, _, rfl⟩
        · walk_at "rd"
          refine ifF (by rw [are1, c1]; simp) ?_
          walk_at "rd"
          first | exact ⟨_, _, _, _, _, _, _, _, _, _, _, _, rfl⟩ | exact ⟨g19, u19, _, _, _, _, _, _, _, _, _, _, _, _, rfl⟩
      · cases hv19 with
        | dct h1 h2 =>
          refine Or.inr ⟨_, _, _, _, rfl, h1, rfl, lnil, ?_⟩
          refine ⟨_, rfl, ?_⟩
          refine ifF rfl ?_
          walk_at "rd"
          first
            | exact ⟨_, _, _, _, _, _, _, _, _, _, _, _, rfl⟩
            | exact ⟨g19, u19, _, _, _, _, _, _, _, _, _, _, _, _, rfl⟩
            | trace_state
    · rintro σ H2 ⟨g2, u2, x2, x3, x4, x5, x6, x7, x8, x9, x10, x11, x12, x13, rfl⟩
      walk_at "rd"
      exact k _
end
end K02
namespace K02
open PySem PySem.Spec PyProof.Rows L2 Kg
theorem all_mk {l : PySem.W.OpenLaw} {w : World} {K : PySem.W.Frag} {h : Heap} {mg : Str → Option Value} {fa : Addr} (X : K.In h) (G : h.Ns mainGlobals mg) (hfa : mg "law" = some (.ref fa))
    {f0 : Addr} {od0 an0 : Option Addr} {sl0 : Array (Option Value)} {oc0 kV0 dc0 pm0 cd0 ct0 : Value}
    {f1 : Addr} {od1 an1 : Option Addr} {sl1 : Array (Option Value)} {oc1 kV1 dc1 pm1 cd1 ct1 : Value}
    {f2 : Addr} {od2 an2 : Option Addr} {sl2 : Array (Option Value)} {oc2 kV2 dc2 pm2 cd2 ct2 : Value}
    {f3 : Addr} {od3 an3 : Option Addr} {sl3 : Array (Option Value)} {oc3 kV3 dc3 pm3 cd3 ct3 : Value}
    {f4 : Addr} {od4 an4 : Option Addr} {sl4 : Array (Option Value)} {oc4 kV4 dc4 pm4 cd4 ct4 : Value}
    {f5 : Addr} {od5 an5 : Option Addr} {sl5 : Array (Option Value)} {oc5 kV5 dc5 pm5 cd5 ct5 : Value}
    {f6 : Addr} {od6 an6 : Option Addr} {sl6 : Array (Option Value)} {oc6 kV6 dc6 pm6 cd6 ct6 : Value}
    {f7 : Addr} {od7 an7 : Option Addr} {sl7 : Array (Option Value)} {oc7 kV7 dc7 pm7 cd7 ct7 : Value}
    {f8 : Addr} {od8 an8 : Option Addr} {sl8 : Array (Option Value)} {oc8 kV8 dc8 pm8 cd8 ct8 : Value}
    {f9 : Addr} {od9 an9 : Option Addr} {sl9 : Array (Option Value)} {oc9 kV9 dc9 pm9 cd9 ct9 : Value}
    {f10 : Addr} {od10 an10 : Option Addr} {sl10 : Array (Option Value)} {oc10 kV10 dc10 pm10 cd10 ct10 : Value}
    {f11 : Addr} {od11 an11 : Option Addr} {sl11 : Array (Option Value)} {oc11 kV11 dc11 pm11 cd11 ct11 : Value}
    {f12 : Addr} {od12 an12 : Option Addr} {sl12 : Array (Option Value)} {oc12 kV12 dc12 pm12 cd12 ct12 : Value}
    (a0 : PySem.W.nsIn K mainGlobals "is_integer" = some (some (.ref f0)))
    (l0 : K.lookup f0 = some ⟨oc0, od0, .func (PySem.W.fnOf "is_integer" "is_integer" (defArgs s_is_integer) (defBody s_is_integer) (defScope s_is_integer) .none kV0 dc0 pm0 an0 cd0 ct0), sl0⟩)
    (c0 : PySem.W.codeIn K cd0 "is_integer" = true)
    (k0 : PySem.W.keepIn K (.ref f0) = true)
    (a1 : PySem.W.nsIn K mainGlobals "is_within" = some (some (.ref f1)))
    (l1 : K.lookup f1 = some ⟨oc1, od1, .func (PySem.W.fnOf "is_within" "is_within" (defArgs s_is_within) (defBody s_is_within) (defScope s_is_within) .none kV1 dc1 pm1 an1 cd1 ct1), sl1⟩)
    (c1 : PySem.W.codeIn K cd1 "is_within" = true)
    (k1 : PySem.W.keepIn K (.ref f1) = true)
    (a2 : PySem.W.nsIn K mainGlobals "is_square" = some (some (.ref f2)))
    (l2 : K.lookup f2 = some ⟨oc2, od2, .func (PySem.W.fnOf "is_square" "is_square" (defArgs s_is_square) (defBody s_is_square) (defScope s_is_square) .none kV2 dc2 pm2 an2 cd2 ct2), sl2⟩)
    (c2 : PySem.W.codeIn K cd2 "is_square" = true)
    (k2 : PySem.W.keepIn K (.ref f2) = true)
    (a3 : PySem.W.nsIn K mainGlobals "are_squares" = some (some (.ref f3)))
    (l3 : K.lookup f3 = some ⟨oc3, od3, .func (PySem.W.fnOf "are_squares" "are_squares" (defArgs s_are_squares) (defBody s_are_squares) (defScope s_are_squares) .none kV3 dc3 pm3 an3 cd3 ct3), sl3⟩)
    (c3 : PySem.W.codeIn K cd3 "are_squares" = true)
    (k3 : PySem.W.keepIn K (.ref f3) = true)
    (a4 : PySem.W.nsIn K mainGlobals "_law_urn" = some (some (.ref f4)))
    (l4 : K.lookup f4 = some ⟨oc4, od4, .func (PySem.W.fnOf "_law_urn" "_law_urn" (defArgs s_w_urn) (defBody s_w_urn) (defScope s_w_urn) .none kV4 dc4 pm4 an4 cd4 ct4), sl4⟩)
    (c4 : PySem.W.codeIn K cd4 "_law_urn" = true)
    (k4 : PySem.W.keepIn K (.ref f4) = true)
    (a5 : PySem.W.nsIn K mainGlobals "_law_draw" = some (some (.ref f5)))
    (l5 : K.lookup f5 = some ⟨oc5, od5, .func (PySem.W.fnOf "_law_draw" "_law_draw" (defArgs s_w_draw) (defBody s_w_draw) (defScope s_w_draw) .none kV5 dc5 pm5 an5 cd5 ct5), sl5⟩)
    (c5 : PySem.W.codeIn K cd5 "_law_draw" = true)
    (k5 : PySem.W.keepIn K (.ref f5) = true)
    (a6 : PySem.W.nsIn K mainGlobals "_law_number" = some (some (.ref f6)))
    (l6 : K.lookup f6 = some ⟨oc6, od6, .func (PySem.W.fnOf "_law_number" "_law_number" (defArgs s_w_number) (defBody s_w_number) (defScope s_w_number) .none kV6 dc6 pm6 an6 cd6 ct6), sl6⟩)
    (c6 : PySem.W.codeIn K cd6 "_law_number" = true)
    (k6 : PySem.W.keepIn K (.ref f6) = true)
    (a7 : PySem.W.nsIn K mainGlobals "_law_odd" = some (some (.ref f7)))
    (l7 : K.lookup f7 = some ⟨oc7, od7, .func (PySem.W.fnOf "_law_odd" "_law_odd" (defArgs s_w_odd) (defBody s_w_odd) (defScope s_w_odd) .none kV7 dc7 pm7 an7 cd7 ct7), sl7⟩)
    (c7 : PySem.W.codeIn K cd7 "_law_odd" = true)
    (k7 : PySem.W.keepIn K (.ref f7) = true)
    (a8 : PySem.W.nsIn K mainGlobals "_law_pair" = some (some (.ref f8)))
    (l8 : K.lookup f8 = some ⟨oc8, od8, .func (PySem.W.fnOf "_law_pair" "_law_pair" (defArgs s_w_pair) (defBody s_w_pair) (defScope s_w_pair) .none kV8 dc8 pm8 an8 cd8 ct8), sl8⟩)
    (c8 : PySem.W.codeIn K cd8 "_law_pair" = true)
    (k8 : PySem.W.keepIn K (.ref f8) = true)
    (a9 : PySem.W.nsIn K mainGlobals "_law_is_number" = some (some (.ref f9)))
    (l9 : K.lookup f9 = some ⟨oc9, od9, .func (PySem.W.fnOf "_law_is_number" "_law_is_number" (defArgs s_w_is_number) (defBody s_w_is_number) (defScope s_w_is_number) .none kV9 dc9 pm9 an9 cd9 ct9), sl9⟩)
    (c9 : PySem.W.codeIn K cd9 "_law_is_number" = true)
    (k9 : PySem.W.keepIn K (.ref f9) = true)
    (a10 : PySem.W.nsIn K mainGlobals "_law_is_pair" = some (some (.ref f10)))
    (l10 : K.lookup f10 = some ⟨oc10, od10, .func (PySem.W.fnOf "_law_is_pair" "_law_is_pair" (defArgs s_w_is_pair) (defBody s_w_is_pair) (defScope s_w_is_pair) .none kV10 dc10 pm10 an10 cd10 ct10), sl10⟩)
    (c10 : PySem.W.codeIn K cd10 "_law_is_pair" = true)
    (k10 : PySem.W.keepIn K (.ref f10) = true)
    (a11 : PySem.W.nsIn K mainGlobals "_law_are_pairs" = some (some (.ref f11)))
    (l11 : K.lookup f11 = some ⟨oc11, od11, .func (PySem.W.fnOf "_law_are_pairs" "_law_are_pairs" (defArgs s_w_are_pairs) (defBody s_w_are_pairs) (defScope s_w_are_pairs) .none kV11 dc11 pm11 an11 cd11 ct11), sl11⟩)
    (c11 : PySem.W.codeIn K cd11 "_law_are_pairs" = true)
    (k11 : PySem.W.keepIn K (.ref f11) = true)
    (a12 : PySem.W.nsIn K mainGlobals "law" = some (some (.ref f12)))
    (l12 : K.lookup f12 = some ⟨oc12, od12, .func (PySem.W.fnOf "law" "law" (defArgs s_law) (defBody s_law) (defScope s_law) .none kV12 dc12 pm12 an12 cd12 ct12), sl12⟩)
    (c12 : PySem.W.codeIn K cd12 "law" = true)
    (k12 : PySem.W.keepIn K (.ref f12) = true)
    (y_abs : PySem.W.nsIn K mainGlobals "abs" = some none)
    (y_all : PySem.W.nsIn K mainGlobals "all" = some none)
    (y_bool : PySem.W.nsIn K mainGlobals "bool" = some none)
    (y_enumerate : PySem.W.nsIn K mainGlobals "enumerate" = some none)
    (y_int : PySem.W.nsIn K mainGlobals "int" = some none)
    (y_isinstance : PySem.W.nsIn K mainGlobals "isinstance" = some none)
    (y_len : PySem.W.nsIn K mainGlobals "len" = some none)
    (y_list : PySem.W.nsIn K mainGlobals "list" = some none)
    (y_range : PySem.W.nsIn K mainGlobals "range" = some none)
    (y_repr : PySem.W.nsIn K mainGlobals "repr" = some none)
    (y_tuple : PySem.W.nsIn K mainGlobals "tuple" = some none)
    (ym : K.lookup sysModules = none) :
    OffK K ∧ ∃ fd : FuncData, (∀ (s : Shared) (v : Value), BindsTo s fd ⟨[v], []⟩ [("script", v)]) ∧ ∀ base : Heap, K.In base → base.Ns mainGlobals mg → FnG l.prog w K mg base CX0 4 fa fd ["script"] (spLaw K) := by
  have e := hfa.symm.trans (PySem.W.mg_of X G a12)
  cases e
  let T : Txt K mg := {
    f_is_integer := _, d_is_integer := _, F_is_integer := fun_mk (st := s_is_integer) l0 c0 k0, g_is_integer := PySem.W.mg_of X G a0,
    f_is_within := _, d_is_within := _, F_is_within := fun_mk (st := s_is_within) l1 c1 k1, g_is_within := PySem.W.mg_of X G a1,
    f_is_square := _, d_is_square := _, F_is_square := fun_mk (st := s_is_square) l2 c2 k2, g_is_square := PySem.W.mg_of X G a2,
    f_are_squares := _, d_are_squares := _, F_are_squares := fun_mk (st := s_are_squares) l3 c3 k3, g_are_squares := PySem.W.mg_of X G a3,
    f_w_urn := _, d_w_urn := _, F_w_urn := fun_mk (st := s_w_urn) l4 c4 k4, g_w_urn := PySem.W.mg_of X G a4,
    f_w_draw := _, d_w_draw := _, F_w_draw := fun_mk (st := s_w_draw) l5 c5 k5, g_w_draw := PySem.W.mg_of X G a5,
    f_w_number := _, d_w_number := _, F_w_number := fun_mk (st := s_w_number) l6 c6 k6, g_w_number := PySem.W.mg_of X G a6,
    f_w_odd := _, d_w_odd := _, F_w_odd := fun_mk (st := s_w_odd) l7 c7 k7, g_w_odd := PySem.W.mg_of X G a7,
    f_w_pair := _, d_w_pair := _, F_w_pair := fun_mk (st := s_w_pair) l8 c8 k8, g_w_pair := PySem.W.mg_of X G a8,
    f_w_is_number := _, d_w_is_number := _, F_w_is_number := fun_mk (st := s_w_is_number) l9 c9 k9, g_w_is_number := PySem.W.mg_of X G a9,
    f_w_is_pair := _, d_w_is_pair := _, F_w_is_pair := fun_mk (st := s_w_is_pair) l10 c10 k10, g_w_is_pair := PySem.W.mg_of X G a10,
    f_w_are_pairs := _, d_w_are_pairs := _, F_w_are_pairs := fun_mk (st := s_w_are_pairs) l11 c11 k11, g_w_are_pairs := PySem.W.mg_of X G a11,
    f_law := _, d_law := _, F_law := fun_mk (st := s_law) l12 c12 k12, g_law := PySem.W.mg_of X G a12,
    z_abs := PySem.W.mg_none_of X G y_abs,
    z_all := PySem.W.mg_none_of X G y_all,
    z_bool := PySem.W.mg_none_of X G y_bool,
    z_enumerate := PySem.W.mg_none_of X G y_enumerate,
    z_int := PySem.W.mg_none_of X G y_int,
    z_isinstance := PySem.W.mg_none_of X G y_isinstance,
    z_len := PySem.W.mg_none_of X G y_len,
    z_list := PySem.W.mg_none_of X G y_list,
    z_range := PySem.W.mg_none_of X G y_range,
    z_repr := PySem.W.mg_none_of X G y_repr,
    z_tuple := PySem.W.mg_none_of X G y_tuple }
  exact ⟨ym, T.d_law, fun s v => .of_eq rfl, fun base _ _ => ok_law T⟩
theorem room : Room 4 callerA := ⟨rfl, by decide, by decide⟩
end K02

open PySem PySem.W PyProof.Rows in
set_option maxRecDepth 100000 in
set_option maxHeartbeats 0 in
theorem PySem.Challenge.cw_nevercaught_k02_plain_values_holds : PySem.Challenge.rw_nevercaught_k02_plain_values.Holds := by
  w_on; o_law; k_head; (case hw => w_witness2)
  k_fill
  refine Kg.walkG (l := PySem.Challenge.rw_nevercaught_k02_plain_values) (n := 63) (k := 4) (x := "script") (sp := fun K => K02.spLaw K) (by decide +kernel) rfl (by decide) rfl K02.room (fun w h Y => PySem.W.kIn_of Y) ?F (fun K H a ns hl off e => ⟨a, ns, rfl, hl, off, e, fun _ => rfl⟩)
  case F =>
    intro w mg fa h KX G hmg
    refine' K02.all_mk KX G hmg ?a0 ?l0 ?c0 ?k0 ?a1 ?l1 ?c1 ?k1 ?a2 ?l2 ?c2 ?k2 ?a3 ?l3 ?c3 ?k3 ?a4 ?l4 ?c4 ?k4 ?a5 ?l5 ?c5 ?k5 ?a6 ?l6 ?c6 ?k6 ?a7 ?l7 ?c7 ?k7 ?a8 ?l8 ?c8 ?k8 ?a9 ?l9 ?c9 ?k9 ?a10 ?l10 ?c10 ?k10 ?a11 ?l11 ?c11 ?k11 ?a12 ?l12 ?c12 ?k12 ?y_abs ?y_all ?y_bool ?y_enumerate ?y_int ?y_isinstance ?y_len ?y_list ?y_range ?y_repr ?y_tuple ?ym
    (case a0 => k_is)
    (case l0 => k_is)
    (case c0 => k_is)
    (case k0 => k_is)
    (case a1 => k_is)
    (case l1 => k_is)
    (case c1 => k_is)
    (case k1 => k_is)
    (case a2 => k_is)
    (case l2 => k_is)
    (case c2 => k_is)
    (case k2 => k_is)
    (case a3 => k_is)
    (case l3 => k_is)
    (case c3 => k_is)
    (case k3 => k_is)
    (case a4 => k_is)
    (case l4 => k_is)
    (case c4 => k_is)
    (case k4 => k_is)
    (case a5 => k_is)
    (case l5 => k_is)
    (case c5 => k_is)
    (case k5 => k_is)
    (case a6 => k_is)
    (case l6 => k_is)
    (case c6 => k_is)
    (case k6 => k_is)
    (case a7 => k_is)
    (case l7 => k_is)
    (case c7 => k_is)
    (case k7 => k_is)
    (case a8 => k_is)
    (case l8 => k_is)
    (case c8 => k_is)
    (case k8 => k_is)
    (case a9 => k_is)
    (case l9 => k_is)
    (case c9 => k_is)
    (case k9 => k_is)
    (case a10 => k_is)
    (case l10 => k_is)
    (case c10 => k_is)
    (case k10 => k_is)
    (case a11 => k_is)
    (case l11 => k_is)
    (case c11 => k_is)
    (case k11 => k_is)
    (case a12 => k_is)
    (case l12 => k_is)
    (case c12 => k_is)
    (case k12 => k_is)
    (case y_abs => k_is)
    (case y_all => k_is)
    (case y_bool => k_is)
    (case y_enumerate => k_is)
    (case y_int => k_is)
    (case y_isinstance => k_is)
    (case y_len => k_is)
    (case y_list => k_is)
    (case y_range => k_is)
    (case y_repr => k_is)
    (case y_tuple => k_is)
    (case ym => rfl)
#print axioms PySem.Challenge.cw_nevercaught_k02_plain_values_holds
