import PyProof.Rows.All
import Wide.All
import OpenK.AllK
import Wide.FinOn
import HandS.ForMost
import HandS.ForExc
import HandS.ExcInit
import HandS.ExcValue
import HandS.IsInst
import KE.KExcIs
import HandS.ExcField
import HandS.TupSets
import HandS.Deep
import HandS.Conv
import HandS.Style
import KE.DatumOrd
import HandS.Walk
import HandS.Iter
import HandS.Text
import HandS.StrMore
import HandS.SortRule
import PyProof.ListStr
import PyProof.CollectIter
import PyProof.Walks
import HandS.Zip
import HandS.TupAny
import KE.KDictZip
import HandS.Strs
import HandS.FStr
import HandS.HeadHook3
import PyProof.StrLawsRepr
import HandS.ExcOwn
import PySem.Challenge.RW_perfectgraphs_k03_prints_there_and_back
set_option Elab.async false
set_option linter.all false
set_option maxRecDepth 100000
set_option maxHeartbeats 2000000
/-! Defs that are asked where nothing is being displayed: repr of data, whatever it holds. -/
namespace My
open PySem PySem.Spec PyProof.Rows L2

/-- like FnOk, for calls outside of any display -/
structure FnG (P : Program) (w : World) (K : PySem.W.Frag) (mg : Str → Option Value) (base : Heap) (C : CXT) (n : Nat) (f : Addr) (fd : FuncData) (ps : List Str) (sp : Sp) : Prop where
  arity : ∀ xs H Q E, sp xs H Q E → xs.length = ps.length
  goes : ∀ (A : Around) (out : List Env) (s : Shared) (H : Hp) (args : Args) (us : List Value) (xs : List V) (Q : VK) (E : XK), A.guards = some [] → Room n A → Env0 P w K mg base A out s H →
    BindsTo s fd args (ps.zip us) → Vals xs us → sp xs H Q E → codeAny (model P w) A (.call (.ref f) args) (CR C out P w H s Q E) s
section
variable {P : Program} {w : World} {K : PySem.W.Frag} {mg : Str → Option Value} {base : Heap} {C : CXT} {n : Nat} {f : Addr} {fd : FuncData} {ps : List Str} {sp : Sp}
theorem FnG.of (F : FnOk P w K mg base C n f fd ps sp) : FnG P w K mg base C n f fd ps sp :=
  { arity := F.len, goes := fun A out s H args us xs Q E _ r e b v h => F.run A out s H args us xs Q E r e b v h }
end

section
variable {X : Cx} {C : CXT} {n : Nat} {f : Addr} {fd : FuncData} {ps : List Str} {sp : Sp} {E : XK} {nm : Str} {p pos : Pos} {a : Expr} {as : List Expr} {t : TA}
theorem FnG.call_at {pins : List (Addr × Obj)} {σ : L2.St} {H : Hp} {s : Shared} {Q : VK} {us : List Value} {xs : List V} (F : FnG X.prog X.w X.K X.mg X.base C n f fd ps sp) (gd : X.A.guards = some []) (r : Room n X.A) (b : Binds X.K fd ps []) (x : Passes C X E)
    (I : Inv X pins σ H s) (v : Vals xs us) (h : sp xs H Q E) : wpAny (model X.prog X.w) X.A (call (.ref f) us) (EP X pins σ Q) X.xe s := by
  have len : (us ++ []).length = ps.length := by
    rw [List.append_nil, ← v.length]
    exact F.arity _ _ _ _ h
  have bd := b s us I.kIn len
  rw [List.append_nil] at bd
  refine wpAny_call (codeAny_mono (F.goes X.A X.stack s H ⟨us, []⟩ us xs Q E gd r I.env0 bd v h) ?_)
  rintro (er | fl) s' hq
  · exact x pins σ H s er s' I hq
  · cases fl <;> first | exact hq.elim | exact I.after hq
/-- f(a, ..), f such a def -/
theorem pe_callG (F : FnG X.prog X.w X.K X.mg X.base C n f fd ps sp) (gd : X.A.guards = some []) (r : Room n X.A) (g : Gl X nm) (m : X.mg nm = some (.ref f)) (kp : PySem.W.keepIn X.K (.ref f) = true) (b : Binds X.K fd ps []) (x : Passes C X E)
    (ha : PA X (a :: as) t) (nd : (nm == ("__debug__" : Str)) = false := by decide) (st : starEach (a :: as) X.env = (false, eval a X.env) :: starEach as X.env := by rfl) (pl : (backTo pos (starEach as X.env)).any (·.1) = false := by rfl) :
    PE X (.Call (.Name nm p) (a :: as) [] pos) (tCall sp [] E t) := by
  constructor
  intro pins s σ H Q I h
  refine wpAny_Call_Name_kw (ld_glob I g m ?_ nd)
  refine PySem.W.callWith_K (h₀ := X.base) I.ok.mod.kin kp (thn (ha.run pos pins s σ H _ I h) ?_) st pl
  rintro us s1 ⟨xs, H1, I1, v, q⟩
  rw [List.append_nil] at q
  exact ⟨I1.kIn, F.call_at gd r b x I1 v q⟩
end

section
variable {P : Program} {w : World} {K : PySem.W.Frag} {mg : Str → Option Value} {base : Heap} {C : CXT} {n : Nat} {f : Addr} {ps N : List Str} {sp : Sp}
/-- such a def by its body -/
theorem fnG_of {name qual : Str} {pm : Arguments} {body : List Stmt} {sc : Scope} {dV kV doc md cdv ct oc : Value} {an od : Option Addr} {sl : Array (Option Value)}
    (lk : K.lookup f = some ⟨oc, od, .func (PySem.W.fnOf name qual pm body sc dV kV doc md an cdv ct), sl⟩) (cd : PySem.W.codeIn K cdv qual = true) (S : FnScope N ps sc) (ar : ∀ xs H Q E, sp xs H Q E → xs.length = ps.length)
    (hb : ∀ (A : Around) (out : List Env) (s : Shared) (H : Hp) (xs : List V) (Q : VK) (E : XK), A.guards = some [] → Room n (A.deeper (envOfC qual sc s.heap.objs.size f cdv)) → sp xs H Q E →
      ∃ t, PSs (cxOf C P w K mg base N qual sc f cdv A out s H E) body t ∧ t { nx := fun _ H' => Q .non H', rt := Q } (start N xs) H) :
    FnG P w K mg base C (n + 1) f (PySem.W.fnOf name qual pm body sc dV kV doc md an cdv ct) ps sp := by
  refine { arity := ar, goes := ?_ }
  intro A out s H args us xs Q E gd r e bd v h
  have all : K.In s.heap := e.mod.kin.keeps fun b o z => (e.bs b o z).1
  have nolim : s.heap.NoLimit := e.mod.nolimit.keeps fun b o z => (e.bs b o z).1
  have kinds : ∀ y ∈ ps.zip us, sc.names.lookup y.1 = some .local ∨ (sc.names.lookup y.1 = some .cell ∧ ((cellsFrom (s.heap.objs.size + 1) sc.names []).lookup y.1).isSome = true) := by
    rintro ⟨y, u⟩ hy
    exact (S.par y (List.of_mem_zip hy).1).imp id fun z => ⟨z, PySem.W.cellsFrom_some _ _ _ (.inl z)⟩
  refine codeAny_call_function r.depth (all _ _ lk) rfl S.co S.gen rfl (PySem.W.codeRec_of all cd) (bd _ _ _ _ (wpAny_newFunctionEnv_cells S.kind kinds ?_))
  intro env he s1 x
  cases he
  obtain ⟨t, ht, hq⟩ := hb A out s H xs Q E gd (r.deeper _) h
  refine ⟨nolim.keeps x.toInCall.keep, codeAny_func (wpAny_mono (ht.run [] s1 (start N xs) H _ (inv_start S r.hd e (ar _ _ _ _ h) v x) hq) ?_ fun _ _ z => z)⟩
  rintro fl s' hs
  cases fl with
  | ret u =>
    obtain ⟨y, σ', H', J, ry, q⟩ := hs
    exact ⟨y, H', J.os, J.bare, J.base, J.hok, ry, q⟩
  | next =>
    obtain ⟨σ', H', J, q⟩ := hs
    exact ⟨.non, H', J.os, J.bare, J.base, J.hok, rfl, q⟩
  | brk => exact hs.choose_spec.choose_spec.2.elim
  | cont => exact hs.choose_spec.choose_spec.2.elim
theorem okG {name qual : Str} {st : Stmt} {fd : FuncData} (F : L2.Fun K name qual st f fd) (S : FnScope N ps (defScope st)) (ar : ∀ xs H Q E, sp xs H Q E → xs.length = ps.length)
    (hb : ∀ (cdv : Value) (A : Around) (out : List Env) (s : Shared) (H : Hp) (xs : List V) (Q : VK) (E : XK), A.guards = some [] → Room n (A.deeper (envOfC qual (defScope st) s.heap.objs.size f cdv)) → sp xs H Q E →
      ∃ t, PSs (cxOf CX0 P w K mg base N qual (defScope st) f cdv A out s H E).nox (defBody st) t ∧ t { nx := fun _ H' => Q .non H', rt := Q } (start N xs) H) : FnG P w K mg base CX0 (n + 1) f fd ps sp := by
  obtain ⟨_, _, _, _, _, _, cdv, _, _, rfl, lk, cd⟩ := F.ex
  refine fnG_of lk cd S ar ?_
  intro A out s H xs Q E gd r h
  obtain ⟨t, ht, q⟩ := hb cdv A out s H xs Q E gd r h
  exact ⟨t, ht.nox, q⟩
end

/-! ### the end of a law's row -/
/-- the call of the law itself, over one abstract heap -/
theorem law_at {P : Program} {w : World} {K : PySem.W.Frag} {mg mb : Str → Option Value} {n : Nat} {fa a : Addr} {fd : FuncData} {x : Str} {sp : Sp} {s : Shared} {vs : List Value} {H : Hp}
    (KX : K.In s.heap) (hns : s.heap.Ns mainGlobals mg) (hb : s.heap.Ns builtinsNs mb) (hbb : ∀ x : Str, x ≠ "__name__" → mb x = bootBuiltins x) (lim : s.heap.NoLimit) (ng : s.gens = #[])
    (ha : s.heap.get? a = some { cls := .type "list", data := .seq vs.toArray }) (hr : Room n callerA)
    (F : ∀ base : Heap, K.In base → base.Ns mainGlobals mg → FnG P w K mg base CX0 n fa fd [x] sp) (bd : BindsTo s fd ⟨[.ref a], []⟩ [(x, .ref a)])
    (hsp : sp [.ref a] H (fun v _ => v = .bl true) E0) (hO : Only H) (hok : HOk P w H s.heap) (one : ∀ b, H b ≠ none → b = a) (apart : H a ≠ none → K.lookup a = none) :
    codeAny (model P w) callerA (.call (.ref fa) ⟨[.ref a], []⟩) (fun r s' => r = .ok (.ret (.bool true)) ∧ OldK s.heap s'.heap ∧ s'.os = s.os ∧ AllBare s'.gens) s := by
  have no : ∀ {b : Addr} {o : Obj}, s.heap.get? b = some o → (∀ its m, o.data ≠ .seq its m) → H b = none := by
    intro b o e d
    refine Classical.byContradiction fun z => ?_
    cases one b z
    rw [ha] at e
    cases e
    exact d _ _ rfl
  have keep : ∀ {b : Addr} {m : Str → Option Value}, s.heap.Ns b m → (hidT s.heap H).Ns b m := by
    rintro b m ⟨o, es, ep, e, d, r⟩
    exact ⟨o, es, ep, hidT_get e (no e fun its m z => by rw [d] at z; cases z), d, r⟩
  have inb : K.In (hidT s.heap H) := by
    intro b o e
    refine hidT_get (KX b o e) (Classical.byContradiction fun z => ?_)
    have eb := one b z
    rw [eb] at z e
    rw [apart z] at e
    cases e
  obtain ⟨mc, l1, l2⟩ := lim
  have M : Mod K mg (hidT s.heap H) := ⟨inb, keep hns, ⟨mb, keep hb, hbb⟩, ⟨mc, keep l1, l2⟩⟩
  have e0 : Env0 P w K mg (hidT s.heap H) callerA [] s H :=
    { frames := rfl, mod := M, bs := fun b o e => of_hidT e, bsz := Nat.le_of_eq (hidT_size _ _), funs := trivial, frf := fun b z => absurd (show b ∈ ([] : List Addr) from z) List.not_mem_nil, hok := hok, bare := .of_eq ng }
  refine codeAny_mono ((F _ inb (keep hns)).goes callerA [] s H ⟨[.ref a], []⟩ [.ref a] [.ref a] _ _ rfl hr e0 bd (.cons rfl .nil) hsp) ?_
  rintro (er | fl) s' h
  · exact False.elim h
  · cases fl with
    | ret u =>
      obtain ⟨v, H', os, bare, un, hok', rv, q⟩ := h
      cases (show v = .bl true from q)
      cases (show u = Value.bool true from rv)
      refine ⟨rfl, OldK.of_keep ?_, os, bare⟩
      intro b o e
      rcases hO b with z | ⟨ob, xs, z⟩
      · exact un.keep b o e z (fun y => absurd (show b ∈ ([] : List Addr) from y) List.not_mem_nil) List.not_mem_nil
      · have i1 := (hok b _ z).1
        rw [e] at i1
        rw [i1]
        exact (hok' b _ (un.frzs b ob _ z)).1
    | next => exact False.elim h
    | brk => exact False.elim h
    | cont => exact False.elim h
theorem walkG {l : PySem.W.OpenLaw} {m n : Nat} {q : Program} {loose : List Str} {XP : (Str → Option Value) → Heap → Prop} {YP : World → Heap → Prop} {d : DefRec} {K : Params → PySem.W.Frag} {sp : PySem.W.Frag → Sp} {x : Str}
    (hm : l.most = some m) (hm2 : m ≤ sizeLine) (hdf : d.params.defaults = []) (hr : Room n callerA) (hY : ∀ (w : World) (h : Heap), YP w h → (K w.params).In h)
    (F : ∀ (w : World) (mg : Str → Option Value) (fa : Addr) (h : Heap), (K w.params).In h → h.Ns mainGlobals mg → mg d.name = some (.ref fa) →
      ∃ fd : FuncData, (∀ (s : Shared) (u : Value), BindsTo s fd ⟨[u], []⟩ [(x, u)]) ∧
        ∀ base : Heap, (K w.params).In base → base.Ns mainGlobals mg → FnG l.prog w (K w.params) mg base CX0 n fa fd [x] (sp (K w.params)))
    (hsp : ∀ (K : PySem.W.Frag) (H : Hp) (a : Addr) (ns : List Int), ns.length ≤ m → Only H → SqL K H a (ns.map V.int) → sp K [.ref a] H (fun v _ => v = .bl true) E0) :
    PySem.W.WalkO q loose XP YP l.row.toRowW d [] (fun f vs => PySem.call f vs) := by
  refine Att.attach_call hm hdf ?_
  intro w s₀ s mg mb fa o pm cd doc a vs ns G Y ho hd hcd hmg hobj hints hlen hg
  have KX := hY w _ Y
  obtain ⟨fd, hb, hF⟩ := F w mg fa _ KX G.T.g hmg
  have rv := vals_ints hints
  have hl : (ns.map V.int).length ≤ sizeLine := by
    rw [List.length_map]
    exact Nat.le_trans hlen hm2
  cases hk : (K w.params).lookup a with
  | some ob =>
    have e := KX a ob hk
    rw [hobj] at e
    cases e
    refine law_at KX G.T.g G.T.b G.T.builtins G.T.nolimit hg hobj hr hF (hb s _) (H := fun _ => none) (hsp _ _ a ns hlen (fun _ => .inl rfl) (.inr ?_)) (fun _ => .inl rfl) (fun b u z => nomatch (show (none : Option HO) = some u from z)) (fun b z => absurd rfl z) fun z => absurd rfl z
    exact ⟨_, vs.toArray, _, hk, rfl, rfl, rfl, by rw [List.size_toArray, ← rv.length]; exact hl, by simpa using rv⟩
  | none =>
    let T : HO := .frz { cls := .type "list", data := .seq vs.toArray } (.lst (ns.map V.int))
    let H0 : Hp := fun _ => none
    have at_a : upd H0 a T a = some T := upd_same
    have off : ∀ b, b ≠ a → upd H0 a T b = none := fun b z => upd_ne z
    refine law_at KX G.T.g G.T.b G.T.builtins G.T.nolimit hg hobj hr hF (hb s _) (H := upd H0 a T) (hsp _ _ a ns hlen ?_ (.inl (.inr ⟨_, at_a⟩))) ?_ ?_ ?_ fun _ => hk
    · intro b
      by_cases z : b = a
      · cases z
        exact .inr ⟨_, _, at_a⟩
      · exact .inl (off b z)
    · intro b
      by_cases z : b = a
      · cases z
        exact .inr ⟨_, _, at_a⟩
      · exact .inl (off b z)
    · intro b u e
      by_cases z : b = a
      · cases z
        cases at_a.symm.trans e
        exact ⟨hobj, hl, vs, _, rv, hobj⟩
      · rw [off b z] at e
        cases e
    · intro b z
      exact Classical.byContradiction fun y => z (off b y)
end My

set_option maxHeartbeats 2000000
/-! repr of data: flat things, lists, tuples at any depth, and dicts of flat things. -/
namespace My
open PySem PySem.Spec PyProof.Rows L2

def flatD : V → Option PyData
  | .non => some .none
  | .bl b => some (.bool b)
  | .int i => some (.int i)
  | .str x => some (.str x)
  | _ => none
def keyD : Key → PyData
  | .inl i => .int i
  | .inr x => .str x
/-- the value v is the datum d -/
inductive Dd (K : PySem.W.Frag) (H : Hp) : V → PyData → Prop
  | dat {v : V} {d : PyData} : Dp K H v d → d.hasDict = false → Dd K H v d
  | dct {a : Addr} {kvs : List (Key × V)} {ds : List PyData} : H a = some (.dK kvs) → kvs.map (fun p => flatD p.2) = ds.map some → Dd K H (.ref a) (.dict ((kvs.map fun p => keyD p.1).zip ds))
theorem flat_reads {h : Heap} {v : V} {u : Value} {d : PyData} (e : flatD v = some d) (r : RelV v u) : Reads h u d [] := by
  cases v with
  | non => cases e; cases (show u = Value.none from r); exact .none
  | bl b => cases e; cases (show u = Value.bool b from r); exact .bool b
  | int i => cases e; obtain ⟨t, rfl⟩ := (show ∃ t, u = Value.int i t from r); exact .int i t
  | str x => cases e; obtain ⟨t, rfl⟩ := (show ∃ t, u = Value.str x t from r); exact .str x t
  | byt b => cases e
  | flt b => cases e
  | ref a => cases e
  | ty n => cases e
theorem key_reads {h : Heap} {k : Key} {u : Value} (e : keyIs k u = true) : Reads h u (keyD k) [] := by
  rcases keyIs_shape e with ⟨i, t, rfl, rfl⟩ | ⟨x, t, rfl, rfl⟩
  · exact .int i t
  · exact .str x t
theorem pairs_reads {P : Program} {w : World} {h : Heap} : ∀ {kvs : List (Key × V)} {vs : List (Key × Value)} {es : List DictEntry} {ds : List PyData}, KV kvs vs → Pairs (mixKind P w) es vs → kvs.map (fun p => flatD p.2) = ds.map some →
    ReadsAll h (es.map (·.key)) (((kvs.map fun p => keyD p.1).zip ds).map (·.1)) [] ∧ ReadsAll h (es.map (·.val)) (((kvs.map fun p => keyD p.1).zip ds).map (·.2)) []
  | [], _, _, [], .nil, .nil, _ => ⟨.nil, .nil⟩
  | [], _, _, _ :: _, _, _, e => by cases e
  | _ :: _, _, _, [], _, _, e => by cases e
  | p :: kvs, _, _, d :: ds, .cons r rs, .cons k v ps, e => by
    obtain ⟨e1, e2⟩ := List.cons.inj e
    obtain ⟨i1, i2⟩ := pairs_reads (h := h) rs ps e2
    rw [← r.1] at k
    rw [← v] at r
    exact ⟨ReadsAll.cons (as := []) (bs := []) (key_reads k) i1, ReadsAll.cons (as := []) (bs := []) (flat_reads e1 r.2) i2⟩
section
variable {X : Cx} {pins : List (Addr × Obj)} {σ : L2.St} {H : Hp} {s : Shared}
theorem Dd.reads (I : Inv X pins σ H s) {v : V} {u : Value} {d : PyData} (h : Dd X.K H v d) (r : RelV v u) : ∃ as, Reads s.heap u d as ∧ (d.hasDict = true → sysModules ∉ as) := by
  cases h with
  | dat hd n =>
    obtain ⟨as, q⟩ := Dp.reads I d v u hd r
    exact ⟨as, q, fun z => by rw [n] at z; cases z⟩
  | @dct a kvs ds ha e =>
    cases (show u = Value.ref a from r)
    obtain ⟨_, ns, vs, kv, o, es, ep, ho, ex, hd, _, ps, _⟩ := (show ObjOk X.prog X.w H s.heap a (.dK kvs) from I.hok a _ ha)
    obtain ⟨q1, q2⟩ := pairs_reads (h := s.heap) kv ps e
    refine ⟨_, Reads.dict (as := []) (bs := []) ho ex.1 hd q1 q2, fun _ z => ?_⟩
    have z' : sysModules = a := by simpa using z
    rw [z'] at ns
    simp at ns
/-- repr(v), v a datum -/
def rRepr (K : PySem.W.Frag) : List V → Hp → VK → Prop := fun xs H Q => ∃ v d, xs = [v] ∧ Dd K H v d ∧ d.showable = true ∧ d.depth ≤ 60 ∧ d.shown.length ≤ sizeLine ∧ Q (.str d.shown) H
theorem call_repr (gd : X.A.guards = some []) (hu : X.A.units + 64 < cLine) : CallR X (.builtin "repr") (rRepr X.K) := by
  rintro pins s σ H xs us Q I r ⟨v, d, rfl, hd, sh, dp, sz, q⟩
  obtain ⟨u, rfl, ru⟩ := vals1 r
  obtain ⟨as, rd, ns⟩ := hd.reads I ru
  cases rd with
  | none =>
    refine PySem.P.repr_of_none ⟨.str "None", H, I.tok _, ⟨_, rfl⟩, ?_⟩
    simpa only [PyData.shown] using q
  | bool b =>
    refine PySem.P.repr_of_bool ⟨.str (if b then "True" else "False"), H, I.tok _, ⟨_, rfl⟩, ?_⟩
    simpa only [PyData.shown] using q
  | int i t =>
    refine PySem.P.repr_of_int (by simpa [PyData.showable] using sh) ⟨.str (toString i), H, I.tok _, ⟨_, rfl⟩, ?_⟩
    simpa only [PyData.shown] using q
  | str x t =>
    refine PySem.P.repr_of_str ⟨.str (reprText x), H, I.tok _, ⟨_, rfl⟩, ?_⟩ (by simpa only [PyData.shown] using sz)
    simpa only [PyData.shown] using q
  | list h1 h2 h3 h4 => exact repr_of_reads' (.list h1 h2 h3 h4) sh ns gd (by omega) (fun _ _ e => e) (fun h1 u tk hk => ⟨.str _, H, I.kept hk, ⟨u, rfl⟩, q⟩) sz
  | tuple h1 h2 h3 h4 => exact repr_of_reads' (.tuple h1 h2 h3 h4) sh ns gd (by omega) (fun _ _ e => e) (fun h1 u tk hk => ⟨.str _, H, I.kept hk, ⟨u, rfl⟩, q⟩) sz
  | dict h1 h2 h3 h4 h5 => exact repr_of_reads' (.dict h1 h2 h3 h4 h5) sh ns gd (by omega) (fun _ _ e => e) (fun h1 u tk hk => ⟨.str _, H, I.kept hk, ⟨u, rfl⟩, q⟩) sz
end
theorem Same.tup {K : PySem.W.Frag} {H H' : Hp} {a : Addr} {xs : List V} (e : Same H H') (h : SqT K H a xs) : SqT K H' a xs := by
  rcases h with (h | ⟨o, h⟩) | h
  · exact .inl (.inl (e _ _ h))
  · exact .inl (.inr ⟨o, e _ _ h⟩)
  · exact .inr h
mutual
theorem Dp.same {K : PySem.W.Frag} {H H' : Hp} (e : Same H H') : ∀ (d : PyData) (v : V), Dp K H v d → Dp K H' v d
  | .none, _, h => by cases h; exact .non
  | .bool _, _, h => by cases h; exact .bl _
  | .int _, _, h => by cases h; exact .int _
  | .str _, _, h => by cases h; exact .str _
  | .list ds, _, h => by
    cases h with
    | lst s a => exact .lst (L2.Same.seq e s) (DpAll.same e ds _ a)
  | .tuple ds, _, h => by
    cases h with
    | tup s a => exact .tup (Same.tup e s) (DpAll.same e ds _ a)
  | .dict _, _, h => by cases h
theorem DpAll.same {K : PySem.W.Frag} {H H' : Hp} (e : Same H H') : ∀ (ds : List PyData) (vs : List V), DpAll K H vs ds → DpAll K H' vs ds
  | [], _, h => by cases h; exact .nil
  | d :: ds, _, h => by
    cases h with
    | cons a b => exact .cons (Dp.same e d _ a) (DpAll.same e ds _ b)
end
theorem Dd.same {K : PySem.W.Frag} {H H' : Hp} (e : Same H H') {v : V} {d : PyData} (h : Dd K H v d) : Dd K H' v d := by
  cases h with
  | dat a n => exact .dat (Dp.same e _ _ a) n
  | dct a n => exact .dct (e _ _ a) n
end My

set_option maxHeartbeats 4000000
/-! Exceptions of own classes over ValueError as values: made by position and by name, their fields, isinstance. -/
namespace MyX
open PySem PySem.W PySem.Calls PyProof.Rows PySem.HandSPX
open Builtin Builtin.ObjectAttr
section
variable {M : Model} {prog : Program} {w : World} {A : Around} {E : Value → Shared → Prop} {R : Result → Shared → Prop} {h : Heap} {g : Array GenState} {d : Drawn} {t : Nat} {os : OsState}
variable {nm q : Str} {C N : Addr} {bs bm bmB : List Value} {hdct : Bool} {sn : List Str} {sub : List Value} {ab : Bool} {col : Option Bool} {dd : Option Addr} {k0 k1 k2 k3 k5 : Option Value} {B newId initId : String} {key : Str} {val : Value}
theorem check_type_kw {Q : Unit → Shared → Prop} (hC : h.get? C = some (excClassObj nm q C N bs bm hdct sn sub ab col dd k0 k1 k2 k3 k5 newId)) (z : Q () ⟨h, g, d, t, os⟩) :
    wpAny M A (checkBuiltinCall "type.__call__" ⟨[.ref C], [(key, val)]⟩) Q E ⟨h, g, d, t, os⟩ := by
  have e3 := tc_sub
  have ty : (⟨h, g, d, t, os⟩ : Shared).TypeIs (.ref C) "type" := ⟨_, hC, rfl⟩
  simp only [checkBuiltinCall, tc_kind, tc_split]
  repeat (any_goals (first
    | assumption
    | with_reducible refine wpAny_loadPart_at hC ?_
    | with_reducible refine wpAny_onRaise ?_
    | with_reducible refine wpAny_map ?_
    | wp_step))
theorem check_new_kw (F : ExcBaseFacts B newId initId bmB) (hT : ∀ X : String, bm.contains (.type X) = bmB.contains (.type X)) {Q : Unit → Shared → Prop}
    (hC : h.get? C = some (excClassObj nm q C N bs bm hdct sn sub ab col dd k0 k1 k2 k3 k5 newId)) (z : Q () ⟨h, g, d, t, os⟩) : wpAny M A (checkBuiltinCall newId ⟨[.ref C], [(key, val)]⟩) Q E ⟨h, g, d, t, os⟩ := by
  have hc : (Value.ref C :: bm).contains (.type B) = true := by rw [List.contains_cons, hT, F.hasB, Bool.or_true]
  have ns := F.noStar
  simp only [checkBuiltinCall, F.newKind, F.newSplit, F.newRow]
  repeat (first
    | refine wpAny_loadPart_at hC ?_
    | (refine wpAny_isSubtype_exc hC ?_; rw [hc])
    | refine wpAny_staticBase_exc hC ?_
    | refine wpAny_madeBy_exc hC ?_
    | simp only [bne_self_eq_false, Bool.false_eq_true, if_false]
    | wp_step)
  exact z
theorem new_kw (F : ExcBaseFacts B newId initId bmB) (hT : ∀ X : String, bm.contains (.type X) = bmB.contains (.type X))
    (hC : h.get? C = some (excClassObj nm q C N bs bm hdct sn sub ab col dd k0 k1 k2 k3 k5 newId))
    (z : R (.ok (.ret (.ref (h.objs.size + 1)))) ⟨(h.push (kdv_tup [])).push (excO C h.objs.size), g, d, t, os⟩) :
    codeAny (model prog w) A (.builtin newId ⟨[.ref C], [(key, val)]⟩) R ⟨h, g, d, t, os⟩ := by
  have he := F.ends
  have c1 : (Value.ref C :: bm).contains (.type B) = true := by rw [List.contains_cons, hT, F.hasB, Bool.or_true]
  have c2 : (Value.ref C :: bm).contains (.type "AttributeError") = false := by
    rw [List.contains_cons, hT, F.noAttr]
    rfl
  have c3 : (Value.ref C :: bm).contains (.type "NameError") = false := by
    rw [List.contains_cons, hT, F.noName]
    rfl
  refine codeAny_builtinAt F.entry ?_
  unfold Builtin.«BaseException.__new__»
  refine PySem.wpAt_bind ?_
  show PySem.wpAt _ _ _ (stack >>= _) _ _ _
  refine PySem.wpAt_bind (PySem.wpAt_stack fun p below => PySem.wpAt_of_wpAny ?_)
  wp_walk
  refine PySem.wpAt_of_wpAny ?_
  rw [F.owner]
  repeat (first
    | with_reducible refine wpAny_madeHere_exc F.canon hC ?_
    | with_reducible refine wpAny_loadPart_at hC ?_
    | (with_reducible refine wpAny_isSubtype_exc hC ?_; first | rw [c1] | rw [c2] | rw [c3])
    | wp_step)
  show R _ _
  rw [Heap.size_push]
  exact z
theorem type_call_kw (F : ExcBaseFacts B newId initId bmB) (hT : ∀ X : String, bm.contains (.type X) = bmB.contains (.type X)) {fI : Addr} {Q : Fin → Shared → Prop}
    (hC : h.get? C = some (excClassObj nm q C N bs bm hdct sn sub ab col dd k0 k1 k2 k3 k5 newId))
    (hi : Looks (model prog w) h (typeLookup (.ref C) "__init__") (some (.ref fI))) (hb : ∀ self, Looks (model prog w) h (bindSpecial (.ref fI) self) (.ref fI, [self]))
    (z : codeAny (model prog w) A (.call (.ref fI) ⟨[.ref (h.objs.size + 1)], [(key, val)]⟩)
      (fun r s' => match r with | .ok (.ret v) => v = .none ∧ Q (.done (.ret (.ref (h.objs.size + 1)))) s' | .ok _ => False | .error e => E e s')
      ⟨(h.push (kdv_tup [])).push (excO C h.objs.size), g, d, t, os⟩) :
    wpAny (model prog w) A (Builtin.«type.__call__» ⟨[.ref C], [(key, val)]⟩) Q E ⟨h, g, d, t, os⟩ := by
  repeat (first
    | with_reducible refine wpAny_loadPart_at hC ?_
    | with_reducible refine wpAny_madeBy_exc hC ?_
    | wp_step)
  refine codeAny_call_builtin_code (Code.quiet_builtin _ F.quiet) (check_new_kw F hT hC ?_)
  refine new_kw F hT hC ?_
  show wpAny _ _ _ _ _ _
  have k : ∀ b o, h.get? b = some o → ((h.push (kdv_tup [])).push (excO C h.objs.size)).get? b = some o := fun b o e => Heap.get?_push_of_some _ (Heap.get?_push_of_some _ e)
  have hC2 := k _ _ hC
  have at1 : ((h.push (kdv_tup [])).push (excO C h.objs.size)).get? (h.objs.size + 1) = some (excO C h.objs.size) := by heap_get
  have cc : (Value.ref C :: bm).contains (.ref C) = true := by simp
  have i1 := hi.keeps k
  have b1 := (hb (.ref (h.objs.size + 1))).keeps k
  unfold isInstance
  repeat (first
    | with_reducible refine wpAny_loadPart_at at1 ?_
    | (with_reducible refine wpAny_isSubtype_exc hC2 ?_; rw [cc])
    | wp_step)
  show wpAny _ _ (typeLookup (.ref C) _) _ _ _
  refine i1.at ?_
  refine wpAny_holding (wpAny_bind (b1.at ?_))
  refine wpAny_bind (wpAny_call (codeAny_mono z ?_))
  rintro (e | (v | _ | _ | _)) s' y <;> first | exact y | exact y.elim | skip
  all_goals first
    | (obtain ⟨rfl, y⟩ := y; first | exact wpAny_pure (wpAny_pure y) | (wp_walk; exact y))
    | exact y
theorem call_kw (F : ExcBaseFacts B newId initId bmB) (hT : ∀ X : String, bm.contains (.type X) = bmB.contains (.type X)) {fI : Addr}
    (hC : h.get? C = some (excClassObj nm q C N bs bm hdct sn sub ab col dd k0 k1 k2 k3 k5 newId))
    (hi : Looks (model prog w) h (typeLookup (.ref C) "__init__") (some (.ref fI))) (hb : ∀ self, Looks (model prog w) h (bindSpecial (.ref fI) self) (.ref fI, [self]))
    (z : codeAny (model prog w) (A.under (.builtin "type.__call__" ⟨[.ref C], [(key, val)]⟩)) (.call (.ref fI) ⟨[.ref (h.objs.size + 1)], [(key, val)]⟩) (InitBack (h.objs.size + 1) R)
      ⟨(h.push (kdv_tup [])).push (excO C h.objs.size), g, d, t, os⟩) :
    codeAny (model prog w) A (.call (.ref C) ⟨[], [(key, val)]⟩) R ⟨h, g, d, t, os⟩ := by
  have e1 := tc_lookup
  have e2 := tc_bind (.ref C)
  have ty : (⟨h, g, d, t, os⟩ : Shared).TypeIs (.ref C) "type" := ⟨_, hC, rfl⟩
  refine codeAny_of_tree ?_
  show wpAny _ _ (callAny (.ref C) _) _ _ _
  repeat (any_goals (first
    | assumption
    | with_reducible refine wpAny_loadPart_at hC ?_
    | wp_step))
  refine ⟨rfl, ?_⟩
  refine codeAny_call_builtin_at (Code.quiet_builtin _ (by decide +kernel)) entry_typeCall (check_type_kw hC (type_call_kw F hT hC hi hb ?_))
  refine codeAny_mono z ?_
  rintro (e | (v | _ | _ | _)) s' y <;> exact y
end
end MyX

set_option maxHeartbeats 4000000
/-! The layer's rules for exceptions as values. -/
namespace My
open PySem PySem.Spec PyProof.Rows L2

/-- an exception's own __init__: one field -/
def spInit (C : Addr) (fld : Str) : Sp := fun xs H Q _ => ∃ (a : Addr) (v : V), xs = [.ref a, v] ∧ H a = some (exo a C none) ∧
  ∀ d, H d = none → d ≠ a → Q .non (upd (upd H d (exd d [(fld, v)])) a (exo a C (some d)))
/-- what the class at C, its __init__ at fI must be -/
structure XCls (K : PySem.W.Frag) (C fI : Addr) (fld : Str) : Prop where
  ox : OexC K C
  iC : PySem.W.findIn K (.ref C) "__init__" = some (some (.ref fI))
  tI : PySem.W.typeIn K (.ref fI) = some (.type "function")
  xf : XfC K C
  no : PySem.W.findIn K (.ref C) fld = some none
/-- a new exception of the class at C, its dict with the one field -/
def NewX (C : Addr) (fld : Str) (v : V) (H : Hp) (Q : VK) : Prop := ∀ a d, H a = none → H d = none → d ≠ a → Q (.ref a) (upd (upd (upd H a (exo a C none)) d (exd d [(fld, v)])) a (exo a C (some d)))
def tMkX (C : Addr) (fld : Str) (ta : TA) : TE := fun σ H Q => ta σ H fun vs H1 => ∃ v, vs = [v] ∧ NewX C fld v H1 Q
section
variable {X : Cx} {nm : Str} {C fI : Addr} {k : Nat} {fd : FuncData} {fld : Str} {e : Expr} {te : TE} {ta : TA} {p pos kpos : Pos} {pins : List (Addr × Obj)} {σ : L2.St} {H : Hp}
theorem mkx_start {hp : Heap} {g : Array GenState} {dr : Drawn} {tk : Nat} {os : OsState} {us : List Value} {v : V} {Q : VK} (I : Inv X pins σ H ⟨hp, g, dr, tk, os⟩) (q : NewX C fld v H Q) :
    Inv X pins σ (upd H (hp.objs.size + 1) (exo (hp.objs.size + 1) C none)) ⟨(hp.push (PySem.W.kdv_tup us)).push (PySem.HandSPX.excO C hp.objs.size), g, dr, tk, os⟩ ∧
    spInit C fld [.ref (hp.objs.size + 1), v] (upd H (hp.objs.size + 1) (exo (hp.objs.size + 1) C none)) (fun r H2 => r = .non ∧ Q (.ref (hp.objs.size + 1)) H2) E0 := by
  have big : hp.objs.size ≤ hp.objs.size + 1 := Nat.le_succ _
  have none1 : H (hp.objs.size + 1) = none := I.hok.fresh big
  have here : ((hp.push (PySem.W.kdv_tup us)).push (PySem.HandSPX.excO C hp.objs.size)).get? (hp.objs.size + 1) = some (PySem.HandSPX.excO C hp.objs.size) := by heap_get
  refine ⟨I.laid (fun b o e => Heap.get?_push_of_some _ (Heap.get?_push_of_some _ e)) big (exo_ok here), _, v, rfl, upd_same, ?_⟩
  intro d hd hne
  rw [upd_ne hne] at hd
  exact ⟨rfl, q _ d none1 hd hne⟩
/-- behind __init__ -/
theorem mkx_end {s : Shared} {n : Addr} {Q : VK} (I : Inv X pins σ H s) {r : Result} {s' : Shared} (h : CR CX0 X.stack X.prog X.w H s (fun r H2 => r = .non ∧ Q (.ref n) H2) E0 r s') :
    PySem.W.InitBack n (fun r s' => match r with | .ok (.ret v) => EP X pins σ Q v s' | .ok _ => False | .error e => X.xe e s') r s' := by
  rcases r with er | fl
  · exact False.elim h
  · cases fl with
    | ret u =>
      obtain ⟨v, H', J, rv, ev, q⟩ := I.after h
      subst ev
      exact ⟨rv, .ref n, H', J, rfl, q⟩
    | next => exact False.elim h
    | brk => exact False.elim h
    | cont => exact False.elim h
theorem pe_mkX (T : XCls X.K C fI fld) (G : FnOk X.prog X.w X.K X.mg X.base CX0 k fI fd ["self", fld] (spInit C fld)) (hr : Room (k + 1) X.A) (hb : Binds X.K fd ["self", fld] []) (hg : Gl X nm) (hm : X.mg nm = some (.ref C)) (ha : PA X [e] ta)
    (hdb : (nm == ("__debug__" : Str)) = false := by decide) (hs : starEach [e] X.env = (false, eval e X.env) :: starEach [] X.env := by rfl) (hpl : (backTo pos (starEach [] X.env)).any (·.1) = false := by rfl) :
    PE X (.Call (.Name nm p) [e] [] pos) (tMkX C fld ta) := by
  refine ⟨?_⟩
  intro pins s σ H Q I h
  obtain ⟨cn, q, N, bs, bm, sn, sub, ab, col, dd, k0, k1, k2, k3, k5, hC, hbm⟩ := T.ox.cls
  refine wpAny_Call_Name_kw (ld_glob I hg hm ?_ hdb)
  refine PySem.W.callWith_K (h₀ := X.base) I.ok.mod.kin T.ox.kC (thn (ha.run pos pins s σ H _ I h) ?_) hs hpl
  rintro us s1 ⟨vs, H1, I1, r, v, rfl, q1⟩
  refine ⟨I1.kIn, ?_⟩
  obtain ⟨u, rfl, ru⟩ := vals1 r
  obtain ⟨hp, g, dr, tk, os⟩ := s1
  obtain ⟨I2, h2⟩ := mkx_start (us := [u]) I1 q1
  show wpAny _ _ (call (.ref C) [u]) _ _ _
  have bd := hb _ [.ref (hp.objs.size + 1), u] I2.kIn rfl
  refine wpAny_call (PySem.HandSPX.call_own PySem.F.excBase_ValueError (fun Y => PySem.HandSPX.refsVE_contains Y bm hbm) (I1.kIn _ _ hC) (PySem.W.looks_findIn I1.kIn T.iC) (fun self => PySem.W.bind_fn I1.kIn self T.tI) (by show 1 ≤ sizeLine; decide) ?_)
  refine codeAny_mono (G.run _ X.stack _ _ ⟨[.ref (hp.objs.size + 1), u], []⟩ [.ref (hp.objs.size + 1), u] [.ref (hp.objs.size + 1), v] _ E0 (hr.make C [u] []) (I2.env0.make C [u] []) bd (.cons rfl (.cons ru .nil)) h2) ?_
  intro r s' hq
  exact mkx_end I2 hq
/-- the same by the field's name -/
theorem pe_mkXK {tk : TA} (T : XCls X.K C fI fld) (G : FnOk X.prog X.w X.K X.mg X.base CX0 k fI fd ["self", fld] (spInit C fld)) (hr : Room (k + 1) X.A) (hb : ∀ (s : Shared) (a u : Value), BindsTo s fd ⟨[a], [(fld, u)]⟩ ([("self" : Str), fld].zip [a, u])) (hg : Gl X nm) (hm : X.mg nm = some (.ref C))
    {kws : List Keyword} (hk : PK X kws tk) (hall : (backToKw pos (keywordEach kws X.env)).all (·.1.isSome) = true := by rfl) (hks : (backToKw pos (keywordEach kws X.env)).filterMap (·.1) = [fld] := by rfl)
    (hdb : (nm == ("__debug__" : Str)) = false := by decide) (hpl : ((backTo pos (starEach [] X.env)).any (·.1) || (backToKw pos (keywordEach kws X.env)).any (·.1.isNone)) = false := by rfl) :
    PE X (.Call (.Name nm p) [] kws pos) (tMkX C fld tk) := by
  refine ⟨?_⟩
  intro pins s σ H Q I h
  obtain ⟨cn, q, N, bs, bm, sn, sub, ab, col, dd, k0, k1, k2, k3, k5, hC, hbm⟩ := T.ox.cls
  refine wpAny_Call_Name_kw (ld_glob I hg hm ?_ hdb)
  refine PySem.W.callWith_KW0 (h₀ := X.base) I.ok.mod.kin T.ox.kC hall (thn (hk.run pos pins s σ H _ I h) ?_) hpl
  rintro us s1 ⟨vs, H1, I1, r, v, rfl, q1⟩
  refine ⟨I1.kIn, ?_⟩
  obtain ⟨u, rfl, ru⟩ := vals1 r
  rw [hks]
  obtain ⟨hp, g, dr, tk, os⟩ := s1
  obtain ⟨I2, h2⟩ := mkx_start (us := []) I1 q1
  show wpAny _ _ (call (.ref C) [] [(fld, u)]) _ _ _
  refine wpAny_call (MyX.call_kw PySem.F.excBase_ValueError (fun Y => PySem.HandSPX.refsVE_contains Y bm hbm) (I1.kIn _ _ hC) (PySem.W.looks_findIn I1.kIn T.iC) (fun self => PySem.W.bind_fn I1.kIn self T.tI) ?_)
  refine codeAny_mono (G.run _ X.stack _ _ ⟨[.ref (hp.objs.size + 1)], [(fld, u)]⟩ [.ref (hp.objs.size + 1), u] [.ref (hp.objs.size + 1), v] _ E0 (hr.make C [] [(fld, u)]) (I2.env0.make C [] [(fld, u)]) (hb _ _ _) (.cons rfl (.cons ru .nil)) h2) ?_
  intro r s' hq
  exact mkx_end I2 hq
/-- C(), an own exception class without an __init__ -/
theorem pe_mkX0 {bmB : List Value} {B newId initId : String} (F : ExcBaseFacts B newId initId bmB) (q : PySem.W.excIn X.K C bmB newId = true) (gC : X.mg nm = some (.ref C)) (kC : PySem.W.keepIn X.K (.ref C) = true) (hg : Gl X nm) (hdb : (nm == ("__debug__" : Str)) = false := by decide) :
    PE X (.Call (.Name nm p) [] [] pos) (fun _ H Q => ∀ a, H a = none → Q (.ref a) (upd H a (ExO (.ref C) a))) := by
  refine ⟨?_⟩
  intro pins s σ H Q I h
  refine wpAny_Call_Name_kw (ld_glob I hg gC ?_ hdb)
  refine PySem.W.callWith_K0 I.kIn kC ?_
  show wpAny _ _ (call (.ref C) []) _ _ _
  obtain ⟨bm, N, nm, qn, bs, hdct, sn, sub, ab, col, dd, k0, k1, k2, k3, k5, mN, hC, hN, hni, T⟩ := exc_obj I.kIn q
  refine wpAny_call_exc_subT F T hC hN hni ?_ (by show 0 ≤ sizeLine; decide)
  intro h' a hm
  have hn : H a = none := I.hok.gone hm.new
  obtain ⟨t, ht, _, _⟩ := hm.there
  exact ⟨.ref a, _, I.laidN hm.keeps hm.new hn (exO_ok ht ⟨rfl, rfl⟩ rfl rfl rfl (show 4 < 6 by decide)), rfl, h a hn⟩

/-- e.f, e such an exception -/
def tXget (K : PySem.W.Frag) (f : Str) (te : TE) : TE := fun σ H Q => te σ H fun x H1 => ∃ (a C d : Addr) (fs : List (Str × V)) (v : V), x = .ref a ∧ H1 a = some (exo a C (some d)) ∧ H1 d = some (exd d fs) ∧ XfC K C ∧
  PySem.W.findIn K (.ref C) f = some none ∧ fs.lookup f = some v ∧ Q v H1
theorem pe_xget {f : Str} (he : PE X e te) (hb : attributeBase e f X.env (eval e X.env) = eval e X.env := by rfl) : PE X (.Attribute e f pos) (tXget X.K f te) := by
  refine ⟨?_⟩
  intro pins s σ H Q I h
  refine attr_of hb (thn (he.run pins s σ H _ I h) ?_)
  rintro u s1 ⟨x, H1, I1, rx, a, C, d, fs, v, rfl, ha, hd, T, no, l, q⟩
  obtain rfl : u = Value.ref a := rx
  obtain ⟨t1, oa⟩ := exo_at I1.hok ha
  obtain ⟨mA, ns, rel⟩ := exd_at I1.hok hd
  obtain ⟨od, hod, hl⟩ := lookIn_ns ns
  obtain ⟨u, hu, ru⟩ := RelO.some_of (v := v) (o := mA f) (by rw [← l]; exact rel f)
  have J : PySem.W.InstAt s1.heap a { cls := .ref C, dict := some d, data := .fields #[.ref t1, .none, .none, .none, .bool false, .none] } C (some od) := ⟨oa, rfl, rfl, hod⟩
  exact HandSPX.exc_get I1.kIn J T.ga T.gg T.exC (PySem.W.findObj_own T.hdC no rfl (by rw [hl, hu])) (handed_of ru) ⟨v, H1, I1.tok _, ru, q⟩

/-- at a: an exception of the class at C -/
def IsX (H : Hp) (a C : Addr) : Prop := (∃ d fs, H a = some (exo a C (some d)) ∧ H d = some (exd d fs)) ∨ H a = some (ExO (.ref C) a)
/-- what isinstance asks of such a class -/
structure XIs (K : PySem.W.Frag) (C : Addr) : Prop where
  cl : (PySem.W.clsIn K C).isSome = true
  xf : XfC K C
  ha : PySem.W.findIn K (.ref C) "__class__" = some (some (.builtin "object.__class__"))
  hn : PySem.W.specialIn K (.builtin "object.__class__") "__get__" = some (some (.builtin "getset_descriptor.__get__"))
  ht : PySem.W.takesIn K (.builtin "object.__class__") = some true
  hm : PySem.W.mroIn K C (.type "object") = some true
def rIsX (K : PySem.W.Frag) : List V → Hp → VK → Prop := fun xs H Q => ∃ (a C : Addr) (c : V) (u : Value) (b : Bool), xs = [.ref a, c] ∧ ClsV c u ∧ IsX H a C ∧ XIs K C ∧ PySem.W.kitOne K (.ref C) u = some b ∧ Q (.bl b) H
theorem call_isX : CallR X (.builtin "isinstance") (rIsX X.K) := by
  rintro pins s σ H xs us Q I r ⟨a, C, c, u, b, rfl, cv, hx, T, kit, q⟩
  obtain ⟨u1, u2, rfl, r1, r2⟩ := vals2 r
  obtain rfl : u2 = u := cv.eq r2
  obtain rfl : u1 = Value.ref a := r1
  have go : ∀ (ox : Obj) (od : Option Obj), PySem.W.InstAt s.heap a ox C od → wpAny (model X.prog X.w) X.A (call (.builtin "isinstance") [.ref a, u2]) (EP X pins σ Q) X.xe s := fun ox od J =>
    PySem.W.kia_one (PySem.W.kitx_exc T.cl T.xf.ga T.xf.gg T.xf.exC T.ha T.hn T.ht T.hm) I.kIn J kit (fun z => nomatch z) fun tk => ⟨.bl b, H, I.tok tk, rfl, q⟩
  rcases hx with ⟨d, fs, ha, hd⟩ | ha
  · obtain ⟨t1, oa⟩ := exo_at I.hok ha
    obtain ⟨mA, ⟨od, es, ep, hod, _⟩, _⟩ := exd_at I.hok hd
    exact go _ (some od) ⟨oa, rfl, rfl, hod⟩
  · have z : ObjOk X.prog X.w H s.heap a (ExO (.ref C) a) := I.hok a _ ha
    obtain ⟨⟨oe, vs, ho, ⟨z1, z2⟩, hd, _⟩, _⟩ := z
    refine go oe none ⟨ho, z1, ?_, ?_⟩
    · unfold PySem.W.notCls
      rw [hd]
    · rw [z2]
      trivial
end
end My

set_option maxHeartbeats 4000000
/-! The law's draws: the well, a draw, a pick, sameness of what is shown. -/
namespace My
open PySem PySem.Spec PyProof.Rows L2
def top (i : Nat) : Stmt := PySem.Challenge.pw_perfectgraphs_k03_prints_there_and_back.main.body.getD i (.Pass ⟨0, 0, 0, 0⟩)
abbrev sWell : Stmt := top 32
abbrev sDraw : Stmt := top (32 + 1)
abbrev sPick : Stmt := top (32 + 2)
abbrev sSame : Stmt := top (32 + 3)
theorem scWell : FnScope ["script", "turn", "cell", "mixed", "each"] ["script", "turn"] (defScope sWell) := ⟨rfl, rfl, rfl, by decide +kernel, rfl, by decide +kernel, by decide +kernel⟩
theorem scDraw : FnScope ["well", "many", "figure", "mixed"] ["well", "many"] (defScope sDraw) := ⟨rfl, rfl, rfl, by decide +kernel, rfl, by decide +kernel, by decide +kernel⟩
theorem scPick : FnScope ["well", "some"] ["well", "some"] (defScope sPick) := ⟨rfl, rfl, rfl, by decide +kernel, rfl, by decide +kernel, by decide +kernel⟩
theorem scSame : FnScope ["told", "due"] ["told", "due"] (defScope sSame) := ⟨rfl, rfl, rfl, by decide +kernel, rfl, by decide +kernel, by decide +kernel⟩

theorem same_new {H : Hp} {p : Addr} (h : H p = none) (o : HO) : Same H (upd H p o) := fun b u q => by rw [upd_ne (ne_of_none q h)]; exact q
theorem small {n : Nat} (h : n ≤ 1000) : n ≤ sizeLine := Nat.le_of_lt (small1000 h)
theorem iteB {c : Bool} {A B : Prop} (h1 : c = true → A) (h2 : c = false → B) : if c = true then A else B := by
  cases c with
  | true => exact iteT (h1 rfl)
  | false => exact iteF (h2 rfl)
/-- what follows one of two ways, once: the value goes on with K -/
theorem join {i : Nat} {σ : L2.St} {N : L2.St → Hp → Prop} {H : Hp} {G : Prop} {R : V → Prop} (h : (∀ v, R v → gName i v σ H N) → G) (g : ∀ v, R v → gName i v σ H N) : G := h g
/-- a well at p -/
def Wl (H : Hp) (p : Addr) : Prop := ∃ a b c : Int, H p = some (.lst [.int a, .int b, .int c])
/-- all but p is as it was -/
def But (p : Addr) (H H' : Hp) : Prop := ∀ q o, q ≠ p → H q = some o → H' q = some o
theorem But.refl (p : Addr) (H : Hp) : But p H H := fun _ _ _ e => e
theorem But.trans {p : Addr} {H1 H2 H3 : Hp} (x : But p H1 H2) (y : But p H2 H3) : But p H1 H3 := fun q o n e => y q o n (x q o n e)
theorem But.new {p q : Addr} {H : Hp} {o : HO} (n : H q = none) : But p H (upd H q o) := fun b u _ e => by rw [upd_ne (ne_of_none e n)]; exact e
theorem But.put {p : Addr} {H : Hp} {o : HO} : But p H (upd H p o) := fun b u n e => by rw [upd_ne n]; exact e
theorem But.of {p : Addr} {H H' : Hp} (s : Same H H') : But p H H' := fun b u _ e => s b u e
/-- the heap without p -/
def hide (p : Addr) (H : Hp) : Hp := fun q => if q = p then none else H q
theorem hide_ne {p q : Addr} {H : Hp} (h : q ≠ p) : hide p H q = H q := if_neg h
theorem hide_at {p : Addr} {H : Hp} : hide p H p = none := if_pos rfl
theorem hide_some {p q : Addr} {H : Hp} {o : HO} (h : hide p H q = some o) : q ≠ p ∧ H q = some o := by
  by_cases e : q = p
  · rw [e, hide_at] at h
    cases h
  · rw [hide_ne e] at h
    exact ⟨e, h⟩
theorem hide_sub (p : Addr) (H : Hp) : Same (hide p H) H := fun q o h => (hide_some h).2
theorem But.hide {p : Addr} {H H' : Hp} (h : But p H H') : Same (hide p H) (hide p H') := fun q o e => by
  obtain ⟨n, e⟩ := hide_some e
  rw [hide_ne n]
  exact h q o n e
/-- fit to be shown -/
def Fine (d : PyData) : Prop := d.showable = true ∧ d.depth ≤ 60 ∧ d.shown.length ≤ sizeLine
instance (d : PyData) : Decidable (Fine d) := inferInstanceAs (Decidable (_ ∧ _ ∧ _))

def spWell (K : PySem.W.Frag) : Sp := fun vs H Q _ => ∃ (a : Addr) (ns : List Int) (t : Nat), vs = [.ref a, .int (t : Int)] ∧ SqL K H a (ns.map V.int) ∧ ns.length ≤ 63 ∧ t ≤ 2 ∧
  ∀ (H' : Hp) (p : Addr), Same H H' → H p = none → Wl H' p → Q (.ref p) H'
def spDraw : Sp := fun vs H Q _ => ∃ (p : Addr) (m : Int), vs = [.ref p, .int m] ∧ Wl H p ∧ 0 < m ∧ m < 1000000 ∧
  ∀ (r : Int) (H' : Hp), 0 ≤ r → r < m → But p H H' → Wl H' p → Q (.int r) H'
/-- from a tuple that stands beside the well -/
def spPick (K : PySem.W.Frag) : Sp := fun vs H Q _ => ∃ (p t : Addr) (xs : List V), vs = [.ref p, .ref t] ∧ Wl H p ∧ SqT K (hide p H) t xs ∧ 0 < xs.length ∧ xs.length < 1000 ∧
  ∀ (i : Nat) (v : V) (H' : Hp), xs[i]? = some v → But p H H' → Wl H' p → Q v H'
def spSame (K : PySem.W.Frag) : Sp := fun vs H Q _ => ∃ (x y : V) (d e : PyData), vs = [x, y] ∧ Dd K H x d ∧ Dd K H y e ∧ Fine d ∧ Fine e ∧ Q (.bl (decide (V.str d.shown = V.str e.shown))) H
section
variable {P : Program} {w : World} {K : PySem.W.Frag} {mg : Str → Option Value} {base : Heap} {f fD : Addr} {fd dD : FuncData}
theorem ok_well (F : L2.Fun K "_law_well" "_law_well" sWell f fd) (ml : mg "len" = none) (mi : mg "int" = none) (ma : mg "abs" = none) : FnOk P w K mg base CX0 1 f fd ["script", "turn"] (spWell K) := by
  refine F.ok scWell (fun vs H Q E h => ?_) (fun cdv A outer s H vs Q E hr h => ?_)
  · obtain ⟨a, ns, t, rfl, _⟩ := h
    rfl
  obtain ⟨a, ns, t, rfl, hS, h63, h2, q⟩ := h
  refine ⟨_, pss_cons (ps_set (i := 2) scWell.nd rfl (.inl rfl) (pe_ifExp (pt_cmpR op_lt (pv 1) (pe_callB call_len_seq (by rfl) ml PySem.boot_len (pa_cons (pv 0) pa_nil)) (nomark _))
        (pe_callTy call_int1 (by rfl) mi (by decide +kernel) (pa_cons (pe_ix ix_list (pv 0) (pv 1) (fun _ _ => rfl)) pa_nil))
        (pe_op op_add (pe_op op_mul pe_int (pv 1)) pe_int)))
    (pss_cons (ps_set (i := 3) scWell.nd rfl (.inl rfl) (pe_op op_add pe_int (pe_op op_mul pe_int (pv 1))))
    (pss_cons (ps_for PassesOwn.never rfl (pi_list (pe_slice sl_list (pv 0) po_none (po_some pe_int))) (pg_name (i := 4) scWell.nd rfl (.inl rfl))
      (pss_one (ps_set (i := 3) scWell.nd rfl (.inl rfl) (pe_op op_mod (pe_callTy call_int1 (by rfl) mi (by decide +kernel) (pa_cons (pe_op op_add (pe_op op_add (pe_op op_mul (pv 3) pe_int)
        (pe_op op_mod (pe_callTy call_int1 (by rfl) mi (by decide +kernel) (pa_cons (pv 4) pa_nil)) pe_int)) pe_int) pa_nil)) pe_int))))
    (pss_cons (ps_set (i := 3) scWell.nd rfl (.inl rfl) (pe_op op_mod (pe_callTy call_int1 (by rfl) mi (by decide +kernel) (pa_cons (pe_op op_add (pe_op op_add (pe_op op_mul (pv 3) pe_int)
        (pe_op op_mul (pe_op op_mod (pe_callTy call_int1 (by rfl) mi (by decide +kernel) (pa_cons (pv 2) pa_nil)) pe_int) pe_int)) pe_int) pa_nil)) pe_int))
    (pss_one (ps_ret (pe_lst (pa_cons (pe_ifExp (PW.pt (pw_or (pt_cmpR op_lt (pv 2) pe_int (nomark _)) (pw_or1 (pt_cmpR op_ge (pv 2) (pe_op op_pow pe_int pe_int) (nomark _)))))
      (pe_callB call_abs (by rfl) ma (by decide +kernel) (pa_cons (pv 2) pa_nil)) pe_int) (pa_cons (pv 3) (pa_cons pe_int pa_nil))))))))), ?_⟩
  have hl : (ns.map V.int).length = ns.length := List.length_map _
  refine ⟨_, rfl, _, rfl, a, _, rfl, .inl hS, _, _, rfl, rfl, _, rfl, ?_⟩
  refine' join (i := 2) (R := fun v => ∃ n : Int, v = V.int n) (fun go => ?_) ?_
  rotate_left 3
  · refine iteB (fun c => ?_) (fun c => ?_)
    · have c1 : ((t : Nat) : Int) < (((ns.map V.int).length : Nat) : Int) := of_decide_eq_true c
      have c2 : t < ns.length := by rw [hl] at c1; omega
      have at1 : atI (ns.map V.int) ((t : Nat) : Int) = some (.int ns[t]) := atI_nat (by rw [List.getElem?_map, List.getElem?_eq_getElem c2] <;> rfl)
      exact ⟨_, rfl, _, rfl, a, _, _, _, rfl, rfl, hS, at1, .inl ⟨_, rfl, go _ ⟨_, rfl⟩⟩⟩
    · exact ⟨_, rfl, _, _, rfl, rfl, .inl ⟨by decide, by decide⟩, _, _, rfl, rfl, go _ ⟨_, rfl⟩⟩
  rintro _ ⟨cell, rfl⟩
  refine ⟨_, rfl, _, _, rfl, rfl, .inl ⟨by decide, by decide⟩, _, _, rfl, rfl, ?_⟩
  refine ⟨_, rfl, 9, rfl, a, _, rfl, hS, fun p np => ?_⟩
  refine ⟨p, rfl, ⟨_, SqL.of upd_same⟩, for_list (K := K) (a := p) (xs := cutV (ns.map V.int) none (some 9)) (fun i σ H' => ∃ (m : Int) (e : Option V), σ = [some (.ref a), some (.int (t : Int)), some (.int cell), some (.int m), e] ∧ H' = upd H p (.lst (cutV (ns.map V.int) none (some 9)))) ⟨_, none, rfl, rfl⟩ ?_ ?_ ?_⟩
  · rintro i σ H' _ ⟨m, e, rfl, rfl⟩
    exact SqL.of upd_same
  · rintro i x σ H' hi ⟨m, e, rfl, rfl⟩
    obtain ⟨z, rfl⟩ : ∃ z, x = V.int z := by
      have mem := List.mem_of_getElem? hi
      unfold cutV at mem
      have mem2 := List.mem_of_mem_drop (List.mem_of_mem_take mem)
      obtain ⟨z, _, e⟩ := List.mem_map.mp mem2
      exact ⟨z, e.symm⟩
    refine ⟨_, rfl, _, _, rfl, rfl, .inr ⟨by decide, by decide⟩, _, rfl, .inl ⟨_, rfl, _, _, rfl, rfl, (show (0 : Int) < 2147483543 by decide), _, _, rfl, rfl, _, _, rfl, rfl, .inl ⟨_, rfl, _, _, rfl, rfl, (show (0 : Int) < 2147483629 by decide), ?_⟩⟩⟩
    exact ⟨_, _, rfl, rfl⟩
  rintro σ H' ⟨m, e, rfl, rfl⟩
  refine ⟨_, rfl, _, _, rfl, rfl, .inr ⟨by decide, by decide⟩, _, rfl, .inl ⟨_, rfl, _, _, rfl, rfl, (show (0 : Int) < 2147483543 by decide), _, _, rfl, rfl, .inr ⟨by decide, by decide⟩, _, _, rfl, rfl, _, _, rfl, rfl, .inl ⟨_, rfl, _, _, rfl, rfl, (show (0 : Int) < 2147483629 by decide), ?_⟩⟩⟩
  have fin : ∀ (x y : Int) (r : Addr), upd H p (.lst (cutV (ns.map V.int) none (some 9))) r = none → Q (.ref r) (upd (upd H p (.lst (cutV (ns.map V.int) none (some 9)))) r (.lst [.int x, .int y, .int 0])) := fun x y r nr =>
    q _ r ((same_new np _).trans (same_new nr _)) ((same_new np _).free nr) ⟨x, y, 0, upd_same⟩
  refine ⟨_, rfl, _, _, rfl, rfl, _, rfl, iteB (fun _ => iteT ?_) (fun _ => ⟨_, rfl, _, _, rfl, rfl, (by show (0 : Int) ≤ 15 ∧ (15 : Int) ≤ 1000000 ∧ (10 : Int).natAbs < 2 ^ 64; decide), _, _, rfl, rfl, _, rfl, iteB (fun _ => ?_) (fun _ => ?_)⟩)⟩
  · exact ⟨_, rfl, _, rfl, _, rfl, (by show 3 ≤ sizeLine; decide), fun r nr => fin _ _ r nr⟩
  · exact ⟨_, rfl, _, rfl, _, rfl, (by show 3 ≤ sizeLine; decide), fun r nr => fin _ _ r nr⟩
  · exact ⟨_, rfl, (by show 3 ≤ sizeLine; decide), fun r nr => fin _ _ r nr⟩
theorem ok_draw (F : L2.Fun K "_law_draw" "_law_draw" sDraw f fd) (md : mg "divmod" = none) (mi : mg "int" = none) : FnOk P w K mg base CX0 1 f fd ["well", "many"] spDraw := by
  refine F.ok scDraw (fun vs H Q E h => ?_) (fun cdv A outer s H vs Q E hr h => ?_)
  · obtain ⟨p, m, rfl, _⟩ := h
    rfl
  obtain ⟨p, m, rfl, ⟨a, b, c, hp⟩, m0, m1, q⟩ := h
  refine ⟨_, pss_cons (ps_if (pt_cmpR op_gt (pe_ix ix_list (pv 0) pe_int (fun _ _ => rfl)) pe_int (nomark _))
      (pss_cons (ps_asg (pe_callB call_divmod (by rfl) md (by decide +kernel) (pa_cons (pe_ix ix_list (pv 0) pe_int (fun _ _ => rfl)) (pa_cons (pv 1) pa_nil))) (pg_tup (by rfl) (pgs_cons (pg_sub (pv 0) pe_int set_list) (pgs_cons (pg_name (i := 2) scDraw.nd rfl (.inl rfl)) pgs_nil))))
        (pss_one (ps_ret (pv 2)))) pss_nil)
    (pss_cons (ps_asg (pe_op op_add (pe_ix ix_list (pv 0) pe_int (fun _ _ => rfl)) pe_int) (pg_sub (pv 0) pe_int set_list))
    (pss_cons (ps_set (i := 3) scDraw.nd rfl (.inl rfl) (pe_op op_mod (pe_callTy call_int1 (by rfl) mi (by decide +kernel) (pa_cons (pe_op op_add (pe_op op_add (pe_op op_mul (pe_ix ix_list (pv 0) pe_int (fun _ _ => rfl)) pe_int)
        (pe_op op_mul pe_int (pe_ix ix_list (pv 0) pe_int (fun _ _ => rfl)))) pe_int) pa_nil)) pe_int))
    (pss_cons (ps_asg (pe_op op_mod (pe_callTy call_int1 (by rfl) mi (by decide +kernel) (pa_cons (pe_op op_add (pe_op op_mul (pv 3) (pe_op op_add (pe_op op_mod (pe_callTy call_int1 (by rfl) mi (by decide +kernel) (pa_cons (pv 3) pa_nil)) pe_int) pe_int))
        (pe_ix ix_list (pv 0) pe_int (fun _ _ => rfl))) pa_nil)) pe_int) (pg_sub (pv 0) pe_int set_list))
    (pss_one (ps_ret (pe_op op_mod (pe_callTy call_int1 (by rfl) mi (by decide +kernel) (pa_cons (pe_op op_fdiv (pe_ix ix_list (pv 0) pe_int (fun _ _ => rfl)) pe_int) pa_nil)) (pv 1))))))), ?_⟩
  refine ⟨_, rfl, p, _, _, _, rfl, rfl, SqL.of hp, rfl, _, _, rfl, rfl, _, rfl, iteB (fun c1 => ?_) (fun _ => ?_)⟩
  · have a0 : a > 0 := of_decide_eq_true c1
    refine ⟨_, rfl, p, _, _, _, rfl, rfl, SqL.of hp, rfl, _, rfl, a, m, rfl, ⟨m0, by omega⟩, fun t nt => ?_⟩
    refine ⟨t, _, rfl, SqT.of upd_same, rfl, _, _, rfl, _, rfl, p, [.int a, .int b, .int c], _, 0, rfl, rfl, ?_, rfl, ?_⟩
    · rw [upd_ne (ne_of_none hp nt)]
      exact hp
    refine ⟨_, _, rfl, ⟨rfl, _, rfl, ?_⟩⟩
    exact q (a % m) _ (Int.emod_nonneg _ (by omega)) (Int.emod_lt_of_pos _ m0) ((But.new nt).trans But.put) ⟨_, _, _, upd_same⟩
  · refine ⟨_, rfl, p, _, _, _, rfl, rfl, SqL.of hp, rfl, _, _, rfl, rfl, _, rfl, p, [.int a, .int b, .int c], _, 2, rfl, rfl, hp, rfl, ?_⟩
    have h1 : upd H p (.lst [.int a, .int b, .int (c + 1)]) p = some (.lst [.int a, .int b, .int (c + 1)]) := upd_same
    refine ⟨_, rfl, p, _, _, _, rfl, rfl, SqL.of h1, rfl, _, _, rfl, rfl, .inr ⟨by decide, by decide⟩, _, rfl, p, _, _, _, rfl, rfl, SqL.of h1, rfl, _, _, rfl, rfl, .inl ⟨by decide, by decide⟩, _, _, rfl, rfl, _, _, rfl, rfl,
      .inl ⟨_, rfl, _, _, rfl, rfl, (show (0 : Int) < 2147483399 by decide), ?_⟩⟩
    generalize (b * 40692 + 3301 * (c + 1) + 83) % 2147483399 = z
    have y1 := Int.emod_nonneg z (show (4001 : Int) ≠ 0 by decide)
    have y2 := Int.emod_lt_of_pos z (show (0 : Int) < 4001 by decide)
    refine ⟨_, rfl, _, rfl, .inl ⟨_, rfl, _, _, rfl, rfl, (show (0 : Int) < 4001 by decide), _, _, rfl, rfl, _, _, rfl, rfl, .inr ⟨by omega, by omega⟩, _, rfl, p, _, _, _, rfl, rfl, SqL.of h1, rfl, _, _, rfl, rfl,
      .inl ⟨_, rfl, _, _, rfl, rfl, (show (0 : Int) < 2147483399 by decide), _, rfl, p, [.int a, .int b, .int (c + 1)], _, 1, rfl, rfl, h1, rfl, ?_⟩⟩⟩
    refine ⟨_, rfl, p, _, _, _, rfl, rfl, SqL.of upd_same, rfl, _, _, rfl, rfl, ⟨by decide, by decide⟩, .inl ⟨_, rfl, _, rfl, _, _, rfl, rfl, m0, ?_⟩⟩
    exact q _ _ (Int.emod_nonneg _ (by omega)) (Int.emod_lt_of_pos _ m0) (But.put.trans But.put) ⟨_, _, _, upd_same⟩
theorem ok_pick (F : L2.Fun K "_law_pick" "_law_pick" sPick f fd) (GD : FnOk P w K mg base CX0 1 fD dD ["well", "many"] spDraw) (bD : L2.Binds K dD ["well", "many"] []) (kD : PySem.W.keepIn K (.ref fD) = true) (mD : mg "_law_draw" = some (.ref fD)) (ml : mg "len" = none) :
    FnOk P w K mg base CX0 2 f fd ["well", "some"] (spPick K) := by
  refine F.ok scPick (fun vs H Q E h => ?_) (fun cdv A outer s H vs Q E hr h => ?_)
  · obtain ⟨p, t, xs, rfl, _⟩ := h
    rfl
  obtain ⟨p, t, xs, rfl, hW, hT, l0, l1, q⟩ := h
  refine ⟨_, pss_one (ps_ret (pe_ix ix_tup (pv 1) (pe_call GD hr (by rfl) mD kD bD .nil pass0 (pa_cons (pv 0) (pa_cons (pe_callB call_len_seq (by rfl) ml PySem.boot_len (pa_cons (pv 1) pa_nil)) pa_nil))) (fun _ _ => rfl))), ?_⟩
  have hT0 : SqT K H t xs := Same.tup (hide_sub p H) hT
  refine ⟨_, rfl, _, rfl, _, rfl, t, xs, rfl, .inr hT0, p, _, rfl, hW, by omega, by omega, fun r H' r0 r1 bt hW' => ?_⟩
  obtain ⟨i, rfl⟩ : ∃ i : Nat, r = (i : Int) := ⟨r.toNat, by omega⟩
  have hi : i < xs.length := by omega
  exact ⟨t, xs, _, xs[i], rfl, rfl, Same.tup (hide_sub p H') (Same.tup bt.hide hT), atI_nat (List.getElem?_eq_getElem hi), q i _ H' (List.getElem?_eq_getElem hi) bt hW'⟩
theorem ok_same (F : L2.Fun K "_law_same" "_law_same" sSame f fd) (mr : mg "repr" = none) : FnG P w K mg base CX0 1 f fd ["told", "due"] (spSame K) := by
  refine okG F scSame (fun vs H Q E h => ?_) (fun cdv A outer s H vs Q E gd hr h => ?_)
  · obtain ⟨x, y, d, e, rfl, _⟩ := h
    rfl
  obtain ⟨x, y, d, e, rfl, h1, h2, ⟨f1, f2, f3⟩, ⟨g1, g2, g3⟩, q⟩ := h
  have gd' : (A.deeper (envOfC "_law_same" (defScope sSame) s.heap.objs.size f cdv)).guards = some [] := gd
  refine ⟨_, pss_one (ps_ret (pe_cmpR op_eq (pe_callB (call_repr gd' hr.units) (by rfl) mr (by decide +kernel) (pa_cons (pv 0) pa_nil)) (pe_callB (call_repr gd' hr.units) (by rfl) mr (by decide +kernel) (pa_cons (pv 1) pa_nil)) (nomark _))), ?_⟩
  exact ⟨_, rfl, _, d, rfl, h1, f1, f2, f3, _, rfl, _, e, rfl, h2, g1, g2, g3, rfl, q⟩
end
end My

set_option maxHeartbeats 2000000
/-! Graphs as pairs of numbers: what a GRAPH is, in plain Lean. -/
namespace My
open PySem PySem.Spec PyProof.Rows L2
abbrev E2 := Nat × Nat
theorem same_put {H H1 : Hp} {D : Addr} {o : HO} (s : Same H H1) (n : H D = none) : Same H (upd H1 D o) := fun b u e => by
  rw [upd_ne (ne_of_none e n)]
  exact s b u e
/-- a stands ahead of b, as tuples -/
def ahead (a b : E2) : Prop := a.1 < b.1 ∨ (a.1 = b.1 ∧ a.2 < b.2)
instance (a b : E2) : Decidable (ahead a b) := inferInstanceAs (Decidable (_ ∨ _))
structure Good (n : Nat) (es : List E2) : Prop where
  n9 : n ≤ 9
  lt : ∀ p ∈ es, p.1 < p.2 ∧ p.2 < n
  up : es.Pairwise ahead
/-- the pairs with u ahead, below n; all pairs below n, ascending -/
def rowP (n u : Nat) : List E2 := (List.range (n - (u + 1))).map fun j => (u, u + 1 + j)
def allP (n : Nat) : List E2 := (List.range n).flatMap (rowP n)
theorem mem_rowP {n u : Nat} {p : E2} : p ∈ rowP n u ↔ p.1 = u ∧ u < p.2 ∧ p.2 < n := by
  unfold rowP
  rw [List.mem_map]
  constructor
  · rintro ⟨j, hj, rfl⟩
    have := List.mem_range.mp hj
    refine ⟨rfl, ?_, ?_⟩ <;> show _ < _ <;> omega
  · rintro ⟨h1, h2, h3⟩
    refine ⟨p.2 - (u + 1), List.mem_range.mpr (by omega), ?_⟩
    obtain ⟨a, b⟩ := p
    simp only at h1 h2 h3 ⊢
    rw [h1, show u + 1 + (b - (u + 1)) = b by omega]
theorem mem_allP {n : Nat} {p : E2} : p ∈ allP n ↔ p.1 < p.2 ∧ p.2 < n := by
  unfold allP
  rw [List.mem_flatMap]
  constructor
  · rintro ⟨u, hu, h⟩
    obtain ⟨h1, h2, h3⟩ := mem_rowP.mp h
    omega
  · rintro ⟨h1, h2⟩
    exact ⟨p.1, List.mem_range.mpr (by omega), mem_rowP.mpr ⟨rfl, h1, h2⟩⟩
theorem allP_up : ∀ n, n ≤ 9 → (allP n).Pairwise ahead := by decide +kernel
theorem allP_few : ∀ n, n ≤ 9 → (allP n).length ≤ 36 := by decide +kernel
theorem ahead_ne {a b : E2} (h : ahead a b) : a ≠ b := by
  rintro rfl
  rcases h with h | h <;> omega
theorem sub_few {α : Type} [DecidableEq α] : ∀ {l m : List α}, l.Nodup → (∀ x ∈ l, x ∈ m) → l.length ≤ m.length
  | [], _, _, _ => Nat.zero_le _
  | a :: l, m, nd, sub => by
    obtain ⟨na, nl⟩ := List.nodup_cons.mp nd
    have ma : a ∈ m := sub a (List.mem_cons_self ..)
    have ih := sub_few (l := l) (m := m.erase a) nl fun x hx => by
      have hne : x ≠ a := fun e => na (e ▸ hx)
      exact (List.mem_erase_of_ne hne).mpr (sub x (List.mem_cons_of_mem _ hx))
    have le := List.length_erase_of_mem ma
    have pos : 0 < m.length := List.length_pos_of_mem ma
    rw [List.length_cons]
    omega
theorem Good.nodup {n : Nat} {es : List E2} (g : Good n es) : es.Nodup := g.up.imp fun h => ahead_ne h
theorem Good.few {n : Nat} {es : List E2} (g : Good n es) : es.length ≤ 36 := Nat.le_trans (sub_few g.nodup fun p hp => mem_allP.mpr (g.lt p hp)) (allP_few n g.n9)
theorem Good.filter {n : Nat} (h : n ≤ 9) (f : E2 → Bool) : Good n ((allP n).filter f) := ⟨h, fun p hp => mem_allP.mp (List.mem_filter.mp hp).1, (allP_up n h).filter _⟩
theorem Good.nil {n : Nat} (h : n ≤ 9) : Good n [] := ⟨h, fun _ z => (nomatch z), .nil⟩
theorem Good.more {n m : Nat} {es : List E2} (g : Good n es) (h : n ≤ m) (h9 : m ≤ 9) : Good m es := ⟨h9, fun p hp => ⟨(g.lt p hp).1, by have := (g.lt p hp).2; omega⟩, g.up⟩

/-! ### on the heap -/
/-- the pair p as a tuple -/
def PairAt (K : PySem.W.Frag) (H : Hp) (x : V) (p : E2) : Prop := ∃ t, x = .ref t ∧ SqT K H t [.int (p.1 : Int), .int (p.2 : Int)]
abbrev PairsAt (K : PySem.W.Frag) (H : Hp) : List V → List E2 → Prop := Paired (PairAt K H)
theorem PairAt.same {K : PySem.W.Frag} {H H' : Hp} (e : Same H H') {x : V} {p : E2} (h : PairAt K H x p) : PairAt K H' x p := by
  obtain ⟨t, rfl, h⟩ := h
  exact ⟨t, rfl, Same.tup e h⟩
theorem PairsAt.same {K : PySem.W.Frag} {H H' : Hp} (e : Same H H') : ∀ {xs : List V} {ps : List E2}, PairsAt K H xs ps → PairsAt K H' xs ps
  | _, _, .nil => .nil
  | _, _, .cons a b => .cons (a.same e) (PairsAt.same e b)
theorem PairsAt.append {K : PySem.W.Frag} {H : Hp} : ∀ {xs ys : List V} {ps qs : List E2}, PairsAt K H xs ps → PairsAt K H ys qs → PairsAt K H (xs ++ ys) (ps ++ qs)
  | _, _, _, _, .nil, h => h
  | _, _, _, _, .cons a b, h => .cons a (PairsAt.append b h)
/-- a graph -/
def GraphAt (K : PySem.W.Frag) (H : Hp) (x : V) (n : Nat) (es : List E2) : Prop := ∃ (t e : Addr) (xs : List V), x = .ref t ∧ SqT K H t [.int (n : Int), .ref e] ∧ SqT K H e xs ∧ PairsAt K H xs es
theorem GraphAt.same {K : PySem.W.Frag} {H H' : Hp} (s : Same H H') {x : V} {n : Nat} {es : List E2} (h : GraphAt K H x n es) : GraphAt K H' x n es := by
  obtain ⟨t, e, xs, rfl, h1, h2, h3⟩ := h
  exact ⟨t, e, xs, rfl, Same.tup s h1, Same.tup s h2, h3.same s⟩
def pairD (p : E2) : PyData := .tuple [.int (p.1 : Int), .int (p.2 : Int)]
def graphD (n : Nat) (es : List E2) : PyData := .tuple [.int (n : Int), .tuple (es.map pairD)]
theorem PairAt.dp {K : PySem.W.Frag} {H : Hp} {x : V} {p : E2} (h : PairAt K H x p) : Dp K H x (pairD p) := by
  obtain ⟨t, rfl, h⟩ := h
  exact .tup h (.cons (.int _) (.cons (.int _) .nil))
theorem PairsAt.dp {K : PySem.W.Frag} {H : Hp} : ∀ {xs : List V} {ps : List E2}, PairsAt K H xs ps → DpAll K H xs (ps.map pairD)
  | _, _, .nil => .nil
  | _, _, .cons a b => .cons a.dp (PairsAt.dp b)
theorem GraphAt.dp {K : PySem.W.Frag} {H : Hp} {x : V} {n : Nat} {es : List E2} (h : GraphAt K H x n es) : Dp K H x (graphD n es) := by
  obtain ⟨t, e, xs, rfl, h1, h2, h3⟩ := h
  exact .tup h1 (.cons (.int _) (.cons (.tup h2 h3.dp) .nil))
theorem PairsAt.get {K : PySem.W.Frag} {H : Hp} {xs : List V} {ps : List E2} {i : Nat} {x : V} (h : PairsAt K H xs ps) (e : xs[i]? = some x) : ∃ p, ps[i]? = some p ∧ PairAt K H x p := by
  have go : ∀ {xs : List V} {ps : List E2} {i : Nat} {x : V}, PairsAt K H xs ps → xs[i]? = some x → ∃ p, ps[i]? = some p ∧ PairAt K H x p := by
    intro xs
    induction xs with
    | nil => intro ps i x _ e; simp at e
    | cons a l ih =>
      intro ps i x h e
      cases h with
      | cons r t =>
        cases i with
        | zero => simp at e; subst e; exact ⟨_, rfl, r⟩
        | succ i => obtain ⟨p, h1, h2⟩ := ih t (by simpa using e); exact ⟨p, by simpa using h1, h2⟩
  exact go h e
end My

set_option maxHeartbeats 2000000
/-! Rules that pairs want: the lesser and the greater number of one; a list of pairs made a set, sorted, made a tuple. -/
namespace My
open PySem PySem.Spec PyProof.Rows L2
section
variable {X : Cx}
def rOfPair (f : Int → Int → Int) (K : PySem.W.Frag) : List V → Hp → VK → Prop := fun xs H Q => ∃ (t : Addr) (u v : Int), xs = [.ref t] ∧ SqT K H t [.int u, .int v] ∧ Q (.int (f u v)) H
theorem pair_reads {pins : List (Addr × Obj)} {σ : L2.St} {H : Hp} {s : Shared} {t : Addr} {u v : Int} (I : Inv X pins σ H s) (h : SqT X.K H t [.int u, .int v]) : ∃ vs : Array Value, s.heap.IsTuple t vs ∧ ∃ as, ReadsAll s.heap vs.toList [.int u, .int v] as := by
  obtain ⟨its, r, p, _⟩ := I.tuple h
  obtain ⟨as, q⟩ := Dp.readsAll I [.int u, .int v] [.int u, .int v] its (.cons (.int _) (.cons (.int _) .nil)) r
  obtain ⟨o, ho, hc, n, hd⟩ := p
  exact ⟨its.toArray, ⟨o, ho, hc, n, hd⟩, as, by simpa using q⟩
theorem call_minPair (hc : X.calm = true) (hu : X.A.units + 64 < cLine) : CallR X (.builtin "min") (rOfPair min X.K) := by
  rintro pins s σ H xs us Q I r ⟨t, u, v, rfl, h, q⟩
  rw [Vals.ref1 r]
  obtain ⟨vs, ht, as, rs⟩ := pair_reads I h
  refine PySem.W.min_tuple_data (I.ok.hd hc) ht rs (PySem.W.alikeAll_datum [u, v]) (by simp only [PyData.depthAll, PyData.depth]; omega) ?_
  intro i x h' tk bs hi rd hk
  have e := PySem.W.minD_ints u [v]
  have e' : PySem.W.minD (.int u) [.int v] = .int (min u v) := e
  rw [e'] at rd
  cases rd
  exact ⟨.int _, H, I.kept hk, ⟨_, rfl⟩, q⟩
theorem call_maxPair (hc : X.calm = true) (hu : X.A.units + 64 < cLine) : CallR X (.builtin "max") (rOfPair max X.K) := by
  rintro pins s σ H xs us Q I r ⟨t, u, v, rfl, h, q⟩
  rw [Vals.ref1 r]
  obtain ⟨vs, ht, as, rs⟩ := pair_reads I h
  refine PySem.W.max_tuple_data (I.ok.hd hc) ht rs (PySem.W.alikeAll_datum [u, v]) (by simp only [PyData.depthAll, PyData.depth]; omega) ?_
  intro i x h' tk bs hi rd hk
  have e := PySem.W.maxD_ints u [v]
  have e' : PySem.W.maxD (.int u) [.int v] = .int (max u v) := e
  rw [e'] at rd
  cases rd
  exact ⟨.int _, H, I.kept hk, ⟨_, rfl⟩, q⟩
end
/-! ### a pair among the pairs of a tuple -/
theorem pairD_lay (p : E2) : (pairD p).canLay0 = true := by simp [pairD, PyData.canLay0, PyData.canLayAll0]
theorem pairD_depth (p : E2) : (pairD p).depth = 1 := by simp [pairD, PyData.depth, PyData.depthAll]
theorem pairsD_lay : ∀ ps : List E2, PyData.canLayAll0 (ps.map pairD) = true
  | [] => by rw [List.map_nil]; simp [PyData.canLayAll0]
  | p :: ps => by simp [PyData.canLayAll0, pairD_lay p, pairsD_lay ps]
theorem pairsD_depth : ∀ ps : List E2, PyData.depthAll (ps.map pairD) ≤ 1
  | [] => by rw [List.map_nil]; simp [PyData.depthAll]
  | p :: ps => by
    have a := pairsD_depth ps
    have b := pairD_depth p
    rw [List.map_cons]
    simp only [PyData.depthAll]
    omega
theorem pairD_eqv (p q : E2) : PyData.eqv (pairD p) (pairD q) = decide (p = q) := by
  obtain ⟨a, b⟩ := p
  obtain ⟨c, d⟩ := q
  simp only [pairD, PyData.eqv, PyData.eqvAll, Bool.and_true]
  by_cases h1 : a = c
  · subst h1
    by_cases h2 : b = d
    · subst h2
      simp
    · have z : ((b : Int) == (d : Int)) = false := beq_eq_false_iff_ne.mpr fun e => h2 (by omega)
      simp [z, h2]
  · have z : ((a : Int) == (c : Int)) = false := beq_eq_false_iff_ne.mpr fun e => h1 (by omega)
    simp [z, h1]
theorem any_pairs (p : E2) : ∀ es : List E2, ((es.map pairD).any fun z => PyData.eqv z (pairD p)) = decide (p ∈ es)
  | [] => rfl
  | q :: es => by
    rw [List.map_cons, List.any_cons, any_pairs p es, pairD_eqv]
    by_cases h : q = p
    · subst h
      simp
    · have h' : p ≠ q := fun e => h e.symm
      simp [h, h']
section
variable {X : Cx}
def rInP (k : Bool → Bool) (K : PySem.W.Frag) : R2 := fun x y H Q => ∃ (p : E2) (t : Addr) (xs : List V) (es : List E2), PairAt K H x p ∧ y = .ref t ∧ SqT K H t xs ∧ PairsAt K H xs es ∧ Q (.bl (k (decide (p ∈ es)))) H
theorem op_inP (hu : X.A.units + 64 < cLine) : OpR X (compareOp .In) (rInP id X.K) := by
  rintro pins s σ H x y v u Q I rx ry ⟨p, t, xs, es, hp, rfl, ht, hes, q⟩
  obtain ⟨as, r1⟩ := Dp.reads I _ x v hp.dp rx
  obtain ⟨bs, r2⟩ := Dp.reads I (.tuple (es.map pairD)) (.ref t) u (.tup ht hes.dp) ry
  refine SeqAt.in_tuple_reads r2 r1 (pairsD_lay es) (pairD_lay p) ?_ ?_
  · have := pairD_depth p
    have := Nat.min_le_right (PyData.depthAll (es.map pairD)) (pairD p).depth
    omega
  · rw [any_pairs]
    exact ⟨.bl _, H, I, rfl, q⟩
theorem op_notInP (hu : X.A.units + 64 < cLine) : OpR X (compareOp .NotIn) (rInP not X.K) := by
  rintro pins s σ H x y v u Q I rx ry ⟨p, t, xs, es, hp, rfl, ht, hes, q⟩
  obtain ⟨as, r1⟩ := Dp.reads I _ x v hp.dp rx
  obtain ⟨bs, r2⟩ := Dp.reads I (.tuple (es.map pairD)) (.ref t) u (.tup ht hes.dp) ry
  refine SeqAt.notIn_tuple_reads r2 r1 (pairsD_lay es) (pairD_lay p) ?_ ?_
  · have := pairD_depth p
    have := Nat.min_le_right (PyData.depthAll (es.map pairD)) (pairD p).depth
    omega
  · rw [any_pairs]
    exact ⟨.bl _, H, I, rfl, q⟩
end
end My

set_option maxHeartbeats 4000000
/-! The law's graphs, drawn: each is a GRAPH. -/
namespace My
open PySem PySem.Spec PyProof.Rows L2
abbrev sOfPairs : Stmt := top (32 + 4)
theorem scOfPairs : FnScope ["n", "pairs", "each"] ["n", "pairs"] (defScope sOfPairs) := ⟨rfl, rfl, rfl, by decide +kernel, rfl, by decide +kernel, by decide +kernel⟩
theorem take_succ {α : Type} {l : List α} {i : Nat} {x : α} (h : l[i]? = some x) : l.take (i + 1) = l.take i ++ [x] := by
  rw [List.take_succ, h]
  rfl
theorem PairsAt.len {K : PySem.W.Frag} {H : Hp} : ∀ {xs : List V} {ps : List E2}, PairsAt K H xs ps → xs.length = ps.length
  | _, _, .nil => rfl
  | _, _, .cons _ b => congrArg (· + 1) (PairsAt.len b)
def norm (p : E2) : E2 := (min p.1 p.2, max p.1 p.2)
/-- from the pairs as tuples to what the sets' rules ask -/
theorem pairs_ks {K : PySem.W.Frag} {H : Hp} : ∀ {ys : List V} {qs : List E2}, PairsAt K H ys qs → ∃ ks : List (Addr × List Int), ys = ks.map (fun p => V.ref p.1) ∧ ks.map (·.2) = qs.map (fun q => [(q.1 : Int), (q.2 : Int)]) ∧ ∀ p ∈ ks, SqT K H p.1 (p.2.map V.int)
  | _, _, .nil => ⟨[], rfl, rfl, fun _ z => nomatch z⟩
  | _, _, .cons a b => by
    obtain ⟨t, rfl, h⟩ := a
    obtain ⟨ks, h1, h2, h3⟩ := pairs_ks b
    refine ⟨(t, _) :: ks, by rw [h1]; rfl, by rw [List.map_cons, h2]; rfl, ?_⟩
    intro p hp
    rcases List.mem_cons.mp hp with rfl | hp
    · exact h
    · exact h3 p hp
def toE (ns : List Int) : E2 := ((ns.getD 0 0).toNat, (ns.getD 1 0).toNat)
theorem toE_of (q : E2) : toE [(q.1 : Int), (q.2 : Int)] = q := by
  unfold toE
  simp
theorem ks_pairs {K : PySem.W.Frag} {H : Hp} : ∀ {L : List (Addr × List Int)}, (∀ p ∈ L, SqT K H p.1 (p.2.map V.int)) → (∀ p ∈ L, p.2 = [((toE p.2).1 : Int), ((toE p.2).2 : Int)]) → PairsAt K H (L.map fun q => V.ref q.1) (L.map fun p => toE p.2)
  | [], _, _ => .nil
  | p :: L, h, b => by
    refine .cons ⟨p.1, rfl, ?_⟩ (ks_pairs (fun r hr => h r (List.mem_cons_of_mem _ hr)) fun r hr => b r (List.mem_cons_of_mem _ hr))
    have z := h p (List.mem_cons_self ..)
    rw [b p (List.mem_cons_self ..)] at z
    exact z
def spOfPairs (K : PySem.W.Frag) : Sp := fun vs H Q _ => ∃ (n : Nat) (l : Addr) (xs : List V) (ps : List E2), vs = [.int (n : Int), .ref l] ∧ n ≤ 9 ∧ SqL K H l xs ∧ PairsAt K H xs ps ∧ xs.length < 64 ∧ (∀ p ∈ ps, p.1 ≠ p.2 ∧ p.1 < n ∧ p.2 < n) ∧
  ∀ (x : V) (es : List E2) (H' : Hp), Same H H' → GraphAt K H' x n es → Good n es → (∀ q, q ∈ es ↔ q ∈ ps.map norm) → Q x H'
section
variable {P : Program} {w : World} {K : PySem.W.Frag} {mg : Str → Option Value} {base : Heap} {f : Addr} {fd : FuncData}
theorem ok_of_pairs (F : L2.Fun K "_law_of_pairs" "_law_of_pairs" sOfPairs f fd) (mt : mg "tuple" = none) (msd : mg "sorted" = none) (mst : mg "set" = none) (mn : mg "min" = none) (mx : mg "max" = none) : FnOk P w K mg base CX0 1 f fd ["n", "pairs"] (spOfPairs K) := by
  refine F.ok scOfPairs (fun vs H Q E h => ?_) (fun cdv A outer s H vs Q E hr h => ?_)
  · obtain ⟨n, l, xs, ps, rfl, _⟩ := h
    rfl
  obtain ⟨n, l, xs, ps, rfl, n9, hS, hP, l64, hps, q⟩ := h
  refine ⟨_, pss_one (ps_ret (pe_tup (pa_cons (pv 0) (pa_cons (pe_callTy call_tuple_of (by rfl) mt (by decide +kernel) (pa_cons (pe_callB (cr_sortedT rfl) (by rfl) msd (by decide +kernel) (pa_cons (pe_callTy (cr_setOfT rfl hr.units) (by rfl) mst (by decide +kernel) (pa_cons
      (pe_lc (own := [("each", 2)]) (g := gName 2) (tt := tYes) rfl scOfPairs.nd (pi_list (pv 1)) (blkOk_by (N := ["n", "pairs", "each"]) (sc := defScope sOfPairs) (by decide +kernel)) (fun _ _ _ _ _ => pg_name (i := 2) scOfPairs.nd rfl (Or.inl rfl)) (fun _ _ _ _ _ => pts_nil)
        (fun _ _ _ _ _ => pe_tup (pa_cons (pe_callB (id := "min") (r := rOfPair min K) (call_minPair rfl hr.units) (by rfl) mn (by decide +kernel) (pa_cons (pv 2) pa_nil)) (pa_cons (pe_callB (id := "max") (r := rOfPair max K) (call_maxPair rfl hr.units) (by rfl) mx (by decide +kernel) (pa_cons (pv 2) pa_nil)) pa_nil)))) pa_nil)) pa_nil)) pa_nil)) pa_nil)))), ?_⟩
  refine ⟨_, rfl, _, rfl, l, rfl, ⟨_, hS⟩, fun D nD => lc_list (K := K) (a := l) (xs := xs) (fun i H' => Same H H' ∧ ∃ ys, H' D = some (.lst ys) ∧ ys.length = i ∧ PairsAt K (hide D H') ys ((ps.take i).map norm)) ⟨same_new nD _, [], upd_same, rfl, .nil⟩ ?_ ?_ ?_⟩
  · rintro i H1 _ ⟨s1, _⟩
    exact L2.Same.seq s1 hS
  · rintro i x H1 hi ⟨s1, ys, hD, ly, py⟩
    obtain ⟨p, hp, t, rfl, ht⟩ := PairsAt.get (hP.same s1) hi
    refine ⟨rfl, ?_⟩
    refine ⟨_, rfl, t, _, _, rfl, ht, _, rfl, t, _, _, rfl, ht, (by show 2 ≤ sizeLine; decide), fun r nr => ?_⟩
    have e1 : min ((p.1 : Nat) : Int) ((p.2 : Nat) : Int) = (((norm p).1 : Nat) : Int) := by show _ = ((min p.1 p.2 : Nat) : Int); omega
    have e2 : max ((p.1 : Nat) : Int) ((p.2 : Nat) : Int) = (((norm p).2 : Nat) : Int) := by show _ = ((max p.1 p.2 : Nat) : Int); omega
    rw [e1, e2]
    have s2 := same_new nr (.tup [.int ((norm p).1 : Int), .int ((norm p).2 : Int)])
    have rD : r ≠ D := fun z => by rw [← z, nr] at hD; cases hD
    have bt : But D H1 (upd (upd H1 r (.tup [.int ((norm p).1 : Int), .int ((norm p).2 : Int)])) D (.lst (ys ++ [.ref r]))) := (But.new nr).trans .put
    refine ⟨ys, s2 _ _ hD, small1000 (by have := (List.getElem?_eq_some_iff.mp hi).1; omega), same_put (s1.trans s2) nD, _, upd_same, by rw [List.length_append, ly]; rfl, ?_⟩
    rw [take_succ hp, List.map_append]
    refine (py.same bt.hide).append (.cons ⟨r, rfl, SqT.of ?_⟩ .nil)
    rw [hide_ne rD, upd_ne rD]
    exact upd_same
  · rintro H1 ⟨s1, ys, hD, ly, py⟩
    have lps : xs.length = ps.length := PairsAt.len hP
    rw [lps, List.take_length] at py
    obtain ⟨ks, e1, e2, e3⟩ := pairs_ks (py.same (hide_sub D H1))
    have lk : ks.length < 64 := by
      have z := congrArg List.length e1
      rw [List.length_map] at z
      omega
    refine ⟨D, ks, rfl, by rw [← e1]; exact SqL.of hD, e3, lk, fun a L na sub sup => ?_⟩
    have form : ∀ p ∈ ks, ∃ r ∈ ps.map norm, p.2 = [(r.1 : Int), (r.2 : Int)] := fun p hp => by
      have z : p.2 ∈ ks.map (·.2) := List.mem_map.mpr ⟨p, hp, rfl⟩
      rw [e2] at z
      obtain ⟨r, h1, h2⟩ := List.mem_map.mp z
      exact ⟨r, h1, h2.symm⟩
    have small : ∀ r ∈ ps.map norm, r.1 < r.2 ∧ r.2 < n := fun r hr => by
      obtain ⟨p, hp, rfl⟩ := List.mem_map.mp hr
      obtain ⟨h1, h2, h3⟩ := hps p hp
      show min p.1 p.2 < max p.1 p.2 ∧ max p.1 p.2 < n
      omega
    refine ⟨a, L, 2, 9, rfl, upd_same, fun p hp => Same.tup (same_new na _) (e3 p (sub p hp)), by decide, fun p hp => ?_, fun L' p perm nd few up np => ?_⟩
    · obtain ⟨r, hr, e⟩ := form p (sub p hp)
      have z := small r hr
      rw [e]
      refine ⟨rfl, fun m hm => ?_⟩
      rcases List.mem_cons.mp hm with rfl | hm
      · omega
      · have := List.mem_singleton.mp hm
        omega
    refine ⟨p, _, rfl, .inl ⟨SqL.of upd_same, fun e ne => ?_⟩⟩
    refine ⟨(by show 2 ≤ sizeLine; decide), fun t nt => ?_⟩
    have m' : ∀ p ∈ L', p ∈ ks := fun p hp => sub p (perm.mem_iff.mp hp)
    have s3 := s1.trans ((same_new na (SetTO P w a L)).trans ((same_new np (.lst (L'.map fun q => V.ref q.1))).trans ((same_new ne (.tup (L'.map fun q => V.ref q.1))).trans (same_new nt (.tup [.int (n : Int), .ref e])))))
    have s4 : Same H1 _ := (same_new na (SetTO P w a L)).trans ((same_new np (.lst (L'.map fun q => V.ref q.1))).trans ((same_new ne (.tup (L'.map fun q => V.ref q.1))).trans (same_new nt (.tup [.int (n : Int), .ref e]))))
    have back : ∀ p ∈ L', p.2 = [((toE p.2).1 : Int), ((toE p.2).2 : Int)] ∧ toE p.2 ∈ ps.map norm := fun p hp => by
      obtain ⟨r, hr, e⟩ := form p (m' p hp)
      rw [e, toE_of]
      exact ⟨rfl, hr⟩
    refine q (.ref t) (L'.map fun p => toE p.2) _ s3 ⟨t, e, _, rfl, SqT.of upd_same, SqT.of ((same_new nt _) _ _ upd_same), ?_⟩ ⟨n9, ?_, ?_⟩ ?_
    · exact ks_pairs (fun p hp => Same.tup s4 (e3 p (m' p hp))) fun p hp => (back p hp).1
    · intro r hr
      obtain ⟨p, hp, rfl⟩ := List.mem_map.mp hr
      exact small _ (back p hp).2
    · rw [List.pairwise_map]
      have nd2 := List.pairwise_map.mp nd
      have both := up.and nd2
      refine both.imp_of_mem ?_
      intro p r hp hr ⟨le, neq⟩
      have b1 := (back p hp).1
      have b2 := (back r hr).1
      have z1 := small _ (back p hp).2
      have z2 := small _ (back r hr).2
      rw [b1, b2] at le neq
      have c1 : TS.code 9 [((toE p.2).1 : Int), ((toE p.2).2 : Int)] = ((toE p.2).1 : Int) * 9 + ((toE p.2).2 : Int) := by simp [TS.code]
      have c2 : TS.code 9 [((toE r.2).1 : Int), ((toE r.2).2 : Int)] = ((toE r.2).1 : Int) * 9 + ((toE r.2).2 : Int) := by simp [TS.code]
      rw [c1, c2] at le
      have ne2 : ¬ ((toE p.2).1 = (toE r.2).1 ∧ (toE p.2).2 = (toE r.2).2) := fun ⟨x, y⟩ => neq (by rw [x, y])
      show (toE p.2).1 < (toE r.2).1 ∨ ((toE p.2).1 = (toE r.2).1 ∧ (toE p.2).2 < (toE r.2).2)
      omega
    · intro r
      constructor
      · intro hr
        obtain ⟨p, hp, rfl⟩ := List.mem_map.mp hr
        exact (back p hp).2
      · intro hr
        have z : [(r.1 : Int), (r.2 : Int)] ∈ ks.map (·.2) := by
          rw [e2]
          exact List.mem_map.mpr ⟨r, hr, rfl⟩
        obtain ⟨p, hp, ep⟩ := List.mem_map.mp z
        have z2 := sup p hp
        obtain ⟨p2, hp2, ep2⟩ := List.mem_map.mp z2
        refine List.mem_map.mpr ⟨p2, perm.mem_iff.mpr hp2, ?_⟩
        show toE p2.2 = r
        rw [show p2.2 = [(r.1 : Int), (r.2 : Int)] from ep2.trans ep, toE_of]
end
end My

set_option maxHeartbeats 4000000
namespace My
open PySem PySem.Spec PyProof.Rows L2
abbrev sTurned : Stmt := top (32 + 5)
theorem scTurned : FnScope ["graph", "n", "edges", "found", "u", "v"] ["graph"] (defScope sTurned) := ⟨rfl, rfl, rfl, by decide +kernel, rfl, by decide +kernel, by decide +kernel⟩
/-- what is left of all pairs -/
def leftP (n : Nat) (es : List E2) : List E2 := (allP n).filter fun p => decide (p ∉ es)
theorem leftP_eq (n : Nat) (es : List E2) : leftP n es = (List.range n).flatMap fun u => (rowP n u).filter fun p => decide (p ∉ es) := List.filter_flatMap
theorem rows_few : ∀ u, u ≤ 9 → ∀ n, n ≤ 9 → ((List.range u).flatMap (rowP n)).length ≤ 81 := by decide +kernel
def spTurned (K : PySem.W.Frag) : Sp := fun vs H Q _ => ∃ (x : V) (n : Nat) (es : List E2), vs = [x] ∧ GraphAt K H x n es ∧ n ≤ 9 ∧ ∀ (y : V) (H' : Hp), Same H H' → GraphAt K H' y n (leftP n es) → Q y H'
section
variable {P : Program} {w : World} {K : PySem.W.Frag} {mg : Str → Option Value} {base : Heap} {f : Addr} {fd : FuncData}
theorem ok_turned (F : L2.Fun K "_law_turned" "_law_turned" sTurned f fd) (mr : mg "range" = none) (mt : mg "tuple" = none) : FnOk P w K mg base CX0 1 f fd ["graph"] (spTurned K) := by
  refine F.ok scTurned (fun vs H Q E h => ?_) (fun cdv A outer s H vs Q E hr h => ?_)
  · obtain ⟨x, n, es, rfl, _⟩ := h
    rfl
  obtain ⟨x, n, es, rfl, ⟨t, e, xs, rfl, ht, he, hes⟩, n9, q⟩ := h
  refine ⟨_, pss_cons (ps_asg (pv 0) (pg_tup (by rfl) (pgs_cons (pg_name (i := 1) scTurned.nd rfl (.inl rfl)) (pgs_cons (pg_name (i := 2) scTurned.nd rfl (.inr rfl)) pgs_nil))))
    (pss_cons (ps_set (i := 3) scTurned.nd rfl (.inl rfl) (pe_lst pa_nil))
    (pss_cons (ps_for PassesOwn.never rfl (pi_range1 rfl mr (pa_cons (pv 1) pa_nil)) (pg_name (i := 4) scTurned.nd rfl (.inr rfl))
      (pss_one (ps_set (i := 3) scTurned.nd rfl (.inl rfl) (pe_op op_cat (pv 3) (pe_lc (own := [("v", 5)]) (g := gName 5) rfl scTurned.nd (pi_range2 (by rfl) mr (pa_cons (pe_op op_add (pv 4) pe_int) (pa_cons (pv 1) pa_nil)))
        (blkOk_by (N := ["graph", "n", "edges", "found", "u", "v"]) (sc := defScope sTurned) (by decide +kernel)) (fun _ _ _ _ _ => pg_name (i := 5) scTurned.nd rfl (Or.inl rfl))
        (fun _ _ _ _ _ => pts_one (pt_cmpR (r := rInP not K) (op_notInP hr.units) (pe_tup (pa_cons (pv 4) (pa_cons (pv 5) pa_nil))) (pv 2) (by rfl)))
        (fun _ _ _ _ _ => pe_tup (pa_cons (pv 4) (pa_cons (pv 5) pa_nil))))))))
    (pss_one (ps_ret (pe_tup (pa_cons (pv 1) (pa_cons (pe_callTy call_tuple_of (by rfl) mt (by decide +kernel) (pa_cons (pv 3) pa_nil)) pa_nil))))))), ?_⟩
  refine ⟨_, rfl, t, _, rfl, ht, rfl, _, _, rfl, _, _, rfl, rfl, (by show 0 ≤ sizeLine; decide), fun a na => ?_⟩
  refine ⟨_, rfl, (n : Int), rfl, by omega, by omega, for_range (lo := 0) (n := ((n : Nat) : Int).toNat) (fun i σ H' => ∃ (b : Addr) (ys : List V) (s4 : Option V), σ = [some (.ref t), some (.int (n : Int)), some (.ref e), some (.ref b), s4, none] ∧ Same H H' ∧ H' b = some (.lst ys) ∧
      PairsAt K H' ys ((List.range i).flatMap fun u => (rowP n u).filter fun p => decide (p ∉ es))) ⟨a, [], none, rfl, same_new na _, upd_same, .nil⟩ ?_ ?_⟩
  · rintro u σ H1 lu ⟨b, ys, s4, rfl, s1, hb, py⟩
    rw [Int.zero_add]
    have un : u < n := by omega
    refine ⟨_, rfl, _, rfl, _, _, rfl, rfl, _, rfl, _, _, rfl, ⟨by omega, by omega, by omega, by omega⟩, fun D nD => lc_range (lo := (u : Int) + 1) (n := ((n : Int) - ((u : Int) + 1)).toNat)
      (fun k H2 => Same H1 H2 ∧ ∃ zs, H2 D = some (.lst zs) ∧ zs.length ≤ k ∧ PairsAt K (hide D H2) zs (((List.range k).map fun j => (u, u + 1 + j)).filter fun p => decide (p ∉ es))) ⟨same_new nD _, [], upd_same, Nat.le_refl _, .nil⟩ ?_ ?_⟩
    · rintro k H2 lk ⟨s2, zs, hD, lz, pz⟩
      rw [show ((u : Int) + 1 + (k : Int)) = ((u + 1 + k : Nat) : Int) by omega]
      refine ⟨rfl, ?_⟩
      refine ⟨_, rfl, _, rfl, (by show 2 ≤ sizeLine; decide), fun r nr => ?_⟩
      have s3 := same_new nr (.tup [.int ((u : Nat) : Int), .int ((u + 1 + k : Nat) : Int)])
      have sH := (s1.trans s2).trans s3
      refine ⟨_, rfl, (u, u + 1 + k), e, xs, es, ⟨r, rfl, SqT.of upd_same⟩, rfl, Same.tup sH he, hes.same sH, _, rfl, iteB (fun c => ?_) (fun c => ?_)⟩
      · have c' : (u, u + 1 + k) ∉ es := by simpa using c
        refine ⟨_, rfl, _, rfl, (by show 2 ≤ sizeLine; decide), fun r2 nr2 => ?_⟩
        have s4 := same_new nr2 (.tup [.int ((u : Nat) : Int), .int ((u + 1 + k : Nat) : Int)])
        have hD4 := s4 _ _ (s3 _ _ hD)
        have ne2 : r2 ≠ D := fun z => by
          rw [z] at nr2
          rw [s3 _ _ hD] at nr2
          cases nr2
        refine ⟨zs, hD4, small1000 (by omega), same_put ((s2.trans s3).trans s4) nD, _, upd_same, by rw [List.length_append]; show zs.length + 1 ≤ k + 1; omega, ?_⟩
        rw [List.range_succ, List.map_append, List.filter_append]
        have bt : But D H2 _ := (But.new nr).trans ((But.new (o := .tup [.int ((u : Nat) : Int), .int ((u + 1 + k : Nat) : Int)]) nr2).trans (.put (o := .lst (zs ++ [.ref r2]))))
        refine (pz.same bt.hide).append ?_
        show PairsAt K _ [V.ref r2] ([(u, u + 1 + k)].filter fun p => decide (p ∉ es))
        rw [List.filter_cons_of_pos (by simpa using c'), List.filter_nil]
        refine .cons ⟨r2, rfl, SqT.of ?_⟩ .nil
        rw [hide_ne ne2, upd_ne ne2]
        exact upd_same
      · have c' : (u, u + 1 + k) ∈ es := by simpa using c
        refine ⟨s2.trans s3, zs, s3 _ _ hD, by omega, ?_⟩
        rw [List.range_succ, List.map_append, List.filter_append]
        show PairsAt K _ zs (_ ++ [(u, u + 1 + k)].filter fun p => decide (p ∉ es))
        rw [List.filter_cons_of_neg (by simpa using c'), List.filter_nil, List.append_nil]
        exact pz.same (But.new nr).hide
    · rintro H2 ⟨s2, zs, hD, lz, pz⟩
      have le1 : ys.length ≤ 81 := by
        rw [PairsAt.len py]
        have z := List.length_filter_le (fun p => decide (p ∉ es)) ((List.range u).flatMap (rowP n))
        rw [List.filter_flatMap] at z
        exact Nat.le_trans z (rows_few u (by omega) n n9)
      refine ⟨b, D, ys, zs, rfl, rfl, s2 _ _ hb, hD, small (by omega), fun c nc => ?_⟩
      have s3 := same_new nc (.lst (ys ++ zs))
      refine ⟨c, _, _, rfl, (s1.trans s2).trans s3, upd_same, ?_⟩
      rw [List.range_succ, List.flatMap_append]
      refine (py.same (s2.trans s3)).append ?_
      have ek : ((n : Int) - ((u : Int) + 1)).toNat = n - (u + 1) := by omega
      rw [ek] at pz
      show PairsAt K _ zs ([u].flatMap fun u => (rowP n u).filter fun p => decide (p ∉ es))
      rw [List.flatMap_cons, List.flatMap_nil, List.append_nil]
      exact (pz.same (hide_sub D H2)).same s3
  · rintro σ H1 ⟨b, ys, s4, rfl, s1, hb, py⟩
    rw [show ((n : Nat) : Int).toNat = n by omega, ← leftP_eq] at py
    refine ⟨_, rfl, _, rfl, b, _, rfl, .inl ⟨SqL.of hb, fun l nl => ⟨(by show 2 ≤ sizeLine; decide), fun r nr => ?_⟩⟩⟩
    have s2 := same_new nl (.tup ys)
    have s3 := same_new nr (.tup [.int (n : Int), .ref l])
    exact q (.ref r) _ ((s1.trans s2).trans s3) ⟨r, l, ys, rfl, SqT.of upd_same, SqT.of (s3 _ _ upd_same), (py.same s2).same s3⟩
end
end My

set_option maxHeartbeats 4000000
namespace My
open PySem PySem.Spec PyProof.Rows L2
/-- every tuple stays -/
def TS (H H' : Hp) : Prop := ∀ q xs, Rd H q (.tup xs) → Rd H' q (.tup xs)
theorem TS.refl (H : Hp) : TS H H := fun _ _ h => h
theorem TS.trans {H1 H2 H3 : Hp} (a : TS H1 H2) (b : TS H2 H3) : TS H1 H3 := fun q xs h => b q xs (a q xs h)
theorem TS.of {H H' : Hp} (s : Same H H') : TS H H' := fun q xs h => by
  rcases h with h | ⟨o, h⟩
  · exact .inl (s _ _ h)
  · exact .inr ⟨o, s _ _ h⟩
theorem TS.put {H : Hp} {D : Addr} {zs : List V} {o : HO} (h : H D = some (.lst zs)) : TS H (upd H D o) := fun q xs r => by
  have ne : q ≠ D := fun z => by
    rw [z] at r
    rcases r with r | ⟨_, r⟩ <;> (rw [h] at r; cases r)
  unfold Rd
  rw [upd_ne ne]
  exact r
theorem TS.but {p : Addr} {H H' : Hp} (b : But p H H') (w : Wl H p) : TS H H' := fun q xs r => by
  obtain ⟨x, y, z, hp⟩ := w
  have ne : q ≠ p := fun e => by
    rw [e] at r
    rcases r with r | ⟨_, r⟩ <;> (rw [hp] at r; cases r)
  rcases r with r | ⟨o, r⟩
  · exact .inl (b _ _ ne r)
  · exact .inr ⟨o, b _ _ ne r⟩
theorem TS.tup {K : PySem.W.Frag} {H H' : Hp} (s : TS H H') {t : Addr} {xs : List V} (h : SqT K H t xs) : SqT K H' t xs := by
  rcases h with h | h
  · exact .inl (s _ _ h)
  · exact .inr h
theorem PairsAt.ts {K : PySem.W.Frag} {H H' : Hp} (e : TS H H') : ∀ {xs : List V} {ps : List E2}, PairsAt K H xs ps → PairsAt K H' xs ps
  | _, _, .nil => .nil
  | _, _, .cons ⟨t, h1, h2⟩ b => .cons ⟨t, h1, e.tup h2⟩ (PairsAt.ts e b)
theorem GraphAt.ts {K : PySem.W.Frag} {H H' : Hp} (s : TS H H') {x : V} {n : Nat} {es : List E2} (h : GraphAt K H x n es) : GraphAt K H' x n es := by
  obtain ⟨t, e, xs, rfl, h1, h2, h3⟩ := h
  exact ⟨t, e, xs, rfl, s.tup h1, s.tup h2, h3.ts s⟩
theorem Wl.same {H H' : Hp} {p : Addr} (s : Same H H') (w : Wl H p) : Wl H' p := by
  obtain ⟨a, b, c, h⟩ := w
  exact ⟨a, b, c, s _ _ h⟩
theorem Wl.put {H : Hp} {p D : Addr} {o : HO} (w : Wl H p) (ne : D ≠ p) : Wl (upd H D o) p := by
  obtain ⟨a, b, c, h⟩ := w
  exact ⟨a, b, c, by rw [upd_ne (Ne.symm ne)]; exact h⟩
theorem Wl.ne {H : Hp} {p D : Addr} (w : Wl H p) (n : H D = none) : D ≠ p := by
  obtain ⟨a, b, c, h⟩ := w
  rintro rfl
  rw [h] at n
  cases n
theorem Wl.off {K : PySem.W.Frag} {H : Hp} {p t : Addr} {xs : List V} (w : Wl H p) (h : SqT K H t xs) : SqT K (hide p H) t xs := by
  obtain ⟨a, b, c, hp⟩ := w
  rcases h with h | h
  · left
    have ne : t ≠ p := fun e => by
      rw [e] at h
      rcases h with r | ⟨_, r⟩ <;> (rw [hp] at r; cases r)
    unfold Rd
    rw [hide_ne ne]
    exact h
  · exact .inr h
/-- one more pair in a list -/
theorem push_pair {K : PySem.W.Frag} {H : Hp} {D r : Addr} {zs : List V} {ps : List E2} (p : E2) (hD : H D = some (.lst zs)) (nr : H r = none) (h : PairsAt K H zs ps) :
    TS H (upd (upd H r (.tup [.int (p.1 : Int), .int (p.2 : Int)])) D (.lst (zs ++ [.ref r]))) ∧ PairsAt K (upd (upd H r (.tup [.int (p.1 : Int), .int (p.2 : Int)])) D (.lst (zs ++ [.ref r]))) (zs ++ [.ref r]) (ps ++ [p]) := by
  have s1 := same_new nr (.tup [.int (p.1 : Int), .int (p.2 : Int)])
  have s2 : TS (upd H r (.tup [.int (p.1 : Int), .int (p.2 : Int)])) (upd (upd H r (.tup [.int (p.1 : Int), .int (p.2 : Int)])) D (.lst (zs ++ [.ref r]))) := TS.put (s1 _ _ hD)
  exact ⟨(TS.of s1).trans s2, (h.ts ((TS.of s1).trans s2)).append (.cons ⟨r, rfl, s2.tup (SqT.of upd_same)⟩ .nil)⟩
abbrev sRound : Stmt := top (32 + 6)
abbrev sCalled : Stmt := top (32 + 7)
abbrev sOrder : Stmt := top (32 + 8)
theorem scRound : FnScope ["many", "k"] ["many"] (defScope sRound) := ⟨rfl, rfl, rfl, by decide +kernel, rfl, by decide +kernel, by decide +kernel⟩
theorem scCalled : FnScope ["graph", "names", "u", "v"] ["graph", "names"] (defScope sCalled) := ⟨rfl, rfl, rfl, by decide +kernel, rfl, by decide +kernel, by decide +kernel⟩
theorem scOrder : FnScope ["well", "many", "left", "found", "turn"] ["well", "many"] (defScope sOrder) := ⟨rfl, rfl, rfl, by decide +kernel, rfl, by decide +kernel, by decide +kernel⟩
def spRound (K : PySem.W.Frag) : Sp := fun vs H Q _ => ∃ m : Nat, vs = [.int (m : Int)] ∧ 2 ≤ m ∧ m ≤ 9 ∧ ∀ (x : V) (es : List E2) (H' : Hp), Same H H' → GraphAt K H' x m es → Good m es → Q x H'
def nums (ns : List Nat) : List V := ns.map fun (k : Nat) => V.int ((k : Nat) : Int)
structure Perm (n : Nat) (ns : List Nat) : Prop where
  len : ns.length = n
  nd : ns.Nodup
  lt : ∀ k ∈ ns, k < n
def spCalled (K : PySem.W.Frag) : Sp := fun vs H Q _ => ∃ (x : V) (t : Addr) (n : Nat) (es : List E2) (ns : List Nat), vs = [x, .ref t] ∧ GraphAt K H x n es ∧ Good n es ∧ SqT K H t (nums ns) ∧ Perm n ns ∧ ∀ (y : V) (es' : List E2) (H' : Hp), Same H H' → GraphAt K H' y n es' → Good n es' → Q y H'
def spOrder (K : PySem.W.Frag) : Sp := fun vs H Q _ => ∃ (p : Addr) (n : Nat), vs = [.ref p, .int (n : Int)] ∧ Wl H p ∧ n ≤ 9 ∧ ∀ (t : Addr) (ns : List Nat) (H' : Hp), But p H H' → Wl H' p → SqT K H' t (nums ns) → Perm n ns → Q (.ref t) H'
section
variable {P : Program} {w : World} {K : PySem.W.Frag} {mg : Str → Option Value} {base : Heap} {f fD fP : Addr} {fd dD dP : FuncData}
theorem ok_round (F : L2.Fun K "_law_round" "_law_round" sRound f fd) (GP : FnOk P w K mg base CX0 1 fP dP ["n", "pairs"] (spOfPairs K)) (bP : L2.Binds K dP ["n", "pairs"] []) (kP : PySem.W.keepIn K (.ref fP) = true) (mP : mg "_law_of_pairs" = some (.ref fP)) (mr : mg "range" = none) (mi : mg "int" = none) :
    FnOk P w K mg base CX0 2 f fd ["many"] (spRound K) := by
  refine F.ok scRound (fun vs H Q E h => ?_) (fun cdv A outer s H vs Q E hr h => ?_)
  · obtain ⟨m, rfl, _⟩ := h
    rfl
  obtain ⟨m, rfl, m2, m9, q⟩ := h
  refine ⟨_, pss_one (ps_ret (pe_call GP hr (by rfl) mP kP bP .nil pass0 (pa_cons (pv 0) (pa_cons (pe_lc (own := [("k", 1)]) (g := gName 1) (tt := tYes) rfl scRound.nd (pi_range1 rfl mr (pa_cons (pv 0) pa_nil))
    (blkOk_by (N := ["many", "k"]) (sc := defScope sRound) (by decide +kernel)) (fun _ _ _ _ _ => pg_name (i := 1) scRound.nd rfl (Or.inl rfl)) (fun _ _ _ _ _ => pts_nil)
    (fun _ _ _ _ _ => pe_tup (pa_cons (pv 1) (pa_cons (pe_op op_mod (pe_callTy call_int1 (by rfl) mi (by decide +kernel) (pa_cons (pe_op op_add (pv 1) pe_int) pa_nil)) (pv 0)) pa_nil)))) pa_nil)))), ?_⟩
  refine ⟨_, rfl, _, rfl, (m : Int), rfl, by omega, by omega, fun D nD => lc_range (lo := 0) (n := ((m : Nat) : Int).toNat)
      (fun k H2 => Same H H2 ∧ ∃ zs, H2 D = some (.lst zs) ∧ zs.length = k ∧ PairsAt K H2 zs ((List.range k).map fun j => (j, (j + 1) % m))) ⟨same_new nD _, [], upd_same, rfl, .nil⟩ ?_ ?_⟩
  · rintro k H2 lk ⟨s2, zs, hD, lz, pz⟩
    rw [Int.zero_add]
    have km : k < m := by omega
    refine ⟨rfl, ?_⟩
    refine ⟨_, rfl, _, rfl, _, _, rfl, rfl, .inl ⟨_, rfl, _, rfl, _, _, rfl, rfl, (show (0 : Int) < (m : Int) by omega), (by show 2 ≤ sizeLine; decide), fun r nr => ?_⟩⟩
    have e : ((k : Int) + 1) % (m : Int) = (((k + 1) % m : Nat) : Int) := by
      rw [Int.natCast_emod]
      rfl
    dsimp only
    rw [e]
    obtain ⟨t1, p1⟩ := push_pair (k, (k + 1) % m) hD nr pz
    refine ⟨zs, (same_new nr _) _ _ hD, small1000 (by omega), same_put (s2.trans (same_new nr _)) nD, _, upd_same, by rw [List.length_append]; show zs.length + 1 = k + 1; omega, ?_⟩
    rw [List.range_succ, List.map_append]
    exact p1
  · rintro H2 ⟨s2, zs, hD, lz, pz⟩
    rw [show ((m : Nat) : Int).toNat = m by omega] at lz pz
    refine ⟨m, D, zs, _, rfl, m9, SqL.of hD, pz, by omega, fun p hp => ?_, fun x es H' s g good _ => q x es H' (s2.trans s) g good⟩
    obtain ⟨j, hj, rfl⟩ := List.mem_map.mp hp
    have hj := List.mem_range.mp hj
    show j ≠ (j + 1) % m ∧ j < m ∧ (j + 1) % m < m
    refine ⟨?_, hj, Nat.mod_lt _ (by omega)⟩
    by_cases e : j + 1 = m
    · rw [e, Nat.mod_self]
      omega
    · rw [Nat.mod_eq_of_lt (by omega)]
      omega
theorem perm_at {n : Nat} {ns : List Nat} (h : Perm n ns) {i : Nat} (hi : i < n) : ∃ k, ns[i]? = some k ∧ k < n := by
  have l : i < ns.length := by rw [h.len]; exact hi
  exact ⟨ns[i], List.getElem?_eq_getElem l, h.lt _ (List.getElem_mem l)⟩
theorem perm_ne {n : Nat} {ns : List Nat} (h : Perm n ns) {i j a b : Nat} (hi : ns[i]? = some a) (hj : ns[j]? = some b) (ne : i ≠ j) : a ≠ b := by
  obtain ⟨l1, e1⟩ := List.getElem?_eq_some_iff.mp hi
  obtain ⟨l2, e2⟩ := List.getElem?_eq_some_iff.mp hj
  rcases Nat.lt_or_gt_of_ne ne with l | l
  · have z := List.pairwise_iff_getElem.mp h.nd i j l1 l2 l
    rw [e1, e2] at z
    exact z
  · have z := List.pairwise_iff_getElem.mp h.nd j i l2 l1 l
    rw [e1, e2] at z
    exact Ne.symm z
theorem ok_called (F : L2.Fun K "_law_called" "_law_called" sCalled f fd) (GP : FnOk P w K mg base CX0 1 fP dP ["n", "pairs"] (spOfPairs K)) (bP : L2.Binds K dP ["n", "pairs"] []) (kP : PySem.W.keepIn K (.ref fP) = true) (mP : mg "_law_of_pairs" = some (.ref fP)) :
    FnOk P w K mg base CX0 2 f fd ["graph", "names"] (spCalled K) := by
  refine F.ok scCalled (fun vs H Q E h => ?_) (fun cdv A outer s H vs Q E hr h => ?_)
  · obtain ⟨x, t, n, es, ns, rfl, _⟩ := h
    rfl
  obtain ⟨x, t, n, es, ns, rfl, ⟨g, e, xs, rfl, hg, he, hes⟩, good, ht, hn, q⟩ := h
  refine ⟨_, pss_one (ps_ret (pe_call GP hr (by rfl) mP kP bP .nil pass0 (pa_cons (pe_ix ix_tup (pv 0) pe_int (fun _ _ => rfl)) (pa_cons (pe_lc (own := [("u", 2), ("v", 3)]) (g := gTup K 2 (gCons (gName 2) (gCons (gName 3) gNil))) (tt := tYes) rfl scCalled.nd (pi_tup (pe_ix ix_tup (pv 0) pe_int (fun _ _ => rfl)))
    (blkOk_by (N := ["graph", "names", "u", "v"]) (sc := defScope sCalled) (by decide +kernel)) (fun _ _ _ _ _ => pg_tup (by rfl) (pgs_cons (pg_name (i := 2) scCalled.nd rfl (Or.inl rfl)) (pgs_cons (pg_name (i := 3) scCalled.nd rfl (Or.inl rfl)) pgs_nil))) (fun _ _ _ _ _ => pts_nil)
    (fun _ _ _ _ _ => pe_tup (pa_cons (pe_ix (r := rIxT K) ix_tup (pv 1) (pv 2) (fun _ _ => rfl)) (pa_cons (pe_ix (r := rIxT K) ix_tup (pv 1) (pv 3) (fun _ _ => rfl)) pa_nil)))) pa_nil)))), ?_⟩
  refine ⟨_, rfl, g, _, _, _, rfl, rfl, hg, rfl, ?_⟩
  refine ⟨_, rfl, g, _, _, _, rfl, rfl, hg, rfl, e, rfl, ⟨_, he⟩, fun D nD => lc_tup (K := K) (a := e) (xs := xs)
      (fun i H2 => Same H H2 ∧ ∃ zs ps, H2 D = some (.lst zs) ∧ zs.length = i ∧ PairsAt K H2 zs ps ∧ ∀ p ∈ ps, p.1 ≠ p.2 ∧ p.1 < n ∧ p.2 < n) ⟨same_new nD _, [], [], upd_same, rfl, .nil, fun _ z => nomatch z⟩ ?_ ?_ ?_⟩
  · rintro i H1 _ ⟨s1, _⟩
    exact Same.tup s1 he
  · rintro i x H2 hi ⟨s2, zs, ps, hD, lz, pz, pp⟩
    obtain ⟨p, hp, t1, rfl, ht1⟩ := PairsAt.get (hes.same s2) hi
    obtain ⟨l1, l2⟩ := good.lt p (List.mem_of_getElem? hp)
    obtain ⟨a, ha, an⟩ := perm_at hn (show p.1 < n by omega)
    obtain ⟨b, hb, bn⟩ := perm_at hn l2
    have ab : a ≠ b := perm_ne hn ha hb (by omega)
    refine ⟨t1, _, rfl, ht1, rfl, _, _, rfl, _, _, rfl, rfl, ?_⟩
    refine ⟨rfl, ?_⟩
    have ht2 := Same.tup s2 ht
    refine ⟨_, rfl, _, rfl, t, _, _, .int (a : Int), rfl, rfl, ht2, atI_nat (by unfold nums; rw [List.getElem?_map, ha]; rfl), _, rfl, _, rfl, t, _, _, .int (b : Int), rfl, rfl, ht2, atI_nat (by unfold nums; rw [List.getElem?_map, hb]; rfl), (by show 2 ≤ sizeLine; decide), fun r nr => ?_⟩
    obtain ⟨t1, p1⟩ := push_pair (a, b) hD nr pz
    have li : i < xs.length := (List.getElem?_eq_some_iff.mp hi).1
    have l3 : xs.length ≤ 36 := by rw [PairsAt.len hes]; exact good.few
    refine ⟨zs, (same_new nr _) _ _ hD, small1000 (by omega), same_put (s2.trans (same_new nr _)) nD, _, _, upd_same, by rw [List.length_append]; show zs.length + 1 = i + 1; omega, p1, fun r hr => ?_⟩
    rcases List.mem_append.mp hr with hr | hr
    · exact pp r hr
    · rw [List.mem_singleton.mp hr]
      exact ⟨ab, an, bn⟩
  · rintro H2 ⟨s2, zs, ps, hD, lz, pz, pp⟩
    have l3 : xs.length ≤ 36 := by rw [PairsAt.len hes]; exact good.few
    exact ⟨n, D, zs, ps, rfl, good.n9, SqL.of hD, pz, by omega, pp, fun x es H' s g good _ => q x es H' (s2.trans s) g good⟩
theorem but_put {p l : Addr} {H H1 : Hp} {o : HO} (b : But p H H1) (n : H l = none) : But p H (upd H1 l o) := fun q u ne e => by
  rw [upd_ne (ne_of_none e n)]
  exact b q u ne e
theorem nums_len (ns : List Nat) : (nums ns).length = ns.length := List.length_map _
theorem nums_get {ns : List Nat} {k : Nat} (h : k < ns.length) : (nums ns)[k]? = some (.int ((ns[k] : Nat) : Int)) := by
  unfold nums
  rw [List.getElem?_map, List.getElem?_eq_getElem h]
  rfl
theorem nums_erase : ∀ (ns : List Nat) (k : Nat), (nums ns).eraseIdx k = nums (ns.eraseIdx k)
  | [], _ => rfl
  | _ :: _, 0 => rfl
  | a :: ns, k + 1 => congrArg (V.int ((a : Nat) : Int) :: ·) (nums_erase ns k)
theorem rgV_nums (n : Nat) : rgV 0 (n : Int) = nums (List.range n) := by
  unfold rgV nums
  rw [show ((n : Int) - 0).toNat = n by omega]
  refine List.map_congr_left fun i _ => ?_
  rw [Int.zero_add]
theorem moved {fs ls : List Nat} {k : Nat} (h : k < ls.length) : (fs ++ [ls[k]] ++ ls.eraseIdx k).Perm (fs ++ ls) := by
  rw [List.append_assoc]
  refine List.Perm.append_left fs ?_
  have e : ls = ls.take k ++ ls[k] :: ls.drop (k + 1) := by
    rw [List.getElem_cons_drop, List.take_append_drop]
  have e2 : ls.eraseIdx k = ls.take k ++ ls.drop (k + 1) := List.eraseIdx_eq_take_drop_succ ..
  rw [e2]
  refine (List.perm_middle (a := ls[k]) (l₁ := ls.take k) (l₂ := ls.drop (k + 1))).symm.trans ?_
  rw [← e]
theorem ok_order (F : L2.Fun K "_law_order" "_law_order" sOrder f fd) (GD : FnOk P w K mg base CX0 1 fD dD ["well", "many"] spDraw) (bD : L2.Binds K dD ["well", "many"] []) (kD : PySem.W.keepIn K (.ref fD) = true) (mD : mg "_law_draw" = some (.ref fD)) (ml : mg "len" = none) (mr : mg "range" = none) (mli : mg "list" = none) (mt : mg "tuple" = none) :
    FnOk P w K mg base CX0 2 f fd ["well", "many"] (spOrder K) := by
  refine F.ok scOrder (fun vs H Q E h => ?_) (fun cdv A outer s H vs Q E hr h => ?_)
  · obtain ⟨p, n, rfl, _⟩ := h
    rfl
  obtain ⟨p, n, rfl, hW, n9, q⟩ := h
  refine ⟨_, pss_cons (ps_par (by rfl) scOrder.nd (i := 2) (j := 3) rfl rfl (by decide) rfl rfl (pa_cons (pe_listRg rfl rfl mli (prg_1 rfl mr (pv 1))) (pa_cons (pe_lst pa_nil) pa_nil)) (by rfl))
    (pss_cons (ps_for PassesOwn.never rfl (pi_range1 rfl mr (pa_cons (pv 1) pa_nil)) (pg_name (i := 4) scOrder.nd rfl (.inl rfl))
      (pss_one (ps_expr (pe_bm PySem.F.plainAttrs_list PySem.F.slot_list_append PySem.F.type_list_append mt_append (pv 3) (pa_cons
        (pe_bm PySem.F.plainAttrs_list PySem.F.slot_list_pop PySem.F.type_list_pop mt_popAt (pv 2) (pa_cons (pe_call GD hr (by rfl) mD kD bD .nil pass0 (pa_cons (pv 0) (pa_cons (pe_callB call_len_seq (by rfl) ml PySem.boot_len (pa_cons (pv 2) pa_nil)) pa_nil))) pa_nil)) pa_nil)))))
    (pss_one (ps_ret (pe_callTy call_tuple_of (by rfl) mt (by decide +kernel) (pa_cons (pv 3) pa_nil))))), ?_⟩
  refine ⟨_, rfl, _, rfl, RgOk.of_le (by omega) (by omega) (by omega) (by omega), fun l nl => ?_⟩
  rw [rgV_nums]
  refine ⟨(by show 0 ≤ sizeLine; decide), fun b nb => ?_⟩
  have s1 := (same_new nl (.lst (nums (List.range n)))).trans (same_new nb (.lst []))
  have lp : l ≠ p := hW.ne nl
  have nb0 : H b = none := (same_new nl _).free nb
  have bp : b ≠ p := hW.ne nb0
  have bl : b ≠ l := fun e => by
    rw [e, upd_same] at nb
    cases nb
  refine ⟨_, _, rfl, ?_⟩
  refine ⟨_, rfl, (n : Int), rfl, by omega, by omega, for_range (lo := 0) (n := ((n : Nat) : Int).toNat) (fun i σ H' => ∃ (ls fs : List Nat) (s4 : Option V), σ = [some (.ref p), some (.int (n : Int)), some (.ref l), some (.ref b), s4] ∧ But p H H' ∧ Wl H' p ∧ H' l = some (.lst (nums ls)) ∧ H' b = some (.lst (nums fs)) ∧
      fs.length = i ∧ List.Perm (fs ++ ls) (List.range n)) ⟨List.range n, [], none, rfl, But.of s1, hW.same s1, (same_new nb _) _ _ upd_same, upd_same, rfl, .refl _⟩ ?_ ?_⟩
  · rintro i σ H1 li ⟨ls, fs, s4, rfl, b1, w1, hl, hb, lf, pm⟩
    have ll : fs.length + ls.length = n := by
      have := pm.length_eq
      rw [List.length_append, List.length_range] at this
      exact this
    refine ⟨_, rfl, .inl ⟨rfl, _, SqL.of hb⟩, ?_⟩
    refine ⟨_, rfl, .inl ⟨rfl, _, SqL.of hl⟩, ?_⟩
    have e1 : (nums ls).length = ls.length := nums_len ls
    refine ⟨_, rfl, _, rfl, l, _, rfl, .inl (SqL.of hl), p, _, rfl, w1, by omega, by omega, fun r H2 r0 r1 b2 w2 => ?_⟩
    obtain ⟨k, rfl⟩ : ∃ k : Nat, r = (k : Int) := ⟨r.toNat, by omega⟩
    have hk : k < ls.length := by omega
    have hl2 := b2 _ _ lp hl
    have hb2 := b2 _ _ bp hb
    refine ⟨l, nums ls, _, k, _, rfl, rfl, hl2, by omega, by omega, ?_, nums_get hk, ?_⟩
    · rw [show seqIndex? (k : Int) (nums ls).length = some ((k : Int)).toNat by unfold seqIndex?; rw [if_neg (show ¬ (k : Int) < 0 by omega)]; rw [if_pos (by simp; omega)]]
      rfl
    rw [nums_erase]
    refine ⟨b, nums fs, _, rfl, rfl, by rw [upd_ne bl]; exact hb2, small1000 (by rw [nums_len]; omega), ?_⟩
    have e2 : nums fs ++ [V.int ((ls[k] : Nat) : Int)] = nums (fs ++ [ls[k]]) := by
      unfold nums
      rw [List.map_append]
      rfl
    rw [e2]
    refine ⟨ls.eraseIdx k, fs ++ [ls[k]], _, rfl, but_put (but_put (b1.trans b2) nl) nb0, (w2.put lp).put bp, by rw [upd_ne (Ne.symm bl)]; exact upd_same, upd_same, by rw [List.length_append]; show fs.length + 1 = i + 1; omega, (moved hk).trans pm⟩
  · rintro σ H1 ⟨ls, fs, s4, rfl, b1, w1, hl, hb, lf, pm⟩
    rw [show ((n : Nat) : Int).toNat = n by omega] at lf
    have ll : fs.length + ls.length = n := by
      have := pm.length_eq
      rw [List.length_append, List.length_range] at this
      exact this
    have l0 : ls = [] := List.eq_nil_of_length_eq_zero (by omega)
    rw [l0, List.append_nil] at pm
    refine ⟨_, rfl, b, _, rfl, .inl ⟨SqL.of hb, fun t nt => ?_⟩⟩
    exact q t fs _ (b1.trans (But.new nt)) (w1.same (same_new nt _)) (SqT.of upd_same) ⟨lf, pm.nodup_iff.mpr List.nodup_range, fun k hk => List.mem_range.mp (pm.mem_iff.mp hk)⟩
end
end My

set_option maxHeartbeats 4000000
namespace My
open PySem PySem.Spec PyProof.Rows L2
abbrev sRandom : Stmt := top (32 + 9)
abbrev sSides : Stmt := top (32 + 10)
abbrev sBeside : Stmt := top (32 + 11)
abbrev sFolded : Stmt := top (32 + 12)
theorem scRandom : FnScope ["well", "n", "rare", "is_dense", "found", "u", "v"] ["well", "n"] (defScope sRandom) := ⟨rfl, rfl, rfl, by decide +kernel, rfl, by decide +kernel, by decide +kernel⟩
theorem scSides : FnScope ["well", "n", "found", "half", "u", "v"] ["well", "n"] (defScope sSides) := ⟨rfl, rfl, rfl, by decide +kernel, rfl, by decide +kernel, by decide +kernel⟩
theorem scBeside : FnScope ["one", "two", "is_joined", "u", "n", "far", "v"] ["one", "two", "is_joined"] (defScope sBeside) := ⟨rfl, rfl, rfl, by decide +kernel, rfl, by decide +kernel, by decide +kernel⟩
theorem scFolded : FnScope ["well", "n", "found", "turn"] ["well", "n"] (defScope sFolded) := ⟨rfl, rfl, rfl, by decide +kernel, rfl, by decide +kernel, by decide +kernel⟩
/-- what a drawn graph of n vertices is -/
def spGr (K : PySem.W.Frag) (n : Nat) (p : Addr) (H : Hp) (Q : VK) : Prop := ∀ (x : V) (es : List E2) (H' : Hp), But p H H' → Wl H' p → GraphAt K H' x n es → Good n es → Q x H'
def spRandom (K : PySem.W.Frag) : Sp := fun vs H Q _ => ∃ (p : Addr) (n : Nat), vs = [.ref p, .int (n : Int)] ∧ Wl H p ∧ n ≤ 9 ∧ spGr K n p H Q
def spBeside (K : PySem.W.Frag) : Sp := fun vs H Q _ => ∃ (x y : V) (n m : Nat) (es fs : List E2) (j : Bool), vs = [x, y, .bl j] ∧ GraphAt K H x n es ∧ Good n es ∧ GraphAt K H y m fs ∧ Good m fs ∧ n + m ≤ 9 ∧ fs.length + n * m ≤ 27 ∧
  ∀ (z : V) (gs : List E2) (H' : Hp), Same H H' → GraphAt K H' z (n + m) gs → Good (n + m) gs → Q z H'
def spFolded (K : PySem.W.Frag) : Sp := fun vs H Q _ => ∃ (p : Addr) (n : Nat), vs = [.ref p, .int (n : Int)] ∧ Wl H p ∧ 1 ≤ n ∧ n ≤ 9 ∧ spGr K n p H Q
theorem upto_pairs {n : Nat} {ps : List E2} {u k : Nat} (hu : u < n) (hk : k ≤ n - (u + 1)) (h : ps.Sublist ((List.range u).flatMap (rowP n) ++ (List.range k).map fun j => (u, u + 1 + j))) : ps.Sublist (allP n) := by
  refine h.trans ?_
  have e1 : allP n = (List.range u).flatMap (rowP n) ++ ((List.range (n - u)).map (u + ·)).flatMap (rowP n) := by
    unfold allP
    rw [← List.flatMap_append]
    congr 1
    have := List.range_add (n := u) (m := n - u)
    rw [show u + (n - u) = n by omega] at this
    exact this
  rw [e1]
  refine List.Sublist.append_left ?_ _
  rw [show n - u = (n - (u + 1)) + 1 by omega, List.range_succ_eq_map, List.map_cons, List.flatMap_cons]
  refine List.Sublist.trans ?_ (List.sublist_append_left ..)
  show ((List.range k).map fun j => (u, u + 1 + j)).Sublist ((List.range (n - (u + 0 + 1))).map fun j => (u + 0, u + 0 + 1 + j))
  rw [Nat.add_zero]
  exact (List.range_sublist.mpr hk).map _
theorem sub_all {n : Nat} {ps : List E2} (n9 : n ≤ 9) (h : ps.Sublist (allP n)) : ps.length ≤ 36 ∧ ∀ q ∈ ps, q.1 ≠ q.2 ∧ q.1 < n ∧ q.2 < n := by
  refine ⟨Nat.le_trans h.length_le (allP_few n n9), fun q hq => ?_⟩
  have z := mem_allP.mp (h.subset hq)
  omega
section
variable {P : Program} {w : World} {K : PySem.W.Frag} {mg : Str → Option Value} {base : Heap} {f fD fP fK fB fU : Addr} {fd dD dP dK dB dU : FuncData}
theorem ok_random (F : L2.Fun K "_law_random" "_law_random" sRandom f fd) (GD : FnOk P w K mg base CX0 1 fD dD ["well", "many"] spDraw) (bD : L2.Binds K dD ["well", "many"] []) (kD : PySem.W.keepIn K (.ref fD) = true) (mD : mg "_law_draw" = some (.ref fD))
    (GP : FnOk P w K mg base CX0 1 fP dP ["n", "pairs"] (spOfPairs K)) (bP : L2.Binds K dP ["n", "pairs"] []) (kP : PySem.W.keepIn K (.ref fP) = true) (mP : mg "_law_of_pairs" = some (.ref fP))
    (GK : FnOk P w K mg base CX0 2 fK dK ["well", "some"] (spPick K)) (bK : L2.Binds K dK ["well", "some"] []) (kK : PySem.W.keepIn K (.ref fK) = true) (mK : mg "_law_pick" = some (.ref fK)) (mr : mg "range" = none) :
    FnOk P w K mg base CX0 3 f fd ["well", "n"] (spRandom K) := by
  refine F.ok scRandom (fun vs H Q E h => ?_) (fun cdv A outer s H vs Q E hr h => ?_)
  · obtain ⟨p, n, rfl, _⟩ := h
    rfl
  obtain ⟨p, n, rfl, hW, n9, q⟩ := h
  refine ⟨_, pss_cons (ps_par3 (by rfl) scRandom.nd (i := 2) (j := 3) (l := 4) rfl rfl rfl (by decide) (by decide) (by decide) rfl rfl rfl (pa_cons (pe_call GK hr (by rfl) mK kK bK .nil pass0 (pa_cons (pv 0) (pa_cons (pe_tup (pa_cons pe_int (pa_cons pe_int (pa_cons pe_int (pa_cons pe_int pa_nil))))) pa_nil)))
        (pa_cons (pe_cmpR op_eq (pe_call GD (hr.mono (by decide)) (by rfl) mD kD bD .nil pass0 (pa_cons (pv 0) (pa_cons pe_int pa_nil))) pe_int (nomark _)) (pa_cons (pe_lst pa_nil) pa_nil))) (by rfl))
    (pss_cons (ps_for PassesOwn.never rfl (pi_range1 rfl mr (pa_cons (pv 1) pa_nil)) (pg_name (i := 5) scRandom.nd rfl (.inl rfl))
      (pss_one (ps_for PassesOwn.never rfl (pi_range2 (by rfl) mr (pa_cons (pe_op op_add (pv 5) pe_int) (pa_cons (pv 1) pa_nil))) (pg_name (i := 6) scRandom.nd rfl (.inl rfl))
        (pss_one (ps_if (pt_cmpR op_ne (pe_cmpR op_eq (pe_call GD (hr.mono (by decide)) (by rfl) mD kD bD .nil pass0 (pa_cons (pv 0) (pa_cons (pv 2) pa_nil))) pe_int (nomark _)) (pv 3) (nomark _))
          (pss_one (ps_expr (pe_bm PySem.F.plainAttrs_list PySem.F.slot_list_append PySem.F.type_list_append mt_append (pv 4) (pa_cons (pe_tup (pa_cons (pv 5) (pa_cons (pv 6) pa_nil))) pa_nil)))) pss_nil)))))
    (pss_one (ps_ret (pe_call GP (hr.mono (by decide)) (by rfl) mP kP bP .nil pass0 (pa_cons (pv 1) (pa_cons (pv 4) pa_nil)))))), ?_⟩
  refine ⟨_, rfl, (by show 4 ≤ sizeLine; decide), fun t nt => ?_⟩
  have s1 := same_new nt (.tup [.int 2, .int 2, .int 3, .int 4])
  have w1 := hW.same s1
  refine ⟨p, t, _, rfl, w1, w1.off (SqT.of upd_same), by decide, by decide, fun i v H2 hi b2 w2 => ?_⟩
  obtain ⟨rare, rfl, r1, r2⟩ : ∃ rare : Int, v = .int rare ∧ 0 < rare ∧ rare < 5 := by
    have m := List.mem_of_getElem? hi
    simp only [List.mem_cons, List.mem_nil_iff, or_false] at m
    rcases m with rfl | rfl | rfl | rfl <;> exact ⟨_, rfl, by decide, by decide⟩
  refine ⟨_, rfl, p, _, rfl, w2, by decide, by decide, fun d H3 _ _ b3 w3 => ?_⟩
  refine ⟨rfl, (by show 0 ≤ sizeLine; decide), fun D nD => ?_⟩
  have b4 : But p H _ := ((But.of s1).trans b2).trans (b3.trans (But.new (o := .lst []) nD))
  have w4 := w3.same (same_new nD (.lst []))
  have Dp : D ≠ p := w3.ne nD
  have nD0 : H D = none := by
    have z : (upd H t (.tup [.int 2, .int 2, .int 3, .int 4])) D = none := by
      cases e : (upd H t (.tup [.int 2, .int 2, .int 3, .int 4])) D with
      | none => rfl
      | some o => rw [b3 _ _ Dp (b2 _ _ Dp e)] at nD; cases nD
    exact s1.free z
  generalize hd : (decide (V.int d = V.int 0)) = dense
  refine ⟨_, _, _, rfl, ?_⟩
  refine ⟨_, rfl, (n : Int), rfl, by omega, by omega, for_range (lo := 0) (n := ((n : Nat) : Int).toNat) (fun u σ H' => ∃ (zs : List V) (ps : List E2) (s5 s6 : Option V), σ = [some (.ref p), some (.int (n : Int)), some (.int rare), some (.bl dense), some (.ref D), s5, s6] ∧ But p H H' ∧ Wl H' p ∧ H' D = some (.lst zs) ∧
      PairsAt K H' zs ps ∧ ps.Sublist ((List.range u).flatMap (rowP n))) ⟨[], [], none, none, rfl, b4, w4, upd_same, .nil, .slnil⟩ ?_ ?_⟩
  · rintro u σ H1 lu ⟨zs, ps, s5, s6, rfl, b1, w1, hD, hP, hS⟩
    rw [Int.zero_add]
    have un : u < n := by omega
    refine ⟨_, rfl, _, _, rfl, rfl, _, rfl, _, _, rfl, ⟨by omega, by omega, by omega, by omega⟩, for_range (lo := (u : Int) + 1) (n := ((n : Int) - ((u : Int) + 1)).toNat)
      (fun k σ H' => ∃ (zs : List V) (ps : List E2) (s6 : Option V), σ = [some (.ref p), some (.int (n : Int)), some (.int rare), some (.bl dense), some (.ref D), some (.int (u : Int)), s6] ∧ But p H H' ∧ Wl H' p ∧ H' D = some (.lst zs) ∧
      PairsAt K H' zs ps ∧ ps.Sublist ((List.range u).flatMap (rowP n) ++ (List.range k).map fun j => (u, u + 1 + j))) ⟨zs, ps, s6, rfl, b1, w1, hD, hP, by rw [List.range_zero, List.map_nil, List.append_nil]; exact hS⟩ ?_ ?_⟩
    · rintro k σ H2 lk ⟨zs, ps, s6, rfl, b2, w2, hD, hP, hS⟩
      rw [show ((u : Int) + 1 + (k : Int)) = ((u + 1 + k : Nat) : Int) by omega]
      refine ⟨_, rfl, _, rfl, p, _, rfl, w2, r1, by omega, fun d2 H3 _ _ b3 w3 => ?_⟩
      have hP3 := hP.ts (TS.but b3 w2)
      have hD3 := b3 _ _ Dp hD
      refine ⟨rfl, _, rfl, rfl, _, rfl, iteB (fun _ => ?_) (fun _ => ?_)⟩
      · refine ⟨_, rfl, .inl ⟨rfl, _, SqL.of hD3⟩, _, rfl, _, rfl, (by show 2 ≤ sizeLine; decide), fun r nr => ?_⟩
        obtain ⟨t1, p1⟩ := push_pair (u, u + 1 + k) hD3 nr hP3
        have l1 : zs.length ≤ 36 := by rw [PairsAt.len hP]; exact (sub_all n9 (upto_pairs un (by omega) hS)).1
        refine ⟨D, zs, _, rfl, rfl, (same_new nr _) _ _ hD3, small1000 (by omega), zs ++ [.ref r], ps ++ [(u, u + 1 + k)], _, rfl, but_put ((b2.trans b3).trans (But.new nr)) nD0, (w3.same (same_new nr _)).put Dp, upd_same, p1, ?_⟩
        rw [List.range_succ, List.map_append, ← List.append_assoc]
        exact hS.append (List.Sublist.refl _)
      · refine ⟨zs, ps, _, rfl, b2.trans b3, w3, hD3, hP3, ?_⟩
        rw [List.range_succ, List.map_append, ← List.append_assoc]
        exact hS.trans (List.sublist_append_left ..)
    · rintro σ H2 ⟨zs, ps, s6, rfl, b2, w2, hD, hP, hS⟩
      refine ⟨zs, ps, _, _, rfl, b2, w2, hD, hP, ?_⟩
      rw [show ((n : Int) - ((u : Int) + 1)).toNat = n - (u + 1) by omega] at hS
      rw [List.range_succ, List.flatMap_append, List.flatMap_cons, List.flatMap_nil, List.append_nil]
      exact hS
  · rintro σ H1 ⟨zs, ps, s5, s6, rfl, b1, w1, hD, hP, hS⟩
    rw [show ((n : Nat) : Int).toNat = n by omega] at hS
    obtain ⟨l1, l2⟩ := sub_all n9 hS
    refine ⟨_, rfl, _, rfl, n, D, zs, ps, rfl, n9, SqL.of hD, hP, by rw [PairsAt.len hP]; omega, l2, fun x es H' s' g good _ => ?_⟩
    exact q x es H' (b1.trans (But.of s')) (w1.same s') g good
theorem ok_sides (F : L2.Fun K "_law_sides" "_law_sides" sSides f fd) (GD : FnOk P w K mg base CX0 1 fD dD ["well", "many"] spDraw) (bD : L2.Binds K dD ["well", "many"] []) (kD : PySem.W.keepIn K (.ref fD) = true) (mD : mg "_law_draw" = some (.ref fD))
    (GP : FnOk P w K mg base CX0 1 fP dP ["n", "pairs"] (spOfPairs K)) (bP : L2.Binds K dP ["n", "pairs"] []) (kP : PySem.W.keepIn K (.ref fP) = true) (mP : mg "_law_of_pairs" = some (.ref fP)) (mr : mg "range" = none) :
    FnOk P w K mg base CX0 2 f fd ["well", "n"] (spRandom K) := by
  refine F.ok scSides (fun vs H Q E h => ?_) (fun cdv A outer s H vs Q E hr h => ?_)
  · obtain ⟨p, n, rfl, _⟩ := h
    rfl
  obtain ⟨p, n, rfl, hW, n9, q⟩ := h
  refine ⟨_, pss_cons (ps_par (by rfl) scSides.nd (i := 2) (j := 3) rfl rfl (by decide) rfl rfl (pa_cons (pe_lst pa_nil) (pa_cons (pe_op op_fdiv (pv 1) pe_int) pa_nil)) (by rfl))
    (pss_cons (ps_for PassesOwn.never rfl (pi_range1 rfl mr (pa_cons (pv 3) pa_nil)) (pg_name (i := 4) scSides.nd rfl (.inl rfl))
      (pss_one (ps_for PassesOwn.never rfl (pi_range2 (by rfl) mr (pa_cons (pv 3) (pa_cons (pv 1) pa_nil))) (pg_name (i := 5) scSides.nd rfl (.inl rfl))
        (pss_one (ps_if (pt_cmpR op_gt (pe_call GD hr (by rfl) mD kD bD .nil pass0 (pa_cons (pv 0) (pa_cons pe_int pa_nil))) pe_int (nomark _))
          (pss_one (ps_expr (pe_bm PySem.F.plainAttrs_list PySem.F.slot_list_append PySem.F.type_list_append mt_append (pv 2) (pa_cons (pe_tup (pa_cons (pv 4) (pa_cons (pv 5) pa_nil))) pa_nil)))) pss_nil)))))
    (pss_one (ps_ret (pe_call GP hr (by rfl) mP kP bP .nil pass0 (pa_cons (pv 1) (pa_cons (pv 2) pa_nil)))))), ?_⟩
  refine ⟨(by show 0 ≤ sizeLine; decide), fun D nD => ?_⟩
  have w1 := hW.same (same_new nD (.lst []))
  have Dp : D ≠ p := hW.ne nD
  refine ⟨_, rfl, _, _, rfl, rfl, ⟨by decide, by decide⟩, _, _, rfl, ?_⟩
  obtain ⟨m, hm⟩ : ∃ m : Nat, m = n / 2 := ⟨_, rfl⟩
  refine ⟨_, rfl, (n : Int) / 2, rfl, by omega, by omega, for_range (lo := 0) (n := ((n : Int) / 2).toNat) (fun u σ H' => ∃ (zs : List V) (ps : List E2) (s5 s6 : Option V), σ = [some (.ref p), some (.int (n : Int)), some (.ref D), some (.int ((n : Int) / 2)), s5, s6] ∧ But p H H' ∧ Wl H' p ∧ H' D = some (.lst zs) ∧
      PairsAt K H' zs ps ∧ (∀ q ∈ ps, q.1 ≠ q.2 ∧ q.1 < n ∧ q.2 < n) ∧ ps.length ≤ 5 * u) ⟨[], [], none, none, rfl, But.new nD, w1, upd_same, .nil, (fun _ z => nomatch z), (by show 0 ≤ 5 * 0; omega)⟩ ?_ ?_⟩
  · rintro u σ H1 lu ⟨zs, ps, s5, s6, rfl, b1, w1, hD, hP, hS, hL⟩
    rw [Int.zero_add]
    have un : u < m := by omega
    refine ⟨_, rfl, _, rfl, _, _, rfl, ⟨by omega, by omega, by omega, by omega⟩, for_range (lo := (n : Int) / 2) (n := ((n : Int) - (n : Int) / 2).toNat)
      (fun k σ H' => ∃ (zs : List V) (ps : List E2) (s6 : Option V), σ = [some (.ref p), some (.int (n : Int)), some (.ref D), some (.int ((n : Int) / 2)), some (.int (u : Int)), s6] ∧ But p H H' ∧ Wl H' p ∧ H' D = some (.lst zs) ∧
      PairsAt K H' zs ps ∧ (∀ q ∈ ps, q.1 ≠ q.2 ∧ q.1 < n ∧ q.2 < n) ∧ ps.length ≤ 5 * u + k) ⟨zs, ps, s6, rfl, b1, w1, hD, hP, hS, hL⟩ ?_ ?_⟩
    · rintro k σ H2 lk ⟨zs, ps, s6, rfl, b2, w2, hD, hP, hS, hL⟩
      rw [show ((n : Int) / 2 + (k : Int)) = ((m + k : Nat) : Int) by omega]
      refine ⟨_, rfl, p, _, rfl, w2, by decide, by decide, fun d2 H3 _ _ b3 w3 => ?_⟩
      have hP3 := hP.ts (TS.but b3 w2)
      have hD3 := b3 _ _ Dp hD
      refine ⟨_, _, rfl, rfl, _, rfl, iteB (fun _ => ?_) (fun _ => ?_)⟩
      · refine ⟨_, rfl, .inl ⟨rfl, _, SqL.of hD3⟩, _, rfl, _, rfl, (by show 2 ≤ sizeLine; decide), fun r nr => ?_⟩
        obtain ⟨t1, p1⟩ := push_pair (u, m + k) hD3 nr hP3
        have l0 := PairsAt.len hP
        refine ⟨D, zs, _, rfl, rfl, (same_new nr _) _ _ hD3, small1000 (by omega), zs ++ [.ref r], ps ++ [(u, m + k)], _, rfl, but_put ((b2.trans b3).trans (But.new nr)) nD, (w3.same (same_new nr _)).put Dp, upd_same, p1, fun q hq => ?_, by rw [List.length_append]; show ps.length + 1 ≤ 5 * u + (k + 1); omega⟩
        rcases List.mem_append.mp hq with hq | hq
        · exact hS q hq
        · rw [List.mem_singleton.mp hq]
          show u ≠ m + k ∧ u < n ∧ m + k < n
          omega
      · exact ⟨zs, ps, _, rfl, b2.trans b3, w3, hD3, hP3, hS, by omega⟩
    · rintro σ H2 ⟨zs, ps, s6, rfl, b2, w2, hD, hP, hS, hL⟩
      exact ⟨zs, ps, _, _, rfl, b2, w2, hD, hP, hS, by omega⟩
  · rintro σ H1 ⟨zs, ps, s5, s6, rfl, b1, w1, hD, hP, hS, hL⟩
    refine ⟨_, rfl, _, rfl, n, D, zs, ps, rfl, n9, SqL.of hD, hP, by rw [PairsAt.len hP]; omega, hS, fun x es H' s' g good _ => ?_⟩
    exact q x es H' (b1.trans (But.of s')) (w1.same s') g good
theorem off_pairs {K : PySem.W.Frag} {H : Hp} : ∀ {xs : List V} {ps : List E2}, PairsAt K H xs ps → ∀ x ∈ xs, ∃ p ∈ ps, PairAt K H x p
  | _, _, .nil => fun _ z => nomatch z
  | _, _, .cons a b => fun x hx => by
    rcases List.mem_cons.mp hx with rfl | hx
    · exact ⟨_, List.mem_cons_self .., a⟩
    · obtain ⟨p, h1, h2⟩ := off_pairs b x hx
      exact ⟨p, List.mem_cons_of_mem _ h1, h2⟩
theorem ok_beside (F : L2.Fun K "_law_beside" "_law_beside" sBeside f fd) (GP : FnOk P w K mg base CX0 1 fP dP ["n", "pairs"] (spOfPairs K)) (bP : L2.Binds K dP ["n", "pairs"] []) (kP : PySem.W.keepIn K (.ref fP) = true) (mP : mg "_law_of_pairs" = some (.ref fP)) (mr : mg "range" = none) (mli : mg "list" = none) :
    FnOk P w K mg base CX0 2 f fd ["one", "two", "is_joined"] (spBeside K) := by
  refine F.ok scBeside (fun vs H Q E h => ?_) (fun cdv A outer s H vs Q E hr h => ?_)
  · obtain ⟨x, y, n, m, es, fs, j, rfl, _⟩ := h
    rfl
  obtain ⟨x, y, n, m, es, fs, j, rfl, ⟨g1, e1, xs1, rfl, hg1, he1, hes⟩, good1, ⟨g2, e2, xs2, rfl, hg2, he2, hfs⟩, good2, nm, few, q⟩ := h
  refine ⟨_, pss_cons (ps_asg (pe_tup (pa_cons (pe_ix ix_tup (pv 0) pe_int (fun _ _ => rfl)) (pa_cons (pe_lc (own := [("u", 3), ("v", 6)]) (g := gTup K 2 (gCons (gName 3) (gCons (gName 6) gNil))) (tt := tYes) rfl scBeside.nd (pi_tup (pe_ix ix_tup (pv 1) pe_int (fun _ _ => rfl)))
      (blkOk_by (N := ["one", "two", "is_joined", "u", "n", "far", "v"]) (sc := defScope sBeside) (by decide +kernel)) (fun _ _ _ _ _ => pg_tup (by rfl) (pgs_cons (pg_name (i := 3) scBeside.nd rfl (Or.inl rfl)) (pgs_cons (pg_name (i := 6) scBeside.nd rfl (Or.inl rfl)) pgs_nil))) (fun _ _ _ _ _ => pts_nil)
      (fun _ _ _ _ _ => pe_tup (pa_cons (pe_op op_add (pe_ix (r := rIxT K) ix_tup (pv 0) pe_int (fun _ _ => rfl)) (pv 3)) (pa_cons (pe_op op_add (pe_ix (r := rIxT K) ix_tup (pv 0) pe_int (fun _ _ => rfl)) (pv 6)) pa_nil)))) pa_nil)))
      (pg_tup (by rfl) (pgs_cons (pg_name (i := 4) scBeside.nd rfl (.inr rfl)) (pgs_cons (pg_name (i := 5) scBeside.nd rfl (.inl rfl)) pgs_nil))))
    (pss_cons (ps_if (pt_val (pv 2)) (pss_one (ps_for PassesOwn.never rfl (pi_range1 rfl mr (pa_cons (pv 4) pa_nil)) (pg_name (i := 3) scBeside.nd rfl (.inr rfl))
        (pss_one (ps_set (i := 5) scBeside.nd rfl (.inl rfl) (pe_op op_cat (pv 5) (pe_lc (own := [("v", 6)]) (g := gName 6) (tt := tYes) rfl scBeside.nd (pi_range1 rfl mr (pa_cons (pe_ix ix_tup (pv 1) pe_int (fun _ _ => rfl)) pa_nil))
          (blkOk_by (N := ["one", "two", "is_joined", "u", "n", "far", "v"]) (sc := defScope sBeside) (by decide +kernel)) (fun _ _ _ _ _ => pg_name (i := 6) scBeside.nd rfl (Or.inl rfl)) (fun _ _ _ _ _ => pts_nil)
          (fun _ _ _ _ _ => pe_tup (pa_cons (pv 3) (pa_cons (pe_op op_add (pv 4) (pv 6)) pa_nil))))))))) pss_nil)
    (pss_one (ps_ret (pe_call GP hr (by rfl) mP kP bP .nil pass0 (pa_cons (pe_op op_add (pv 4) (pe_ix ix_tup (pv 1) pe_int (fun _ _ => rfl))) (pa_cons (pe_op op_cat (pe_callTy call_list_of (by rfl) mli (by decide +kernel) (pa_cons (pe_ix ix_tup (pv 0) pe_int (fun _ _ => rfl)) pa_nil)) (pv 5)) pa_nil)))))), ?_⟩
  refine ⟨_, rfl, g1, _, _, _, rfl, rfl, hg1, rfl, ?_⟩
  refine ⟨_, rfl, g2, _, _, _, rfl, rfl, hg2, rfl, e2, rfl, ⟨_, he2⟩, fun D nD => lc_tup (K := K) (a := e2) (xs := xs2)
      (fun i H2 => Same H H2 ∧ ∃ zs ps, H2 D = some (.lst zs) ∧ zs.length = i ∧ PairsAt K H2 zs ps ∧ ∀ p ∈ ps, p.1 ≠ p.2 ∧ p.1 < n + m ∧ p.2 < n + m) ⟨same_new nD _, [], [], upd_same, rfl, .nil, fun _ z => nomatch z⟩ ?_ ?_ ?_⟩
  · rintro i H1 _ ⟨s1, _⟩
    exact Same.tup s1 he2
  · rintro i x H2 hi ⟨s2, zs, ps, hD, lz, pz, pp⟩
    obtain ⟨p, hp, t1, rfl, ht1⟩ := PairsAt.get (hfs.same s2) hi
    obtain ⟨l1, l2⟩ := good2.lt p (List.mem_of_getElem? hp)
    have hg3 := Same.tup s2 hg1
    refine ⟨t1, _, rfl, ht1, rfl, _, _, rfl, _, _, rfl, rfl, ?_⟩
    refine ⟨rfl, ?_⟩
    refine ⟨_, rfl, g1, _, _, _, rfl, rfl, hg3, rfl, _, rfl, _, _, rfl, rfl, _, rfl, g1, _, _, _, rfl, rfl, hg3, rfl, _, rfl, _, _, rfl, rfl, (by show 2 ≤ sizeLine; decide), fun r nr => ?_⟩
    obtain ⟨t1, p1⟩ := push_pair (n + p.1, n + p.2) hD nr pz
    have li : i < xs2.length := (List.getElem?_eq_some_iff.mp hi).1
    have l3 : xs2.length ≤ 36 := by rw [PairsAt.len hfs]; exact good2.few
    refine ⟨zs, (same_new nr _) _ _ hD, small1000 (by omega), same_put (s2.trans (same_new nr _)) nD, _, _, upd_same, by rw [List.length_append]; show zs.length + 1 = i + 1; omega, p1, fun r hr => ?_⟩
    rcases List.mem_append.mp hr with hr | hr
    · exact pp r hr
    · rw [List.mem_singleton.mp hr]
      show n + p.1 ≠ n + p.2 ∧ n + p.1 < n + m ∧ n + p.2 < n + m
      omega
  rintro H2 ⟨s2, zs, ps, hD, lz, pz, pp⟩
  refine ⟨(by show 2 ≤ sizeLine; decide), fun r nr => ?_⟩
  have s3 := s2.trans (same_new nr (.tup [.int (n : Int), .ref D]))
  refine ⟨r, _, rfl, SqT.of upd_same, rfl, _, _, rfl, _, _, rfl, rfl, ?_⟩
  have lf : xs2.length = fs.length := PairsAt.len hfs
  have le : xs1.length ≤ 36 := by rw [PairsAt.len hes]; exact good1.few
  have n9 : n ≤ 9 := by omega
  have fin : ∀ (B : Addr) (ys : List V) (ps : List E2) (H3 : Hp) (xs1' : List V), Same H H3 → H3 B = some (.lst ys) → PairsAt K H3 ys ps → (∀ p ∈ ps, p.1 ≠ p.2 ∧ p.1 < n + m ∧ p.2 < n + m) → ps.length ≤ 27 →
      ∀ l, H3 l = none → (upd H3 l (.lst xs1)) B = some (.lst ys) ∧ xs1.length + ys.length ≤ sizeLine ∧ ∀ c, (upd H3 l (.lst xs1)) c = none → spOfPairs K [.int ((n + m : Nat) : Int), .ref c] (upd (upd H3 l (.lst xs1)) c (.lst (xs1 ++ ys))) Q E0 := by
    intro B ys ps H3 _ s4 hB hP pp few l nl
    have l2 := PairsAt.len hP
    have l1 := PairsAt.len hes
    have s5 := same_new nl (.lst xs1)
    refine ⟨s5 _ _ hB, small (by omega), fun c nc => ?_⟩
    have s6 := same_new nc (.lst (xs1 ++ ys))
    refine ⟨n + m, c, xs1 ++ ys, es ++ ps, rfl, nm, SqL.of upd_same, (hes.same (s4.trans (s5.trans s6))).append (hP.same (s5.trans s6)), by rw [List.length_append]; omega, fun p hp => ?_, fun x gs H' s7 g good _ => q x gs H' (s4.trans ((s5.trans s6).trans s7)) g good⟩
    rcases List.mem_append.mp hp with hp | hp
    · have z := good1.lt p hp
      omega
    · exact pp p hp
  refine ⟨_, rfl, _, rfl, iteB (fun _ => ?_) (fun _ => ?_)⟩
  · refine ⟨_, rfl, (n : Int), rfl, by omega, by omega, for_range (lo := 0) (n := ((n : Nat) : Int).toNat) (fun u σ H' => ∃ (B : Addr) (ys : List V) (ps : List E2) (s3 s6 : Option V), σ = [some (.ref g1), some (.ref g2), some (.bl j), s3, some (.int (n : Int)), some (.ref B), s6] ∧ Same H H' ∧ H' B = some (.lst ys) ∧
      PairsAt K H' ys ps ∧ (∀ p ∈ ps, p.1 ≠ p.2 ∧ p.1 < n + m ∧ p.2 < n + m) ∧ ps.length = fs.length + u * m) ⟨D, zs, ps, none, none, rfl, s3, (same_new nr _) _ _ hD, pz.same (same_new nr _), pp, by rw [← PairsAt.len pz, lz, lf, Nat.zero_mul, Nat.add_zero]⟩ ?_ ?_⟩
    · rintro u σ H3 lu ⟨B, ys, ps, s3, s6, rfl, s4, hB, hP, pp, lp⟩
      rw [Int.zero_add]
      have un : u < n := by omega
      have hg3 := Same.tup s4 hg2
      have um : u * m + m ≤ n * m := by
        rw [← Nat.succ_mul]
        exact Nat.mul_le_mul_right m (by omega)
      refine ⟨_, rfl, _, rfl, g2, _, _, _, rfl, rfl, hg3, rfl, (m : Int), rfl, by omega, by omega, fun D nD => lc_range (lo := 0) (n := ((m : Nat) : Int).toNat)
        (fun k H2 => Same H3 H2 ∧ ∃ zs ps, H2 D = some (.lst zs) ∧ ps.length = k ∧ PairsAt K H2 zs ps ∧ ∀ p ∈ ps, p.1 ≠ p.2 ∧ p.1 < n + m ∧ p.2 < n + m) ⟨same_new nD _, [], [], upd_same, rfl, .nil, fun _ z => nomatch z⟩ ?_ ?_⟩
      · rintro k H4 lk ⟨s5, zs, ps, hD, lz, pz, pp⟩
        rw [Int.zero_add]
        refine ⟨rfl, ?_⟩
        refine ⟨_, rfl, _, rfl, _, rfl, _, _, rfl, rfl, (by show 2 ≤ sizeLine; decide), fun r nr => ?_⟩
        obtain ⟨t1, p1⟩ := push_pair (u, n + k) hD nr pz
        have l0 := PairsAt.len pz
        refine ⟨zs, (same_new nr _) _ _ hD, small1000 (by omega), same_put (s5.trans (same_new nr _)) nD, _, _, upd_same, by rw [List.length_append]; show ps.length + 1 = k + 1; omega, p1, fun r hr => ?_⟩
        rcases List.mem_append.mp hr with hr | hr
        · exact pp r hr
        · rw [List.mem_singleton.mp hr]
          show u ≠ n + k ∧ u < n + m ∧ n + k < n + m
          omega
      · rintro H4 ⟨s5, zs, ps2, hD, lz, pz, pp2⟩
        have l0 := PairsAt.len pz
        have l1 := PairsAt.len hP
        refine ⟨B, D, ys, zs, rfl, rfl, s5 _ _ hB, hD, small (by omega), fun c nc => ?_⟩
        have s7 := same_new nc (.lst (ys ++ zs))
        refine ⟨c, _, ps ++ ps2, _, _, rfl, s4.trans (s5.trans s7), upd_same, (hP.same (s5.trans s7)).append (pz.same s7), fun p hp => ?_, ?_⟩
        · rcases List.mem_append.mp hp with hp | hp
          · exact pp p hp
          · exact pp2 p hp
        · rw [List.length_append, lp, lz, Nat.succ_mul]
          omega
    · rintro σ H3 ⟨B, ys, ps, s3, s6, rfl, s4, hB, hP, pp, lp⟩
      rw [show ((n : Nat) : Int).toNat = n by omega] at lp
      refine ⟨_, rfl, _, rfl, g2, _, _, _, rfl, rfl, Same.tup s4 hg2, rfl, _, _, rfl, rfl, _, rfl, g1, _, _, _, rfl, rfl, Same.tup s4 hg1, rfl, e1, _, rfl, .inr (Same.tup s4 he1), fun l nl => ?_⟩
      obtain ⟨x1, x2, x3⟩ := fin B ys ps H3 ys s4 hB hP pp (by omega) l nl
      exact ⟨_, rfl, l, B, _, _, rfl, rfl, upd_same, x1, x2, x3⟩
  · refine ⟨_, rfl, _, rfl, g2, _, _, _, rfl, rfl, Same.tup s3 hg2, rfl, _, _, rfl, rfl, _, rfl, g1, _, _, _, rfl, rfl, Same.tup s3 hg1, rfl, e1, _, rfl, .inr (Same.tup s3 he1), fun l nl => ?_⟩
    obtain ⟨x1, x2, x3⟩ := fin D zs ps _ zs s3 ((same_new nr _) _ _ hD) (pz.same (same_new nr _)) pp (by rw [← PairsAt.len pz]; omega) l nl
    exact ⟨_, rfl, l, D, _, _, rfl, rfl, upd_same, x1, x2, x3⟩
end
end My

set_option maxHeartbeats 4000000
namespace My
open PySem PySem.Spec PyProof.Rows L2
abbrev sGrown : Stmt := top (32 + 13)
abbrev sGraph : Stmt := top (32 + 14)
theorem scGrown : FnScope ["well", "graph", "n", "v", "twin", "is_twin", "u", "pairs"] ["well", "graph", "n"] (defScope sGrown) := ⟨rfl, rfl, rfl, by decide +kernel, rfl, by decide +kernel, by decide +kernel⟩
theorem scGraph : FnScope ["well", "most", "n", "way", "found"] ["well", "most"] (defScope sGraph) := ⟨rfl, rfl, rfl, by decide +kernel, rfl, by decide +kernel, by decide +kernel⟩
def spGrown (K : PySem.W.Frag) : Sp := fun vs H Q _ => ∃ (p : Addr) (x : V) (m n : Nat) (es : List E2), vs = [.ref p, x, .int (n : Int)] ∧ Wl H p ∧ GraphAt K H x m es ∧ Good m es ∧ 1 ≤ m ∧ m ≤ n ∧ n ≤ 9 ∧ spGr K n p H Q
def spGraph (K : PySem.W.Frag) : Sp := fun vs H Q _ => ∃ (p : Addr) (most : Nat), vs = [.ref p, .int (most : Int)] ∧ Wl H p ∧ most ≤ 9 ∧ ∀ (x : V) (n : Nat) (es : List E2) (H' : Hp), n ≤ most → But p H H' → Wl H' p → GraphAt K H' x n es → Good n es → Q x H'
theorem good_left {n : Nat} (n9 : n ≤ 9) (es : List E2) : Good n (leftP n es) := Good.filter n9 _
theorem But.none {p D : Addr} {H H1 : Hp} (b : But p H H1) (w : Wl H1 p) (n : H1 D = none) : H D = none := by
  cases e : H D with
  | none => rfl
  | some o =>
    rw [b _ _ (w.ne n) e] at n
    cases n
theorem joinS {i : Nat} {σ : L2.St} {N : L2.St → Hp → Prop} {G : Prop} {R : V → Hp → Prop} (h : (∀ v H, R v H → gName i v σ H N) → G) (g : ∀ v H, R v H → gName i v σ H N) : G := h g
theorem joinT {N : L2.St → Hp → Prop} {G : Prop} {R : L2.St → Hp → Prop} (h : (∀ σ H, R σ H → N σ H) → G) (g : ∀ σ H, R σ H → N σ H) : G := h g
section
variable {P : Program} {w : World} {K : PySem.W.Frag} {mg : Str → Option Value} {base : Heap} {f fD fP fK fB fU fR fS fF fG fO fA fC : Addr} {fd dD dP dK dB dU dR dS dF dG dO dA dC : FuncData}
theorem ok_folded (F : L2.Fun K "_law_folded" "_law_folded" sFolded f fd) (GD : FnOk P w K mg base CX0 1 fD dD ["well", "many"] spDraw) (bD : L2.Binds K dD ["well", "many"] []) (kD : PySem.W.keepIn K (.ref fD) = true) (mD : mg "_law_draw" = some (.ref fD))
    (GB : FnOk P w K mg base CX0 2 fB dB ["one", "two", "is_joined"] (spBeside K)) (bB : L2.Binds K dB ["one", "two", "is_joined"] []) (kB : PySem.W.keepIn K (.ref fB) = true) (mB : mg "_law_beside" = some (.ref fB))
    (GU : FnOk P w K mg base CX0 1 fU dU ["graph"] (spTurned K)) (bU : L2.Binds K dU ["graph"] []) (kU : PySem.W.keepIn K (.ref fU) = true) (mU : mg "_law_turned" = some (.ref fU)) (mr : mg "range" = none) :
    FnOk P w K mg base CX0 3 f fd ["well", "n"] (spFolded K) := by
  refine F.ok scFolded (fun vs H Q E h => ?_) (fun cdv A outer s H vs Q E hr h => ?_)
  · obtain ⟨p, n, rfl, _⟩ := h
    rfl
  obtain ⟨p, n, rfl, hW, n1, n9, q⟩ := h
  refine ⟨_, pss_cons (ps_set (i := 2) scFolded.nd rfl (.inl rfl) (pe_tup (pa_cons pe_int (pa_cons (pe_tup pa_nil) pa_nil))))
    (pss_cons (ps_for PassesOwn.never rfl (pi_range1 rfl mr (pa_cons (pe_op op_sub (pv 1) pe_int) pa_nil)) (pg_name (i := 3) scFolded.nd rfl (.inl rfl))
      (pss_cons (ps_set (i := 2) scFolded.nd rfl (.inl rfl) (pe_call GB hr (by rfl) mB kB bB .nil pass0 (pa_cons (pv 2) (pa_cons (pe_tup (pa_cons pe_int (pa_cons (pe_tup pa_nil) pa_nil))) (pa_cons (pe_cmpR op_eq (pe_call GD (hr.mono (by decide)) (by rfl) mD kD bD .nil pass0 (pa_cons (pv 0) (pa_cons pe_int pa_nil))) pe_int (nomark _)) pa_nil)))))
      (pss_one (ps_if (PW.pt (pw_and (pt_cmpR op_gt (pe_ix ix_tup (pv 2) pe_int (fun _ _ => rfl)) pe_int (nomark _)) (pw_and1 (pt_cmpR op_eq (pe_call GD (hr.mono (by decide)) (by rfl) mD kD bD .nil pass0 (pa_cons (pv 0) (pa_cons pe_int pa_nil))) pe_int (nomark _)))))
        (pss_one (ps_set (i := 2) scFolded.nd rfl (.inl rfl) (pe_call GU (hr.mono (by decide)) (by rfl) mU kU bU .nil pass0 (pa_cons (pv 2) pa_nil)))) pss_nil))))
    (pss_one (ps_ret (pv 2)))), ?_⟩
  have one : ∀ (H1 : Hp) (e : Addr) (t : Addr), H1 e = none → (upd H1 e (.tup [])) t = none → GraphAt K (upd (upd H1 e (.tup [])) t (.tup [.int 1, .ref e])) (.ref t) 1 [] := fun H1 e t ne nt =>
    ⟨t, e, [], rfl, SqT.of upd_same, SqT.of ((same_new nt _) _ _ upd_same), .nil⟩
  have g1 : Good 1 [] := Good.nil (by decide)
  refine ⟨(by show 0 ≤ sizeLine; decide), fun e ne => ?_⟩
  refine ⟨(by show 2 ≤ sizeLine; decide), fun t nt => ?_⟩
  have s1 := (same_new ne (.tup [])).trans (same_new nt (.tup [.int 1, .ref e]))
  refine ⟨_, rfl, _, _, rfl, rfl, ((n : Int) - 1), rfl, by omega, by omega, for_range (lo := 0) (n := ((n : Int) - 1).toNat) (fun i σ H' => ∃ (x : V) (es : List E2) (s3 : Option V), σ = [some (.ref p), some (.int (n : Int)), some x, s3] ∧ But p H H' ∧ Wl H' p ∧ GraphAt K H' x (i + 1) es ∧ Good (i + 1) es)
    ⟨_, [], none, rfl, But.of s1, hW.same s1, one H e t ne nt, g1⟩ ?_ ?_⟩
  · rintro i σ H1 li ⟨x, es, s3, rfl, b1, w1, hx, gx⟩
    refine ⟨_, rfl, (by show 0 ≤ sizeLine; decide), fun e ne => ?_⟩
    refine ⟨(by show 2 ≤ sizeLine; decide), fun t nt => ?_⟩
    have s2 := (same_new ne (.tup [])).trans (same_new nt (.tup [.int 1, .ref e]))
    have w2 := w1.same s2
    refine ⟨_, rfl, p, _, rfl, w2, by decide, by decide, fun d H2 _ _ b2 w3 => ?_⟩
    have t2 := TS.but b2 w2
    refine ⟨rfl, x, .ref t, i + 1, 1, es, [], _, rfl, (hx.same s2).ts t2, gx, (one H1 e t ne nt).ts t2, g1, by omega, by show 0 + (i + 1) * 1 ≤ 27; omega, fun z gs H3 s3 hz gz => ?_⟩
    have b3 := b1.trans ((But.of s2).trans (b2.trans (But.of s3)))
    have w4 := w3.same s3
    have hz0 := hz
    obtain ⟨tz, ez, xz, rfl, hz1, hz2, hz3⟩ := hz
    refine ⟨_, rfl, tz, _, _, _, rfl, rfl, hz1, rfl, _, _, rfl, rfl, _, rfl, iteB (fun _ => ?_) (fun _ => iteF ?_)⟩
    · refine ⟨_, rfl, p, _, rfl, w4, by decide, by decide, fun d2 H4 _ _ b4 w5 => ?_⟩
      have t4 := TS.but b4 w4
      refine ⟨rfl, _, rfl, iteB (fun _ => ?_) (fun _ => ?_)⟩
      · refine ⟨_, rfl, .ref tz, i + 1 + 1, gs, rfl, hz0.ts t4, gz.n9, fun y H5 s5 hy => ?_⟩
        exact ⟨y, _, _, rfl, b3.trans (b4.trans (But.of s5)), w5.same s5, hy, good_left gz.n9 gs⟩
      · exact ⟨_, _, _, rfl, b3.trans b4, w5, hz0.ts t4, gz⟩
    · exact ⟨_, _, _, rfl, b3, w4, hz0, gz⟩
  · rintro σ H1 ⟨x, es, s3, rfl, b1, w1, hx, gx⟩
    rw [show ((n : Int) - 1).toNat + 1 = n by omega] at hx gx
    exact ⟨_, rfl, q x es H1 b1 w1 hx gx⟩
theorem ok_grown (F : L2.Fun K "_law_grown" "_law_grown" sGrown f fd) (GD : FnOk P w K mg base CX0 1 fD dD ["well", "many"] spDraw) (bD : L2.Binds K dD ["well", "many"] []) (kD : PySem.W.keepIn K (.ref fD) = true) (mD : mg "_law_draw" = some (.ref fD))
    (GP : FnOk P w K mg base CX0 1 fP dP ["n", "pairs"] (spOfPairs K)) (bP : L2.Binds K dP ["n", "pairs"] []) (kP : PySem.W.keepIn K (.ref fP) = true) (mP : mg "_law_of_pairs" = some (.ref fP)) (mr : mg "range" = none) (mli : mg "list" = none) (mn : mg "min" = none) (mx : mg "max" = none) :
    FnOk P w K mg base CX0 2 f fd ["well", "graph", "n"] (spGrown K) := by
  refine F.ok scGrown (fun vs H Q E h => ?_) (fun cdv A outer s H vs Q E hr h => ?_)
  · obtain ⟨p, x, m, n, es, rfl, _⟩ := h
    rfl
  obtain ⟨p, x, m, n, es, rfl, hW, hx, gx, m1, mn', n9, q⟩ := h
  refine ⟨_, pss_cons (ps_for PassesOwn.never rfl (pi_range2 (by rfl) mr (pa_cons (pe_ix ix_tup (pv 1) pe_int (fun _ _ => rfl)) (pa_cons (pv 2) pa_nil))) (pg_name (i := 3) scGrown.nd rfl (.inr rfl))
      (pss_cons (ps_asg (pe_tup (pa_cons (pe_call GD hr (by rfl) mD kD bD .nil pass0 (pa_cons (pv 0) (pa_cons (pv 3) pa_nil))) (pa_cons (pe_cmpR op_eq (pe_call GD hr (by rfl) mD kD bD .nil pass0 (pa_cons (pv 0) (pa_cons pe_int pa_nil))) pe_int (nomark _)) pa_nil)))
          (pg_tup (by rfl) (pgs_cons (pg_name (i := 4) scGrown.nd rfl (.inr rfl)) (pgs_cons (pg_name (i := 5) scGrown.nd rfl (.inl rfl)) pgs_nil))))
      (pss_cons (ps_set (i := 7) scGrown.nd rfl (.inl rfl) (pe_ifExp (pt_val (pv 5)) (pe_lc (own := [("u", 6)]) (g := gName 6) rfl scGrown.nd (pi_range1 rfl mr (pa_cons (pv 3) pa_nil))
          (blkOk_by (N := ["well", "graph", "n", "v", "twin", "is_twin", "u", "pairs"]) (sc := defScope sGrown) (by decide +kernel)) (fun _ _ _ _ _ => pg_name (i := 6) scGrown.nd rfl (Or.inl rfl))
          (fun _ _ _ _ _ => pts_one (pt_cmpR (r := rInP id K) (op_inP hr.units) (pe_tup (pa_cons (pe_callB (id := "min") (r := fun xs H Q => ∃ i j, xs = [.int i, .int j] ∧ Q (.int (if j < i then j else i)) H) (call_min2 rfl) (by rfl) mn (by decide +kernel) (pa_cons (pv 6) (pa_cons (pv 4) pa_nil)))
              (pa_cons (pe_callB (id := "max") (r := fun xs H Q => ∃ i j, xs = [.int i, .int j] ∧ Q (.int (if j > i then j else i)) H) (call_max2 rfl) (by rfl) mx (by decide +kernel) (pa_cons (pv 6) (pa_cons (pv 4) pa_nil))) pa_nil))) (pe_ix (r := rIxT K) ix_tup (pv 1) pe_int (fun _ _ => rfl)) (by rfl)))
          (fun _ _ _ _ _ => pe_tup (pa_cons (pv 6) (pa_cons (pv 3) pa_nil)))) (pe_lst pa_nil)))
      (pss_cons (ps_for PassesOwn.never rfl (pi_range1 rfl mr (pa_cons (pv 3) pa_nil)) (pg_name (i := 6) scGrown.nd rfl (.inl rfl))
        (pss_one (ps_if (PW.pt (pw_and (pt_not (pt_val (pv 5))) (pw_and1 (pt_cmpR op_eq (pe_call GD hr (by rfl) mD kD bD .nil pass0 (pa_cons (pv 0) (pa_cons pe_int pa_nil))) pe_int (nomark _)))))
          (pss_one (ps_expr (pe_bm PySem.F.plainAttrs_list PySem.F.slot_list_append PySem.F.type_list_append mt_append (pv 7) (pa_cons (pe_tup (pa_cons (pv 6) (pa_cons (pv 3) pa_nil))) pa_nil)))) pss_nil)))
      (pss_one (ps_set (i := 1) scGrown.nd rfl (.inr rfl) (pe_call GP hr (by rfl) mP kP bP .nil pass0 (pa_cons (pe_op op_add (pv 3) pe_int) (pa_cons (pe_op op_cat (pe_callTy call_list_of (by rfl) mli (by decide +kernel) (pa_cons (pe_ix ix_tup (pv 1) pe_int (fun _ _ => rfl)) pa_nil)) (pv 7)) pa_nil)))))))))
    (pss_one (ps_ret (pv 1))), ?_⟩
  have hx0 := hx
  obtain ⟨g0, e0, xs0, rfl, hg0, he0, hes0⟩ := hx
  refine ⟨_, rfl, g0, _, _, _, rfl, rfl, hg0, rfl, _, rfl, (m : Int), (n : Int), rfl, ⟨by omega, by omega, by omega, by omega⟩, for_range (lo := (m : Int)) (n := ((n : Int) - (m : Int)).toNat)
    (fun i σ H' => ∃ (x : V) (es : List E2) (s3 s4 s5 s6 s7 : Option V), σ = [some (.ref p), some x, some (.int (n : Int)), s3, s4, s5, s6, s7] ∧ But p H H' ∧ Wl H' p ∧ GraphAt K H' x (m + i) es ∧ Good (m + i) es)
    ⟨_, es, none, none, none, none, none, rfl, But.refl _ _, hW, hx0, gx⟩ ?_ ?_⟩
  · rintro i σ H1 li ⟨x, es, s3, s4, s5, s6, s7, rfl, b1, w1, hx, gx⟩
    rw [show ((m : Int) + (i : Int)) = ((m + i : Nat) : Int) by omega]
    obtain ⟨v, hv⟩ : ∃ v, v = m + i := ⟨_, rfl⟩
    rw [← hv] at hx gx ⊢
    have v0 : 0 < v := by omega
    have vn : v < n := by omega
    refine ⟨_, rfl, _, rfl, p, _, rfl, w1, by omega, by omega, fun tw H2 tw0 tw1 b2 w2 => ?_⟩
    have t2 := TS.but b2 w1
    refine ⟨_, rfl, p, _, rfl, w2, by decide, by decide, fun d H3 _ _ b3 w3 => ?_⟩
    have t3 := TS.but b3 w2
    obtain ⟨tn, rfl⟩ : ∃ tn : Nat, tw = (tn : Int) := ⟨tw.toNat, by omega⟩
    refine ⟨rfl, (by show 2 ≤ sizeLine; decide), fun r nr => ?_⟩
    refine ⟨r, _, rfl, SqT.of upd_same, rfl, _, _, rfl, _, _, rfl, rfl, ?_⟩
    generalize hd : (decide (V.int d = V.int 0)) = istw
    have s4 := same_new nr (.tup [.int (tn : Int), .bl istw])
    generalize he4 : upd H3 r (.tup [.int (tn : Int), .bl istw]) = H4 at s4 ⊢
    have b4 : But p H H4 := (b1.trans b2).trans (b3.trans (But.of s4))
    have w4 : Wl H4 p := w3.same s4
    have hx4 : GraphAt K H4 x v es := ((hx.ts t2).ts t3).same s4
    refine' joinS (i := 7) (R := fun y H5 => ∃ (D : Addr) (zs : List V) (ps : List E2), y = .ref D ∧ H5 D = some (.lst zs) ∧ zs.length ≤ v ∧ PairsAt K H5 zs ps ∧ (∀ q ∈ ps, q.1 ≠ q.2 ∧ q.1 < v + 1 ∧ q.2 < v + 1) ∧ Same H4 H5 ∧ H4 D = none) (fun go => ?_) ?_
    rotate_left 2
    · refine ⟨_, rfl, _, rfl, iteB (fun _ => ?_) (fun _ => ?_)⟩
      · refine ⟨_, rfl, (v : Int), rfl, by omega, by omega, fun D nD => lc_range (lo := 0) (n := ((v : Nat) : Int).toNat)
          (fun k H2 => Same H4 H2 ∧ ∃ zs ps, H2 D = some (.lst zs) ∧ zs.length ≤ k ∧ PairsAt K H2 zs ps ∧ ∀ p ∈ ps, p.1 ≠ p.2 ∧ p.1 < v + 1 ∧ p.2 < v + 1) ⟨same_new nD _, [], [], upd_same, Nat.le_refl _, .nil, fun _ z => nomatch z⟩ ?_ ?_⟩
        · rintro k H5 lk ⟨s5, zs, ps, hD, lz, pz, pp⟩
          rw [Int.zero_add]
          refine ⟨rfl, ?_⟩
          refine ⟨_, rfl, _, rfl, _, _, rfl, _, rfl, _, rfl, _, _, rfl, (by show 2 ≤ sizeLine; decide), fun r2 nr2 => ?_⟩
          have e1 : (if ((tn : Nat) : Int) < ((k : Nat) : Int) then ((tn : Nat) : Int) else ((k : Nat) : Int)) = ((min k tn : Nat) : Int) := by split <;> omega
          have e2 : (if ((tn : Nat) : Int) > ((k : Nat) : Int) then ((tn : Nat) : Int) else ((k : Nat) : Int)) = ((max k tn : Nat) : Int) := by split <;> omega
          rw [e1, e2] at *
          have s6 := same_new nr2 (.tup [.int ((min k tn : Nat) : Int), .int ((max k tn : Nat) : Int)])
          obtain ⟨g, e, xs, rfl, hg, he, hes⟩ := hx4.same (s5.trans s6)
          refine ⟨_, rfl, g, _, _, _, rfl, rfl, hg, rfl, (min k tn, max k tn), e, xs, es, ⟨r2, rfl, SqT.of upd_same⟩, rfl, he, hes, _, rfl, iteB (fun _ => ?_) (fun _ => ?_)⟩
          · refine ⟨_, rfl, _, rfl, (by show 2 ≤ sizeLine; decide), fun r3 nr3 => ?_⟩
            have hD6 := s6 _ _ hD
            obtain ⟨t1, p1⟩ := push_pair (k, v) hD6 nr3 (pz.same s6)
            refine ⟨zs, (same_new nr3 _) _ _ hD6, small1000 (by omega), same_put (s5.trans (s6.trans (same_new nr3 _))) nD, _, _, upd_same, by rw [List.length_append]; show zs.length + 1 ≤ k + 1; omega, p1, fun q hq => ?_⟩
            rcases List.mem_append.mp hq with hq | hq
            · exact pp q hq
            · rw [List.mem_singleton.mp hq]
              show k ≠ v ∧ k < v + 1 ∧ v < v + 1
              omega
          · exact ⟨s5.trans s6, zs, ps, s6 _ _ hD, by omega, pz.same s6, pp⟩
        · rintro H5 ⟨s5, zs, ps, hD, lz, pz, pp⟩
          exact go _ _ ⟨D, zs, ps, rfl, hD, by omega, pz, pp, s5, nD⟩
      · refine ⟨(by show 0 ≤ sizeLine; decide), fun D nD => ?_⟩
        exact go _ _ ⟨D, [], [], rfl, upd_same, by show 0 ≤ v; omega, .nil, (fun _ z => nomatch z), same_new nD _, nD⟩
    rintro _ H5 ⟨D, zs, ps, rfl, hD, lz, pz, pp, s5, nD⟩
    have nD0 : H D = none := b4.none w4 nD
    have Dp : D ≠ p := w4.ne nD
    refine ⟨_, rfl, (v : Int), rfl, by omega, by omega, for_range (lo := 0) (n := ((v : Nat) : Int).toNat)
      (fun k σ H' => ∃ (zs : List V) (ps : List E2) (s6 : Option V), σ = [some (.ref p), some x, some (.int (n : Int)), some (.int (v : Int)), some (.int (tn : Int)), some (.bl istw), s6, some (.ref D)] ∧ But p H H' ∧ Wl H' p ∧ H' D = some (.lst zs) ∧ zs.length ≤ v + k ∧ GraphAt K H' x v es ∧
        PairsAt K H' zs ps ∧ (∀ q ∈ ps, q.1 ≠ q.2 ∧ q.1 < v + 1 ∧ q.2 < v + 1)) ⟨zs, ps, s6, rfl, b4.trans (But.of s5), w4.same s5, hD, by omega, hx4.same s5, pz, pp⟩ ?_ ?_⟩
    · rintro k σ H6 lk ⟨zs, ps, s6, rfl, b6, w6, hD, lz, hx6, pz, pp⟩
      rw [Int.zero_add]
      refine ⟨_, rfl, _, rfl, iteB (fun _ => ?_) (fun _ => iteF ?_)⟩
      · refine ⟨_, rfl, p, _, rfl, w6, by decide, by decide, fun d2 H7 _ _ b7 w7 => ?_⟩
        have t7 := TS.but b7 w6
        have hD7 := b7 _ _ Dp hD
        refine ⟨rfl, _, rfl, iteB (fun _ => ?_) (fun _ => ?_)⟩
        · refine ⟨_, rfl, .inl ⟨rfl, _, SqL.of hD7⟩, _, rfl, _, rfl, (by show 2 ≤ sizeLine; decide), fun r nr => ?_⟩
          obtain ⟨t1, p1⟩ := push_pair (k, v) hD7 nr (pz.ts t7)
          refine ⟨D, zs, _, rfl, rfl, (same_new nr _) _ _ hD7, small1000 (by omega), zs ++ [.ref r], ps ++ [(k, v)], _, rfl, but_put ((b6.trans b7).trans (But.new nr)) nD0, (w7.same (same_new nr _)).put Dp, upd_same, by rw [List.length_append]; show zs.length + 1 ≤ v + (k + 1); omega, (hx6.ts t7).ts t1, p1, fun q hq => ?_⟩
          rcases List.mem_append.mp hq with hq | hq
          · exact pp q hq
          · rw [List.mem_singleton.mp hq]
            show k ≠ v ∧ k < v + 1 ∧ v < v + 1
            omega
        · exact ⟨zs, ps, _, rfl, b6.trans b7, w7, hD7, by omega, hx6.ts t7, pz.ts t7, pp⟩
      · exact ⟨zs, ps, _, rfl, b6, w6, hD, by omega, hx6, pz, pp⟩
    · rintro σ H6 ⟨zs, ps, s6, rfl, b6, w6, hD, lz, hx6, pz, pp⟩
      rw [show ((v : Nat) : Int).toNat = v by omega] at lz
      obtain ⟨g, e, xs, rfl, hg, he, hes⟩ := hx6
      have l1 := PairsAt.len hes
      have l2 := gx.few
      have l3 := PairsAt.len pz
      refine ⟨_, rfl, _, _, rfl, rfl, _, rfl, g, _, _, _, rfl, rfl, hg, rfl, e, _, rfl, .inr he, fun l nl => ?_⟩
      have s7 := same_new nl (.lst xs)
      refine ⟨_, rfl, l, D, _, _, rfl, rfl, upd_same, s7 _ _ hD, small (by omega), fun c nc => ?_⟩
      have s8 := same_new nc (.lst (xs ++ zs))
      refine ⟨v + 1, c, xs ++ zs, es ++ ps, rfl, by omega, SqL.of upd_same, (hes.same (s7.trans s8)).append (pz.same (s7.trans s8)), by rw [List.length_append]; omega, fun q hq => ?_, fun y gs H' s9 hy gy _ => ?_⟩
      · rcases List.mem_append.mp hq with hq | hq
        · have z := gx.lt q hq
          omega
        · exact pp q hq
      · have s10 := (s7.trans s8).trans s9
        exact ⟨y, gs, _, _, _, _, _, rfl, b6.trans (But.of s10), w6.same s10, by rw [show m + (i + 1) = v + 1 by omega]; exact hy, by rw [show m + (i + 1) = v + 1 by omega]; exact gy⟩
  · rintro σ H1 ⟨x, es, s3, s4, s5, s6, s7, rfl, b1, w1, hx, gx⟩
    rw [show m + ((n : Int) - (m : Int)).toNat = n by omega] at hx gx
    exact ⟨_, rfl, q x es H1 b1 w1 hx gx⟩
theorem ok_graph (F : L2.Fun K "_law_graph" "_law_graph" sGraph f fd) (GD : FnOk P w K mg base CX0 1 fD dD ["well", "many"] spDraw) (bD : L2.Binds K dD ["well", "many"] []) (kD : PySem.W.keepIn K (.ref fD) = true) (mD : mg "_law_draw" = some (.ref fD))
    (GA : FnOk P w K mg base CX0 3 fA dA ["well", "n"] (spRandom K)) (bA : L2.Binds K dA ["well", "n"] []) (kA : PySem.W.keepIn K (.ref fA) = true) (mA : mg "_law_random" = some (.ref fA))
    (GS : FnOk P w K mg base CX0 2 fS dS ["well", "n"] (spRandom K)) (bS : L2.Binds K dS ["well", "n"] []) (kS : PySem.W.keepIn K (.ref fS) = true) (mS : mg "_law_sides" = some (.ref fS))
    (GF : FnOk P w K mg base CX0 3 fF dF ["well", "n"] (spFolded K)) (bF : L2.Binds K dF ["well", "n"] []) (kF : PySem.W.keepIn K (.ref fF) = true) (mF : mg "_law_folded" = some (.ref fF))
    (GG : FnOk P w K mg base CX0 2 fG dG ["well", "graph", "n"] (spGrown K)) (bG : L2.Binds K dG ["well", "graph", "n"] []) (kG : PySem.W.keepIn K (.ref fG) = true) (mG : mg "_law_grown" = some (.ref fG))
    (GR : FnOk P w K mg base CX0 2 fR dR ["many"] (spRound K)) (bR : L2.Binds K dR ["many"] []) (kR : PySem.W.keepIn K (.ref fR) = true) (mR : mg "_law_round" = some (.ref fR))
    (GK : FnOk P w K mg base CX0 2 fK dK ["well", "some"] (spPick K)) (bK : L2.Binds K dK ["well", "some"] []) (kK : PySem.W.keepIn K (.ref fK) = true) (mK : mg "_law_pick" = some (.ref fK))
    (GU : FnOk P w K mg base CX0 1 fU dU ["graph"] (spTurned K)) (bU : L2.Binds K dU ["graph"] []) (kU : PySem.W.keepIn K (.ref fU) = true) (mU : mg "_law_turned" = some (.ref fU))
    (GC : FnOk P w K mg base CX0 2 fC dC ["graph", "names"] (spCalled K)) (bC : L2.Binds K dC ["graph", "names"] []) (kC : PySem.W.keepIn K (.ref fC) = true) (mC : mg "_law_called" = some (.ref fC))
    (GO : FnOk P w K mg base CX0 2 fO dO ["well", "many"] (spOrder K)) (bO : L2.Binds K dO ["well", "many"] []) (kO : PySem.W.keepIn K (.ref fO) = true) (mO : mg "_law_order" = some (.ref fO))
    (mx : mg "max" = none) : FnOk P w K mg base CX0 4 f fd ["well", "most"] (spGraph K) := by
  refine F.ok scGraph (fun vs H Q E h => ?_) (fun cdv A outer s H vs Q E hr h => ?_)
  · obtain ⟨p, n, rfl, _⟩ := h
    rfl
  obtain ⟨p, most, rfl, hW, m9, q⟩ := h
  refine ⟨_, (pss_cons (ps_par (by rfl) scGraph.nd (i := 2) (j := 3) rfl rfl (by decide) rfl rfl (pa_cons (pe_call GD (hr.mono (by decide)) (by rfl) mD kD bD .nil pass0 (pa_cons (pv 0) (pa_cons (pe_op op_add (pv 1) pe_int) pa_nil))) (pa_cons (pe_call GD (hr.mono (by decide)) (by rfl) mD kD bD .nil pass0 (pa_cons (pv 0) (pa_cons pe_int pa_nil))) pa_nil)) (by rfl))
    (pss_cons (ps_set (i := 2) scGraph.nd rfl (.inl rfl) (pe_ifExp (pt_cmpR op_eq (pe_call GD (hr.mono (by decide)) (by rfl) mD kD bD .nil pass0 (pa_cons (pv 0) (pa_cons pe_int pa_nil))) pe_int (nomark _)) (pv 2) (pe_callB (call_max2 rfl) (by rfl) mx (by decide +kernel) (pa_cons (pv 2) (pa_cons (pe_op op_sub (pv 1) (pe_call GD (hr.mono (by decide)) (by rfl) mD kD bD .nil pass0 (pa_cons (pv 0) (pa_cons pe_int pa_nil)))) pa_nil)))))
    (pss_cons (ps_set (i := 4) scGraph.nd rfl (.inl rfl) (pe_call GA (hr.mono (by decide)) (by rfl) mA kA bA .nil pass0 (pa_cons (pv 0) (pa_cons (pv 2) pa_nil))))
    (pss_cons (ps_if (pt_cmpR op_eq (pv 3) pe_int (nomark _)) (pss_one (ps_set (i := 4) scGraph.nd rfl (.inl rfl) (pe_call GS (hr.mono (by decide)) (by rfl) mS kS bS .nil pass0 (pa_cons (pv 0) (pa_cons (pv 2) pa_nil))))) pss_nil)
    (pss_cons (ps_if (PW.pt (pw_and (pt_cmpR op_eq (pv 3) pe_int (nomark _)) (pw_and1 (pt_cmpR op_gt (pv 2) pe_int (nomark _))))) (pss_one (ps_set (i := 4) scGraph.nd rfl (.inl rfl) (pe_call GF (hr.mono (by decide)) (by rfl) mF kF bF .nil pass0 (pa_cons (pv 0) (pa_cons (pv 2) pa_nil))))) pss_nil)
    (pss_cons (ps_if (PW.pt (pw_and (pt_cmpR op_in_seq (pv 3) (pe_tup (pa_cons pe_int (pa_cons pe_int (pa_cons pe_int pa_nil)))) (by rfl)) (pw_and1 (pt_cmpR op_gt (pv 1) pe_int (nomark _))))) (pss_one (ps_set (i := 4) scGraph.nd rfl (.inl rfl) (pe_call GG (hr.mono (by decide)) (by rfl) mG kG bG .nil pass0 (pa_cons (pv 0) (pa_cons (pe_call GR (hr.mono (by decide)) (by rfl) mR kR bR .nil pass0 (pa_cons pe_int pa_nil)) (pa_cons (pe_op op_add pe_int (pe_call GD (hr.mono (by decide)) (by rfl) mD kD bD .nil pass0 (pa_cons (pv 0) (pa_cons (pe_op op_sub (pv 1) pe_int) pa_nil)))) pa_nil)))))) pss_nil)
    (pss_cons (ps_if (PW.pt (pw_and (pt_cmpR op_eq (pv 3) pe_int (nomark _)) (pw_and1 (pt_cmpR op_gt (pv 1) pe_int (nomark _))))) (pss_one (ps_set (i := 4) scGraph.nd rfl (.inl rfl) (pe_call GG (hr.mono (by decide)) (by rfl) mG kG bG .nil pass0 (pa_cons (pv 0) (pa_cons (pe_call GR (hr.mono (by decide)) (by rfl) mR kR bR .nil pass0 (pa_cons (pe_call GK (hr.mono (by decide)) (by rfl) mK kK bK .nil pass0 (pa_cons (pv 0) (pa_cons (pe_tup (pa_cons pe_int (pa_cons pe_int (pa_cons pe_int pa_nil)))) pa_nil))) pa_nil)) (pa_cons (pv 1) pa_nil)))))) pss_nil)
    (pss_cons (ps_if (PW.pt (pw_and (pt_cmpR op_eq (pv 3) pe_int (nomark _)) (pw_and1 (pt_cmpR op_gt (pv 1) pe_int (nomark _))))) (pss_one (ps_set (i := 4) scGraph.nd rfl (.inl rfl) (pe_call GG (hr.mono (by decide)) (by rfl) mG kG bG .nil pass0 (pa_cons (pv 0) (pa_cons (pe_call GR (hr.mono (by decide)) (by rfl) mR kR bR .nil pass0 (pa_cons pe_int pa_nil)) (pa_cons (pe_op op_add pe_int (pe_call GD (hr.mono (by decide)) (by rfl) mD kD bD .nil pass0 (pa_cons (pv 0) (pa_cons (pe_op op_sub (pv 1) pe_int) pa_nil)))) pa_nil)))))) pss_nil)
    (pss_cons (ps_if (pt_cmpR op_eq (pe_call GD (hr.mono (by decide)) (by rfl) mD kD bD .nil pass0 (pa_cons (pv 0) (pa_cons pe_int pa_nil))) pe_int (nomark _)) (pss_one (ps_set (i := 4) scGraph.nd rfl (.inl rfl) (pe_call GU (hr.mono (by decide)) (by rfl) mU kU bU .nil pass0 (pa_cons (pv 4) pa_nil)))) pss_nil)
    (pss_one (ps_ret (pe_call GC (hr.mono (by decide)) (by rfl) mC kC bC .nil pass0 (pa_cons (pv 4) (pa_cons (pe_call GO (hr.mono (by decide)) (by rfl) mO kO bO .nil pass0 (pa_cons (pv 0) (pa_cons (pe_ix ix_tup (pv 4) pe_int (fun _ _ => rfl)) pa_nil))) pa_nil)))))))))))))), ?_⟩
  refine ⟨_, rfl, _, rfl, _, _, rfl, rfl, p, _, rfl, hW, by omega, by omega, fun n0 H1 l0 u0 b1 w1 => ?_⟩
  refine ⟨_, rfl, p, _, rfl, w1, by decide, by decide, fun way H2 l1 u1 b2 w2 => ?_⟩
  refine ⟨_, _, rfl, ?_⟩
  refine ⟨_, rfl, p, _, rfl, w2, by decide, by decide, fun d H3 _ _ b3 w3 => ?_⟩
  have b03 : But p H H3 := b1.trans (b2.trans b3)
  refine ⟨rfl, _, rfl, ?_⟩
  obtain ⟨n1, rfl⟩ : ∃ n1 : Nat, n0 = (n1 : Int) := ⟨n0.toNat, by omega⟩
  refine' joinS (i := 2) (R := fun y H' => ∃ n : Nat, y = .int (n : Int) ∧ n ≤ most ∧ But p H H' ∧ Wl H' p) (fun go => ?_) ?_
  rotate_left 2
  · refine iteB (fun _ => ?_) (fun _ => ?_)
    · exact ⟨_, rfl, go _ _ ⟨n1, rfl, by omega, b03, w3⟩⟩
    · refine ⟨_, rfl, _, rfl, _, rfl, p, _, rfl, w3, by decide, by decide, fun d2 H4 l4 u4 b4 w4 => ?_⟩
      refine ⟨_, _, rfl, rfl, _, _, rfl, go _ _ ⟨(max n1 (((most : Int) - d2).toNat)), ?_, by omega, b03.trans b4, w4⟩⟩
      congr 1
      split <;> omega
  rintro _ H4 ⟨n, rfl, nm, b4, w4⟩
  have n9 : n ≤ 9 := by omega
  refine ⟨_, rfl, _, rfl, p, n, rfl, w4, n9, fun x5 es5 H5 b45 w5 h5 g5 => ?_⟩
  have b5 := b4.trans b45
  have m5 := nm
  refine' joinT (R := fun σ H' => ∃ (y : V) (m : Nat) (es : List E2), σ = [some (.ref p), some (.int (most : Int)), some (.int (n : Int)), some (.int way), some y] ∧ m ≤ most ∧ But p H H' ∧ Wl H' p ∧ GraphAt K H' y m es ∧ Good m es) (fun go => ?_) ?_
  rotate_left 1
  · refine ⟨_, rfl, rfl, _, rfl, iteB (fun _ => ?tt1) (fun _ => ?ff1)⟩
    case ff1 => exact go _ _ ⟨x5, n, es5, rfl, m5, b5, w5, h5, g5⟩
    case tt1 => exact ⟨_, rfl, _, rfl, p, n, rfl, w5, n9, fun x es H' b w' hx gx => go _ _ ⟨x, n, es, rfl, nm, b5.trans b, w', hx, gx⟩⟩
  rintro _ H6 ⟨x6, m6, es6, rfl, n6, b6, w6, h6, g6⟩
  refine' joinT (R := fun σ H' => ∃ (y : V) (m : Nat) (es : List E2), σ = [some (.ref p), some (.int (most : Int)), some (.int (n : Int)), some (.int way), some y] ∧ m ≤ most ∧ But p H H' ∧ Wl H' p ∧ GraphAt K H' y m es ∧ Good m es) (fun go => ?_) ?_
  rotate_left 1
  · refine ⟨_, rfl, rfl, _, rfl, iteB (fun _ => ?tt2) (fun _ => iteF ?ff2)⟩
    case ff2 => exact go _ _ ⟨x6, m6, es6, rfl, n6, b6, w6, h6, g6⟩
    refine ⟨_, rfl, _, _, rfl, rfl, _, rfl, iteB (fun c => ?_) (fun _ => go _ _ ⟨x6, m6, es6, rfl, n6, b6, w6, h6, g6⟩)⟩
    have c1 : (0 : Int) < (n : Int) := of_decide_eq_true c
    exact ⟨_, rfl, _, rfl, p, n, rfl, w6, by omega, n9, fun x es H' b w' hx gx => go _ _ ⟨x, n, es, rfl, nm, b6.trans b, w', hx, gx⟩⟩
  rintro _ H7 ⟨x7, m7, es7, rfl, n7, b7, w7, h7, g7⟩
  refine' joinT (R := fun σ H' => ∃ (y : V) (m : Nat) (es : List E2), σ = [some (.ref p), some (.int (most : Int)), some (.int (n : Int)), some (.int way), some y] ∧ m ≤ most ∧ But p H H' ∧ Wl H' p ∧ GraphAt K H' y m es ∧ Good m es) (fun go => ?_) ?_
  rotate_left 1
  · refine ⟨_, rfl, (by show 3 ≤ sizeLine; decide), fun t nt => ?_⟩
    have s1 := same_new nt (.tup [.int 2, .int 3, .int 4])
    have w8 := w7.same s1
    have b8 := b7.trans (But.of s1)
    have h8 := h7.same s1
    refine ⟨t, _, rfl, .inr (SqT.of upd_same), rfl, rfl, _, rfl, iteB (fun _ => ?tt3) (fun _ => iteF ?ff3)⟩
    case ff3 => exact go _ _ ⟨x7, m7, es7, rfl, n7, b8, w8, h8, g7⟩
    refine ⟨_, rfl, _, _, rfl, rfl, _, rfl, iteB (fun c => ?_) (fun _ => go _ _ ⟨x7, m7, es7, rfl, n7, b8, w8, h8, g7⟩)⟩
    have c1 : (4 : Int) < (most : Int) := of_decide_eq_true c
    refine ⟨_, rfl, 5, rfl, by decide, by decide, fun x es H' s' hx gx => ?_⟩
    refine ⟨_, rfl, _, rfl, _, _, rfl, rfl, p, _, rfl, w8.same s', by omega, by omega, fun d H2 d0 d1 b2 w2 => ?_⟩
    obtain ⟨dn, rfl⟩ : ∃ dn : Nat, d = (dn : Int) := ⟨d.toNat, by omega⟩
    exact ⟨_, _, rfl, rfl, p, x, 5, 5 + dn, es, rfl, w2, hx.ts (TS.but b2 (w8.same s')), gx, by decide, by omega, by omega, fun y fs H3 b3 w3 hy gy => go _ _ ⟨y, 5 + dn, fs, rfl, by omega, b8.trans ((But.of s').trans (b2.trans b3)), w3, hy, gy⟩⟩
  rintro _ H9 ⟨x9, m9, es9, rfl, n9, b9, w9, h9, g9⟩
  refine' joinT (R := fun σ H' => ∃ (y : V) (m : Nat) (es : List E2), σ = [some (.ref p), some (.int (most : Int)), some (.int (n : Int)), some (.int way), some y] ∧ m ≤ most ∧ But p H H' ∧ Wl H' p ∧ GraphAt K H' y m es ∧ Good m es) (fun go => ?_) ?_
  rotate_left 1
  · refine ⟨_, rfl, rfl, _, rfl, iteB (fun _ => ?tt4) (fun _ => iteF ?ff4)⟩
    case ff4 => exact go _ _ ⟨x9, m9, es9, rfl, n9, b9, w9, h9, g9⟩
    refine ⟨_, rfl, _, _, rfl, rfl, _, rfl, iteB (fun c => ?_) (fun _ => go _ _ ⟨x9, m9, es9, rfl, n9, b9, w9, h9, g9⟩)⟩
    have c1 : (6 : Int) < (most : Int) := of_decide_eq_true c
    refine ⟨_, rfl, _, rfl, (by show 3 ≤ sizeLine; decide), fun t nt => ?_⟩
    have s1 := same_new nt (.tup [.int 6, .int 7, .int 7])
    have w8 := w9.same s1
    refine ⟨p, t, _, rfl, w8, w8.off (SqT.of upd_same), by decide, by decide, fun i v H2 hi b2 w2 => ?_⟩
    obtain ⟨c, rfl, c2, c3⟩ : ∃ c : Nat, v = .int (c : Int) ∧ 6 ≤ c ∧ c ≤ 7 := by
      have m := List.mem_of_getElem? hi
      simp only [List.mem_cons, List.mem_nil_iff, or_false] at m
      rcases m with rfl | rfl | rfl
      · exact ⟨6, rfl, by decide, by decide⟩
      · exact ⟨7, rfl, by decide, by decide⟩
      · exact ⟨7, rfl, by decide, by decide⟩
    refine ⟨c, rfl, by omega, by omega, fun x es H' s' hx gx => ?_⟩
    exact ⟨_, rfl, p, x, c, most, es, rfl, w2.same s', hx, gx, by omega, by omega, by omega, fun y fs H3 b3 w3 hy gy => go _ _ ⟨y, most, fs, rfl, Nat.le_refl _, b9.trans ((But.of s1).trans (b2.trans ((But.of s').trans b3))), w3, hy, gy⟩⟩
  rintro _ H10 ⟨x10, m10, es10, rfl, n10, b10, w10, h10, g10⟩
  refine' joinT (R := fun σ H' => ∃ (y : V) (m : Nat) (es : List E2), σ = [some (.ref p), some (.int (most : Int)), some (.int (n : Int)), some (.int way), some y] ∧ m ≤ most ∧ But p H H' ∧ Wl H' p ∧ GraphAt K H' y m es ∧ Good m es) (fun go => ?_) ?_
  rotate_left 1
  · refine ⟨_, rfl, rfl, _, rfl, iteB (fun _ => ?tt5) (fun _ => iteF ?ff5)⟩
    case ff5 => exact go _ _ ⟨x10, m10, es10, rfl, n10, b10, w10, h10, g10⟩
    refine ⟨_, rfl, _, _, rfl, rfl, _, rfl, iteB (fun c => ?_) (fun _ => go _ _ ⟨x10, m10, es10, rfl, n10, b10, w10, h10, g10⟩)⟩
    have c1 : (3 : Int) < (most : Int) := of_decide_eq_true c
    refine ⟨_, rfl, 4, rfl, by decide, by decide, fun x es H' s' hx gx => ?_⟩
    refine ⟨_, rfl, _, rfl, _, _, rfl, rfl, p, _, rfl, w10.same s', by omega, by omega, fun d H2 d0 d1 b2 w2 => ?_⟩
    obtain ⟨dn, rfl⟩ : ∃ dn : Nat, d = (dn : Int) := ⟨d.toNat, by omega⟩
    exact ⟨_, _, rfl, rfl, p, x, 4, 4 + dn, es, rfl, w2, hx.ts (TS.but b2 (w10.same s')), gx, by decide, by omega, by omega, fun y fs H3 b3 w3 hy gy => go _ _ ⟨y, 4 + dn, fs, rfl, by omega, b10.trans ((But.of s').trans (b2.trans b3)), w3, hy, gy⟩⟩
  rintro _ H11 ⟨x11, m11, es11, rfl, n11, b11, w11, h11, g11⟩
  refine' joinT (R := fun σ H' => ∃ (y : V) (m : Nat) (es : List E2), σ = [some (.ref p), some (.int (most : Int)), some (.int (n : Int)), some (.int way), some y] ∧ m ≤ most ∧ But p H H' ∧ Wl H' p ∧ GraphAt K H' y m es ∧ Good m es) (fun go => ?_) ?_
  rotate_left 1
  · refine ⟨_, rfl, p, _, rfl, w11, by decide, by decide, fun d H' _ _ b12 w12 => ?_⟩
    have h12 := h11.ts (TS.but b12 w11)
    refine ⟨rfl, _, rfl, iteB (fun _ => ?tt6) (fun _ => ?ff6)⟩
    case ff6 => exact go _ _ ⟨x11, m11, es11, rfl, n11, b11.trans b12, w12, h12, g11⟩
    exact ⟨_, rfl, x11, m11, es11, rfl, h12, g11.n9, fun y H2 s2 hy => go _ _ ⟨y, m11, _, rfl, n11, b11.trans (b12.trans (But.of s2)), w12.same s2, hy, good_left g11.n9 es11⟩⟩
  rintro _ H13 ⟨x13, m13, es13, rfl, n13, b13, w13, h13, g13⟩
  have h14 := h13
  obtain ⟨t, e, xs, rfl, ht, he, hes⟩ := h13
  refine ⟨_, rfl, _, rfl, _, rfl, t, _, _, _, rfl, rfl, ht, rfl, p, m13, rfl, w13, g13.n9, fun a ns H' b w' ha pm => ?_⟩
  exact ⟨.ref t, a, m13, es13, ns, rfl, h14.ts (TS.but b w13), g13, ha, pm, fun z fs H2 s2 hz gz => q z m13 fs H2 n13 (b13.trans (b.trans (But.of s2))) (w'.same s2) hz gz⟩
end
end My

set_option maxHeartbeats 2000000
/-! graph6 in plain Lean. -/
namespace My
open PySem PySem.Spec PyProof.Rows L2
/-- a walk from any heap on: S says a turn, by what follows it -/
theorem lo_it {J : It} {n : Nat} {G : Hp → Prop} {Y : Nat → Hp → V → Hp → Prop} (w : Walk J n G Y) {S : V → Hp → (Hp → Prop) → Prop} {Qd : Hp → Prop} {H0 : Hp} (Pv : Nat → Hp → Prop) (h0 : Pv 0 H0) (hG : ∀ i H, i ≤ n → Pv i H → G H)
    (hs : ∀ i x H H', i < n → Pv i H → Y i H x H' → S x H' (Pv (i + 1))) (hd : ∀ H, Pv n H → Qd H) :
    ∃ W : Nat → Nat → Hp → Prop, (∃ m, W 0 m H0) ∧ ∀ i m H, W i m H → (J.stop i H ∧ Qd H) ∨ (J.go i H ∧ ∃ Nx : Hp → Prop, (∀ H', Nx H' → ∃ m', m' < m ∧ W (i + 1) m' H') ∧ ∀ x H', J.yld i H x H' → S x H' Nx) := by
  refine ⟨fun i m H => i + m = n ∧ Pv i H, ⟨n, Nat.zero_add n, h0⟩, fun i m H hw => ?_⟩
  obtain ⟨e, pv⟩ := hw
  have g := hG i H (by omega) pv
  rcases Nat.eq_zero_or_pos m with z | z
  · have en : i = n := by omega
    subst en
    exact .inl ⟨w.stops H g, hd H pv⟩
  · refine .inr ⟨w.goes i H (by omega) g, Pv (i + 1), fun H' pv' => ⟨m - 1, by omega, by omega, pv'⟩, fun x H' y => ?_⟩
    exact hs i x H H' (by omega) pv (w.yields i H x H' (by omega) g y)
/-- the pairs by their greater number, then by the lesser -/
def pairsG (n : Nat) : List E2 := (List.range n).flatMap fun v => (List.range v).map fun u => (u, v)
def bit1 (es : List E2) (p : E2) : Nat := if p ∈ es then 1 else 0
def bitsOf (n : Nat) (es : List E2) : List Nat := (pairsG n).map (bit1 es)
def pad (b : List Nat) : List Nat := b ++ List.replicate ((b.length + 5) / 6 * 6 - b.length) 0
def numOf (b : List Nat) : Nat := b.foldl (fun a x => 2 * a + x) 0
def chunk (b : List Nat) (i : Nat) : List Nat := (b.drop (6 * i)).take 6
def groups (b : List Nat) : Nat := (b.length + 5) / 6
/-- the text of signs told by numbers -/
def tx (ks : List Nat) : Str := ⟨(ks.map (63 + ·)).toArray⟩
/-- the 64 signs -/
def SG : Str := tx (List.range 64)
def codeL (n : Nat) (es : List E2) : List Nat := n :: (List.range (groups (bitsOf n es))).map fun i => numOf (chunk (pad (bitsOf n es)) i)
theorem tx_len (ks : List Nat) : (tx ks).length = ks.length := by
  show ((ks.map (63 + ·)).toArray).size = _
  rw [List.size_toArray, List.length_map]
theorem tx_append (ks ls : List Nat) : tx ks ++ tx ls = tx (ks ++ ls) := by
  show Str.append _ _ = _
  unfold Str.append tx
  rw [List.map_append]
  simp
theorem join_tx : ∀ ks : List Nat, Str.join "" (ks.map fun k => tx [k]) = tx ks
  | [] => rfl
  | [k] => rfl
  | k :: l :: ks => by
    show tx [k] ++ (("" : String) : Str) ++ Str.join "" ((l :: ks).map fun k => tx [k]) = _
    rw [join_tx (l :: ks)]
    have e : tx [k] ++ (("" : String) : Str) = tx [k] := by
      show Str.append _ _ = _
      unfold Str.append
      have z : ((("" : String) : Str)).cps = #[] := by decide +kernel
      rw [z, Array.append_empty]
    rw [e, tx_append]
    rfl
theorem pairsG_succ (n : Nat) : pairsG (n + 1) = pairsG n ++ (List.range n).map fun u => (u, n) := by
  unfold pairsG
  rw [List.range_succ, List.flatMap_append, List.flatMap_cons, List.flatMap_nil, List.append_nil]
theorem pairsG_few : ∀ n, n ≤ 9 → (pairsG n).length ≤ 36 := by decide +kernel
theorem mem_pairsG {n : Nat} {p : E2} : p ∈ pairsG n ↔ p.1 < p.2 ∧ p.2 < n := by
  unfold pairsG
  rw [List.mem_flatMap]
  constructor
  · rintro ⟨v, hv, h⟩
    obtain ⟨u, hu, rfl⟩ := List.mem_map.mp h
    exact ⟨List.mem_range.mp hu, List.mem_range.mp hv⟩
  · rintro ⟨h1, h2⟩
    exact ⟨p.2, List.mem_range.mpr h2, List.mem_map.mpr ⟨p.1, List.mem_range.mpr h1, rfl⟩⟩
theorem bits_len (n : Nat) (es : List E2) : (bitsOf n es).length = (pairsG n).length := List.length_map _
theorem bits_few {n : Nat} (h : n ≤ 9) (es : List E2) : (bitsOf n es).length ≤ 36 := by rw [bits_len]; exact pairsG_few n h
theorem bits_le (n : Nat) (es : List E2) : ∀ b ∈ bitsOf n es, b ≤ 1 := by
  intro b hb
  obtain ⟨p, _, rfl⟩ := List.mem_map.mp hb
  unfold bit1
  split <;> omega
theorem pad_len (b : List Nat) : (pad b).length = 6 * groups b := by
  unfold pad groups
  rw [List.length_append, List.length_replicate]
  omega
theorem pad_le {b : List Nat} (h : ∀ x ∈ b, x ≤ 1) : ∀ x ∈ pad b, x ≤ 1 := by
  intro x hx
  rcases List.mem_append.mp hx with hx | hx
  · exact h x hx
  · rw [(List.mem_replicate.mp hx).2]
    exact Nat.zero_le _
theorem foldl_lt : ∀ (b : List Nat) (a k : Nat), (∀ x ∈ b, x ≤ 1) → a < 2 ^ k → b.foldl (fun a x => 2 * a + x) a < 2 ^ (k + b.length)
  | [], a, k, _, h => h
  | x :: b, a, k, hb, h => by
    have hx := hb x (List.mem_cons_self ..)
    have z := foldl_lt b (2 * a + x) (k + 1) (fun y hy => hb y (List.mem_cons_of_mem _ hy)) (by rw [Nat.pow_succ]; omega)
    rw [List.foldl_cons, List.length_cons, show k + (b.length + 1) = k + 1 + b.length by omega]
    exact z
theorem numOf_lt {b : List Nat} (h : ∀ x ∈ b, x ≤ 1) : numOf b < 2 ^ b.length := by
  have z := foldl_lt b 0 0 h (by decide)
  rw [Nat.zero_add] at z
  exact z
theorem numOf_snoc (b : List Nat) (x : Nat) : numOf (b ++ [x]) = 2 * numOf b + x := by
  unfold numOf
  rw [List.foldl_append]
  rfl
theorem chunk_sub (b : List Nat) (i : Nat) : ∀ x ∈ chunk b i, x ∈ b := fun x hx => List.mem_of_mem_drop (List.mem_of_mem_take hx)
theorem chunk_len {b : List Nat} {i : Nat} (h : 6 * i + 6 ≤ b.length) : (chunk b i).length = 6 := by
  unfold chunk
  rw [List.length_take, List.length_drop]
  omega
theorem chunk_lt {b : List Nat} {i : Nat} (hb : ∀ x ∈ b, x ≤ 1) : numOf (chunk b i) < 64 := by
  have z := numOf_lt (b := chunk b i) fun x hx => hb x (chunk_sub b i x hx)
  have l : (chunk b i).length ≤ 6 := by
    unfold chunk
    rw [List.length_take]
    omega
  exact Nat.lt_of_lt_of_le z (Nat.pow_le_pow_right (by decide) l)
theorem SG_at : ∀ k : Nat, k < 64 → atI SG.cps.toList (k : Int) = some (63 + k) := by
  intro k hk
  refine atI_nat ?_
  show ((List.range 64).map (63 + ·))[k]? = _
  rw [List.getElem?_map, List.getElem?_range hk]
  rfl
theorem six : ∀ k : Nat, k ≤ 42 → RgC 0 (k : Int) 6 ((k + 5) / 6) := by
  have h : ∀ k : Nat, k ≤ 42 → Builtin.Range.small 0 (k : Int) 6 = true ∧ Builtin.Range.rangeSize 0 (k : Int) 6 = (((k + 5) / 6 : Nat) : Int) := by decide +kernel
  exact fun k hk => ⟨by decide, by decide, (h k hk).1, (h k hk).2⟩
end My

set_option maxHeartbeats 2000000
/-! Reading graph6, in plain Lean: by the signs' codes. -/
namespace My
open PySem PySem.Spec PyProof.Rows L2
/-- the sign c can stand at place a behind the first one, with L pairs to tell -/
def goodS (L a c : Nat) : Bool := decide (63 ≤ c ∧ c < 127) && decide (6 * a < L) && decide ((c - 63) % 2 ^ (6 - (L - 6 * a)) = 0)
/-- where it is wrong, by how many signs are right -/
def scan (L : Nat) : Nat → List Nat → Option Nat
  | a, [] => if 6 * a < L then some (a + 1) else none
  | a, c :: cs => if goodS L a c = true then scan L (a + 1) cs else some (a + 1)
def bits6 (c : Nat) : List Nat := [5, 4, 3, 2, 1, 0].map fun p => (c - 63) / 2 ^ p % 2
def bitsC (cs : List Nat) : List Nat := cs.flatMap bits6
def tellP (ps : List E2) (bs : List Nat) : List E2 := ((ps.zip bs).filter fun q => q.2 != 0).map (·.1)
inductive RdG where
  | bad (k : Nat)
  | told (n : Nat) (ps : List E2)
def readG : List Nat → RdG
  | [] => .bad 0
  | c :: cs => if 63 ≤ c ∧ c ≤ 72 then match scan (pairsG (c - 63)).length 0 cs with
    | some k => .bad k
    | none => .told (c - 63) (tellP (pairsG (c - 63)) (bitsC cs))
    else .bad 0
theorem bitsC_len (cs : List Nat) : (bitsC cs).length = 6 * cs.length := by
  unfold bitsC
  induction cs with
  | nil => rfl
  | cons c cs ih => rw [List.flatMap_cons, List.length_append, ih, List.length_cons]; show 6 + _ = _; omega
theorem eq_of_up : ∀ {es fs : List E2}, es.Pairwise ahead → fs.Pairwise ahead → (∀ q, q ∈ es ↔ q ∈ fs) → es = fs
  | [], [], _, _, _ => rfl
  | [], f :: fs, _, _, h => absurd ((h f).mpr (List.mem_cons_self ..)) (fun z => nomatch z)
  | e :: es, [], _, _, h => absurd ((h e).mp (List.mem_cons_self ..)) (fun z => nomatch z)
  | e :: es, f :: fs, he, hf, h => by
    obtain ⟨e1, e2⟩ := List.pairwise_cons.mp he
    obtain ⟨f1, f2⟩ := List.pairwise_cons.mp hf
    have ef : e = f := by
      rcases List.mem_cons.mp ((h e).mp (List.mem_cons_self ..)) with z | z
      · exact z
      · rcases List.mem_cons.mp ((h f).mpr (List.mem_cons_self ..)) with y | y
        · exact y.symm
        · have a1 := f1 e z
          have a2 := e1 f y
          unfold ahead at a1 a2
          omega
    subst ef
    refine congrArg (e :: ·) (eq_of_up e2 f2 fun q => ⟨fun z => ?_, fun z => ?_⟩)
    · rcases List.mem_cons.mp ((h q).mp (List.mem_cons_of_mem _ z)) with y | y
      · exact absurd (e1 q z) (fun w => ahead_ne w y.symm)
      · exact y
    · rcases List.mem_cons.mp ((h q).mpr (List.mem_cons_of_mem _ z)) with y | y
      · exact absurd (f1 q z) (fun w => ahead_ne w y.symm)
      · exact y
theorem tellP_snoc {ps : List E2} {bs : List Nat} {p : E2} {b : Nat} (h : ps.length = bs.length) : tellP (ps ++ [p]) (bs ++ [b]) = tellP ps bs ++ (if b != 0 then [p] else []) := by
  unfold tellP
  rw [List.zip_append h, List.filter_append, List.map_append]
  congr 1
  show (([(p, b)] : List (E2 × Nat)).filter _).map _ = _
  cases e : (b != 0)
  · rw [List.filter_cons_of_neg (by simpa using e)]
    rfl
  · rw [List.filter_cons_of_pos (by simpa using e)]
    rfl
theorem tellP_sub (ps : List E2) (bs : List Nat) : ∀ q ∈ tellP ps bs, q ∈ ps := by
  intro q hq
  obtain ⟨r, hr, rfl⟩ := List.mem_map.mp hq
  exact (List.of_mem_zip (List.mem_filter.mp hr).1).1
/-! ### there and back -/
theorem bits6_of : ∀ a b c d e f : Nat, a ≤ 1 → b ≤ 1 → c ≤ 1 → d ≤ 1 → e ≤ 1 → f ≤ 1 → bits6 (63 + numOf [a, b, c, d, e, f]) = [a, b, c, d, e, f] := by
  have h : ∀ a b c d e f : Fin 2, bits6 (63 + numOf [a.val, b.val, c.val, d.val, e.val, f.val]) = [a.val, b.val, c.val, d.val, e.val, f.val] := by decide +kernel
  exact fun a b c d e f h1 h2 h3 h4 h5 h6 => h ⟨a, by omega⟩ ⟨b, by omega⟩ ⟨c, by omega⟩ ⟨d, by omega⟩ ⟨e, by omega⟩ ⟨f, by omega⟩
theorem bits6_chunk {b : List Nat} (l : b.length = 6) (h : ∀ x ∈ b, x ≤ 1) : bits6 (63 + numOf b) = b := by
  match b, l, h with
  | [a, b, c, d, e, f], _, h => exact bits6_of a b c d e f (h a (by simp)) (h b (by simp)) (h c (by simp)) (h d (by simp)) (h e (by simp)) (h f (by simp))
theorem chunks_all {b : List Nat} : ∀ m, b.length = 6 * m → (List.range m).flatMap (chunk b) = b
  | 0, h => by
    rw [List.range_zero, List.flatMap_nil]
    exact (List.eq_nil_of_length_eq_zero (by omega)).symm
  | m + 1, h => by
    have ih := chunks_all (b := b.drop 6) m (by rw [List.length_drop]; omega)
    rw [List.range_succ_eq_map, List.flatMap_cons, List.flatMap_map]
    have e : (List.range m).flatMap (fun i => chunk b (Nat.succ i)) = (List.range m).flatMap (chunk (b.drop 6)) := by
      congr 1
      funext i
      unfold chunk
      rw [List.drop_drop]
      congr 2
      omega
    rw [e, ih]
    unfold chunk
    rw [Nat.mul_zero, List.drop_zero, List.take_append_drop]
theorem bitsC_code {b : List Nat} {m : Nat} (l : b.length = 6 * m) (h : ∀ x ∈ b, x ≤ 1) : bitsC ((List.range m).map fun i => 63 + numOf (chunk b i)) = b := by
  unfold bitsC
  rw [List.flatMap_map]
  have e : ∀ i ∈ List.range m, bits6 (63 + numOf (chunk b i)) = chunk b i := fun i hi => by
    have im := List.mem_range.mp hi
    exact bits6_chunk (chunk_len (by omega)) fun x hx => h x (chunk_sub b i x hx)
  have e2 : (List.range m).flatMap (fun i => bits6 (63 + numOf (chunk b i))) = (List.range m).flatMap (chunk b) := by
    rw [List.flatMap_def, List.flatMap_def, List.map_congr_left e]
  rw [e2, chunks_all m l]
theorem numOf_zeros (b : List Nat) : ∀ k, numOf (b ++ List.replicate k 0) = numOf b * 2 ^ k
  | 0 => by rw [List.replicate_zero, List.append_nil, Nat.pow_zero, Nat.mul_one]
  | k + 1 => by
    rw [List.replicate_succ', ← List.append_assoc, numOf_snoc, numOf_zeros b k, Nat.pow_succ, Nat.add_zero, Nat.mul_comm 2, Nat.mul_assoc]
theorem goodS_code {bs : List Nat} {i : Nat} (h : ∀ x ∈ bs, x ≤ 1) (hi : i < groups bs) : goodS bs.length i (63 + numOf (chunk (pad bs) i)) = true := by
  have lt := chunk_lt (i := i) (pad_le h)
  unfold groups at hi
  unfold goodS
  rw [Bool.and_eq_true, Bool.and_eq_true]
  refine ⟨⟨decide_eq_true (by omega), decide_eq_true (by omega)⟩, decide_eq_true ?_⟩
  rw [Nat.add_sub_cancel_left]
  by_cases f : 6 * i + 6 ≤ bs.length
  · rw [show 6 - (bs.length - 6 * i) = 0 by omega, Nat.pow_zero, Nat.mod_one]
  · have e : chunk (pad bs) i = bs.drop (6 * i) ++ List.replicate (6 - (bs.length - 6 * i)) 0 := by
      unfold chunk pad
      rw [List.drop_append_of_le_length (by omega)]
      rw [List.take_of_length_le (by rw [List.length_append, List.length_drop, List.length_replicate]; omega)]
      congr 2
      omega
    rw [e, numOf_zeros, Nat.mul_mod_left]
theorem scan_code {L m : Nat} (f : Nat → Nat) (hm : m = (L + 5) / 6) (h : ∀ i, i < m → goodS L i (f i) = true) : ∀ k, k ≤ m → scan L k (((List.range m).drop k).map f) = none := by
  intro k hk
  induction e : m - k generalizing k with
  | zero =>
    have : k = m := by omega
    subst this
    rw [List.drop_eq_nil_of_le (by rw [List.length_range]; exact Nat.le_refl _)]
    show (if 6 * k < L then some (k + 1) else none) = none
    rw [if_neg (by omega)]
  | succ d ih =>
    have lk : k < (List.range m).length := by rw [List.length_range]; omega
    rw [List.drop_eq_getElem_cons lk, List.getElem_range, List.map_cons]
    show (if goodS L k (f k) = true then scan L (k + 1) _ else some (k + 1)) = none
    rw [if_pos (h k (by omega))]
    exact ih (k + 1) (by omega) (by omega)
theorem tellP_bits (es : List E2) : ∀ (ps : List E2) (k : Nat), tellP ps (ps.map (bit1 es) ++ List.replicate k 0) = ps.filter fun p => decide (p ∈ es)
  | [], k => by
    unfold tellP
    rw [List.zip_nil_left]
    rfl
  | p :: ps, k => by
    have ih := tellP_bits es ps k
    unfold tellP at ih ⊢
    rw [List.map_cons, List.cons_append, List.zip_cons_cons]
    unfold bit1 at *
    by_cases h : p ∈ es
    · rw [List.filter_cons_of_pos (by simp [h]), List.map_cons, List.filter_cons_of_pos (by simpa using h), ih]
    · rw [List.filter_cons_of_neg (by simp [h]), List.filter_cons_of_neg (by simpa using h), ih]
/-- the text of a graph, read -/
theorem read_code {n : Nat} {es : List E2} (g : Good n es) : readG ((codeL n es).map (63 + ·)) = .told n ((pairsG n).filter fun p => decide (p ∈ es)) := by
  unfold codeL
  rw [List.map_cons, List.map_map]
  have n9 := g.n9
  have hb := bits_le n es
  show (if 63 ≤ 63 + n ∧ 63 + n ≤ 72 then _ else _) = _
  rw [if_pos (by omega), Nat.add_sub_cancel_left]
  have e1 : ((fun x => 63 + x) ∘ fun i => numOf (chunk (pad (bitsOf n es)) i)) = fun i => 63 + numOf (chunk (pad (bitsOf n es)) i) := rfl
  rw [e1]
  have s := scan_code (L := (pairsG n).length) (m := groups (bitsOf n es)) (fun i => 63 + numOf (chunk (pad (bitsOf n es)) i)) (by unfold groups; rw [bits_len]) (fun i hi => by rw [← bits_len n es]; exact goodS_code hb hi) 0 (Nat.zero_le _)
  rw [List.drop_zero] at s
  rw [s, bitsC_code (pad_len _) (pad_le hb)]
  show RdG.told n (tellP (pairsG n) (pad (bitsOf n es))) = _
  unfold pad
  rw [show bitsOf n es = (pairsG n).map (bit1 es) from rfl, tellP_bits]
end My

set_option maxHeartbeats 2000000
/-! Pairs that stand in the heap by themselves; sorted lists of them. -/
namespace My
open PySem PySem.Spec PyProof.Rows L2
def PairT (H : Hp) (x : V) (p : E2) : Prop := ∃ t, x = .ref t ∧ H t = some (.tup [.int (p.1 : Int), .int (p.2 : Int)])
abbrev PairsT (H : Hp) : List V → List E2 → Prop := Paired (PairT H)
theorem PairT.at {K : PySem.W.Frag} {H : Hp} {x : V} {p : E2} (h : PairT H x p) : PairAt K H x p := by
  obtain ⟨t, e, h⟩ := h
  exact ⟨t, e, SqT.of h⟩
theorem PairsT.at {K : PySem.W.Frag} {H : Hp} : ∀ {xs : List V} {ps : List E2}, PairsT H xs ps → PairsAt K H xs ps
  | _, _, .nil => .nil
  | _, _, .cons a b => .cons a.at (PairsT.at b)
theorem PairsT.same {H H' : Hp} (s : Same H H') : ∀ {xs : List V} {ps : List E2}, PairsT H xs ps → PairsT H' xs ps
  | _, _, .nil => .nil
  | _, _, .cons ⟨t, e, h⟩ b => .cons ⟨t, e, s _ _ h⟩ (PairsT.same s b)
theorem PairsT.put {H : Hp} {D : Addr} {o : HO} {zs : List V} (hD : H D = some (.lst zs)) : ∀ {xs : List V} {ps : List E2}, PairsT H xs ps → PairsT (upd H D o) xs ps
  | _, _, .nil => .nil
  | _, _, .cons ⟨t, e, h⟩ b => .cons ⟨t, e, by rw [upd_ne (fun z => by rw [z, hD] at h; cases h)]; exact h⟩ (PairsT.put hD b)
theorem PairsT.append {H : Hp} : ∀ {xs ys : List V} {ps qs : List E2}, PairsT H xs ps → PairsT H ys qs → PairsT H (xs ++ ys) (ps ++ qs)
  | _, _, _, _, .nil, h => h
  | _, _, _, _, .cons a b, h => .cons a (PairsT.append b h)
theorem PairsT.len {H : Hp} : ∀ {xs : List V} {ps : List E2}, PairsT H xs ps → xs.length = ps.length
  | _, _, .nil => rfl
  | _, _, .cons _ b => congrArg (· + 1) (PairsT.len b)
theorem push_pairT {H : Hp} {D r : Addr} {zs : List V} {ps : List E2} (p : E2) (hD : H D = some (.lst zs)) (nr : H r = none) (h : PairsT H zs ps) :
    PairsT (upd (upd H r (.tup [.int (p.1 : Int), .int (p.2 : Int)])) D (.lst (zs ++ [.ref r]))) (zs ++ [.ref r]) (ps ++ [p]) := by
  have s1 : Same H (upd H r (.tup [.int (p.1 : Int), .int (p.2 : Int)])) := fun b u q => by rw [upd_ne (ne_of_none q nr)]; exact q
  have h2 : PairsT (upd H r (.tup [.int (p.1 : Int), .int (p.2 : Int)])) (zs ++ [.ref r]) (ps ++ [p]) := (h.same s1).append (.cons ⟨r, rfl, upd_same⟩ .nil)
  exact h2.put (s1 _ _ hD)
/-- the numbers of a pair at a value -/
def kOf (H : Hp) (x : V) : Int × Int := match x with
  | .ref t => match H t with
    | some (.tup [.int i, .int j]) => (i, j)
    | _ => (0, 0)
  | _ => (0, 0)
def gOf (H : Hp) (x : V) : E2 := ((kOf H x).1.toNat, (kOf H x).2.toNat)
theorem kOf_at {H : Hp} {x : V} {p : E2} (h : PairT H x p) : kOf H x = ((p.1 : Int), (p.2 : Int)) := by
  obtain ⟨t, rfl, h⟩ := h
  show (match H t with
    | some (.tup [.int i, .int j]) => (i, j)
    | _ => ((0 : Int), (0 : Int))) = _
  rw [h]
theorem gOf_at {H : Hp} {x : V} {p : E2} (h : PairT H x p) : gOf H x = p := by
  unfold gOf
  rw [kOf_at h]
  rfl
theorem map_gOf {H : Hp} : ∀ {xs : List V} {ps : List E2}, PairsT H xs ps → xs.map (gOf H) = ps
  | _, _, .nil => rfl
  | _, _, .cons a b => by rw [List.map_cons, gOf_at a, map_gOf b]
theorem PairsT.mem {H : Hp} : ∀ {xs : List V} {ps : List E2}, PairsT H xs ps → ∀ x ∈ xs, PairT H x (gOf H x)
  | _, _, .nil => fun _ z => nomatch z
  | _, _, .cons a b => fun x hx => by
    rcases List.mem_cons.mp hx with rfl | hx
    · rw [gOf_at a]; exact a
    · exact PairsT.mem b x hx
theorem PairsT.of_mem {H : Hp} : ∀ {ys : List V}, (∀ y ∈ ys, PairT H y (gOf H y)) → PairsT H ys (ys.map (gOf H))
  | [], _ => .nil
  | y :: ys, h => .cons (h y (List.mem_cons_self ..)) (PairsT.of_mem fun z hz => h z (List.mem_cons_of_mem _ hz))
/-- sorted pairs, none twice, ascend -/
theorem sorted_pairs {H : Hp} {xs ys : List V} {ps : List E2} (h : PairsT H xs ps) (nd : ps.Nodup) (so : SrtO.Srtd (ltP (kOf H)) ys) (st : SrtO.Stb (ltP (kOf H)) ys xs) :
    PairsT H ys (ys.map (gOf H)) ∧ (ys.map (gOf H)).Pairwise ahead ∧ ∀ q, q ∈ ys.map (gOf H) ↔ q ∈ ps := by
  have pm : (ys.map (gOf H)).Perm ps := by
    have z := st.perm.map (gOf H)
    rw [map_gOf h] at z
    exact z
  have hy : ∀ y ∈ ys, PairT H y (gOf H y) := fun y hy => h.mem y (st.perm.mem_iff.mp hy)
  refine ⟨PairsT.of_mem hy, ?_, fun q => pm.mem_iff⟩
  have nd2 : (ys.map (gOf H)).Nodup := pm.nodup_iff.mpr nd
  rw [List.pairwise_map]
  refine (so.and (List.pairwise_map.mp nd2)).imp_of_mem ?_
  intro a b ha hb ⟨le, ne⟩
  have ka := kOf_at (hy a ha)
  have kb := kOf_at (hy b hb)
  have le2 : SrtO.lexB (kOf H b) (kOf H a) = false := le
  rw [ka, kb] at le2
  have le3 := mt (SrtO.lexB_iff (p := (((gOf H b).1 : Int), ((gOf H b).2 : Int))) (q := (((gOf H a).1 : Int), ((gOf H a).2 : Int)))).mpr (by rw [le2]; decide)
  dsimp only at le3
  have ne2 : ¬ ((gOf H a).1 = (gOf H b).1 ∧ (gOf H a).2 = (gOf H b).2) := fun ⟨x, y⟩ => ne (Prod.ext x y)
  unfold ahead
  omega
theorem find_sg : ∀ c : Nat, c < 128 → Txt.find SG ⟨#[c]⟩ = if 63 ≤ c ∧ c < 127 then (c : Int) - 63 else -1 := by decide +kernel
theorem and_one : ∀ x : Nat, x < 64 → Builtin.bitAnd (x : Int) 1 = ((x % 2 : Nat) : Int) := by decide +kernel
/-- the number that a sign tells -/
def nm (c : Nat) : Int := if 63 ≤ c ∧ c < 127 then (c : Int) - 63 else -1
def numsZ (cs : List Nat) : List V := cs.map fun c => V.int (nm c)
theorem scan_good {L : Nat} : ∀ (cs : List Nat) (a : Nat), scan L a cs = none → ∀ i c, cs[i]? = some c → goodS L (a + i) c = true
  | [], _, _, i, c, h => by simp at h
  | d :: cs, a, h, i, c, hi => by
    have h' : (if goodS L a d = true then scan L (a + 1) cs else some (a + 1)) = none := h
    by_cases g : goodS L a d = true
    · rw [if_pos g] at h'
      cases i with
      | zero =>
        have e : d = c := by simpa using hi
        rw [← e]
        exact g
      | succ i =>
        have z := scan_good cs (a + 1) h' i c (by simpa using hi)
        rw [show a + (i + 1) = a + 1 + i by omega]
        exact z
    · rw [if_neg g] at h'
      cases h'
theorem scan_enough {L : Nat} : ∀ (cs : List Nat) (a : Nat), scan L a cs = none → L ≤ 6 * (a + cs.length)
  | [], a, h => by
    have h' : (if 6 * a < L then some (a + 1) else none) = none := h
    by_cases l : 6 * a < L
    · rw [if_pos l] at h'
      cases h'
    · rw [List.length_nil]
      omega
  | d :: cs, a, h => by
    have h' : (if goodS L a d = true then scan L (a + 1) cs else some (a + 1)) = none := h
    by_cases g : goodS L a d = true
    · rw [if_pos g] at h'
      have := scan_enough cs (a + 1) h'
      rw [List.length_cons]
      omega
    · rw [if_neg g] at h'
      cases h'
theorem bits6_at (c : Nat) : ∀ j, j < 6 → (bits6 c)[j]? = some ((c - 63) / 2 ^ (5 - j) % 2) := by
  intro j hj
  unfold bits6
  match j, hj with
  | 0, _ => rfl
  | 1, _ => rfl
  | 2, _ => rfl
  | 3, _ => rfl
  | 4, _ => rfl
  | 5, _ => rfl
theorem places_at {x : V} {j : Nat} (h : ([.int 5, .int 4, .int 3, .int 2, .int 1, .int 0] : List V)[j]? = some x) : j < 6 ∧ x = .int ((5 - j : Nat) : Int) := by
  match j, h with
  | 0, h => exact ⟨by decide, (Option.some.inj h).symm⟩
  | 1, h => exact ⟨by decide, (Option.some.inj h).symm⟩
  | 2, h => exact ⟨by decide, (Option.some.inj h).symm⟩
  | 3, h => exact ⟨by decide, (Option.some.inj h).symm⟩
  | 4, h => exact ⟨by decide, (Option.some.inj h).symm⟩
  | 5, h => exact ⟨by decide, (Option.some.inj h).symm⟩
  | j + 6, h => exact absurd h (by simp)
theorem bitsC_succ {cs : List Nat} {i c : Nat} (h : cs[i]? = some c) : bitsC (cs.take (i + 1)) = bitsC (cs.take i) ++ bits6 c := by
  unfold bitsC
  rw [List.take_succ, h, List.flatMap_append]
  show _ ++ ([c].flatMap bits6) = _
  rw [List.flatMap_cons, List.flatMap_nil, List.append_nil]
theorem pairsG_nodup : ∀ n, n ≤ 9 → (pairsG n).Nodup := by decide +kernel
theorem tellP_sublist : ∀ (ps : List E2) (bs : List Nat), (tellP ps bs).Sublist ps
  | [], bs => by unfold tellP; rw [List.zip_nil_left]; exact List.Sublist.refl _
  | p :: ps, [] => by unfold tellP; rw [List.zip_nil_right]; exact List.nil_sublist _
  | p :: ps, b :: bs => by
    have ih := tellP_sublist ps bs
    unfold tellP at ih ⊢
    rw [List.zip_cons_cons, List.filter_cons]
    split
    · rw [List.map_cons]
      exact ih.cons_cons p
    · exact ih.cons p
theorem tellP_nodup {ps : List E2} {bs : List Nat} (h : ps.Nodup) : (tellP ps bs).Nodup := h.sublist (tellP_sublist ps bs)
end My

set_option maxHeartbeats 2000000
/-! list(text); a, *b = list. -/
namespace My
open PySem PySem.Spec PyProof.Rows L2
def sgnsOf (z : Str) : List V := z.cps.toList.map fun c => V.str ⟨#[c]⟩
section
variable {X : Cx}
def rListT : List V → Hp → VK → Prop := fun xs H Q => ∃ z : Str, xs = [.str z] ∧ z.cps.size ≤ sizeLine ∧ ∀ l, H l = none → Q (.ref l) (upd H l (.lst (sgnsOf z)))
theorem call_listT (hc : X.calm = true) : CallR X (.type "list") rListT := by
  rintro pins s σ H xs us Q I r ⟨z, rfl, hz, q⟩
  obtain ⟨u, rfl, t, rfl⟩ := vals1 r
  refine call_list_str (I.ok.hd hc) z t (hn := hz) fun h' tk acc c' hk e' hi => ?_
  refine ⟨.ref s.heap.objs.size, upd H s.heap.objs.size (.lst (sgnsOf z)), I.laid hk (Nat.le_refl _) (show ObjOk X.prog X.w _ _ _ (.lst (sgnsOf z)) from ⟨?_, acc.toList, c', ?_, ?_⟩), rfl, q _ (I.hok.fresh (Nat.le_refl _))⟩
  · unfold sgnsOf
    rw [List.length_map, Array.length_toList]
    exact hz
  · have la : acc.toList.length = z.cps.size := by rw [Array.length_toList]; exact hi.1
    have es : sgnsOf z = (List.range acc.toList.length).map fun i => V.str ⟨#[z.cps.getD i 0]⟩ := by
      rw [la]
      unfold sgnsOf
      refine List.ext_getElem? fun i => ?_
      rw [List.getElem?_map, List.getElem?_map, Array.getElem?_toList]
      by_cases hi : i < z.cps.size
      · rw [List.getElem?_range hi]
        simp [Array.getD, hi]
      · rw [Array.getElem?_eq_none (by omega), List.getElem?_eq_none (by rw [List.length_range]; omega)]
        rfl
    rw [es]
    refine vals_of_get acc.toList _ fun j u hj => ?_
    obtain ⟨c, t2, h1, rfl⟩ := hi.2 j u (by rw [← hj, Array.getElem?_toList])
    refine ⟨t2, ?_⟩
    have : z.cps.getD j 0 = c := by
      obtain ⟨hlt, e⟩ := Array.getElem?_eq_some_iff.mp h1
      simp [Array.getD, hlt, e]
    rw [this]
  · rw [Array.toArray_toList]
    exact e'
theorem walks_shift {prog : Program} {w : World} {A : Around} {I : Addr} {fp wr : List Addr} {n : Nat} {P : Nat → Value → Prop} {St : Nat → Heap → Prop} (W : Walks prog w A I fp wr (n + 1) P St) : Walks prog w A I fp wr n (fun i => P (i + 1)) (fun i => St (i + 1)) :=
  ⟨W.sub, fun i => W.frame (i + 1), fun i s Q E hi => W.item (i + 1) s Q E (Nat.succ_lt_succ hi), fun s Q E => W.done s Q E, fun i => W.self (i + 1)⟩
/-- a, *b = a list -/
def gStar (K : PySem.W.Frag) (g0 g1 : TG) : TG := fun v σ H Q => ∃ (a : Addr) (x : V) (xs : List V), v = .ref a ∧ SqL K H a (x :: xs) ∧ ∀ l, H l = none → gCons g0 (gCons g1 gNil) [x, .ref l] σ (upd H l (.lst xs)) Q
theorem pg_star {t0 t1 : Expr} {p1 pos : Pos} {k : Nat} {g0 g1 : TG} (hc : X.calm = true) (h0 : PG X t0 g0) (h1 : PG X t1 g1)
    (hs : assignEach [t0, .Starred t1 p1] X.env = [(false, assign t0 X.env), (true, assign t1 X.env)] := by rfl) (hs2 : assignEach [t0, t1] X.env = [(false, assign t0 X.env), (false, assign t1 X.env)] := by rfl) (hs3 : assignEach [t1] X.env = [(false, assign t1 X.env)] := by rfl) : PG X (.Tuple [t0, .Starred t1 p1] k pos) (gStar X.K g0 g1) := by
  have hg : PGs X [t0, t1] (gCons g0 (gCons g1 gNil)) := pgs_cons h0 (pgs_cons h1 pgs_nil (by rw [hs3]; rfl)) (by rw [hs2, hs3]; rfl)
  refine ⟨fun pins s σ H v u Q I r hw => ?_⟩
  obtain ⟨a, x, xs, rfl, hq, hw⟩ := hw
  cases r
  obtain ⟨its, rv, pl, hz⟩ := I.list hq
  cases rv with
  | @cons _ y _ ys r0 rs =>
  rw [assign_Tuple]
  refine wpAny_bind (wpAny_standAt ?_)
  rw [hs]
  unfold unpack
  refine wpAny_bind (wpAny_holding ?_)
  show wpAny _ _ (unpackItems (.ref a) 2 (some 1)) _ _ _
  unfold unpackItems
  refine wpAny_bind ?_
  unfold notIterableAtAll
  refine wpAny_bind (wpAny_specialOf pl.isList.typeIs slot_list_iter.lookup ?_)
  refine wpAny_pure ?_
  simp only [Option.isSome_some, if_true, Bool.false_eq_true, if_false]
  refine wpAny_bind (wpAny_holding (wpAny_pyIter_list pl.isList ?_))
  have ha : a < s.heap.objs.size := by
    obtain ⟨o, ho, _⟩ := pl.isList
    exact Heap.lt_size ho
  have ne : a ≠ s.heap.objs.size := Nat.ne_of_lt ha
  refine wpAny_bind (wpAny_holding ?_)
  unfold draw
  generalize hs0 : s.heap.push { cls := .type "list_iterator", data := .fields #[.ref a, .int 0 0] } = h0'
  have k0 : ∀ b o, s.heap.get? b = some o → h0'.get? b = some o := fun b o e => by rw [← hs0]; exact Heap.get?_push_of_some _ e
  have it0 : h0'.IsListIter s.heap.objs.size a 0 := by rw [← hs0]; exact ⟨_, Heap.get?_push_size _ rfl, rfl, rfl⟩
  have li0 : h0'.IsList a (y :: ys).toArray := pl.isList.at fun o e => k0 a o e
  refine wpAny_bind (wpAny_pyNext_list_item it0 li0 (x := y) rfl fun h1 it1 sb1 => ?_)
  have li1 : h1.IsList a (y :: ys).toArray := li0.extBut sb1.extBut ne
  refine wpAny_bind (wpAny_holding ?_)
  unfold draw
  refine wpAny_pure (wpAny_pure ?_)
  simp only [List.length_singleton, Nat.lt_irrefl, if_false]
  refine wpAny_bind (wpAny_holding ?_)
  have W := walks_shift (n := ys.length) (Walks.list (prog := X.prog) (w := X.w) (A := X.A.in1) (I.ok.hd hc) s.heap.objs.size a ne (y :: ys).toArray)
  have hI : ∀ b ∈ [s.heap.objs.size, a], b < h1.objs.size := fun b hb => by
    rcases List.mem_cons.mp hb with rfl | hb
    · obtain ⟨o, ho, _⟩ := it1
      exact Heap.lt_size ho
    · rw [List.mem_singleton.mp hb]
      obtain ⟨o, ho, _⟩ := li1
      exact Heap.lt_size ho
  have lxy : xs.length = ys.length := Vals.length rs
  have zx : xs.length + 1 ≤ sizeLine := by simpa using hz
  refine wpAny_collect_iter (s := { s with heap := h1 }) (.inr (.inr (.inl rfl))) W.toS (fun _ _ st => st.1.typeIs) ⟨it1, li1⟩ hI (by simp) (fun s' acc mv io => ?_) (by omega)
  have accE : acc.toList = ys := by
    refine List.ext_getElem? fun j => ?_
    by_cases hj : j < acc.size
    · have e1 : acc[j]? = some acc[j] := Array.getElem?_eq_getElem hj
      have e2 := io.2 j _ e1
      rw [Array.getElem?_toList, e1, ← e2]
      simp
    · have l1 := io.1
      rw [List.getElem?_eq_none (by rw [Array.length_toList]; omega), List.getElem?_eq_none (by omega)]
  rw [accE, if_neg (by omega)]
  refine wpAny_bind (wpAny_newObj_type ?_ (by show (List.take _ ys).length ≤ sizeLine; rw [List.length_take]; omega))
  refine wpAny_pure ?_
  have kp : ∀ b o, s.heap.get? b = some o → s'.heap.get? b = some o := fun b o e => by
    have nb : b ≠ s.heap.objs.size := Nat.ne_of_lt (Heap.lt_size e)
    exact mv.heap b o (fun m => nb (List.mem_singleton.mp m)) ((sb1.2 b nb).trans (k0 b o e))
  have es : s' = { s with heap := s'.heap, toks := s'.toks } := by
    have g1 : s'.gens = s.gens := mv.gens
    have g2 : s'.drawn = s.drawn := mv.drawn
    have g3 : s'.os = s.os := mv.os
    cases s'
    cases s
    simp only at g1 g2 g3
    subst g1 g2 g3
    rfl
  have I1 : L2.Inv X pins σ H s' := by
    rw [es]
    exact I.kept (t' := s'.toks) kp
  have tk : List.take (ys.length - (2 - 1 - 1)) ys = ys := List.take_of_length_le (by omega)
  have dr : List.drop (ys.length - (2 - 1 - 1)) ys = [] := List.drop_eq_nil_of_le (by omega)
  rw [tk, dr]
  have I2 := I1.laid (h' := s'.heap.push { cls := .type "list", data := .seq ys.toArray }) (a := s'.heap.objs.size) (o := .lst xs) (t' := s'.toks) (fun b o e => Heap.get?_push_of_some _ e) (Nat.le_refl _) (show ObjOk X.prog X.w _ _ _ (.lst xs) from ⟨by omega, ys, _, rs, Heap.get?_push_size _ rfl⟩)
  have z := hg.run pins _ σ _ [x, .ref s'.heap.objs.size] _ Q I2 (.cons r0 (.cons rfl .nil)) (hw _ (I1.hok.fresh (Nat.le_refl _)))
  rw [hs2] at z
  exact z
end
end My

set_option maxHeartbeats 4000000
namespace My
open PySem PySem.Spec PyProof.Rows L2 RZ
abbrev sIsWhole : Stmt := top 7
abbrev sWholeFrom : Stmt := top (7 + 1)
abbrev sIsTwo : Stmt := top (7 + 2)
abbrev sAsc : Stmt := top (7 + 3)
abbrev sIsGraph : Stmt := top (7 + 4)
abbrev sIsVP : Stmt := top (7 + 5)
abbrev sCheckGraph : Stmt := top (7 + 6)
theorem scIsWhole : FnScope ["value", "low", "high"] ["value", "low", "high"] (defScope sIsWhole) := ⟨rfl, rfl, rfl, by decide +kernel, rfl, by decide +kernel, by decide +kernel⟩
theorem scWholeFrom : FnScope ["value", "low"] ["value", "low"] (defScope sWholeFrom) := ⟨rfl, rfl, rfl, by decide +kernel, rfl, by decide +kernel, by decide +kernel⟩
theorem scIsTwo : FnScope ["value"] ["value"] (defScope sIsTwo) := ⟨rfl, rfl, rfl, by decide +kernel, rfl, by decide +kernel, by decide +kernel⟩
theorem scAsc : FnScope ["row", "value", "following"] ["row"] (defScope sAsc) := ⟨rfl, rfl, rfl, by decide +kernel, rfl, by decide +kernel, by decide +kernel⟩
theorem scIsGraph : FnScope ["value", "many", "edges", "edge"] ["value"] (defScope sIsGraph) := ⟨rfl, rfl, rfl, by decide +kernel, rfl, by decide +kernel, by decide +kernel⟩
theorem scIsVP : FnScope ["value", "many", "vertex"] ["value", "many"] (defScope sIsVP) := ⟨rfl, rfl, rfl, by decide +kernel, rfl, by decide +kernel, by decide +kernel⟩
theorem scCheckGraph : FnScope ["graph"] ["graph"] (defScope sCheckGraph) := ⟨rfl, rfl, rfl, by decide +kernel, rfl, by decide +kernel, by decide +kernel⟩
def spWholeFrom : Sp := fun vs H Q _ => ∃ i lo : Int, vs = [.int i, .int lo] ∧ lo ≤ i ∧ Q (.bl true) H
def spIsWhole : Sp := fun vs H Q _ => ∃ i lo hi : Int, vs = [.int i, .int lo, .int hi] ∧ lo ≤ i ∧ i ≤ hi ∧ Q (.bl true) H
def spIsTwo (K : PySem.W.Frag) : Sp := fun vs H Q _ => ∃ (t : Addr) (x y : V), vs = [.ref t] ∧ SqT K H t [x, y] ∧ Q (.bl true) H
def spAscP (K : PySem.W.Frag) : Sp := fun vs H Q _ => ∃ (e : Addr) (xs : List V) (es : List E2), vs = [.ref e] ∧ SqT K H e xs ∧ PairsAt K H xs es ∧ es.Pairwise ahead ∧ es.length ≤ 36 ∧ ∀ H', Same H H' → Q (.bl true) H'
def spIsVP (K : PySem.W.Frag) : Sp := fun vs H Q _ => ∃ (x : V) (n : Nat) (p : E2), vs = [x, .int (n : Int)] ∧ PairAt K H x p ∧ p.1 < n ∧ p.2 < n ∧ ∀ H', Same H H' → Q (.bl true) H'
def spIsGraph (K : PySem.W.Frag) : Sp := fun vs H Q _ => ∃ (x : V) (n : Nat) (es : List E2), vs = [x] ∧ GraphAt K H x n es ∧ Good n es ∧ ∀ H', Same H H' → Q (.bl true) H'
def spCheckGraph (K : PySem.W.Frag) : Sp := fun vs H Q _ => ∃ (x : V) (n : Nat) (es : List E2), vs = [x] ∧ GraphAt K H x n es ∧ Good n es ∧ ∀ H', Same H H' → Q .non H'
section
variable {P : Program} {w : World} {K : PySem.W.Frag} {mg : Str → Option Value} {base : Heap} {f fW fI fE fG : Addr} {fd dW dI dE dG : FuncData}
theorem ok_whole_from (F : L2.Fun K "is_whole_from" "is_whole_from" sWholeFrom f fd) (mty : mg "type" = none) (mi : mg "int" = none) : FnOk P w K mg base CX0 1 f fd ["value", "low"] spWholeFrom := by
  refine F.ok scWholeFrom (fun vs H Q E h => ?_) (fun cdv A outer s H vs Q E hr h => ?_)
  · obtain ⟨i, lo, rfl, _⟩ := h
    rfl
  obtain ⟨i, lo, rfl, h1, q⟩ := h
  refine ⟨_, pss_one (ps_ret (pe_and (pe_cmpR op_isTy (pe_typeOf (by rfl) mty (pv 0)) (pe_bltn (v := .ty "int") (by rfl) mi (by decide +kernel) rfl) (nomark _)) (pe_one (pe_cmpR op_ge (pv 0) (pv 1) (nomark _))))), ?_⟩
  refine ⟨_, rfl, _, rfl, "int", "int", rfl, rfl, true, by simp, ?_⟩
  refine iteT ⟨_, rfl, _, rfl, _, _, rfl, rfl, ?_⟩
  show Q (.bl (decide (i ≥ lo))) H
  rw [decide_eq_true h1]
  exact q
theorem ok_is_whole (F : L2.Fun K "is_whole" "is_whole" sIsWhole f fd) (GW : FnOk P w K mg base CX0 1 fW dW ["value", "low"] spWholeFrom) (bW : L2.Binds K dW ["value", "low"] []) (kW : PySem.W.keepIn K (.ref fW) = true) (mW : mg "is_whole_from" = some (.ref fW)) : FnOk P w K mg base CX0 2 f fd ["value", "low", "high"] spIsWhole := by
  refine F.ok scIsWhole (fun vs H Q E h => ?_) (fun cdv A outer s H vs Q E hr h => ?_)
  · obtain ⟨i, lo, hi, rfl, _⟩ := h
    rfl
  obtain ⟨i, lo, hi, rfl, h1, h2, q⟩ := h
  refine ⟨_, pss_one (ps_ret (pe_and (pe_call GW hr (by rfl) mW kW bW .nil pass0 (pa_cons (pv 0) (pa_cons (pv 1) pa_nil))) (pe_one (pe_cmpR op_le (pv 0) (pv 2) (nomark _))))), ?_⟩
  refine ⟨_, rfl, _, rfl, i, lo, rfl, h1, true, rfl, iteT ⟨_, rfl, _, rfl, _, _, rfl, rfl, ?_⟩⟩
  show Q (.bl (decide (i ≤ hi))) H
  rw [decide_eq_true h2]
  exact q
theorem ok_is_two (F : L2.Fun K "is_tuple_of_two" "is_tuple_of_two" sIsTwo f fd) (mty : mg "type" = none) (mt : mg "tuple" = none) (ml : mg "len" = none) : FnOk P w K mg base CX0 1 f fd ["value"] (spIsTwo K) := by
  refine F.ok scIsTwo (fun vs H Q E h => ?_) (fun cdv A outer s H vs Q E hr h => ?_)
  · obtain ⟨t, x, y, rfl, _⟩ := h
    rfl
  obtain ⟨t, x, y, rfl, ht, q⟩ := h
  refine ⟨_, pss_one (ps_ret (pe_and (pe_cmpR op_isTy (pe_callTy call_type1 (by rfl) mty (by decide +kernel) (pa_cons (pv 0) pa_nil)) (pe_bltn (v := .ty "tuple") (by rfl) mt (by decide +kernel) rfl) (nomark _)) (pe_one (pe_cmpR op_eq (pe_callB call_len_seq (by rfl) ml PySem.boot_len (pa_cons (pv 0) pa_nil)) pe_int (nomark _))))), ?_⟩
  refine ⟨_, rfl, _, "tuple", rfl, .tup ht, "tuple", "tuple", rfl, rfl, true, by simp, iteT ⟨_, rfl, t, _, rfl, .inr ht, rfl, ?_⟩⟩
  exact q
theorem walk_zipT {a b : Addr} {xs ys : List V} {n : Nat} (hn : n = min xs.length ys.length) : Walk (ItzT K a b) n (fun H => SqT K H a xs ∧ SqT K H b ys) (YPair (fun i => xs[i]?) (fun i => ys[i]?)) := by
  subst hn
  refine ⟨fun i _ hi q => ?_, fun _ q => ⟨xs, ys, q.1, q.2, by omega⟩, fun i H v H' _ q y => ?_⟩
  · have h1 : i < xs.length := by omega
    have h2 : i < ys.length := by omega
    exact ⟨xs, ys, xs[i], ys[i], q.1, q.2, by simp [h1], by simp [h2]⟩
  · obtain ⟨T, x, z, h1, h2, h3, h4, h5⟩ := y
    exact ⟨T, x, z, h1, h2, h3, h4 xs q.1, h5 ys q.2⟩
theorem ahead_lt {p q : E2} (h : ahead p q) : HT.lexLt [(p.1 : Int), (p.2 : Int)] [(q.1 : Int), (q.2 : Int)] = true := by
  unfold HT.lexLt
  split
  · rename_i e
    unfold HT.lexLt
    rcases h with h | ⟨_, h⟩
    · omega
    · rw [if_neg (by omega)]
      exact decide_eq_true (by omega)
  · rename_i e
    rcases h with h | ⟨h, _⟩
    · exact decide_eq_true (by omega)
    · exact absurd (by omega) e
theorem trues (n : Nat) : ((List.replicate n true).all id) = true := by
  induction n with
  | zero => rfl
  | succ n ih => rw [List.replicate_succ, List.all_cons, ih]; rfl
theorem trues_succ (n : Nat) : (List.replicate n true).map V.bl ++ [V.bl true] = (List.replicate (n + 1) true).map V.bl := by
  rw [List.replicate_succ', List.map_append]
  rfl
theorem ok_is_vp (F : L2.Fun K "is_vertex_pair" "is_vertex_pair" sIsVP f fd) (GI : FnOk P w K mg base CX0 1 fI dI ["value"] (spIsTwo K)) (bI : L2.Binds K dI ["value"] []) (kI : PySem.W.keepIn K (.ref fI) = true) (mI : mg "is_tuple_of_two" = some (.ref fI))
    (GW : FnOk P w K mg base CX0 2 fW dW ["value", "low", "high"] spIsWhole) (bW : L2.Binds K dW ["value", "low", "high"] []) (kW : PySem.W.keepIn K (.ref fW) = true) (mW : mg "is_whole" = some (.ref fW)) (ma : mg "all" = none) : FnOk P w K mg base CX0 3 f fd ["value", "many"] (spIsVP K) := by
  refine F.ok scIsVP (fun vs H Q E h => ?_) (fun cdv A outer s H vs Q E hr h => ?_)
  · obtain ⟨x, n, p, rfl, _⟩ := h
    rfl
  obtain ⟨x, n, p, rfl, ⟨t, rfl, ht⟩, l1, l2, q⟩ := h
  refine ⟨_, pss_one (ps_ret (pe_and (pe_call GI (hr.mono (by decide)) (by rfl) mI kI bI .nil pass0 (pa_cons (pv 0) pa_nil)) (pe_one (pe_callB (cr_all rfl) (by rfl) ma (by decide +kernel) (pa_cons (pe_lc (own := [("vertex", 2)]) (g := gName 2) (tt := tYes) rfl scIsVP.nd (pi_tup (pv 0))
        (blkOk_by (N := ["value", "many", "vertex"]) (sc := defScope sIsVP) (by decide +kernel)) (fun _ _ _ _ _ => pg_name (i := 2) scIsVP.nd rfl (Or.inl rfl)) (fun _ _ _ _ _ => pts_nil)
        (fun _ _ _ _ _ => pe_call GW hr (by rfl) mW kW bW .nil pass0 (pa_cons (pv 2) (pa_cons pe_int (pa_cons (pe_op op_sub (pv 1) pe_int) pa_nil))))) pa_nil))))), ?_⟩
  refine ⟨_, rfl, t, _, _, rfl, ht, true, rfl, iteT ⟨_, rfl, t, rfl, ⟨_, ht⟩, fun D nD => lc_tup (K := K) (a := t) (xs := [.int (p.1 : Int), .int (p.2 : Int)]) (fun i H2 => Same H H2 ∧ H2 D = some (.lst ((List.replicate i true).map V.bl))) ⟨same_new nD _, upd_same⟩ ?_ ?_ ?_⟩⟩
  · rintro i H1 _ ⟨s1, _⟩
    exact Same.tup s1 ht
  · rintro i x H2 hi ⟨s2, hD⟩
    obtain ⟨k, rfl, kn⟩ : ∃ k : Nat, x = V.int (k : Int) ∧ k < n := by
      rcases i with _ | _ | i
      · simp at hi; exact ⟨_, hi.symm, l1⟩
      · simp at hi; exact ⟨_, hi.symm, l2⟩
      · simp at hi
    have li : i < 2 := (List.getElem?_eq_some_iff.mp hi).1
    refine ⟨rfl, ?_⟩
    refine ⟨_, rfl, _, rfl, _, _, rfl, rfl, _, _, _, rfl, by omega, by omega, _, hD, small1000 (by rw [List.length_map, List.length_replicate]; omega), same_put s2 nD, ?_⟩
    rw [upd_same, trues_succ]
  rintro H2 ⟨s2, hD⟩
  refine ⟨D, _, rfl, SqL.of hD, ?_⟩
  rw [trues]
  exact q H2 s2
theorem ok_ascP (F : L2.Fun K "is_ascending" "is_ascending" sAsc f fd) (ma : mg "all" = none) (mz : mg "zip" = none) : FnOk P w K mg base CX0 1 f fd ["row"] (spAscP K) := by
  refine F.ok scAsc (fun vs H Q E h => ?_) (fun cdv A outer s H vs Q E hr h => ?_)
  · obtain ⟨e, xs, es, rfl, _⟩ := h
    rfl
  obtain ⟨e, xs, es, rfl, he2, hes2, up, few, q⟩ := h
  refine ⟨_, pss_one (ps_ret (pe_callB (cr_all rfl) (by rfl) ma (by decide +kernel) (pa_cons (pe_lc (own := [("value", 1), ("following", 2)]) (g := gTup K 2 (gCons (gName 1) (gCons (gName 2) gNil))) (tt := tYes) rfl scAsc.nd (pi_zipA (by rfl) mz (pa_cons (pv 0) (pa_cons (pe_slice sl_tupA (pv 0) (po_some pe_int) po_none) pa_nil)))
        (blkOk_by (N := ["row", "value", "following"]) (sc := defScope sAsc) (by decide +kernel)) (fun _ _ _ _ _ => pg_tup (by rfl) (pgs_cons (pg_name (i := 1) scAsc.nd rfl (Or.inl rfl)) (pgs_cons (pg_name (i := 2) scAsc.nd rfl (Or.inl rfl)) pgs_nil))) (fun _ _ _ _ _ => pts_nil)
        (fun _ _ _ _ _ => pe_cmpR (r := rLtT K) (op_ltT hr.units0) (pv 1) (pv 2) (nomark _))) pa_nil))), ?_⟩
  have s2 := L2.Same.refl H
  cases xs with
  | nil =>
    refine ⟨_, rfl, _, rfl, 1, rfl, e, [], rfl, he2, fun _ => ?_, fun z => absurd ⟨rfl, rfl⟩ z⟩
    refine ⟨e, e, [], [], rfl, .inr ⟨he2, he2, fun B nB => lc_it (walk_zipT (n := 0) rfl) (fun i H3 => i = 0 ∧ Same H H3 ∧ H3 B = some (.lst [])) ⟨rfl, same_new nB _, upd_same⟩ (fun i H3 _ ⟨_, s3, _⟩ => ⟨Same.tup s3 he2, Same.tup s3 he2⟩) (fun i x H3 H4 hi => absurd hi (Nat.not_lt_zero _)) ?_⟩⟩
    rintro H3 ⟨_, s3, hB⟩
    exact ⟨B, [], rfl, SqL.of hB, q H3 s3⟩
  | cons x0 xs =>
    cases es with
    | nil => cases hes2
    | cons p0 es =>
    have hes3 : PairsAt K H xs es := by cases hes2; assumption
    have lx : xs.length = es.length := PairsAt.len hes3
    have cut : cutV (x0 :: xs) (some 1) none = xs := by
      unfold cutV
      rw [HT.sIx_none, show ((1 : Int)) = ((1 : Nat) : Int) from rfl, HT.sIx_nat, List.length_cons, show min 1 (xs.length + 1) = 1 by omega, List.drop_one, List.tail_cons, Nat.add_sub_cancel, List.take_length]
    refine ⟨_, rfl, _, rfl, 1, rfl, e, x0 :: xs, rfl, he2, fun z => ?_, fun _ c nc => ?_⟩
    · exfalso
      have z1 := z.1
      rw [show ((1 : Int)) = ((1 : Nat) : Int) from rfl, HT.sIx_nat, List.length_cons] at z1
      omega
    rw [cut]
    have s3 := same_new nc (.tup xs)
    refine ⟨e, c, x0 :: xs, xs, rfl, .inr ⟨Same.tup s3 he2, SqT.of upd_same, fun B nB => lc_it (walk_zipT (n := xs.length) (by rw [List.length_cons]; omega)) (fun i H3 => Same (upd H c (.tup xs)) H3 ∧ H3 B = some (.lst ((List.replicate i true).map V.bl))) ⟨same_new nB _, upd_same⟩ (fun i H3 _ ⟨s4, _⟩ => ⟨Same.tup (s3.trans s4) he2, Same.tup s4 (SqT.of upd_same)⟩) (fun i x H3 H4 hi ⟨s4, hB⟩ ⟨T, y, z, e1, nT, e2, hy, hz⟩ => ?_) ?_⟩⟩
    · subst e1
      subst e2
      have s5 := same_new nT (.tup [y, z])
      have sA := s3.trans (s4.trans s5)
      obtain ⟨p, hp, ty, rfl, hty⟩ := PairsAt.get (hes2.same sA) hy
      obtain ⟨q, hq, tz, rfl, htz⟩ := PairsAt.get (hes3.same sA) hz
      refine ⟨T, _, rfl, SqT.of upd_same, rfl, _, _, rfl, _, _, rfl, rfl, rfl, ?_⟩
      refine ⟨_, rfl, _, rfl, ty, tz, [(p.1 : Int), (p.2 : Int)], [(q.1 : Int), (q.2 : Int)], rfl, rfl, hty, htz, ?_⟩
      have up : ahead p q := by
        obtain ⟨l1, e1⟩ := List.getElem?_eq_some_iff.mp hp
        have hq' : (p0 :: es)[i + 1]? = some q := by rw [List.getElem?_cons_succ]; exact hq
        obtain ⟨l2, e2⟩ := List.getElem?_eq_some_iff.mp hq'
        have z := List.pairwise_iff_getElem.mp up i (i + 1) l1 l2 (Nat.lt_succ_self _)
        rw [e1, e2] at z
        exact z
      rw [ahead_lt up]
      have fw : xs.length + 1 ≤ 36 := by rw [List.length_cons] at few; omega
      refine ⟨_, s5 _ _ hB, small1000 (by rw [List.length_map, List.length_replicate]; omega), same_put (s4.trans s5) nB, ?_⟩
      rw [upd_same, trues_succ]
    · rintro H3 ⟨s4, hB⟩
      refine ⟨B, _, rfl, SqL.of hB, ?_⟩
      rw [trues]
      exact q H3 (s3.trans s4)
theorem ok_is_graph (F : L2.Fun K "is_graph" "is_graph" sIsGraph f fd) (GI : FnOk P w K mg base CX0 1 fI dI ["value"] (spIsTwo K)) (bI : L2.Binds K dI ["value"] []) (kI : PySem.W.keepIn K (.ref fI) = true) (mI : mg "is_tuple_of_two" = some (.ref fI))
    (GW : FnOk P w K mg base CX0 2 fW dW ["value", "low", "high"] spIsWhole) (bW : L2.Binds K dW ["value", "low", "high"] []) (kW : PySem.W.keepIn K (.ref fW) = true) (mW : mg "is_whole" = some (.ref fW))
    (GE : FnOk P w K mg base CX0 3 fE dE ["value", "many"] (spIsVP K)) (bE : L2.Binds K dE ["value", "many"] []) (kE : PySem.W.keepIn K (.ref fE) = true) (mE : mg "is_vertex_pair" = some (.ref fE))
    (GA : FnOk P w K mg base CX0 1 fG dG ["row"] (spAscP K)) (bA : L2.Binds K dG ["row"] []) (kA : PySem.W.keepIn K (.ref fG) = true) (mA : mg "is_ascending" = some (.ref fG))
    (tk : Tok) (mM : mg "MOST_VERTICES" = some (.int 9 tk)) (mty : mg "type" = none) (mt : mg "tuple" = none) (ma : mg "all" = none) : FnOk P w K mg base CX0 4 f fd ["value"] (spIsGraph K) := by
  refine F.ok scIsGraph (fun vs H Q E h => ?_) (fun cdv A outer s H vs Q E hr h => ?_)
  · obtain ⟨x, n, es, rfl, _⟩ := h
    rfl
  obtain ⟨x, n, es, rfl, ⟨t, e, xs, rfl, ht, he, hes⟩, good, q⟩ := h
  refine ⟨_, pss_cons (ps_if (pt_not (pt_val (pe_call GI (hr.mono (by decide)) (by rfl) mI kI bI .nil pass0 (pa_cons (pv 0) pa_nil)))) (pss_one (ps_ret pe_bl)) pss_nil)
    (pss_cons (ps_asg (pv 0) (pg_tup (by rfl) (pgs_cons (pg_name (i := 1) scIsGraph.nd rfl (.inr rfl)) (pgs_cons (pg_name (i := 2) scIsGraph.nd rfl (.inl rfl)) pgs_nil))))
    (pss_cons (ps_if (PW.pt (pw_or (pt_not (pt_val (pe_call GW (hr.mono (by decide)) (by rfl) mW kW bW .nil pass0 (pa_cons (pv 1) (pa_cons pe_int (pa_cons (pe_glob (v := .int 9) (by rfl) mM ⟨_, rfl⟩) pa_nil))))))
        (pw_or1 (pt_cmpR op_isNotTy (pe_callTy call_type1 (by rfl) mty (by decide +kernel) (pa_cons (pv 2) pa_nil)) (pe_bltn (v := .ty "tuple") (by rfl) mt (by decide +kernel) rfl) (nomark _))))) (pss_one (ps_ret pe_bl)) pss_nil)
    (pss_one (ps_ret (pe_and (pe_callB (cr_all rfl) (by rfl) ma (by decide +kernel) (pa_cons (pe_lc (own := [("edge", 3)]) (g := gName 3) (tt := tYes) rfl scIsGraph.nd (pi_tup (pv 2))
        (blkOk_by (N := ["value", "many", "edges", "edge"]) (sc := defScope sIsGraph) (by decide +kernel)) (fun _ _ _ _ _ => pg_name (i := 3) scIsGraph.nd rfl (Or.inl rfl)) (fun _ _ _ _ _ => pts_nil)
        (fun _ _ _ _ _ => pe_and (pe_call GE (hr.mono (by decide)) (by rfl) mE kE bE .nil pass0 (pa_cons (pv 3) (pa_cons (pv 1) pa_nil))) (pe_one (pe_cmpR op_lt (pe_ix (r := rIxT K) ix_tup (pv 3) pe_int (fun _ _ => rfl)) (pe_ix (r := rIxT K) ix_tup (pv 3) pe_int (fun _ _ => rfl)) (nomark _))))) pa_nil))
      (pe_one (pe_call GA (hr.mono (by decide)) (by rfl) mA kA bA .nil pass0 (pa_cons (pv 2) pa_nil)))))))), ?_⟩
  refine ⟨_, rfl, t, _, _, rfl, ht, _, rfl, iteF ?_⟩
  refine ⟨_, rfl, t, _, rfl, ht, rfl, _, _, rfl, _, _, rfl, rfl, ?_⟩
  have n9 := good.n9
  refine ⟨_, rfl, _, _, _, rfl, by omega, by omega, _, rfl, iteF ?_⟩
  refine ⟨_, rfl, _, "tuple", rfl, .tup he, "tuple", "tuple", rfl, rfl, _, rfl, iteB (fun c => absurd c (by simp)) (fun _ => ?_)⟩
  have le := PairsAt.len hes
  have few := good.few
  refine ⟨_, rfl, e, rfl, ⟨_, he⟩, fun D nD => lc_tup (K := K) (a := e) (xs := xs) (fun i H2 => Same H H2 ∧ H2 D = some (.lst ((List.replicate i true).map V.bl))) ⟨same_new nD _, upd_same⟩ ?_ ?_ ?_⟩
  · rintro i H1 _ ⟨s1, _⟩
    exact Same.tup s1 he
  · rintro i x H2 hi ⟨s2, hD⟩
    obtain ⟨p, hp, hx⟩ := PairsAt.get (hes.same s2) hi
    obtain ⟨l1, l2⟩ := good.lt p (List.mem_of_getElem? hp)
    have li : i < xs.length := (List.getElem?_eq_some_iff.mp hi).1
    refine ⟨rfl, ?_⟩
    refine ⟨_, rfl, _, rfl, x, n, p, rfl, hx, by omega, l2, fun H3 s3 => ⟨true, rfl, iteT ?_⟩⟩
    obtain ⟨u, rfl, hu⟩ := hx
    have hu3 := Same.tup s3 hu
    refine ⟨_, rfl, u, _, 0, _, rfl, rfl, hu3, rfl, _, rfl, u, _, 1, _, rfl, rfl, hu3, rfl, _, _, rfl, rfl, ?_⟩
    have dl : decide (((p.1 : Nat) : Int) < ((p.2 : Nat) : Int)) = true := decide_eq_true (by omega)
    refine ⟨_, s3 _ _ hD, small1000 (by rw [List.length_map, List.length_replicate]; omega), same_put (s2.trans s3) nD, ?_⟩
    rw [upd_same]
    show some (HO.lst ((List.replicate i true).map V.bl ++ [V.bl (decide (((p.1 : Nat) : Int) < ((p.2 : Nat) : Int)))])) = _
    rw [dl, trues_succ]
  rintro H2 ⟨s2, hD⟩
  refine ⟨D, _, rfl, SqL.of hD, _, rfl, ?_⟩
  rw [trues]
  refine iteT ⟨_, rfl, e, xs, es, rfl, Same.tup s2 he, hes.same s2, good.up, few, fun H3 s3 => q H3 (s2.trans s3)⟩
theorem ok_check_graph (F : L2.Fun K "check_graph" "check_graph" sCheckGraph f fd) (GG : FnOk P w K mg base CX0 4 fG dG ["value"] (spIsGraph K)) (bG : L2.Binds K dG ["value"] []) (kG : PySem.W.keepIn K (.ref fG) = true) (mG : mg "is_graph" = some (.ref fG)) : FnOk P w K mg base CX0 5 f fd ["graph"] (spCheckGraph K) := by
  refine F.ok scCheckGraph (fun vs H Q E h => ?_) (fun cdv A outer s H vs Q E hr h => ?_)
  · obtain ⟨x, n, es, rfl, _⟩ := h
    rfl
  obtain ⟨x, n, es, rfl, hx, good, q⟩ := h
  refine ⟨_, pss_one (ps_if (pt_not (pt_val (pe_call GG (hr.mono (by decide)) (by rfl) mG kG bG .nil pass0 (pa_cons (pv 0) pa_nil)))) (pss_one ps_never) pss_nil), ?_⟩
  exact ⟨_, rfl, x, n, es, rfl, hx, good, fun H' s' => ⟨_, rfl, iteF (q H' s')⟩⟩
end
end My

set_option maxHeartbeats 4000000
namespace My
open PySem PySem.Spec PyProof.Rows L2
abbrev sGraph6 : Stmt := top 26
abbrev sSignsFor : Stmt := top (26 + 3)
abbrev sByGreater : Stmt := top (26 + 4)
theorem scGraph6 : FnScope ["graph", "many", "edges", "bits", "signs", "start", "number", "bit", "pair"] ["graph"] (defScope sGraph6) := ⟨rfl, rfl, rfl, by decide +kernel, rfl, by decide +kernel, by decide +kernel⟩
theorem scSignsFor : FnScope ["bits"] ["bits"] (defScope sSignsFor) := ⟨rfl, rfl, rfl, by decide +kernel, rfl, by decide +kernel, by decide +kernel⟩
theorem scByGreater : FnScope ["many", "other", "one"] ["many"] (defScope sByGreater) := ⟨rfl, rfl, rfl, by decide +kernel, rfl, by decide +kernel, by decide +kernel⟩
def spSignsFor : Sp := fun vs H Q _ => ∃ n : Nat, vs = [.int (n : Int)] ∧ Q (.int (((n + 5) / 6 : Nat) : Int)) H
def spByGreater (K : PySem.W.Frag) : Sp := fun vs H Q _ => ∃ n : Nat, vs = [.int (n : Int)] ∧ n ≤ 9 ∧ ∀ (D : Addr) (zs : List V) (H' : Hp), H D = none → Same H H' → H' D = some (.lst zs) → PairsT H' zs (pairsG n) → Q (.ref D) H'
def spCode (K : PySem.W.Frag) : Sp := fun vs H Q _ => ∃ (x : V) (n : Nat) (es : List E2), vs = [x] ∧ GraphAt K H x n es ∧ Good n es ∧ ∀ H', Same H H' → Q (.str (tx (codeL n es))) H'
theorem nums_app (a b : List Nat) : nums a ++ nums b = nums (a ++ b) := by
  unfold nums
  rw [List.map_append]
theorem cut_chunk {b : List Nat} {i : Nat} (h : 6 * i + 6 ≤ b.length) : cutV (nums b) (some ((6 * i : Nat) : Int)) (some ((6 * i + 6 : Nat) : Int)) = nums (chunk b i) := by
  unfold cutV chunk
  rw [HT.sIx_nat, HT.sIx_nat, nums_len, show min (6 * i) b.length = 6 * i by omega, show min (6 * i + 6) b.length - 6 * i = 6 by omega]
  unfold nums
  rw [← List.map_drop, ← List.map_take]
section
variable {P : Program} {w : World} {K : PySem.W.Frag} {mg : Str → Option Value} {base : Heap} {f fN fB fC fS : Addr} {fd dN dB dC dS : FuncData} {tk tk2 : Tok}
theorem ok_signs_for (F : L2.Fun K "_signs_for" "_signs_for" sSignsFor f fd) (mB : mg "BITS" = some (.int 6 tk)) : FnOk P w K mg base CX0 1 f fd ["bits"] spSignsFor := by
  refine F.ok scSignsFor (fun vs H Q E h => ?_) (fun cdv A outer s H vs Q E hr h => ?_)
  · obtain ⟨n, rfl, _⟩ := h
    rfl
  obtain ⟨n, rfl, q⟩ := h
  refine ⟨_, pss_one (ps_ret (pe_op op_fdivN (pe_op op_sub (pe_op op_add (pv 0) (pe_glob (v := .int 6) (by rfl) mB ⟨_, rfl⟩)) pe_int) (pe_glob (v := .int 6) (by rfl) mB ⟨_, rfl⟩))), ?_⟩
  refine ⟨_, rfl, _, _, rfl, rfl, _, _, rfl, rfl, _, _, rfl, rfl, ⟨by decide, by decide⟩, ?_⟩
  show Q (.int (((n : Int) + 6 - 1).fdiv 6)) H
  rw [show ((n : Int) + 6 - 1).fdiv 6 = (((n + 5) / 6 : Nat) : Int) by rw [Int.fdiv_eq_ediv_of_nonneg _ (by decide)]; omega]
  exact q
theorem ok_by_greater (F : L2.Fun K "_pairs_by_greater" "_pairs_by_greater" sByGreater f fd) (mr : mg "range" = none) : FnOk P w K mg base CX0 1 f fd ["many"] (spByGreater K) := by
  refine F.ok scByGreater (fun vs H Q E h => ?_) (fun cdv A outer s H vs Q E hr h => ?_)
  · obtain ⟨n, rfl, _⟩ := h
    rfl
  obtain ⟨n, rfl, n9, q⟩ := h
  refine ⟨_, pss_one (ps_ret (pe_lc2 (own := [("other", 1), ("one", 2)]) (vs1 := [2]) (g := gName 1) (g1 := gName 2) (tt := tYes) (tt1 := tYes) rfl scByGreater.nd (pi_range1 rfl mr (pa_cons (pv 0) pa_nil)) (blkOk_by (N := ["many", "other", "one"]) (sc := defScope sByGreater) (by decide +kernel)) (by decide)
    (fun _ _ _ _ _ => pg_name (i := 1) scByGreater.nd rfl (Or.inl rfl)) (fun _ _ _ _ _ => pts_nil) (fun _ _ _ _ _ => pi_range1 rfl mr (pa_cons (pv 1) pa_nil)) (fun _ _ _ _ _ => pg_name (i := 2) scByGreater.nd rfl (Or.inl rfl)) (fun _ _ _ _ _ => pts_nil)
    (fun _ _ _ _ _ => pe_tup (pa_cons (pv 2) (pa_cons (pv 1) pa_nil))))), ?_⟩
  refine ⟨_, rfl, (n : Int), rfl, by omega, by omega, fun D nD => lo_it (walk_range (lo := 0) (n := ((n : Nat) : Int).toNat)) (fun i H1 => Same H H1 ∧ ∃ zs, H1 D = some (.lst zs) ∧ PairsT H1 zs (pairsG i)) ⟨same_new nD _, [], upd_same, .nil⟩ (fun _ _ _ _ => trivial) ?_ ?_⟩
  · rintro i x H1 _ li ⟨s1, zs, hD, pz⟩ ⟨rfl, ex⟩
    obtain rfl : x = V.int ((i : Nat) : Int) := ex.trans (congrArg V.int (Int.zero_add _))
    have l9 : zs.length ≤ 36 := by rw [PairsT.len pz]; exact pairsG_few i (by omega)
    refine ⟨rfl, ?_⟩
    refine ⟨_, rfl, (i : Int), rfl, by omega, by omega, lo_it (walk_range (lo := 0) (n := ((i : Nat) : Int).toNat)) (fun j H1 => Same H H1 ∧ ∃ zs, H1 D = some (.lst zs) ∧ PairsT H1 zs (pairsG i ++ (List.range j).map fun u => (u, i))) ⟨s1, zs, hD, by rw [List.range_zero, List.map_nil, List.append_nil]; exact pz⟩ (fun _ _ _ _ => trivial) ?_ ?_⟩
    · rintro j x H1 _ lj ⟨s1, zs, hD, pz⟩ ⟨rfl, ex⟩
      obtain rfl : x = V.int ((j : Nat) : Int) := ex.trans (congrArg V.int (Int.zero_add _))
      refine ⟨rfl, ?_⟩
      refine ⟨_, rfl, _, rfl, (by show 2 ≤ sizeLine; decide), fun r nr => ?_⟩
      have p1 := push_pairT (j, i) hD nr pz
      have l1 : zs.length ≤ 36 + 9 := by
        rw [PairsT.len pz, List.length_append, List.length_map, List.length_range]
        have := pairsG_few i (by omega)
        omega
      refine ⟨zs, (same_new nr _) _ _ hD, small1000 (by omega), same_put (s1.trans (same_new nr _)) nD, _, upd_same, ?_⟩
      rw [List.range_succ, List.map_append, ← List.append_assoc]
      exact p1
    · rintro H1 ⟨s1, zs, hD, pz⟩
      rw [show ((i : Nat) : Int).toNat = i by omega, ← pairsG_succ] at pz
      exact ⟨s1, zs, hD, pz⟩
  · rintro H1 ⟨s1, zs, hD, pz⟩
    rw [show ((n : Nat) : Int).toNat = n by omega] at pz
    exact q D zs H1 nD s1 hD pz
theorem glued_tx (ks : List Nat) : Txt.join "" (ks.map fun k => tx [k]) = tx ks := by
  have e0 : ((("" : String) : Str)).cps = #[] := by decide +kernel
  have go : ∀ (l : List Nat) (a : Array Nat), (l.map fun k => tx [k]).foldl (fun acc p => acc ++ ((("" : String) : Str)).cps ++ p.cps) a = a ++ (tx l).cps := by
    intro l
    induction l with
    | nil => intro a; show a = a ++ #[]; rw [Array.append_empty]
    | cons k l ih =>
      intro a
      rw [List.map_cons, List.foldl_cons, ih, e0, Array.append_empty, Array.append_assoc]
      have z := tx_append [k] l
      have z2 : ((tx [k] ++ tx l : Str)).cps = (tx [k]).cps ++ (tx l).cps := rfl
      rw [← z2, z]
      rfl
  cases ks with
  | nil => rfl
  | cons k l =>
    unfold Txt.join Builtin.Str.glued
    rw [List.map_cons, List.drop_one, List.tail_cons, List.headD_cons, go]
    have z := tx_append [k] l
    have z2 : ((tx [k] ++ tx l : Str)).cps = (tx [k]).cps ++ (tx l).cps := rfl
    rw [← z2, z]
    rfl
def sgnV (ks : List Nat) : List V := ks.map fun k => V.str (tx [k])
theorem tx1_sum : ∀ ks : List Nat, ((ks.map fun k => tx [k]).map (·.length)).sum = ks.length
  | [] => rfl
  | k :: ks => by
    rw [List.map_cons, List.map_cons, List.sum_cons, tx1_sum ks, tx_len, List.length_cons, List.length_cons, List.length_nil]
    omega
theorem ok_graph6 (F : L2.Fun K "graph6" "graph6" sGraph6 f fd) (GC : FnOk P w K mg base CX0 5 fC dC ["graph"] (spCheckGraph K)) (bC : L2.Binds K dC ["graph"] []) (kC : PySem.W.keepIn K (.ref fC) = true) (mC : mg "check_graph" = some (.ref fC))
    (GB : FnOk P w K mg base CX0 1 fB dB ["many"] (spByGreater K)) (bB : L2.Binds K dB ["many"] []) (kB : PySem.W.keepIn K (.ref fB) = true) (mB : mg "_pairs_by_greater" = some (.ref fB))
    (GN : FnOk P w K mg base CX0 1 fN dN ["bits"] spSignsFor) (bN : L2.Binds K dN ["bits"] []) (kN : PySem.W.keepIn K (.ref fN) = true) (mN : mg "_signs_for" = some (.ref fN))
    (mBits : mg "BITS" = some (.int 6 tk)) (mSigns : mg "SIGNS" = some (.str SG tk2)) (mr : mg "range" = none) (ml : mg "len" = none) : FnOk P w K mg base CX0 6 f fd ["graph"] (spCode K) := by
  refine F.ok scGraph6 (fun vs H Q E h => ?_) (fun cdv A outer s H vs Q E hr h => ?_)
  · obtain ⟨x, n, es, rfl, _⟩ := h
    rfl
  obtain ⟨x, n, es, rfl, hx, good, q⟩ := h
  refine ⟨_, pss_cons (ps_expr (pe_call GC (hr.mono (by decide)) (by rfl) mC kC bC .nil pass0 (pa_cons (pv 0) pa_nil)))
    (pss_cons (ps_asg (pv 0) (pg_tup (by rfl) (pgs_cons (pg_name (i := 1) scGraph6.nd rfl (.inl rfl)) (pgs_cons (pg_name (i := 2) scGraph6.nd rfl (.inr rfl)) pgs_nil))))
    (pss_cons (ps_setLc (i := 3) (own := [("pair", 8)]) (g := gName 8) (tt := tYes) rfl scGraph6.nd rfl rfl (sw_true rfl rfl rfl (by decide +kernel)) (pi_list (pe_call GB (hr.mono (by decide)) (by rfl) mB kB bB .nil pass0 (pa_cons (pv 1) pa_nil)))
        (blkOk_by (N := ["graph", "many", "edges", "bits", "signs", "start", "number", "bit", "pair"]) (sc := defScope sGraph6) (by decide +kernel)) (fun _ _ _ _ _ => pg_name (i := 8) scGraph6.nd rfl (Or.inl rfl)) (fun _ _ _ _ _ => pts_nil)
        (fun _ _ _ _ _ => pe_ifExp (pt_cmpR (r := rInP id K) (op_inP hr.units) (pv 8) (pv 2) (by rfl)) pe_int pe_int))
    (pss_cons (ps_expr (pe_bm PySem.F.plainAttrs_list PySem.F.slot_list_extend PySem.F.type_list_extend mt_extend (pv 3) (pa_cons (pe_op op_rep (pe_lst (pa_cons pe_int pa_nil))
        (pe_op op_sub (pe_op op_mul (pe_call GN (hr.mono (by decide)) (by rfl) mN kN bN .nil pass0 (pa_cons (pe_callB call_len_seq (by rfl) ml PySem.boot_len (pa_cons (pv 3) pa_nil)) pa_nil)) (pe_glob (v := .int 6) (by rfl) mBits ⟨_, rfl⟩)) (pe_callB call_len_seq (by rfl) ml PySem.boot_len (pa_cons (pv 3) pa_nil)))) pa_nil)))
    (pss_cons (ps_set (i := 4) scGraph6.nd rfl (.inl rfl) (pe_lst (pa_cons (pe_ix ix_str (pe_glob (v := .str SG) (by rfl) mSigns ⟨_, rfl⟩) (pv 1) (fun _ _ => rfl)) pa_nil)))
    (pss_cons (ps_for PassesOwn.never rfl (pi_range3 rfl mr (pa_cons pe_int (pa_cons (pe_callB call_len_seq (by rfl) ml PySem.boot_len (pa_cons (pv 3) pa_nil)) (pa_cons (pe_glob (v := .int 6) (by rfl) mBits ⟨_, rfl⟩) pa_nil)))) (pg_name (i := 5) scGraph6.nd rfl (.inl rfl))
      (pss_cons (ps_set (i := 6) scGraph6.nd rfl (.inl rfl) pe_int)
      (pss_cons (ps_for PassesOwn.never rfl (pi_list (pe_slice sl_list (pv 3) (po_some (pv 5)) (po_some (pe_op op_add (pv 5) (pe_glob (v := .int 6) (by rfl) mBits ⟨_, rfl⟩))))) (pg_name (i := 7) scGraph6.nd rfl (.inl rfl))
        (pss_one (ps_set (i := 6) scGraph6.nd rfl (.inl rfl) (pe_op op_add (pe_op op_mul (pv 6) pe_int) (pv 7)))))
      (pss_one (ps_expr (pe_bm PySem.F.plainAttrs_list PySem.F.slot_list_append PySem.F.type_list_append mt_append (pv 4) (pa_cons (pe_ix ix_str (pe_glob (v := .str SG) (by rfl) mSigns ⟨_, rfl⟩) (pv 6) (fun _ _ => rfl)) pa_nil)))))))
    (pss_one (ps_ret (pe_join pe_str (pv 4))))))))), ?_⟩
  refine ⟨_, rfl, x, n, es, rfl, hx, good, fun H0 s0 => ?_⟩
  obtain ⟨g, e, xs, rfl, hg, he, hes⟩ := hx.same s0
  have n9 := good.n9
  have sg : SG.length = 64 := by rfl
  refine ⟨_, rfl, g, _, rfl, hg, rfl, _, _, rfl, _, _, rfl, rfl, ?_⟩
  refine ⟨_, rfl, n, rfl, n9, fun Z zs H1 nZ s1 hZ pzT => ?_⟩
  have pz : PairsAt K H1 zs (pairsG n) := pzT.at
  refine ⟨Z, rfl, ⟨_, SqL.of hZ⟩, fun B nB => lc_list (K := K) (a := Z) (xs := zs) (fun i H2 => Same H1 H2 ∧ H2 B = some (.lst (nums (((pairsG n).take i).map (bit1 es))))) ⟨same_new nB _, upd_same⟩ (fun i H2 _ ⟨s2, _⟩ => Same.seq s2 (SqL.of hZ)) ?_ ?_⟩
  · rintro i y H2 hi ⟨s2, hB⟩
    obtain ⟨p, hp, hy⟩ := PairsAt.get (pz.same s2) hi
    refine ⟨rfl, ?_⟩
    have nx : ∀ y : V, y = .int ((bit1 es p : Nat) : Int) → ∃ acc, H2 B = some (.lst acc) ∧ acc.length < sizeLine ∧ Same H1 (upd H2 B (.lst (acc ++ [y]))) ∧ (upd H2 B (.lst (acc ++ [y]))) B = some (.lst (nums (((pairsG n).take (i + 1)).map (bit1 es)))) := by
      rintro y rfl
      refine ⟨_, hB, small1000 (by rw [nums_len, List.length_map, List.length_take]; have := pairsG_few n n9; omega), same_put s2 nB, ?_⟩
      rw [upd_same, take_succ hp, List.map_append, ← nums_app]
      rfl
    refine ⟨_, rfl, _, rfl, p, e, xs, es, hy, rfl, Same.tup (s1.trans s2) he, hes.same (s1.trans s2), _, rfl, iteB (fun c => ?_) (fun c => ?_)⟩
    · have c' : p ∈ es := by simpa using c
      exact nx (.int 1) (by unfold bit1; rw [if_pos c']; rfl)
    · have c' : p ∉ es := by simpa using c
      exact nx (.int 0) (by unfold bit1; rw [if_neg c']; rfl)
  rintro H2 ⟨s2, hB⟩
  rw [PairsAt.len pz, List.take_length] at hB
  have hB : H2 B = some (.lst (nums (bitsOf n es))) := hB
  have nB0 : H B = none := (s0.trans s1).free nB
  obtain ⟨L, hL⟩ : ∃ L, L = (bitsOf n es).length := ⟨_, rfl⟩
  have l9 := bits_few n9 es
  rw [← hL] at l9
  have ln : (nums (bitsOf n es)).length = L := by rw [nums_len, ← hL]
  obtain ⟨b, hb⟩ : ∃ b, b = pad (bitsOf n es) := ⟨_, rfl⟩
  obtain ⟨m, hm⟩ : ∃ m, m = groups (bitsOf n es) := ⟨_, rfl⟩
  have lb : b.length = 6 * m := by rw [hb, hm]; exact pad_len _
  have m6 : m ≤ 6 := by
    rw [hm]
    unfold groups
    omega
  have b1 : ∀ x ∈ b, x ≤ 1 := by rw [hb]; exact pad_le (bits_le n es)
  refine ⟨_, rfl, .inl ⟨rfl, _, SqL.of hB⟩, (by show 1 ≤ sizeLine; decide), fun z nz => ?_⟩
  have s3 := same_new nz (.lst [.int 0])
  have hB3 := s3 _ _ hB
  refine ⟨_, rfl, B, _, rfl, .inl (SqL.of hB3), ?_⟩
  rw [ln]
  refine ⟨L, rfl, ?_⟩
  refine ⟨_, _, rfl, rfl, .inl ⟨by omega, by omega⟩, _, rfl, B, _, rfl, .inl (SqL.of hB3), ?_⟩
  rw [ln]
  refine ⟨_, _, rfl, rfl, z, _, _, rfl, rfl, upd_same, by omega, by omega, ?_, fun r nr => ?_⟩
  · show ([V.int 0] : List V).length * ((((L + 5) / 6 : Nat) : Int) * 6 - (L : Int)).toNat ≤ sizeLine
    exact small (by simp only [List.length_singleton]; omega)
  have e1 : (List.replicate ((((L + 5) / 6 : Nat) : Int) * 6 - (L : Int)).toNat ([V.int 0] : List V)).flatten = nums (List.replicate ((L + 5) / 6 * 6 - L) 0) := by
    rw [show ((((L + 5) / 6 : Nat) : Int) * 6 - (L : Int)).toNat = (L + 5) / 6 * 6 - L by omega]
    generalize (L + 5) / 6 * 6 - L = k
    induction k with
    | zero => rfl
    | succ k ih => rw [List.replicate_succ, List.flatten_cons, ih]; rfl
  rw [e1]
  have s4 := same_new nr (.lst (nums (List.replicate ((L + 5) / 6 * 6 - L) 0)))
  have hB4 := s4 _ _ hB3
  refine ⟨B, r, _, _, rfl, rfl, hB4, upd_same, small (by rw [ln, nums_len, List.length_replicate]; omega), ?_⟩
  have e3 : nums (bitsOf n es) ++ nums (List.replicate ((L + 5) / 6 * 6 - L) 0) = nums b := by
    rw [nums_app, hb, hL]
    rfl
  rw [e3]
  have s5 : Same H (upd (upd (upd H2 z (.lst [.int 0])) r (.lst (nums (List.replicate ((L + 5) / 6 * 6 - L) 0)))) B (.lst (nums b))) := same_put (s0.trans (s1.trans (s2.trans (s3.trans s4)))) nB0
  have hB5 : (upd (upd (upd H2 z (.lst [.int 0])) r (.lst (nums (List.replicate ((L + 5) / 6 * 6 - L) 0)))) B (.lst (nums b))) B = some (.lst (nums b)) := upd_same
  generalize upd (upd (upd H2 z (.lst [.int 0])) r (.lst (nums (List.replicate ((L + 5) / 6 * 6 - L) 0)))) B (.lst (nums b)) = H5 at s5 hB5 ⊢
  refine ⟨_, rfl, SG, _, _, rfl, rfl, (by rw [sg]; decide), SG_at n (by omega), (by show 1 ≤ sizeLine; decide), fun S nS => ?_⟩
  have nS0 := s5.free nS
  have SB : S ≠ B := fun e => by
    rw [e, hB5] at nS
    cases nS
  have s6 := same_new nS (.lst (sgnV [n]))
  have hB6 := s6 _ _ hB5
  refine ⟨_, rfl, B, _, rfl, .inl (SqL.of hB6), _, _, _, m, rfl, by rw [nums_len, lb]; have := six (6 * m) (by omega); rw [show (6 * m + 5) / 6 = m by omega] at this; exact this, for_rangeC (lo := 0) (c := 6) (n := m) (fun i σ H' => ∃ (s4 s5 s6 : Option V), σ = [some (.ref g), some (.int (n : Int)), some (.ref e), some (.ref B), some (.ref S), s4, s5, s6, none] ∧ Same H H' ∧ H' B = some (.lst (nums b)) ∧ H' S = some (.lst (sgnV (n :: (List.range i).map fun i => numOf (chunk b i)))))
    ⟨none, none, none, rfl, s5.trans s6, hB6, upd_same⟩ ?_ ?_⟩
  · rintro i σ H7 li ⟨s4', s5', s6', rfl, s7, hB, hS⟩
    rw [show (0 + (i : Int) * 6) = ((6 * i : Nat) : Int) by omega]
    have lc : (chunk b i).length = 6 := chunk_len (by omega)
    refine ⟨_, rfl, _, rfl, _, rfl, _, rfl, _, _, rfl, rfl, _, rfl, B, _, rfl, SqL.of hB, fun p np => ?_⟩
    rw [show (((6 * i : Nat) : Int) + 6) = ((6 * i + 6 : Nat) : Int) by omega, cut_chunk (by omega)]
    have s8 := same_new np (.lst (nums (chunk b i)))
    refine ⟨p, rfl, ⟨_, SqL.of upd_same⟩, for_list (K := K) (a := p) (xs := nums (chunk b i)) (fun j σ H' => ∃ s6 : Option V, σ = [some (.ref g), some (.int (n : Int)), some (.ref e), some (.ref B), some (.ref S), some (.int ((6 * i : Nat) : Int)), some (.int ((numOf ((chunk b i).take j) : Nat) : Int)), s6, none] ∧ H' = upd H7 p (.lst (nums (chunk b i)))) ⟨_, rfl, rfl⟩ ?_ ?_ ?_⟩
    · rintro j σ H' _ ⟨s6, rfl, rfl⟩
      exact SqL.of upd_same
    · rintro j x σ H' hj ⟨s6, rfl, rfl⟩
      obtain ⟨y, hy, rfl⟩ : ∃ y, (chunk b i)[j]? = some y ∧ x = .int ((y : Nat) : Int) := by
        unfold nums at hj
        rw [List.getElem?_map] at hj
        cases e : (chunk b i)[j]? with
        | none => rw [e] at hj; cases hj
        | some y => rw [e] at hj; exact ⟨y, rfl, (Option.some.inj hj).symm⟩
      have lt : numOf ((chunk b i).take j) < 64 := by
        have z := numOf_lt (b := (chunk b i).take j) fun x hx => b1 x (chunk_sub b i x (List.mem_of_mem_take hx))
        have le6 : ((chunk b i).take j).length ≤ 6 := by rw [List.length_take]; omega
        have p6 : 2 ^ ((chunk b i).take j).length ≤ 2 ^ 6 := Nat.pow_le_pow_right (by decide) le6
        exact Nat.lt_of_lt_of_le z p6
      refine ⟨_, rfl, _, _, rfl, rfl, .inl ⟨by omega, by omega⟩, _, rfl, _, _, rfl, rfl, some (.int ((y : Nat) : Int)), ?_, rfl⟩
      rw [take_succ hy, numOf_snoc, Nat.mul_comm 2]
      rfl
    · rintro σ H' ⟨s6, rfl, rfl⟩
      rw [nums_len, lc, List.take_of_length_le (by omega)]
      have lt := chunk_lt (i := i) b1
      have hS8 := s8 _ _ hS
      refine ⟨_, rfl, .inl ⟨rfl, _, SqL.of hS8⟩, _, rfl, SG, _, _, rfl, rfl, (by rw [sg]; decide), SG_at _ lt, S, _, _, rfl, rfl, hS8, small1000 (by unfold sgnV; rw [List.length_map, List.length_cons, List.length_map, List.length_range]; omega), some (.int ((6 * i : Nat) : Int)), some (.int ((numOf (chunk b i) : Nat) : Int)), s6, rfl, same_put (s7.trans s8) nS0, by rw [upd_ne (Ne.symm SB)]; exact s8 _ _ hB, ?_⟩
      rw [upd_same, List.range_succ, List.map_append]
      unfold sgnV
      rw [List.map_cons, List.map_cons, List.map_append]
      rfl
  · rintro σ H7 ⟨s4', s5', s6', rfl, s7, hB, hS⟩
    rw [hm, hb] at hS
    have hS : H7 S = some (.lst (sgnV (codeL n es))) := hS
    refine ⟨⟨_, rfl⟩, _, rfl, _, S, (codeL n es).map fun k => tx [k], rfl, rfl, .inl (SqL.of ?_), ?_, ?_⟩
    · rw [List.map_map]
      exact hS
    · rw [tx1_sum, List.length_map]
      unfold codeL
      rw [List.length_cons, List.length_map, List.length_range, ← hm]
      have z : ((("" : String) : Str)).length = 0 := by decide +kernel
      rw [z]
      omega
    · show Q (.str (Txt.join "" ((codeL n es).map fun k => tx [k]))) H7
      rw [glued_tx]
      exact q H7 s7
end
end My

set_option maxHeartbeats 8000000
namespace My
open PySem PySem.Spec PyProof.Rows L2
abbrev sFrom : Stmt := top (26 + 1)
abbrev sCanTell : Stmt := top (26 + 2)
theorem scFrom : FnScope ["text", "numbers", "many", "sixes", "pairs", "at", "number", "bits", "sign", "six", "place", "pair", "bit"] ["text"] (defScope sFrom) := ⟨rfl, rfl, rfl, by decide +kernel, rfl, by decide +kernel, by decide +kernel⟩
theorem scCanTell : FnScope ["number", "left", "spare"] ["number", "left"] (defScope sCanTell) := ⟨rfl, rfl, rfl, by decide +kernel, rfl, by decide +kernel, by decide +kernel⟩
def spCanTell : Sp := fun vs H Q _ => ∃ (c L a : Nat), vs = [.int (nm c), .int ((L : Int) - (a : Int) * 6)] ∧ Q (.bl (goodS L a c)) H
section
variable {P : Program} {w : World} {K : PySem.W.Frag} {mg : Str → Option Value} {base : Heap} {C f fI fT fB fN : Addr} {fd dI dT dB dN : FuncData} {tk tk2 tk3 : Tok}
theorem ok_initS (F : L2.Fun K "__init__" "InvalidSign.__init__" (inClass (top 4) 0) f fd) (T : OexC K C) (no : PySem.W.findIn K (.ref C) "index" = some none) : FnOk P w K mg base CX0 1 f fd ["self", "index"] (spInit C "index") := by
  refine F.ok (show FnScope ["self", "index"] ["self", "index"] (defScope (inClass (top 4) 0)) from ⟨rfl, rfl, rfl, by decide +kernel, rfl, by decide +kernel, by decide +kernel⟩) (fun vs H Q E h => ?_) (fun cdv A outer s H vs Q E hr h => ?_)
  · obtain ⟨a, v, rfl, _⟩ := h
    rfl
  obtain ⟨a, v, rfl, ha, q⟩ := h
  refine ⟨_, pss_one (ps_ost (pv 0) (pv 1)), ?_⟩
  exact ⟨_, rfl, _, rfl, a, C, rfl, T, no, .inl ⟨ha, q⟩⟩
theorem ok_can_tell (F : L2.Fun K "_can_tell" "_can_tell" sCanTell f fd) (mB : mg "BITS" = some (.int 6 tk)) (mx : mg "max" = none) : FnOk P w K mg base CX0 1 f fd ["number", "left"] spCanTell := by
  refine F.ok scCanTell (fun vs H Q E h => ?_) (fun cdv A outer s H vs Q E hr h => ?_)
  · obtain ⟨c, L, a, rfl, _⟩ := h
    rfl
  obtain ⟨c, L, a, rfl, q⟩ := h
  refine ⟨_, pss_cons (ps_if (PW.pt (pw_or (pt_cmpR op_lt (pv 0) pe_int (nomark _)) (pw_or1 (pt_cmpR op_le (pv 1) pe_int (nomark _))))) (pss_one (ps_ret pe_bl)) pss_nil)
    (pss_cons (ps_set (i := 2) scCanTell.nd rfl (.inl rfl) (pe_callB (call_max2 rfl) (by rfl) mx (by decide +kernel) (pa_cons pe_int (pa_cons (pe_op op_sub (pe_glob (v := .int 6) (by rfl) mB ⟨_, rfl⟩) (pv 1)) pa_nil))))
    (pss_one (ps_ret (pe_cmpR op_eq (pe_op op_modN (pv 0) (pe_op op_shl pe_int (pv 2))) pe_int (nomark _))))), ?_⟩
  refine ⟨_, rfl, _, _, rfl, rfl, _, rfl, iteB (fun c1 => ?_) (fun c1 => ?_)⟩
  · have n0 : nm c < 0 := of_decide_eq_true c1
    have g : goodS L a c = false := by
      unfold goodS
      unfold nm at n0
      have : ¬ (63 ≤ c ∧ c < 127) := fun z => by rw [if_pos z] at n0; omega
      rw [decide_eq_false this]
      rfl
    rw [g] at q
    exact q
  · have n0 : ¬ nm c < 0 := of_decide_eq_false c1
    have cr : 63 ≤ c ∧ c < 127 := by
      unfold nm at n0
      by_cases z : 63 ≤ c ∧ c < 127
      · exact z
      · rw [if_neg z] at n0
        exact absurd (by decide) n0
    have en : nm c = ((c - 63 : Nat) : Int) := by
      unfold nm
      rw [if_pos cr]
      omega
    refine ⟨_, rfl, _, _, rfl, rfl, _, rfl, iteB (fun c2 => ?_) (fun c2 => ?_)⟩
    · have l0 : (L : Int) - (a : Int) * 6 ≤ 0 := of_decide_eq_true c2
      have g : goodS L a c = false := by
        unfold goodS
        rw [decide_eq_false (p := 6 * a < L) (by omega), Bool.and_false, Bool.false_and]
      rw [g] at q
      exact q
    · have l0 : ¬ (L : Int) - (a : Int) * 6 ≤ 0 := of_decide_eq_false c2
      refine ⟨_, rfl, _, _, rfl, rfl, _, _, rfl, _, rfl, _, rfl, _, _, rfl, rfl, ?_, _, _, rfl, rfl, ?_, rfl, ?_⟩
      · refine ⟨?_, ?_, by decide⟩
        · split <;> omega
        · split <;> omega
      · show (1 : Int) * 2 ^ _ ≠ 0
        rw [Int.one_mul]
        exact Int.ne_of_gt (Int.pow_pos (by decide))
      · show Q (.bl (decide (V.int ((nm c).fmod (1 * 2 ^ (if (6 : Int) - ((L : Int) - (a : Int) * 6) > 0 then (6 : Int) - ((L : Int) - (a : Int) * 6) else 0).toNat)) = V.int 0))) H
        have es : (if (6 : Int) - ((L : Int) - (a : Int) * 6) > 0 then (6 : Int) - ((L : Int) - (a : Int) * 6) else 0).toNat = 6 - (L - 6 * a) := by split <;> omega
        have e2 : (nm c).fmod (1 * 2 ^ (6 - (L - 6 * a))) = (((c - 63) % 2 ^ (6 - (L - 6 * a)) : Nat) : Int) := by
          rw [en, Int.one_mul, Int.fmod_eq_emod_of_nonneg _ (Int.le_of_lt (Int.pow_pos (by decide))), Int.natCast_emod, Int.natCast_pow] <;> rfl
        rw [es, e2]
        have g : goodS L a c = decide (V.int (((c - 63) % 2 ^ (6 - (L - 6 * a)) : Nat) : Int) = V.int 0) := by
          unfold goodS
          rw [decide_eq_true cr, decide_eq_true (p := 6 * a < L) (by omega), Bool.true_and, Bool.true_and]
          refine decide_eq_decide.mpr ⟨fun z => by rw [z]; rfl, fun z => ?_⟩
          have := V.int.inj z
          omega
        rw [← g]
        exact q
def spFrom (K : PySem.W.Frag) (C : Addr) : Sp := fun vs H Q E =>
  (∃ z : Str, vs = [.str z] ∧ (∀ c ∈ z.cps.toList, c < 128) ∧ z.length ≤ 900 ∧ (∀ k, readG z.cps.toList = .bad k → ∀ d H', H d = none → Same H H' → H' d = some (.xd [("index", .int (k : Int))]) → E (.ref C) (some d) H') ∧
    (∀ n ps, readG z.cps.toList = .told n ps → ∀ x es H', Same H H' → GraphAt K H' x n es → Good n es → (∀ q, q ∈ es ↔ q ∈ ps) → Q x H')) ∨
  ∃ (v : V) (T : String), vs = [v] ∧ TyB K H v T ∧ T ≠ "str" ∧ ∀ d H', H d = none → Same H H' → H' d = some (.xd [("index", .non)]) → E (.ref C) (some d) H'
/-- raising InvalidSign(v): what its making asks -/
theorem raised {H : Hp} {C : Addr} {E : XK} {v : V} (h : ∀ d H', H d = none → Same H H' → H' d = some (.xd [("index", v)]) → E (.ref C) (some d) H') :
    ([v] : List V).length ≤ 1000 ∧ ∀ a, H a = none → spInit C "index" (.ref a :: ([v] ++ [])) (upd H a (exo a C none)) (fun r H2 => r = .non ∧ ∃ (d : Addr) (fs : List (Str × V)), H2 a = some (exo a C (some d)) ∧ H2 d = some (exd d fs) ∧ H d = none ∧ E (.ref C) (some d) (upd (del H2 a) d (.xd fs))) (fun _ _ _ => False) := by
  refine ⟨by show 1 ≤ 1000; decide, fun a na => ⟨a, v, rfl, upd_same, fun d nd ne => ⟨rfl, d, [("index", v)], upd_same, ?_, ?_, ?_⟩⟩⟩
  · rw [upd_ne ne]
    exact upd_same
  · rw [upd_ne ne] at nd
    exact nd
  · rw [upd_ne ne] at nd
    refine h d _ nd (fun q o e => ?_) upd_same
    rw [upd_ne (ne_of_none e nd), del_ne (ne_of_none e na), upd_ne (ne_of_none e na), upd_ne (ne_of_none e nd), upd_ne (ne_of_none e na)]
    exact e
def tTru (K : PySem.W.Frag) (te : TE) : TT := fun σ H Q => te σ H fun x H' => ∃ k, TruV K x H' k ∧ Q k H'
theorem zip_take_len {α β : Type} : ∀ (ps : List α) (bs : List β), ps.zip (bs.take ps.length) = ps.zip bs
  | [], bs => by rw [List.zip_nil_left, List.zip_nil_left]
  | p :: ps, [] => by rw [List.take_nil]
  | p :: ps, b :: bs => by rw [List.length_cons, List.take_succ_cons, List.zip_cons_cons, List.zip_cons_cons, zip_take_len ps bs]
theorem ok_from (F : L2.Fun K "from_graph6" "from_graph6" sFrom f fd) (T : XCls K C fI "index") (GI : FnOk P w K mg base CX0 1 fI dI ["self", "index"] (spInit C "index")) (bI : L2.Binds K dI ["self", "index"] []) (mC : mg "InvalidSign" = some (.ref C))
    (GT : FnOk P w K mg base CX0 1 fT dT ["number", "left"] spCanTell) (bT : L2.Binds K dT ["number", "left"] []) (kT : PySem.W.keepIn K (.ref fT) = true) (mT : mg "_can_tell" = some (.ref fT))
    (GB : FnOk P w K mg base CX0 1 fB dB ["many"] (spByGreater K)) (bB : L2.Binds K dB ["many"] []) (kB : PySem.W.keepIn K (.ref fB) = true) (mB : mg "_pairs_by_greater" = some (.ref fB))
    (GN : FnOk P w K mg base CX0 1 fN dN ["bits"] spSignsFor) (bN : L2.Binds K dN ["bits"] []) (kN : PySem.W.keepIn K (.ref fN) = true) (mN : mg "_signs_for" = some (.ref fN))
    (mBits : mg "BITS" = some (.int 6 tk)) (mSigns : mg "SIGNS" = some (.str SG tk2)) (mMost : mg "MOST_VERTICES" = some (.int 9 tk3)) (mty : mg "type" = none) (ms : mg "str" = none) (me : mg "enumerate" = none) (ml : mg "len" = none) (mt : mg "tuple" = none) (mso : mg "sorted" = none) (mz : mg "zip" = none) :
    FnOk P w K mg base (L2.CX P w) 3 f fd ["text"] (spFrom K C) := by
  refine F.okX scFrom (fun vs H Q E h => ?_) (fun cdv A outer s H vs Q E hr h => ?_)
  · rcases h with ⟨z, rfl, _⟩ | ⟨v, T, rfl, _⟩ <;> rfl
  refine ⟨_, pss_cons (ps_if (pt_cmpR op_isNotTy (pe_callTy call_type1 (by rfl) mty (by decide +kernel) (pa_cons (pv 0) pa_nil)) (pe_bltn (v := .ty "str") (by rfl) ms (by decide +kernel) rfl) (nomark _))
      (pss_one (ps_raise rfl (takes_of rfl rfl rfl rfl) (pmk_oex T.ox T.iC T.tI GI hr bI .nil pass0 (by rfl) mC (pa_cons pe_non pa_nil)))) pss_nil)
    (pss_cons (ps_setLc (i := 1) (own := [("sign", 8)]) (g := gName 8) (tt := tYes) rfl scFrom.nd rfl rfl (sw_true rfl rfl rfl (by decide +kernel)) (pi_str (pv 0))
        (blkOk_by (N := ["text", "numbers", "many", "sixes", "pairs", "at", "number", "bits", "sign", "six", "place", "pair", "bit"]) (sc := defScope sFrom) (by decide +kernel)) (fun _ _ _ _ _ => pg_name (i := 8) scFrom.nd rfl (Or.inl rfl)) (fun _ _ _ _ _ => pts_nil)
        (fun _ _ _ _ _ => pe_m1 PySem.F.slot_str_find PySem.F.type_str_find mt_find (pe_glob (v := .str SG) (by rfl) mSigns ⟨_, rfl⟩) (pv 8)))
    (pss_cons (ps_if (PW.pt (pw_or (pt_not (pt_truth (pv 1) (by intro _; rfl))) (pw_or1 (pt_not (pt_chain op_le op_le pe_int (pe_ix ix_list (pv 1) pe_int (fun _ _ => rfl)) (pe_glob (v := .int 9) (by rfl) mMost ⟨_, rfl⟩))))))
      (pss_one (ps_raise rfl (takes_of rfl rfl rfl rfl) (pmk_oex T.ox T.iC T.tI GI hr bI .nil pass0 (by rfl) mC (pa_cons pe_int pa_nil)))) pss_nil)
    (pss_cons (ps_asg (pv 1) (pg_star (by rfl) (pg_name (i := 2) scFrom.nd rfl (.inl rfl)) (pg_name (i := 3) scFrom.nd rfl (.inl rfl))))
    (pss_cons (ps_set (i := 4) scFrom.nd rfl (.inl rfl) (pe_call GB (hr.mono (by decide)) (by rfl) mB kB bB .nil pass0 (pa_cons (pv 2) pa_nil)))
    (pss_cons (ps_for (passes_of rfl) rfl (pi_enum (by rfl) me (pa_cons (pv 3) pa_nil)) (pg_tup (by rfl) (pgs_cons (pg_name (i := 5) scFrom.nd rfl (.inl rfl)) (pgs_cons (pg_name (i := 6) scFrom.nd rfl (.inl rfl)) pgs_nil)))
      (pss_one (ps_if (pt_not (pt_val (pe_call GT (hr.mono (by decide)) (by rfl) mT kT bT .nil pass0 (pa_cons (pv 6) (pa_cons (pe_op op_sub (pe_callB call_len_seq (by rfl) ml PySem.boot_len (pa_cons (pv 4) pa_nil)) (pe_op op_mul (pv 5) (pe_glob (v := .int 6) (by rfl) mBits ⟨_, rfl⟩))) pa_nil)))))
        (pss_one (ps_raise rfl (takes_of rfl rfl rfl rfl) (pmk_oex T.ox T.iC T.tI GI hr bI .nil pass0 (by rfl) mC (pa_cons (pe_op op_add pe_int (pv 5)) pa_nil)))) pss_nil)))
    (pss_cons (ps_if (pt_cmpR op_lt (pe_callB call_len_seq (by rfl) ml PySem.boot_len (pa_cons (pv 3) pa_nil)) (pe_call GN (hr.mono (by decide)) (by rfl) mN kN bN .nil pass0 (pa_cons (pe_callB call_len_seq (by rfl) ml PySem.boot_len (pa_cons (pv 4) pa_nil)) pa_nil)) (nomark _))
      (pss_one (ps_raise rfl (takes_of rfl rfl rfl rfl) (pmk_oex T.ox T.iC T.tI GI hr bI .nil pass0 (by rfl) mC (pa_cons (pe_callB call_len_str (by rfl) ml PySem.boot_len (pa_cons (pv 0) pa_nil)) pa_nil)))) pss_nil)
    (pss_cons (ps_setLc2 (i := 7) (own := [("six", 9), ("place", 10)]) (vs1 := [10]) (g := gName 9) (g1 := gName 10) (tt := tYes) (tt1 := tYes) (wi1 := iTup K (tTup (tCons (tC (.int 5)) (tCons (tC (.int 4)) (tCons (tC (.int 3)) (tCons (tC (.int 2)) (tCons (tC (.int 1)) (tCons (tC (.int 0)) tNil))))))))  rfl scFrom.nd rfl rfl (sw_true rfl rfl rfl (by decide +kernel)) (pi_list (pv 3))
        (blkOk_by (N := ["text", "numbers", "many", "sixes", "pairs", "at", "number", "bits", "sign", "six", "place", "pair", "bit"]) (sc := defScope sFrom) (by decide +kernel)) (by decide)
        (fun _ _ _ _ _ => pg_name (i := 9) scFrom.nd rfl (Or.inl rfl)) (fun _ _ _ _ _ => pts_nil) (fun _ _ _ _ _ => pi_tup (pe_tup (pa_cons pe_int (pa_cons pe_int (pa_cons pe_int (pa_cons pe_int (pa_cons pe_int (pa_cons pe_int pa_nil)))))))) (fun _ _ _ _ _ => pg_name (i := 10) scFrom.nd rfl (Or.inl rfl)) (fun _ _ _ _ _ => pts_nil)
        (fun _ _ _ _ _ => pe_op op_and (pe_op op_shr (pv 9) (pv 10)) pe_int))
    (pss_one (ps_ret (pe_tup (pa_cons (pv 2) (pa_cons (pe_callTy call_tuple_of (by rfl) mt (by decide +kernel) (pa_cons (pe_callB cr_sortedPO (by rfl) mso (by decide +kernel) (pa_cons
        (pe_lc (own := [("pair", 11), ("bit", 12)]) (g := gTup K 2 (gCons (gName 11) (gCons (gName 12) gNil))) (tt := tTru K (tVar 12)) rfl scFrom.nd (pi_zip (by rfl) mz (pa_cons (pv 4) (pa_cons (pv 7) pa_nil)))
          (blkOk_by (N := ["text", "numbers", "many", "sixes", "pairs", "at", "number", "bits", "sign", "six", "place", "pair", "bit"]) (sc := defScope sFrom) (by decide +kernel)) (fun _ _ _ _ _ => pg_tup (by rfl) (pgs_cons (pg_name (i := 11) scFrom.nd rfl (Or.inl rfl)) (pgs_cons (pg_name (i := 12) scFrom.nd rfl (Or.inl rfl)) pgs_nil)))
          (fun _ _ _ _ _ => pts_one (pt_truth (pv 12) (by intro _; rfl))) (fun _ _ _ _ _ => pv 11)) pa_nil)) pa_nil)) pa_nil)))))))))))), ?_⟩
  rcases h with ⟨z, rfl, hz, zl, bad, told⟩ | ⟨v, T', rfl, tyv, nt, q⟩
  rotate_left 1
  · refine ⟨_, rfl, v, T', rfl, tyv, T', "str", rfl, rfl, _, rfl, iteB (fun _ => ?_) (fun c => absurd c (by simp [nt]))⟩
    exact raised q
  refine ⟨_, rfl, .str z, "str", rfl, .str z, "str", "str", rfl, rfl, _, rfl, iteB (fun c => absurd c (by simp)) (fun _ => ?_)⟩
  have bad' : ∀ k, readG z.cps.toList = .bad k → ∀ H1, Same H H1 → ∀ d H', H1 d = none → Same H1 H' → H' d = some (.xd [("index", .int (k : Int))]) → E (.ref C) (some d) H' := fun k hk H1 s1 d H' nd s' hd => bad k hk d H' (s1.free nd) (s1.trans s') hd
  have zs : z.cps.size = z.cps.toList.length := (Array.length_toList ..).symm
  have zl2 : z.cps.toList.length ≤ 900 := by rw [← zs]; exact zl
  generalize hcs : z.cps.toList = cs at bad' told hz zl2 zs
  refine ⟨_, rfl, z, rfl, fun D nD => lc_it (walk_str (z := z)) (fun i H1 => Same H H1 ∧ H1 D = some (.lst (numsZ (cs.take i)))) ⟨same_new nD _, upd_same⟩ (fun _ _ _ _ => trivial) ?_ ?_⟩
  · rintro i x H1 _ li ⟨s1, hD⟩ ⟨rfl, c, hc, rfl⟩
    have hc' : cs[i]? = some c := by rw [← hcs, Array.getElem?_toList]; exact hc
    refine ⟨rfl, ?_⟩
    refine ⟨⟨_, rfl⟩, _, rfl, _, _, rfl, rfl, _, hD, small1000 (by unfold numsZ; rw [List.length_map, List.length_take]; omega), same_put s1 nD, ?_⟩
    rw [upd_same, take_succ hc']
    unfold numsZ
    rw [List.map_append, find_sg c (hz c (List.mem_of_getElem? hc'))]
    rfl
  rintro H1 ⟨s1, hD⟩
  rw [zs, List.take_length] at hD
  cases cs with
  | nil =>
    refine ⟨_, rfl, _, .inl ⟨_, SqL.of hD, rfl⟩, iteT ?_⟩
    exact raised (v := .int 0) (bad' 0 rfl H1 s1)
  | cons c cs =>
  refine ⟨_, rfl, _, .inl ⟨_, SqL.of hD, rfl⟩, iteF ?_⟩
  have rg : ∀ o, 63 ≤ c ∧ c ≤ 72 → scan (pairsG (c - 63)).length 0 cs = o → readG (c :: cs) = match o with
    | some k => .bad k
    | none => .told (c - 63) (tellP (pairsG (c - 63)) (bitsC cs)) := fun o hc ho => by
    show (if 63 ≤ c ∧ c ≤ 72 then (match scan (pairsG (c - 63)).length 0 cs with
      | some k => RdG.bad k
      | none => .told (c - 63) (tellP (pairsG (c - 63)) (bitsC cs))) else .bad 0) = _
    rw [if_pos hc, ho]
  have at0 : atI (numsZ (c :: cs)) 0 = some (.int (nm c)) := atI_nat (j := 0) rfl
  by_cases hc : 63 ≤ c ∧ c ≤ 72
  rotate_left 1
  · have r0 : readG (c :: cs) = .bad 0 := if_neg hc
    have no : ¬ (0 ≤ nm c ∧ nm c ≤ 9) := fun ⟨a, b⟩ => by
      unfold nm at a b
      split at a
      · rename_i h; rw [if_pos h] at b; omega
      · exact absurd a (by decide)
    refine ⟨_, rfl, D, _, _, _, rfl, rfl, SqL.of hD, at0, _, _, rfl, rfl, _, rfl, iteB (fun c1 => ⟨_, _, rfl, rfl, _, rfl, iteB (fun _ => ?_) (fun c2 => ?_)⟩) (fun c1 => ⟨_, rfl, iteT ?_⟩)⟩
    · exact raised (v := .int 0) (bad' 0 r0 H1 s1)
    · have c2' : (!decide (nm c ≤ 9)) = false := c2
      exact absurd ⟨of_decide_eq_true c1, by simpa using c2'⟩ no
    · exact raised (v := .int 0) (bad' 0 r0 H1 s1)
  obtain ⟨n, hn⟩ : ∃ n, n = c - 63 := ⟨_, rfl⟩
  have n9 : n ≤ 9 := by omega
  have en : nm c = (n : Int) := by
    unfold nm
    rw [if_pos (by omega)]
    omega
  have rg' := fun o => rg o hc
  rw [← hn] at rg'
  have hD : H1 D = some (.lst (V.int (n : Int) :: numsZ cs)) := by
    rw [hD]
    show some (HO.lst (V.int (nm c) :: numsZ cs)) = _
    rw [en]
  rw [en] at at0
  refine ⟨_, rfl, D, _, _, _, rfl, rfl, SqL.of hD, atI_nat (j := 0) rfl, _, _, rfl, rfl, _, rfl, iteB (fun c1 => ⟨_, _, rfl, rfl, _, rfl, iteB (fun c2 => ?_) (fun _ => ?_)⟩) (fun c1 => ?_)⟩
  · have c2' : (!decide ((n : Int) ≤ 9)) = true := c2
    exact absurd (show (n : Int) ≤ 9 by omega) (by simpa using c2')
  rotate_left 1
  · exact absurd (show (0 : Int) ≤ (n : Int) by omega) (of_decide_eq_false c1)
  have zl3 : cs.length ≤ 899 := by rw [List.length_cons] at zl2; omega
  refine ⟨_, rfl, D, _, _, rfl, SqL.of hD, fun l nl => ⟨_, _, rfl, _, _, rfl, rfl, ?_⟩⟩
  have s2 := same_new nl (.lst (numsZ cs))
  refine ⟨_, rfl, n, rfl, n9, fun Z ps H3 nZ s3 hZ pz => ?_⟩
  have lp : ps.length = (pairsG n).length := PairsT.len pz
  have l36 := pairsG_few n n9
  have hl3 := s3 _ _ (upd_same (H := H1) (a := l) (o := .lst (numsZ cs)))
  obtain ⟨L, hL⟩ : ∃ L, L = (pairsG n).length := ⟨_, rfl⟩
  rw [← hL] at lp l36
  have sA := s1.trans (s2.trans s3)
  refine ⟨_, rfl, l, _, rfl, SqL.of hl3, for_it walk_enum (fun i σ H' => ∃ s5 s6 : Option V, σ = [some (.str z), some (.ref D), some (.int (n : Int)), some (.ref l), some (.ref Z), s5, s6, none, none, none, none, none, none] ∧ Same H3 H' ∧ scan L 0 cs = scan L i (cs.drop i))
    ⟨none, none, rfl, fun _ _ e => e, rfl⟩ (fun i σ H' _ ⟨_, _, _, s4, _⟩ => Same.seq s4 (SqL.of hl3)) ?_ ?_⟩
  · rintro i x σ H4 H5 li ⟨s5, s6, rfl, s4, sc⟩ ⟨T1, y, w, rfl, nT, rfl, e1, e2⟩
    obtain rfl : V.int ((i : Nat) : Int) = y := Option.some.inj e1
    obtain ⟨c', hc', rfl⟩ : ∃ c', cs[i]? = some c' ∧ V.int (nm c') = w := by
      have e2' : (numsZ cs)[i]? = some w := e2
      unfold numsZ at e2'
      rw [List.getElem?_map] at e2'
      cases e : cs[i]? with
      | none => rw [e] at e2'; cases e2'
      | some c' => rw [e] at e2'; exact ⟨c', rfl, Option.some.inj e2'⟩
    have sT := same_new nT (.tup [.int ((i : Nat) : Int), .int (nm c')])
    have hZ' := sT _ _ (s4 _ _ hZ)
    have li' : i < cs.length := (List.getElem?_eq_some_iff.mp hc').1
    have dr : cs.drop i = c' :: cs.drop (i + 1) := by
      rw [List.drop_eq_getElem_cons li']
      congr 1
      exact (List.getElem?_eq_some_iff.mp hc').2
    rw [dr] at sc
    have sc' : scan L 0 cs = if goodS L i c' = true then scan L (i + 1) (cs.drop (i + 1)) else some (i + 1) := sc
    refine ⟨T1, _, rfl, SqT.of upd_same, rfl, _, _, rfl, _, _, rfl, rfl, ?_⟩
    refine ⟨_, rfl, _, rfl, Z, _, rfl, .inl (SqL.of hZ'), _, rfl, _, _, rfl, rfl, .inl ⟨by omega, by omega⟩, _, _, rfl, rfl, c', L, i, (by rw [lp]; rfl), _, rfl, iteB (fun g => ?_) (fun g => ?_)⟩
    · have g' : ¬ goodS L i c' = true := by simpa using g
      rw [if_neg g'] at sc'
      have e3 : ((1 : Int) + (i : Int)) = ((i + 1 : Nat) : Int) := by omega
      refine ⟨_, rfl, _, _, rfl, rfl, ?_⟩
      have R := raised (v := V.int ((i + 1 : Nat) : Int)) (bad' (i + 1) (rg' (some (i + 1)) (by rw [← hL]; exact sc')) _ (sA.trans (s4.trans sT)))
      rw [← e3] at R
      exact R
    · have g' : goodS L i c' = true := by simpa using g
      rw [if_pos g'] at sc'
      exact ⟨_, _, rfl, s4.trans sT, sc'⟩
  rintro σ H4 ⟨s5, s6, rfl, s4, sc⟩
  have ln : (numsZ cs).length = cs.length := List.length_map _
  rw [ln, List.drop_length] at sc
  have sc' : scan L 0 cs = if 6 * cs.length < L then some (cs.length + 1) else none := sc
  have hl4 := s4 _ _ hl3
  have hZ4 := s4 _ _ hZ
  refine ⟨_, rfl, l, _, rfl, .inl (SqL.of hl4), _, rfl, Z, _, rfl, .inl (SqL.of hZ4), ps.length, rfl, _, _, rfl, rfl, _, rfl, iteB (fun g => ?_) (fun g => ?_)⟩
  · have g' : ((numsZ cs).length : Int) < (((ps.length + 5) / 6 : Nat) : Int) := of_decide_eq_true g
    rw [ln, lp] at g'
    rw [if_pos (by omega)] at sc'
    refine ⟨_, rfl, z, rfl, small (by omega), ?_⟩
    have e3 : ((z.length : Nat) : Int) = ((cs.length + 1 : Nat) : Int) := by
      show ((z.cps.size : Nat) : Int) = _
      rw [zs, List.length_cons]
    show ([V.int ((z.length : Nat) : Int)] : List V).length ≤ 1000 ∧ _
    rw [e3]
    exact raised (bad' (cs.length + 1) (rg' (some (cs.length + 1)) (by rw [← hL]; exact sc')) _ (sA.trans s4))
  have g' : ¬ ((numsZ cs).length : Int) < (((ps.length + 5) / 6 : Nat) : Int) := of_decide_eq_false g
  rw [ln, lp] at g'
  rw [if_neg (by omega)] at sc'
  have rd : readG (c :: cs) = .told n (tellP (pairsG n) (bitsC cs)) := rg' none (by rw [← hL]; exact sc')
  have good := scan_good cs 0 sc'
  have lgs := scan_enough cs 0 sc'
  rw [Nat.zero_add] at lgs
  have sB := sA.trans s4
  -- the bits
  refine ⟨_, rfl, l, rfl, ⟨_, SqL.of hl4⟩, fun B nB => lo_it (walk_list (xs := numsZ cs)) (fun i H5 => Same H4 H5 ∧ H5 B = some (.lst (nums (bitsC (cs.take i))))) ⟨same_new nB _, upd_same⟩ (fun i H5 _ ⟨s5, _⟩ => Same.seq s5 (SqL.of hl4)) ?_ ?_⟩
  · rintro i x _ H5 li ⟨s5, hB⟩ ⟨rfl, hx⟩
    obtain ⟨c', hc', rfl⟩ : ∃ c', cs[i]? = some c' ∧ V.int (nm c') = x := by
      unfold numsZ at hx
      rw [List.getElem?_map] at hx
      cases e : cs[i]? with
      | none => rw [e] at hx; cases hx
      | some c' => rw [e] at hx; exact ⟨c', rfl, Option.some.inj hx⟩
    have gd := good i c' hc'
    rw [Nat.zero_add] at gd
    unfold goodS at gd
    rw [Bool.and_eq_true, Bool.and_eq_true] at gd
    have cr : 63 ≤ c' ∧ c' < 127 := of_decide_eq_true gd.1.1
    have enc : nm c' = ((c' - 63 : Nat) : Int) := by
      unfold nm
      rw [if_pos cr]
      omega
    rw [enc]
    refine ⟨rfl, (by show 6 ≤ sizeLine; decide), fun t nt => ?_⟩
    have s6 := same_new nt (.tup [.int 5, .int 4, .int 3, .int 2, .int 1, .int 0])
    refine ⟨t, rfl, ⟨_, SqT.of upd_same⟩, lo_it (walk_tup (xs := [.int 5, .int 4, .int 3, .int 2, .int 1, .int 0])) (fun j H6 => H6 t = some (.tup [.int 5, .int 4, .int 3, .int 2, .int 1, .int 0]) ∧ Same H4 H6 ∧ H6 B = some (.lst (nums (bitsC (cs.take i) ++ (bits6 c').take j)))) ⟨upd_same, s5.trans s6, by rw [List.take_zero, List.append_nil]; exact s6 _ _ hB⟩ (fun j H6 _ ⟨s7, _⟩ => SqT.of s7) ?_ ?_⟩
    · rintro j x _ H6 lj ⟨s7, s8, hB⟩ ⟨rfl, hx⟩
      obtain ⟨j6, rfl⟩ := places_at hx
      refine ⟨rfl, ?_⟩
      refine ⟨_, rfl, _, rfl, _, _, rfl, rfl, (by omega), _, _, rfl, rfl, ?_⟩
      have lb : (nums (bitsC (cs.take i) ++ (bits6 c').take j)).length ≤ 6 * 899 + 6 := by
        rw [nums_len, List.length_append, bitsC_len, List.length_take, List.length_take]
        omega
      have ev : Builtin.bitAnd (((c' - 63 : Nat) : Int) / 2 ^ ((5 - j : Nat) : Int).toNat) 1 = (((c' - 63) / 2 ^ (5 - j) % 2 : Nat) : Int) := by
        have z := and_one ((c' - 63) / 2 ^ (5 - j)) (Nat.lt_of_le_of_lt (Nat.div_le_self _ _) (by omega))
        rw [← z]
        congr 1
      refine ⟨_, hB, Nat.lt_of_le_of_lt lb (by rw [sizeLine_eq]; decide), ?_, same_put s8 nB, ?_⟩
      · rw [upd_ne (fun e => by rw [e, hB] at s7; cases s7)]
        exact s7
      · rw [upd_same]
        show some (HO.lst (_ ++ [V.int (Builtin.bitAnd (((c' - 63 : Nat) : Int) / 2 ^ ((5 - j : Nat) : Int).toNat) 1)])) = _
        rw [ev, take_succ (bits6_at c' j j6), ← List.append_assoc, ← nums_app _ [_]]
        rfl
    · rintro H6 ⟨s7, s8, hB⟩
      have lb6 : (bits6 c').length = 6 := rfl
      rw [show ([.int 5, .int 4, .int 3, .int 2, .int 1, .int 0] : List V).length = 6 from rfl, List.take_of_length_le (l := bits6 c') (by rw [lb6]; exact Nat.le_refl _), ← bitsC_succ hc'] at hB
      exact ⟨s8, hB⟩
  rintro H5 ⟨s5, hB⟩
  rw [ln, List.take_length] at hB
  have pz5 := pz.same (s4.trans s5)
  have hZ5 := s5 _ _ hZ4
  have lbb : (nums (bitsC cs)).length = 6 * cs.length := by rw [nums_len, bitsC_len]
  refine ⟨_, rfl, ?_⟩
  refine ⟨_, rfl, _, rfl, Z, B, _, _, rfl, SqL.of hZ5, SqL.of hB, fun R nR => lc_it (walk_zip (K := K) (n := L) (by rw [lp, lbb]; omega)) (fun i H6 => Same H5 H6 ∧ ∃ ys, H6 R = some (.lst ys) ∧ ys.length ≤ i ∧ PairsT H6 ys (tellP ((pairsG n).take i) ((bitsC cs).take i))) ⟨same_new nR _, [], upd_same, Nat.le_refl _, .nil⟩
    (fun i H6 _ ⟨s6, _⟩ => ⟨Same.seq s6 (SqL.of hZ5), Same.seq s6 (SqL.of hB)⟩) ?_ ?_⟩
  · rintro i x H6 H7 li ⟨s6, ys, hR, lys, py⟩ ⟨T1, y, w, rfl, nT, rfl, e1, e2⟩
    obtain ⟨b, hb, rfl⟩ : ∃ b, (bitsC cs)[i]? = some b ∧ V.int ((b : Nat) : Int) = w := by
      have e2' : (nums (bitsC cs))[i]? = some w := e2
      unfold nums at e2'
      rw [List.getElem?_map] at e2'
      cases e : (bitsC cs)[i]? with
      | none => rw [e] at e2'; cases e2'
      | some b => rw [e] at e2'; exact ⟨b, rfl, Option.some.inj e2'⟩
    have e1' : ps[i]? = some y := e1
    have sT := same_new nT (.tup [y, .int ((b : Nat) : Int)])
    obtain ⟨p, hp, hy⟩ : ∃ p, (pairsG n)[i]? = some p ∧ PairT (upd H6 T1 (.tup [y, .int ((b : Nat) : Int)])) y p := by
      have pz7 := pz5.same (s6.trans sT)
      have z := map_gOf pz7
      have m := pz7.mem y (List.mem_of_getElem? e1')
      refine ⟨_, ?_, m⟩
      rw [← z, List.getElem?_map, e1']
      rfl
    have hR7 := sT _ _ hR
    have ltk : ((pairsG n).take i).length = ((bitsC cs).take i).length := by
      rw [List.length_take, List.length_take, bitsC_len]
      omega
    refine ⟨T1, _, rfl, SqT.of upd_same, rfl, _, _, rfl, _, _, rfl, rfl, rfl, ?_⟩
    refine ⟨_, rfl, _, rfl, ?_⟩
    rw [take_succ hp, take_succ hb, tellP_snoc ltk]
    refine iteB (fun g => ?_) (fun g => ?_)
    · have b0 : (b != 0) = true := by
        have : (b : Int) ≠ 0 := by simpa using g
        simp
        omega
      rw [b0]
      refine ⟨_, rfl, ys, hR7, small1000 (by omega), same_put (s6.trans sT) nR, _, upd_same, by rw [List.length_append]; show ys.length + 1 ≤ i + 1; omega, ?_⟩
      exact ((py.same sT).append (.cons hy .nil)).put hR7
    · have b0 : (b != 0) = false := by
        have : (b : Int) = 0 := by simpa using g
        simp
        omega
      rw [b0]
      refine ⟨s6.trans sT, ys, hR7, by omega, ?_⟩
      show PairsT _ ys (_ ++ [])
      rw [List.append_nil]
      exact py.same sT
  rintro H6 ⟨s6, ys, hR, lys, py⟩
  rw [hL, List.take_length] at py
  have tl : tellP (pairsG n) ((bitsC cs).take (pairsG n).length) = tellP (pairsG n) (bitsC cs) := by
    unfold tellP
    rw [zip_take_len]
  rw [tl] at py
  have nd : (tellP (pairsG n) (bitsC cs)).Nodup := tellP_nodup (pairsG_nodup n n9)
  have sC := sB.trans (s5.trans s6)
  refine ⟨R, ys, kOf H6, rfl, SqL.of hR, fun x hx => ?_, fun ys' p so st np => ?_⟩
  · have m := py.mem x hx
    have kx := kOf_at m
    obtain ⟨t, e, ht⟩ := m
    refine ⟨t, e, ?_⟩
    rw [kx]
    exact ht
  obtain ⟨q1, q2, q3⟩ := sorted_pairs py nd so st
  have s7 := same_new np (.lst ys')
  refine ⟨p, _, rfl, .inl ⟨SqL.of upd_same, fun e ne => ?_⟩⟩
  have s8 := same_new ne (.tup ys')
  refine ⟨(by show 2 ≤ sizeLine; decide), fun r nr => ?_⟩
  have s9 := same_new nr (.tup [.int (n : Int), .ref e])
  have sD := s7.trans (s8.trans s9)
  refine told n _ rd (.ref r) (ys'.map (gOf H6)) _ (sC.trans sD) ⟨r, e, ys', rfl, SqT.of upd_same, SqT.of (s9 _ _ upd_same), (q1.same sD).at⟩ ⟨n9, fun q hq => ?_, q2⟩ q3
  exact mem_pairsG.mp (tellP_sub _ _ q ((q3 q).mp hq))
end
end My

set_option maxHeartbeats 2000000
/-! list(zip(a, b)) of two lists of which one has one item; *a, b = a list. -/
namespace My
open PySem PySem.Spec PyProof.Rows L2
theorem nolen_zip : typeLookup (.type "zip") "__len__" = pure none := by rw [typeLookup_type, builtinLookup_eq_fast]; kernel_rfl
theorem nohint_zip : typeLookup (.type "zip") "__length_hint__" = pure none := by rw [typeLookup_type, builtinLookup_eq_fast]; kernel_rfl
/-- a zip at its beginning -/
structure Zip0 (h : Heap) (z TI TO i1 i2 l1 l2 : Addr) (xs ys : Array Value) : Prop where
  hz : IsZip h z TI TO .none
  hTI : IsPair h TI (.ref i1) (.ref i2)
  hTO : ∃ a b, IsPair h TO a b
  h1 : h.IsListIter i1 l1 0
  h2 : h.IsListIter i2 l2 0
  hl1 : h.IsList l1 xs
  hl2 : h.IsList l2 ys
theorem Zip0.keep {h h' : Heap} {z TI TO i1 i2 l1 l2 S : Addr} {xs ys : Array Value} (q : Zip0 h z TI TO i1 i2 l1 l2 xs ys) (off : ∀ b ∈ [z, TI, TO, i1, i2, l1, l2], b ≠ S) (k : ∀ b o, b ≠ S → h.get? b = some o → h'.get? b = some o) : Zip0 h' z TI TO i1 i2 l1 l2 xs ys := by
  obtain ⟨hz, hTI, ⟨a, b, hTO⟩, h1, h2, hl1, hl2⟩ := q
  exact ⟨k _ _ (off _ (by simp)) hz, k _ _ (off _ (by simp)) hTI, ⟨a, b, k _ _ (off _ (by simp)) hTO⟩, h1.at fun o e => k _ o (off _ (by simp)) e, h2.at fun o e => k _ o (off _ (by simp)) e, hl1.at fun o e => k _ o (off _ (by simp)) e, hl2.at fun o e => k _ o (off _ (by simp)) e⟩
section
variable {prog : Program} {w : World} {A : Around} {s : Shared} {R : Result → Shared → Prop} {z TI TO i1 i2 l1 l2 S : Addr} {xs ys : Array Value} {x y : Value}
theorem zl_loop (hh : A.handled = none) (D : ZipApart z TI TO i1 i2 l1 l2) (off : ∀ b ∈ [z, TI, TO, i1, i2, l1, l2], b ≠ S) (Z : Zip0 s.heap z TI TO i1 i2 l1 l2 xs ys) (hx : xs[0]? = some x) (hy : ys[0]? = some y) (hend : xs[1]? = none ∨ ys[1]? = none) (res : Value) {c : Nat}
    (hS : s.heap.get? S = some { cls := .type "list", dict := none, data := .seq #[] c, slots := #[] })
    (hR : ∀ h' tk c T, (∀ b o, b ≠ S → b ≠ z → b ≠ TO → b ≠ i1 → b ≠ i2 → s.heap.get? b = some o → h'.get? b = some o) → h'.get? S = some { cls := .type "list", dict := none, data := .seq #[.ref T] c, slots := #[] } → IsPair h' T x y → s.heap.objs.size ≤ T → R (.ok (.ret res)) { s with heap := h', toks := tk }) :
    codeAny (model prog w) A (.builtin "list.extend.loop" ⟨[.ref S, .ref z, res], []⟩) R s := by
  obtain ⟨hz, hTI, ⟨a, b, hTO⟩, h1, h2, hl1, hl2⟩ := Z
  have oz := off z (by simp)
  have oTI := off TI (by simp)
  have oTO := off TO (by simp)
  have o1 := off i1 (by simp)
  have o2 := off i2 (by simp)
  have ol1 := off l1 (by simp)
  have ol2 := off l2 (by simp)
  refine codeAny_builtin PySem.F.entry_extend_loop ?_
  rw [Around.under_plainId PySem.F.plain_extend_loop _]
  show wpAny _ A.in1 (pyNext (.ref z) >>= _) _ _ _
  refine wpAny_bind (wpAny_pyNext_zip_item D hz hTI hTO h1 h2 hl1 hl2 hx hy fun h' a1 a2 a3 a4 a5 a6 hk => ?_)
  have hS' := hk S _ (Ne.symm oz) (Ne.symm oTO) (Ne.symm o1) (Ne.symm o2) hS
  have nT : s.heap.objs.size ≠ S := Nat.ne_of_gt (Heap.lt_size hS)
  have up : ∀ b o, b ≠ S → h'.get? b = some o → (h'.update S (Obj.mapSeq (·.push (Value.ref s.heap.objs.size)))).get? b = some o := fun b o hb e => (Heap.get?_update_other _ _ (Ne.symm hb)).trans e
  show wpAny _ A.in1 (updateSeq S (·.push (Value.ref s.heap.objs.size)) >>= _) _ _ _
  refine wpAny_bind ?_
  refine wpAny_updateSeq hS' rfl (wpAny_pure ⟨plainId_quiet PySem.F.plain_extend_loop _, ?_⟩) (by show (#[] : Array Value).size ≤ sizeLine; rw [sizeLine_eq]; decide) (by rw [sizeLine_eq]; show (1 : Nat) ≤ _; decide)
  have hS2 := Heap.get?_update_self (Obj.mapSeq (·.push (Value.ref s.heap.objs.size))) hS' rfl
  generalize h'.update S (Obj.mapSeq (·.push (Value.ref s.heap.objs.size))) = h2' at up hS2
  refine codeAny_builtin PySem.F.entry_extend_loop ?_
  rw [Around.under_plainId PySem.F.plain_extend_loop _]
  show wpAny _ A.in1 (pyNext (.ref z) >>= _) _ _ _
  have lz : z ≠ s.heap.objs.size := Nat.ne_of_lt (Heap.lt_size hz)
  refine wpAny_bind (wpAny_pyNext_zip_end_held (s := { s with heap := h2' }) (A := A.in1) (T := s.heap.objs.size) (f := false) hh D (up _ _ oz a1) (up _ _ nT a5) (up _ _ oTI (hk _ _ D.TIz D.TITO D.TIi1 D.TIi2 hTI)) (a3.at fun o e => up _ o o1 e) (a4.at fun o e => up _ o o2 e)
    ((hl1.at fun o e => hk _ o D.l1z D.l1TO D.l1i1 D.l1i2 e).at fun o e => up _ o ol1 e) ((hl2.at fun o e => hk _ o D.l2z D.l2TO D.l2i1 D.l2i2 e).at fun o e => up _ o ol2 e) hend fun h3 hk3 => ?_)
  have t1 : s.heap.objs.size ≠ i1 := by obtain ⟨_, e, _⟩ := h1; exact Nat.ne_of_gt (Heap.lt_size e)
  have t2 : s.heap.objs.size ≠ i2 := by obtain ⟨_, e, _⟩ := h2; exact Nat.ne_of_gt (Heap.lt_size e)
  refine wpAny_pure (hR h3 s.toks _ s.heap.objs.size (fun b o n1 n2 n3 n4 n5 e => hk3 b o n2 n4 n5 (up b o n1 (hk b o n2 n3 n4 n5 e))) (hk3 S _ (Ne.symm oz) (Ne.symm o1) (Ne.symm o2) hS2) (hk3 _ _ (Ne.symm lz) t1 t2 (up _ _ nT a5)) (Nat.le_refl _))
theorem zl_extend (hh : A.handled = none) (D : ZipApart z TI TO i1 i2 l1 l2) (off : ∀ b ∈ [z, TI, TO, i1, i2, l1, l2], b ≠ S) (Z : Zip0 s.heap z TI TO i1 i2 l1 l2 xs ys) (hx : xs[0]? = some x) (hy : ys[0]? = some y) (hend : xs[1]? = none ∨ ys[1]? = none) (res : Value) {c : Nat}
    (hS : s.heap.get? S = some { cls := .type "list", dict := none, data := .seq #[] c, slots := #[] })
    (hR : ∀ h' tk c T, (∀ b o, b ≠ S → b ≠ z → b ≠ TO → b ≠ i1 → b ≠ i2 → s.heap.get? b = some o → h'.get? b = some o) → h'.get? S = some { cls := .type "list", dict := none, data := .seq #[.ref T] c, slots := #[] } → IsPair h' T x y → s.heap.objs.size ≤ T → R (.ok (.ret res)) { s with heap := h', toks := tk }) :
    wpAny (model prog w) A.in1 (Builtin.List.listExtendWith (.ref S) (.ref z) res)
      (fun fin s' => match fin with | .done f => R (.ok f) s' | .again c' => c'.quiet = true ∧ codeAny (model prog w) A c' R s') (fun e s' => R (.error e) s') s := by
  have oz := off z (by simp)
  have hT : s.TypeIs (.ref z) "zip" := ⟨_, Z.hz, rfl⟩
  unfold Builtin.List.listExtendWith
  refine wpAny_bind (wpAny_typeOf (T := "zip") hT ?_)
  have h1 : Builtin.List.listSameRef (.ref S) (.ref z) = false := by simp [Builtin.List.listSameRef, Ne.symm oz]
  have h2 : (Value.type "zip" == Value.type "list") = false := by decide
  have h3 : (Value.type "zip" == Value.type "tuple") = false := by decide
  simp only [h1, h2, h3, Bool.or_false, Bool.false_eq_true, if_false]
  refine wpAny_bind (wpAny_pyIter_zip Z.hz ?_)
  refine wpAny_bind (wpAny_holding ?_)
  unfold Builtin.List.listLengthHint
  refine wpAny_bind (wpAny_specialOf hT nolen_zip ?_)
  show wpAny _ A.in1 (specialOf (Value.ref z) (Str.ofString "__length_hint__") >>= _) _ _ _
  refine wpAny_bind (wpAny_specialOf hT nohint_zip ?_)
  refine wpAny_pure ?_
  show wpAny _ A.in1 (rule "list.extend.makes-room" >>= fun _ => Builtin.List.listTouch (.ref S) >>= fun _ =>
    again (.builtin "list.extend.loop" ⟨[.ref S, .ref z, res], []⟩)) _ _ _
  refine wpAny_bind (wpAny_rule ?_)
  refine wpAny_bind ?_
  show wpAny _ _ (updateSeq S (·.push .none) >>= fun _ => updateSeq S (·.pop)) _ _ _
  refine wpAny_bind (wpAny_updateSeq hS rfl ?_)
  have hS₂ := Heap.get?_update_self (Obj.mapSeq (·.push Value.none)) hS rfl
  refine wpAny_updateSeq (hz := by seq_fits) hS₂ rfl ?_
  have hS₃ := Heap.get?_update_self (Obj.mapSeq (·.pop)) hS₂ rfl
  have oth : ∀ b o, b ≠ S → s.heap.get? b = some o → ((s.heap.update S (Obj.mapSeq (·.push Value.none))).update S (Obj.mapSeq (·.pop))).get? b = some o :=
    fun b o hb e => (Heap.get?_update_other _ _ (Ne.symm hb)).trans ((Heap.get?_update_other _ _ (Ne.symm hb)).trans e)
  have sz : ((s.heap.update S (Obj.mapSeq (·.push Value.none))).update S (Obj.mapSeq (·.pop))).objs.size = s.heap.objs.size := by simp
  refine wpAny_pure ⟨plainId_quiet PySem.F.plain_extend_loop _, zl_loop (s := { s with heap := (s.heap.update S (Obj.mapSeq (·.push Value.none))).update S (Obj.mapSeq (·.pop)) }) hh D off (Z.keep off oth) hx hy hend res hS₃ fun h' tk c T hk hS' hp hT => ?_⟩
  exact hR h' tk c T (fun b o n1 n2 n3 n4 n5 e => hk b o n1 n2 n3 n4 n5 (oth b o n1 e)) hS' hp (by rw [← sz]; exact hT)
theorem zl_call {Q : Value → Shared → Prop} {E : Value → Shared → Prop} (hh : A.handled = none) (D : ZipApart z TI TO i1 i2 l1 l2) (Z : Zip0 s.heap z TI TO i1 i2 l1 l2 xs ys) (hx : xs[0]? = some x) (hy : ys[0]? = some y) (hend : xs[1]? = none ∨ ys[1]? = none)
    (hQ : ∀ h' tk c T, (∀ b o, b ≠ z → b ≠ TO → b ≠ i1 → b ≠ i2 → s.heap.get? b = some o → h'.get? b = some o) → h'.get? s.heap.objs.size = some { cls := .type "list", dict := none, data := .seq #[.ref T] c, slots := #[] } → IsPair h' T x y → s.heap.objs.size < T → Q (.ref s.heap.objs.size) { s with heap := h', toks := tk }) :
    wpAny (model prog w) A (call (.type "list") [.ref z]) Q E s := by
  have off : ∀ b ∈ [z, TI, TO, i1, i2, l1, l2], b ≠ s.heap.objs.size := by
    obtain ⟨hz, hTI, ⟨a, b, hTO⟩, ⟨_, h1, _⟩, ⟨_, h2, _⟩, ⟨_, hl1, _⟩, ⟨_, hl2, _⟩⟩ := Z
    intro c hc
    simp only [List.mem_cons, List.not_mem_nil, or_false] at hc
    rcases hc with rfl | rfl | rfl | rfl | rfl | rfl | rfl
    · exact Nat.ne_of_lt (Heap.lt_size hz)
    · exact Nat.ne_of_lt (Heap.lt_size hTI)
    · exact Nat.ne_of_lt (Heap.lt_size hTO)
    · exact Nat.ne_of_lt (Heap.lt_size h1)
    · exact Nat.ne_of_lt (Heap.lt_size h2)
    · exact Nat.ne_of_lt (Heap.lt_size hl1)
    · exact Nat.ne_of_lt (Heap.lt_size hl2)
  refine callType_codes (Q₁ := fun obj s₁ => obj = .ref s.heap.objs.size ∧ s₁ = { s with heap := s.heap.push { cls := .type "list", data := .seq #[] } }) PySem.F.called_list (PySem.F.typeCall_list_1 _) PySem.F.entry_list_init
    (code_list_new _ ⟨rfl, rfl⟩) fun obj s₁ h₁ => ?_
  obtain ⟨rfl, rfl⟩ := h₁
  have hS : (s.heap.push { cls := .type "list", data := .seq #[] }).get? s.heap.objs.size = some { cls := .type "list", data := .seq #[] } := Heap.get?_push_size _ rfl
  have init : ∀ (R : Result → Shared → Prop), (∀ h' tk c T, (∀ b o, b ≠ z → b ≠ TO → b ≠ i1 → b ≠ i2 → s.heap.get? b = some o → h'.get? b = some o) → h'.get? s.heap.objs.size = some { cls := .type "list", dict := none, data := .seq #[.ref T] c, slots := #[] } → IsPair h' T x y → s.heap.objs.size < T → R (.ok (.ret .none)) { s with heap := h', toks := tk }) →
      wpAny (model prog w) A.in1.in1 (Builtin.«list.__init__» ⟨[.ref s.heap.objs.size, .ref z], []⟩)
      (fun fin s' => match fin with | .done f => R (.ok f) s' | .again c' => c'.quiet = true ∧ codeAny (model prog w) A.in1 c' R s') (fun e s' => R (.error e) s') { s with heap := s.heap.push { cls := .type "list", data := .seq #[] } } := by
    intro R hR
    show wpAny _ _ (do let old ← Builtin.List.listItems (.ref s.heap.objs.size); Builtin.List.listUpdate (.ref s.heap.objs.size) (fun _ => #[]); letGo old.toList.reverse; Builtin.List.listExtendWith (.ref s.heap.objs.size) (.ref z) .none) _ _ _
    refine wpAny_bind ?_
    unfold Builtin.List.listItems
    refine wpAny_bind (wpAny_seqItems hS rfl (wpAny_pure ?_))
    show wpAny _ _ (updateSeq s.heap.objs.size (fun _ => #[]) >>= fun _ => letGo (#[] : Array Value).toList.reverse >>= fun _ => Builtin.List.listExtendWith (.ref s.heap.objs.size) (.ref z) .none) _ _ _
    refine wpAny_bind (wpAny_updateSeq hS rfl ?_)
    have hS₂ := Heap.get?_update_self (Obj.mapSeq (fun _ => (#[] : Array Value))) hS rfl
    have oth : ∀ b o, b ≠ s.heap.objs.size → s.heap.get? b = some o → ((s.heap.push { cls := .type "list", data := .seq #[] }).update s.heap.objs.size (Obj.mapSeq (fun _ => (#[] : Array Value)))).get? b = some o :=
      fun b o hb e => (Heap.get?_update_other _ _ (Ne.symm hb)).trans (Heap.get?_push_of_some _ e)
    have sz : ((s.heap.push { cls := .type "list", data := .seq #[] }).update s.heap.objs.size (Obj.mapSeq (fun _ => (#[] : Array Value)))).objs.size = s.heap.objs.size + 1 := by simp [Heap.size_push]
    refine wpAny_bind (wpAny_letGo ?_)
    refine zl_extend (A := A.in1) (s := { s with heap := (s.heap.push { cls := .type "list", data := .seq #[] }).update s.heap.objs.size (Obj.mapSeq (fun _ => (#[] : Array Value))) }) hh D off (Z.keep off oth) hx hy hend .none hS₂ fun h' tk c T hk hS' hp hT => ?_
    exact hR h' tk c T (fun b o n2 n3 n4 n5 e => hk b o (Nat.ne_of_lt (Heap.lt_size e)) n2 n3 n4 n5 (oth b o (Nat.ne_of_lt (Heap.lt_size e)) e)) hS' hp (by have z : ((s.heap.push { cls := .type "list", data := .seq #[] }).update s.heap.objs.size (Obj.mapSeq (fun _ => (#[] : Array Value)))).objs.size ≤ T := hT; rw [sz] at z; exact z)
  refine ⟨⟨_, hS, rfl⟩, PySem.F.args_list_init_2 _ _, init _ fun h' tk c T hk hS' hp hT => ?_⟩
  exact ⟨rfl, hQ h' tk c T hk hS' hp hT⟩
end
end My

set_option maxHeartbeats 4000000
/-! len(set(xs)), xs a list of unlike texts, any number of them. -/
namespace My
open PySem PySem.Spec PyProof.Rows L2
theorem strAt : ∀ {its : List Value} {ys : List Str}, StrsAre its ys → ∀ (i : Nat) (u : Value), its[i]? = some u → ∃ t, u = .str (ys.getD i Str.empty) t
  | _, _, .nil, i, u, h => by simp at h
  | _, _, .cons y t r, 0, u, h => by simp at h; exact ⟨t, by rw [← h]; rfl⟩
  | _, _, .cons y t r, i + 1, u, h => by
    rw [List.getElem?_cons_succ] at h
    obtain ⟨t', e⟩ := strAt r i u h
    exact ⟨t', by rw [e]; rfl⟩
theorem had_not {xs : List Str} (nd : xs.Nodup) {i : Nat} (h : i < xs.length) : ((xs.take i).any (· == xs.getD i Str.empty)) = false := by
  rw [List.any_eq_false]
  intro y hy
  obtain ⟨j, hj⟩ := List.mem_iff_getElem?.mp hy
  have lj : j < i := by
    have z := (List.getElem?_eq_some_iff.mp hj).1
    rw [List.length_take] at z
    omega
  rw [List.getElem?_take_of_lt lj] at hj
  obtain ⟨l1, e1⟩ := List.getElem?_eq_some_iff.mp hj
  have e2 : xs.getD i Str.empty = xs[i] := by rw [List.getD_eq_getElem?_getD, List.getElem?_eq_getElem h]; rfl
  rw [e2, ← e1]
  intro c
  have c' : xs[j] = xs[i] := by simpa using c
  have z := List.pairwise_iff_getElem.mp nd j i l1 h lj
  exact z c'
theorem had_more {xs : List Str} {i : Nat} (h : i < xs.length) (k : Str) : ((xs.take i).any (· == k) || decide (k = xs.getD i Str.empty)) = (xs.take (i + 1)).any (· == k) := by
  have e2 : xs.getD i Str.empty = xs[i] := by rw [List.getD_eq_getElem?_getD, List.getElem?_eq_getElem h]; rfl
  rw [e2, List.take_succ, List.any_append, List.getElem?_eq_getElem h]
  congr 1
  show _ = ([xs[i]].any fun z => z == k)
  rw [List.any_cons, List.any_nil, Bool.or_false]
  by_cases c : k = xs[i]
  · rw [decide_eq_true c, c]; simp
  · rw [decide_eq_false c]
    symm
    exact beq_eq_false_iff_ne.mpr fun e => c e.symm
section
variable {prog : Program} {w : World} {A : Around} {R : Result → Shared → Prop} {I : Addr} {fp wr : List Addr} {G : Array GenState → Array GenState → Prop} {n : Nat} {P : Nat → Value → Prop} {St : Nat → Shared → Prop}
theorem ss_loop (W : WalksS prog w A.in1 I fp wr G n P St) (S : Addr) (off : S ∉ fp) {xs : List Str} (len : xs.length = n) (nd : xs.Nodup) (few : n + 1 < scanBound) (val : ∀ i v, P i v → ∃ t, v = .str (xs.getD i Str.empty) t) :
    ∀ (k i : Nat) (s : Shared), n - i = k → i ≤ n → St i s → s.heap.SetOf (PySem.strKind prog w) S (fun z => (xs.take i).any (· == z)) i →
      (∀ s', Moved (S :: wr) G s s' → s'.heap.SetOf (PySem.strKind prog w) S (fun z => (xs.take n).any (· == z)) n → R (.ok (.ret .none)) s') →
      codeAny (model prog w) A (.builtin "set.update.loop" ⟨[.ref S, .ref I], []⟩) R s := by
  have offw : S ∉ wr := fun h => off (W.sub _ h)
  have sub : ∀ b ∈ wr, b ∈ S :: wr := fun b hb => List.mem_cons_of_mem _ hb
  intro k
  induction k with
  | zero =>
    intro i s hk hi st hS hR
    obtain rfl : i = n := by omega
    refine codeAny_builtin PyProof.Rows.F.entry_set_update_loop ?_
    rw [Around.under_plainId PyProof.Rows.F.plain_set_update_loop _]
    show wpAny _ A.in1 (pyNext (.ref I) >>= _) _ _ s
    refine wpAny_bind (W.done s _ _ st fun s' mv => ?_)
    show wpAny _ A.in1 (ret Value.none) _ _ s'
    refine wpAny_pure (hR s' (mv.mono sub) ?_)
    obtain ⟨o, es, ep, t, ho, more⟩ := hS
    exact ⟨o, es, ep, t, mv.heap S _ offw ho, more⟩
  | succ k ih =>
    intro i s hk hi st hS hR
    have lt : i < n := by omega
    refine codeAny_builtin PyProof.Rows.F.entry_set_update_loop ?_
    rw [Around.under_plainId PyProof.Rows.F.plain_set_update_loop _]
    show wpAny _ A.in1 (pyNext (.ref I) >>= _) _ _ s
    refine wpAny_bind (W.item i s _ _ lt st fun v s' hP st' mv => ?_)
    obtain ⟨t, rfl⟩ := val i v hP
    have hS' : s'.heap.SetOf (PySem.strKind prog w) S (fun z => (xs.take i).any (· == z)) i := by
      obtain ⟨o, es, ep, tb, ho, more⟩ := hS
      exact ⟨o, es, ep, tb, mv.heap S _ offw ho, more⟩
    show wpAny _ A.in1 (holding [Value.str (xs.getD i Str.empty) t] (setAdd S (.str (xs.getD i Str.empty) t)) >>= _) _ _ s'
    refine wpAny_bind (wpAny_holding ?_)
    unfold setAdd
    refine wpAny_holding ?_
    refine wpAny_bind ((PySem.strKind prog w).pyHash (k := xs.getD i Str.empty) (strKind_is _ _ _ _) ?_)
    refine wpAny_setAddHashed_of (knd := PySem.strKind prog w) (s := { s' with toks := s'.toks + 1 }) (strKind_is _ _ _ _) rfl hS' (by omega) fun h' same hS2 => ?_
    have hS3 : h'.SetOf (PySem.strKind prog w) S (fun z => (xs.take (i + 1)).any (· == z)) (i + 1) :=
      SetOf_congr hS2 (fun z => had_more (by omega) z) (by rw [had_not nd (by omega)]; rfl)
    refine wpAny_pure ⟨plainId_quiet PyProof.Rows.F.plain_set_update_loop _, ih (i + 1) _ (by omega) lt (W.frame _ s' _ _ st' (Nat.le_succ _) fun b hb o e => ?_) hS3 fun s2 mv2 hS4 => hR s2 (Moved.trans W.gtrans ((mv.mono sub).then_heap (Nat.le_succ _) fun b o hb e => ?_) mv2) hS4⟩
    · rw [same.2 b (fun c : b = S => off (c ▸ hb))]
      exact e
    · rw [same.2 b (fun c : b = S => hb (by rw [c]; exact List.mem_cons_self))]
      exact e
end
section
variable {prog : Program} {w : World} {A : Around} {E : Value → Shared → Prop} {s : Shared}
set_option maxHeartbeats 6400000 in
theorem ss_call {l : Addr} {items : Array Value} {xs : List Str} {Q : Value → Shared → Prop} (hh : A.handled = none) (hl : s.heap.IsList l items) (are : StrsAre items.toList xs) (nd : xs.Nodup) (few : xs.length + 1 < scanBound)
    (h : ∀ (h' : Heap) (tk : Nat), h'.SetOf (PySem.strKind prog w) s.heap.objs.size (fun z => (xs.take items.size).any (· == z)) items.size →
      (∀ b o, b < s.heap.objs.size → s.heap.get? b = some o → h'.get? b = some o) → Q (.ref s.heap.objs.size) { s with heap := h', toks := tk }) :
    wpAny (model prog w) A (call (.type "set") [.ref l]) Q E s := by
  obtain ⟨c, tl, hmro⟩ := PySem.F.called_set.mro
  have hmade := PySem.F.called_set.made
  have hsub := PySem.F.called_set.sub
  refine wpAny_call (codeAny_of_tree ?_)
  show wpAny _ _ (callAny (.type "set") _) _ _ _
  refine wpAny_pure ⟨Code.quiet_builtin _ (by decide +kernel), codeAny_builtin PySem.F.entry_type_call ?_⟩
  rw [Around.under_plain (weight_type_call_type "set" [.ref l] []) rfl]
  have k1 := PySem.F.called_set.notType
  have k2 := PySem.F.called_set.canCreate
  have k3 := PySem.F.typeCall_set_1 (.ref l)
  repeat (any_goals (first | assumption | wp_step))
  refine codeAny_mono (code_set_new_1 (.ref l) (E := E) (Q₁ := fun obj s₁ => ∃ led : Bool, obj = .ref s.heap.objs.size ∧ s₁ = { s with heap := s.heap.push { cls := .type "set", dict := none, data := .set #[] 0 (.fresh 0 0 led) } }) fun led => ⟨led, rfl, rfl⟩) fun r s₁ hr => ?_
  cases r with
  | error e => exact hr
  | ok fl =>
    cases fl with
    | ret obj =>
      obtain ⟨led, rfl, rfl⟩ := hr
      have hS : (s.heap.push { cls := .type "set", dict := none, data := .set #[] 0 (.fresh 0 0 led) }).get? s.heap.objs.size = some { cls := .type "set", dict := none, data := .set #[] 0 (.fresh 0 0 led) } := Heap.get?_push_size _ rfl
      have hT : Shared.TypeIs { s with heap := s.heap.push { cls := .type "set", dict := none, data := .set #[] 0 (.fresh 0 0 led) } } (.ref s.heap.objs.size) "set" := ⟨_, hS, rfl⟩
      have k4 := PySem.F.called_set.init.lookup
      have k5 := PySem.F.called_set.init.bind (.ref s.heap.objs.size)
      repeat (any_goals (first | assumption | wp_step))
      refine codeAny_mono (codeAny_call_builtin (R := wants (fun r s₂ => r = .none ∧ ∃ h' tk, s₂ = { s with heap := h', toks := tk } ∧
          h'.SetOf (PySem.strKind prog w) s.heap.objs.size (fun z => (xs.take items.size).any (· == z)) items.size ∧
          (∀ b o, b < s.heap.objs.size → s.heap.get? b = some o → h'.get? b = some o)) E) PySem.F.called_set.init.plain PySem.F.entry_set_init (check_set_init_1 hT ?_)) fun r₂ s₂ hr₂ => ?_
      · obtain ⟨ol, hol, hcl, nl, hdl⟩ := hl
        obtain ⟨ocls, odict, odata, oslots⟩ := ol
        simp only at hcl hdl
        subst hcl; subst hdl
        have hol' : (s.heap.push { cls := .type "set", dict := none, data := .set #[] 0 (.fresh 0 0 led) }).get? l = some { cls := .type "list", dict := odict, data := .seq items nl, slots := oslots } := Heap.get?_push_of_some _ hol
        have k6 := PySem.F.sub_list_set
        have k7 := PySem.F.sub_list_frozenset
        have k8 : (Value.type "list" == Value.type "dict") = false := by decide
        have hl1 : (s.heap.push { cls := .type "set", dict := none, data := .set #[] 0 (.fresh 0 0 led) }).IsList l items := ⟨_, hol', rfl, nl, rfl⟩
        unfold Builtin.«set.__init__» noKeywords Builtin.Frozenset.updateFrom
        generalize hPI : pyIter = PI
        wp_walk
        subst hPI
        refine wpAny_pyIter_list hl1 ?_
        refine wpAny_bind (wpAny_runValue ?_)
        have lS : l < s.heap.objs.size := Heap.lt_size hol
        have hh3 : A.in1.in1.in1.handled = none := by simp [hh]
        have nI : l ≠ (s.heap.push { cls := .type "set", dict := none, data := .set #[] 0 (.fresh 0 0 led) }).objs.size := by
          rw [Heap.size_push]; exact Nat.ne_of_lt (Nat.lt_succ_of_lt lS)
        have off : s.heap.objs.size ∉ [(s.heap.push { cls := .type "set", dict := none, data := .set #[] 0 (.fresh 0 0 led) }).objs.size, l] := by
          rw [Heap.size_push]; simp only [List.mem_cons, List.mem_singleton, List.not_mem_nil, or_false, not_or]
          exact ⟨Nat.ne_of_lt (Nat.lt_succ_self _), Nat.ne_of_gt lS⟩
        have len : xs.length = items.size := by rw [← StrsAre.len_eq are, Array.length_toList]
        refine ss_loop ((Walks.list hh3 _ l nI items).toS) s.heap.objs.size off len nd (by rw [← len]; exact few) (fun i v hv => strAt are i v (by rw [Array.getElem?_toList]; exact hv)) (items.size - 0) 0 _ (by omega) (Nat.zero_le _)
          ⟨⟨_, Heap.get?_push_size _ rfl, rfl, rfl⟩, (hl1.push _)⟩ ?hS0 ?hR
        case hS0 =>
          have got : ((s.heap.push { cls := .type "set", dict := none, data := .set #[] 0 (.fresh 0 0 led) }).push { cls := .type "list_iterator", data := .fields #[.ref l, .int 0 0] }).get? s.heap.objs.size = some { cls := .type "set", dict := none, data := .set #[] 0 (.fresh 0 0 led) } := Heap.get?_push_of_some _ hS
          exact SetOf_congr ((setObjOf_fresh (knd := PySem.strKind prog w) led).setOf got (by unfold scanBound; omega)) (fun _ => rfl) rfl
        case hR =>
          intro s' mv hS'
          obtain ⟨h', g', d', tk', os'⟩ := s'
          have eg : g' = s.gens := mv.gens
          have ed : d' = s.drawn := mv.drawn
          have eo : os' = s.os := mv.os
          subst eg; subst ed; subst eo
          show wpAny _ _ _ _ _ _
          refine wpAny_pure ?_
          show wpAny _ _ (ret Value.none) _ _ _
          refine wpAny_pure ⟨rfl, h', tk', rfl, hS', fun b o hb e => ?_⟩
          have b1 : b ≠ s.heap.objs.size := Nat.ne_of_lt hb
          have b2 : b ≠ (s.heap.push { cls := .type "set", dict := none, data := .set #[] 0 (.fresh 0 0 led) }).objs.size := by
            rw [Heap.size_push]; exact Nat.ne_of_lt (Nat.lt_succ_of_lt hb)
          exact mv.heap b o (by simp only [List.mem_cons, List.mem_singleton, List.not_mem_nil, or_false, not_or]; exact ⟨b1, b2⟩) (Heap.get?_push_of_some _ (Heap.get?_push_of_some _ e))
      · cases r₂ with
        | error e => exact hr₂
        | ok fl₂ =>
          cases fl₂ with
          | ret r =>
            obtain ⟨rfl, h', tk, rfl, hS', hk'⟩ := hr₂
            repeat (any_goals (first | assumption | wp_step))
            exact h _ _ hS' hk'
          | _ => exact hr₂.elim
    | _ => exact hr.elim
end
section
variable {X : Cx}
def tLenS (K : PySem.W.Frag) (ta : TE) : TE := fun σ H Q => ta σ H fun x H1 => ∃ (l : Addr) (xs : List Str), x = .ref l ∧ SqL K H1 l (xs.map V.str) ∧ xs.length < 60 ∧ xs.Nodup ∧ Q (.int xs.length) H1
theorem pe_lenS {a : Expr} {ta : TE} {p p2 q pos : Pos} (hc : X.calm = true) (hg : Gl X "len") (hm : X.mg "len" = none) (hg2 : Gl X "set") (hm2 : X.mg "set" = none) (ha : PE X a ta)
    (na : starEach [a] X.env = (false, eval a X.env) :: starEach [] X.env := by rfl) : PE X (.Call (.Name "len" p) [.Call (.Name "set" p2) [a] [] q] [] pos) (tLenS X.K ta) := by
  refine ⟨fun pins s σ H Q I h => ?_⟩
  refine Call_ (ld_blt I hg hm boot_len ?_)
  refine callWith_builtin1 (args_cons ?_ rfl) rfl rfl
  refine Call_ (ld_blt I hg2 hm2 boot_set ?_)
  refine callWith_type1 (args_cons (thn (ha.run pins s σ H _ I h) fun v s1 ⟨x, H1, I1, r1, q1⟩ => args_nil ?_) na) na rfl
  obtain ⟨l, xs, rfl, hq, few, nd, q1⟩ := q1
  cases r1
  obtain ⟨its, r, pl, hz⟩ := I1.list hq
  refine ss_call (I1.ok.hd hc) pl.isList (xs := xs) (strsAre_of r) nd (by unfold scanBound; omega) fun h' tk hS hk => ?_
  refine args_nil ?_
  have hl : its.toArray.size = xs.length := by rw [List.size_toArray, ← r.length, List.length_map]
  rw [hl] at hS
  obtain ⟨o, es, ep, t, ho, hex, hd, _, _, _, hf, hn⟩ := hS
  have I2 : L2.Inv X pins σ H1 { s1 with heap := h', toks := tk } := I1.kept fun b o e => hk b o (Heap.lt_size e) e
  exact call_len_set ho hex hd hf (by rw [hn]; omega) ⟨.int xs.length, H1, I2.tok _, ⟨_, by rw [hn]⟩, q1⟩
end
end My

set_option maxHeartbeats 4000000
/-! Rules: *a, b = a list; list(zip(a, b)); a text's index. -/
namespace My
open PySem PySem.Spec PyProof.Rows L2
theorem vals_snoc : ∀ {xs : List V} {x : V} {us : List Value}, Vals (xs ++ [x]) us → ∃ ys y, us = ys ++ [y] ∧ Vals xs ys ∧ RelV x y
  | [], x, _, .cons r .nil => ⟨[], _, rfl, .nil, r⟩
  | a :: xs, x, _, .cons r h => by
    obtain ⟨ys, y, e, h1, h2⟩ := vals_snoc (xs := xs) h
    exact ⟨_ :: ys, y, by rw [e]; rfl, .cons r h1, h2⟩
section
variable {X : Cx}
/-- *a, b = a list -/
def gStarF (K : PySem.W.Frag) (g0 g1 : TG) : TG := fun v σ H Q => ∃ (a : Addr) (x : V) (xs : List V), v = .ref a ∧ SqL K H a (xs ++ [x]) ∧ ∀ l, H l = none → gCons g0 (gCons g1 gNil) [.ref l, x] σ (upd H l (.lst xs)) Q
theorem pg_starF {t0 t1 : Expr} {p0 pos : Pos} {k : Nat} {g0 g1 : TG} (hc : X.calm = true) (h0 : PG X t0 g0) (h1 : PG X t1 g1)
    (hs : assignEach [.Starred t0 p0, t1] X.env = [(true, assign t0 X.env), (false, assign t1 X.env)] := by rfl) (hs2 : assignEach [t0, t1] X.env = [(false, assign t0 X.env), (false, assign t1 X.env)] := by rfl) (hs3 : assignEach [t1] X.env = [(false, assign t1 X.env)] := by rfl) : PG X (.Tuple [.Starred t0 p0, t1] k pos) (gStarF X.K g0 g1) := by
  have hg : PGs X [t0, t1] (gCons g0 (gCons g1 gNil)) := pgs_cons h0 (pgs_cons h1 pgs_nil (by rw [hs3]; rfl)) (by rw [hs2, hs3]; rfl)
  refine ⟨fun pins s σ H v u Q I r hw => ?_⟩
  obtain ⟨a, x, xs, rfl, hq, hw⟩ := hw
  cases r
  obtain ⟨its, rv, pl, hz⟩ := I.list hq
  obtain ⟨ys, y, rfl, rs, r0⟩ := vals_snoc rv
  rw [assign_Tuple]
  refine wpAny_bind (wpAny_standAt ?_)
  rw [hs]
  unfold unpack
  refine wpAny_bind (wpAny_holding ?_)
  show wpAny _ _ (unpackItems (.ref a) 2 (some 0)) _ _ _
  unfold unpackItems
  refine wpAny_bind ?_
  unfold notIterableAtAll
  refine wpAny_bind (wpAny_specialOf pl.isList.typeIs slot_list_iter.lookup ?_)
  refine wpAny_pure ?_
  simp only [Option.isSome_some, if_true, Bool.false_eq_true, if_false]
  refine wpAny_bind (wpAny_holding (wpAny_pyIter_list pl.isList ?_))
  have ha : a < s.heap.objs.size := by
    obtain ⟨o, ho, _⟩ := pl.isList
    exact Heap.lt_size ho
  have ne : a ≠ s.heap.objs.size := Nat.ne_of_lt ha
  refine wpAny_bind (wpAny_holding ?_)
  unfold draw
  refine wpAny_pure ?_
  simp only [List.length_nil, Nat.lt_irrefl, if_false]
  generalize hs0 : s.heap.push { cls := .type "list_iterator", data := .fields #[.ref a, .int 0 0] } = h0'
  have k0 : ∀ b o, s.heap.get? b = some o → h0'.get? b = some o := fun b o e => by rw [← hs0]; exact Heap.get?_push_of_some _ e
  have it0 : h0'.IsListIter s.heap.objs.size a 0 := by rw [← hs0]; exact ⟨_, Heap.get?_push_size _ rfl, rfl, rfl⟩
  have li0 : h0'.IsList a (ys ++ [y]).toArray := pl.isList.at fun o e => k0 a o e
  refine wpAny_bind (wpAny_holding ?_)
  have W := Walks.list (prog := X.prog) (w := X.w) (A := X.A.in1) (I.ok.hd hc) s.heap.objs.size a ne (ys ++ [y]).toArray
  have hI : ∀ b ∈ [s.heap.objs.size, a], b < h0'.objs.size := fun b hb => by
    rcases List.mem_cons.mp hb with rfl | hb
    · obtain ⟨o, ho, _⟩ := it0
      exact Heap.lt_size ho
    · rw [List.mem_singleton.mp hb]
      obtain ⟨o, ho, _⟩ := li0
      exact Heap.lt_size ho
  have lxy : xs.length = ys.length := Vals.length rs
  have zx : xs.length + 1 ≤ sizeLine := by simpa using hz
  refine wpAny_collect_iter (s := { s with heap := h0' }) (.inr (.inr (.inl rfl))) W.toS (fun _ _ st => st.1.typeIs) ⟨it0, li0⟩ hI (by simp) (fun s' acc mv io => ?_) (by rw [List.size_toArray, List.length_append, List.length_singleton]; omega)
  have accE : acc.toList = ys ++ [y] := by
    refine List.ext_getElem? fun j => ?_
    by_cases hj : j < acc.size
    · have e1 : acc[j]? = some acc[j] := Array.getElem?_eq_getElem hj
      have e2 := io.2 j _ e1
      rw [Array.getElem?_toList, e1, ← e2]
      simp
    · have l1 : acc.size = (ys ++ [y]).length := io.1.trans List.size_toArray
      have l2 : (ys ++ [y]).length ≤ j := by rw [← l1]; exact Nat.le_of_not_lt hj
      rw [List.getElem?_eq_none (by rw [Array.length_toList]; exact Nat.le_of_not_lt hj), List.getElem?_eq_none l2]
  rw [accE, if_neg (by rw [List.length_append, List.length_singleton]; omega)]
  have tk : List.take ((ys ++ [y]).length - (2 - 1 - 0)) (ys ++ [y]) = ys := by
    rw [List.length_append, List.length_singleton, show ys.length + 1 - (2 - 1 - 0) = ys.length by omega, List.take_left]
  have dr : List.drop ((ys ++ [y]).length - (2 - 1 - 0)) (ys ++ [y]) = [y] := by
    rw [List.length_append, List.length_singleton, show ys.length + 1 - (2 - 1 - 0) = ys.length by omega, List.drop_left]
  rw [tk, dr]
  refine wpAny_bind (wpAny_newObj_type ?_ (by show ys.length ≤ sizeLine; omega))
  refine wpAny_pure ?_
  have kp : ∀ b o, s.heap.get? b = some o → s'.heap.get? b = some o := fun b o e => by
    have nb : b ≠ s.heap.objs.size := Nat.ne_of_lt (Heap.lt_size e)
    exact mv.heap b o (fun m => nb (List.mem_singleton.mp m)) (k0 b o e)
  have es : s' = { s with heap := s'.heap, toks := s'.toks } := by
    have g1 : s'.gens = s.gens := mv.gens
    have g2 : s'.drawn = s.drawn := mv.drawn
    have g3 : s'.os = s.os := mv.os
    cases s'
    cases s
    simp only at g1 g2 g3
    subst g1 g2 g3
    rfl
  have I1 : L2.Inv X pins σ H s' := by
    rw [es]
    exact I.kept (t' := s'.toks) kp
  have I2 := I1.laid (h' := s'.heap.push { cls := .type "list", data := .seq ys.toArray }) (a := s'.heap.objs.size) (o := .lst xs) (t' := s'.toks) (fun b o e => Heap.get?_push_of_some _ e) (Nat.le_refl _) (show ObjOk X.prog X.w _ _ _ (.lst xs) from ⟨by omega, ys, _, rs, Heap.get?_push_size _ rfl⟩)
  have z := hg.run pins _ σ _ [.ref s'.heap.objs.size, x] _ Q I2 (.cons rfl (.cons r0 .nil)) (hw _ (I1.hok.fresh (Nat.le_refl _)))
  rw [hs2] at z
  exact z
/-- list(zip(a, b)), one of them a list of one -/
def tListZip (K : PySem.W.Frag) (ta : TA) : TE := fun σ H Q => ta σ H fun vs H1 => ∃ (a b : Addr) (xs ys : List V) (x y : V), vs = [.ref a, .ref b] ∧ SqL K H1 a xs ∧ SqL K H1 b ys ∧ xs[0]? = some x ∧ ys[0]? = some y ∧ (xs[1]? = none ∨ ys[1]? = none) ∧
  ∀ l T, H1 T = none → H1 l = none → l ≠ T → Q (.ref l) (upd (upd H1 T (.tup [x, y])) l (.lst [.ref T]))
theorem pe_listZip {e e2 : Expr} {ta : TA} {p p2 q pos : Pos} (hc : X.calm = true) (hg : Gl X "list") (hm : X.mg "list" = none) (hg2 : Gl X "zip") (hm2 : X.mg "zip" = none) (ha : PA X [e, e2] ta)
    (hs : starEach [e, e2] X.env = (false, eval e X.env) :: starEach [e2] X.env := by rfl) (hpl : (backTo q (starEach [e2] X.env)).any (·.1) = false := by rfl) :
    PE X (.Call (.Name "list" p) [.Call (.Name "zip" p2) [e, e2] [] q] [] pos) (tListZip X.K ta) := by
  refine ⟨fun pins s σ H Q I h => ?_⟩
  refine Call_ (ld_blt I hg hm boot_list ?_)
  refine callWith_type1 (args_cons ?_ rfl) rfl rfl
  refine Call_ (ld_blt I hg2 hm2 boot_zip (callWith_type1 (thn (ha.run q pins s σ H _ I h) fun us s1 ⟨vs, H1, I1, r1, q1⟩ => ?_) hs hpl))
  obtain ⟨a, b, xs, ys, x, y, rfl, hqx, hqy, ex, ey, hend, q1⟩ := q1
  cases r1 with
  | cons r rr =>
    cases rr with
    | cons r' rr =>
      cases rr
      cases r
      cases r'
      obtain ⟨its, rv, p1, _⟩ := I1.list hqx
      obtain ⟨its2, rv2, p2, _⟩ := I1.list hqy
      have la : a < s1.heap.objs.size := p1.lt
      have lb : b < s1.heap.objs.size := p2.lt
      obtain ⟨u, eu, ru⟩ := rv.get ex
      obtain ⟨v, ev, rw'⟩ := rv2.get ey
      refine call_zip_2 p1.isList p2.isList fun h' hz hTI hTO h1 h2 hsz hk => ?_
      refine args_nil ?_
      refine zl_call (s := { s1 with heap := h' }) (x := u) (y := v) (I.ok.hd hc) (PySem.W.ktu_apart s1.heap.objs.size a b la lb) ⟨hz, hTI, ⟨_, _, hTO⟩, h1, h2, p1.isList.at fun o e => hk _ o e, p2.isList.at fun o e => hk _ o e⟩ (by rw [← eu]; simp) (by rw [← ev]; simp) ?_ fun h2' tk c T k2 hl hp hT => ?_
      · have l1 := rv.length
        have l2 := rv2.length
        rcases hend with z | z
        · left
          have := List.getElem?_eq_none_iff.mp z
          rw [Array.getElem?_eq_none (by rw [List.size_toArray]; omega)]
        · right
          have := List.getElem?_eq_none_iff.mp z
          rw [Array.getElem?_eq_none (by rw [List.size_toArray]; omega)]
      · have ks : ∀ b o, s1.heap.get? b = some o → h2'.get? b = some o := fun b o e => by
          have lt := Heap.lt_size e
          exact k2 b o (Nat.ne_of_lt (Nat.lt_of_lt_of_le lt (Nat.le_add_right _ _))) (Nat.ne_of_lt (Nat.lt_of_lt_of_le lt (Nat.le_add_right _ _))) (Nat.ne_of_lt lt) (Nat.ne_of_lt (Nat.lt_of_lt_of_le lt (Nat.le_add_right _ _))) (hk b o e)
        have big : s1.heap.objs.size ≤ h'.objs.size := by rw [hsz]; exact Nat.le_add_right _ _
        have hT' : h'.objs.size < T := hT
        have bigT : s1.heap.objs.size ≤ T := Nat.le_of_lt (Nat.lt_of_le_of_lt big hT')
        have nT : H1 T = none := I1.hok.fresh bigT
        have nl : H1 h'.objs.size = none := I1.hok.fresh big
        have neq : h'.objs.size ≠ T := Nat.ne_of_lt hT'
        have off : ∀ b o, s1.heap.get? b = some o → b ≠ T ∧ b ≠ h'.objs.size := fun b o e => ⟨Nat.ne_of_lt (Nat.lt_of_lt_of_le (Heap.lt_size e) bigT), Nat.ne_of_lt (Nat.lt_of_lt_of_le (Heap.lt_size e) big)⟩
        have same : Same H1 (upd (upd H1 T (.tup [x, y])) h'.objs.size (.lst [.ref T])) := fun b o e => by rw [upd_ne (ne_of_none e nl), upd_ne (ne_of_none e nT)]; exact e
        have okT : ∀ H2 : Hp, ObjOk X.prog X.w H2 h2' T (.tup [x, y]) := fun H2 => ⟨by show 2 ≤ sizeLine; rw [sizeLine_eq]; decide, [u, v], .cons ru (.cons rw' .nil), _, hp, rfl, 0, rfl⟩
        have okL : ∀ H2 : Hp, ObjOk X.prog X.w H2 h2' h'.objs.size (.lst [.ref T]) := fun H2 => ⟨by show 1 ≤ sizeLine; rw [sizeLine_eq]; decide, [.ref T], _, .cons rfl .nil, hl⟩
        have un2 : Un X.fs [] H1 (upd (upd H1 T (.tup [x, y])) h'.objs.size (.lst [.ref T])) s1.heap h2' :=
          ⟨fun b o e _ _ _ => ks b o e, fun b o e _ _ _ => ⟨o.slots, ks b o e⟩, fun b o e n _ => by rw [upd_ne (off b o e).2, upd_ne (off b o e).1]; exact n,
            fun b o e _ => ⟨o, ks b o e⟩, fun b zs e => same _ _ e, fun b zs o e => same _ _ e, fun b ps e => ⟨#[], by rw [same _ _ e]; simp⟩⟩
        have hok : HOk X.prog X.w (upd (upd H1 T (.tup [x, y])) h'.objs.size (.lst [.ref T])) h2' := fun b u' e => by
          by_cases c1 : b = h'.objs.size
          · subst c1
            rw [upd_same] at e
            cases e
            exact okL _
          · rw [upd_ne c1] at e
            by_cases c2 : b = T
            · subst c2
              rw [upd_same] at e
              cases e
              exact okT _
            · rw [upd_ne c2] at e
              exact (I1.hok b u' e).stay (fun c v _ q => ks c v q) (fun c q => same _ _ q) fun c zs q => same _ _ q
        exact ⟨.ref h'.objs.size, _, I1.un (t' := tk) un2 hok, rfl, q1 h'.objs.size T nT nl neq⟩
end
end My

set_option maxHeartbeats 4000000
/-! What is printed of a graph, and its lines, in plain Lean. -/
namespace My
open PySem PySem.Spec PyProof.Rows L2 TL
def dig (k : Nat) : Str := ⟨#[48 + k]⟩
def DG : Str := ⟨#[48, 49, 50, 51, 52, 53, 54, 55, 56, 57]⟩
def vlT (n : Nat) : Str := (Str.empty ++ "vertices ") ++ toString (n : Int)
def elT (p : E2) : Str := (((Str.empty ++ "edge ") ++ toString (p.1 : Int)) ++ " ") ++ toString (p.2 : Int)
def lnV (n : Nat) : Str := vlT n ++ "\n"
def lnE (p : E2) : Str := elT p ++ "\n"
/-- what is printed -/
def prT (n : Nat) (es : List E2) : Str := Txt.join "" (lnV n :: es.map lnE)
def wordsL (z : Str) : List Str := (Txt.split (Txt.partition z "#").1 " ").filter fun w => w.length != 0
theorem str_dig : ∀ k : Nat, k ≤ 9 → ((toString (k : Int) : String) : Str) = dig k := by decide +kernel
theorem words_v : ∀ n : Nat, n ≤ 9 → wordsL (vlT n) = [("vertices" : Str), dig n] := by decide +kernel
theorem words_e : ∀ u : Nat, u ≤ 9 → ∀ v : Nat, v ≤ 9 → wordsL (elT (u, v)) = [("edge" : Str), dig u, dig v] := by decide +kernel
theorem vl_free : ∀ n : Nat, n ≤ 9 → 10 ∉ tl (vlT n) := by decide +kernel
theorem el_free : ∀ u : Nat, u ≤ 9 → ∀ v : Nat, v ≤ 9 → 10 ∉ tl (elT (u, v)) := by decide +kernel
theorem lnV_len : ∀ n : Nat, n ≤ 9 → (lnV n).length = 11 := by decide +kernel
theorem lnE_len : ∀ u : Nat, u ≤ 9 → ∀ v : Nat, v ≤ 9 → (lnE (u, v)).length = 9 := by decide +kernel
theorem vl_len : ∀ n : Nat, n ≤ 9 → (vlT n).length ≤ 20 := by decide +kernel
theorem el_len : ∀ u : Nat, u ≤ 9 → ∀ v : Nat, v ≤ 9 → (elT (u, v)).length ≤ 20 := by decide +kernel
theorem DG_index : ∀ k : Nat, k ≤ 9 → Txt.index0 DG (dig k) = some k := by decide +kernel
theorem tl_eq {x y : Str} (h : tl x = tl y) : x = y := by
  have z := map_tl_inj (l := [x]) (m := [y]) (by simp only [List.map_cons, List.map_nil, h])
  cases z
  rfl
theorem tl_len (x : Str) : x.length = (tl x).length := by
  show x.cps.size = x.cps.toList.length
  rw [Array.length_toList]
theorem flat_join : ∀ l : List (List Nat), joinL [] l = l.flatten
  | [] => rfl
  | [p] => by rw [List.flatten_cons, List.flatten_nil, List.append_nil]; rfl
  | p :: q :: r => by
    show p ++ ([] ++ joinL [] (q :: r)) = _
    rw [List.nil_append, flat_join (q :: r), List.flatten_cons, List.flatten_cons, List.flatten_cons]
theorem tl_glue (l : List Str) : tl (Txt.join "" l) = (l.map tl).flatten := by
  rw [join_eq, tl_join, show tl (("" : String) : Str) = [] by decide +kernel, flat_join]
theorem glue_cons (a : Str) (l : List Str) : a ++ Txt.join "" l = Txt.join "" (a :: l) := by
  refine tl_eq ?_
  rw [tl_append, tl_glue, tl_glue, List.map_cons, List.flatten_cons]
theorem empty_glue (a : Str) : Str.empty ++ a = a := by
  refine tl_eq ?_
  rw [tl_append, show tl Str.empty = [] by decide +kernel, List.nil_append]
/-- lines, each ended by a line feed -/
theorem join_lines : ∀ ls : List Str, joinL [10] ((ls ++ [(("" : String) : Str)]).map tl) = ((ls.map (· ++ (("\n" : String) : Str))).map tl).flatten
  | [] => by decide +kernel
  | [a] => by
    show tl a ++ ([10] ++ joinL [10] [tl (("" : String) : Str)]) = (tl (a ++ (("\n" : String) : Str)) :: []).flatten
    rw [show joinL [10] [tl (("" : String) : Str)] = [] by decide +kernel, tl_append, show tl (("\n" : String) : Str) = [10] by decide +kernel, List.flatten_cons, List.flatten_nil, List.append_nil, List.append_nil]
  | a :: b :: r => by
    have ih := join_lines (b :: r)
    show tl a ++ ([10] ++ joinL [10] ((b :: r ++ [(("" : String) : Str)]).map tl)) = (tl (a ++ (("\n" : String) : Str)) :: ((b :: r).map (· ++ (("\n" : String) : Str))).map tl).flatten
    rw [ih, tl_append, show tl (("\n" : String) : Str) = [10] by decide +kernel, List.flatten_cons, List.append_assoc]
def linesP (n : Nat) (es : List E2) : List Str := vlT n :: es.map elT
theorem pr_lines (n : Nat) (es : List E2) : prT n es = Txt.join "\n" (linesP n es ++ [(("" : String) : Str)]) := by
  refine tl_eq ?_
  unfold prT
  rw [tl_glue, join_eq, tl_join, show tl (("\n" : String) : Str) = [10] by decide +kernel, join_lines]
  unfold linesP
  rw [List.map_cons, List.map_cons, List.map_cons, List.map_map, List.map_map, List.map_map]
  rfl
theorem pr_split {n : Nat} {es : List E2} (g : Good n es) : Txt.split (prT n es) "\n" = linesP n es ++ [(("" : String) : Str)] := by
  rw [pr_lines]
  refine split_join (s := 10) (S := []) (by decide +kernel) (by decide +kernel) (by simp) fun p hp => ?_
  rcases List.mem_append.mp hp with hp | hp
  · rcases List.mem_cons.mp hp with rfl | hp
    · exact vl_free n g.n9
    · obtain ⟨e, he, rfl⟩ := List.mem_map.mp hp
      have n9 := g.n9
      have l := g.lt e he
      exact el_free e.1 (by omega) e.2 (by omega)
  · rw [List.mem_singleton.mp hp]
    decide +kernel
theorem pr_len {n : Nat} {es : List E2} (g : Good n es) : (prT n es).length ≤ 340 := by
  have few := g.few
  have n9 := g.n9
  have go : ∀ l : List E2, (∀ p ∈ l, p.1 < p.2 ∧ p.2 < n) → (((l.map lnE).map tl).flatten).length = 9 * l.length := by
    intro l
    induction l with
    | nil => intro _; rfl
    | cons p l ih =>
      intro h
      have l1 := h p (List.mem_cons_self ..)
      have e := lnE_len p.1 (by omega) p.2 (by omega)
      rw [tl_len] at e
      rw [List.map_cons, List.map_cons, List.flatten_cons, List.length_append, ih fun q hq => h q (List.mem_cons_of_mem _ hq), List.length_cons, e]
      omega
  rw [tl_len]
  unfold prT
  rw [tl_glue, List.map_cons, List.flatten_cons, List.length_append, go es g.lt, ← tl_len, lnV_len n n9]
  omega
theorem log9 : ∀ k : Nat, k ≤ 9 → ((k : Nat) : Int).natAbs.log2 < 1920 := by decide +kernel
theorem e1_len : ∀ u : Nat, u ≤ 9 → ((Str.empty ++ "edge ") ++ toString (u : Int) : Str).length ≤ 20 := by decide +kernel
theorem e2_len : ∀ u : Nat, u ≤ 9 → (((Str.empty ++ "edge ") ++ toString (u : Int)) ++ " " : Str).length ≤ 20 := by decide +kernel
theorem k1_len : ∀ u : Nat, u ≤ 9 → ((("edge " : String) : Str) ++ toString (u : Int) : Str).length ≤ 20 := by decide +kernel
theorem k2_len : ∀ u : Nat, u ≤ 9 → (((("edge " : String) : Str) ++ toString (u : Int)) ++ " " : Str).length ≤ 20 := by decide +kernel
theorem k3_len : ∀ u : Nat, u ≤ 9 → ∀ v : Nat, v ≤ 9 → ((((("edge " : String) : Str) ++ toString (u : Int)) ++ " ") ++ toString (v : Int) : Str).length ≤ 20 := by decide +kernel
theorem l1_len : ∀ u : Nat, u ≤ 9 → ((toString (u : Int) : String) : Str).length ≤ 20 := by decide +kernel
theorem pr_sum {n : Nat} {es : List E2} (g : Good n es) : ((lnV n :: es.map lnE).map (·.length)).sum ≤ 340 ∧ ((es.map lnE).map (·.length)).sum ≤ 330 := by
  have few := g.few
  have n9 := g.n9
  have go : ∀ l : List E2, (∀ p ∈ l, p.1 < p.2 ∧ p.2 < n) → ((l.map lnE).map (·.length)).sum = 9 * l.length := by
    intro l
    induction l with
    | nil => intro _; rfl
    | cons p l ih =>
      intro h
      have l1 := h p (List.mem_cons_self ..)
      have e := lnE_len p.1 (by omega) p.2 (by omega)
      rw [List.map_cons, List.map_cons, List.sum_cons, ih fun q hq => h q (List.mem_cons_of_mem _ hq), List.length_cons, e]
      omega
  rw [List.map_cons, List.sum_cons, go es g.lt, lnV_len n n9]
  omega
theorem empty_vl (n : Nat) : ((("vertices " : String) : Str) ++ toString (n : Int)) ++ "\n" = lnV n := by
  unfold lnV vlT
  rw [empty_glue]
theorem empty_el (p : E2) : (((("edge " : String) : Str) ++ toString (p.1 : Int)) ++ " " ++ toString (p.2 : Int)) ++ "\n" = lnE p := by
  unfold lnE elT
  rw [empty_glue]
end My

set_option maxHeartbeats 4000000
namespace My
open PySem PySem.Spec PyProof.Rows L2
abbrev sWords : Stmt := top (20 + 1)
abbrev sVtold : Stmt := top (20 + 2)
abbrev sIsDigit : Stmt := top (20 + 4)
theorem scWords : FnScope ["line", "word"] ["line"] (defScope sWords) := ⟨rfl, rfl, rfl, by decide +kernel, rfl, by decide +kernel, by decide +kernel⟩
theorem scVtold : FnScope ["words"] ["words"] (defScope sVtold) := ⟨rfl, rfl, rfl, by decide +kernel, rfl, by decide +kernel, by decide +kernel⟩
theorem scIsDigit : FnScope ["word", "digits"] ["word", "digits"] (defScope sIsDigit) := ⟨rfl, rfl, rfl, by decide +kernel, rfl, by decide +kernel, by decide +kernel⟩
/-- where a text stands in another, found -/
theorem mt_index0 {X : Cx} : MtR X "str.index" (fun x xs H Q => ∃ (a b : Str) (k : Nat), x = .str a ∧ xs = [.str b] ∧ Txt.index0 a b = some k ∧ Q (.int (k : Nat)) H) := by
  intro pins s σ H x xs v us Q I rx rs h
  obtain ⟨a, b, k, rfl, rfl, hk, hy⟩ := h
  obtain ⟨t, rfl⟩ := rx
  cases rs with
  | cons r1 rs =>
    cases rs
    obtain ⟨u, rfl⟩ := r1
    cases q : Builtin.Str.occurrences a b 0 a.length 1 with
    | nil =>
      unfold Txt.index0 at hk
      rw [q] at hk
      cases hk
    | cons j rest =>
      have e : Txt.index0 a b = some j := by unfold Txt.index0; rw [q]; rfl
      rw [hk] at e
      cases e
      exact PySem.SC.index q ⟨.int (k : Nat), H, I.tok _, ⟨_, rfl⟩, hy⟩
def spIsDigit : Sp := fun vs H Q _ => ∃ (c : Nat) (z : Str), vs = [.str ⟨#[c]⟩, .str z] ∧ c ∈ z.cps.toList ∧ Q (.bl true) H
def spWords : Sp := fun vs H Q _ => ∃ z : Str, vs = [.str z] ∧ z.length ≤ 900 ∧ (Txt.partition z "#").1.length ≤ 900 ∧ ∀ (D : Addr) (H' : Hp), H D = none → Same H H' → H' D = some (.lst ((wordsL z).map V.str)) → Q (.ref D) H'
def spVtold (K : PySem.W.Frag) : Sp := fun vs H Q _ => ∃ (D : Addr) (n : Nat), vs = [.ref D] ∧ SqL K H D ([("vertices" : Str), dig n].map V.str) ∧ n ≤ 9 ∧ Q (.int (n : Int)) H
section
variable {P : Program} {w : World} {K : PySem.W.Frag} {mg : Str → Option Value} {base : Heap} {f fI : Addr} {fd dI : FuncData} {tk : Tok}
theorem ok_is_digit (F : L2.Fun K "_is_digit" "_is_digit" sIsDigit f fd) (ml : mg "len" = none) : FnOk P w K mg base CX0 1 f fd ["word", "digits"] spIsDigit := by
  refine F.ok scIsDigit (fun vs H Q E h => ?_) (fun cdv A outer s H vs Q E hr h => ?_)
  · obtain ⟨c, z, rfl, _⟩ := h
    rfl
  obtain ⟨c, z, rfl, hc, q⟩ := h
  refine ⟨_, pss_one (ps_ret (pe_and (pe_cmpR op_eq (pe_callB call_len_str (by rfl) ml PySem.boot_len (pa_cons (pv 0) pa_nil)) pe_int (nomark _)) (pe_one (pe_cmpR op_in_sign (pv 0) (pv 1) (by rfl))))), ?_⟩
  refine ⟨_, rfl, _, rfl, (by show 1 ≤ sizeLine; rw [sizeLine_eq]; decide), rfl, true, rfl, iteT ⟨_, rfl, _, rfl, c, z, rfl, rfl, ?_⟩⟩
  rw [decide_eq_true hc]
  exact q
theorem ok_words (F : L2.Fun K "_words_of" "_words_of" sWords f fd) : FnOk P w K mg base CX0 1 f fd ["line"] spWords := by
  refine F.ok scWords (fun vs H Q E h => ?_) (fun cdv A outer s H vs Q E hr h => ?_)
  · obtain ⟨z, rfl, _⟩ := h
    rfl
  obtain ⟨z, rfl, zl, pl, q⟩ := h
  refine ⟨_, pss_one (ps_ret (pe_lc (own := [("word", 1)]) (g := gName 1) (tt := tTru K (tVar 1)) rfl scWords.nd (pi_list (pe_split (pe_ix (r := rIxT K) ix_tup (pe_partition (pv 0) pe_str) pe_int (fun _ _ => rfl)) pe_str))
        (blkOk_by (N := ["line", "word"]) (sc := defScope sWords) (by decide +kernel)) (fun _ _ _ _ _ => pg_name (i := 1) scWords.nd rfl (Or.inl rfl)) (fun _ _ _ _ _ => pts_one (pt_truth (pv 1) (by intro _; rfl))) (fun _ _ _ _ _ => pv 1))), ?_⟩
  refine ⟨_, rfl, ⟨_, rfl⟩, z, _, rfl, rfl, by decide +kernel, small (by omega), fun T nT => ?_⟩
  refine ⟨T, _, 0, _, rfl, rfl, SqT.of upd_same, rfl, ⟨_, rfl⟩, _, _, rfl, rfl, by decide +kernel, small (by omega), fun B nB => ?_⟩
  have s1 := (same_new nT (.tup [.str (Txt.partition z "#").1, .str (Txt.partition z "#").2.1, .str (Txt.partition z "#").2.2])).trans (same_new nB (.lst ((Txt.split (Txt.partition z "#").1 " ").map V.str)))
  have hB := upd_same (H := upd H T (.tup [.str (Txt.partition z "#").1, .str (Txt.partition z "#").2.1, .str (Txt.partition z "#").2.2])) (a := B) (o := .lst ((Txt.split (Txt.partition z "#").1 " ").map V.str))
  have le : (Txt.split (Txt.partition z "#").1 " ").length ≤ 902 := Nat.le_trans (split_le _ _) (by omega)
  have wl : wordsL z = (Txt.split (Txt.partition z "#").1 " ").filter fun w => w.length != 0 := rfl
  have wle : ∀ y ∈ Txt.split (Txt.partition z "#").1 " ", y.length ≤ 900 := fun y hy => Nat.le_trans (part_short hy) pl
  generalize upd (upd H T (.tup [.str (Txt.partition z "#").1, .str (Txt.partition z "#").2.1, .str (Txt.partition z "#").2.2])) B (.lst ((Txt.split (Txt.partition z "#").1 " ").map V.str)) = H2 at s1 hB
  generalize Txt.split (Txt.partition z "#").1 " " = ws at hB le wl wle
  refine ⟨B, rfl, ⟨_, SqL.of hB⟩, fun D nD => lc_list (K := K) (a := B) (xs := ws.map V.str) (fun i H3 => Same H2 H3 ∧ H3 D = some (.lst (((ws.take i).filter fun w => w.length != 0).map V.str))) ⟨same_new nD _, upd_same⟩ (fun i H3 _ ⟨s3, _⟩ => SqL.of (s3 _ _ hB)) ?_ ?_⟩
  · rintro i x H3 hi ⟨s3, hD⟩
    rw [List.getElem?_map] at hi
    cases e : ws[i]? with
    | none => rw [e] at hi; cases hi
    | some y =>
      rw [e] at hi
      cases hi
      refine ⟨rfl, ?_⟩
      have tke : ws.take (i + 1) = ws.take i ++ [y] := take_succ e
      refine ⟨_, rfl, _, ⟨small (Nat.le_trans (wle y (List.mem_of_getElem? e)) (by decide)), rfl⟩, iteB (fun c => ?_) (fun c => ?_)⟩
      · refine ⟨_, rfl, _, hD, ?_, same_put s3 nD, ?_⟩
        · rw [List.length_map]
          refine Nat.lt_of_le_of_lt (List.length_filter_le _ _) (small1000 ?_)
          rw [List.length_take]
          omega
        · rw [upd_same, tke, List.filter_append, List.map_append, List.filter_cons_of_pos (by simpa using c)]
          rfl
      · refine ⟨s3, ?_⟩
        rw [hD, tke, List.filter_append, List.filter_cons_of_neg (by simpa using c), List.filter_nil, List.append_nil]
  · rintro H3 ⟨s3, hD⟩
    rw [List.length_map, List.take_length, ← wl] at hD
    exact q D H3 (s1.free nD) (s1.trans s3) hD
theorem digs : ∀ n : Nat, n ≤ 9 → 48 + n ∈ DG.cps.toList := by decide +kernel
theorem ok_vtold (F : L2.Fun K "_vertices_told" "_vertices_told" sVtold f fd) (GI : FnOk P w K mg base CX0 1 fI dI ["word", "digits"] spIsDigit) (bI : L2.Binds K dI ["word", "digits"] []) (kI : PySem.W.keepIn K (.ref fI) = true) (mI : mg "_is_digit" = some (.ref fI))
    (mD : mg "DIGITS" = some (.str DG tk)) (ml : mg "len" = none) : FnOk P w K mg base CX0 2 f fd ["words"] (spVtold K) := by
  refine F.ok scVtold (fun vs H Q E h => ?_) (fun cdv A outer s H vs Q E hr h => ?_)
  · obtain ⟨D, n, rfl, _⟩ := h
    rfl
  obtain ⟨D, n, rfl, hD, n9, q⟩ := h
  refine ⟨_, pss_cons (ps_if (PW.pt (pw_or (pt_cmpR op_ne (pe_callB call_len_seq (by rfl) ml PySem.boot_len (pa_cons (pv 0) pa_nil)) pe_int (nomark _)) (pw_or (pt_cmpR op_ne (pe_ix (r := rIxL K) ix_list (pv 0) pe_int (fun _ _ => rfl)) pe_str (nomark _))
      (pw_or1 (pt_not (pt_val (pe_call GI hr (by rfl) mI kI bI .nil pass0 (pa_cons (pe_ix (r := rIxL K) ix_list (pv 0) pe_int (fun _ _ => rfl)) (pa_cons (pe_glob (v := .str DG) (by rfl) mD ⟨_, rfl⟩) pa_nil))))))))) (pss_one ps_never) pss_nil)
    (pss_one (ps_ret (pe_m1 PySem.F.slot_str_index PySem.F.type_str_index mt_index0 (pe_glob (v := .str DG) (by rfl) mD ⟨_, rfl⟩) (pe_ix (r := rIxL K) ix_list (pv 0) pe_int (fun _ _ => rfl))))), ?_⟩
  have a0 : atI ([("vertices" : Str), dig n].map V.str) 0 = some (.str "vertices") := atI_nat (j := 0) rfl
  have a1 : atI ([("vertices" : Str), dig n].map V.str) 1 = some (.str (dig n)) := atI_nat (j := 1) rfl
  refine ⟨_, rfl, D, _, rfl, .inl hD, rfl, _, rfl, iteB (fun c => absurd c (by simp)) (fun _ => ?_)⟩
  refine ⟨_, rfl, D, _, 0, _, rfl, rfl, hD, a0, rfl, _, rfl, iteB (fun c => absurd c (by simp)) (fun _ => ?_)⟩
  refine ⟨_, rfl, D, _, 1, _, rfl, rfl, hD, a1, 48 + n, DG, rfl, (digs n n9), _, rfl, iteF ?_⟩
  exact ⟨⟨_, rfl⟩, _, rfl, D, _, 1, _, rfl, rfl, hD, a1, DG, dig n, n, rfl, rfl, DG_index n n9, q⟩
end
end My

set_option maxHeartbeats 4000000
namespace My
open PySem PySem.Spec PyProof.Rows L2
abbrev sEtold : Stmt := top (20 + 3)
theorem scEtold : FnScope ["words", "many", "kind", "digits", "vertices", "pairs", "digit", "one", "other"] ["words", "many"] (defScope sEtold) := ⟨rfl, rfl, rfl, by decide +kernel, rfl, by decide +kernel, by decide +kernel⟩
def spEtold (K : PySem.W.Frag) : Sp := fun vs H Q _ => ∃ (D : Addr) (n : Nat) (p : E2), vs = [.ref D, .int (n : Int)] ∧ SqL K H D ([("edge" : Str), dig p.1, dig p.2].map V.str) ∧ n ≤ 9 ∧ p.1 < p.2 ∧ p.2 < n ∧
  ∀ (l t : Addr) (H' : Hp), H l = none → H t = none → l ≠ t → Same H H' → H' l = some (.lst [.ref t]) → H' t = some (.tup [.int (p.1 : Int), .int (p.2 : Int)]) → Q (.ref l) H'
theorem dig_ne : ∀ u : Nat, u ≤ 9 → ∀ v : Nat, v ≤ 9 → u ≠ v → dig u ≠ dig v := by decide +kernel
theorem dig_in : ∀ n : Nat, n ≤ 9 → ∀ u : Nat, u < n → 48 + u ∈ (cutS DG none (some (n : Int))).cps.toList := by
  have go : ∀ n : Nat, n ≤ 9 → ∀ u : Nat, u ≤ 9 → u < n → 48 + u ∈ (cutS DG none (some (n : Int))).cps.toList := by decide +kernel
  exact fun n h u l => go n h u (by omega) l
section
variable {P : Program} {w : World} {K : PySem.W.Frag} {mg : Str → Option Value} {base : Heap} {f fI aF : Addr} {fd dI : FuncData} {tk tkE : Tok} {esF : Array DictEntry} {nF : Nat}
theorem ok_etold (F : L2.Fun K "_edges_told" "_edges_told" sEtold f fd) (GI : FnOk P w K mg base CX0 1 fI dI ["word", "digits"] spIsDigit) (bI : L2.Binds K dI ["word", "digits"] []) (kI : PySem.W.keepIn K (.ref fI) = true) (mI : mg "_is_digit" = some (.ref fI))
    (mD : mg "DIGITS" = some (.str DG tk)) (mF : mg "FEWEST_VERTICES" = some (.ref aF)) (D4 : KDict K w aF esF nF) (gE : PySem.W.nsIn K aF "edge" = some (some (.int 2 tkE))) (ml : mg "len" = none) (ma : mg "all" = none) (ms : mg "set" = none) (mli : mg "list" = none) (mz : mg "zip" = none) (mn : mg "min" = none) (mx : mg "max" = none) :
    FnOk P w K mg base CX0 2 f fd ["words", "many"] (spEtold K) := by
  refine F.ok scEtold (fun vs H Q E h => ?_) (fun cdv A outer s H vs Q E hr h => ?_)
  · obtain ⟨D, n, p, rfl, _⟩ := h
    rfl
  obtain ⟨D, n, p, rfl, hD, n9, l1, l2, q⟩ := h
  refine ⟨_, pss_cons (ps_asg (pv 0) (pg_star (by rfl) (pg_name (i := 2) scEtold.nd rfl (.inl rfl)) (pg_name (i := 3) scEtold.nd rfl (.inl rfl))))
    (pss_cons (ps_if (PW.pt (pw_or (pt_cmpR (op_notIn_kd D4) (pv 2) (pe_glob (v := .ref aF) (by rfl) mF rfl) (by rfl)) (pw_or1 (pt_cmpR op_lt (pe_callB call_len_seq (by rfl) ml PySem.boot_len (pa_cons (pv 3) pa_nil)) (pe_ix ix_kdict (pe_glob (v := .ref aF) (by rfl) mF rfl) (pv 2) (fun _ _ => rfl)) (nomark _))))) (pss_one ps_never) pss_nil)
    (pss_cons (ps_if (PW.pt (pw_and (pt_cmpR op_eq (pv 2) pe_str (nomark _)) (pw_and1 (pt_cmpR op_gt (pe_callB call_len_seq (by rfl) ml PySem.boot_len (pa_cons (pv 3) pa_nil)) pe_int (nomark _))))) (pss_one ps_never) pss_nil)
    (pss_cons (ps_if (PW.pt (pw_or (pt_not (pt_val (pe_callB (cr_all rfl) (by rfl) ma (by decide +kernel) (pa_cons (pe_lc (own := [("digit", 6)]) (g := gName 6) (tt := tYes) rfl scEtold.nd (pi_list (pv 3))
          (blkOk_by (N := ["words", "many", "kind", "digits", "vertices", "pairs", "digit", "one", "other"]) (sc := defScope sEtold) (by decide +kernel)) (fun _ _ _ _ _ => pg_name (i := 6) scEtold.nd rfl (Or.inl rfl)) (fun _ _ _ _ _ => pts_nil)
          (fun _ _ _ _ _ => pe_call GI hr (by rfl) mI kI bI .nil pass0 (pa_cons (pv 6) (pa_cons (pe_slice sl_str (pe_glob (v := .str DG) (by rfl) mD ⟨_, rfl⟩) po_none (po_some (pv 1))) pa_nil)))) pa_nil))))
        (pw_or1 (pt_cmpR op_lt (pe_lenS rfl (by rfl) ml (by rfl) ms (pv 3)) (pe_callB call_len_seq (by rfl) ml PySem.boot_len (pa_cons (pv 3) pa_nil)) (nomark _))))) (pss_one ps_never) pss_nil)
    (pss_cons (ps_set (i := 4) scEtold.nd rfl (.inr rfl) (pe_lc (own := [("digit", 6)]) (g := gName 6) (tt := tYes) rfl scEtold.nd (pi_list (pv 3))
        (blkOk_by (N := ["words", "many", "kind", "digits", "vertices", "pairs", "digit", "one", "other"]) (sc := defScope sEtold) (by decide +kernel)) (fun _ _ _ _ _ => pg_name (i := 6) scEtold.nd rfl (Or.inl rfl)) (fun _ _ _ _ _ => pts_nil)
        (fun _ _ _ _ _ => pe_m1 PySem.F.slot_str_index PySem.F.type_str_index mt_index0 (pe_glob (v := .str DG) (by rfl) mD ⟨_, rfl⟩) (pv 6))))
    (pss_cons (ps_if (pt_cmpR op_eq (pv 2) pe_str (nomark _)) (pss_one ps_never) (pss_one (ps_set (i := 5) scEtold.nd rfl (.inl rfl) (pe_listZip rfl (by rfl) mli (by rfl) mz (pa_cons (pv 4) (pa_cons (pe_slice sl_list (pv 4) (po_some pe_int) po_none) pa_nil))))))
    (pss_cons (ps_if (pt_cmpR op_eq (pv 2) pe_str (nomark _)) (pss_one ps_never) pss_nil)
    (pss_one (ps_ret (pe_lc (own := [("one", 7), ("other", 8)]) (g := gTup K 2 (gCons (gName 7) (gCons (gName 8) gNil))) (tt := tYes) rfl scEtold.nd (pi_list (pv 5))
        (blkOk_by (N := ["words", "many", "kind", "digits", "vertices", "pairs", "digit", "one", "other"]) (sc := defScope sEtold) (by decide +kernel)) (fun _ _ _ _ _ => pg_tup (by rfl) (pgs_cons (pg_name (i := 7) scEtold.nd rfl (Or.inl rfl)) (pgs_cons (pg_name (i := 8) scEtold.nd rfl (Or.inl rfl)) pgs_nil))) (fun _ _ _ _ _ => pts_nil)
        (fun _ _ _ _ _ => pe_tup (pa_cons (pe_callB (id := "min") (r := fun xs H Q => ∃ i j, xs = [.int i, .int j] ∧ Q (.int (if j < i then j else i)) H) (call_min2 rfl) (by rfl) mn (by decide +kernel) (pa_cons (pv 7) (pa_cons (pv 8) pa_nil)))
          (pa_cons (pe_callB (id := "max") (r := fun xs H Q => ∃ i j, xs = [.int i, .int j] ∧ Q (.int (if j > i then j else i)) H) (call_max2 rfl) (by rfl) mx (by decide +kernel) (pa_cons (pv 7) (pa_cons (pv 8) pa_nil))) pa_nil)))))))))))), ?_⟩
  obtain ⟨u, v⟩ := p
  dsimp only at hD l1 l2 q
  have u9 : u ≤ 9 := by omega
  have v9 : v ≤ 9 := by omega
  refine ⟨_, rfl, D, _, _, rfl, hD, fun L nL => ⟨_, _, rfl, _, _, rfl, rfl, ?_⟩⟩
  have s1 := same_new nL (.lst ([dig u, dig v].map V.str))
  have hL := upd_same (H := H) (a := L) (o := .lst ([dig u, dig v].map V.str))
  have hL' : SqL K (upd H L (.lst ([dig u, dig v].map V.str))) L ([dig u, dig v].map V.str) := SqL.of hL
  refine ⟨_, rfl, "edge", _, rfl, rfl, gE, _, rfl, iteB (fun c => absurd c (by simp)) (fun _ => ?_)⟩
  refine ⟨_, rfl, L, _, rfl, .inl hL', _, rfl, aF, "edge", .int 2, rfl, rfl, ⟨esF, nF, _, D4.at_, D4.lit, gE, ⟨_, rfl⟩⟩, _, _, rfl, rfl, _, rfl, iteB (fun c => absurd c (by simp)) (fun _ => ?_)⟩
  refine ⟨_, rfl, rfl, _, rfl, iteB (fun _ => ?_) (fun c => absurd c (by decide))⟩
  refine ⟨_, rfl, L, _, rfl, .inl hL', _, _, rfl, rfl, _, rfl, iteB (fun c => absurd c (by simp)) (fun _ => ?_)⟩
  generalize upd H L (.lst ([dig u, dig v].map V.str)) = H1 at s1 hL hL'
  refine ⟨_, rfl, L, rfl, ⟨_, hL'⟩, fun B nB => lc_list (K := K) (a := L) (xs := [dig u, dig v].map V.str) (fun i H2 => Same H1 H2 ∧ H2 B = some (.lst ((List.replicate i true).map V.bl))) ⟨same_new nB _, upd_same⟩ (fun i H2 _ ⟨s2, _⟩ => SqL.of (s2 _ _ hL)) ?_ ?_⟩
  · rintro i x H2 hi ⟨s2, hB⟩
    obtain ⟨k, rfl, kn⟩ : ∃ k : Nat, x = V.str (dig k) ∧ k < n := by
      rcases i with _ | _ | i
      · simp at hi; exact ⟨u, hi.symm, by omega⟩
      · simp at hi; exact ⟨v, hi.symm, l2⟩
      · simp at hi
    have li : i < 2 := (List.getElem?_eq_some_iff.mp hi).1
    refine ⟨rfl, ?_⟩
    refine ⟨_, rfl, _, rfl, (n : Int), rfl, DG, rfl, small (by show 10 ≤ 1000; decide), 48 + k, _, rfl, dig_in n n9 k kn, _, hB, small1000 (by rw [List.length_map, List.length_replicate]; omega), same_put s2 nB, ?_⟩
    rw [upd_same, trues_succ]
  rintro H2 ⟨s2, hB⟩
  refine ⟨B, _, rfl, SqL.of hB, ?_⟩
  rw [trues]
  refine ⟨_, rfl, iteF ?_⟩
  have hL2 := s2 _ _ hL
  refine ⟨_, rfl, L, [dig u, dig v], rfl, SqL.of hL2, by show 2 < 60; decide, ?_, _, rfl, L, _, rfl, .inl (SqL.of hL2), _, _, rfl, rfl, _, rfl, iteB (fun c => absurd c (by simp)) (fun _ => ?_)⟩
  · rw [List.nodup_cons]
    exact ⟨by simpa using dig_ne u u9 v v9 (by omega), by simp⟩
  have s3 := s1.trans s2
  clear hB nB s2 s1 hL hL' B
  refine ⟨_, rfl, L, rfl, ⟨_, SqL.of hL2⟩, fun B nB => lc_list (K := K) (a := L) (xs := [dig u, dig v].map V.str) (fun i H4 => Same H2 H4 ∧ H4 B = some (.lst (([u, v].take i).map fun k => V.int ((k : Nat) : Int)))) ⟨same_new nB _, upd_same⟩ (fun i H4 _ ⟨s4, _⟩ => SqL.of (s4 _ _ hL2)) ?_ ?_⟩
  · rintro i x H4 hi ⟨s4, hB⟩
    obtain ⟨k, rfl, k9, ek⟩ : ∃ k : Nat, x = V.str (dig k) ∧ k ≤ 9 ∧ [u, v].take (i + 1) = [u, v].take i ++ [k] := by
      rcases i with _ | _ | i
      · simp at hi; exact ⟨u, hi.symm, u9, rfl⟩
      · simp at hi; exact ⟨v, hi.symm, v9, rfl⟩
      · simp at hi
    have li : i < 2 := (List.getElem?_eq_some_iff.mp hi).1
    refine ⟨rfl, ?_⟩
    refine ⟨⟨_, rfl⟩, _, rfl, DG, dig k, k, rfl, rfl, DG_index k k9, _, hB, small1000 (by rw [List.length_map, List.length_take]; omega), same_put s4 nB, ?_⟩
    rw [upd_same, ek, List.map_append]
    rfl
  rintro H4 ⟨s4, hB⟩
  have hB' : H4 B = some (.lst [.int (u : Int), .int (v : Int)]) := hB
  have nB' := s3.free nB
  have s5 := s3.trans s4
  clear hB s4 nB hL2 s3
  refine ⟨_, rfl, rfl, _, rfl, iteB (fun c => absurd c (by decide)) (fun _ => ?_)⟩
  have cut : cutV [V.int (u : Int), V.int (v : Int)] (some 1) none = [V.int (v : Int)] := by
    unfold cutV
    rw [HT.sIx_none, show ((1 : Int)) = ((1 : Nat) : Int) from rfl, HT.sIx_nat]
    rfl
  refine ⟨_, rfl, _, rfl, 1, rfl, B, _, rfl, SqL.of hB', fun c nc => ?_⟩
  rw [cut]
  have s6 := same_new nc (.lst [V.int (v : Int)])
  refine ⟨B, c, _, _, .int (u : Int), .int (v : Int), rfl, SqL.of (s6 _ _ hB'), SqL.of upd_same, rfl, rfl, .inr rfl, fun l t nt nl lt => ?_⟩
  have s7 := same_new nt (.tup [V.int (u : Int), V.int (v : Int)])
  have nl2 : upd (upd H4 c (.lst [V.int (v : Int)])) t (.tup [V.int (u : Int), V.int (v : Int)]) l = none := by rw [upd_ne lt]; exact nl
  have s8 := same_new nl2 (.lst [V.ref t])
  have hl := upd_same (H := upd (upd H4 c (.lst [V.int (v : Int)])) t (.tup [V.int (u : Int), V.int (v : Int)])) (a := l) (o := .lst [V.ref t])
  have ht := s8 _ _ (upd_same (H := upd H4 c (.lst [V.int (v : Int)])) (a := t) (o := .tup [V.int (u : Int), V.int (v : Int)]))
  have s9 := s5.trans (s6.trans (s7.trans s8))
  generalize upd (upd (upd H4 c (.lst [V.int (v : Int)])) t (.tup [V.int (u : Int), V.int (v : Int)])) l (.lst [V.ref t]) = H5 at hl ht s9
  refine ⟨_, rfl, rfl, _, rfl, iteB (fun c => absurd c (by decide)) (fun _ => ?_)⟩
  refine ⟨_, rfl, l, rfl, ⟨_, SqL.of hl⟩, fun R nR => lc_list (K := K) (a := l) (xs := [V.ref t]) (fun i H6 => Same H5 H6 ∧ ((i = 0 ∧ H6 R = some (.lst [])) ∨ ∃ r, i = 1 ∧ H5 r = none ∧ R ≠ r ∧ H6 R = some (.lst [.ref r]) ∧ H6 r = some (.tup [.int (u : Int), .int (v : Int)]))) ⟨same_new nR _, .inl ⟨rfl, upd_same⟩⟩ (fun i H6 _ ⟨s10, _⟩ => SqL.of (s10 _ _ hl)) ?_ ?_⟩
  · rintro i x H6 hi ⟨s10, hR⟩
    obtain ⟨rfl, rfl⟩ : i = 0 ∧ x = V.ref t := by
      rcases i with _ | i
      · simp at hi; exact ⟨rfl, hi.symm⟩
      · simp at hi
    have hR0 : H6 R = some (.lst []) := by
      rcases hR with ⟨_, h⟩ | ⟨r, n0, _⟩
      · exact h
      · cases n0
    refine ⟨t, _, rfl, SqT.of (s10 _ _ ht), rfl, _, _, rfl, _, _, rfl, rfl, rfl, ?_⟩
    refine ⟨_, rfl, _, rfl, _, _, rfl, _, rfl, _, rfl, _, _, rfl, (by show 2 ≤ sizeLine; decide), fun r nr => ?_⟩
    rw [if_neg (by omega : ¬ (v : Int) < (u : Int)), if_pos (by omega : (v : Int) > (u : Int))]
    have s11 := same_new nr (.tup [.int (u : Int), .int (v : Int)])
    have nRr : R ≠ r := fun e => by rw [e] at hR0; rw [hR0] at nr; cases nr
    refine ⟨_, s11 _ _ hR0, by show 0 < sizeLine; decide, same_put (s10.trans s11) nR, .inr ⟨r, rfl, s10.free nr, nRr, upd_same, ?_⟩⟩
    rw [upd_ne (Ne.symm nRr)]
    exact upd_same
  · rintro H6 ⟨s10, hR⟩
    rcases hR with ⟨h, _⟩ | ⟨r, _, nr, nRr, h1, h2⟩
    · cases h
    · exact q R r H6 (s9.free nR) (s9.free nr) nRr (s9.trans s10) h1 h2
end
end My

set_option maxHeartbeats 8000000
namespace My
open PySem PySem.Spec PyProof.Rows L2
abbrev sReadG : Stmt := top 20
theorem scReadG : FnScope ["text", "lines", "unended", "many", "edges", "index", "line", "words", "told"] ["text"] (defScope sReadG) := ⟨rfl, rfl, rfl, by decide +kernel, rfl, by decide +kernel, by decide +kernel⟩
def spReadG (K : PySem.W.Frag) : Sp := fun vs H Q _ => ∃ (n : Nat) (es : List E2), vs = [.str (prT n es)] ∧ Good n es ∧ ∀ x H', Same H H' → GraphAt K H' x n es → Q x H'
theorem part_v : ∀ n : Nat, n ≤ 9 → (Txt.partition (vlT n) "#").1.length ≤ 900 := by decide +kernel
theorem part_e : ∀ u : Nat, u ≤ 9 → ∀ v : Nat, v ≤ 9 → (Txt.partition (elT (u, v)) "#").1.length ≤ 900 := by decide +kernel
section
variable {P : Program} {w : World} {K : PySem.W.Frag} {mg : Str → Option Value} {base : Heap} {f fW fV fE : Addr} {fd dW dV dE : FuncData} {tkX : Tok}
theorem ok_readG (F : L2.Fun K "read_graph" "read_graph" sReadG f fd) (GW : FnOk P w K mg base CX0 1 fW dW ["line"] spWords) (bW : L2.Binds K dW ["line"] []) (kW : PySem.W.keepIn K (.ref fW) = true) (mW : mg "_words_of" = some (.ref fW))
    (GV : FnOk P w K mg base CX0 2 fV dV ["words"] (spVtold K)) (bV : L2.Binds K dV ["words"] []) (kV : PySem.W.keepIn K (.ref fV) = true) (mV : mg "_vertices_told" = some (.ref fV))
    (GE : FnOk P w K mg base CX0 2 fE dE ["words", "many"] (spEtold K)) (bE : L2.Binds K dE ["words", "many"] []) (kE : PySem.W.keepIn K (.ref fE) = true) (mE : mg "_edges_told" = some (.ref fE))
    (mX : mg "MOST_SIGNS" = some (.int 4000 tkX)) (mty : mg "type" = none) (ms : mg "str" = none) (ml : mg "len" = none) (me : mg "enumerate" = none) (mt : mg "tuple" = none) (mso : mg "sorted" = none) (mst : mg "set" = none) : FnOk P w K mg base CX0 3 f fd ["text"] (spReadG K) := by
  refine F.ok scReadG (fun vs H Q E h => ?_) (fun cdv A outer s H vs Q E hr h => ?_)
  · obtain ⟨n, es, rfl, _⟩ := h
    rfl
  obtain ⟨n, es, rfl, g, q⟩ := h
  refine ⟨_, pss_cons (ps_if (PW.pt (pw_or (pt_cmpR op_isNotTy (pe_callTy call_type1 (by rfl) mty (by decide +kernel) (pa_cons (pv 0) pa_nil)) (pe_bltn (v := .ty "str") (by rfl) ms (by decide +kernel) rfl) (nomark _))
        (pw_or1 (pt_cmpR op_gt (pe_callB call_len_str (by rfl) ml PySem.boot_len (pa_cons (pv 0) pa_nil)) (pe_glob (v := .int 4000) (by rfl) mX ⟨_, rfl⟩) (nomark _))))) (pss_one ps_never) pss_nil)
    (pss_cons (ps_asg (pe_split (pv 0) pe_str) (pg_starF (by rfl) (pg_name (i := 1) scReadG.nd rfl (.inl rfl)) (pg_name (i := 2) scReadG.nd rfl (.inl rfl))))
    (pss_cons (ps_set (i := 3) scReadG.nd rfl (.inl rfl) pe_non)
    (pss_cons (ps_set (i := 4) scReadG.nd rfl (.inl rfl) (pe_lst pa_nil))
    (pss_cons (ps_for PassesOwn.never rfl (pi_enum (by rfl) me (pa_cons (pv 1) pa_nil)) (pg_tup (by rfl) (pgs_cons (pg_name (i := 5) scReadG.nd rfl (.inl rfl)) (pgs_cons (pg_name (i := 6) scReadG.nd rfl (.inl rfl)) pgs_nil)))
      (pss_cons (ps_set (i := 7) scReadG.nd rfl (.inl rfl) (pe_call GW (hr.mono (by decide)) (by rfl) mW kW bW .nil pass0 (pa_cons (pv 6) pa_nil)))
      (pss_one (ps_if (PW.pt (pw_and (pt_truth (pv 7) (by intro _; rfl)) (pw_and1 (pt_cmpR op_isN (pv 3) pe_non (nomark _)))))
        (pss_cons (ps_set (i := 3) scReadG.nd rfl (.inl rfl) (pe_call GV (hr.mono (by decide)) (by rfl) mV kV bV .nil pass0 (pa_cons (pv 7) pa_nil)))
        (pss_one (ps_if (pt_cmpR op_isN (pv 3) pe_non (nomark _)) (pss_one ps_never) pss_nil)))
        (pss_one (ps_if (pt_truth (pv 7) (by intro _; rfl))
          (pss_cons (ps_set (i := 8) scReadG.nd rfl (.inl rfl) (pe_call GE (hr.mono (by decide)) (by rfl) mE kE bE .nil pass0 (pa_cons (pv 7) (pa_cons (pv 3) pa_nil))))
          (pss_cons (ps_if (pt_cmpR op_isN (pv 8) pe_non (nomark _)) (pss_one ps_never) pss_nil)
          (pss_one (ps_expr (pe_bm PySem.F.plainAttrs_list PySem.F.slot_list_extend PySem.F.type_list_extend mt_extend (pv 4) (pa_cons (pv 8) pa_nil)))))) pss_nil))))))
    (pss_cons (ps_if (PW.pt (pw_or (pt_truth (pv 2) (by intro _; rfl)) (pw_or1 (pt_cmpR op_isN (pv 3) pe_non (nomark _))))) (pss_one ps_never) pss_nil)
    (pss_one (ps_ret (pe_tup (pa_cons (pv 3) (pa_cons (pe_callTy call_tuple_of (by rfl) mt (by decide +kernel) (pa_cons (pe_callB (cr_sortedT rfl) (by rfl) mso (by decide +kernel) (pa_cons (pe_callTy (cr_setOfT rfl hr.units) (by rfl) mst (by decide +kernel) (pa_cons (pv 4) pa_nil)) pa_nil)) pa_nil)) pa_nil)))))))))), ?_⟩
  have n9 := g.n9
  have few := g.few
  refine ⟨_, rfl, _, "str", rfl, .str _, "str", "str", rfl, rfl, _, rfl, iteB (fun c => absurd c (by simp)) (fun _ => ?_)⟩
  have pl := pr_len g
  refine ⟨_, rfl, _, rfl, small (by omega), _, _, rfl, rfl, _, rfl, iteB (fun c => ?_) (fun _ => ?_)⟩
  · have c' : (4000 : Int) < (((prT n es).length : Nat) : Int) := of_decide_eq_true c
    omega
  refine ⟨_, rfl, ⟨_, rfl⟩, _, _, rfl, rfl, by decide +kernel, small (by omega), fun S nS => ?_⟩
  rw [pr_split g, List.map_append]
  have hS := upd_same (H := H) (a := S) (o := .lst ((linesP n es).map V.str ++ [(("" : String) : Str)].map V.str))
  have sS := same_new nS (.lst ((linesP n es).map V.str ++ [(("" : String) : Str)].map V.str))
  refine ⟨S, .str "", (linesP n es).map V.str, rfl, SqL.of hS, fun L nL => ⟨_, _, rfl, _, _, rfl, rfl, ?_⟩⟩
  have sL := same_new nL (.lst ((linesP n es).map V.str))
  have hL := upd_same (H := upd H S (.lst ((linesP n es).map V.str ++ [(("" : String) : Str)].map V.str))) (a := L) (o := .lst ((linesP n es).map V.str))
  generalize upd (upd H S (.lst ((linesP n es).map V.str ++ [(("" : String) : Str)].map V.str))) L (.lst ((linesP n es).map V.str)) = H0 at hL sL
  have s0 : Same H H0 := sS.trans sL
  clear hS sS sL nL nS
  refine ⟨(by show 0 ≤ sizeLine; decide), fun D nD => ?_⟩
  have sD := same_new nD (.lst [])
  have hD := upd_same (H := H0) (a := D) (o := .lst [])
  have hL1 := sD _ _ hL
  have LD : L ≠ D := fun e => by rw [← e, hL] at nD; cases nD
  have nD0 : H D = none := s0.free nD
  have s1 : Same H (upd H0 D (.lst [])) := s0.trans sD
  generalize upd H0 D (.lst []) = H1 at hD hL1 s1
  clear hL sD s0 nD
  have len1 : ((linesP n es).map V.str).length = es.length + 1 := by unfold linesP; rw [List.length_map, List.length_cons, List.length_map]
  refine ⟨_, rfl, L, _, rfl, SqL.of hL1, for_it walk_enum (fun i σ H' => ∃ (m : V) (zs : List V) (s5 s6 s7 s8 : Option V), σ = [some (.str (prT n es)), some (.ref L), some (.str ""), some m, some (.ref D), s5, s6, s7, s8] ∧ m = (if i = 0 then V.non else V.int (n : Int)) ∧ H' D = some (.lst zs) ∧ H' L = some (.lst ((linesP n es).map V.str)) ∧ PairsT H' zs (es.take (i - 1)) ∧ Same H H')
    ⟨.non, [], none, none, none, none, rfl, rfl, hD, hL1, .nil, s1⟩ (fun i σ H' _ ⟨_, _, _, _, _, _, _, _, _, h, _⟩ => SqL.of h) ?_ ?_⟩
  · rintro i x σ H2 H3 li ⟨m, zs, s5, s6, s7, s8, rfl, em, hD2, hL2, pz, s2⟩ ⟨T, y, v, rfl, nT, rfl, e1, e2⟩
    obtain rfl : V.int ((i : Nat) : Int) = y := Option.some.inj e1
    have sT := same_new nT (.tup [.int ((i : Nat) : Int), v])
    have hD3 := sT _ _ hD2
    have hL3 := sT _ _ hL2
    have pz3 := pz.same sT
    have s3 := s2.trans sT
    have e2' : ((linesP n es).map V.str)[i]? = some v := e2
    rcases i with _ | j
    · obtain rfl : v = V.str (vlT n) := by
        unfold linesP at e2'
        simp at e2'
        exact e2'.symm
      rw [if_pos rfl] at em
      subst em
      refine ⟨T, _, rfl, SqT.of upd_same, rfl, _, _, rfl, _, _, rfl, rfl, ?_⟩
      refine ⟨_, rfl, vlT n, rfl, Nat.le_trans (vl_len n n9) (by decide), part_v n n9, fun W H4 nW s4 hW => ?_⟩
      rw [words_v n n9] at hW
      refine ⟨_, rfl, _, .inl ⟨_, SqL.of hW, rfl⟩, iteT ⟨_, rfl, rfl, _, rfl, iteB (fun _ => ?_) (fun c => absurd c (by decide))⟩⟩
      refine ⟨_, rfl, W, n, rfl, SqL.of hW, n9, ?_⟩
      refine ⟨_, rfl, rfl, _, rfl, iteB (fun c => absurd c (by simp)) (fun _ => ?_)⟩
      exact ⟨.int (n : Int), zs, _, _, _, _, rfl, rfl, s4 _ _ hD3, s4 _ _ hL3, pz3.same s4, s3.trans s4⟩
    · obtain ⟨p, hp, rfl⟩ : ∃ p, es[j]? = some p ∧ v = V.str (elT p) := by
        unfold linesP at e2'
        rw [List.map_cons, List.getElem?_cons_succ, List.map_map, List.getElem?_map] at e2'
        cases e : es[j]? with
        | none => rw [e] at e2'; cases e2'
        | some p => rw [e] at e2'; exact ⟨p, rfl, (Option.some.inj e2').symm⟩
      obtain ⟨l1, l2⟩ := g.lt p (List.mem_of_getElem? hp)
      rw [if_neg (Nat.succ_ne_zero j)] at em
      subst em
      rw [Nat.add_sub_cancel] at pz3
      refine ⟨T, _, rfl, SqT.of upd_same, rfl, _, _, rfl, _, _, rfl, rfl, ?_⟩
      refine ⟨_, rfl, elT p, rfl, Nat.le_trans (el_len p.1 (by omega) p.2 (by omega)) (by decide), part_e p.1 (by omega) p.2 (by omega), fun W H4 nW s4 hW => ?_⟩
      have we : wordsL (elT p) = [("edge" : Str), dig p.1, dig p.2] := words_e p.1 (by omega) p.2 (by omega)
      rw [we] at hW
      refine ⟨_, rfl, _, .inl ⟨_, SqL.of hW, rfl⟩, iteT ⟨_, rfl, rfl, _, rfl, iteB (fun c => absurd c (by simp)) (fun _ => ?_)⟩⟩
      refine ⟨_, rfl, _, .inl ⟨_, SqL.of hW, rfl⟩, iteT ?_⟩
      refine ⟨_, rfl, _, rfl, W, n, p, rfl, SqL.of hW, n9, l1, l2, fun l t H5 nl nt lt s5 hl ht => ?_⟩
      refine ⟨_, rfl, rfl, _, rfl, iteB (fun c => absurd c (by simp)) (fun _ => ?_)⟩
      have hD5 := s5 _ _ (s4 _ _ hD3)
      have hL5 := s5 _ _ (s4 _ _ hL3)
      have pz5 := (pz3.same s4).same s5
      have zl : zs.length ≤ 36 := by rw [PairsT.len pz5, List.length_take]; omega
      refine ⟨_, rfl, .inl ⟨rfl, _, SqL.of hD5⟩, _, rfl, D, l, zs, [.ref t], rfl, rfl, hD5, hl, small (by rw [List.length_cons, List.length_nil]; omega), ?_⟩
      refine ⟨.int (n : Int), zs ++ [.ref t], _, _, _, _, rfl, rfl, upd_same, by rw [upd_ne LD]; exact hL5, ?_, same_put ((s3.trans s4).trans s5) nD0⟩
      rw [Nat.add_sub_cancel, take_succ hp]
      exact (pz5.append (.cons ⟨t, rfl, ht⟩ .nil)).put hD5
  · rintro σ H2 ⟨m, zs, s5, s6, s7, s8, rfl, em, hD2, hL2, pz, s2⟩
    rw [len1] at em pz
    rw [if_neg (by omega)] at em
    subst em
    rw [show es.length + 1 - 1 = es.length by omega, List.take_length] at pz
    refine ⟨_, rfl, _, ⟨small (by show 0 ≤ 1000; decide), rfl⟩, iteF ?_⟩
    refine ⟨_, rfl, rfl, _, rfl, iteB (fun c => absurd c (by simp)) (fun _ => ?_)⟩
    have pa := PairsT.at (K := K) pz
    have zl : zs.length ≤ 36 := by rw [PairsT.len pz]; exact few
    obtain ⟨ks, k1, k2, k3⟩ := pairs_ks pa
    have lk : ks.length < 64 := by
      have z := congrArg List.length k1
      rw [List.length_map] at z
      omega
    have form : ∀ p ∈ ks, ∃ r ∈ es, p.2 = [(r.1 : Int), (r.2 : Int)] := fun p hp => by
      have z : p.2 ∈ ks.map (·.2) := List.mem_map.mpr ⟨p, hp, rfl⟩
      rw [k2] at z
      obtain ⟨r, h1, h2⟩ := List.mem_map.mp z
      exact ⟨r, h1, h2.symm⟩
    have lowE : ∀ r ∈ es, r.1 < r.2 ∧ r.2 < n := g.lt
    refine ⟨_, rfl, _, rfl, D, ks, rfl, by rw [← k1]; exact SqL.of hD2, k3, lk, fun a L na sub sup => ?_⟩
    refine ⟨a, L, 2, 9, rfl, upd_same, fun p hp => Same.tup (same_new na _) (k3 p (sub p hp)), by decide, fun p hp => ?_, fun L' p perm nd few up np => ?_⟩
    · obtain ⟨r, hr, e⟩ := form p (sub p hp)
      have z := lowE r hr
      rw [e]
      refine ⟨rfl, fun m hm => ?_⟩
      rcases List.mem_cons.mp hm with rfl | hm
      · omega
      · have := List.mem_singleton.mp hm
        omega
    refine ⟨p, _, rfl, .inl ⟨SqL.of upd_same, fun e ne => ?_⟩⟩
    refine ⟨(by show 2 ≤ sizeLine; decide), fun t nt => ?_⟩
    have m' : ∀ p ∈ L', p ∈ ks := fun p hp => sub p (perm.mem_iff.mp hp)
    have s4 : Same H2 _ := (same_new na (SetTO P w a L)).trans ((same_new np (.lst (L'.map fun q => V.ref q.1))).trans ((same_new ne (.tup (L'.map fun q => V.ref q.1))).trans (same_new nt (.tup [.int (n : Int), .ref e]))))
    have he := same_new nt (.tup [.int (n : Int), .ref e]) _ _ (upd_same (a := e) (o := .tup (L'.map fun q => V.ref q.1)))
    have back : ∀ p ∈ L', p.2 = [((toE p.2).1 : Int), ((toE p.2).2 : Int)] ∧ toE p.2 ∈ es := fun p hp => by
      obtain ⟨r, hr, e⟩ := form p (m' p hp)
      rw [e, toE_of]
      exact ⟨rfl, hr⟩
    have up2 : (L'.map fun p => toE p.2).Pairwise ahead := by
      rw [List.pairwise_map]
      have nd2 := List.pairwise_map.mp nd
      refine (up.and nd2).imp_of_mem ?_
      intro p r hp hr ⟨le, neq⟩
      have b1 := (back p hp).1
      have b2 := (back r hr).1
      have z1 := lowE _ (back p hp).2
      have z2 := lowE _ (back r hr).2
      rw [b1, b2] at le neq
      have c1 : TS.code 9 [((toE p.2).1 : Int), ((toE p.2).2 : Int)] = ((toE p.2).1 : Int) * 9 + ((toE p.2).2 : Int) := by simp [TS.code]
      have c2 : TS.code 9 [((toE r.2).1 : Int), ((toE r.2).2 : Int)] = ((toE r.2).1 : Int) * 9 + ((toE r.2).2 : Int) := by simp [TS.code]
      rw [c1, c2] at le
      have ne2 : ¬ ((toE p.2).1 = (toE r.2).1 ∧ (toE p.2).2 = (toE r.2).2) := fun ⟨x, y⟩ => neq (by rw [x, y])
      show (toE p.2).1 < (toE r.2).1 ∨ ((toE p.2).1 = (toE r.2).1 ∧ (toE p.2).2 < (toE r.2).2)
      omega
    have memE : ∀ r, r ∈ (L'.map fun p => toE p.2) ↔ r ∈ es := fun r => by
      constructor
      · intro hr
        obtain ⟨p, hp, rfl⟩ := List.mem_map.mp hr
        exact (back p hp).2
      · intro hr
        have z : [(r.1 : Int), (r.2 : Int)] ∈ ks.map (·.2) := by
          rw [k2]
          exact List.mem_map.mpr ⟨r, hr, rfl⟩
        obtain ⟨p, hp, ep⟩ := List.mem_map.mp z
        have z2 := sup p hp
        obtain ⟨p2, hp2, ep2⟩ := List.mem_map.mp z2
        refine List.mem_map.mpr ⟨p2, perm.mem_iff.mpr hp2, ?_⟩
        show toE p2.2 = r
        rw [show p2.2 = [(r.1 : Int), (r.2 : Int)] from ep2.trans ep, toE_of]
    have eqE : (L'.map fun p => toE p.2) = es := eq_of_up up2 g.up memE
    have pf := ks_pairs (K := K) (H := _) (L := L') (fun p hp => Same.tup s4 (k3 p (m' p hp))) fun p hp => (back p hp).1
    rw [eqE] at pf
    exact q (.ref t) _ (s2.trans s4) ⟨t, e, _, rfl, SqT.of upd_same, SqT.of he, pf⟩
end
end My

set_option maxHeartbeats 8000000
namespace My
open PySem PySem.Spec PyProof.Rows L2
abbrev sPrint : Stmt := top (20 + 5)
abbrev sLprint : Stmt := top (32 + 15)
theorem scPrint : FnScope ["graph", "many", "edges", "lines", "one", "other"] ["graph"] (defScope sPrint) := ⟨rfl, rfl, rfl, by decide +kernel, rfl, by decide +kernel, by decide +kernel⟩
theorem scLprint : FnScope ["graph", "u", "v"] ["graph"] (defScope sLprint) := ⟨rfl, rfl, rfl, by decide +kernel, rfl, by decide +kernel, by decide +kernel⟩
def spPrint (K : PySem.W.Frag) : Sp := fun vs H Q _ => ∃ (x : V) (n : Nat) (es : List E2), vs = [x] ∧ GraphAt K H x n es ∧ Good n es ∧ ∀ H', Same H H' → Q (.str (prT n es)) H'
section
variable {P : Program} {w : World} {K : PySem.W.Frag} {mg : Str → Option Value} {base : Heap} {f fC : Addr} {fd dC : FuncData}
theorem ok_print (F : L2.Fun K "print_graph" "print_graph" sPrint f fd) (GC : FnOk P w K mg base CX0 5 fC dC ["graph"] (spCheckGraph K)) (bC : L2.Binds K dC ["graph"] []) (kC : PySem.W.keepIn K (.ref fC) = true) (mC : mg "check_graph" = some (.ref fC)) : FnOk P w K mg base CX0 6 f fd ["graph"] (spPrint K) := by
  refine F.ok scPrint (fun vs H Q E h => ?_) (fun cdv A outer s H vs Q E hr h => ?_)
  · obtain ⟨x, n, es, rfl, _⟩ := h
    rfl
  obtain ⟨x, n, es, rfl, ⟨t, e, xs, rfl, ht, he, hes⟩, g, q⟩ := h
  refine ⟨_, pss_cons (ps_expr (pe_call GC hr (by rfl) mC kC bC .nil pass0 (pa_cons (pv 0) pa_nil)))
    (pss_cons (ps_asg (pv 0) (pg_tup (by rfl) (pgs_cons (pg_name (i := 1) scPrint.nd rfl (.inl rfl)) (pgs_cons (pg_name (i := 2) scPrint.nd rfl (.inl rfl)) pgs_nil))))
    (pss_cons (ps_set (i := 3) scPrint.nd rfl (.inl rfl) (pe_op op_cat (pe_lst (pa_cons (pe_joined (.cons pe_str (.cons (pe_fmt (pv 1)) (.cons pe_str .nil)))) pa_nil))
      (pe_lc (own := [("one", 4), ("other", 5)]) (g := gTup K 2 (gCons (gName 4) (gCons (gName 5) gNil))) (tt := tYes) rfl scPrint.nd (pi_tup (pv 2))
        (blkOk_by (N := ["graph", "many", "edges", "lines", "one", "other"]) (sc := defScope sPrint) (by decide +kernel)) (fun _ _ _ _ _ => pg_tup (by rfl) (pgs_cons (pg_name (i := 4) scPrint.nd rfl (Or.inl rfl)) (pgs_cons (pg_name (i := 5) scPrint.nd rfl (Or.inl rfl)) pgs_nil))) (fun _ _ _ _ _ => pts_nil)
        (fun _ _ _ _ _ => pe_joined (.cons pe_str (.cons (pe_fmt (pv 4)) (.cons pe_str (.cons (pe_fmt (pv 5)) (.cons pe_str .nil)))))))))
    (pss_one (ps_ret (pe_join pe_str (pv 3)))))), ?_⟩
  have n9 := g.n9
  have few := g.few
  have le := PairsAt.len hes
  refine ⟨_, rfl, _, n, es, rfl, ⟨t, e, xs, rfl, ht, he, hes⟩, g, fun H1 s1 => ?_⟩
  have ht1 := Same.tup s1 ht
  have he1 := Same.tup s1 he
  have hes1 := hes.same s1
  refine ⟨_, rfl, t, _, rfl, ht1, rfl, _, _, rfl, _, _, rfl, rfl, ?_⟩
  refine ⟨_, rfl, small (by decide +kernel), _, rfl, .inr ⟨(n : Int), rfl, log9 n n9, _, rfl, small (Nat.le_trans (vl_len n n9) (by decide)), _, rfl, (small (by show (lnV n).length ≤ 1000; rw [lnV_len n n9]; decide)), ?_⟩⟩
  refine ⟨(by show 1 ≤ sizeLine; rw [sizeLine_eq]; decide), fun B nB => ?_⟩
  have sB := same_new nB (.lst [.str (Str.empty ++ (("vertices " : String) : Str) ++ ((toString (n : Int) : String) : Str) ++ (("\n" : String) : Str))])
  have hB := upd_same (H := H1) (a := B) (o := .lst [.str (Str.empty ++ (("vertices " : String) : Str) ++ ((toString (n : Int) : String) : Str) ++ (("\n" : String) : Str))])
  generalize upd H1 B (.lst [.str (Str.empty ++ (("vertices " : String) : Str) ++ ((toString (n : Int) : String) : Str) ++ (("\n" : String) : Str))]) = H2 at sB hB ⊢
  replace hB : H2 B = some (.lst [.str (lnV n)]) := hB
  refine ⟨_, rfl, e, rfl, ⟨_, Same.tup sB he1⟩, fun D nD => ?_⟩
  refine lo_it (walk_tup (xs := xs)) (fun i H3 => Same H2 H3 ∧ H3 D = some (.lst (((es.take i).map lnE).map V.str))) ⟨same_new nD _, upd_same⟩ (fun i H3 _ ⟨s3, _⟩ => Same.tup (sB.trans s3) he1) ?_ ?_
  · rintro i x _ H3 li ⟨s3, hD⟩ ⟨rfl, hi⟩
    obtain ⟨p, hp, u, rfl, hu⟩ := PairsAt.get ((hes1.same sB).same s3) hi
    obtain ⟨l1, l2⟩ := g.lt p (List.mem_of_getElem? hp)
    refine ⟨u, _, rfl, hu, rfl, _, _, rfl, _, _, rfl, rfl, rfl, ?_⟩
    refine ⟨_, rfl, small (by decide +kernel), _, rfl, .inr ⟨(p.1 : Int), rfl, log9 p.1 (by omega), _, rfl, small (Nat.le_trans (e1_len p.1 (by omega)) (by decide)), _, rfl, small (Nat.le_trans (e2_len p.1 (by omega)) (by decide)), _, rfl, .inr ⟨(p.2 : Int), rfl, log9 p.2 (by omega), _, rfl,
      small (Nat.le_trans (el_len p.1 (by omega) p.2 (by omega)) (by decide)), _, rfl, (small (by show (lnE p).length ≤ 1000; rw [show (lnE p).length = 9 from lnE_len p.1 (by omega) p.2 (by omega)]; decide)), ?_⟩⟩⟩
    refine ⟨_, hD, small1000 (by rw [List.length_map, List.length_map, List.length_take]; omega), same_put s3 nD, ?_⟩
    rw [upd_same, take_succ hp, List.map_append, List.map_append]
    rfl
  rintro H3 ⟨s3, hD⟩
  rw [le, List.take_length] at hD
  refine ⟨B, D, _, _, rfl, rfl, s3 _ _ hB, hD, small (by rw [List.length_map, List.length_map, List.length_singleton]; omega), fun c nc => ?_⟩
  refine ⟨⟨_, rfl⟩, _, rfl, (("" : String) : Str), c, lnV n :: es.map lnE, rfl, rfl, .inl (SqL.of upd_same), ?_, q _ ?_⟩
  · have z := (pr_sum g).1
    have z0 : (("" : String) : Str).length = 0 := by decide +kernel
    rw [z0]
    omega
  · exact s1.trans (sB.trans (s3.trans (same_new nc _)))
theorem ok_lprint (F : L2.Fun K "_law_print" "_law_print" sLprint f fd) (ms : mg "str" = none) : FnOk P w K mg base CX0 1 f fd ["graph"] (spPrint K) := by
  refine F.ok scLprint (fun vs H Q E h => ?_) (fun cdv A outer s H vs Q E hr h => ?_)
  · obtain ⟨x, n, es, rfl, _⟩ := h
    rfl
  obtain ⟨x, n, es, rfl, ⟨t, e, xs, rfl, ht, he, hes⟩, g, q⟩ := h
  refine ⟨_, pss_one (ps_ret (pe_op op_add_str (pe_op op_add_str (pe_op op_add_str pe_str (pe_callTy call_str_int (by rfl) ms (by decide +kernel) (pa_cons (pe_ix (r := rIxT K) ix_tup (pv 0) pe_int (fun _ _ => rfl)) pa_nil))) pe_str)
    (pe_join pe_str (pe_lc (own := [("u", 1), ("v", 2)]) (g := gTup K 2 (gCons (gName 1) (gCons (gName 2) gNil))) (tt := tYes) rfl scLprint.nd (pi_tup (pe_ix (r := rIxT K) ix_tup (pv 0) pe_int (fun _ _ => rfl)))
        (blkOk_by (N := ["graph", "u", "v"]) (sc := defScope sLprint) (by decide +kernel)) (fun _ _ _ _ _ => pg_tup (by rfl) (pgs_cons (pg_name (i := 1) scLprint.nd rfl (Or.inl rfl)) (pgs_cons (pg_name (i := 2) scLprint.nd rfl (Or.inl rfl)) pgs_nil))) (fun _ _ _ _ _ => pts_nil)
        (fun _ _ _ _ _ => pe_op op_add_str (pe_op op_add_str (pe_op op_add_str (pe_op op_add_str pe_str (pe_callTy call_str_int (by rfl) ms (by decide +kernel) (pa_cons (pv 1) pa_nil))) pe_str) (pe_callTy call_str_int (by rfl) ms (by decide +kernel) (pa_cons (pv 2) pa_nil))) pe_str))))), ?_⟩
  have n9 := g.n9
  have few := g.few
  have le := PairsAt.len hes
  have a0 : atI [V.int (n : Int), V.ref e] 0 = some (.int (n : Int)) := atI_nat (j := 0) rfl
  have a1 : atI [V.int (n : Int), V.ref e] 1 = some (.ref e) := atI_nat (j := 1) rfl
  refine ⟨_, rfl, t, _, 0, _, rfl, rfl, ht, a0, (n : Int), rfl, log9 n n9, _, _, rfl, rfl, ?_, _, _, rfl, rfl, ?_, ⟨_, rfl⟩, _, rfl, t, _, 1, _, rfl, rfl, ht, a1, e, rfl, ⟨_, he⟩, fun D nD => ?_⟩
  · exact Nat.le_trans (Nat.add_le_add_left (l1_len n n9) _) (small (by decide +kernel))
  · have z : (((("vertices " : String) : Str) ++ toString (n : Int)) ++ (("\n" : String) : Str)).length = 11 := by
      show (((("vertices " : String) : Str) ++ toString (n : Int)) ++ "\n" : Str).length = 11
      rw [empty_vl, lnV_len n n9]
    rw [Str.length_append] at z
    exact small (by omega)
  refine lo_it (walk_tup (xs := xs)) (fun i H3 => Same H H3 ∧ H3 D = some (.lst (((es.take i).map lnE).map V.str))) ⟨same_new nD _, upd_same⟩ (fun i H3 _ ⟨s3, _⟩ => Same.tup s3 he) ?_ ?_
  · rintro i x _ H3 li ⟨s3, hD⟩ ⟨rfl, hi⟩
    obtain ⟨p, hp, u, rfl, hu⟩ := PairsAt.get (hes.same s3) hi
    obtain ⟨l1, l2⟩ := g.lt p (List.mem_of_getElem? hp)
    refine ⟨u, _, rfl, hu, rfl, _, _, rfl, _, _, rfl, rfl, rfl, ?_⟩
    refine ⟨_, rfl, (p.1 : Int), rfl, log9 p.1 (by omega), _, _, rfl, rfl, ?_, _, _, rfl, rfl, ?_, _, rfl, (p.2 : Int), rfl, log9 p.2 (by omega), _, _, rfl, rfl, ?_, _, _, rfl, rfl, ?_, ?_⟩
    · exact small (by have z1 := l1_len p.1 (by omega); have z2 : (("edge " : String) : Str).length = 5 := by decide +kernel
                      omega)
    · exact small (by have z1 := k1_len p.1 (by omega); have z2 : ((" " : String) : Str).length = 1 := by decide +kernel
                      omega)
    · exact small (by have z1 := k2_len p.1 (by omega); have z2 := l1_len p.2 (by omega)
                      omega)
    · exact small (by have z1 := k3_len p.1 (by omega) p.2 (by omega); have z2 : (("\n" : String) : Str).length = 1 := by decide +kernel
                      omega)
    refine ⟨_, hD, small1000 (by rw [List.length_map, List.length_map, List.length_take]; omega), same_put s3 nD, ?_⟩
    rw [upd_same, take_succ hp, List.map_append, List.map_append]
    have z := empty_el p
    show some (HO.lst (_ ++ [V.str ((((("edge " : String) : Str) ++ toString (p.1 : Int)) ++ " " ++ toString (p.2 : Int)) ++ "\n")])) = _
    rw [z]
    rfl
  rintro H3 ⟨s3, hD⟩
  rw [le, List.take_length] at hD
  refine ⟨(("" : String) : Str), D, es.map lnE, rfl, rfl, .inl (SqL.of hD), ?_, _, _, rfl, rfl, ?_, ?_⟩
  · have z := (pr_sum g).2
    have z0 : (("" : String) : Str).length = 0 := by decide +kernel
    rw [z0]
    omega
  · have z := pr_len g
    unfold prT at z
    rw [← glue_cons, Str.length_append] at z
    have z1 : (((("vertices " : String) : Str) ++ toString (n : Int)) ++ (("\n" : String) : Str)).length = (lnV n).length := congrArg Str.length (empty_vl n)
    exact small (by rw [z1]; omega)
  · show Q (V.str ((((("vertices " : String) : Str) ++ toString (n : Int)) ++ "\n") ++ Txt.join "" (es.map lnE))) H3
    rw [empty_vl, glue_cons]
    exact q H3 s3
end
end My

set_option maxHeartbeats 4000000
/-! What is told is fit to be shown. -/
namespace My
open PySem PySem.Spec PyProof.Rows L2
theorem app_len (a b : Str) : (a ++ b).length = a.length + b.length := by
  show (a.cps ++ b.cps).size = _
  rw [Array.size_append]
  rfl
theorem tup_len (ts : List Str) : (tupleText ts).length ≤ (ts.map (·.length)).sum + 2 * ts.length + 3 := by
  have h := StrLaws.join_length_le ", " ts
  have c : ((", " : String) : Str).length = 2 := by decide +kernel
  have o : (("(" : String) : Str).length = 1 := by decide +kernel
  have e1 : ((",)" : String) : Str).length = 2 := by decide +kernel
  have e2 : ((")" : String) : Str).length = 1 := by decide +kernel
  unfold tupleText
  rw [app_len, app_len, o]
  rw [c] at h
  split
  · rw [e1]; omega
  · rw [e2]; omega
theorem from_len : ∀ (ts : List Str) (k : Nat) (acc : Str), (textFrom k acc ts).length ≤ acc.length + (ts.map (·.length)).sum + 2 * ts.length
  | [], k, acc => by show acc.length ≤ acc.length + 0 + 0; omega
  | t :: ts, k, acc => by
    have h := from_len ts (k + 1) (acc ++ (((if k > 0 then ", " else "" : String)) : Str) ++ t)
    have c : ((", " : String) : Str).length = 2 := by decide +kernel
    have c0 : (("" : String) : Str).length = 0 := by decide +kernel
    have e : (acc ++ (((if k > 0 then ", " else "" : String)) : Str) ++ t : Str).length ≤ acc.length + 2 + t.length := by
      rw [app_len, app_len]
      split
      · rw [c]; omega
      · rw [c0]; omega
    show (textFrom (k + 1) (acc ++ (((if k > 0 then ", " else "" : String)) : Str) ++ t) ts).length ≤ _
    rw [List.map_cons, List.sum_cons, List.length_cons]
    omega
theorem lst_len (ts : List Str) : (listText ts).length ≤ (ts.map (·.length)).sum + 2 * ts.length + 2 := by
  have h := from_len ts 0 "["
  have o : (("[" : String) : Str).length = 1 := by decide +kernel
  have e2 : (("]" : String) : Str).length = 1 := by decide +kernel
  unfold listText
  rw [app_len, e2]
  rw [o] at h
  omega
theorem pair_fine : ∀ a, a ≤ 9 → ∀ b, b ≤ 9 → (pairD (a, b)).shown.length ≤ 6 ∧ (pairD (a, b)).showable = true := by decide +kernel
theorem pairs_fine : ∀ {es : List E2}, (∀ p ∈ es, p.1 ≤ 9 ∧ p.2 ≤ 9) → ((PyData.shownAll (es.map pairD)).map (·.length)).sum ≤ 6 * es.length ∧ (PyData.shownAll (es.map pairD)).length = es.length ∧ PyData.showableAll (es.map pairD) = true
  | [], _ => ⟨Nat.le_refl _, rfl, by rw [List.map_nil]; simp [PyData.showableAll]⟩
  | p :: es, h => by
    obtain ⟨h1, h2, h3⟩ := pairs_fine (es := es) fun q hq => h q (List.mem_cons_of_mem _ hq)
    obtain ⟨a, b⟩ := h p (List.mem_cons_self ..)
    obtain ⟨f1, f2⟩ := pair_fine p.1 a p.2 b
    rw [List.map_cons]
    simp only [PyData.shownAll, PyData.showableAll, List.map_cons, List.sum_cons, List.length_cons]
    refine ⟨?_, by omega, ?_⟩
    · have f1' : (pairD p).shown.length ≤ 6 := f1
      omega
    · have f2' : (pairD p).showable = true := f2
      rw [f2', h3]
      rfl
theorem num_fine : ∀ n : Nat, n ≤ 9 → (PyData.int (n : Int)).shown.length ≤ 1 ∧ (PyData.int (n : Int)).showable = true := by decide +kernel
theorem graph_fine {n : Nat} {es : List E2} (g : Good n es) : (graphD n es).shown.length ≤ 400 ∧ (graphD n es).showable = true ∧ (graphD n es).depth ≤ 3 := by
  have n9 := g.n9
  obtain ⟨h1, h2, h3⟩ := pairs_fine (es := es) fun p hp => by have := g.lt p hp; omega
  obtain ⟨f1, f2⟩ := num_fine n n9
  have few := g.few
  have t1 := tup_len (PyData.shownAll (es.map pairD))
  have t2 := tup_len [(PyData.int (n : Int)).shown, tupleText (PyData.shownAll (es.map pairD))]
  have pd := pairsD_depth es
  unfold graphD
  refine ⟨?_, ?_, ?_⟩
  · have e : (PyData.tuple [.int (n : Int), .tuple (es.map pairD)]).shown = tupleText [(PyData.int (n : Int)).shown, tupleText (PyData.shownAll (es.map pairD))] := by simp [PyData.shown, PyData.shownAll]
    rw [e]
    simp only [List.map_cons, List.map_nil, List.sum_cons, List.sum_nil, List.length_cons, List.length_nil] at t2
    omega
  · simp [PyData.showable, PyData.showableAll, h3]
    simpa [PyData.showable] using f2
  · simp only [PyData.depth, PyData.depthAll]
    omega
def FineD (d : PyData) : Prop := d.showable = true ∧ d.depth ≤ 60 ∧ d.shown.length ≤ sizeLine
instance (d : PyData) : Decidable (FineD d) := inferInstanceAs (Decidable (_ ∧ _ ∧ _))
theorem bad_fine : ∀ k : Nat, k ≤ 950 → FineD (.list [.str "wrong", .int (k : Int)]) := by decide +kernel
theorem told_fine {n : Nat} {es : List E2} (g : Good n es) : FineD (.list [.str "told", graphD n es]) := by
  obtain ⟨h1, h2, h3⟩ := graph_fine g
  have c : (reprText "told").length = 6 := by decide +kernel
  have t := lst_len [reprText "told", (graphD n es).shown]
  refine ⟨?_, ?_, ?_⟩
  · simp [PyData.showable, PyData.showableAll, h2]
  · simp only [PyData.depth, PyData.depthAll]
    omega
  · have e : (PyData.list [.str "told", graphD n es]).shown = listText [reprText "told", (graphD n es).shown] := by simp [PyData.shown, PyData.shownAll]
    rw [e]
    simp only [List.map_cons, List.map_nil, List.sum_cons, List.sum_nil, List.length_cons, List.length_nil] at t
    exact Nat.le_trans t (Nat.le_of_lt (small1000 (by omega)))
theorem three_fine {n : Nat} {es : List E2} (g : Good n es) {z : Str} (hz : ∀ c ∈ z.cps.toList, c < 128) (zl : z.length ≤ 30) : FineD (.list [.str z, .str z, .list [.str "told", graphD n es]]) := by
  obtain ⟨h1, h2, h3⟩ := told_fine g
  obtain ⟨k1, k2, k3⟩ := graph_fine g
  have r := StrLaws.reprText_len z fun c hc => Nat.lt_trans (hz c hc) (by decide)
  have c : (reprText "told").length = 6 := by decide +kernel
  have t0 := lst_len [reprText "told", (graphD n es).shown]
  have t := lst_len [reprText z, reprText z, listText [reprText "told", (graphD n es).shown]]
  refine ⟨?_, ?_, ?_⟩
  · simp [PyData.showable, PyData.showableAll, k2]
  · simp only [PyData.depth, PyData.depthAll]
    omega
  · have e : (PyData.list [.str z, .str z, .list [.str "told", graphD n es]]).shown = listText [reprText z, reprText z, listText [reprText "told", (graphD n es).shown]] := by simp [PyData.shown, PyData.shownAll]
    rw [e]
    simp only [List.map_cons, List.map_nil, List.sum_cons, List.sum_nil, List.length_cons, List.length_nil] at t t0
    exact Nat.le_of_lt (Nat.lt_of_le_of_lt t (by
      refine Nat.lt_of_lt_of_le (show _ < 5000 by omega) ?_
      rw [sizeLine_eq]
      decide))
end My

set_option maxHeartbeats 4000000
/-! Unlike graphs are shown unlike, and have unlike graph6 texts. -/
namespace My
open PySem PySem.Spec PyProof.Rows L2 TL
/-- the figures of a text -/
def figs (x : Str) : List Nat := (tl x).filter fun c => decide (48 ≤ c ∧ c ≤ 57)
theorem figs_app (a b : Str) : figs (a ++ b) = figs a ++ figs b := by
  unfold figs
  rw [tl_append, List.filter_append]
theorem figs_join : ∀ ts : List Str, figs (Str.join ", " ts) = (ts.map figs).flatten
  | [] => by decide +kernel
  | [a] => by
    show figs a = [figs a].flatten
    rw [List.flatten_cons, List.flatten_nil, List.append_nil]
  | a :: b :: r => by
    show figs (a ++ ", " ++ Str.join ", " (b :: r)) = _
    rw [figs_app, figs_app, figs_join (b :: r), show figs ((", " : String) : Str) = [] by decide +kernel, List.append_nil]
    simp only [List.map_cons, List.flatten_cons]
theorem figs_tup (ts : List Str) : figs (tupleText ts) = (ts.map figs).flatten := by
  unfold tupleText
  rw [figs_app, figs_app, figs_join, show figs (("(" : String) : Str) = [] by decide +kernel, List.nil_append]
  split
  · rw [show figs ((",)" : String) : Str) = [] by decide +kernel, List.append_nil]
  · rw [show figs ((")" : String) : Str) = [] by decide +kernel, List.append_nil]
theorem figs_num : ∀ n : Nat, n ≤ 9 → figs (PyData.int (n : Int)).shown = [48 + n] := by decide +kernel
theorem figs_pair : ∀ a, a ≤ 9 → ∀ b, b ≤ 9 → figs (pairD (a, b)).shown = [48 + a, 48 + b] := by decide +kernel
theorem figs_pairs : ∀ {es : List E2}, (∀ p ∈ es, p.1 ≤ 9 ∧ p.2 ≤ 9) → ((PyData.shownAll (es.map pairD)).map figs).flatten = es.flatMap fun p => [48 + p.1, 48 + p.2]
  | [], _ => by rw [List.map_nil]; simp [PyData.shownAll]
  | p :: es, h => by
    have ih := figs_pairs (es := es) fun q hq => h q (List.mem_cons_of_mem _ hq)
    obtain ⟨a, b⟩ := h p (List.mem_cons_self ..)
    have f : figs (pairD p).shown = [48 + p.1, 48 + p.2] := figs_pair p.1 a p.2 b
    rw [List.map_cons]
    simp only [PyData.shownAll, List.map_cons, List.flatten_cons, List.flatMap_cons]
    rw [ih, f]
theorem figs_graph {n : Nat} {es : List E2} (g : Good n es) : figs (graphD n es).shown = (48 + n) :: es.flatMap fun p => [48 + p.1, 48 + p.2] := by
  have n9 := g.n9
  have e : (graphD n es).shown = tupleText [(PyData.int (n : Int)).shown, tupleText (PyData.shownAll (es.map pairD))] := by unfold graphD; simp [PyData.shown, PyData.shownAll]
  rw [e, figs_tup, List.map_cons, List.map_cons, List.map_nil, List.flatten_cons, List.flatten_cons, List.flatten_nil, List.append_nil, figs_tup, figs_num n n9, figs_pairs fun p hp => by have := g.lt p hp; omega]
  rfl
theorem flat_inj : ∀ {es fs : List E2}, (es.flatMap fun p => [48 + p.1, 48 + p.2]) = (fs.flatMap fun p => [48 + p.1, 48 + p.2]) → es = fs
  | [], [], _ => rfl
  | [], q :: fs, h => by simp at h
  | p :: es, [], h => by simp at h
  | p :: es, q :: fs, h => by
    rw [List.flatMap_cons, List.flatMap_cons] at h
    injection h with h1 h2
    injection h2 with h3 h4
    obtain ⟨a, b⟩ := p
    obtain ⟨c, d⟩ := q
    dsimp only at h1 h3
    rw [flat_inj h4, show a = c by omega, show b = d by omega]
theorem shown_inj {n m : Nat} {es fs : List E2} (g : Good n es) (g' : Good m fs) : (graphD n es).shown = (graphD m fs).shown ↔ n = m ∧ es = fs := by
  constructor
  · intro h
    have z := congrArg figs h
    rw [figs_graph g, figs_graph g'] at z
    injection z with h1 h2
    exact ⟨by omega, flat_inj h2⟩
  · rintro ⟨rfl, rfl⟩
    rfl
theorem code_inj {n m : Nat} {es fs : List E2} (g : Good n es) (g' : Good m fs) : tx (codeL n es) = tx (codeL m fs) ↔ n = m ∧ es = fs := by
  constructor
  · intro h
    have z : (codeL n es).map (63 + ·) = (codeL m fs).map (63 + ·) := by
      have z1 := congrArg tl h
      exact z1
    have r1 := read_code g
    have r2 := read_code g'
    rw [z, r2] at r1
    injection r1 with h1 h2
    subst h1
    refine ⟨rfl, eq_of_up g.up g'.up fun q => ?_⟩
    have k : ∀ {l : List E2}, Good m l → (q ∈ (pairsG m).filter (fun p => decide (p ∈ l)) ↔ q ∈ l) := fun {l} gl => by
      rw [List.mem_filter]
      constructor
      · intro x; exact of_decide_eq_true x.2
      · intro x; exact ⟨mem_pairsG.mpr (gl.lt q x), decide_eq_true x⟩
    rw [← k g, ← k g', h2]
  · rintro ⟨rfl, rfl⟩
    rfl
theorem two_alike {n m : Nat} {es fs : List E2} (g : Good n es) (g' : Good m fs) : decide (V.str (tx (codeL n es)) = V.str (tx (codeL m fs))) = decide (V.str (graphD n es).shown = V.str (graphD m fs).shown) := by
  have a := code_inj g g'
  have b := shown_inj g g'
  refine decide_eq_decide.mpr ⟨fun h => ?_, fun h => ?_⟩
  · have h' := (V.str.injEq _ _).mp h
    rw [b.mpr (a.mp h')]
  · have h' := (V.str.injEq _ _).mp h
    rw [a.mpr (b.mp h')]
theorem lnV_asc : ∀ n : Nat, n ≤ 9 → ∀ c ∈ tl (lnV n), c < 128 := by decide +kernel
theorem lnE_asc : ∀ u : Nat, u ≤ 9 → ∀ v : Nat, v ≤ 9 → ∀ c ∈ tl (lnE (u, v)), c < 128 := by decide +kernel
theorem pr_asc {n : Nat} {es : List E2} (g : Good n es) : ∀ c ∈ (prT n es).cps.toList, c < 128 := fun c hc => by
  have n9 := g.n9
  have hc' : c ∈ tl (prT n es) := hc
  unfold prT at hc'
  rw [tl_glue, List.mem_flatten] at hc'
  obtain ⟨l, hl, hcl⟩ := hc'
  obtain ⟨z, hz, rfl⟩ := List.mem_map.mp hl
  rcases List.mem_cons.mp hz with rfl | hz
  · exact lnV_asc n n9 c hcl
  · obtain ⟨p, hp, rfl⟩ := List.mem_map.mp hz
    have l := g.lt p hp
    exact lnE_asc p.1 (by omega) p.2 (by omega) c hcl
theorem pr3_fine {n : Nat} {es : List E2} (g : Good n es) : FineD (.list [.str (prT n es), .str (prT n es), graphD n es]) := by
  obtain ⟨k1, k2, k3⟩ := graph_fine g
  have r := StrLaws.reprText_len (prT n es) fun c hc => Nat.lt_trans (pr_asc g c hc) (by decide)
  have zl := pr_len g
  have t := lst_len [reprText (prT n es), reprText (prT n es), (graphD n es).shown]
  refine ⟨?_, ?_, ?_⟩
  · simp [PyData.showable, PyData.showableAll, k2]
  · simp only [PyData.depth, PyData.depthAll]
    omega
  · have e : (PyData.list [.str (prT n es), .str (prT n es), graphD n es]).shown = listText [reprText (prT n es), reprText (prT n es), (graphD n es).shown] := by simp [PyData.shown, PyData.shownAll]
    rw [e]
    simp only [List.map_cons, List.map_nil, List.sum_cons, List.sum_nil, List.length_cons, List.length_nil] at t
    exact Nat.le_of_lt (Nat.lt_of_le_of_lt t (by
      refine Nat.lt_of_lt_of_le (show _ < 15000 by omega) ?_
      rw [sizeLine_eq]
      decide))
theorem two_fine {n : Nat} {es : List E2} (g : Good n es) : FineD (.list [graphD n es, graphD n es]) := by
  obtain ⟨k1, k2, k3⟩ := graph_fine g
  have t := lst_len [(graphD n es).shown, (graphD n es).shown]
  refine ⟨?_, ?_, ?_⟩
  · simp [PyData.showable, PyData.showableAll, k2]
  · simp only [PyData.depth, PyData.depthAll]
    omega
  · have e : (PyData.list [graphD n es, graphD n es]).shown = listText [(graphD n es).shown, (graphD n es).shown] := by simp [PyData.shown, PyData.shownAll]
    rw [e]
    simp only [List.map_cons, List.map_nil, List.sum_cons, List.sum_nil, List.length_cons, List.length_nil] at t
    exact Nat.le_of_lt (Nat.lt_of_le_of_lt t (by
      refine Nat.lt_of_lt_of_le (show _ < 15000 by omega) ?_
      rw [sizeLine_eq]
      decide))
theorem pairs_lay : ∀ es : List E2, PyData.canLayAll0 (es.map pairD) = true
  | [] => by rw [List.map_nil]; simp [PyData.canLayAll0]
  | p :: es => by rw [List.map_cons]; simp [PyData.canLayAll0, PyData.canLay0, pairs_lay es, pairD]
theorem pairs_shaped (es : List E2) : SeqAt.shaped (.tuple (es.map pairD)) = true := by
  have pd := pairsD_depth es
  unfold SeqAt.shaped
  rw [Bool.and_eq_true]
  refine ⟨?_, decide_eq_true ?_⟩
  · simp [PyData.canLay0, pairs_lay es]
  · simp only [PyData.depth]
    omega
theorem eqv_nil (es : List E2) : PyData.eqv (.tuple (es.map pairD)) (.tuple []) = decide (es = []) := by
  cases es with
  | nil => rfl
  | cons p es => simp [PyData.eqv, PyData.eqvAll]
theorem sIx_last (n d : Nat) : HT.sIx n d (some (-1)) = n - 1 := by
  show (if (-1 : Int) < 0 then ((-1 : Int) + (n : Int)).toNat else min (-1 : Int).toNat n) = n - 1
  rw [if_pos (by decide)]
  omega
theorem cut_last (ys : List V) : cutV ys none (some (-1)) = ys.dropLast := by
  unfold cutV
  rw [HT.sIx_none, sIx_last, List.drop_zero, Nat.sub_zero, List.dropLast_eq_take]
theorem PairsAt.last {K : PySem.W.Frag} {H : Hp} : ∀ {xs : List V} {ps : List E2}, PairsAt K H xs ps → PairsAt K H xs.dropLast ps.dropLast
  | [], [], _ => .nil
  | [_], [_], _ => .nil
  | _ :: _ :: _, _ :: _ :: _, .cons a b => .cons a (PairsAt.last b)
theorem Good.last {n : Nat} {es : List E2} (g : Good n es) : Good n es.dropLast := ⟨g.n9, fun p hp => g.lt p ((List.dropLast_sublist es).subset hp), g.up.sublist (List.dropLast_sublist es)⟩
theorem code_len3 {n : Nat} {es : List E2} (h : n ≤ 9) : (tx (codeL n es)).length ≤ 7 := by
  rw [tx_len]
  unfold codeL
  rw [List.length_cons, List.length_map, List.length_range]
  unfold groups
  have := bits_few h es
  omega
theorem code_asc3 {n : Nat} {es : List E2} (h : n ≤ 9) : ∀ c ∈ (tx (codeL n es)).cps.toList, c < 128 := fun c hc => by
  have hc' : c ∈ (codeL n es).map (63 + ·) := hc
  obtain ⟨k, hk, rfl⟩ := List.mem_map.mp hc'
  unfold codeL at hk
  rcases List.mem_cons.mp hk with rfl | hk
  · omega
  · obtain ⟨i, _, rfl⟩ := List.mem_map.mp hk
    have := chunk_lt (i := i) (pad_le (bits_le n es))
    omega
end My

set_option maxHeartbeats 4000000
/-! f(name=e) of a def that may raise; isinstance(e, C) in an except suite, e with an own dict. -/
namespace My
open PySem PySem.Spec PyProof.Rows L2
section
variable {X : Cx} {CX : CXT} {k : Nat} {f : Addr} {fd : FuncData} {sp : Sp} {E : L2.St → XK} {x fld : Str} {p pos : Pos} {tk : TA}
theorem pe_kw1 (F : FnOk X.prog X.w X.K X.mg X.base CX k f fd [fld] sp) (hr : Room k X.A) (hg : Gl X x) (hm : X.mg x = some (.ref f)) (hk : PySem.W.keepIn X.K (.ref f) = true) (hb : ∀ (s : Shared) (u : Value), BindsTo s fd ⟨[], [(fld, u)]⟩ ([fld].zip [u])) (hx : ∀ σ, PassesAt CX X σ (E σ))
    {kws : List Keyword} (hkw : PK X kws tk) (hall : (backToKw pos (keywordEach kws X.env)).all (·.1.isSome) = true := by rfl) (hks : (backToKw pos (keywordEach kws X.env)).filterMap (·.1) = [fld] := by rfl)
    (hdb : (x == ("__debug__" : Str)) = false := by decide) (hpl : ((backTo pos (starEach [] X.env)).any (·.1) || (backToKw pos (keywordEach kws X.env)).any (·.1.isNone)) = false := by rfl) :
    PE X (.Call (.Name x p) [] kws pos) (tCallS sp E tk) := by
  refine ⟨?_⟩
  intro pins s σ H Q I h
  refine wpAny_Call_Name_kw (ld_glob I hg hm ?_ hdb)
  refine PySem.W.callWith_KW0 (h₀ := X.base) I.ok.mod.kin hk hall (thn (hkw.run pos pins s σ H _ I h) ?_) hpl
  rintro us s1 ⟨vs, H1, I1, r, q1⟩
  refine ⟨I1.kIn, ?_⟩
  rw [hks]
  have hl : us.length = 1 := by rw [← r.length]; exact F.len _ _ _ _ q1
  obtain ⟨u, rfl⟩ : ∃ u, us = [u] := by
    match us, hl with
    | [u], _ => exact ⟨u, rfl⟩
  refine wpAny_call (codeAny_mono (F.run X.A X.stack s1 H1 ⟨[], [(fld, u)]⟩ [u] vs Q (E σ) hr I1.env0 (hb _ _) r q1) fun r s' hq => ?_)
  cases r with
  | error e => exact hx σ pins H1 s1 e s' I1 hq
  | ok fl =>
    cases fl with
    | ret u => exact I1.after hq
    | next => exact False.elim hq
    | brk => exact False.elim hq
    | cont => exact False.elim hq
theorem passAt0 {X : Cx} {σ : L2.St} {E : XK} : PassesAt CX0 X σ E := fun _ _ _ _ _ _ h => h.elim
end
def rIsF (K : PySem.W.Frag) (a : Addr) (cls : Value) (d : Option Addr) : List V → Hp → VK → Prop := fun xs H Q => ∃ (C dd : Addr) (c : V) (u : Value) (b : Bool) (fs : List (Str × V)), xs = [.ref a, c] ∧ ClsV c u ∧ cls = .ref C ∧ d = some dd ∧ H dd = some (.xd fs) ∧ XIs K C ∧ PySem.W.kitOne K (.ref C) u = some b ∧ Q (.bl b) H
theorem call_isF {X : Cx} {a : Addr} {oe : Obj} {cls : Value} {d : Option Addr} {pn : List (Addr × Obj)} (hz : Zc cls d oe) (hf : ∃ vs, oe.data = .fields vs) : CallR (X.suite a ((a, oe) :: pn)) (.builtin "isinstance") (rIsF X.K a cls d) := by
  rintro pins s σ H xs us Q I r ⟨C, dd, c, u, b, fs, rfl, cv, rfl, rfl, ea, T, kit, q⟩
  obtain ⟨u1, u2, rfl, r1, r2⟩ := vals2 r
  obtain rfl : u2 = u := cv.eq r2
  obtain rfl : u1 = Value.ref a := r1
  obtain ⟨ha, _⟩ := I.pin (a, oe) (List.mem_append_left _ List.mem_cons_self)
  obtain ⟨vs, hd⟩ := hf
  have hx : ObjOk X.prog X.w H s.heap dd (.xd fs) := I.hok dd _ ea
  obtain ⟨mA, hns, hr⟩ := hx
  obtain ⟨od, ho, hl⟩ := lookIn_ns hns
  have J : PySem.W.InstAt s.heap a oe C (some od) := by
    refine ⟨ha, hz.1, ?_, ?_⟩
    · unfold PySem.W.notCls
      rw [hd]
    · rw [hz.2]
      exact ho
  exact PySem.W.kia_one (PySem.W.kitx_exc T.cl T.xf.ga T.xf.gg T.xf.exC T.ha T.hn T.ht T.hm) I.kIn J kit (fun z => nomatch z) fun tk => ⟨.bl b, H, I.tok tk, rfl, q⟩
end My

set_option maxHeartbeats 16000000
namespace My
open PySem PySem.Spec PyProof.Rows L2
abbrev sRight : Stmt := top (32 + 16)
theorem scRight : FnScope ["well", "graphs", "turn", "pair", "graph", "text", "other"] ["well"] (defScope sRight) := ⟨rfl, rfl, rfl, by decide +kernel, rfl, by decide +kernel, by decide +kernel⟩
theorem passNone {P : Program} {w : World} {X : Cx} : Passes (L2.CX P w) X E0 := fun _ _ _ _ _ _ _ h => by
  obtain ⟨a, B, H', cls, d, _, _, _, _, _, _, _, hE⟩ := h
  exact hE.elim
theorem pairs_plain : ∀ es : List E2, PyData.hasDictAll (es.map pairD) = false
  | [] => by rw [List.map_nil]; simp [PyData.hasDictAll]
  | p :: es => by rw [List.map_cons]; simp [PyData.hasDictAll, pairs_plain es, pairD, PyData.hasDict]
theorem graph_plain (n : Nat) (es : List E2) : (graphD n es).hasDict = false := by simp [graphD, PyData.hasDict, PyData.hasDictAll, pairs_plain es]
def spRight : Sp := fun vs H Q _ => ∃ p : Addr, vs = [.ref p] ∧ Wl H p ∧ ∀ H', But p H H' → Q (.bl true) H'
def spPickL : Sp := fun vs H Q _ => ∃ (p l : Addr) (xs : List V), vs = [.ref p, .ref l] ∧ Wl H p ∧ l ≠ p ∧ H l = some (.lst xs) ∧ 0 < xs.length ∧ xs.length < 1000 ∧ ∀ (i : Nat) (v : V) (H' : Hp), xs[i]? = some v → But p H H' → Wl H' p → Q v H'
/-- graphs, all of them good -/
def AllG (K : PySem.W.Frag) (H : Hp) (xs : List V) : Prop := ∀ x ∈ xs, ∃ n es, GraphAt K H x n es ∧ Good n es
theorem AllG.ts {K : PySem.W.Frag} {H H' : Hp} (s : TS H H') {xs : List V} (h : AllG K H xs) : AllG K H' xs := fun x hx => by
  obtain ⟨n, es, a, b⟩ := h x hx
  exact ⟨n, es, a.ts s, b⟩
theorem AllG.more {K : PySem.W.Frag} {H : Hp} {xs : List V} {x : V} {n : Nat} {es : List E2} (h : AllG K H xs) (hx : GraphAt K H x n es) (g : Good n es) : AllG K H (xs ++ [x]) := fun y hy => by
  rcases List.mem_append.mp hy with hy | hy
  · exact h y hy
  · rw [List.mem_singleton.mp hy]
    exact ⟨n, es, hx, g⟩
section
variable {P : Program} {w : World} {K : PySem.W.Frag} {mg : Str → Option Value} {base : Heap} {f fGr fK fL fSa fP fR f6 fF fD CS : Addr} {fd dGr dK dL dSa dP dR d6 dF dD : FuncData}
theorem ok_pickL (F : L2.Fun K "_law_pick" "_law_pick" sPick f fd) (GD : FnOk P w K mg base CX0 1 fD dD ["well", "many"] spDraw) (bD : L2.Binds K dD ["well", "many"] []) (kD : PySem.W.keepIn K (.ref fD) = true) (mD : mg "_law_draw" = some (.ref fD)) (ml : mg "len" = none) :
    FnOk P w K mg base CX0 2 f fd ["well", "some"] spPickL := by
  refine F.ok scPick (fun vs H Q E h => ?_) (fun cdv A outer s H vs Q E hr h => ?_)
  · obtain ⟨p, l, xs, rfl, _⟩ := h
    rfl
  obtain ⟨p, l, xs, rfl, hW, ne, hl, l0, l1, q⟩ := h
  refine ⟨_, pss_one (ps_ret (pe_ix ix_list (pv 1) (pe_call GD hr (by rfl) mD kD bD .nil pass0 (pa_cons (pv 0) (pa_cons (pe_callB call_len_seq (by rfl) ml PySem.boot_len (pa_cons (pv 1) pa_nil)) pa_nil))) (fun _ _ => rfl))), ?_⟩
  refine ⟨_, rfl, _, rfl, _, rfl, l, xs, rfl, .inl (SqL.of hl), p, _, rfl, hW, by omega, by omega, fun r H' r0 r1 bt hW' => ?_⟩
  obtain ⟨i, rfl⟩ : ∃ i : Nat, r = (i : Int) := ⟨r.toNat, by omega⟩
  have hi : i < xs.length := by omega
  exact ⟨l, xs, _, xs[i], rfl, rfl, SqL.of (bt l _ ne hl), atI_nat (List.getElem?_eq_getElem hi), q i _ H' (List.getElem?_eq_getElem hi) bt hW'⟩
theorem ok_right (F : L2.Fun K "_law_right" "_law_right" sRight f fd)
    (GGr : FnOk P w K mg base CX0 4 fGr dGr ["well", "most"] (spGraph K)) (bGr : L2.Binds K dGr ["well", "most"] []) (kGr : PySem.W.keepIn K (.ref fGr) = true) (mGr : mg "_law_graph" = some (.ref fGr))
    (GK : FnOk P w K mg base CX0 2 fK dK ["well", "some"] spPickL) (bK : L2.Binds K dK ["well", "some"] []) (kK : PySem.W.keepIn K (.ref fK) = true) (mK : mg "_law_pick" = some (.ref fK))
    (GL : FnOk P w K mg base CX0 1 fL dL ["graph"] (spPrint K)) (bL : L2.Binds K dL ["graph"] []) (kL : PySem.W.keepIn K (.ref fL) = true) (mL : mg "_law_print" = some (.ref fL))
    (GSa : FnG P w K mg base CX0 1 fSa dSa ["told", "due"] (spSame K)) (bSa : L2.Binds K dSa ["told", "due"] []) (kSa : PySem.W.keepIn K (.ref fSa) = true) (mSa : mg "_law_same" = some (.ref fSa))
    (GP : FnOk P w K mg base CX0 6 fP dP ["graph"] (spPrint K)) (bP : L2.Binds K dP ["graph"] []) (bPk : ∀ (s : Shared) (u : Value), BindsTo s dP ⟨[], [(("graph" : Str), u)]⟩ ([("graph" : Str)].zip [u])) (kP : PySem.W.keepIn K (.ref fP) = true) (mP : mg "print_graph" = some (.ref fP))
    (GR : FnOk P w K mg base CX0 3 fR dR ["text"] (spReadG K)) (bR : L2.Binds K dR ["text"] []) (kR : PySem.W.keepIn K (.ref fR) = true) (mR : mg "read_graph" = some (.ref fR))
    (G6 : FnOk P w K mg base CX0 6 f6 d6 ["graph"] (spCode K)) (b6 : L2.Binds K d6 ["graph"] []) (k6 : PySem.W.keepIn K (.ref f6) = true) (m6 : mg "graph6" = some (.ref f6))
    (GF : FnOk P w K mg base (L2.CX P w) 3 fF dF ["text"] (spFrom K CS)) (bF : L2.Binds K dF ["text"] []) (kF : PySem.W.keepIn K (.ref fF) = true) (mF : mg "from_graph6" = some (.ref fF)) (mr : mg "range" = none) (mre : mg "repr" = none) :
    FnG P w K mg base CX0 7 f fd ["well"] spRight := by
  refine okG F scRight (fun vs H Q E h => ?_) (fun cdv A outer s H vs Q E gd hr h => ?_)
  · obtain ⟨p, rfl, _⟩ := h
    rfl
  obtain ⟨p, rfl, hW, q⟩ := h
  have gd' : (A.deeper (envOfC "_law_right" (defScope sRight) s.heap.objs.size f cdv)).guards = some [] := gd
  have h1 := hr.mono (show 1 ≤ 6 by decide)
  have h2 := hr.mono (show 2 ≤ 6 by decide)
  have h3 := hr.mono (show 3 ≤ 6 by decide)
  have h4 := hr.mono (show 4 ≤ 6 by decide)
  refine ⟨_, (pss_cons (ps_set (i := 1) scRight.nd rfl (.inl rfl) (pe_lst pa_nil))
      (pss_cons (ps_for PassesOwn.never rfl (pi_range1 rfl mr (pa_cons pe_int pa_nil)) (pg_name (i := 2) scRight.nd rfl (.inl rfl)) (pss_one (ps_expr (pe_bm PySem.F.plainAttrs_list PySem.F.slot_list_append PySem.F.type_list_append mt_append (pv 1) (pa_cons (pe_call GGr h4 (by rfl) mGr kGr bGr .nil pass0 (pa_cons (pv 0) (pa_cons pe_int pa_nil))) pa_nil)))))
      (pss_cons (ps_set (i := 3) scRight.nd rfl (.inl rfl) (pe_call GK h2 (by rfl) mK kK bK .nil pass0 (pa_cons (pv 0) (pa_cons (pv 1) pa_nil))))
      (pss_cons (ps_if (pt_cmpR (op_neD hr.units) (pe_ix (r := rIxT K) ix_tup (pv 3) pe_int (fun _ _ => rfl)) (pe_tup pa_nil) (nomark _)) (pss_one (ps_expr (pe_bm PySem.F.plainAttrs_list PySem.F.slot_list_append PySem.F.type_list_append mt_append (pv 1) (pa_cons (pe_tup (pa_cons (pe_ix (r := rIxT K) ix_tup (pv 3) pe_int (fun _ _ => rfl)) (pa_cons (pe_slice sl_tupA (pe_ix (r := rIxT K) ix_tup (pv 3) pe_int (fun _ _ => rfl)) po_none (po_some (pe_un un_neg pe_int))) pa_nil))) pa_nil)))) pss_nil)
      (pss_cons (ps_for PassesOwn.never rfl (pi_list (pv 1)) (pg_name (i := 4) scRight.nd rfl (.inl rfl)) (pss_cons (ps_set (i := 5) scRight.nd rfl (.inl rfl) (pe_call GL h1 (by rfl) mL kL bL .nil pass0 (pa_cons (pv 4) pa_nil)))
      (pss_cons (ps_if (pt_not (pt_val (pe_callG GSa gd' h1 (by rfl) mSa kSa bSa pass0 (pa_cons (pe_lst (pa_cons (pe_call GP hr (by rfl) mP kP bP .nil pass0 (pa_cons (pv 4) pa_nil)) (pa_cons (pe_kw1 (E := fun _ => E0) GP hr (by rfl) mP kP bPk (fun _ => passAt0) (pk_cons (pv 4) pk_nil)) (pa_cons (pe_call GR h3 (by rfl) mR kR bR .nil pass0 (pa_cons (pv 5) pa_nil)) pa_nil)))) (pa_cons (pe_lst (pa_cons (pv 5) (pa_cons (pv 5) (pa_cons (pv 4) pa_nil)))) pa_nil))))) (pss_one (ps_ret pe_bl)) pss_nil)
      (pss_cons (ps_if (pt_not (pt_val (pe_callG GSa gd' h1 (by rfl) mSa kSa bSa pass0 (pa_cons (pe_lst (pa_cons (pe_call GR h3 (by rfl) mR kR bR .nil pass0 (pa_cons (pe_call GP hr (by rfl) mP kP bP .nil pass0 (pa_cons (pv 4) pa_nil)) pa_nil)) (pa_cons (pe_call GF h3 (by rfl) mF kF bF .nil passNone (pa_cons (pe_call G6 hr (by rfl) m6 k6 b6 .nil pass0 (pa_cons (pv 4) pa_nil)) pa_nil)) pa_nil))) (pa_cons (pe_lst (pa_cons (pv 4) (pa_cons (pv 4) pa_nil))) pa_nil))))) (pss_one (ps_ret pe_bl)) pss_nil)
      (pss_one (ps_for PassesOwn.never rfl (pi_list (pv 1)) (pg_name (i := 6) scRight.nd rfl (.inl rfl)) (pss_one (ps_if (pt_cmpR op_ne (pe_cmpR op_eq (pe_call G6 hr (by rfl) m6 k6 b6 .nil pass0 (pa_cons (pv 4) pa_nil)) (pe_call G6 hr (by rfl) m6 k6 b6 .nil pass0 (pa_cons (pv 6) pa_nil)) (nomark _)) (pe_cmpR op_eq (pe_callB (call_repr gd' hr.units) (by rfl) mre (by decide +kernel) (pa_cons (pv 4) pa_nil)) (pe_callB (call_repr gd' hr.units) (by rfl) mre (by decide +kernel) (pa_cons (pv 6) pa_nil)) (nomark _)) (nomark _)) (pss_one (ps_ret pe_bl)) pss_nil))))))))
      (pss_one (ps_ret pe_bl))))))), ?_⟩
  refine ⟨(by show 0 ≤ sizeLine; decide), fun D nD => ?_⟩
  have DW : D ≠ p := hW.ne nD
  have s0 := same_new nD (.lst [])
  have hD0 := upd_same (H := H) (a := D) (o := .lst [])
  have w0 := hW.same s0
  have b0 := But.of (p := p) s0
  generalize upd H D (.lst []) = H0 at s0 hD0 w0 b0 ⊢
  refine ⟨4, rfl, by decide, by decide, for_range (lo := 0) (n := 4) (fun i σ H' => ∃ (s2 : Option V) (xs : List V), σ = [some (.ref p), some (.ref D), s2, none, none, none, none] ∧ But p H H' ∧ Wl H' p ∧ H' D = some (.lst xs) ∧ xs.length = i ∧ AllG K H' xs)
    ⟨none, [], rfl, b0, w0, hD0, rfl, fun _ z => (nomatch z)⟩ ?_ ?_⟩
  · rintro i σ H1 li ⟨s2, xs, rfl, b1, w1, hD, lx, ag⟩
    refine ⟨_, rfl, .inl ⟨rfl, _, SqL.of hD⟩, _, rfl, p, 9, rfl, w1, by decide, fun x n es H2 _ b2 w2 hx gx => ?_⟩
    have hD2 := b2 D _ DW hD
    have t2 := TS.but b2 w1
    have t3 := TS.put (o := .lst (xs ++ [x])) hD2
    refine ⟨D, xs, x, rfl, rfl, hD2, small1000 (by omega), ?_⟩
    refine ⟨_, xs ++ [x], rfl, fun q' o ne e => ?_, w2.put DW, upd_same, by rw [List.length_append, lx]; rfl, ((ag.ts t2).ts t3).more (hx.ts t3) gx⟩
    rw [upd_ne (ne_of_none e nD)]
    exact b2 q' o ne (b1 q' o ne e)
  rintro σ H1 ⟨s2, xs, rfl, b1, w1, hD, lx, ag⟩
  refine ⟨_, rfl, _, rfl, p, D, xs, rfl, w1, DW, hD, by omega, by omega, fun i v H2 hv b2 w2 => ?_⟩
  have hD2 := b2 D _ DW hD
  have ag2 := ag.ts (TS.but b2 w1)
  have b12 := b1.trans b2
  obtain ⟨n, es, ⟨t, e, ys, rfl, ht, he, hes⟩, g⟩ := ag2 v (List.mem_of_getElem? hv)
  clear b1 b2 w1 hD ag
  have a0 : atI [V.int (n : Int), V.ref e] 0 = some (.int (n : Int)) := atI_nat (j := 0) rfl
  have a1 : atI [V.int (n : Int), V.ref e] 1 = some (.ref e) := atI_nat (j := 1) rfl
  refine ⟨_, rfl, t, _, 1, _, rfl, rfl, ht, a1, (by show 0 ≤ sizeLine; decide), fun r nr => ?_⟩
  have sr := same_new nr (.tup [])
  have hr0 := upd_same (H := H2) (a := r) (o := .tup [])
  generalize upd H2 r (.tup []) = H3 at sr hr0 ⊢
  refine ⟨.tuple (es.map pairD), .tuple [], .tup (Same.tup sr he) ((hes.same sr).dp), .tup (SqT.of hr0) .nil, pairs_shaped es, rfl, _, rfl, ?_⟩
  rw [eqv_nil]
  have hD3 := sr _ _ hD2
  have w3 := w2.same sr
  have b3 := b12.trans (But.of (p := p) sr)
  have ag3 := ag2.ts (TS.of sr)
  have ht3 := Same.tup sr ht
  have he3 := Same.tup sr he
  have hes3 := hes.same sr
  clear hr0 sr nr ag2 b12 w2 hD2 ht he hes hv
  refine' joinT (R := fun σ H' => ∃ zs, σ = [some (.ref p), some (.ref D), s2, some (.ref t), none, none, none] ∧ But p H H' ∧ Wl H' p ∧ H' D = some (.lst zs) ∧ zs.length ≤ 5 ∧ AllG K H' zs) (fun go => ?_) ?_
  rotate_left 1
  · refine iteB (fun c => ?tt1) (fun c => ?ff1)
    case ff1 => exact go _ _ ⟨xs, rfl, b3, w3, hD3, by omega, ag3⟩
    case tt1 =>
      refine ⟨_, rfl, .inl ⟨rfl, _, SqL.of hD3⟩, _, rfl, t, _, 0, _, rfl, rfl, ht3, a0, _, rfl, t, _, 1, _, rfl, rfl, ht3, a1, 1, rfl, _, rfl, e, ys, rfl, he3, fun z => ?_, fun _ c nc => ?_⟩
      · exfalso
        have ne : es ≠ [] := by simpa using c
        have le := PairsAt.len hes3
        have pos := List.length_pos_iff.mpr ne
        have z2 := z.2
        rw [show ((-1 : Int)) = -1 from rfl, sIx_last] at z2
        omega
      · have ec : cutV ys none (some (-1)) = ys.dropLast := cut_last ys
        rw [ec]
        have sc := same_new nc (.tup ys.dropLast)
        have hc := upd_same (H := H3) (a := c) (o := .tup ys.dropLast)
        generalize upd H3 c (.tup ys.dropLast) = H5 at sc hc ⊢
        refine ⟨(by show 2 ≤ sizeLine; decide), fun u nu => ?_⟩
        have su := same_new nu (.tup [.int (n : Int), .ref c])
        have hu := upd_same (H := H5) (a := u) (o := .tup [.int (n : Int), .ref c])
        have gu : GraphAt K (upd H5 u (.tup [.int (n : Int), .ref c])) (.ref u) n es.dropLast := ⟨u, c, ys.dropLast, rfl, SqT.of hu, SqT.of (su _ _ hc), ((hes3.last).same sc).same su⟩
        have hD5 := su _ _ (sc _ _ hD3)
        have s5 := sc.trans su
        generalize upd H5 u (.tup [.int (n : Int), .ref c]) = H6 at su hu gu hD5 s5 ⊢
        refine ⟨D, xs, .ref u, rfl, rfl, hD5, small1000 (by omega), ?_⟩
        have t6 := TS.put (o := .lst (xs ++ [.ref u])) hD5
        refine go _ _ ⟨xs ++ [.ref u], rfl, fun q' o ne e' => ?_, (w3.same s5).put DW, upd_same, by rw [List.length_append, lx]; exact Nat.le_refl _, ((ag3.ts (TS.of s5)).ts t6).more (gu.ts t6) g.last⟩
        rw [upd_ne (ne_of_none e' nD)]
        exact s5 _ _ (b3 q' o ne e')
  rintro _ H4 ⟨zs, rfl, b4, w4, hD4, zl, ag4⟩
  have two : (2 : Nat) ≤ sizeLine := small (by decide)
  have three : (3 : Nat) ≤ sizeLine := small (by decide)
  have yes : ∀ d : PyData, decide (V.str d.shown = V.str d.shown) = true := fun d => decide_eq_true rfl
  refine ⟨_, rfl, D, rfl, ⟨_, SqL.of hD4⟩, for_list (K := K) (a := D) (xs := zs) (fun i σ H' => ∃ s4 s5 s6 : Option V, σ = [some (.ref p), some (.ref D), s2, some (.ref t), s4, s5, s6] ∧ Same H4 H') ⟨none, none, none, rfl, L2.Same.refl _⟩ (fun i σ H' _ ⟨_, _, _, _, s⟩ => SqL.of (s _ _ hD4)) ?_ ?_⟩
  · rintro i x σ H5 hi ⟨s4, s5, s6, rfl, t5⟩
    obtain ⟨n', es', hx4, g'⟩ := ag4 x (List.mem_of_getElem? hi)
    have hx5 := hx4.same t5
    refine ⟨_, rfl, x, n', es', rfl, hx5, g', fun H6 t6 => ?_⟩
    have hx6 := hx5.same t6
    refine ⟨_, rfl, x, n', es', rfl, hx6, g', fun H7 t7 => ⟨_, rfl, x, n', es', rfl, hx6.same t7, g', fun H8 t8 => ⟨_, rfl, n', es', rfl, g', fun y H9 t9 hy => ⟨three, fun l nl => ?_⟩⟩⟩⟩
    refine ⟨_, rfl, _, rfl, _, rfl, three, fun l2 nl2 => ?_⟩
    have hx9 := ((hx6.same t7).same t8).same t9
    have u1 := same_new nl (.lst [.str (prT n' es'), .str (prT n' es'), y])
    have u2 := same_new nl2 (.lst [.str (prT n' es'), .str (prT n' es'), x])
    have r1 := u2 _ _ (upd_same (H := H9) (a := l) (o := .lst [.str (prT n' es'), .str (prT n' es'), y]))
    have r2 := upd_same (H := upd H9 l (.lst [.str (prT n' es'), .str (prT n' es'), y])) (a := l2) (o := .lst [.str (prT n' es'), .str (prT n' es'), x])
    have r3 := (hy.same u1).same u2
    have r4 := (hx9.same u1).same u2
    have tA := t5.trans (t6.trans (t7.trans (t8.trans (t9.trans (u1.trans u2)))))
    generalize upd (upd H9 l (.lst [.str (prT n' es'), .str (prT n' es'), y])) l2 (.lst [.str (prT n' es'), .str (prT n' es'), x]) = HA at r1 r2 r3 r4 tA u2 ⊢
    clear u1 u2 nl nl2 hx9 hy t9 t8 t7 hx6 t6 hx5 t5
    have fine : Fine (.list [.str (prT n' es'), .str (prT n' es'), graphD n' es']) := pr3_fine g'
    have pl : (PyData.list [.str (prT n' es'), .str (prT n' es'), graphD n' es']).hasDict = false := by simp [PyData.hasDict, PyData.hasDictAll, graph_plain]
    have dd1 : Dd K HA (.ref l) (.list [.str (prT n' es'), .str (prT n' es'), graphD n' es']) := .dat (.lst (SqL.of r1) (.cons (.str _) (.cons (.str _) (.cons r3.dp .nil)))) pl
    have dd2 : Dd K HA (.ref l2) (.list [.str (prT n' es'), .str (prT n' es'), graphD n' es']) := .dat (.lst (SqL.of r2) (.cons (.str _) (.cons (.str _) (.cons r4.dp .nil)))) pl
    generalize (PyData.list [.str (prT n' es'), .str (prT n' es'), graphD n' es']) = dat at fine dd1 dd2
    refine ⟨.ref l, .ref l2, dat, dat, rfl, dd1, dd2, fine, fine, _, rfl, iteB (fun c => ?_) (fun _ => ?_)⟩
    · exfalso
      have c' : (!decide (V.str dat.shown = V.str dat.shown)) = true := c
      rw [yes] at c'
      cases c'
    clear dd1 dd2 fine pl r1 r2 r3
    have rc : readG ((tx (codeL n' es')).cps.toList) = .told n' ((pairsG n').filter fun p => decide (p ∈ es')) := read_code g'
    refine ⟨_, rfl, x, n', es', rfl, r4, g', fun HB tB => ⟨n', es', rfl, g', fun y2 HC tC hy2 => ⟨_, rfl, x, n', es', rfl, (r4.same tB).same tC, g', fun HE tE => .inl ⟨_, rfl, code_asc3 g'.n9, Nat.le_trans (code_len3 g'.n9) (by decide), fun k hk => ?_, fun m ps hm x2 es2 HF tF hx2 g2 ii => ⟨two, fun l nl => ?_⟩⟩⟩⟩⟩
    · rw [rc] at hk
      cases hk
    rw [rc] at hm
    injection hm with hm1 hm2
    subst hm1 hm2
    have ee : es2 = es' := eq_of_up g2.up g'.up fun q => (ii q).trans (by
      rw [List.mem_filter, mem_pairsG]
      exact ⟨fun h => by simpa using h.2, fun h => ⟨g'.lt q h, by simpa using h⟩⟩)
    subst ee
    refine ⟨_, rfl, _, rfl, two, fun l2 nl2 => ?_⟩
    have v1 := same_new nl (.lst [y2, x2])
    have v2 := same_new nl2 (.lst [x, x])
    have o1 := v2 _ _ (upd_same (H := HF) (a := l) (o := .lst [y2, x2]))
    have o2 := upd_same (H := upd HF l (.lst [y2, x2])) (a := l2) (o := .lst [x, x])
    have o3 := (((hy2.same tE).same tF).same v1).same v2
    have o4 := (hx2.same v1).same v2
    have tH := tA.trans (tB.trans (tC.trans (tE.trans (tF.trans (v1.trans v2)))))
    have o5 := hx4.same tH
    generalize upd (upd HF l (.lst [y2, x2])) l2 (.lst [x, x]) = HG at o1 o2 o3 o4 o5 tH v2 ⊢
    clear v1 v2 nl nl2 hx2 hy2 tF tE tC tB r4 tA ii
    have fine : Fine (.list [graphD n' es2, graphD n' es2]) := two_fine g'
    have pl : (PyData.list [graphD n' es2, graphD n' es2]).hasDict = false := by simp [PyData.hasDict, PyData.hasDictAll, graph_plain]
    have dd1 : Dd K HG (.ref l) (.list [graphD n' es2, graphD n' es2]) := .dat (.lst (SqL.of o1) (.cons o3.dp (.cons o4.dp .nil))) pl
    have dd2 : Dd K HG (.ref l2) (.list [graphD n' es2, graphD n' es2]) := .dat (.lst (SqL.of o2) (.cons o5.dp (.cons o5.dp .nil))) pl
    generalize (PyData.list [graphD n' es2, graphD n' es2]) = dat2 at fine dd1 dd2
    refine ⟨.ref l, .ref l2, dat2, dat2, rfl, dd1, dd2, fine, fine, _, rfl, iteB (fun c => ?_) (fun _ => ?_)⟩
    · exfalso
      have c' : (!decide (V.str dat2.shown = V.str dat2.shown)) = true := c
      rw [yes] at c'
      cases c'
    clear dd1 dd2 fine pl o1 o2 o3 o4 o5
    refine ⟨_, rfl, D, rfl, ⟨_, SqL.of (tH _ _ hD4)⟩, for_list (K := K) (a := D) (xs := zs) (fun j σ H' => ∃ s6 : Option V, σ = [some (.ref p), some (.ref D), s2, some (.ref t), some x, some (.str (prT n' es2)), s6] ∧ Same H4 H') ⟨_, rfl, tH⟩ (fun i σ H' _ ⟨_, _, s⟩ => SqL.of (s _ _ hD4)) ?_ ?_⟩
    · rintro j y3 σ HH hj ⟨s6', rfl, tI⟩
      obtain ⟨m, fs, hy3, g3⟩ := ag4 y3 (List.mem_of_getElem? hj)
      have hx7 := hx4.same tI
      have hy7 := hy3.same tI
      refine ⟨_, rfl, x, n', es2, rfl, hx7, g', fun HJ tJ => ⟨_, rfl, y3, m, fs, rfl, hy7.same tJ, g3, fun HK tK => ?_⟩⟩
      obtain ⟨f1, f2, f3⟩ := graph_fine g'
      obtain ⟨k1, k2, k3⟩ := graph_fine g3
      have d1 : Dd K HK x (graphD n' es2) := .dat ((hx7.same tJ).same tK).dp (graph_plain _ _)
      have d2 : Dd K HK y3 (graphD m fs) := .dat ((hy7.same tJ).same tK).dp (graph_plain _ _)
      refine ⟨rfl, _, rfl, _, graphD n' es2, rfl, d1, f2, by omega, small (by omega), _, rfl, _, graphD m fs, rfl, d2, k2, by omega, small (by omega), rfl, rfl, _, rfl, iteB (fun c => ?_) (fun _ => ?_)⟩
      · exfalso
        have c' : (!decide (V.bl (decide (V.str (tx (codeL n' es2)) = V.str (tx (codeL m fs)))) = V.bl (decide (V.str (graphD n' es2).shown = V.str (graphD m fs).shown)))) = true := c
        rw [two_alike g' g3, decide_eq_true rfl] at c'
        cases c'
      · exact ⟨_, rfl, tI.trans (tJ.trans tK)⟩
    · rintro σ HH ⟨s6', rfl, tI⟩
      exact ⟨_, _, _, rfl, tI⟩
  · rintro σ H5 ⟨s4, s5, s6, rfl, t5⟩
    exact q _ (b4.trans (But.of t5))
end
end My

set_option maxHeartbeats 4000000
namespace My
open PySem PySem.Spec PyProof.Rows L2
abbrev sLaw : Stmt := top 49
theorem scLaw : FnScope ["script", "turn"] ["script"] (defScope sLaw) := ⟨rfl, rfl, rfl, by decide +kernel, rfl, by decide +kernel, by decide +kernel⟩
def spLaw (K : PySem.W.Frag) : Sp := fun vs H Q _ => ∃ (a : Addr) (ns : List Int), vs = [.ref a] ∧ SqL K H a (ns.map V.int) ∧ ns.length ≤ 63 ∧ ∀ H', Q (.bl true) H'
section
variable {P : Program} {w : World} {K : PySem.W.Frag} {mg : Str → Option Value} {base : Heap} {f fW fR : Addr} {fd dW dR : FuncData} {n : Nat}
theorem ok_law (F : L2.Fun K "law" "law" sLaw f fd) (GW : FnOk P w K mg base CX0 1 fW dW ["script", "turn"] (spWell K)) (bW : L2.Binds K dW ["script", "turn"] []) (kW : PySem.W.keepIn K (.ref fW) = true) (mW : mg "_law_well" = some (.ref fW))
    (GR : FnG P w K mg base CX0 (n + 1) fR dR ["well"] spRight) (bR : L2.Binds K dR ["well"] []) (kR : PySem.W.keepIn K (.ref fR) = true) (mR : mg "_law_right" = some (.ref fR))
    (mr : mg "range" = none) (ml : mg "len" = none) (ma : mg "all" = none) (mx : mg "max" = none) (mn : mg "min" = none) : FnG P w K mg base CX0 (n + 2) f fd ["script"] (spLaw K) := by
  refine okG F scLaw (fun vs H Q E h => ?_) (fun cdv A outer s H vs Q E gd hr h => ?_)
  · obtain ⟨a, ns, rfl, _⟩ := h
    rfl
  obtain ⟨a, ns, rfl, hS, h63, q⟩ := h
  have gd' : (A.deeper (envOfC "law" (defScope sLaw) s.heap.objs.size f cdv)).guards = some [] := gd
  refine ⟨_, pss_one (ps_ret (pe_callB (cr_all rfl) (by rfl) ma (by decide +kernel) (pa_cons (pe_lc (own := [("turn", 1)]) (g := gName 1) (tt := tYes) rfl scLaw.nd
      (pi_range1 rfl mr (pa_cons (pe_callB (call_max2 rfl) (by rfl) mx (by decide +kernel) (pa_cons pe_int (pa_cons (pe_callB (call_min2 rfl) (by rfl) mn (by decide +kernel) (pa_cons (pe_callB call_len_seq (by rfl) ml PySem.boot_len (pa_cons (pv 0) pa_nil)) (pa_cons pe_int pa_nil))) pa_nil))) pa_nil))
      (blkOk_by (N := ["script", "turn"]) (sc := defScope sLaw) (by decide +kernel)) (fun _ _ _ _ _ => pg_name (i := 1) scLaw.nd rfl (Or.inl rfl)) (fun _ _ _ _ _ => pts_nil)
      (fun _ _ _ _ _ => pe_callG GR gd' hr (by rfl) mR kR bR pass0 (pa_cons (pe_call GW (hr.mono (Nat.le_add_left 1 n)) (by rfl) mW kW bW .nil pass0 (pa_cons (pv 0) (pa_cons (pv 1) pa_nil))) pa_nil))) pa_nil))), ?_⟩
  have hl : (ns.map V.int).length = ns.length := List.length_map _
  refine ⟨_, rfl, a, _, rfl, .inl hS, _, _, rfl, _, _, rfl, ?_⟩
  rw [hl]
  obtain ⟨j, hj, j0, j3⟩ : ∃ j : Int, (if (if (3 : Int) < ((ns.length : Nat) : Int) then (3 : Int) else ((ns.length : Nat) : Int)) > 2 then (if (3 : Int) < ((ns.length : Nat) : Int) then (3 : Int) else ((ns.length : Nat) : Int)) else 2) = j ∧ 0 ≤ j ∧ j ≤ 3 := by
    refine ⟨_, rfl, ?_, ?_⟩
    · split <;> (try split) <;> omega
    · split <;> (try split) <;> omega
  rw [hj]
  refine ⟨j, rfl, by omega, by omega, fun D nD => lc_range (lo := 0) (n := j.toNat) (fun k H' => Same H H' ∧ H' D = some (.lst ((List.replicate k true).map V.bl))) ⟨same_new nD _, upd_same⟩ ?_ ?_⟩
  · rintro k H1 lk ⟨s1, hD⟩
    rw [Int.zero_add]
    refine ⟨rfl, ?_⟩
    refine ⟨_, rfl, _, rfl, a, ns, k, rfl, L2.Same.seq s1 hS, h63, by omega, fun H2 p s2 np wl => ⟨p, rfl, wl, fun H3 bt => ?_⟩⟩
    have s3 : Same H1 H3 := fun b o e => bt b o (ne_of_none e np) (s2 b o e)
    refine ⟨_, s3 _ _ hD, ?_, same_put (s1.trans s3) nD, ?_⟩
    · rw [List.length_map, List.length_replicate]
      exact small1000 (by omega)
    · rw [upd_same, List.replicate_succ', List.map_append]
      rfl
  · rintro H1 ⟨s1, hD⟩
    refine ⟨D, List.replicate j.toNat true, rfl, SqL.of hD, ?_⟩
    have e : (List.replicate j.toNat true).all id = true := by simp
    rw [e]
    exact q H1
end

/-! ### facts of the written part, by looking -/
def oexB (K : PySem.W.Frag) (C : Addr) : Bool := match K.lookup C with
  | some ⟨.type "type", _, .cls cd, sl⟩ => (match cd.mro, sl.toList with
    | .ref D :: bm, [_, _, _, _, some (.builtin n), _] => decide (D = C) && (decide (n = "ValueError.__new__") && (!cd.hasDel && (cd.hasDict && PySem.HandSPX.refsVE bm)))
    | _, _ => false)
  | _ => false
theorem oexB_ok {K : PySem.W.Frag} {C : Addr} (h : oexB K C = true) : ∃ nm q N bs bm sn sub ab col dd k0 k1 k2 k3 k5, K.lookup C = some (excClassObj nm q C N bs bm true sn sub ab col dd k0 k1 k2 k3 k5 "ValueError.__new__") ∧ PySem.HandSPX.refsVE bm = true := by
  unfold oexB at h
  split at h
  · rename_i dd cd sl ho
    split at h
    · rename_i D bm k0 k1 k2 k3 n k5 hm hs
      simp only [Bool.and_eq_true, decide_eq_true_eq, Bool.not_eq_true'] at h
      obtain ⟨rfl, rfl, hdel, hdict, hv⟩ := h
      obtain ⟨nm, bs, mro, ns, qn, hd, sn, sub, ab, col, del⟩ := cd
      dsimp only at hm hdel hdict
      subst hm hdel hdict
      obtain ⟨ls⟩ := sl
      simp only at hs
      subst hs
      exact ⟨nm, qn, ns, bs, bm, sn, sub, ab, col, dd, k0, k1, k2, k3, k5, ho, hv⟩
    · cases h
  · cases h
def xisB (K : PySem.W.Frag) (C : Addr) : Bool := (PySem.W.clsIn K C).isSome && (xfB K C && (decide (PySem.W.findIn K (.ref C) "__class__" = some (some (.builtin "object.__class__"))) && decide (PySem.W.mroIn K C (.type "object") = some true)))
def descB (K : PySem.W.Frag) : Bool := decide (PySem.W.specialIn K (.builtin "object.__class__") "__get__" = some (some (.builtin "getset_descriptor.__get__"))) && decide (PySem.W.takesIn K (.builtin "object.__class__") = some true)
theorem xisB_ok {K : PySem.W.Frag} {C : Addr} (d : descB K = true) (h : xisB K C = true) : XIs K C := by
  unfold xisB at h
  unfold descB at d
  simp only [Bool.and_eq_true, decide_eq_true_eq] at h d
  obtain ⟨h1, h2, h3, h4⟩ := h
  exact ⟨h1, xfB_ok h2, h3, d.1, d.2, h4⟩
def iniB (K : PySem.W.Frag) (C fI : Addr) (fld : Str) : Bool := oexB K C && (decide (PySem.W.findIn K (.ref C) "__setattr__" = some (some (.builtin "object.__setattr__"))) && (decide (PySem.W.subIn K (.ref C) (.type "BaseException") = some true) &&
  (decide (PySem.W.typeIn K (.ref C) = some (.type "type")) && (PySem.W.keepIn K (.ref C) && (decide (PySem.W.typeIn K (.ref fI) = some (.type "function")) && (xfB K C && decide (PySem.W.findIn K (.ref C) fld = some none)))))))
theorem iniB_ok {K : PySem.W.Frag} {C fI : Addr} {fld : Str} (i : PySem.W.findIn K (.ref C) "__init__" = some (some (.ref fI))) (h : iniB K C fI fld = true) : XCls K C fI fld := by
  unfold iniB at h
  simp only [Bool.and_eq_true, decide_eq_true_eq] at h
  obtain ⟨h1, h2, h3, h4, h5, h6, h7, h8⟩ := h
  exact ⟨⟨oexB_ok h1, h2, h3, h4, h5⟩, i, h6, xfB_ok h7, h8⟩

set_option maxHeartbeats 16000000 in
theorem all_mk {l : PySem.W.OpenLaw} {w : World} {K : PySem.W.Frag} {h : Heap} {mg : Str → Option Value} {fa C I f_is_whole f_is_whole_from f_is_tuple_of_two f_is_ascending f_is_graph f_is_vertex_pair f_check_graph f_read_graph f__words_of f__vertices_told f__edges_told f__is_digit f_print_graph f_graph6 f_from_graph6 f__can_tell f__signs_for f__pairs_by_greater f__law_well f__law_draw f__law_pick f__law_same f__law_of_pairs f__law_turned f__law_round f__law_called f__law_order f__law_random f__law_sides f__law_beside f__law_folded f__law_grown f__law_graph f__law_print f__law_right f_law : Addr} {aF : Addr} {tkM tkB tkS tkD tkX tkE : Tok} {sg dg : Str} (X : K.In h) (GN : h.Ns mainGlobals mg) (hfa : mg "law" = some (.ref fa))
    (aC : PySem.W.nsIn K mainGlobals "InvalidSign" = some (some (.ref C)))
    {o0 k0 e0 m0 d0 t0 : Value} {D0 N0 : Option Addr} {S0 : Array (Option Value)}
    (i0 : PySem.W.findIn K (.ref C) "__init__" = some (some (.ref I)))
    (l0 : K.lookup I = some ⟨o0, D0, .func (PySem.W.fnOf "__init__" "InvalidSign.__init__" (defArgs (inClass (top 4) 0)) (defBody (inClass (top 4) 0)) (defScope (inClass (top 4) 0)) .none k0 e0 m0 N0 d0 t0), S0⟩)
    (c0 : PySem.W.codeIn K d0 "InvalidSign.__init__" = true)
    (q0 : PySem.W.keepIn K (.ref I) = true)
    {fo_is_whole fk_is_whole fe_is_whole fm_is_whole fc_is_whole ft_is_whole : Value} {fD_is_whole fN_is_whole : Option Addr} {fS_is_whole : Array (Option Value)}
    (fa_is_whole : PySem.W.nsIn K mainGlobals "is_whole" = some (some (.ref f_is_whole)))
    (fl_is_whole : K.lookup f_is_whole = some ⟨fo_is_whole, fD_is_whole, .func (PySem.W.fnOf "is_whole" "is_whole" (defArgs (top 7)) (defBody (top 7)) (defScope (top 7)) .none fk_is_whole fe_is_whole fm_is_whole fN_is_whole fc_is_whole ft_is_whole), fS_is_whole⟩)
    (fcc_is_whole : PySem.W.codeIn K fc_is_whole "is_whole" = true)
    (fq_is_whole : PySem.W.keepIn K (.ref f_is_whole) = true)
    {fo_is_whole_from fk_is_whole_from fe_is_whole_from fm_is_whole_from fc_is_whole_from ft_is_whole_from : Value} {fD_is_whole_from fN_is_whole_from : Option Addr} {fS_is_whole_from : Array (Option Value)}
    (fa_is_whole_from : PySem.W.nsIn K mainGlobals "is_whole_from" = some (some (.ref f_is_whole_from)))
    (fl_is_whole_from : K.lookup f_is_whole_from = some ⟨fo_is_whole_from, fD_is_whole_from, .func (PySem.W.fnOf "is_whole_from" "is_whole_from" (defArgs (top 8)) (defBody (top 8)) (defScope (top 8)) .none fk_is_whole_from fe_is_whole_from fm_is_whole_from fN_is_whole_from fc_is_whole_from ft_is_whole_from), fS_is_whole_from⟩)
    (fcc_is_whole_from : PySem.W.codeIn K fc_is_whole_from "is_whole_from" = true)
    (fq_is_whole_from : PySem.W.keepIn K (.ref f_is_whole_from) = true)
    {fo_is_tuple_of_two fk_is_tuple_of_two fe_is_tuple_of_two fm_is_tuple_of_two fc_is_tuple_of_two ft_is_tuple_of_two : Value} {fD_is_tuple_of_two fN_is_tuple_of_two : Option Addr} {fS_is_tuple_of_two : Array (Option Value)}
    (fa_is_tuple_of_two : PySem.W.nsIn K mainGlobals "is_tuple_of_two" = some (some (.ref f_is_tuple_of_two)))
    (fl_is_tuple_of_two : K.lookup f_is_tuple_of_two = some ⟨fo_is_tuple_of_two, fD_is_tuple_of_two, .func (PySem.W.fnOf "is_tuple_of_two" "is_tuple_of_two" (defArgs (top 9)) (defBody (top 9)) (defScope (top 9)) .none fk_is_tuple_of_two fe_is_tuple_of_two fm_is_tuple_of_two fN_is_tuple_of_two fc_is_tuple_of_two ft_is_tuple_of_two), fS_is_tuple_of_two⟩)
    (fcc_is_tuple_of_two : PySem.W.codeIn K fc_is_tuple_of_two "is_tuple_of_two" = true)
    (fq_is_tuple_of_two : PySem.W.keepIn K (.ref f_is_tuple_of_two) = true)
    {fo_is_ascending fk_is_ascending fe_is_ascending fm_is_ascending fc_is_ascending ft_is_ascending : Value} {fD_is_ascending fN_is_ascending : Option Addr} {fS_is_ascending : Array (Option Value)}
    (fa_is_ascending : PySem.W.nsIn K mainGlobals "is_ascending" = some (some (.ref f_is_ascending)))
    (fl_is_ascending : K.lookup f_is_ascending = some ⟨fo_is_ascending, fD_is_ascending, .func (PySem.W.fnOf "is_ascending" "is_ascending" (defArgs (top 10)) (defBody (top 10)) (defScope (top 10)) .none fk_is_ascending fe_is_ascending fm_is_ascending fN_is_ascending fc_is_ascending ft_is_ascending), fS_is_ascending⟩)
    (fcc_is_ascending : PySem.W.codeIn K fc_is_ascending "is_ascending" = true)
    (fq_is_ascending : PySem.W.keepIn K (.ref f_is_ascending) = true)
    {fo_is_graph fk_is_graph fe_is_graph fm_is_graph fc_is_graph ft_is_graph : Value} {fD_is_graph fN_is_graph : Option Addr} {fS_is_graph : Array (Option Value)}
    (fa_is_graph : PySem.W.nsIn K mainGlobals "is_graph" = some (some (.ref f_is_graph)))
    (fl_is_graph : K.lookup f_is_graph = some ⟨fo_is_graph, fD_is_graph, .func (PySem.W.fnOf "is_graph" "is_graph" (defArgs (top 11)) (defBody (top 11)) (defScope (top 11)) .none fk_is_graph fe_is_graph fm_is_graph fN_is_graph fc_is_graph ft_is_graph), fS_is_graph⟩)
    (fcc_is_graph : PySem.W.codeIn K fc_is_graph "is_graph" = true)
    (fq_is_graph : PySem.W.keepIn K (.ref f_is_graph) = true)
    {fo_is_vertex_pair fk_is_vertex_pair fe_is_vertex_pair fm_is_vertex_pair fc_is_vertex_pair ft_is_vertex_pair : Value} {fD_is_vertex_pair fN_is_vertex_pair : Option Addr} {fS_is_vertex_pair : Array (Option Value)}
    (fa_is_vertex_pair : PySem.W.nsIn K mainGlobals "is_vertex_pair" = some (some (.ref f_is_vertex_pair)))
    (fl_is_vertex_pair : K.lookup f_is_vertex_pair = some ⟨fo_is_vertex_pair, fD_is_vertex_pair, .func (PySem.W.fnOf "is_vertex_pair" "is_vertex_pair" (defArgs (top 12)) (defBody (top 12)) (defScope (top 12)) .none fk_is_vertex_pair fe_is_vertex_pair fm_is_vertex_pair fN_is_vertex_pair fc_is_vertex_pair ft_is_vertex_pair), fS_is_vertex_pair⟩)
    (fcc_is_vertex_pair : PySem.W.codeIn K fc_is_vertex_pair "is_vertex_pair" = true)
    (fq_is_vertex_pair : PySem.W.keepIn K (.ref f_is_vertex_pair) = true)
    {fo_check_graph fk_check_graph fe_check_graph fm_check_graph fc_check_graph ft_check_graph : Value} {fD_check_graph fN_check_graph : Option Addr} {fS_check_graph : Array (Option Value)}
    (fa_check_graph : PySem.W.nsIn K mainGlobals "check_graph" = some (some (.ref f_check_graph)))
    (fl_check_graph : K.lookup f_check_graph = some ⟨fo_check_graph, fD_check_graph, .func (PySem.W.fnOf "check_graph" "check_graph" (defArgs (top 13)) (defBody (top 13)) (defScope (top 13)) .none fk_check_graph fe_check_graph fm_check_graph fN_check_graph fc_check_graph ft_check_graph), fS_check_graph⟩)
    (fcc_check_graph : PySem.W.codeIn K fc_check_graph "check_graph" = true)
    (fq_check_graph : PySem.W.keepIn K (.ref f_check_graph) = true)
    {fo_read_graph fk_read_graph fe_read_graph fm_read_graph fc_read_graph ft_read_graph : Value} {fD_read_graph fN_read_graph : Option Addr} {fS_read_graph : Array (Option Value)}
    (fa_read_graph : PySem.W.nsIn K mainGlobals "read_graph" = some (some (.ref f_read_graph)))
    (fl_read_graph : K.lookup f_read_graph = some ⟨fo_read_graph, fD_read_graph, .func (PySem.W.fnOf "read_graph" "read_graph" (defArgs (top 20)) (defBody (top 20)) (defScope (top 20)) .none fk_read_graph fe_read_graph fm_read_graph fN_read_graph fc_read_graph ft_read_graph), fS_read_graph⟩)
    (fcc_read_graph : PySem.W.codeIn K fc_read_graph "read_graph" = true)
    (fq_read_graph : PySem.W.keepIn K (.ref f_read_graph) = true)
    {fo__words_of fk__words_of fe__words_of fm__words_of fc__words_of ft__words_of : Value} {fD__words_of fN__words_of : Option Addr} {fS__words_of : Array (Option Value)}
    (fa__words_of : PySem.W.nsIn K mainGlobals "_words_of" = some (some (.ref f__words_of)))
    (fl__words_of : K.lookup f__words_of = some ⟨fo__words_of, fD__words_of, .func (PySem.W.fnOf "_words_of" "_words_of" (defArgs (top 21)) (defBody (top 21)) (defScope (top 21)) .none fk__words_of fe__words_of fm__words_of fN__words_of fc__words_of ft__words_of), fS__words_of⟩)
    (fcc__words_of : PySem.W.codeIn K fc__words_of "_words_of" = true)
    (fq__words_of : PySem.W.keepIn K (.ref f__words_of) = true)
    {fo__vertices_told fk__vertices_told fe__vertices_told fm__vertices_told fc__vertices_told ft__vertices_told : Value} {fD__vertices_told fN__vertices_told : Option Addr} {fS__vertices_told : Array (Option Value)}
    (fa__vertices_told : PySem.W.nsIn K mainGlobals "_vertices_told" = some (some (.ref f__vertices_told)))
    (fl__vertices_told : K.lookup f__vertices_told = some ⟨fo__vertices_told, fD__vertices_told, .func (PySem.W.fnOf "_vertices_told" "_vertices_told" (defArgs (top 22)) (defBody (top 22)) (defScope (top 22)) .none fk__vertices_told fe__vertices_told fm__vertices_told fN__vertices_told fc__vertices_told ft__vertices_told), fS__vertices_told⟩)
    (fcc__vertices_told : PySem.W.codeIn K fc__vertices_told "_vertices_told" = true)
    (fq__vertices_told : PySem.W.keepIn K (.ref f__vertices_told) = true)
    {fo__edges_told fk__edges_told fe__edges_told fm__edges_told fc__edges_told ft__edges_told : Value} {fD__edges_told fN__edges_told : Option Addr} {fS__edges_told : Array (Option Value)}
    (fa__edges_told : PySem.W.nsIn K mainGlobals "_edges_told" = some (some (.ref f__edges_told)))
    (fl__edges_told : K.lookup f__edges_told = some ⟨fo__edges_told, fD__edges_told, .func (PySem.W.fnOf "_edges_told" "_edges_told" (defArgs (top 23)) (defBody (top 23)) (defScope (top 23)) .none fk__edges_told fe__edges_told fm__edges_told fN__edges_told fc__edges_told ft__edges_told), fS__edges_told⟩)
    (fcc__edges_told : PySem.W.codeIn K fc__edges_told "_edges_told" = true)
    (fq__edges_told : PySem.W.keepIn K (.ref f__edges_told) = true)
    {fo__is_digit fk__is_digit fe__is_digit fm__is_digit fc__is_digit ft__is_digit : Value} {fD__is_digit fN__is_digit : Option Addr} {fS__is_digit : Array (Option Value)}
    (fa__is_digit : PySem.W.nsIn K mainGlobals "_is_digit" = some (some (.ref f__is_digit)))
    (fl__is_digit : K.lookup f__is_digit = some ⟨fo__is_digit, fD__is_digit, .func (PySem.W.fnOf "_is_digit" "_is_digit" (defArgs (top 24)) (defBody (top 24)) (defScope (top 24)) .none fk__is_digit fe__is_digit fm__is_digit fN__is_digit fc__is_digit ft__is_digit), fS__is_digit⟩)
    (fcc__is_digit : PySem.W.codeIn K fc__is_digit "_is_digit" = true)
    (fq__is_digit : PySem.W.keepIn K (.ref f__is_digit) = true)
    {fo_print_graph fk_print_graph fe_print_graph fm_print_graph fc_print_graph ft_print_graph : Value} {fD_print_graph fN_print_graph : Option Addr} {fS_print_graph : Array (Option Value)}
    (fa_print_graph : PySem.W.nsIn K mainGlobals "print_graph" = some (some (.ref f_print_graph)))
    (fl_print_graph : K.lookup f_print_graph = some ⟨fo_print_graph, fD_print_graph, .func (PySem.W.fnOf "print_graph" "print_graph" (defArgs (top 25)) (defBody (top 25)) (defScope (top 25)) .none fk_print_graph fe_print_graph fm_print_graph fN_print_graph fc_print_graph ft_print_graph), fS_print_graph⟩)
    (fcc_print_graph : PySem.W.codeIn K fc_print_graph "print_graph" = true)
    (fq_print_graph : PySem.W.keepIn K (.ref f_print_graph) = true)
    {fo_graph6 fk_graph6 fe_graph6 fm_graph6 fc_graph6 ft_graph6 : Value} {fD_graph6 fN_graph6 : Option Addr} {fS_graph6 : Array (Option Value)}
    (fa_graph6 : PySem.W.nsIn K mainGlobals "graph6" = some (some (.ref f_graph6)))
    (fl_graph6 : K.lookup f_graph6 = some ⟨fo_graph6, fD_graph6, .func (PySem.W.fnOf "graph6" "graph6" (defArgs (top 26)) (defBody (top 26)) (defScope (top 26)) .none fk_graph6 fe_graph6 fm_graph6 fN_graph6 fc_graph6 ft_graph6), fS_graph6⟩)
    (fcc_graph6 : PySem.W.codeIn K fc_graph6 "graph6" = true)
    (fq_graph6 : PySem.W.keepIn K (.ref f_graph6) = true)
    {fo_from_graph6 fk_from_graph6 fe_from_graph6 fm_from_graph6 fc_from_graph6 ft_from_graph6 : Value} {fD_from_graph6 fN_from_graph6 : Option Addr} {fS_from_graph6 : Array (Option Value)}
    (fa_from_graph6 : PySem.W.nsIn K mainGlobals "from_graph6" = some (some (.ref f_from_graph6)))
    (fl_from_graph6 : K.lookup f_from_graph6 = some ⟨fo_from_graph6, fD_from_graph6, .func (PySem.W.fnOf "from_graph6" "from_graph6" (defArgs (top 27)) (defBody (top 27)) (defScope (top 27)) .none fk_from_graph6 fe_from_graph6 fm_from_graph6 fN_from_graph6 fc_from_graph6 ft_from_graph6), fS_from_graph6⟩)
    (fcc_from_graph6 : PySem.W.codeIn K fc_from_graph6 "from_graph6" = true)
    (fq_from_graph6 : PySem.W.keepIn K (.ref f_from_graph6) = true)
    {fo__can_tell fk__can_tell fe__can_tell fm__can_tell fc__can_tell ft__can_tell : Value} {fD__can_tell fN__can_tell : Option Addr} {fS__can_tell : Array (Option Value)}
    (fa__can_tell : PySem.W.nsIn K mainGlobals "_can_tell" = some (some (.ref f__can_tell)))
    (fl__can_tell : K.lookup f__can_tell = some ⟨fo__can_tell, fD__can_tell, .func (PySem.W.fnOf "_can_tell" "_can_tell" (defArgs (top 28)) (defBody (top 28)) (defScope (top 28)) .none fk__can_tell fe__can_tell fm__can_tell fN__can_tell fc__can_tell ft__can_tell), fS__can_tell⟩)
    (fcc__can_tell : PySem.W.codeIn K fc__can_tell "_can_tell" = true)
    (fq__can_tell : PySem.W.keepIn K (.ref f__can_tell) = true)
    {fo__signs_for fk__signs_for fe__signs_for fm__signs_for fc__signs_for ft__signs_for : Value} {fD__signs_for fN__signs_for : Option Addr} {fS__signs_for : Array (Option Value)}
    (fa__signs_for : PySem.W.nsIn K mainGlobals "_signs_for" = some (some (.ref f__signs_for)))
    (fl__signs_for : K.lookup f__signs_for = some ⟨fo__signs_for, fD__signs_for, .func (PySem.W.fnOf "_signs_for" "_signs_for" (defArgs (top 29)) (defBody (top 29)) (defScope (top 29)) .none fk__signs_for fe__signs_for fm__signs_for fN__signs_for fc__signs_for ft__signs_for), fS__signs_for⟩)
    (fcc__signs_for : PySem.W.codeIn K fc__signs_for "_signs_for" = true)
    (fq__signs_for : PySem.W.keepIn K (.ref f__signs_for) = true)
    {fo__pairs_by_greater fk__pairs_by_greater fe__pairs_by_greater fm__pairs_by_greater fc__pairs_by_greater ft__pairs_by_greater : Value} {fD__pairs_by_greater fN__pairs_by_greater : Option Addr} {fS__pairs_by_greater : Array (Option Value)}
    (fa__pairs_by_greater : PySem.W.nsIn K mainGlobals "_pairs_by_greater" = some (some (.ref f__pairs_by_greater)))
    (fl__pairs_by_greater : K.lookup f__pairs_by_greater = some ⟨fo__pairs_by_greater, fD__pairs_by_greater, .func (PySem.W.fnOf "_pairs_by_greater" "_pairs_by_greater" (defArgs (top 30)) (defBody (top 30)) (defScope (top 30)) .none fk__pairs_by_greater fe__pairs_by_greater fm__pairs_by_greater fN__pairs_by_greater fc__pairs_by_greater ft__pairs_by_greater), fS__pairs_by_greater⟩)
    (fcc__pairs_by_greater : PySem.W.codeIn K fc__pairs_by_greater "_pairs_by_greater" = true)
    (fq__pairs_by_greater : PySem.W.keepIn K (.ref f__pairs_by_greater) = true)
    {fo__law_well fk__law_well fe__law_well fm__law_well fc__law_well ft__law_well : Value} {fD__law_well fN__law_well : Option Addr} {fS__law_well : Array (Option Value)}
    (fa__law_well : PySem.W.nsIn K mainGlobals "_law_well" = some (some (.ref f__law_well)))
    (fl__law_well : K.lookup f__law_well = some ⟨fo__law_well, fD__law_well, .func (PySem.W.fnOf "_law_well" "_law_well" (defArgs (top 32)) (defBody (top 32)) (defScope (top 32)) .none fk__law_well fe__law_well fm__law_well fN__law_well fc__law_well ft__law_well), fS__law_well⟩)
    (fcc__law_well : PySem.W.codeIn K fc__law_well "_law_well" = true)
    (fq__law_well : PySem.W.keepIn K (.ref f__law_well) = true)
    {fo__law_draw fk__law_draw fe__law_draw fm__law_draw fc__law_draw ft__law_draw : Value} {fD__law_draw fN__law_draw : Option Addr} {fS__law_draw : Array (Option Value)}
    (fa__law_draw : PySem.W.nsIn K mainGlobals "_law_draw" = some (some (.ref f__law_draw)))
    (fl__law_draw : K.lookup f__law_draw = some ⟨fo__law_draw, fD__law_draw, .func (PySem.W.fnOf "_law_draw" "_law_draw" (defArgs (top 33)) (defBody (top 33)) (defScope (top 33)) .none fk__law_draw fe__law_draw fm__law_draw fN__law_draw fc__law_draw ft__law_draw), fS__law_draw⟩)
    (fcc__law_draw : PySem.W.codeIn K fc__law_draw "_law_draw" = true)
    (fq__law_draw : PySem.W.keepIn K (.ref f__law_draw) = true)
    {fo__law_pick fk__law_pick fe__law_pick fm__law_pick fc__law_pick ft__law_pick : Value} {fD__law_pick fN__law_pick : Option Addr} {fS__law_pick : Array (Option Value)}
    (fa__law_pick : PySem.W.nsIn K mainGlobals "_law_pick" = some (some (.ref f__law_pick)))
    (fl__law_pick : K.lookup f__law_pick = some ⟨fo__law_pick, fD__law_pick, .func (PySem.W.fnOf "_law_pick" "_law_pick" (defArgs (top 34)) (defBody (top 34)) (defScope (top 34)) .none fk__law_pick fe__law_pick fm__law_pick fN__law_pick fc__law_pick ft__law_pick), fS__law_pick⟩)
    (fcc__law_pick : PySem.W.codeIn K fc__law_pick "_law_pick" = true)
    (fq__law_pick : PySem.W.keepIn K (.ref f__law_pick) = true)
    {fo__law_same fk__law_same fe__law_same fm__law_same fc__law_same ft__law_same : Value} {fD__law_same fN__law_same : Option Addr} {fS__law_same : Array (Option Value)}
    (fa__law_same : PySem.W.nsIn K mainGlobals "_law_same" = some (some (.ref f__law_same)))
    (fl__law_same : K.lookup f__law_same = some ⟨fo__law_same, fD__law_same, .func (PySem.W.fnOf "_law_same" "_law_same" (defArgs (top 35)) (defBody (top 35)) (defScope (top 35)) .none fk__law_same fe__law_same fm__law_same fN__law_same fc__law_same ft__law_same), fS__law_same⟩)
    (fcc__law_same : PySem.W.codeIn K fc__law_same "_law_same" = true)
    (fq__law_same : PySem.W.keepIn K (.ref f__law_same) = true)
    {fo__law_of_pairs fk__law_of_pairs fe__law_of_pairs fm__law_of_pairs fc__law_of_pairs ft__law_of_pairs : Value} {fD__law_of_pairs fN__law_of_pairs : Option Addr} {fS__law_of_pairs : Array (Option Value)}
    (fa__law_of_pairs : PySem.W.nsIn K mainGlobals "_law_of_pairs" = some (some (.ref f__law_of_pairs)))
    (fl__law_of_pairs : K.lookup f__law_of_pairs = some ⟨fo__law_of_pairs, fD__law_of_pairs, .func (PySem.W.fnOf "_law_of_pairs" "_law_of_pairs" (defArgs (top 36)) (defBody (top 36)) (defScope (top 36)) .none fk__law_of_pairs fe__law_of_pairs fm__law_of_pairs fN__law_of_pairs fc__law_of_pairs ft__law_of_pairs), fS__law_of_pairs⟩)
    (fcc__law_of_pairs : PySem.W.codeIn K fc__law_of_pairs "_law_of_pairs" = true)
    (fq__law_of_pairs : PySem.W.keepIn K (.ref f__law_of_pairs) = true)
    {fo__law_turned fk__law_turned fe__law_turned fm__law_turned fc__law_turned ft__law_turned : Value} {fD__law_turned fN__law_turned : Option Addr} {fS__law_turned : Array (Option Value)}
    (fa__law_turned : PySem.W.nsIn K mainGlobals "_law_turned" = some (some (.ref f__law_turned)))
    (fl__law_turned : K.lookup f__law_turned = some ⟨fo__law_turned, fD__law_turned, .func (PySem.W.fnOf "_law_turned" "_law_turned" (defArgs (top 37)) (defBody (top 37)) (defScope (top 37)) .none fk__law_turned fe__law_turned fm__law_turned fN__law_turned fc__law_turned ft__law_turned), fS__law_turned⟩)
    (fcc__law_turned : PySem.W.codeIn K fc__law_turned "_law_turned" = true)
    (fq__law_turned : PySem.W.keepIn K (.ref f__law_turned) = true)
    {fo__law_round fk__law_round fe__law_round fm__law_round fc__law_round ft__law_round : Value} {fD__law_round fN__law_round : Option Addr} {fS__law_round : Array (Option Value)}
    (fa__law_round : PySem.W.nsIn K mainGlobals "_law_round" = some (some (.ref f__law_round)))
    (fl__law_round : K.lookup f__law_round = some ⟨fo__law_round, fD__law_round, .func (PySem.W.fnOf "_law_round" "_law_round" (defArgs (top 38)) (defBody (top 38)) (defScope (top 38)) .none fk__law_round fe__law_round fm__law_round fN__law_round fc__law_round ft__law_round), fS__law_round⟩)
    (fcc__law_round : PySem.W.codeIn K fc__law_round "_law_round" = true)
    (fq__law_round : PySem.W.keepIn K (.ref f__law_round) = true)
    {fo__law_called fk__law_called fe__law_called fm__law_called fc__law_called ft__law_called : Value} {fD__law_called fN__law_called : Option Addr} {fS__law_called : Array (Option Value)}
    (fa__law_called : PySem.W.nsIn K mainGlobals "_law_called" = some (some (.ref f__law_called)))
    (fl__law_called : K.lookup f__law_called = some ⟨fo__law_called, fD__law_called, .func (PySem.W.fnOf "_law_called" "_law_called" (defArgs (top 39)) (defBody (top 39)) (defScope (top 39)) .none fk__law_called fe__law_called fm__law_called fN__law_called fc__law_called ft__law_called), fS__law_called⟩)
    (fcc__law_called : PySem.W.codeIn K fc__law_called "_law_called" = true)
    (fq__law_called : PySem.W.keepIn K (.ref f__law_called) = true)
    {fo__law_order fk__law_order fe__law_order fm__law_order fc__law_order ft__law_order : Value} {fD__law_order fN__law_order : Option Addr} {fS__law_order : Array (Option Value)}
    (fa__law_order : PySem.W.nsIn K mainGlobals "_law_order" = some (some (.ref f__law_order)))
    (fl__law_order : K.lookup f__law_order = some ⟨fo__law_order, fD__law_order, .func (PySem.W.fnOf "_law_order" "_law_order" (defArgs (top 40)) (defBody (top 40)) (defScope (top 40)) .none fk__law_order fe__law_order fm__law_order fN__law_order fc__law_order ft__law_order), fS__law_order⟩)
    (fcc__law_order : PySem.W.codeIn K fc__law_order "_law_order" = true)
    (fq__law_order : PySem.W.keepIn K (.ref f__law_order) = true)
    {fo__law_random fk__law_random fe__law_random fm__law_random fc__law_random ft__law_random : Value} {fD__law_random fN__law_random : Option Addr} {fS__law_random : Array (Option Value)}
    (fa__law_random : PySem.W.nsIn K mainGlobals "_law_random" = some (some (.ref f__law_random)))
    (fl__law_random : K.lookup f__law_random = some ⟨fo__law_random, fD__law_random, .func (PySem.W.fnOf "_law_random" "_law_random" (defArgs (top 41)) (defBody (top 41)) (defScope (top 41)) .none fk__law_random fe__law_random fm__law_random fN__law_random fc__law_random ft__law_random), fS__law_random⟩)
    (fcc__law_random : PySem.W.codeIn K fc__law_random "_law_random" = true)
    (fq__law_random : PySem.W.keepIn K (.ref f__law_random) = true)
    {fo__law_sides fk__law_sides fe__law_sides fm__law_sides fc__law_sides ft__law_sides : Value} {fD__law_sides fN__law_sides : Option Addr} {fS__law_sides : Array (Option Value)}
    (fa__law_sides : PySem.W.nsIn K mainGlobals "_law_sides" = some (some (.ref f__law_sides)))
    (fl__law_sides : K.lookup f__law_sides = some ⟨fo__law_sides, fD__law_sides, .func (PySem.W.fnOf "_law_sides" "_law_sides" (defArgs (top 42)) (defBody (top 42)) (defScope (top 42)) .none fk__law_sides fe__law_sides fm__law_sides fN__law_sides fc__law_sides ft__law_sides), fS__law_sides⟩)
    (fcc__law_sides : PySem.W.codeIn K fc__law_sides "_law_sides" = true)
    (fq__law_sides : PySem.W.keepIn K (.ref f__law_sides) = true)
    {fo__law_beside fk__law_beside fe__law_beside fm__law_beside fc__law_beside ft__law_beside : Value} {fD__law_beside fN__law_beside : Option Addr} {fS__law_beside : Array (Option Value)}
    (fa__law_beside : PySem.W.nsIn K mainGlobals "_law_beside" = some (some (.ref f__law_beside)))
    (fl__law_beside : K.lookup f__law_beside = some ⟨fo__law_beside, fD__law_beside, .func (PySem.W.fnOf "_law_beside" "_law_beside" (defArgs (top 43)) (defBody (top 43)) (defScope (top 43)) .none fk__law_beside fe__law_beside fm__law_beside fN__law_beside fc__law_beside ft__law_beside), fS__law_beside⟩)
    (fcc__law_beside : PySem.W.codeIn K fc__law_beside "_law_beside" = true)
    (fq__law_beside : PySem.W.keepIn K (.ref f__law_beside) = true)
    {fo__law_folded fk__law_folded fe__law_folded fm__law_folded fc__law_folded ft__law_folded : Value} {fD__law_folded fN__law_folded : Option Addr} {fS__law_folded : Array (Option Value)}
    (fa__law_folded : PySem.W.nsIn K mainGlobals "_law_folded" = some (some (.ref f__law_folded)))
    (fl__law_folded : K.lookup f__law_folded = some ⟨fo__law_folded, fD__law_folded, .func (PySem.W.fnOf "_law_folded" "_law_folded" (defArgs (top 44)) (defBody (top 44)) (defScope (top 44)) .none fk__law_folded fe__law_folded fm__law_folded fN__law_folded fc__law_folded ft__law_folded), fS__law_folded⟩)
    (fcc__law_folded : PySem.W.codeIn K fc__law_folded "_law_folded" = true)
    (fq__law_folded : PySem.W.keepIn K (.ref f__law_folded) = true)
    {fo__law_grown fk__law_grown fe__law_grown fm__law_grown fc__law_grown ft__law_grown : Value} {fD__law_grown fN__law_grown : Option Addr} {fS__law_grown : Array (Option Value)}
    (fa__law_grown : PySem.W.nsIn K mainGlobals "_law_grown" = some (some (.ref f__law_grown)))
    (fl__law_grown : K.lookup f__law_grown = some ⟨fo__law_grown, fD__law_grown, .func (PySem.W.fnOf "_law_grown" "_law_grown" (defArgs (top 45)) (defBody (top 45)) (defScope (top 45)) .none fk__law_grown fe__law_grown fm__law_grown fN__law_grown fc__law_grown ft__law_grown), fS__law_grown⟩)
    (fcc__law_grown : PySem.W.codeIn K fc__law_grown "_law_grown" = true)
    (fq__law_grown : PySem.W.keepIn K (.ref f__law_grown) = true)
    {fo__law_graph fk__law_graph fe__law_graph fm__law_graph fc__law_graph ft__law_graph : Value} {fD__law_graph fN__law_graph : Option Addr} {fS__law_graph : Array (Option Value)}
    (fa__law_graph : PySem.W.nsIn K mainGlobals "_law_graph" = some (some (.ref f__law_graph)))
    (fl__law_graph : K.lookup f__law_graph = some ⟨fo__law_graph, fD__law_graph, .func (PySem.W.fnOf "_law_graph" "_law_graph" (defArgs (top 46)) (defBody (top 46)) (defScope (top 46)) .none fk__law_graph fe__law_graph fm__law_graph fN__law_graph fc__law_graph ft__law_graph), fS__law_graph⟩)
    (fcc__law_graph : PySem.W.codeIn K fc__law_graph "_law_graph" = true)
    (fq__law_graph : PySem.W.keepIn K (.ref f__law_graph) = true)
    {fo__law_print fk__law_print fe__law_print fm__law_print fc__law_print ft__law_print : Value} {fD__law_print fN__law_print : Option Addr} {fS__law_print : Array (Option Value)}
    (fa__law_print : PySem.W.nsIn K mainGlobals "_law_print" = some (some (.ref f__law_print)))
    (fl__law_print : K.lookup f__law_print = some ⟨fo__law_print, fD__law_print, .func (PySem.W.fnOf "_law_print" "_law_print" (defArgs (top 47)) (defBody (top 47)) (defScope (top 47)) .none fk__law_print fe__law_print fm__law_print fN__law_print fc__law_print ft__law_print), fS__law_print⟩)
    (fcc__law_print : PySem.W.codeIn K fc__law_print "_law_print" = true)
    (fq__law_print : PySem.W.keepIn K (.ref f__law_print) = true)
    {fo__law_right fk__law_right fe__law_right fm__law_right fc__law_right ft__law_right : Value} {fD__law_right fN__law_right : Option Addr} {fS__law_right : Array (Option Value)}
    (fa__law_right : PySem.W.nsIn K mainGlobals "_law_right" = some (some (.ref f__law_right)))
    (fl__law_right : K.lookup f__law_right = some ⟨fo__law_right, fD__law_right, .func (PySem.W.fnOf "_law_right" "_law_right" (defArgs (top 48)) (defBody (top 48)) (defScope (top 48)) .none fk__law_right fe__law_right fm__law_right fN__law_right fc__law_right ft__law_right), fS__law_right⟩)
    (fcc__law_right : PySem.W.codeIn K fc__law_right "_law_right" = true)
    (fq__law_right : PySem.W.keepIn K (.ref f__law_right) = true)
    {fo_law fk_law fe_law fm_law fc_law ft_law : Value} {fD_law fN_law : Option Addr} {fS_law : Array (Option Value)}
    (fa_law : PySem.W.nsIn K mainGlobals "law" = some (some (.ref f_law)))
    (fl_law : K.lookup f_law = some ⟨fo_law, fD_law, .func (PySem.W.fnOf "law" "law" (defArgs (top 49)) (defBody (top 49)) (defScope (top 49)) .none fk_law fe_law fm_law fN_law fc_law ft_law), fS_law⟩)
    (fcc_law : PySem.W.codeIn K fc_law "law" = true)
    (fq_law : PySem.W.keepIn K (.ref f_law) = true)
    (gM : PySem.W.nsIn K mainGlobals "MOST_VERTICES" = some (some (.int 9 tkM)))
    (gB : PySem.W.nsIn K mainGlobals "BITS" = some (some (.int 6 tkB)))
    (gS : PySem.W.nsIn K mainGlobals "SIGNS" = some (some (.str sg tkS)))
    (gD : PySem.W.nsIn K mainGlobals "DIGITS" = some (some (.str dg tkD)))
    (gX : PySem.W.nsIn K mainGlobals "MOST_SIGNS" = some (some (.int 4000 tkX)))
    (gF : PySem.W.nsIn K mainGlobals "FEWEST_VERTICES" = some (some (.ref aF)))
    (eS : sg = SG)
    (eD : dg = DG)
    (gE : PySem.W.nsIn K aF "edge" = some (some (.int 2 tkE)))
    (wF : He.dicW K aF = some (He.keysIn w.params ["edge", "path", "cycle", "clique"]))
    (z_len : PySem.W.nsIn K mainGlobals "len" = some none)
    (z_int : PySem.W.nsIn K mainGlobals "int" = some none)
    (z_abs : PySem.W.nsIn K mainGlobals "abs" = some none)
    (z_divmod : PySem.W.nsIn K mainGlobals "divmod" = some none)
    (z_repr : PySem.W.nsIn K mainGlobals "repr" = some none)
    (z_range : PySem.W.nsIn K mainGlobals "range" = some none)
    (z_all : PySem.W.nsIn K mainGlobals "all" = some none)
    (z_max : PySem.W.nsIn K mainGlobals "max" = some none)
    (z_min : PySem.W.nsIn K mainGlobals "min" = some none)
    (z_list : PySem.W.nsIn K mainGlobals "list" = some none)
    (z_tuple : PySem.W.nsIn K mainGlobals "tuple" = some none)
    (z_sorted : PySem.W.nsIn K mainGlobals "sorted" = some none)
    (z_set : PySem.W.nsIn K mainGlobals "set" = some none)
    (z_type : PySem.W.nsIn K mainGlobals "type" = some none)
    (z_str : PySem.W.nsIn K mainGlobals "str" = some none)
    (z_enumerate : PySem.W.nsIn K mainGlobals "enumerate" = some none)
    (z_zip : PySem.W.nsIn K mainGlobals "zip" = some none)
    (b1 : iniB K C I "index" = true)
    : ∃ fd : FuncData, (∀ (s : Shared) (v : Value), BindsTo s fd ⟨[v], []⟩ [("script", v)]) ∧ ∀ base : Heap, K.In base → base.Ns mainGlobals mg → FnG l.prog w K mg base CX0 8 fa fd ["script"] (spLaw K) := by
  subst eS
  subst eD
  have e := hfa.symm.trans (PySem.W.mg_of X GN fa_law)
  cases e
  have J0 := fun_mk (st := inClass (top 4) 0) l0 c0 q0
  have Bi0 := J0.binds (ps := ["self", "index"]) fun _ _ _ _ _ _ us hl => match us, hl with | [_, _], _ => rfl
  have F_is_whole := fun_mk (st := top 7) fl_is_whole fcc_is_whole fq_is_whole
  have B_is_whole := F_is_whole.binds (ps := ["value", "low", "high"]) fun _ _ _ _ _ _ us hl => match us, hl with | [_, _, _], _ => rfl
  have F_is_whole_from := fun_mk (st := top 8) fl_is_whole_from fcc_is_whole_from fq_is_whole_from
  have B_is_whole_from := F_is_whole_from.binds (ps := ["value", "low"]) fun _ _ _ _ _ _ us hl => match us, hl with | [_, _], _ => rfl
  have F_is_tuple_of_two := fun_mk (st := top 9) fl_is_tuple_of_two fcc_is_tuple_of_two fq_is_tuple_of_two
  have B_is_tuple_of_two := F_is_tuple_of_two.binds (ps := ["value"]) fun _ _ _ _ _ _ us hl => match us, hl with | [_], _ => rfl
  have F_is_ascending := fun_mk (st := top 10) fl_is_ascending fcc_is_ascending fq_is_ascending
  have B_is_ascending := F_is_ascending.binds (ps := ["row"]) fun _ _ _ _ _ _ us hl => match us, hl with | [_], _ => rfl
  have F_is_graph := fun_mk (st := top 11) fl_is_graph fcc_is_graph fq_is_graph
  have B_is_graph := F_is_graph.binds (ps := ["value"]) fun _ _ _ _ _ _ us hl => match us, hl with | [_], _ => rfl
  have F_is_vertex_pair := fun_mk (st := top 12) fl_is_vertex_pair fcc_is_vertex_pair fq_is_vertex_pair
  have B_is_vertex_pair := F_is_vertex_pair.binds (ps := ["value", "many"]) fun _ _ _ _ _ _ us hl => match us, hl with | [_, _], _ => rfl
  have F_check_graph := fun_mk (st := top 13) fl_check_graph fcc_check_graph fq_check_graph
  have B_check_graph := F_check_graph.binds (ps := ["graph"]) fun _ _ _ _ _ _ us hl => match us, hl with | [_], _ => rfl
  have F_read_graph := fun_mk (st := top 20) fl_read_graph fcc_read_graph fq_read_graph
  have B_read_graph := F_read_graph.binds (ps := ["text"]) fun _ _ _ _ _ _ us hl => match us, hl with | [_], _ => rfl
  have F__words_of := fun_mk (st := top 21) fl__words_of fcc__words_of fq__words_of
  have B__words_of := F__words_of.binds (ps := ["line"]) fun _ _ _ _ _ _ us hl => match us, hl with | [_], _ => rfl
  have F__vertices_told := fun_mk (st := top 22) fl__vertices_told fcc__vertices_told fq__vertices_told
  have B__vertices_told := F__vertices_told.binds (ps := ["words"]) fun _ _ _ _ _ _ us hl => match us, hl with | [_], _ => rfl
  have F__edges_told := fun_mk (st := top 23) fl__edges_told fcc__edges_told fq__edges_told
  have B__edges_told := F__edges_told.binds (ps := ["words", "many"]) fun _ _ _ _ _ _ us hl => match us, hl with | [_, _], _ => rfl
  have F__is_digit := fun_mk (st := top 24) fl__is_digit fcc__is_digit fq__is_digit
  have B__is_digit := F__is_digit.binds (ps := ["word", "digits"]) fun _ _ _ _ _ _ us hl => match us, hl with | [_, _], _ => rfl
  have F_print_graph := fun_mk (st := top 25) fl_print_graph fcc_print_graph fq_print_graph
  have B_print_graph := F_print_graph.binds (ps := ["graph"]) fun _ _ _ _ _ _ us hl => match us, hl with | [_], _ => rfl
  have F_graph6 := fun_mk (st := top 26) fl_graph6 fcc_graph6 fq_graph6
  have B_graph6 := F_graph6.binds (ps := ["graph"]) fun _ _ _ _ _ _ us hl => match us, hl with | [_], _ => rfl
  have F_from_graph6 := fun_mk (st := top 27) fl_from_graph6 fcc_from_graph6 fq_from_graph6
  have B_from_graph6 := F_from_graph6.binds (ps := ["text"]) fun _ _ _ _ _ _ us hl => match us, hl with | [_], _ => rfl
  have F__can_tell := fun_mk (st := top 28) fl__can_tell fcc__can_tell fq__can_tell
  have B__can_tell := F__can_tell.binds (ps := ["number", "left"]) fun _ _ _ _ _ _ us hl => match us, hl with | [_, _], _ => rfl
  have F__signs_for := fun_mk (st := top 29) fl__signs_for fcc__signs_for fq__signs_for
  have B__signs_for := F__signs_for.binds (ps := ["bits"]) fun _ _ _ _ _ _ us hl => match us, hl with | [_], _ => rfl
  have F__pairs_by_greater := fun_mk (st := top 30) fl__pairs_by_greater fcc__pairs_by_greater fq__pairs_by_greater
  have B__pairs_by_greater := F__pairs_by_greater.binds (ps := ["many"]) fun _ _ _ _ _ _ us hl => match us, hl with | [_], _ => rfl
  have F__law_well := fun_mk (st := top 32) fl__law_well fcc__law_well fq__law_well
  have B__law_well := F__law_well.binds (ps := ["script", "turn"]) fun _ _ _ _ _ _ us hl => match us, hl with | [_, _], _ => rfl
  have F__law_draw := fun_mk (st := top 33) fl__law_draw fcc__law_draw fq__law_draw
  have B__law_draw := F__law_draw.binds (ps := ["well", "many"]) fun _ _ _ _ _ _ us hl => match us, hl with | [_, _], _ => rfl
  have F__law_pick := fun_mk (st := top 34) fl__law_pick fcc__law_pick fq__law_pick
  have B__law_pick := F__law_pick.binds (ps := ["well", "some"]) fun _ _ _ _ _ _ us hl => match us, hl with | [_, _], _ => rfl
  have F__law_same := fun_mk (st := top 35) fl__law_same fcc__law_same fq__law_same
  have B__law_same := F__law_same.binds (ps := ["told", "due"]) fun _ _ _ _ _ _ us hl => match us, hl with | [_, _], _ => rfl
  have F__law_of_pairs := fun_mk (st := top 36) fl__law_of_pairs fcc__law_of_pairs fq__law_of_pairs
  have B__law_of_pairs := F__law_of_pairs.binds (ps := ["n", "pairs"]) fun _ _ _ _ _ _ us hl => match us, hl with | [_, _], _ => rfl
  have F__law_turned := fun_mk (st := top 37) fl__law_turned fcc__law_turned fq__law_turned
  have B__law_turned := F__law_turned.binds (ps := ["graph"]) fun _ _ _ _ _ _ us hl => match us, hl with | [_], _ => rfl
  have F__law_round := fun_mk (st := top 38) fl__law_round fcc__law_round fq__law_round
  have B__law_round := F__law_round.binds (ps := ["many"]) fun _ _ _ _ _ _ us hl => match us, hl with | [_], _ => rfl
  have F__law_called := fun_mk (st := top 39) fl__law_called fcc__law_called fq__law_called
  have B__law_called := F__law_called.binds (ps := ["graph", "names"]) fun _ _ _ _ _ _ us hl => match us, hl with | [_, _], _ => rfl
  have F__law_order := fun_mk (st := top 40) fl__law_order fcc__law_order fq__law_order
  have B__law_order := F__law_order.binds (ps := ["well", "many"]) fun _ _ _ _ _ _ us hl => match us, hl with | [_, _], _ => rfl
  have F__law_random := fun_mk (st := top 41) fl__law_random fcc__law_random fq__law_random
  have B__law_random := F__law_random.binds (ps := ["well", "n"]) fun _ _ _ _ _ _ us hl => match us, hl with | [_, _], _ => rfl
  have F__law_sides := fun_mk (st := top 42) fl__law_sides fcc__law_sides fq__law_sides
  have B__law_sides := F__law_sides.binds (ps := ["well", "n"]) fun _ _ _ _ _ _ us hl => match us, hl with | [_, _], _ => rfl
  have F__law_beside := fun_mk (st := top 43) fl__law_beside fcc__law_beside fq__law_beside
  have B__law_beside := F__law_beside.binds (ps := ["one", "two", "is_joined"]) fun _ _ _ _ _ _ us hl => match us, hl with | [_, _, _], _ => rfl
  have F__law_folded := fun_mk (st := top 44) fl__law_folded fcc__law_folded fq__law_folded
  have B__law_folded := F__law_folded.binds (ps := ["well", "n"]) fun _ _ _ _ _ _ us hl => match us, hl with | [_, _], _ => rfl
  have F__law_grown := fun_mk (st := top 45) fl__law_grown fcc__law_grown fq__law_grown
  have B__law_grown := F__law_grown.binds (ps := ["well", "graph", "n"]) fun _ _ _ _ _ _ us hl => match us, hl with | [_, _, _], _ => rfl
  have F__law_graph := fun_mk (st := top 46) fl__law_graph fcc__law_graph fq__law_graph
  have B__law_graph := F__law_graph.binds (ps := ["well", "most"]) fun _ _ _ _ _ _ us hl => match us, hl with | [_, _], _ => rfl
  have F__law_print := fun_mk (st := top 47) fl__law_print fcc__law_print fq__law_print
  have B__law_print := F__law_print.binds (ps := ["graph"]) fun _ _ _ _ _ _ us hl => match us, hl with | [_], _ => rfl
  have F__law_right := fun_mk (st := top 48) fl__law_right fcc__law_right fq__law_right
  have B__law_right := F__law_right.binds (ps := ["well"]) fun _ _ _ _ _ _ us hl => match us, hl with | [_], _ => rfl
  have F_law := fun_mk (st := top 49) fl_law fcc_law fq_law
  have B_law := F_law.binds (ps := ["script"]) fun _ _ _ _ _ _ us hl => match us, hl with | [_], _ => rfl
  have m_len := PySem.W.mg_none_of X GN z_len
  have m_int := PySem.W.mg_none_of X GN z_int
  have m_abs := PySem.W.mg_none_of X GN z_abs
  have m_divmod := PySem.W.mg_none_of X GN z_divmod
  have m_repr := PySem.W.mg_none_of X GN z_repr
  have m_range := PySem.W.mg_none_of X GN z_range
  have m_all := PySem.W.mg_none_of X GN z_all
  have m_max := PySem.W.mg_none_of X GN z_max
  have m_min := PySem.W.mg_none_of X GN z_min
  have m_list := PySem.W.mg_none_of X GN z_list
  have m_tuple := PySem.W.mg_none_of X GN z_tuple
  have m_sorted := PySem.W.mg_none_of X GN z_sorted
  have m_set := PySem.W.mg_none_of X GN z_set
  have m_type := PySem.W.mg_none_of X GN z_type
  have m_str := PySem.W.mg_none_of X GN z_str
  have m_enumerate := PySem.W.mg_none_of X GN z_enumerate
  have m_zip := PySem.W.mg_none_of X GN z_zip
  have T : XCls K C I "index" := iniB_ok i0 b1
  have mM := PySem.W.mg_of X GN gM
  have mB := PySem.W.mg_of X GN gB
  have mS := PySem.W.mg_of X GN gS
  have mD := PySem.W.mg_of X GN gD
  have mX := PySem.W.mg_of X GN gX
  have mF := PySem.W.mg_of X GN gF
  have mC := PySem.W.mg_of X GN aC
  obtain ⟨esF, nF, D4⟩ := He.dicW_ok wF
  refine ⟨PySem.W.fnOf "law" "law" (defArgs (top 49)) (defBody (top 49)) (defScope (top 49)) .none fk_law fe_law fm_law fN_law fc_law ft_law, fun s v => .of_eq rfl, fun base _ _ => ?_⟩
  have O__law_well := ok_well (P := l.prog) (w := w) (K := K) (mg := mg) (base := base) F__law_well m_len m_int m_abs
  have O__law_draw := ok_draw (P := l.prog) (w := w) (K := K) (mg := mg) (base := base) F__law_draw m_divmod m_int
  have O__law_pick := ok_pick (P := l.prog) (w := w) (K := K) (mg := mg) (base := base) F__law_pick O__law_draw B__law_draw fq__law_draw (PySem.W.mg_of X GN fa__law_draw) m_len
  have O__law_same := ok_same (P := l.prog) (w := w) (K := K) (mg := mg) (base := base) F__law_same m_repr
  have O__law_of_pairs := ok_of_pairs (P := l.prog) (w := w) (K := K) (mg := mg) (base := base) F__law_of_pairs m_tuple m_sorted m_set m_min m_max
  have O__law_turned := ok_turned (P := l.prog) (w := w) (K := K) (mg := mg) (base := base) F__law_turned m_range m_tuple
  have O__law_round := ok_round (P := l.prog) (w := w) (K := K) (mg := mg) (base := base) F__law_round O__law_of_pairs B__law_of_pairs fq__law_of_pairs (PySem.W.mg_of X GN fa__law_of_pairs) m_range m_int
  have O__law_called := ok_called (P := l.prog) (w := w) (K := K) (mg := mg) (base := base) F__law_called O__law_of_pairs B__law_of_pairs fq__law_of_pairs (PySem.W.mg_of X GN fa__law_of_pairs)
  have O__law_order := ok_order (P := l.prog) (w := w) (K := K) (mg := mg) (base := base) F__law_order O__law_draw B__law_draw fq__law_draw (PySem.W.mg_of X GN fa__law_draw) m_len m_range m_list m_tuple
  have O__law_random := ok_random (P := l.prog) (w := w) (K := K) (mg := mg) (base := base) F__law_random O__law_draw B__law_draw fq__law_draw (PySem.W.mg_of X GN fa__law_draw) O__law_of_pairs B__law_of_pairs fq__law_of_pairs (PySem.W.mg_of X GN fa__law_of_pairs) O__law_pick B__law_pick fq__law_pick (PySem.W.mg_of X GN fa__law_pick) m_range
  have O__law_sides := ok_sides (P := l.prog) (w := w) (K := K) (mg := mg) (base := base) F__law_sides O__law_draw B__law_draw fq__law_draw (PySem.W.mg_of X GN fa__law_draw) O__law_of_pairs B__law_of_pairs fq__law_of_pairs (PySem.W.mg_of X GN fa__law_of_pairs) m_range
  have O__law_beside := ok_beside (P := l.prog) (w := w) (K := K) (mg := mg) (base := base) F__law_beside O__law_of_pairs B__law_of_pairs fq__law_of_pairs (PySem.W.mg_of X GN fa__law_of_pairs) m_range m_list
  have O__law_folded := ok_folded (P := l.prog) (w := w) (K := K) (mg := mg) (base := base) F__law_folded O__law_draw B__law_draw fq__law_draw (PySem.W.mg_of X GN fa__law_draw) O__law_beside B__law_beside fq__law_beside (PySem.W.mg_of X GN fa__law_beside) O__law_turned B__law_turned fq__law_turned (PySem.W.mg_of X GN fa__law_turned) m_range
  have O__law_grown := ok_grown (P := l.prog) (w := w) (K := K) (mg := mg) (base := base) F__law_grown O__law_draw B__law_draw fq__law_draw (PySem.W.mg_of X GN fa__law_draw) O__law_of_pairs B__law_of_pairs fq__law_of_pairs (PySem.W.mg_of X GN fa__law_of_pairs) m_range m_list m_min m_max
  have O__law_graph := ok_graph (P := l.prog) (w := w) (K := K) (mg := mg) (base := base) F__law_graph O__law_draw B__law_draw fq__law_draw (PySem.W.mg_of X GN fa__law_draw) O__law_random B__law_random fq__law_random (PySem.W.mg_of X GN fa__law_random) O__law_sides B__law_sides fq__law_sides (PySem.W.mg_of X GN fa__law_sides) O__law_folded B__law_folded fq__law_folded (PySem.W.mg_of X GN fa__law_folded) O__law_grown B__law_grown fq__law_grown (PySem.W.mg_of X GN fa__law_grown) O__law_round B__law_round fq__law_round (PySem.W.mg_of X GN fa__law_round) O__law_pick B__law_pick fq__law_pick (PySem.W.mg_of X GN fa__law_pick) O__law_turned B__law_turned fq__law_turned (PySem.W.mg_of X GN fa__law_turned) O__law_called B__law_called fq__law_called (PySem.W.mg_of X GN fa__law_called) O__law_order B__law_order fq__law_order (PySem.W.mg_of X GN fa__law_order) m_max
  have OPL := ok_pickL (P := l.prog) (w := w) (K := K) (mg := mg) (base := base) F__law_pick O__law_draw B__law_draw fq__law_draw (PySem.W.mg_of X GN fa__law_draw) m_len
  have O_is_whole_from := ok_whole_from (P := l.prog) (w := w) (K := K) (mg := mg) (base := base) F_is_whole_from m_type m_int
  have O_is_whole := ok_is_whole (P := l.prog) (w := w) (K := K) (mg := mg) (base := base) F_is_whole O_is_whole_from B_is_whole_from fq_is_whole_from (PySem.W.mg_of X GN fa_is_whole_from)
  have O_is_tuple_of_two := ok_is_two (P := l.prog) (w := w) (K := K) (mg := mg) (base := base) F_is_tuple_of_two m_type m_tuple m_len
  have O_is_vertex_pair := ok_is_vp (P := l.prog) (w := w) (K := K) (mg := mg) (base := base) F_is_vertex_pair O_is_tuple_of_two B_is_tuple_of_two fq_is_tuple_of_two (PySem.W.mg_of X GN fa_is_tuple_of_two) O_is_whole B_is_whole fq_is_whole (PySem.W.mg_of X GN fa_is_whole) m_all
  have O_is_ascending := ok_ascP (P := l.prog) (w := w) (K := K) (mg := mg) (base := base) F_is_ascending m_all m_zip
  have O_is_graph := ok_is_graph (P := l.prog) (w := w) (K := K) (mg := mg) (base := base) F_is_graph O_is_tuple_of_two B_is_tuple_of_two fq_is_tuple_of_two (PySem.W.mg_of X GN fa_is_tuple_of_two) O_is_whole B_is_whole fq_is_whole (PySem.W.mg_of X GN fa_is_whole) O_is_vertex_pair B_is_vertex_pair fq_is_vertex_pair (PySem.W.mg_of X GN fa_is_vertex_pair) O_is_ascending B_is_ascending fq_is_ascending (PySem.W.mg_of X GN fa_is_ascending) tkM mM m_type m_tuple m_all
  have O_check_graph := ok_check_graph (P := l.prog) (w := w) (K := K) (mg := mg) (base := base) F_check_graph O_is_graph B_is_graph fq_is_graph (PySem.W.mg_of X GN fa_is_graph)
  have O__signs_for := ok_signs_for (P := l.prog) (w := w) (K := K) (mg := mg) (base := base) F__signs_for mB
  have O__pairs_by_greater := ok_by_greater (P := l.prog) (w := w) (K := K) (mg := mg) (base := base) F__pairs_by_greater m_range
  have O_graph6 := ok_graph6 (P := l.prog) (w := w) (K := K) (mg := mg) (base := base) F_graph6 O_check_graph B_check_graph fq_check_graph (PySem.W.mg_of X GN fa_check_graph) O__pairs_by_greater B__pairs_by_greater fq__pairs_by_greater (PySem.W.mg_of X GN fa__pairs_by_greater) O__signs_for B__signs_for fq__signs_for (PySem.W.mg_of X GN fa__signs_for) mB mS m_range m_len
  have OI := ok_initS (P := l.prog) (w := w) (mg := mg) (base := base) J0 T.ox T.no
  have O__can_tell := ok_can_tell (P := l.prog) (w := w) (K := K) (mg := mg) (base := base) F__can_tell mB m_max
  have O_from_graph6 := ok_from (P := l.prog) (w := w) (K := K) (mg := mg) (base := base) F_from_graph6 T OI Bi0 mC O__can_tell B__can_tell fq__can_tell (PySem.W.mg_of X GN fa__can_tell) O__pairs_by_greater B__pairs_by_greater fq__pairs_by_greater (PySem.W.mg_of X GN fa__pairs_by_greater) O__signs_for B__signs_for fq__signs_for (PySem.W.mg_of X GN fa__signs_for) mB mS mM m_type m_str m_enumerate m_len m_tuple m_sorted m_zip
  have O__is_digit := ok_is_digit (P := l.prog) (w := w) (K := K) (mg := mg) (base := base) F__is_digit m_len
  have O__words_of := ok_words (P := l.prog) (w := w) (K := K) (mg := mg) (base := base) F__words_of 
  have O__vertices_told := ok_vtold (P := l.prog) (w := w) (K := K) (mg := mg) (base := base) F__vertices_told O__is_digit B__is_digit fq__is_digit (PySem.W.mg_of X GN fa__is_digit) mD m_len
  have O__edges_told := ok_etold (P := l.prog) (w := w) (K := K) (mg := mg) (base := base) F__edges_told O__is_digit B__is_digit fq__is_digit (PySem.W.mg_of X GN fa__is_digit) mD mF D4 gE m_len m_all m_set m_list m_zip m_min m_max
  have O_read_graph := ok_readG (P := l.prog) (w := w) (K := K) (mg := mg) (base := base) F_read_graph O__words_of B__words_of fq__words_of (PySem.W.mg_of X GN fa__words_of) O__vertices_told B__vertices_told fq__vertices_told (PySem.W.mg_of X GN fa__vertices_told) O__edges_told B__edges_told fq__edges_told (PySem.W.mg_of X GN fa__edges_told) mX m_type m_str m_len m_enumerate m_tuple m_sorted m_set
  have O_print_graph := ok_print (P := l.prog) (w := w) (K := K) (mg := mg) (base := base) F_print_graph O_check_graph B_check_graph fq_check_graph (PySem.W.mg_of X GN fa_check_graph)
  have O__law_print := ok_lprint (P := l.prog) (w := w) (K := K) (mg := mg) (base := base) F__law_print m_str
  have O__law_right := ok_right (P := l.prog) (w := w) (K := K) (mg := mg) (base := base) F__law_right O__law_graph B__law_graph fq__law_graph (PySem.W.mg_of X GN fa__law_graph) OPL B__law_pick fq__law_pick (PySem.W.mg_of X GN fa__law_pick) O__law_print B__law_print fq__law_print (PySem.W.mg_of X GN fa__law_print) O__law_same B__law_same fq__law_same (PySem.W.mg_of X GN fa__law_same) O_print_graph B_print_graph (fun s u => .of_eq rfl) fq_print_graph (PySem.W.mg_of X GN fa_print_graph) O_read_graph B_read_graph fq_read_graph (PySem.W.mg_of X GN fa_read_graph) O_graph6 B_graph6 fq_graph6 (PySem.W.mg_of X GN fa_graph6) O_from_graph6 B_from_graph6 fq_from_graph6 (PySem.W.mg_of X GN fa_from_graph6) m_range m_repr
  exact ok_law (n := 6) F_law O__law_well B__law_well fq__law_well (PySem.W.mg_of X GN fa__law_well) O__law_right B__law_right fq__law_right (PySem.W.mg_of X GN fa__law_right) m_range m_len m_all m_max m_min
end My

open PySem PySem.W PyProof.Rows
set_option maxRecDepth 100000 in
set_option maxHeartbeats 0 in
theorem PySem.Challenge.cw_perfectgraphs_k03_prints_there_and_back_holds : PySem.Challenge.rw_perfectgraphs_k03_prints_there_and_back.Holds := by
  w_on; o_law; k_head; (case hw => w_witness2)
  k_fill
  refine My.walkG (l := PySem.Challenge.rw_perfectgraphs_k03_prints_there_and_back) (m := 63) (n := 8) (x := "script") (sp := fun K => My.spLaw K) rfl (by decide) rfl ⟨rfl, by decide, by decide⟩ (fun w h Y => PySem.W.kIn_of Y) ?F (fun K H a ns hl _ hS => ⟨a, ns, rfl, hS, hl, fun _ => rfl⟩)
  case F =>
    intro w mg fa h KX G hmg
    refine' My.all_mk KX G hmg ?aC ?i0 ?l0 ?c0 ?q0 ?fa_is_whole ?fl_is_whole ?fcc_is_whole ?fq_is_whole ?fa_is_whole_from ?fl_is_whole_from ?fcc_is_whole_from ?fq_is_whole_from ?fa_is_tuple_of_two ?fl_is_tuple_of_two ?fcc_is_tuple_of_two ?fq_is_tuple_of_two ?fa_is_ascending ?fl_is_ascending ?fcc_is_ascending ?fq_is_ascending ?fa_is_graph ?fl_is_graph ?fcc_is_graph ?fq_is_graph ?fa_is_vertex_pair ?fl_is_vertex_pair ?fcc_is_vertex_pair ?fq_is_vertex_pair ?fa_check_graph ?fl_check_graph ?fcc_check_graph ?fq_check_graph ?fa_read_graph ?fl_read_graph ?fcc_read_graph ?fq_read_graph ?fa__words_of ?fl__words_of ?fcc__words_of ?fq__words_of ?fa__vertices_told ?fl__vertices_told ?fcc__vertices_told ?fq__vertices_told ?fa__edges_told ?fl__edges_told ?fcc__edges_told ?fq__edges_told ?fa__is_digit ?fl__is_digit ?fcc__is_digit ?fq__is_digit ?fa_print_graph ?fl_print_graph ?fcc_print_graph ?fq_print_graph ?fa_graph6 ?fl_graph6 ?fcc_graph6 ?fq_graph6 ?fa_from_graph6 ?fl_from_graph6 ?fcc_from_graph6 ?fq_from_graph6 ?fa__can_tell ?fl__can_tell ?fcc__can_tell ?fq__can_tell ?fa__signs_for ?fl__signs_for ?fcc__signs_for ?fq__signs_for ?fa__pairs_by_greater ?fl__pairs_by_greater ?fcc__pairs_by_greater ?fq__pairs_by_greater ?fa__law_well ?fl__law_well ?fcc__law_well ?fq__law_well ?fa__law_draw ?fl__law_draw ?fcc__law_draw ?fq__law_draw ?fa__law_pick ?fl__law_pick ?fcc__law_pick ?fq__law_pick ?fa__law_same ?fl__law_same ?fcc__law_same ?fq__law_same ?fa__law_of_pairs ?fl__law_of_pairs ?fcc__law_of_pairs ?fq__law_of_pairs ?fa__law_turned ?fl__law_turned ?fcc__law_turned ?fq__law_turned ?fa__law_round ?fl__law_round ?fcc__law_round ?fq__law_round ?fa__law_called ?fl__law_called ?fcc__law_called ?fq__law_called ?fa__law_order ?fl__law_order ?fcc__law_order ?fq__law_order ?fa__law_random ?fl__law_random ?fcc__law_random ?fq__law_random ?fa__law_sides ?fl__law_sides ?fcc__law_sides ?fq__law_sides ?fa__law_beside ?fl__law_beside ?fcc__law_beside ?fq__law_beside ?fa__law_folded ?fl__law_folded ?fcc__law_folded ?fq__law_folded ?fa__law_grown ?fl__law_grown ?fcc__law_grown ?fq__law_grown ?fa__law_graph ?fl__law_graph ?fcc__law_graph ?fq__law_graph ?fa__law_print ?fl__law_print ?fcc__law_print ?fq__law_print ?fa__law_right ?fl__law_right ?fcc__law_right ?fq__law_right ?fa_law ?fl_law ?fcc_law ?fq_law ?gM ?gB ?gS ?gD ?gX ?gF ?eS ?eD ?gE ?wF ?z_len ?z_int ?z_abs ?z_divmod ?z_repr ?z_range ?z_all ?z_max ?z_min ?z_list ?z_tuple ?z_sorted ?z_set ?z_type ?z_str ?z_enumerate ?z_zip ?b1
    (case aC => k_is)
    (case i0 => k_is)
    (case l0 => k_is)
    (case c0 => k_is)
    (case q0 => k_is)
    (case fa_is_whole => k_is)
    (case fl_is_whole => k_is)
    (case fcc_is_whole => k_is)
    (case fq_is_whole => k_is)
    (case fa_is_whole_from => k_is)
    (case fl_is_whole_from => k_is)
    (case fcc_is_whole_from => k_is)
    (case fq_is_whole_from => k_is)
    (case fa_is_tuple_of_two => k_is)
    (case fl_is_tuple_of_two => k_is)
    (case fcc_is_tuple_of_two => k_is)
    (case fq_is_tuple_of_two => k_is)
    (case fa_is_ascending => k_is)
    (case fl_is_ascending => k_is)
    (case fcc_is_ascending => k_is)
    (case fq_is_ascending => k_is)
    (case fa_is_graph => k_is)
    (case fl_is_graph => k_is)
    (case fcc_is_graph => k_is)
    (case fq_is_graph => k_is)
    (case fa_is_vertex_pair => k_is)
    (case fl_is_vertex_pair => k_is)
    (case fcc_is_vertex_pair => k_is)
    (case fq_is_vertex_pair => k_is)
    (case fa_check_graph => k_is)
    (case fl_check_graph => k_is)
    (case fcc_check_graph => k_is)
    (case fq_check_graph => k_is)
    (case fa_read_graph => k_is)
    (case fl_read_graph => k_is)
    (case fcc_read_graph => k_is)
    (case fq_read_graph => k_is)
    (case fa__words_of => k_is)
    (case fl__words_of => k_is)
    (case fcc__words_of => k_is)
    (case fq__words_of => k_is)
    (case fa__vertices_told => k_is)
    (case fl__vertices_told => k_is)
    (case fcc__vertices_told => k_is)
    (case fq__vertices_told => k_is)
    (case fa__edges_told => k_is)
    (case fl__edges_told => k_is)
    (case fcc__edges_told => k_is)
    (case fq__edges_told => k_is)
    (case fa__is_digit => k_is)
    (case fl__is_digit => k_is)
    (case fcc__is_digit => k_is)
    (case fq__is_digit => k_is)
    (case fa_print_graph => k_is)
    (case fl_print_graph => k_is)
    (case fcc_print_graph => k_is)
    (case fq_print_graph => k_is)
    (case fa_graph6 => k_is)
    (case fl_graph6 => k_is)
    (case fcc_graph6 => k_is)
    (case fq_graph6 => k_is)
    (case fa_from_graph6 => k_is)
    (case fl_from_graph6 => k_is)
    (case fcc_from_graph6 => k_is)
    (case fq_from_graph6 => k_is)
    (case fa__can_tell => k_is)
    (case fl__can_tell => k_is)
    (case fcc__can_tell => k_is)
    (case fq__can_tell => k_is)
    (case fa__signs_for => k_is)
    (case fl__signs_for => k_is)
    (case fcc__signs_for => k_is)
    (case fq__signs_for => k_is)
    (case fa__pairs_by_greater => k_is)
    (case fl__pairs_by_greater => k_is)
    (case fcc__pairs_by_greater => k_is)
    (case fq__pairs_by_greater => k_is)
    (case fa__law_well => k_is)
    (case fl__law_well => k_is)
    (case fcc__law_well => k_is)
    (case fq__law_well => k_is)
    (case fa__law_draw => k_is)
    (case fl__law_draw => k_is)
    (case fcc__law_draw => k_is)
    (case fq__law_draw => k_is)
    (case fa__law_pick => k_is)
    (case fl__law_pick => k_is)
    (case fcc__law_pick => k_is)
    (case fq__law_pick => k_is)
    (case fa__law_same => k_is)
    (case fl__law_same => k_is)
    (case fcc__law_same => k_is)
    (case fq__law_same => k_is)
    (case fa__law_of_pairs => k_is)
    (case fl__law_of_pairs => k_is)
    (case fcc__law_of_pairs => k_is)
    (case fq__law_of_pairs => k_is)
    (case fa__law_turned => k_is)
    (case fl__law_turned => k_is)
    (case fcc__law_turned => k_is)
    (case fq__law_turned => k_is)
    (case fa__law_round => k_is)
    (case fl__law_round => k_is)
    (case fcc__law_round => k_is)
    (case fq__law_round => k_is)
    (case fa__law_called => k_is)
    (case fl__law_called => k_is)
    (case fcc__law_called => k_is)
    (case fq__law_called => k_is)
    (case fa__law_order => k_is)
    (case fl__law_order => k_is)
    (case fcc__law_order => k_is)
    (case fq__law_order => k_is)
    (case fa__law_random => k_is)
    (case fl__law_random => k_is)
    (case fcc__law_random => k_is)
    (case fq__law_random => k_is)
    (case fa__law_sides => k_is)
    (case fl__law_sides => k_is)
    (case fcc__law_sides => k_is)
    (case fq__law_sides => k_is)
    (case fa__law_beside => k_is)
    (case fl__law_beside => k_is)
    (case fcc__law_beside => k_is)
    (case fq__law_beside => k_is)
    (case fa__law_folded => k_is)
    (case fl__law_folded => k_is)
    (case fcc__law_folded => k_is)
    (case fq__law_folded => k_is)
    (case fa__law_grown => k_is)
    (case fl__law_grown => k_is)
    (case fcc__law_grown => k_is)
    (case fq__law_grown => k_is)
    (case fa__law_graph => k_is)
    (case fl__law_graph => k_is)
    (case fcc__law_graph => k_is)
    (case fq__law_graph => k_is)
    (case fa__law_print => k_is)
    (case fl__law_print => k_is)
    (case fcc__law_print => k_is)
    (case fq__law_print => k_is)
    (case fa__law_right => k_is)
    (case fl__law_right => k_is)
    (case fcc__law_right => k_is)
    (case fq__law_right => k_is)
    (case fa_law => k_is)
    (case fl_law => k_is)
    (case fcc_law => k_is)
    (case fq_law => k_is)
    (case gM => k_is)
    (case gB => k_is)
    (case gS => k_is)
    (case gD => k_is)
    (case gX => k_is)
    (case gF => k_is)
    (case eS => decide +kernel)
    (case eD => decide +kernel)
    (case gE => k_is)
    (case wF => kernel_rfl)
    (case z_len => k_is)
    (case z_int => k_is)
    (case z_abs => k_is)
    (case z_divmod => k_is)
    (case z_repr => k_is)
    (case z_range => k_is)
    (case z_all => k_is)
    (case z_max => k_is)
    (case z_min => k_is)
    (case z_list => k_is)
    (case z_tuple => k_is)
    (case z_sorted => k_is)
    (case z_set => k_is)
    (case z_type => k_is)
    (case z_str => k_is)
    (case z_enumerate => k_is)
    (case z_zip => k_is)
    (case b1 => kernel_rfl)
#print axioms PySem.Challenge.cw_perfectgraphs_k03_prints_there_and_back_holds

