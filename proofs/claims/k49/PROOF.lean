import PyProof.Rows.All
import Wide.All
import OpenK.AllK
import Wide.FinOn
import HandS.ForMost
import HandS.ForExc
import HandS.ExcInit
import HandS.ExcValue
import HandS.IsInst
import KE.KExcIs
import HandS.ExcField
import HandS.TupSets
import HandS.Deep
import HandS.Conv
import HandS.Style
import KE.DatumOrd
import HandS.Walk
import HandS.Iter
import HandS.Text
import HandS.StrMore
import HandS.SortRule
import PyProof.StrLawsRepr
import HandS.TupAny
import HandS.Dict
import HandS.Zip
import HandS.TupLe
import PyProof.Rows.BitMore
import HandS.Sort
import PyProof.ListRange
import HandS.WideBits
import HandS.NamedTupSort
import HandS.List
import HandS.Flow
import HandS.SetFor
import HandS.Strs
import HandS.ExcOwn
import PySem.Challenge.RW_perfectgraphs_k49_whole_konigs_theorem_e
set_option Elab.async false
set_option linter.all false
set_option maxRecDepth 100000
set_option maxHeartbeats 2000000
/-! Defs that are asked where nothing is being displayed: repr of data, whatever it holds. -/
namespace My
open PySem PySem.Spec PyProof.Rows L2

/-- like FnOk, for calls outside of any display -/
structure FnG (P : Program) (w : World) (K : PySem.W.Frag) (mg : Str → Option Value) (base : Heap) (C : CXT) (n : Nat) (f : Addr) (fd : FuncData) (ps : List Str) (sp : Sp) : Prop where
  arity : ∀ xs H Q E, sp xs H Q E → xs.length = ps.length
  goes : ∀ (A : Around) (out : List Env) (s : Shared) (H : Hp) (args : Args) (us : List Value) (xs : List V) (Q : VK) (E : XK), A.guards = some [] → Room n A → Env0 P w K mg base A out s H →
    BindsTo s fd args (ps.zip us) → Vals xs us → sp xs H Q E → codeAny (model P w) A (.call (.ref f) args) (CR C out P w H s Q E) s
section
variable {P : Program} {w : World} {K : PySem.W.Frag} {mg : Str → Option Value} {base : Heap} {C : CXT} {n : Nat} {f : Addr} {fd : FuncData} {ps : List Str} {sp : Sp}
theorem FnG.of (F : FnOk P w K mg base C n f fd ps sp) : FnG P w K mg base C n f fd ps sp :=
  { arity := F.len, goes := fun A out s H args us xs Q E _ r e b v h => F.run A out s H args us xs Q E r e b v h }
end

section
variable {X : Cx} {C : CXT} {n : Nat} {f : Addr} {fd : FuncData} {ps : List Str} {sp : Sp} {E : XK} {nm : Str} {p pos : Pos} {a : Expr} {as : List Expr} {t : TA}
theorem FnG.call_at {pins : List (Addr × Obj)} {σ : L2.St} {H : Hp} {s : Shared} {Q : VK} {us : List Value} {xs : List V} (F : FnG X.prog X.w X.K X.mg X.base C n f fd ps sp) (gd : X.A.guards = some []) (r : Room n X.A) (b : Binds X.K fd ps []) (x : Passes C X E)
    (I : Inv X pins σ H s) (v : Vals xs us) (h : sp xs H Q E) : wpAny (model X.prog X.w) X.A (call (.ref f) us) (EP X pins σ Q) X.xe s := by
  have len : (us ++ []).length = ps.length := by
    rw [List.append_nil, ← v.length]
    exact F.arity _ _ _ _ h
  have bd := b s us I.kIn len
  rw [List.append_nil] at bd
  refine wpAny_call (codeAny_mono (F.goes X.A X.stack s H ⟨us, []⟩ us xs Q E gd r I.env0 bd v h) ?_)
  rintro (er | fl) s' hq
  · exact x pins σ H s er s' I hq
  · cases fl <;> first | exact hq.elim | exact I.after hq
/-- f(a, ..), f such a def -/
theorem pe_callG (F : FnG X.prog X.w X.K X.mg X.base C n f fd ps sp) (gd : X.A.guards = some []) (r : Room n X.A) (g : Gl X nm) (m : X.mg nm = some (.ref f)) (kp : PySem.W.keepIn X.K (.ref f) = true) (b : Binds X.K fd ps []) (x : Passes C X E)
    (ha : PA X (a :: as) t) (nd : (nm == ("__debug__" : Str)) = false := by decide) (st : starEach (a :: as) X.env = (false, eval a X.env) :: starEach as X.env := by rfl) (pl : (backTo pos (starEach as X.env)).any (·.1) = false := by rfl) :
    PE X (.Call (.Name nm p) (a :: as) [] pos) (tCall sp [] E t) := by
  constructor
  intro pins s σ H Q I h
  refine wpAny_Call_Name_kw (ld_glob I g m ?_ nd)
  refine PySem.W.callWith_K (h₀ := X.base) I.ok.mod.kin kp (thn (ha.run pos pins s σ H _ I h) ?_) st pl
  rintro us s1 ⟨xs, H1, I1, v, q⟩
  rw [List.append_nil] at q
  exact ⟨I1.kIn, F.call_at gd r b x I1 v q⟩
end

section
variable {P : Program} {w : World} {K : PySem.W.Frag} {mg : Str → Option Value} {base : Heap} {C : CXT} {n : Nat} {f : Addr} {ps N : List Str} {sp : Sp}
/-- such a def by its body -/
theorem fnG_of {name qual : Str} {pm : Arguments} {body : List Stmt} {sc : Scope} {dV kV doc md cdv ct oc : Value} {an od : Option Addr} {sl : Array (Option Value)}
    (lk : K.lookup f = some ⟨oc, od, .func (PySem.W.fnOf name qual pm body sc dV kV doc md an cdv ct), sl⟩) (cd : PySem.W.codeIn K cdv qual = true) (S : FnScope N ps sc) (ar : ∀ xs H Q E, sp xs H Q E → xs.length = ps.length)
    (hb : ∀ (A : Around) (out : List Env) (s : Shared) (H : Hp) (xs : List V) (Q : VK) (E : XK), A.guards = some [] → Room n (A.deeper (envOfC qual sc s.heap.objs.size f cdv)) → sp xs H Q E →
      ∃ t, PSs (cxOf C P w K mg base N qual sc f cdv A out s H E) body t ∧ t { nx := fun _ H' => Q .non H', rt := Q } (start N xs) H) :
    FnG P w K mg base C (n + 1) f (PySem.W.fnOf name qual pm body sc dV kV doc md an cdv ct) ps sp := by
  refine { arity := ar, goes := ?_ }
  intro A out s H args us xs Q E gd r e bd v h
  have all : K.In s.heap := e.mod.kin.keeps fun b o z => (e.bs b o z).1
  have nolim : s.heap.NoLimit := e.mod.nolimit.keeps fun b o z => (e.bs b o z).1
  have kinds : ∀ y ∈ ps.zip us, sc.names.lookup y.1 = some .local ∨ (sc.names.lookup y.1 = some .cell ∧ ((cellsFrom (s.heap.objs.size + 1) sc.names []).lookup y.1).isSome = true) := by
    rintro ⟨y, u⟩ hy
    exact (S.par y (List.of_mem_zip hy).1).imp id fun z => ⟨z, PySem.W.cellsFrom_some _ _ _ (.inl z)⟩
  refine codeAny_call_function r.depth (all _ _ lk) rfl S.co S.gen rfl (PySem.W.codeRec_of all cd) (bd _ _ _ _ (wpAny_newFunctionEnv_cells S.kind kinds ?_))
  intro env he s1 x
  cases he
  obtain ⟨t, ht, hq⟩ := hb A out s H xs Q E gd (r.deeper _) h
  refine ⟨nolim.keeps x.toInCall.keep, codeAny_func (wpAny_mono (ht.run [] s1 (start N xs) H _ (inv_start S r.hd e (ar _ _ _ _ h) v x) hq) ?_ fun _ _ z => z)⟩
  rintro fl s' hs
  cases fl with
  | ret u =>
    obtain ⟨y, σ', H', J, ry, q⟩ := hs
    exact ⟨y, H', J.os, J.bare, J.base, J.hok, ry, q⟩
  | next =>
    obtain ⟨σ', H', J, q⟩ := hs
    exact ⟨.non, H', J.os, J.bare, J.base, J.hok, rfl, q⟩
  | brk => exact hs.choose_spec.choose_spec.2.elim
  | cont => exact hs.choose_spec.choose_spec.2.elim
theorem okG {name qual : Str} {st : Stmt} {fd : FuncData} (F : L2.Fun K name qual st f fd) (S : FnScope N ps (defScope st)) (ar : ∀ xs H Q E, sp xs H Q E → xs.length = ps.length)
    (hb : ∀ (cdv : Value) (A : Around) (out : List Env) (s : Shared) (H : Hp) (xs : List V) (Q : VK) (E : XK), A.guards = some [] → Room n (A.deeper (envOfC qual (defScope st) s.heap.objs.size f cdv)) → sp xs H Q E →
      ∃ t, PSs (cxOf CX0 P w K mg base N qual (defScope st) f cdv A out s H E).nox (defBody st) t ∧ t { nx := fun _ H' => Q .non H', rt := Q } (start N xs) H) : FnG P w K mg base CX0 (n + 1) f fd ps sp := by
  obtain ⟨_, _, _, _, _, _, cdv, _, _, rfl, lk, cd⟩ := F.ex
  refine fnG_of lk cd S ar ?_
  intro A out s H xs Q E gd r h
  obtain ⟨t, ht, q⟩ := hb cdv A out s H xs Q E gd r h
  exact ⟨t, ht.nox, q⟩
end

/-! ### the end of a law's row -/
/-- the call of the law itself, over one abstract heap -/
theorem law_at {P : Program} {w : World} {K : PySem.W.Frag} {mg mb : Str → Option Value} {n : Nat} {fa a : Addr} {fd : FuncData} {x : Str} {sp : Sp} {s : Shared} {vs : List Value} {H : Hp}
    (KX : K.In s.heap) (hns : s.heap.Ns mainGlobals mg) (hb : s.heap.Ns builtinsNs mb) (hbb : ∀ x : Str, x ≠ "__name__" → mb x = bootBuiltins x) (lim : s.heap.NoLimit) (ng : s.gens = #[])
    (ha : s.heap.get? a = some { cls := .type "list", data := .seq vs.toArray }) (hr : Room n callerA)
    (F : ∀ base : Heap, K.In base → base.Ns mainGlobals mg → FnG P w K mg base CX0 n fa fd [x] sp) (bd : BindsTo s fd ⟨[.ref a], []⟩ [(x, .ref a)])
    (hsp : sp [.ref a] H (fun v _ => v = .bl true) E0) (hO : Only H) (hok : HOk P w H s.heap) (one : ∀ b, H b ≠ none → b = a) (apart : H a ≠ none → K.lookup a = none) :
    codeAny (model P w) callerA (.call (.ref fa) ⟨[.ref a], []⟩) (fun r s' => r = .ok (.ret (.bool true)) ∧ OldK s.heap s'.heap ∧ s'.os = s.os ∧ AllBare s'.gens) s := by
  have no : ∀ {b : Addr} {o : Obj}, s.heap.get? b = some o → (∀ its m, o.data ≠ .seq its m) → H b = none := by
    intro b o e d
    refine Classical.byContradiction fun z => ?_
    cases one b z
    rw [ha] at e
    cases e
    exact d _ _ rfl
  have keep : ∀ {b : Addr} {m : Str → Option Value}, s.heap.Ns b m → (hidT s.heap H).Ns b m := by
    rintro b m ⟨o, es, ep, e, d, r⟩
    exact ⟨o, es, ep, hidT_get e (no e fun its m z => by rw [d] at z; cases z), d, r⟩
  have inb : K.In (hidT s.heap H) := by
    intro b o e
    refine hidT_get (KX b o e) (Classical.byContradiction fun z => ?_)
    have eb := one b z
    rw [eb] at z e
    rw [apart z] at e
    cases e
  obtain ⟨mc, l1, l2⟩ := lim
  have M : Mod K mg (hidT s.heap H) := ⟨inb, keep hns, ⟨mb, keep hb, hbb⟩, ⟨mc, keep l1, l2⟩⟩
  have e0 : Env0 P w K mg (hidT s.heap H) callerA [] s H :=
    { frames := rfl, mod := M, bs := fun b o e => of_hidT e, bsz := Nat.le_of_eq (hidT_size _ _), funs := trivial, frf := fun b z => absurd (show b ∈ ([] : List Addr) from z) List.not_mem_nil, hok := hok, bare := .of_eq ng }
  refine codeAny_mono ((F _ inb (keep hns)).goes callerA [] s H ⟨[.ref a], []⟩ [.ref a] [.ref a] _ _ rfl hr e0 bd (.cons rfl .nil) hsp) ?_
  rintro (er | fl) s' h
  · exact False.elim h
  · cases fl with
    | ret u =>
      obtain ⟨v, H', os, bare, un, hok', rv, q⟩ := h
      cases (show v = .bl true from q)
      cases (show u = Value.bool true from rv)
      refine ⟨rfl, OldK.of_keep ?_, os, bare⟩
      intro b o e
      rcases hO b with z | ⟨ob, xs, z⟩
      · exact un.keep b o e z (fun y => absurd (show b ∈ ([] : List Addr) from y) List.not_mem_nil) List.not_mem_nil
      · have i1 := (hok b _ z).1
        rw [e] at i1
        rw [i1]
        exact (hok' b _ (un.frzs b ob _ z)).1
    | next => exact False.elim h
    | brk => exact False.elim h
    | cont => exact False.elim h
theorem walkG {l : PySem.W.OpenLaw} {m n : Nat} {q : Program} {loose : List Str} {XP : (Str → Option Value) → Heap → Prop} {YP : World → Heap → Prop} {d : DefRec} {K : Params → PySem.W.Frag} {sp : PySem.W.Frag → Sp} {x : Str}
    (hm : l.most = some m) (hm2 : m ≤ sizeLine) (hdf : d.params.defaults = []) (hr : Room n callerA) (hY : ∀ (w : World) (h : Heap), YP w h → (K w.params).In h)
    (F : ∀ (w : World) (mg : Str → Option Value) (fa : Addr) (h : Heap), (K w.params).In h → h.Ns mainGlobals mg → mg d.name = some (.ref fa) →
      ∃ fd : FuncData, (∀ (s : Shared) (u : Value), BindsTo s fd ⟨[u], []⟩ [(x, u)]) ∧
        ∀ base : Heap, (K w.params).In base → base.Ns mainGlobals mg → FnG l.prog w (K w.params) mg base CX0 n fa fd [x] (sp (K w.params)))
    (hsp : ∀ (K : PySem.W.Frag) (H : Hp) (a : Addr) (ns : List Int), ns.length ≤ m → Only H → SqL K H a (ns.map V.int) → sp K [.ref a] H (fun v _ => v = .bl true) E0) :
    PySem.W.WalkO q loose XP YP l.row.toRowW d [] (fun f vs => PySem.call f vs) := by
  refine Att.attach_call hm hdf ?_
  intro w s₀ s mg mb fa o pm cd doc a vs ns G Y ho hd hcd hmg hobj hints hlen hg
  have KX := hY w _ Y
  obtain ⟨fd, hb, hF⟩ := F w mg fa _ KX G.T.g hmg
  have rv := vals_ints hints
  have hl : (ns.map V.int).length ≤ sizeLine := by
    rw [List.length_map]
    exact Nat.le_trans hlen hm2
  cases hk : (K w.params).lookup a with
  | some ob =>
    have e := KX a ob hk
    rw [hobj] at e
    cases e
    refine law_at KX G.T.g G.T.b G.T.builtins G.T.nolimit hg hobj hr hF (hb s _) (H := fun _ => none) (hsp _ _ a ns hlen (fun _ => .inl rfl) (.inr ?_)) (fun _ => .inl rfl) (fun b u z => nomatch (show (none : Option HO) = some u from z)) (fun b z => absurd rfl z) fun z => absurd rfl z
    exact ⟨_, vs.toArray, _, hk, rfl, rfl, rfl, by rw [List.size_toArray, ← rv.length]; exact hl, by simpa using rv⟩
  | none =>
    let T : HO := .frz { cls := .type "list", data := .seq vs.toArray } (.lst (ns.map V.int))
    let H0 : Hp := fun _ => none
    have at_a : upd H0 a T a = some T := upd_same
    have off : ∀ b, b ≠ a → upd H0 a T b = none := fun b z => upd_ne z
    refine law_at KX G.T.g G.T.b G.T.builtins G.T.nolimit hg hobj hr hF (hb s _) (H := upd H0 a T) (hsp _ _ a ns hlen ?_ (.inl (.inr ⟨_, at_a⟩))) ?_ ?_ ?_ fun _ => hk
    · intro b
      by_cases z : b = a
      · cases z
        exact .inr ⟨_, _, at_a⟩
      · exact .inl (off b z)
    · intro b
      by_cases z : b = a
      · cases z
        exact .inr ⟨_, _, at_a⟩
      · exact .inl (off b z)
    · intro b u e
      by_cases z : b = a
      · cases z
        cases at_a.symm.trans e
        exact ⟨hobj, hl, vs, _, rv, hobj⟩
      · rw [off b z] at e
        cases e
    · intro b z
      exact Classical.byContradiction fun y => z (off b y)
end My

set_option maxHeartbeats 2000000
/-! repr of data: flat things, lists, tuples at any depth, and dicts of flat things. -/
namespace My
open PySem PySem.Spec PyProof.Rows L2

def flatD : V → Option PyData
  | .non => some .none
  | .bl b => some (.bool b)
  | .int i => some (.int i)
  | .str x => some (.str x)
  | _ => none
def keyD : Key → PyData
  | .inl i => .int i
  | .inr x => .str x
/-- the value v is the datum d -/
inductive Dd (K : PySem.W.Frag) (H : Hp) : V → PyData → Prop
  | dat {v : V} {d : PyData} : Dp K H v d → d.hasDict = false → Dd K H v d
  | dct {a : Addr} {kvs : List (Key × V)} {ds : List PyData} : H a = some (.dK kvs) → kvs.map (fun p => flatD p.2) = ds.map some → Dd K H (.ref a) (.dict ((kvs.map fun p => keyD p.1).zip ds))
theorem flat_reads {h : Heap} {v : V} {u : Value} {d : PyData} (e : flatD v = some d) (r : RelV v u) : Reads h u d [] := by
  cases v with
  | non => cases e; cases (show u = Value.none from r); exact .none
  | bl b => cases e; cases (show u = Value.bool b from r); exact .bool b
  | int i => cases e; obtain ⟨t, rfl⟩ := (show ∃ t, u = Value.int i t from r); exact .int i t
  | str x => cases e; obtain ⟨t, rfl⟩ := (show ∃ t, u = Value.str x t from r); exact .str x t
  | byt b => cases e
  | flt b => cases e
  | ref a => cases e
  | ty n => cases e
theorem key_reads {h : Heap} {k : Key} {u : Value} (e : keyIs k u = true) : Reads h u (keyD k) [] := by
  rcases keyIs_shape e with ⟨i, t, rfl, rfl⟩ | ⟨x, t, rfl, rfl⟩
  · exact .int i t
  · exact .str x t
theorem pairs_reads {P : Program} {w : World} {h : Heap} : ∀ {kvs : List (Key × V)} {vs : List (Key × Value)} {es : List DictEntry} {ds : List PyData}, KV kvs vs → Pairs (mixKind P w) es vs → kvs.map (fun p => flatD p.2) = ds.map some →
    ReadsAll h (es.map (·.key)) (((kvs.map fun p => keyD p.1).zip ds).map (·.1)) [] ∧ ReadsAll h (es.map (·.val)) (((kvs.map fun p => keyD p.1).zip ds).map (·.2)) []
  | [], _, _, [], .nil, .nil, _ => ⟨.nil, .nil⟩
  | [], _, _, _ :: _, _, _, e => by cases e
  | _ :: _, _, _, [], _, _, e => by cases e
  | p :: kvs, _, _, d :: ds, .cons r rs, .cons k v ps, e => by
    obtain ⟨e1, e2⟩ := List.cons.inj e
    obtain ⟨i1, i2⟩ := pairs_reads (h := h) rs ps e2
    rw [← r.1] at k
    rw [← v] at r
    exact ⟨ReadsAll.cons (as := []) (bs := []) (key_reads k) i1, ReadsAll.cons (as := []) (bs := []) (flat_reads e1 r.2) i2⟩
section
variable {X : Cx} {pins : List (Addr × Obj)} {σ : L2.St} {H : Hp} {s : Shared}
theorem Dd.reads (I : Inv X pins σ H s) {v : V} {u : Value} {d : PyData} (h : Dd X.K H v d) (r : RelV v u) : ∃ as, Reads s.heap u d as ∧ (d.hasDict = true → sysModules ∉ as) := by
  cases h with
  | dat hd n =>
    obtain ⟨as, q⟩ := Dp.reads I d v u hd r
    exact ⟨as, q, fun z => by rw [n] at z; cases z⟩
  | @dct a kvs ds ha e =>
    cases (show u = Value.ref a from r)
    obtain ⟨_, ns, vs, kv, o, es, ep, ho, ex, hd, _, ps, _⟩ := (show ObjOk X.prog X.w H s.heap a (.dK kvs) from I.hok a _ ha)
    obtain ⟨q1, q2⟩ := pairs_reads (h := s.heap) kv ps e
    refine ⟨_, Reads.dict (as := []) (bs := []) ho ex.1 hd q1 q2, fun _ z => ?_⟩
    have z' : sysModules = a := by simpa using z
    rw [z'] at ns
    simp at ns
/-- repr(v), v a datum -/
def rRepr (K : PySem.W.Frag) : List V → Hp → VK → Prop := fun xs H Q => ∃ v d, xs = [v] ∧ Dd K H v d ∧ d.showable = true ∧ d.depth ≤ 60 ∧ d.shown.length ≤ sizeLine ∧ Q (.str d.shown) H
theorem call_repr (gd : X.A.guards = some []) (hu : X.A.units + 64 < cLine) : CallR X (.builtin "repr") (rRepr X.K) := by
  rintro pins s σ H xs us Q I r ⟨v, d, rfl, hd, sh, dp, sz, q⟩
  obtain ⟨u, rfl, ru⟩ := vals1 r
  obtain ⟨as, rd, ns⟩ := hd.reads I ru
  cases rd with
  | none =>
    refine PySem.P.repr_of_none ⟨.str "None", H, I.tok _, ⟨_, rfl⟩, ?_⟩
    simpa only [PyData.shown] using q
  | bool b =>
    refine PySem.P.repr_of_bool ⟨.str (if b then "True" else "False"), H, I.tok _, ⟨_, rfl⟩, ?_⟩
    simpa only [PyData.shown] using q
  | int i t =>
    refine PySem.P.repr_of_int (by simpa [PyData.showable] using sh) ⟨.str (toString i), H, I.tok _, ⟨_, rfl⟩, ?_⟩
    simpa only [PyData.shown] using q
  | str x t =>
    refine PySem.P.repr_of_str ⟨.str (reprText x), H, I.tok _, ⟨_, rfl⟩, ?_⟩ (by simpa only [PyData.shown] using sz)
    simpa only [PyData.shown] using q
  | list h1 h2 h3 h4 => exact repr_of_reads' (.list h1 h2 h3 h4) sh ns gd (by omega) (fun _ _ e => e) (fun h1 u tk hk => ⟨.str _, H, I.kept hk, ⟨u, rfl⟩, q⟩) sz
  | tuple h1 h2 h3 h4 => exact repr_of_reads' (.tuple h1 h2 h3 h4) sh ns gd (by omega) (fun _ _ e => e) (fun h1 u tk hk => ⟨.str _, H, I.kept hk, ⟨u, rfl⟩, q⟩) sz
  | dict h1 h2 h3 h4 h5 => exact repr_of_reads' (.dict h1 h2 h3 h4 h5) sh ns gd (by omega) (fun _ _ e => e) (fun h1 u tk hk => ⟨.str _, H, I.kept hk, ⟨u, rfl⟩, q⟩) sz
end
theorem Same.tup {K : PySem.W.Frag} {H H' : Hp} {a : Addr} {xs : List V} (e : Same H H') (h : SqT K H a xs) : SqT K H' a xs := by
  rcases h with (h | ⟨o, h⟩) | h
  · exact .inl (.inl (e _ _ h))
  · exact .inl (.inr ⟨o, e _ _ h⟩)
  · exact .inr h
mutual
theorem Dp.same {K : PySem.W.Frag} {H H' : Hp} (e : Same H H') : ∀ (d : PyData) (v : V), Dp K H v d → Dp K H' v d
  | .none, _, h => by cases h; exact .non
  | .bool _, _, h => by cases h; exact .bl _
  | .int _, _, h => by cases h; exact .int _
  | .str _, _, h => by cases h; exact .str _
  | .list ds, _, h => by
    cases h with
    | lst s a => exact .lst (L2.Same.seq e s) (DpAll.same e ds _ a)
  | .tuple ds, _, h => by
    cases h with
    | tup s a => exact .tup (Same.tup e s) (DpAll.same e ds _ a)
  | .dict _, _, h => by cases h
theorem DpAll.same {K : PySem.W.Frag} {H H' : Hp} (e : Same H H') : ∀ (ds : List PyData) (vs : List V), DpAll K H vs ds → DpAll K H' vs ds
  | [], _, h => by cases h; exact .nil
  | d :: ds, _, h => by
    cases h with
    | cons a b => exact .cons (Dp.same e d _ a) (DpAll.same e ds _ b)
end
theorem Dd.same {K : PySem.W.Frag} {H H' : Hp} (e : Same H H') {v : V} {d : PyData} (h : Dd K H v d) : Dd K H' v d := by
  cases h with
  | dat a n => exact .dat (Dp.same e _ _ a) n
  | dct a n => exact .dct (e _ _ a) n
end My

set_option maxHeartbeats 4000000
/-! Exceptions of own classes over ValueError as values: made by position and by name, their fields, isinstance. -/
namespace MyX
open PySem PySem.W PySem.Calls PyProof.Rows PySem.HandSPX
open Builtin Builtin.ObjectAttr
section
variable {M : Model} {prog : Program} {w : World} {A : Around} {E : Value → Shared → Prop} {R : Result → Shared → Prop} {h : Heap} {g : Array GenState} {d : Drawn} {t : Nat} {os : OsState}
variable {nm q : Str} {C N : Addr} {bs bm bmB : List Value} {hdct : Bool} {sn : List Str} {sub : List Value} {ab : Bool} {col : Option Bool} {dd : Option Addr} {k0 k1 k2 k3 k5 : Option Value} {B newId initId : String} {key : Str} {val : Value}
theorem check_type_kw {Q : Unit → Shared → Prop} (hC : h.get? C = some (excClassObj nm q C N bs bm hdct sn sub ab col dd k0 k1 k2 k3 k5 newId)) (z : Q () ⟨h, g, d, t, os⟩) :
    wpAny M A (checkBuiltinCall "type.__call__" ⟨[.ref C], [(key, val)]⟩) Q E ⟨h, g, d, t, os⟩ := by
  have e3 := tc_sub
  have ty : (⟨h, g, d, t, os⟩ : Shared).TypeIs (.ref C) "type" := ⟨_, hC, rfl⟩
  simp only [checkBuiltinCall, tc_kind, tc_split]
  repeat (any_goals (first
    | assumption
    | with_reducible refine wpAny_loadPart_at hC ?_
    | with_reducible refine wpAny_onRaise ?_
    | with_reducible refine wpAny_map ?_
    | wp_step))
theorem check_new_kw (F : ExcBaseFacts B newId initId bmB) (hT : ∀ X : String, bm.contains (.type X) = bmB.contains (.type X)) {Q : Unit → Shared → Prop}
    (hC : h.get? C = some (excClassObj nm q C N bs bm hdct sn sub ab col dd k0 k1 k2 k3 k5 newId)) (z : Q () ⟨h, g, d, t, os⟩) : wpAny M A (checkBuiltinCall newId ⟨[.ref C], [(key, val)]⟩) Q E ⟨h, g, d, t, os⟩ := by
  have hc : (Value.ref C :: bm).contains (.type B) = true := by rw [List.contains_cons, hT, F.hasB, Bool.or_true]
  have ns := F.noStar
  simp only [checkBuiltinCall, F.newKind, F.newSplit, F.newRow]
  repeat (first
    | refine wpAny_loadPart_at hC ?_
    | (refine wpAny_isSubtype_exc hC ?_; rw [hc])
    | refine wpAny_staticBase_exc hC ?_
    | refine wpAny_madeBy_exc hC ?_
    | simp only [bne_self_eq_false, Bool.false_eq_true, if_false]
    | wp_step)
  exact z
theorem new_kw (F : ExcBaseFacts B newId initId bmB) (hT : ∀ X : String, bm.contains (.type X) = bmB.contains (.type X))
    (hC : h.get? C = some (excClassObj nm q C N bs bm hdct sn sub ab col dd k0 k1 k2 k3 k5 newId))
    (z : R (.ok (.ret (.ref (h.objs.size + 1)))) ⟨(h.push (kdv_tup [])).push (excO C h.objs.size), g, d, t, os⟩) :
    codeAny (model prog w) A (.builtin newId ⟨[.ref C], [(key, val)]⟩) R ⟨h, g, d, t, os⟩ := by
  have he := F.ends
  have c1 : (Value.ref C :: bm).contains (.type B) = true := by rw [List.contains_cons, hT, F.hasB, Bool.or_true]
  have c2 : (Value.ref C :: bm).contains (.type "AttributeError") = false := by
    rw [List.contains_cons, hT, F.noAttr]
    rfl
  have c3 : (Value.ref C :: bm).contains (.type "NameError") = false := by
    rw [List.contains_cons, hT, F.noName]
    rfl
  refine codeAny_builtinAt F.entry ?_
  unfold Builtin.«BaseException.__new__»
  refine PySem.wpAt_bind ?_
  show PySem.wpAt _ _ _ (stack >>= _) _ _ _
  refine PySem.wpAt_bind (PySem.wpAt_stack fun p below => PySem.wpAt_of_wpAny ?_)
  wp_walk
  refine PySem.wpAt_of_wpAny ?_
  rw [F.owner]
  repeat (first
    | with_reducible refine wpAny_madeHere_exc F.canon hC ?_
    | with_reducible refine wpAny_loadPart_at hC ?_
    | (with_reducible refine wpAny_isSubtype_exc hC ?_; first | rw [c1] | rw [c2] | rw [c3])
    | wp_step)
  show R _ _
  rw [Heap.size_push]
  exact z
theorem type_call_kw (F : ExcBaseFacts B newId initId bmB) (hT : ∀ X : String, bm.contains (.type X) = bmB.contains (.type X)) {fI : Addr} {Q : Fin → Shared → Prop}
    (hC : h.get? C = some (excClassObj nm q C N bs bm hdct sn sub ab col dd k0 k1 k2 k3 k5 newId))
    (hi : Looks (model prog w) h (typeLookup (.ref C) "__init__") (some (.ref fI))) (hb : ∀ self, Looks (model prog w) h (bindSpecial (.ref fI) self) (.ref fI, [self]))
    (z : codeAny (model prog w) A (.call (.ref fI) ⟨[.ref (h.objs.size + 1)], [(key, val)]⟩)
      (fun r s' => match r with | .ok (.ret v) => v = .none ∧ Q (.done (.ret (.ref (h.objs.size + 1)))) s' | .ok _ => False | .error e => E e s')
      ⟨(h.push (kdv_tup [])).push (excO C h.objs.size), g, d, t, os⟩) :
    wpAny (model prog w) A (Builtin.«type.__call__» ⟨[.ref C], [(key, val)]⟩) Q E ⟨h, g, d, t, os⟩ := by
  repeat (first
    | with_reducible refine wpAny_loadPart_at hC ?_
    | with_reducible refine wpAny_madeBy_exc hC ?_
    | wp_step)
  refine codeAny_call_builtin_code (Code.quiet_builtin _ F.quiet) (check_new_kw F hT hC ?_)
  refine new_kw F hT hC ?_
  show wpAny _ _ _ _ _ _
  have k : ∀ b o, h.get? b = some o → ((h.push (kdv_tup [])).push (excO C h.objs.size)).get? b = some o := fun b o e => Heap.get?_push_of_some _ (Heap.get?_push_of_some _ e)
  have hC2 := k _ _ hC
  have at1 : ((h.push (kdv_tup [])).push (excO C h.objs.size)).get? (h.objs.size + 1) = some (excO C h.objs.size) := by heap_get
  have cc : (Value.ref C :: bm).contains (.ref C) = true := by simp
  have i1 := hi.keeps k
  have b1 := (hb (.ref (h.objs.size + 1))).keeps k
  unfold isInstance
  repeat (first
    | with_reducible refine wpAny_loadPart_at at1 ?_
    | (with_reducible refine wpAny_isSubtype_exc hC2 ?_; rw [cc])
    | wp_step)
  show wpAny _ _ (typeLookup (.ref C) _) _ _ _
  refine i1.at ?_
  refine wpAny_holding (wpAny_bind (b1.at ?_))
  refine wpAny_bind (wpAny_call (codeAny_mono z ?_))
  rintro (e | (v | _ | _ | _)) s' y <;> first | exact y | exact y.elim | skip
  all_goals first
    | (obtain ⟨rfl, y⟩ := y; first | exact wpAny_pure (wpAny_pure y) | (wp_walk; exact y))
    | exact y
theorem call_kw (F : ExcBaseFacts B newId initId bmB) (hT : ∀ X : String, bm.contains (.type X) = bmB.contains (.type X)) {fI : Addr}
    (hC : h.get? C = some (excClassObj nm q C N bs bm hdct sn sub ab col dd k0 k1 k2 k3 k5 newId))
    (hi : Looks (model prog w) h (typeLookup (.ref C) "__init__") (some (.ref fI))) (hb : ∀ self, Looks (model prog w) h (bindSpecial (.ref fI) self) (.ref fI, [self]))
    (z : codeAny (model prog w) (A.under (.builtin "type.__call__" ⟨[.ref C], [(key, val)]⟩)) (.call (.ref fI) ⟨[.ref (h.objs.size + 1)], [(key, val)]⟩) (InitBack (h.objs.size + 1) R)
      ⟨(h.push (kdv_tup [])).push (excO C h.objs.size), g, d, t, os⟩) :
    codeAny (model prog w) A (.call (.ref C) ⟨[], [(key, val)]⟩) R ⟨h, g, d, t, os⟩ := by
  have e1 := tc_lookup
  have e2 := tc_bind (.ref C)
  have ty : (⟨h, g, d, t, os⟩ : Shared).TypeIs (.ref C) "type" := ⟨_, hC, rfl⟩
  refine codeAny_of_tree ?_
  show wpAny _ _ (callAny (.ref C) _) _ _ _
  repeat (any_goals (first
    | assumption
    | with_reducible refine wpAny_loadPart_at hC ?_
    | wp_step))
  refine ⟨rfl, ?_⟩
  refine codeAny_call_builtin_at (Code.quiet_builtin _ (by decide +kernel)) entry_typeCall (check_type_kw hC (type_call_kw F hT hC hi hb ?_))
  refine codeAny_mono z ?_
  rintro (e | (v | _ | _ | _)) s' y <;> exact y
end
end MyX

set_option maxHeartbeats 4000000
/-! The layer's rules for exceptions as values. -/
namespace My
open PySem PySem.Spec PyProof.Rows L2

/-- an exception's own __init__: one field -/
def spInit (C : Addr) (fld : Str) : Sp := fun xs H Q _ => ∃ (a : Addr) (v : V), xs = [.ref a, v] ∧ H a = some (exo a C none) ∧
  ∀ d, H d = none → d ≠ a → Q .non (upd (upd H d (exd d [(fld, v)])) a (exo a C (some d)))
/-- what the class at C, its __init__ at fI must be -/
structure XCls (K : PySem.W.Frag) (C fI : Addr) (fld : Str) : Prop where
  ox : OexC K C
  iC : PySem.W.findIn K (.ref C) "__init__" = some (some (.ref fI))
  tI : PySem.W.typeIn K (.ref fI) = some (.type "function")
  xf : XfC K C
  no : PySem.W.findIn K (.ref C) fld = some none
/-- a new exception of the class at C, its dict with the one field -/
def NewX (C : Addr) (fld : Str) (v : V) (H : Hp) (Q : VK) : Prop := ∀ a d, H a = none → H d = none → d ≠ a → Q (.ref a) (upd (upd (upd H a (exo a C none)) d (exd d [(fld, v)])) a (exo a C (some d)))
def tMkX (C : Addr) (fld : Str) (ta : TA) : TE := fun σ H Q => ta σ H fun vs H1 => ∃ v, vs = [v] ∧ NewX C fld v H1 Q
section
variable {X : Cx} {nm : Str} {C fI : Addr} {k : Nat} {fd : FuncData} {fld : Str} {e : Expr} {te : TE} {ta : TA} {p pos kpos : Pos} {pins : List (Addr × Obj)} {σ : L2.St} {H : Hp}
theorem mkx_start {hp : Heap} {g : Array GenState} {dr : Drawn} {tk : Nat} {os : OsState} {us : List Value} {v : V} {Q : VK} (I : Inv X pins σ H ⟨hp, g, dr, tk, os⟩) (q : NewX C fld v H Q) :
    Inv X pins σ (upd H (hp.objs.size + 1) (exo (hp.objs.size + 1) C none)) ⟨(hp.push (PySem.W.kdv_tup us)).push (PySem.HandSPX.excO C hp.objs.size), g, dr, tk, os⟩ ∧
    spInit C fld [.ref (hp.objs.size + 1), v] (upd H (hp.objs.size + 1) (exo (hp.objs.size + 1) C none)) (fun r H2 => r = .non ∧ Q (.ref (hp.objs.size + 1)) H2) E0 := by
  have big : hp.objs.size ≤ hp.objs.size + 1 := Nat.le_succ _
  have none1 : H (hp.objs.size + 1) = none := I.hok.fresh big
  have here : ((hp.push (PySem.W.kdv_tup us)).push (PySem.HandSPX.excO C hp.objs.size)).get? (hp.objs.size + 1) = some (PySem.HandSPX.excO C hp.objs.size) := by heap_get
  refine ⟨I.laid (fun b o e => Heap.get?_push_of_some _ (Heap.get?_push_of_some _ e)) big (exo_ok here), _, v, rfl, upd_same, ?_⟩
  intro d hd hne
  rw [upd_ne hne] at hd
  exact ⟨rfl, q _ d none1 hd hne⟩
/-- behind __init__ -/
theorem mkx_end {s : Shared} {n : Addr} {Q : VK} (I : Inv X pins σ H s) {r : Result} {s' : Shared} (h : CR CX0 X.stack X.prog X.w H s (fun r H2 => r = .non ∧ Q (.ref n) H2) E0 r s') :
    PySem.W.InitBack n (fun r s' => match r with | .ok (.ret v) => EP X pins σ Q v s' | .ok _ => False | .error e => X.xe e s') r s' := by
  rcases r with er | fl
  · exact False.elim h
  · cases fl with
    | ret u =>
      obtain ⟨v, H', J, rv, ev, q⟩ := I.after h
      subst ev
      exact ⟨rv, .ref n, H', J, rfl, q⟩
    | next => exact False.elim h
    | brk => exact False.elim h
    | cont => exact False.elim h
theorem pe_mkX (T : XCls X.K C fI fld) (G : FnOk X.prog X.w X.K X.mg X.base CX0 k fI fd ["self", fld] (spInit C fld)) (hr : Room (k + 1) X.A) (hb : Binds X.K fd ["self", fld] []) (hg : Gl X nm) (hm : X.mg nm = some (.ref C)) (ha : PA X [e] ta)
    (hdb : (nm == ("__debug__" : Str)) = false := by decide) (hs : starEach [e] X.env = (false, eval e X.env) :: starEach [] X.env := by rfl) (hpl : (backTo pos (starEach [] X.env)).any (·.1) = false := by rfl) :
    PE X (.Call (.Name nm p) [e] [] pos) (tMkX C fld ta) := by
  refine ⟨?_⟩
  intro pins s σ H Q I h
  obtain ⟨cn, q, N, bs, bm, sn, sub, ab, col, dd, k0, k1, k2, k3, k5, hC, hbm⟩ := T.ox.cls
  refine wpAny_Call_Name_kw (ld_glob I hg hm ?_ hdb)
  refine PySem.W.callWith_K (h₀ := X.base) I.ok.mod.kin T.ox.kC (thn (ha.run pos pins s σ H _ I h) ?_) hs hpl
  rintro us s1 ⟨vs, H1, I1, r, v, rfl, q1⟩
  refine ⟨I1.kIn, ?_⟩
  obtain ⟨u, rfl, ru⟩ := vals1 r
  obtain ⟨hp, g, dr, tk, os⟩ := s1
  obtain ⟨I2, h2⟩ := mkx_start (us := [u]) I1 q1
  show wpAny _ _ (call (.ref C) [u]) _ _ _
  have bd := hb _ [.ref (hp.objs.size + 1), u] I2.kIn rfl
  refine wpAny_call (PySem.HandSPX.call_own PySem.F.excBase_ValueError (fun Y => PySem.HandSPX.refsVE_contains Y bm hbm) (I1.kIn _ _ hC) (PySem.W.looks_findIn I1.kIn T.iC) (fun self => PySem.W.bind_fn I1.kIn self T.tI) (by show 1 ≤ sizeLine; decide) ?_)
  refine codeAny_mono (G.run _ X.stack _ _ ⟨[.ref (hp.objs.size + 1), u], []⟩ [.ref (hp.objs.size + 1), u] [.ref (hp.objs.size + 1), v] _ E0 (hr.make C [u] []) (I2.env0.make C [u] []) bd (.cons rfl (.cons ru .nil)) h2) ?_
  intro r s' hq
  exact mkx_end I2 hq
/-- the same by the field's name -/
theorem pe_mkXK {tk : TA} (T : XCls X.K C fI fld) (G : FnOk X.prog X.w X.K X.mg X.base CX0 k fI fd ["self", fld] (spInit C fld)) (hr : Room (k + 1) X.A) (hb : ∀ (s : Shared) (a u : Value), BindsTo s fd ⟨[a], [(fld, u)]⟩ ([("self" : Str), fld].zip [a, u])) (hg : Gl X nm) (hm : X.mg nm = some (.ref C))
    {kws : List Keyword} (hk : PK X kws tk) (hall : (backToKw pos (keywordEach kws X.env)).all (·.1.isSome) = true := by rfl) (hks : (backToKw pos (keywordEach kws X.env)).filterMap (·.1) = [fld] := by rfl)
    (hdb : (nm == ("__debug__" : Str)) = false := by decide) (hpl : ((backTo pos (starEach [] X.env)).any (·.1) || (backToKw pos (keywordEach kws X.env)).any (·.1.isNone)) = false := by rfl) :
    PE X (.Call (.Name nm p) [] kws pos) (tMkX C fld tk) := by
  refine ⟨?_⟩
  intro pins s σ H Q I h
  obtain ⟨cn, q, N, bs, bm, sn, sub, ab, col, dd, k0, k1, k2, k3, k5, hC, hbm⟩ := T.ox.cls
  refine wpAny_Call_Name_kw (ld_glob I hg hm ?_ hdb)
  refine PySem.W.callWith_KW0 (h₀ := X.base) I.ok.mod.kin T.ox.kC hall (thn (hk.run pos pins s σ H _ I h) ?_) hpl
  rintro us s1 ⟨vs, H1, I1, r, v, rfl, q1⟩
  refine ⟨I1.kIn, ?_⟩
  obtain ⟨u, rfl, ru⟩ := vals1 r
  rw [hks]
  obtain ⟨hp, g, dr, tk, os⟩ := s1
  obtain ⟨I2, h2⟩ := mkx_start (us := []) I1 q1
  show wpAny _ _ (call (.ref C) [] [(fld, u)]) _ _ _
  refine wpAny_call (MyX.call_kw PySem.F.excBase_ValueError (fun Y => PySem.HandSPX.refsVE_contains Y bm hbm) (I1.kIn _ _ hC) (PySem.W.looks_findIn I1.kIn T.iC) (fun self => PySem.W.bind_fn I1.kIn self T.tI) ?_)
  refine codeAny_mono (G.run _ X.stack _ _ ⟨[.ref (hp.objs.size + 1)], [(fld, u)]⟩ [.ref (hp.objs.size + 1), u] [.ref (hp.objs.size + 1), v] _ E0 (hr.make C [] [(fld, u)]) (I2.env0.make C [] [(fld, u)]) (hb _ _ _) (.cons rfl (.cons ru .nil)) h2) ?_
  intro r s' hq
  exact mkx_end I2 hq
/-- C(), an own exception class without an __init__ -/
theorem pe_mkX0 {bmB : List Value} {B newId initId : String} (F : ExcBaseFacts B newId initId bmB) (q : PySem.W.excIn X.K C bmB newId = true) (gC : X.mg nm = some (.ref C)) (kC : PySem.W.keepIn X.K (.ref C) = true) (hg : Gl X nm) (hdb : (nm == ("__debug__" : Str)) = false := by decide) :
    PE X (.Call (.Name nm p) [] [] pos) (fun _ H Q => ∀ a, H a = none → Q (.ref a) (upd H a (ExO (.ref C) a))) := by
  refine ⟨?_⟩
  intro pins s σ H Q I h
  refine wpAny_Call_Name_kw (ld_glob I hg gC ?_ hdb)
  refine PySem.W.callWith_K0 I.kIn kC ?_
  show wpAny _ _ (call (.ref C) []) _ _ _
  obtain ⟨bm, N, nm, qn, bs, hdct, sn, sub, ab, col, dd, k0, k1, k2, k3, k5, mN, hC, hN, hni, T⟩ := exc_obj I.kIn q
  refine wpAny_call_exc_subT F T hC hN hni ?_ (by show 0 ≤ sizeLine; decide)
  intro h' a hm
  have hn : H a = none := I.hok.gone hm.new
  obtain ⟨t, ht, _, _⟩ := hm.there
  exact ⟨.ref a, _, I.laidN hm.keeps hm.new hn (exO_ok ht ⟨rfl, rfl⟩ rfl rfl rfl (show 4 < 6 by decide)), rfl, h a hn⟩

/-- e.f, e such an exception -/
def tXget (K : PySem.W.Frag) (f : Str) (te : TE) : TE := fun σ H Q => te σ H fun x H1 => ∃ (a C d : Addr) (fs : List (Str × V)) (v : V), x = .ref a ∧ H1 a = some (exo a C (some d)) ∧ H1 d = some (exd d fs) ∧ XfC K C ∧
  PySem.W.findIn K (.ref C) f = some none ∧ fs.lookup f = some v ∧ Q v H1
theorem pe_xget {f : Str} (he : PE X e te) (hb : attributeBase e f X.env (eval e X.env) = eval e X.env := by rfl) : PE X (.Attribute e f pos) (tXget X.K f te) := by
  refine ⟨?_⟩
  intro pins s σ H Q I h
  refine attr_of hb (thn (he.run pins s σ H _ I h) ?_)
  rintro u s1 ⟨x, H1, I1, rx, a, C, d, fs, v, rfl, ha, hd, T, no, l, q⟩
  obtain rfl : u = Value.ref a := rx
  obtain ⟨t1, oa⟩ := exo_at I1.hok ha
  obtain ⟨mA, ns, rel⟩ := exd_at I1.hok hd
  obtain ⟨od, hod, hl⟩ := lookIn_ns ns
  obtain ⟨u, hu, ru⟩ := RelO.some_of (v := v) (o := mA f) (by rw [← l]; exact rel f)
  have J : PySem.W.InstAt s1.heap a { cls := .ref C, dict := some d, data := .fields #[.ref t1, .none, .none, .none, .bool false, .none] } C (some od) := ⟨oa, rfl, rfl, hod⟩
  exact HandSPX.exc_get I1.kIn J T.ga T.gg T.exC (PySem.W.findObj_own T.hdC no rfl (by rw [hl, hu])) (handed_of ru) ⟨v, H1, I1.tok _, ru, q⟩

/-- at a: an exception of the class at C -/
def IsX (H : Hp) (a C : Addr) : Prop := (∃ d fs, H a = some (exo a C (some d)) ∧ H d = some (exd d fs)) ∨ H a = some (ExO (.ref C) a)
/-- what isinstance asks of such a class -/
structure XIs (K : PySem.W.Frag) (C : Addr) : Prop where
  cl : (PySem.W.clsIn K C).isSome = true
  xf : XfC K C
  ha : PySem.W.findIn K (.ref C) "__class__" = some (some (.builtin "object.__class__"))
  hn : PySem.W.specialIn K (.builtin "object.__class__") "__get__" = some (some (.builtin "getset_descriptor.__get__"))
  ht : PySem.W.takesIn K (.builtin "object.__class__") = some true
  hm : PySem.W.mroIn K C (.type "object") = some true
def rIsX (K : PySem.W.Frag) : List V → Hp → VK → Prop := fun xs H Q => ∃ (a C : Addr) (c : V) (u : Value) (b : Bool), xs = [.ref a, c] ∧ ClsV c u ∧ IsX H a C ∧ XIs K C ∧ PySem.W.kitOne K (.ref C) u = some b ∧ Q (.bl b) H
theorem call_isX : CallR X (.builtin "isinstance") (rIsX X.K) := by
  rintro pins s σ H xs us Q I r ⟨a, C, c, u, b, rfl, cv, hx, T, kit, q⟩
  obtain ⟨u1, u2, rfl, r1, r2⟩ := vals2 r
  obtain rfl : u2 = u := cv.eq r2
  obtain rfl : u1 = Value.ref a := r1
  have go : ∀ (ox : Obj) (od : Option Obj), PySem.W.InstAt s.heap a ox C od → wpAny (model X.prog X.w) X.A (call (.builtin "isinstance") [.ref a, u2]) (EP X pins σ Q) X.xe s := fun ox od J =>
    PySem.W.kia_one (PySem.W.kitx_exc T.cl T.xf.ga T.xf.gg T.xf.exC T.ha T.hn T.ht T.hm) I.kIn J kit (fun z => nomatch z) fun tk => ⟨.bl b, H, I.tok tk, rfl, q⟩
  rcases hx with ⟨d, fs, ha, hd⟩ | ha
  · obtain ⟨t1, oa⟩ := exo_at I.hok ha
    obtain ⟨mA, ⟨od, es, ep, hod, _⟩, _⟩ := exd_at I.hok hd
    exact go _ (some od) ⟨oa, rfl, rfl, hod⟩
  · have z : ObjOk X.prog X.w H s.heap a (ExO (.ref C) a) := I.hok a _ ha
    obtain ⟨⟨oe, vs, ho, ⟨z1, z2⟩, hd, _⟩, _⟩ := z
    refine go oe none ⟨ho, z1, ?_, ?_⟩
    · unfold PySem.W.notCls
      rw [hd]
    · rw [z2]
      trivial
end
end My

set_option maxHeartbeats 2000000
/-! Graphs as pairs of numbers: what a GRAPH is, in plain Lean. -/
namespace My
open PySem PySem.Spec PyProof.Rows L2
abbrev E2 := Nat × Nat
theorem same_put {H H1 : Hp} {D : Addr} {o : HO} (s : Same H H1) (n : H D = none) : Same H (upd H1 D o) := fun b u e => by
  rw [upd_ne (ne_of_none e n)]
  exact s b u e
/-- a stands ahead of b, as tuples -/
def ahead (a b : E2) : Prop := a.1 < b.1 ∨ (a.1 = b.1 ∧ a.2 < b.2)
instance (a b : E2) : Decidable (ahead a b) := inferInstanceAs (Decidable (_ ∨ _))
structure Good (n : Nat) (es : List E2) : Prop where
  n9 : n ≤ 9
  lt : ∀ p ∈ es, p.1 < p.2 ∧ p.2 < n
  up : es.Pairwise ahead
/-- the pairs with u ahead, below n; all pairs below n, ascending -/
def rowP (n u : Nat) : List E2 := (List.range (n - (u + 1))).map fun j => (u, u + 1 + j)
def allP (n : Nat) : List E2 := (List.range n).flatMap (rowP n)
theorem mem_rowP {n u : Nat} {p : E2} : p ∈ rowP n u ↔ p.1 = u ∧ u < p.2 ∧ p.2 < n := by
  unfold rowP
  rw [List.mem_map]
  constructor
  · rintro ⟨j, hj, rfl⟩
    have := List.mem_range.mp hj
    refine ⟨rfl, ?_, ?_⟩ <;> show _ < _ <;> omega
  · rintro ⟨h1, h2, h3⟩
    refine ⟨p.2 - (u + 1), List.mem_range.mpr (by omega), ?_⟩
    obtain ⟨a, b⟩ := p
    simp only at h1 h2 h3 ⊢
    rw [h1, show u + 1 + (b - (u + 1)) = b by omega]
theorem mem_allP {n : Nat} {p : E2} : p ∈ allP n ↔ p.1 < p.2 ∧ p.2 < n := by
  unfold allP
  rw [List.mem_flatMap]
  constructor
  · rintro ⟨u, hu, h⟩
    obtain ⟨h1, h2, h3⟩ := mem_rowP.mp h
    omega
  · rintro ⟨h1, h2⟩
    exact ⟨p.1, List.mem_range.mpr (by omega), mem_rowP.mpr ⟨rfl, h1, h2⟩⟩
theorem allP_up : ∀ n, n ≤ 9 → (allP n).Pairwise ahead := by decide +kernel
theorem allP_few : ∀ n, n ≤ 9 → (allP n).length ≤ 36 := by decide +kernel
theorem ahead_ne {a b : E2} (h : ahead a b) : a ≠ b := by
  rintro rfl
  rcases h with h | h <;> omega
theorem sub_few {α : Type} [DecidableEq α] : ∀ {l m : List α}, l.Nodup → (∀ x ∈ l, x ∈ m) → l.length ≤ m.length
  | [], _, _, _ => Nat.zero_le _
  | a :: l, m, nd, sub => by
    obtain ⟨na, nl⟩ := List.nodup_cons.mp nd
    have ma : a ∈ m := sub a (List.mem_cons_self ..)
    have ih := sub_few (l := l) (m := m.erase a) nl fun x hx => by
      have hne : x ≠ a := fun e => na (e ▸ hx)
      exact (List.mem_erase_of_ne hne).mpr (sub x (List.mem_cons_of_mem _ hx))
    have le := List.length_erase_of_mem ma
    have pos : 0 < m.length := List.length_pos_of_mem ma
    rw [List.length_cons]
    omega
theorem Good.nodup {n : Nat} {es : List E2} (g : Good n es) : es.Nodup := g.up.imp fun h => ahead_ne h
theorem Good.few {n : Nat} {es : List E2} (g : Good n es) : es.length ≤ 36 := Nat.le_trans (sub_few g.nodup fun p hp => mem_allP.mpr (g.lt p hp)) (allP_few n g.n9)
theorem Good.filter {n : Nat} (h : n ≤ 9) (f : E2 → Bool) : Good n ((allP n).filter f) := ⟨h, fun p hp => mem_allP.mp (List.mem_filter.mp hp).1, (allP_up n h).filter _⟩
theorem Good.nil {n : Nat} (h : n ≤ 9) : Good n [] := ⟨h, fun _ z => (nomatch z), .nil⟩
theorem Good.more {n m : Nat} {es : List E2} (g : Good n es) (h : n ≤ m) (h9 : m ≤ 9) : Good m es := ⟨h9, fun p hp => ⟨(g.lt p hp).1, by have := (g.lt p hp).2; omega⟩, g.up⟩

/-! ### on the heap -/
/-- the pair p as a tuple -/
def PairAt (K : PySem.W.Frag) (H : Hp) (x : V) (p : E2) : Prop := ∃ t, x = .ref t ∧ SqT K H t [.int (p.1 : Int), .int (p.2 : Int)]
abbrev PairsAt (K : PySem.W.Frag) (H : Hp) : List V → List E2 → Prop := Paired (PairAt K H)
theorem PairAt.same {K : PySem.W.Frag} {H H' : Hp} (e : Same H H') {x : V} {p : E2} (h : PairAt K H x p) : PairAt K H' x p := by
  obtain ⟨t, rfl, h⟩ := h
  exact ⟨t, rfl, Same.tup e h⟩
theorem PairsAt.same {K : PySem.W.Frag} {H H' : Hp} (e : Same H H') : ∀ {xs : List V} {ps : List E2}, PairsAt K H xs ps → PairsAt K H' xs ps
  | _, _, .nil => .nil
  | _, _, .cons a b => .cons (a.same e) (PairsAt.same e b)
theorem PairsAt.append {K : PySem.W.Frag} {H : Hp} : ∀ {xs ys : List V} {ps qs : List E2}, PairsAt K H xs ps → PairsAt K H ys qs → PairsAt K H (xs ++ ys) (ps ++ qs)
  | _, _, _, _, .nil, h => h
  | _, _, _, _, .cons a b, h => .cons a (PairsAt.append b h)
/-- a graph -/
def GraphAt (K : PySem.W.Frag) (H : Hp) (x : V) (n : Nat) (es : List E2) : Prop := ∃ (t e : Addr) (xs : List V), x = .ref t ∧ SqT K H t [.int (n : Int), .ref e] ∧ SqT K H e xs ∧ PairsAt K H xs es
theorem GraphAt.same {K : PySem.W.Frag} {H H' : Hp} (s : Same H H') {x : V} {n : Nat} {es : List E2} (h : GraphAt K H x n es) : GraphAt K H' x n es := by
  obtain ⟨t, e, xs, rfl, h1, h2, h3⟩ := h
  exact ⟨t, e, xs, rfl, Same.tup s h1, Same.tup s h2, h3.same s⟩
def pairD (p : E2) : PyData := .tuple [.int (p.1 : Int), .int (p.2 : Int)]
def graphD (n : Nat) (es : List E2) : PyData := .tuple [.int (n : Int), .tuple (es.map pairD)]
theorem PairAt.dp {K : PySem.W.Frag} {H : Hp} {x : V} {p : E2} (h : PairAt K H x p) : Dp K H x (pairD p) := by
  obtain ⟨t, rfl, h⟩ := h
  exact .tup h (.cons (.int _) (.cons (.int _) .nil))
theorem PairsAt.dp {K : PySem.W.Frag} {H : Hp} : ∀ {xs : List V} {ps : List E2}, PairsAt K H xs ps → DpAll K H xs (ps.map pairD)
  | _, _, .nil => .nil
  | _, _, .cons a b => .cons a.dp (PairsAt.dp b)
theorem GraphAt.dp {K : PySem.W.Frag} {H : Hp} {x : V} {n : Nat} {es : List E2} (h : GraphAt K H x n es) : Dp K H x (graphD n es) := by
  obtain ⟨t, e, xs, rfl, h1, h2, h3⟩ := h
  exact .tup h1 (.cons (.int _) (.cons (.tup h2 h3.dp) .nil))
theorem PairsAt.get {K : PySem.W.Frag} {H : Hp} {xs : List V} {ps : List E2} {i : Nat} {x : V} (h : PairsAt K H xs ps) (e : xs[i]? = some x) : ∃ p, ps[i]? = some p ∧ PairAt K H x p := by
  have go : ∀ {xs : List V} {ps : List E2} {i : Nat} {x : V}, PairsAt K H xs ps → xs[i]? = some x → ∃ p, ps[i]? = some p ∧ PairAt K H x p := by
    intro xs
    induction xs with
    | nil => intro ps i x _ e; simp at e
    | cons a l ih =>
      intro ps i x h e
      cases h with
      | cons r t =>
        cases i with
        | zero => simp at e; subst e; exact ⟨_, rfl, r⟩
        | succ i => obtain ⟨p, h1, h2⟩ := ih t (by simpa using e); exact ⟨p, by simpa using h1, h2⟩
  exact go h e
end My

set_option maxHeartbeats 2000000
/-! Rules that pairs want: the lesser and the greater number of one; a list of pairs made a set, sorted, made a tuple. -/
namespace My
open PySem PySem.Spec PyProof.Rows L2
section
variable {X : Cx}
def rOfPair (f : Int → Int → Int) (K : PySem.W.Frag) : List V → Hp → VK → Prop := fun xs H Q => ∃ (t : Addr) (u v : Int), xs = [.ref t] ∧ SqT K H t [.int u, .int v] ∧ Q (.int (f u v)) H
theorem pair_reads {pins : List (Addr × Obj)} {σ : L2.St} {H : Hp} {s : Shared} {t : Addr} {u v : Int} (I : Inv X pins σ H s) (h : SqT X.K H t [.int u, .int v]) : ∃ vs : Array Value, s.heap.IsTuple t vs ∧ ∃ as, ReadsAll s.heap vs.toList [.int u, .int v] as := by
  obtain ⟨its, r, p, _⟩ := I.tuple h
  obtain ⟨as, q⟩ := Dp.readsAll I [.int u, .int v] [.int u, .int v] its (.cons (.int _) (.cons (.int _) .nil)) r
  obtain ⟨o, ho, hc, n, hd⟩ := p
  exact ⟨its.toArray, ⟨o, ho, hc, n, hd⟩, as, by simpa using q⟩
theorem call_minPair (hc : X.calm = true) (hu : X.A.units + 64 < cLine) : CallR X (.builtin "min") (rOfPair min X.K) := by
  rintro pins s σ H xs us Q I r ⟨t, u, v, rfl, h, q⟩
  rw [Vals.ref1 r]
  obtain ⟨vs, ht, as, rs⟩ := pair_reads I h
  refine PySem.W.min_tuple_data (I.ok.hd hc) ht rs (PySem.W.alikeAll_datum [u, v]) (by simp only [PyData.depthAll, PyData.depth]; omega) ?_
  intro i x h' tk bs hi rd hk
  have e := PySem.W.minD_ints u [v]
  have e' : PySem.W.minD (.int u) [.int v] = .int (min u v) := e
  rw [e'] at rd
  cases rd
  exact ⟨.int _, H, I.kept hk, ⟨_, rfl⟩, q⟩
theorem call_maxPair (hc : X.calm = true) (hu : X.A.units + 64 < cLine) : CallR X (.builtin "max") (rOfPair max X.K) := by
  rintro pins s σ H xs us Q I r ⟨t, u, v, rfl, h, q⟩
  rw [Vals.ref1 r]
  obtain ⟨vs, ht, as, rs⟩ := pair_reads I h
  refine PySem.W.max_tuple_data (I.ok.hd hc) ht rs (PySem.W.alikeAll_datum [u, v]) (by simp only [PyData.depthAll, PyData.depth]; omega) ?_
  intro i x h' tk bs hi rd hk
  have e := PySem.W.maxD_ints u [v]
  have e' : PySem.W.maxD (.int u) [.int v] = .int (max u v) := e
  rw [e'] at rd
  cases rd
  exact ⟨.int _, H, I.kept hk, ⟨_, rfl⟩, q⟩
end
/-! ### a pair among the pairs of a tuple -/
theorem pairD_lay (p : E2) : (pairD p).canLay0 = true := by simp [pairD, PyData.canLay0, PyData.canLayAll0]
theorem pairD_depth (p : E2) : (pairD p).depth = 1 := by simp [pairD, PyData.depth, PyData.depthAll]
theorem pairsD_lay : ∀ ps : List E2, PyData.canLayAll0 (ps.map pairD) = true
  | [] => by rw [List.map_nil]; simp [PyData.canLayAll0]
  | p :: ps => by simp [PyData.canLayAll0, pairD_lay p, pairsD_lay ps]
theorem pairsD_depth : ∀ ps : List E2, PyData.depthAll (ps.map pairD) ≤ 1
  | [] => by rw [List.map_nil]; simp [PyData.depthAll]
  | p :: ps => by
    have a := pairsD_depth ps
    have b := pairD_depth p
    rw [List.map_cons]
    simp only [PyData.depthAll]
    omega
theorem pairD_eqv (p q : E2) : PyData.eqv (pairD p) (pairD q) = decide (p = q) := by
  obtain ⟨a, b⟩ := p
  obtain ⟨c, d⟩ := q
  simp only [pairD, PyData.eqv, PyData.eqvAll, Bool.and_true]
  by_cases h1 : a = c
  · subst h1
    by_cases h2 : b = d
    · subst h2
      simp
    · have z : ((b : Int) == (d : Int)) = false := beq_eq_false_iff_ne.mpr fun e => h2 (by omega)
      simp [z, h2]
  · have z : ((a : Int) == (c : Int)) = false := beq_eq_false_iff_ne.mpr fun e => h1 (by omega)
    simp [z, h1]
theorem any_pairs (p : E2) : ∀ es : List E2, ((es.map pairD).any fun z => PyData.eqv z (pairD p)) = decide (p ∈ es)
  | [] => rfl
  | q :: es => by
    rw [List.map_cons, List.any_cons, any_pairs p es, pairD_eqv]
    by_cases h : q = p
    · subst h
      simp
    · have h' : p ≠ q := fun e => h e.symm
      simp [h, h']
section
variable {X : Cx}
def rInP (k : Bool → Bool) (K : PySem.W.Frag) : R2 := fun x y H Q => ∃ (p : E2) (t : Addr) (xs : List V) (es : List E2), PairAt K H x p ∧ y = .ref t ∧ SqT K H t xs ∧ PairsAt K H xs es ∧ Q (.bl (k (decide (p ∈ es)))) H
theorem op_inP (hu : X.A.units + 64 < cLine) : OpR X (compareOp .In) (rInP id X.K) := by
  rintro pins s σ H x y v u Q I rx ry ⟨p, t, xs, es, hp, rfl, ht, hes, q⟩
  obtain ⟨as, r1⟩ := Dp.reads I _ x v hp.dp rx
  obtain ⟨bs, r2⟩ := Dp.reads I (.tuple (es.map pairD)) (.ref t) u (.tup ht hes.dp) ry
  refine SeqAt.in_tuple_reads r2 r1 (pairsD_lay es) (pairD_lay p) ?_ ?_
  · have := pairD_depth p
    have := Nat.min_le_right (PyData.depthAll (es.map pairD)) (pairD p).depth
    omega
  · rw [any_pairs]
    exact ⟨.bl _, H, I, rfl, q⟩
theorem op_notInP (hu : X.A.units + 64 < cLine) : OpR X (compareOp .NotIn) (rInP not X.K) := by
  rintro pins s σ H x y v u Q I rx ry ⟨p, t, xs, es, hp, rfl, ht, hes, q⟩
  obtain ⟨as, r1⟩ := Dp.reads I _ x v hp.dp rx
  obtain ⟨bs, r2⟩ := Dp.reads I (.tuple (es.map pairD)) (.ref t) u (.tup ht hes.dp) ry
  refine SeqAt.notIn_tuple_reads r2 r1 (pairsD_lay es) (pairD_lay p) ?_ ?_
  · have := pairD_depth p
    have := Nat.min_le_right (PyData.depthAll (es.map pairD)) (pairD p).depth
    omega
  · rw [any_pairs]
    exact ⟨.bl _, H, I, rfl, q⟩
end
end My

set_option maxHeartbeats 2000000
/-! graph6 in plain Lean. -/
namespace My
open PySem PySem.Spec PyProof.Rows L2
/-- a walk from any heap on: S says a turn, by what follows it -/
theorem lo_it {J : It} {n : Nat} {G : Hp → Prop} {Y : Nat → Hp → V → Hp → Prop} (w : Walk J n G Y) {S : V → Hp → (Hp → Prop) → Prop} {Qd : Hp → Prop} {H0 : Hp} (Pv : Nat → Hp → Prop) (h0 : Pv 0 H0) (hG : ∀ i H, i ≤ n → Pv i H → G H)
    (hs : ∀ i x H H', i < n → Pv i H → Y i H x H' → S x H' (Pv (i + 1))) (hd : ∀ H, Pv n H → Qd H) :
    ∃ W : Nat → Nat → Hp → Prop, (∃ m, W 0 m H0) ∧ ∀ i m H, W i m H → (J.stop i H ∧ Qd H) ∨ (J.go i H ∧ ∃ Nx : Hp → Prop, (∀ H', Nx H' → ∃ m', m' < m ∧ W (i + 1) m' H') ∧ ∀ x H', J.yld i H x H' → S x H' Nx) := by
  refine ⟨fun i m H => i + m = n ∧ Pv i H, ⟨n, Nat.zero_add n, h0⟩, fun i m H hw => ?_⟩
  obtain ⟨e, pv⟩ := hw
  have g := hG i H (by omega) pv
  rcases Nat.eq_zero_or_pos m with z | z
  · have en : i = n := by omega
    subst en
    exact .inl ⟨w.stops H g, hd H pv⟩
  · refine .inr ⟨w.goes i H (by omega) g, Pv (i + 1), fun H' pv' => ⟨m - 1, by omega, by omega, pv'⟩, fun x H' y => ?_⟩
    exact hs i x H H' (by omega) pv (w.yields i H x H' (by omega) g y)
/-- the pairs by their greater number, then by the lesser -/
def pairsG (n : Nat) : List E2 := (List.range n).flatMap fun v => (List.range v).map fun u => (u, v)
def bit1 (es : List E2) (p : E2) : Nat := if p ∈ es then 1 else 0
def bitsOf (n : Nat) (es : List E2) : List Nat := (pairsG n).map (bit1 es)
def pad (b : List Nat) : List Nat := b ++ List.replicate ((b.length + 5) / 6 * 6 - b.length) 0
def numOf (b : List Nat) : Nat := b.foldl (fun a x => 2 * a + x) 0
def chunk (b : List Nat) (i : Nat) : List Nat := (b.drop (6 * i)).take 6
def groups (b : List Nat) : Nat := (b.length + 5) / 6
/-- the text of signs told by numbers -/
def tx (ks : List Nat) : Str := ⟨(ks.map (63 + ·)).toArray⟩
/-- the 64 signs -/
def SG : Str := tx (List.range 64)
def codeL (n : Nat) (es : List E2) : List Nat := n :: (List.range (groups (bitsOf n es))).map fun i => numOf (chunk (pad (bitsOf n es)) i)
theorem tx_len (ks : List Nat) : (tx ks).length = ks.length := by
  show ((ks.map (63 + ·)).toArray).size = _
  rw [List.size_toArray, List.length_map]
theorem tx_append (ks ls : List Nat) : tx ks ++ tx ls = tx (ks ++ ls) := by
  show Str.append _ _ = _
  unfold Str.append tx
  rw [List.map_append]
  simp
theorem join_tx : ∀ ks : List Nat, Str.join "" (ks.map fun k => tx [k]) = tx ks
  | [] => rfl
  | [k] => rfl
  | k :: l :: ks => by
    show tx [k] ++ (("" : String) : Str) ++ Str.join "" ((l :: ks).map fun k => tx [k]) = _
    rw [join_tx (l :: ks)]
    have e : tx [k] ++ (("" : String) : Str) = tx [k] := by
      show Str.append _ _ = _
      unfold Str.append
      have z : ((("" : String) : Str)).cps = #[] := by decide +kernel
      rw [z, Array.append_empty]
    rw [e, tx_append]
    rfl
theorem pairsG_succ (n : Nat) : pairsG (n + 1) = pairsG n ++ (List.range n).map fun u => (u, n) := by
  unfold pairsG
  rw [List.range_succ, List.flatMap_append, List.flatMap_cons, List.flatMap_nil, List.append_nil]
theorem pairsG_few : ∀ n, n ≤ 9 → (pairsG n).length ≤ 36 := by decide +kernel
theorem mem_pairsG {n : Nat} {p : E2} : p ∈ pairsG n ↔ p.1 < p.2 ∧ p.2 < n := by
  unfold pairsG
  rw [List.mem_flatMap]
  constructor
  · rintro ⟨v, hv, h⟩
    obtain ⟨u, hu, rfl⟩ := List.mem_map.mp h
    exact ⟨List.mem_range.mp hu, List.mem_range.mp hv⟩
  · rintro ⟨h1, h2⟩
    exact ⟨p.2, List.mem_range.mpr h2, List.mem_map.mpr ⟨p.1, List.mem_range.mpr h1, rfl⟩⟩
theorem bits_len (n : Nat) (es : List E2) : (bitsOf n es).length = (pairsG n).length := List.length_map _
theorem bits_few {n : Nat} (h : n ≤ 9) (es : List E2) : (bitsOf n es).length ≤ 36 := by rw [bits_len]; exact pairsG_few n h
theorem bits_le (n : Nat) (es : List E2) : ∀ b ∈ bitsOf n es, b ≤ 1 := by
  intro b hb
  obtain ⟨p, _, rfl⟩ := List.mem_map.mp hb
  unfold bit1
  split <;> omega
theorem pad_len (b : List Nat) : (pad b).length = 6 * groups b := by
  unfold pad groups
  rw [List.length_append, List.length_replicate]
  omega
theorem pad_le {b : List Nat} (h : ∀ x ∈ b, x ≤ 1) : ∀ x ∈ pad b, x ≤ 1 := by
  intro x hx
  rcases List.mem_append.mp hx with hx | hx
  · exact h x hx
  · rw [(List.mem_replicate.mp hx).2]
    exact Nat.zero_le _
theorem foldl_lt : ∀ (b : List Nat) (a k : Nat), (∀ x ∈ b, x ≤ 1) → a < 2 ^ k → b.foldl (fun a x => 2 * a + x) a < 2 ^ (k + b.length)
  | [], a, k, _, h => h
  | x :: b, a, k, hb, h => by
    have hx := hb x (List.mem_cons_self ..)
    have z := foldl_lt b (2 * a + x) (k + 1) (fun y hy => hb y (List.mem_cons_of_mem _ hy)) (by rw [Nat.pow_succ]; omega)
    rw [List.foldl_cons, List.length_cons, show k + (b.length + 1) = k + 1 + b.length by omega]
    exact z
theorem numOf_lt {b : List Nat} (h : ∀ x ∈ b, x ≤ 1) : numOf b < 2 ^ b.length := by
  have z := foldl_lt b 0 0 h (by decide)
  rw [Nat.zero_add] at z
  exact z
theorem numOf_snoc (b : List Nat) (x : Nat) : numOf (b ++ [x]) = 2 * numOf b + x := by
  unfold numOf
  rw [List.foldl_append]
  rfl
theorem chunk_sub (b : List Nat) (i : Nat) : ∀ x ∈ chunk b i, x ∈ b := fun x hx => List.mem_of_mem_drop (List.mem_of_mem_take hx)
theorem chunk_len {b : List Nat} {i : Nat} (h : 6 * i + 6 ≤ b.length) : (chunk b i).length = 6 := by
  unfold chunk
  rw [List.length_take, List.length_drop]
  omega
theorem chunk_lt {b : List Nat} {i : Nat} (hb : ∀ x ∈ b, x ≤ 1) : numOf (chunk b i) < 64 := by
  have z := numOf_lt (b := chunk b i) fun x hx => hb x (chunk_sub b i x hx)
  have l : (chunk b i).length ≤ 6 := by
    unfold chunk
    rw [List.length_take]
    omega
  exact Nat.lt_of_lt_of_le z (Nat.pow_le_pow_right (by decide) l)
theorem SG_at : ∀ k : Nat, k < 64 → atI SG.cps.toList (k : Int) = some (63 + k) := by
  intro k hk
  refine atI_nat ?_
  show ((List.range 64).map (63 + ·))[k]? = _
  rw [List.getElem?_map, List.getElem?_range hk]
  rfl
theorem six : ∀ k : Nat, k ≤ 42 → RgC 0 (k : Int) 6 ((k + 5) / 6) := by
  have h : ∀ k : Nat, k ≤ 42 → Builtin.Range.small 0 (k : Int) 6 = true ∧ Builtin.Range.rangeSize 0 (k : Int) 6 = (((k + 5) / 6 : Nat) : Int) := by decide +kernel
  exact fun k hk => ⟨by decide, by decide, (h k hk).1, (h k hk).2⟩
end My

set_option maxHeartbeats 2000000
/-! Reading graph6, in plain Lean: by the signs' codes. -/
namespace My
open PySem PySem.Spec PyProof.Rows L2
/-- the sign c can stand at place a behind the first one, with L pairs to tell -/
def goodS (L a c : Nat) : Bool := decide (63 ≤ c ∧ c < 127) && decide (6 * a < L) && decide ((c - 63) % 2 ^ (6 - (L - 6 * a)) = 0)
/-- where it is wrong, by how many signs are right -/
def scan (L : Nat) : Nat → List Nat → Option Nat
  | a, [] => if 6 * a < L then some (a + 1) else none
  | a, c :: cs => if goodS L a c = true then scan L (a + 1) cs else some (a + 1)
def bits6 (c : Nat) : List Nat := [5, 4, 3, 2, 1, 0].map fun p => (c - 63) / 2 ^ p % 2
def bitsC (cs : List Nat) : List Nat := cs.flatMap bits6
def tellP (ps : List E2) (bs : List Nat) : List E2 := ((ps.zip bs).filter fun q => q.2 != 0).map (·.1)
inductive RdG where
  | bad (k : Nat)
  | told (n : Nat) (ps : List E2)
def readG : List Nat → RdG
  | [] => .bad 0
  | c :: cs => if 63 ≤ c ∧ c ≤ 72 then match scan (pairsG (c - 63)).length 0 cs with
    | some k => .bad k
    | none => .told (c - 63) (tellP (pairsG (c - 63)) (bitsC cs))
    else .bad 0
theorem bitsC_len (cs : List Nat) : (bitsC cs).length = 6 * cs.length := by
  unfold bitsC
  induction cs with
  | nil => rfl
  | cons c cs ih => rw [List.flatMap_cons, List.length_append, ih, List.length_cons]; show 6 + _ = _; omega
theorem eq_of_up : ∀ {es fs : List E2}, es.Pairwise ahead → fs.Pairwise ahead → (∀ q, q ∈ es ↔ q ∈ fs) → es = fs
  | [], [], _, _, _ => rfl
  | [], f :: fs, _, _, h => absurd ((h f).mpr (List.mem_cons_self ..)) (fun z => nomatch z)
  | e :: es, [], _, _, h => absurd ((h e).mp (List.mem_cons_self ..)) (fun z => nomatch z)
  | e :: es, f :: fs, he, hf, h => by
    obtain ⟨e1, e2⟩ := List.pairwise_cons.mp he
    obtain ⟨f1, f2⟩ := List.pairwise_cons.mp hf
    have ef : e = f := by
      rcases List.mem_cons.mp ((h e).mp (List.mem_cons_self ..)) with z | z
      · exact z
      · rcases List.mem_cons.mp ((h f).mpr (List.mem_cons_self ..)) with y | y
        · exact y.symm
        · have a1 := f1 e z
          have a2 := e1 f y
          unfold ahead at a1 a2
          omega
    subst ef
    refine congrArg (e :: ·) (eq_of_up e2 f2 fun q => ⟨fun z => ?_, fun z => ?_⟩)
    · rcases List.mem_cons.mp ((h q).mp (List.mem_cons_of_mem _ z)) with y | y
      · exact absurd (e1 q z) (fun w => ahead_ne w y.symm)
      · exact y
    · rcases List.mem_cons.mp ((h q).mpr (List.mem_cons_of_mem _ z)) with y | y
      · exact absurd (f1 q z) (fun w => ahead_ne w y.symm)
      · exact y
theorem tellP_snoc {ps : List E2} {bs : List Nat} {p : E2} {b : Nat} (h : ps.length = bs.length) : tellP (ps ++ [p]) (bs ++ [b]) = tellP ps bs ++ (if b != 0 then [p] else []) := by
  unfold tellP
  rw [List.zip_append h, List.filter_append, List.map_append]
  congr 1
  show (([(p, b)] : List (E2 × Nat)).filter _).map _ = _
  cases e : (b != 0)
  · rw [List.filter_cons_of_neg (by simpa using e)]
    rfl
  · rw [List.filter_cons_of_pos (by simpa using e)]
    rfl
theorem tellP_sub (ps : List E2) (bs : List Nat) : ∀ q ∈ tellP ps bs, q ∈ ps := by
  intro q hq
  obtain ⟨r, hr, rfl⟩ := List.mem_map.mp hq
  exact (List.of_mem_zip (List.mem_filter.mp hr).1).1
/-! ### there and back -/
theorem bits6_of : ∀ a b c d e f : Nat, a ≤ 1 → b ≤ 1 → c ≤ 1 → d ≤ 1 → e ≤ 1 → f ≤ 1 → bits6 (63 + numOf [a, b, c, d, e, f]) = [a, b, c, d, e, f] := by
  have h : ∀ a b c d e f : Fin 2, bits6 (63 + numOf [a.val, b.val, c.val, d.val, e.val, f.val]) = [a.val, b.val, c.val, d.val, e.val, f.val] := by decide +kernel
  exact fun a b c d e f h1 h2 h3 h4 h5 h6 => h ⟨a, by omega⟩ ⟨b, by omega⟩ ⟨c, by omega⟩ ⟨d, by omega⟩ ⟨e, by omega⟩ ⟨f, by omega⟩
theorem bits6_chunk {b : List Nat} (l : b.length = 6) (h : ∀ x ∈ b, x ≤ 1) : bits6 (63 + numOf b) = b := by
  match b, l, h with
  | [a, b, c, d, e, f], _, h => exact bits6_of a b c d e f (h a (by simp)) (h b (by simp)) (h c (by simp)) (h d (by simp)) (h e (by simp)) (h f (by simp))
theorem chunks_all {b : List Nat} : ∀ m, b.length = 6 * m → (List.range m).flatMap (chunk b) = b
  | 0, h => by
    rw [List.range_zero, List.flatMap_nil]
    exact (List.eq_nil_of_length_eq_zero (by omega)).symm
  | m + 1, h => by
    have ih := chunks_all (b := b.drop 6) m (by rw [List.length_drop]; omega)
    rw [List.range_succ_eq_map, List.flatMap_cons, List.flatMap_map]
    have e : (List.range m).flatMap (fun i => chunk b (Nat.succ i)) = (List.range m).flatMap (chunk (b.drop 6)) := by
      congr 1
      funext i
      unfold chunk
      rw [List.drop_drop]
      congr 2
      omega
    rw [e, ih]
    unfold chunk
    rw [Nat.mul_zero, List.drop_zero, List.take_append_drop]
theorem bitsC_code {b : List Nat} {m : Nat} (l : b.length = 6 * m) (h : ∀ x ∈ b, x ≤ 1) : bitsC ((List.range m).map fun i => 63 + numOf (chunk b i)) = b := by
  unfold bitsC
  rw [List.flatMap_map]
  have e : ∀ i ∈ List.range m, bits6 (63 + numOf (chunk b i)) = chunk b i := fun i hi => by
    have im := List.mem_range.mp hi
    exact bits6_chunk (chunk_len (by omega)) fun x hx => h x (chunk_sub b i x hx)
  have e2 : (List.range m).flatMap (fun i => bits6 (63 + numOf (chunk b i))) = (List.range m).flatMap (chunk b) := by
    rw [List.flatMap_def, List.flatMap_def, List.map_congr_left e]
  rw [e2, chunks_all m l]
theorem numOf_zeros (b : List Nat) : ∀ k, numOf (b ++ List.replicate k 0) = numOf b * 2 ^ k
  | 0 => by rw [List.replicate_zero, List.append_nil, Nat.pow_zero, Nat.mul_one]
  | k + 1 => by
    rw [List.replicate_succ', ← List.append_assoc, numOf_snoc, numOf_zeros b k, Nat.pow_succ, Nat.add_zero, Nat.mul_comm 2, Nat.mul_assoc]
theorem goodS_code {bs : List Nat} {i : Nat} (h : ∀ x ∈ bs, x ≤ 1) (hi : i < groups bs) : goodS bs.length i (63 + numOf (chunk (pad bs) i)) = true := by
  have lt := chunk_lt (i := i) (pad_le h)
  unfold groups at hi
  unfold goodS
  rw [Bool.and_eq_true, Bool.and_eq_true]
  refine ⟨⟨decide_eq_true (by omega), decide_eq_true (by omega)⟩, decide_eq_true ?_⟩
  rw [Nat.add_sub_cancel_left]
  by_cases f : 6 * i + 6 ≤ bs.length
  · rw [show 6 - (bs.length - 6 * i) = 0 by omega, Nat.pow_zero, Nat.mod_one]
  · have e : chunk (pad bs) i = bs.drop (6 * i) ++ List.replicate (6 - (bs.length - 6 * i)) 0 := by
      unfold chunk pad
      rw [List.drop_append_of_le_length (by omega)]
      rw [List.take_of_length_le (by rw [List.length_append, List.length_drop, List.length_replicate]; omega)]
      congr 2
      omega
    rw [e, numOf_zeros, Nat.mul_mod_left]
theorem scan_code {L m : Nat} (f : Nat → Nat) (hm : m = (L + 5) / 6) (h : ∀ i, i < m → goodS L i (f i) = true) : ∀ k, k ≤ m → scan L k (((List.range m).drop k).map f) = none := by
  intro k hk
  induction e : m - k generalizing k with
  | zero =>
    have : k = m := by omega
    subst this
    rw [List.drop_eq_nil_of_le (by rw [List.length_range]; exact Nat.le_refl _)]
    show (if 6 * k < L then some (k + 1) else none) = none
    rw [if_neg (by omega)]
  | succ d ih =>
    have lk : k < (List.range m).length := by rw [List.length_range]; omega
    rw [List.drop_eq_getElem_cons lk, List.getElem_range, List.map_cons]
    show (if goodS L k (f k) = true then scan L (k + 1) _ else some (k + 1)) = none
    rw [if_pos (h k (by omega))]
    exact ih (k + 1) (by omega) (by omega)
theorem tellP_bits (es : List E2) : ∀ (ps : List E2) (k : Nat), tellP ps (ps.map (bit1 es) ++ List.replicate k 0) = ps.filter fun p => decide (p ∈ es)
  | [], k => by
    unfold tellP
    rw [List.zip_nil_left]
    rfl
  | p :: ps, k => by
    have ih := tellP_bits es ps k
    unfold tellP at ih ⊢
    rw [List.map_cons, List.cons_append, List.zip_cons_cons]
    unfold bit1 at *
    by_cases h : p ∈ es
    · rw [List.filter_cons_of_pos (by simp [h]), List.map_cons, List.filter_cons_of_pos (by simpa using h), ih]
    · rw [List.filter_cons_of_neg (by simp [h]), List.filter_cons_of_neg (by simpa using h), ih]
/-- the text of a graph, read -/
theorem read_code {n : Nat} {es : List E2} (g : Good n es) : readG ((codeL n es).map (63 + ·)) = .told n ((pairsG n).filter fun p => decide (p ∈ es)) := by
  unfold codeL
  rw [List.map_cons, List.map_map]
  have n9 := g.n9
  have hb := bits_le n es
  show (if 63 ≤ 63 + n ∧ 63 + n ≤ 72 then _ else _) = _
  rw [if_pos (by omega), Nat.add_sub_cancel_left]
  have e1 : ((fun x => 63 + x) ∘ fun i => numOf (chunk (pad (bitsOf n es)) i)) = fun i => 63 + numOf (chunk (pad (bitsOf n es)) i) := rfl
  rw [e1]
  have s := scan_code (L := (pairsG n).length) (m := groups (bitsOf n es)) (fun i => 63 + numOf (chunk (pad (bitsOf n es)) i)) (by unfold groups; rw [bits_len]) (fun i hi => by rw [← bits_len n es]; exact goodS_code hb hi) 0 (Nat.zero_le _)
  rw [List.drop_zero] at s
  rw [s, bitsC_code (pad_len _) (pad_le hb)]
  show RdG.told n (tellP (pairsG n) (pad (bitsOf n es))) = _
  unfold pad
  rw [show bitsOf n es = (pairsG n).map (bit1 es) from rfl, tellP_bits]
end My

set_option maxHeartbeats 2000000
/-! Pairs that stand in the heap by themselves; sorted lists of them. -/
namespace My
open PySem PySem.Spec PyProof.Rows L2
def PairT (H : Hp) (x : V) (p : E2) : Prop := ∃ t, x = .ref t ∧ H t = some (.tup [.int (p.1 : Int), .int (p.2 : Int)])
abbrev PairsT (H : Hp) : List V → List E2 → Prop := Paired (PairT H)
theorem PairT.at {K : PySem.W.Frag} {H : Hp} {x : V} {p : E2} (h : PairT H x p) : PairAt K H x p := by
  obtain ⟨t, e, h⟩ := h
  exact ⟨t, e, SqT.of h⟩
theorem PairsT.at {K : PySem.W.Frag} {H : Hp} : ∀ {xs : List V} {ps : List E2}, PairsT H xs ps → PairsAt K H xs ps
  | _, _, .nil => .nil
  | _, _, .cons a b => .cons a.at (PairsT.at b)
theorem PairsT.same {H H' : Hp} (s : Same H H') : ∀ {xs : List V} {ps : List E2}, PairsT H xs ps → PairsT H' xs ps
  | _, _, .nil => .nil
  | _, _, .cons ⟨t, e, h⟩ b => .cons ⟨t, e, s _ _ h⟩ (PairsT.same s b)
theorem PairsT.put {H : Hp} {D : Addr} {o : HO} {zs : List V} (hD : H D = some (.lst zs)) : ∀ {xs : List V} {ps : List E2}, PairsT H xs ps → PairsT (upd H D o) xs ps
  | _, _, .nil => .nil
  | _, _, .cons ⟨t, e, h⟩ b => .cons ⟨t, e, by rw [upd_ne (fun z => by rw [z, hD] at h; cases h)]; exact h⟩ (PairsT.put hD b)
theorem PairsT.append {H : Hp} : ∀ {xs ys : List V} {ps qs : List E2}, PairsT H xs ps → PairsT H ys qs → PairsT H (xs ++ ys) (ps ++ qs)
  | _, _, _, _, .nil, h => h
  | _, _, _, _, .cons a b, h => .cons a (PairsT.append b h)
theorem PairsT.len {H : Hp} : ∀ {xs : List V} {ps : List E2}, PairsT H xs ps → xs.length = ps.length
  | _, _, .nil => rfl
  | _, _, .cons _ b => congrArg (· + 1) (PairsT.len b)
theorem push_pairT {H : Hp} {D r : Addr} {zs : List V} {ps : List E2} (p : E2) (hD : H D = some (.lst zs)) (nr : H r = none) (h : PairsT H zs ps) :
    PairsT (upd (upd H r (.tup [.int (p.1 : Int), .int (p.2 : Int)])) D (.lst (zs ++ [.ref r]))) (zs ++ [.ref r]) (ps ++ [p]) := by
  have s1 : Same H (upd H r (.tup [.int (p.1 : Int), .int (p.2 : Int)])) := fun b u q => by rw [upd_ne (ne_of_none q nr)]; exact q
  have h2 : PairsT (upd H r (.tup [.int (p.1 : Int), .int (p.2 : Int)])) (zs ++ [.ref r]) (ps ++ [p]) := (h.same s1).append (.cons ⟨r, rfl, upd_same⟩ .nil)
  exact h2.put (s1 _ _ hD)
/-- the numbers of a pair at a value -/
def kOf (H : Hp) (x : V) : Int × Int := match x with
  | .ref t => match H t with
    | some (.tup [.int i, .int j]) => (i, j)
    | _ => (0, 0)
  | _ => (0, 0)
def gOf (H : Hp) (x : V) : E2 := ((kOf H x).1.toNat, (kOf H x).2.toNat)
theorem kOf_at {H : Hp} {x : V} {p : E2} (h : PairT H x p) : kOf H x = ((p.1 : Int), (p.2 : Int)) := by
  obtain ⟨t, rfl, h⟩ := h
  show (match H t with
    | some (.tup [.int i, .int j]) => (i, j)
    | _ => ((0 : Int), (0 : Int))) = _
  rw [h]
theorem gOf_at {H : Hp} {x : V} {p : E2} (h : PairT H x p) : gOf H x = p := by
  unfold gOf
  rw [kOf_at h]
  rfl
theorem map_gOf {H : Hp} : ∀ {xs : List V} {ps : List E2}, PairsT H xs ps → xs.map (gOf H) = ps
  | _, _, .nil => rfl
  | _, _, .cons a b => by rw [List.map_cons, gOf_at a, map_gOf b]
theorem PairsT.mem {H : Hp} : ∀ {xs : List V} {ps : List E2}, PairsT H xs ps → ∀ x ∈ xs, PairT H x (gOf H x)
  | _, _, .nil => fun _ z => nomatch z
  | _, _, .cons a b => fun x hx => by
    rcases List.mem_cons.mp hx with rfl | hx
    · rw [gOf_at a]; exact a
    · exact PairsT.mem b x hx
theorem PairsT.of_mem {H : Hp} : ∀ {ys : List V}, (∀ y ∈ ys, PairT H y (gOf H y)) → PairsT H ys (ys.map (gOf H))
  | [], _ => .nil
  | y :: ys, h => .cons (h y (List.mem_cons_self ..)) (PairsT.of_mem fun z hz => h z (List.mem_cons_of_mem _ hz))
/-- sorted pairs, none twice, ascend -/
theorem sorted_pairs {H : Hp} {xs ys : List V} {ps : List E2} (h : PairsT H xs ps) (nd : ps.Nodup) (so : SrtO.Srtd (ltP (kOf H)) ys) (st : SrtO.Stb (ltP (kOf H)) ys xs) :
    PairsT H ys (ys.map (gOf H)) ∧ (ys.map (gOf H)).Pairwise ahead ∧ ∀ q, q ∈ ys.map (gOf H) ↔ q ∈ ps := by
  have pm : (ys.map (gOf H)).Perm ps := by
    have z := st.perm.map (gOf H)
    rw [map_gOf h] at z
    exact z
  have hy : ∀ y ∈ ys, PairT H y (gOf H y) := fun y hy => h.mem y (st.perm.mem_iff.mp hy)
  refine ⟨PairsT.of_mem hy, ?_, fun q => pm.mem_iff⟩
  have nd2 : (ys.map (gOf H)).Nodup := pm.nodup_iff.mpr nd
  rw [List.pairwise_map]
  refine (so.and (List.pairwise_map.mp nd2)).imp_of_mem ?_
  intro a b ha hb ⟨le, ne⟩
  have ka := kOf_at (hy a ha)
  have kb := kOf_at (hy b hb)
  have le2 : SrtO.lexB (kOf H b) (kOf H a) = false := le
  rw [ka, kb] at le2
  have le3 := mt (SrtO.lexB_iff (p := (((gOf H b).1 : Int), ((gOf H b).2 : Int))) (q := (((gOf H a).1 : Int), ((gOf H a).2 : Int)))).mpr (by rw [le2]; decide)
  dsimp only at le3
  have ne2 : ¬ ((gOf H a).1 = (gOf H b).1 ∧ (gOf H a).2 = (gOf H b).2) := fun ⟨x, y⟩ => ne (Prod.ext x y)
  unfold ahead
  omega
theorem find_sg : ∀ c : Nat, c < 128 → Txt.find SG ⟨#[c]⟩ = if 63 ≤ c ∧ c < 127 then (c : Int) - 63 else -1 := by decide +kernel
theorem and_one : ∀ x : Nat, x < 64 → Builtin.bitAnd (x : Int) 1 = ((x % 2 : Nat) : Int) := by decide +kernel
/-- the number that a sign tells -/
def nm (c : Nat) : Int := if 63 ≤ c ∧ c < 127 then (c : Int) - 63 else -1
def numsZ (cs : List Nat) : List V := cs.map fun c => V.int (nm c)
theorem scan_good {L : Nat} : ∀ (cs : List Nat) (a : Nat), scan L a cs = none → ∀ i c, cs[i]? = some c → goodS L (a + i) c = true
  | [], _, _, i, c, h => by simp at h
  | d :: cs, a, h, i, c, hi => by
    have h' : (if goodS L a d = true then scan L (a + 1) cs else some (a + 1)) = none := h
    by_cases g : goodS L a d = true
    · rw [if_pos g] at h'
      cases i with
      | zero =>
        have e : d = c := by simpa using hi
        rw [← e]
        exact g
      | succ i =>
        have z := scan_good cs (a + 1) h' i c (by simpa using hi)
        rw [show a + (i + 1) = a + 1 + i by omega]
        exact z
    · rw [if_neg g] at h'
      cases h'
theorem scan_enough {L : Nat} : ∀ (cs : List Nat) (a : Nat), scan L a cs = none → L ≤ 6 * (a + cs.length)
  | [], a, h => by
    have h' : (if 6 * a < L then some (a + 1) else none) = none := h
    by_cases l : 6 * a < L
    · rw [if_pos l] at h'
      cases h'
    · rw [List.length_nil]
      omega
  | d :: cs, a, h => by
    have h' : (if goodS L a d = true then scan L (a + 1) cs else some (a + 1)) = none := h
    by_cases g : goodS L a d = true
    · rw [if_pos g] at h'
      have := scan_enough cs (a + 1) h'
      rw [List.length_cons]
      omega
    · rw [if_neg g] at h'
      cases h'
theorem bits6_at (c : Nat) : ∀ j, j < 6 → (bits6 c)[j]? = some ((c - 63) / 2 ^ (5 - j) % 2) := by
  intro j hj
  unfold bits6
  match j, hj with
  | 0, _ => rfl
  | 1, _ => rfl
  | 2, _ => rfl
  | 3, _ => rfl
  | 4, _ => rfl
  | 5, _ => rfl
theorem places_at {x : V} {j : Nat} (h : ([.int 5, .int 4, .int 3, .int 2, .int 1, .int 0] : List V)[j]? = some x) : j < 6 ∧ x = .int ((5 - j : Nat) : Int) := by
  match j, h with
  | 0, h => exact ⟨by decide, (Option.some.inj h).symm⟩
  | 1, h => exact ⟨by decide, (Option.some.inj h).symm⟩
  | 2, h => exact ⟨by decide, (Option.some.inj h).symm⟩
  | 3, h => exact ⟨by decide, (Option.some.inj h).symm⟩
  | 4, h => exact ⟨by decide, (Option.some.inj h).symm⟩
  | 5, h => exact ⟨by decide, (Option.some.inj h).symm⟩
  | j + 6, h => exact absurd h (by simp)
theorem bitsC_succ {cs : List Nat} {i c : Nat} (h : cs[i]? = some c) : bitsC (cs.take (i + 1)) = bitsC (cs.take i) ++ bits6 c := by
  unfold bitsC
  rw [List.take_succ, h, List.flatMap_append]
  show _ ++ ([c].flatMap bits6) = _
  rw [List.flatMap_cons, List.flatMap_nil, List.append_nil]
theorem pairsG_nodup : ∀ n, n ≤ 9 → (pairsG n).Nodup := by decide +kernel
theorem tellP_sublist : ∀ (ps : List E2) (bs : List Nat), (tellP ps bs).Sublist ps
  | [], bs => by unfold tellP; rw [List.zip_nil_left]; exact List.Sublist.refl _
  | p :: ps, [] => by unfold tellP; rw [List.zip_nil_right]; exact List.nil_sublist _
  | p :: ps, b :: bs => by
    have ih := tellP_sublist ps bs
    unfold tellP at ih ⊢
    rw [List.zip_cons_cons, List.filter_cons]
    split
    · rw [List.map_cons]
      exact ih.cons_cons p
    · exact ih.cons p
theorem tellP_nodup {ps : List E2} {bs : List Nat} (h : ps.Nodup) : (tellP ps bs).Nodup := h.sublist (tellP_sublist ps bs)
end My

set_option maxHeartbeats 4000000
/-! What is told is fit to be shown. -/
namespace My
open PySem PySem.Spec PyProof.Rows L2
theorem app_len (a b : Str) : (a ++ b).length = a.length + b.length := by
  show (a.cps ++ b.cps).size = _
  rw [Array.size_append]
  rfl
theorem tup_len (ts : List Str) : (tupleText ts).length ≤ (ts.map (·.length)).sum + 2 * ts.length + 3 := by
  have h := StrLaws.join_length_le ", " ts
  have c : ((", " : String) : Str).length = 2 := by decide +kernel
  have o : (("(" : String) : Str).length = 1 := by decide +kernel
  have e1 : ((",)" : String) : Str).length = 2 := by decide +kernel
  have e2 : ((")" : String) : Str).length = 1 := by decide +kernel
  unfold tupleText
  rw [app_len, app_len, o]
  rw [c] at h
  split
  · rw [e1]; omega
  · rw [e2]; omega
theorem from_len : ∀ (ts : List Str) (k : Nat) (acc : Str), (textFrom k acc ts).length ≤ acc.length + (ts.map (·.length)).sum + 2 * ts.length
  | [], k, acc => by show acc.length ≤ acc.length + 0 + 0; omega
  | t :: ts, k, acc => by
    have h := from_len ts (k + 1) (acc ++ (((if k > 0 then ", " else "" : String)) : Str) ++ t)
    have c : ((", " : String) : Str).length = 2 := by decide +kernel
    have c0 : (("" : String) : Str).length = 0 := by decide +kernel
    have e : (acc ++ (((if k > 0 then ", " else "" : String)) : Str) ++ t : Str).length ≤ acc.length + 2 + t.length := by
      rw [app_len, app_len]
      split
      · rw [c]; omega
      · rw [c0]; omega
    show (textFrom (k + 1) (acc ++ (((if k > 0 then ", " else "" : String)) : Str) ++ t) ts).length ≤ _
    rw [List.map_cons, List.sum_cons, List.length_cons]
    omega
theorem lst_len (ts : List Str) : (listText ts).length ≤ (ts.map (·.length)).sum + 2 * ts.length + 2 := by
  have h := from_len ts 0 "["
  have o : (("[" : String) : Str).length = 1 := by decide +kernel
  have e2 : (("]" : String) : Str).length = 1 := by decide +kernel
  unfold listText
  rw [app_len, e2]
  rw [o] at h
  omega
theorem pair_fine : ∀ a, a ≤ 9 → ∀ b, b ≤ 9 → (pairD (a, b)).shown.length ≤ 6 ∧ (pairD (a, b)).showable = true := by decide +kernel
theorem pairs_fine : ∀ {es : List E2}, (∀ p ∈ es, p.1 ≤ 9 ∧ p.2 ≤ 9) → ((PyData.shownAll (es.map pairD)).map (·.length)).sum ≤ 6 * es.length ∧ (PyData.shownAll (es.map pairD)).length = es.length ∧ PyData.showableAll (es.map pairD) = true
  | [], _ => ⟨Nat.le_refl _, rfl, by rw [List.map_nil]; simp [PyData.showableAll]⟩
  | p :: es, h => by
    obtain ⟨h1, h2, h3⟩ := pairs_fine (es := es) fun q hq => h q (List.mem_cons_of_mem _ hq)
    obtain ⟨a, b⟩ := h p (List.mem_cons_self ..)
    obtain ⟨f1, f2⟩ := pair_fine p.1 a p.2 b
    rw [List.map_cons]
    simp only [PyData.shownAll, PyData.showableAll, List.map_cons, List.sum_cons, List.length_cons]
    refine ⟨?_, by omega, ?_⟩
    · have f1' : (pairD p).shown.length ≤ 6 := f1
      omega
    · have f2' : (pairD p).showable = true := f2
      rw [f2', h3]
      rfl
theorem num_fine : ∀ n : Nat, n ≤ 9 → (PyData.int (n : Int)).shown.length ≤ 1 ∧ (PyData.int (n : Int)).showable = true := by decide +kernel
theorem graph_fine {n : Nat} {es : List E2} (g : Good n es) : (graphD n es).shown.length ≤ 400 ∧ (graphD n es).showable = true ∧ (graphD n es).depth ≤ 3 := by
  have n9 := g.n9
  obtain ⟨h1, h2, h3⟩ := pairs_fine (es := es) fun p hp => by have := g.lt p hp; omega
  obtain ⟨f1, f2⟩ := num_fine n n9
  have few := g.few
  have t1 := tup_len (PyData.shownAll (es.map pairD))
  have t2 := tup_len [(PyData.int (n : Int)).shown, tupleText (PyData.shownAll (es.map pairD))]
  have pd := pairsD_depth es
  unfold graphD
  refine ⟨?_, ?_, ?_⟩
  · have e : (PyData.tuple [.int (n : Int), .tuple (es.map pairD)]).shown = tupleText [(PyData.int (n : Int)).shown, tupleText (PyData.shownAll (es.map pairD))] := by simp [PyData.shown, PyData.shownAll]
    rw [e]
    simp only [List.map_cons, List.map_nil, List.sum_cons, List.sum_nil, List.length_cons, List.length_nil] at t2
    omega
  · simp [PyData.showable, PyData.showableAll, h3]
    simpa [PyData.showable] using f2
  · simp only [PyData.depth, PyData.depthAll]
    omega
def FineD (d : PyData) : Prop := d.showable = true ∧ d.depth ≤ 60 ∧ d.shown.length ≤ sizeLine
instance (d : PyData) : Decidable (FineD d) := inferInstanceAs (Decidable (_ ∧ _ ∧ _))
theorem bad_fine : ∀ k : Nat, k ≤ 950 → FineD (.list [.str "wrong", .int (k : Int)]) := by decide +kernel
theorem told_fine {n : Nat} {es : List E2} (g : Good n es) : FineD (.list [.str "told", graphD n es]) := by
  obtain ⟨h1, h2, h3⟩ := graph_fine g
  have c : (reprText "told").length = 6 := by decide +kernel
  have t := lst_len [reprText "told", (graphD n es).shown]
  refine ⟨?_, ?_, ?_⟩
  · simp [PyData.showable, PyData.showableAll, h2]
  · simp only [PyData.depth, PyData.depthAll]
    omega
  · have e : (PyData.list [.str "told", graphD n es]).shown = listText [reprText "told", (graphD n es).shown] := by simp [PyData.shown, PyData.shownAll]
    rw [e]
    simp only [List.map_cons, List.map_nil, List.sum_cons, List.sum_nil, List.length_cons, List.length_nil] at t
    exact Nat.le_trans t (Nat.le_of_lt (small1000 (by omega)))
theorem three_fine {n : Nat} {es : List E2} (g : Good n es) {z : Str} (hz : ∀ c ∈ z.cps.toList, c < 128) (zl : z.length ≤ 30) : FineD (.list [.str z, .str z, .list [.str "told", graphD n es]]) := by
  obtain ⟨h1, h2, h3⟩ := told_fine g
  obtain ⟨k1, k2, k3⟩ := graph_fine g
  have r := StrLaws.reprText_len z fun c hc => Nat.lt_trans (hz c hc) (by decide)
  have c : (reprText "told").length = 6 := by decide +kernel
  have t0 := lst_len [reprText "told", (graphD n es).shown]
  have t := lst_len [reprText z, reprText z, listText [reprText "told", (graphD n es).shown]]
  refine ⟨?_, ?_, ?_⟩
  · simp [PyData.showable, PyData.showableAll, k2]
  · simp only [PyData.depth, PyData.depthAll]
    omega
  · have e : (PyData.list [.str z, .str z, .list [.str "told", graphD n es]]).shown = listText [reprText z, reprText z, listText [reprText "told", (graphD n es).shown]] := by simp [PyData.shown, PyData.shownAll]
    rw [e]
    simp only [List.map_cons, List.map_nil, List.sum_cons, List.sum_nil, List.length_cons, List.length_nil] at t t0
    exact Nat.le_of_lt (Nat.lt_of_le_of_lt t (by
      refine Nat.lt_of_lt_of_le (show _ < 5000 by omega) ?_
      rw [sizeLine_eq]
      decide))
end My

set_option maxHeartbeats 2000000
/-! Values of any kind, by their shape; what is a graph, a lot. -/
namespace My
open PySem PySem.Spec PyProof.Rows L2
inductive Sh where
  | int (i : Int)
  | bool (b : Bool)
  | str (x : Str)
  | tup (ss : List Sh)
  | oth
mutual
inductive ShAt (K : PySem.W.Frag) (H : Hp) : V → Sh → Prop
  | int (i : Int) : ShAt K H (.int i) (.int i)
  | bool (b : Bool) : ShAt K H (.bl b) (.bool b)
  | tup {t : Addr} {xs : List V} {ss : List Sh} (h : SqT K H t xs) (r : ShsAt K H xs ss) : ShAt K H (.ref t) (.tup ss)
  | non : ShAt K H .non .oth
  | str (x : Str) : ShAt K H (.str x) (.str x)
  | lst {a : Addr} {xs : List V} (h : SqL K H a xs) : ShAt K H (.ref a) .oth
  | dct {a : Addr} {kvs : List (Key × V)} (h : H a = some (.dK kvs)) : ShAt K H (.ref a) .oth
inductive ShsAt (K : PySem.W.Frag) (H : Hp) : List V → List Sh → Prop
  | nil : ShsAt K H [] []
  | cons {x : V} {s : Sh} {xs : List V} {ss : List Sh} (a : ShAt K H x s) (r : ShsAt K H xs ss) : ShsAt K H (x :: xs) (s :: ss)
end
/-- tuples and dicts stay, lists stay lists -/
structure Kp (K : PySem.W.Frag) (H H' : Hp) : Prop where
  tup : ∀ t xs, SqT K H t xs → SqT K H' t xs
  lst : ∀ a xs, SqL K H a xs → ∃ ys, SqL K H' a ys
  dct : ∀ a kvs, H a = some (.dK kvs) → H' a = some (.dK kvs)
theorem Kp.of {K : PySem.W.Frag} {H H' : Hp} (s : Same H H') : Kp K H H' := ⟨fun t xs h => Same.tup s h, fun a xs h => ⟨xs, L2.Same.seq s h⟩, fun a kvs h => s _ _ h⟩
theorem Kp.trans {K : PySem.W.Frag} {H1 H2 H3 : Hp} (a : Kp K H1 H2) (b : Kp K H2 H3) : Kp K H1 H3 := ⟨fun t xs h => b.tup t xs (a.tup t xs h), fun c xs h => by
    obtain ⟨ys, h2⟩ := a.lst c xs h
    exact b.lst c ys h2, fun c kvs h => b.dct c kvs (a.dct c kvs h)⟩
mutual
theorem ShAt.kp {K : PySem.W.Frag} {H H' : Hp} (e : Kp K H H') : ∀ {v : V} {s : Sh}, ShAt K H v s → ShAt K H' v s
  | _, _, .int i => .int i
  | _, _, .bool b => .bool b
  | _, _, .tup h r => .tup (e.tup _ _ h) (ShsAt.kp e r)
  | _, _, .non => .non
  | _, _, .str x => .str x
  | _, _, .lst h => by
    obtain ⟨ys, h2⟩ := e.lst _ _ h
    exact .lst h2
  | _, _, .dct h => .dct (e.dct _ _ h)
theorem ShsAt.kp {K : PySem.W.Frag} {H H' : Hp} (e : Kp K H H') : ∀ {xs : List V} {ss : List Sh}, ShsAt K H xs ss → ShsAt K H' xs ss
  | _, _, .nil => .nil
  | _, _, .cons a r => .cons (a.kp e) (ShsAt.kp e r)
end
theorem ShAt.same {K : PySem.W.Frag} {H H' : Hp} (e : Same H H') {v : V} {s : Sh} (h : ShAt K H v s) : ShAt K H' v s := h.kp (Kp.of e)
theorem ShsAt.same {K : PySem.W.Frag} {H H' : Hp} (e : Same H H') {xs : List V} {ss : List Sh} (h : ShsAt K H xs ss) : ShsAt K H' xs ss := h.kp (Kp.of e)
theorem ShsAt.len {K : PySem.W.Frag} {H : Hp} : ∀ {xs : List V} {ss : List Sh}, ShsAt K H xs ss → xs.length = ss.length
  | _, _, .nil => rfl
  | _, _, .cons _ r => congrArg (· + 1) (ShsAt.len r)
theorem ShsAt.get {K : PySem.W.Frag} {H : Hp} : ∀ {xs : List V} {ss : List Sh}, ShsAt K H xs ss → ∀ {i : Nat} {x : V}, xs[i]? = some x → ∃ s, ss[i]? = some s ∧ ShAt K H x s
  | _, _, .nil, i, x, e => by simp at e
  | _, _, .cons a r, 0, x, e => by simp at e; subst e; exact ⟨_, rfl, a⟩
  | _, _, .cons a r, i + 1, x, e => by
    obtain ⟨s, h1, h2⟩ := ShsAt.get r (i := i) (x := x) (by simpa using e)
    exact ⟨s, by simpa using h1, h2⟩
theorem ShsAt.app {K : PySem.W.Frag} {H : Hp} : ∀ {xs ys : List V} {ss ts : List Sh}, ShsAt K H xs ss → ShsAt K H ys ts → ShsAt K H (xs ++ ys) (ss ++ ts)
  | _, _, _, _, .nil, h => h
  | _, _, _, _, .cons a r, h => .cons a (ShsAt.app r h)
/-- the type's name -/
def tyOk (T : String) : Sh → Prop
  | .int _ => T = "int"
  | .bool _ => T = "bool"
  | .tup _ => T = "tuple"
  | .str _ => T = "str"
  | .oth => T ≠ "int" ∧ T ≠ "bool" ∧ T ≠ "tuple" ∧ T ≠ "str"
theorem ShAt.ty {K : PySem.W.Frag} {H : Hp} {v : V} {s : Sh} (h : ShAt K H v s) : ∃ T, TyB K H v T ∧ tyOk T s := by
  cases h with
  | int i => exact ⟨_, .int i, rfl⟩
  | bool b => exact ⟨_, .bl b, rfl⟩
  | tup h r => exact ⟨_, .tup h, rfl⟩
  | non => exact ⟨_, .non, (by decide : ("NoneType" : String) ≠ "int" ∧ ("NoneType" : String) ≠ "bool" ∧ ("NoneType" : String) ≠ "tuple" ∧ ("NoneType" : String) ≠ "str")⟩
  | str x => exact ⟨_, .str x, rfl⟩
  | lst h => exact ⟨_, .lst h, (by decide : ("list" : String) ≠ "int" ∧ ("list" : String) ≠ "bool" ∧ ("list" : String) ≠ "tuple" ∧ ("list" : String) ≠ "str")⟩
  | dct h => exact ⟨_, .dK h, (by decide : ("dict" : String) ≠ "int" ∧ ("dict" : String) ≠ "bool" ∧ ("dict" : String) ≠ "tuple" ∧ ("dict" : String) ≠ "str")⟩
def wholeF (lo : Int) : Sh → Bool
  | .int i => decide (i ≥ lo)
  | _ => false
def wholeR (lo hi : Int) : Sh → Bool
  | .int i => decide (i ≥ lo) && decide (i ≤ hi)
  | _ => false
def isTwo : Sh → Bool
  | .tup [_, _] => true
  | _ => false
def vpB (n : Int) : Sh → Bool
  | .tup [a, b] => wholeR 0 (n - 1) a && wholeR 0 (n - 1) b
  | _ => false
def lt2 : Sh → Bool
  | .tup [.int a, .int b] => decide (a < b)
  | _ => false
def edgeB (n : Int) (s : Sh) : Bool := vpB n s && lt2 s
/-- one stands ahead of the other, as numbers or as pairs of numbers -/
def ltS : Sh → Sh → Bool
  | .int a, .int b => decide (a < b)
  | .tup [.int a, .int b], .tup [.int c, .int d] => HT.lexLt [a, b] [c, d]
  | _, _ => false
def ascB : List Sh → Bool
  | s :: t :: r => ltS s t && ascB (t :: r)
  | _ => true
def isGr : Sh → Bool
  | .tup [.int n, .tup es] => (decide (n ≥ 0) && decide (n ≤ 9)) && (es.all (edgeB n) && ascB es)
  | _ => false
def isLot (n : Nat) : Sh → Bool
  | .tup ss => ss.all (wholeR 0 ((n : Int) - 1)) && ascB ss
  | _ => false
end My

set_option maxHeartbeats 4000000
/-! What the second family of laws draws from: the pot; values of any kind made from written ones. -/
namespace My
open PySem PySem.Spec PyProof.Rows L2
theorem same_new {H : Hp} {p : Addr} (h : H p = none) (o : HO) : Same H (upd H p o) := fun b u q => by rw [upd_ne (ne_of_none q h)]; exact q
theorem small {n : Nat} (h : n ≤ 1000) : n ≤ sizeLine := Nat.le_of_lt (small1000 h)
theorem iteB {c : Bool} {A B : Prop} (h1 : c = true → A) (h2 : c = false → B) : if c = true then A else B := by
  cases c with
  | true => exact iteT (h1 rfl)
  | false => exact iteF (h2 rfl)
theorem join {i : Nat} {σ : L2.St} {N : L2.St → Hp → Prop} {H : Hp} {G : Prop} {R : V → Prop} (h : (∀ v, R v → gName i v σ H N) → G) (g : ∀ v, R v → gName i v σ H N) : G := h g
theorem joinS {i : Nat} {σ : L2.St} {N : L2.St → Hp → Prop} {G : Prop} {R : V → Hp → Prop} (h : (∀ v H, R v H → gName i v σ H N) → G) (g : ∀ v H, R v H → gName i v σ H N) : G := h g
theorem joinT {N : L2.St → Hp → Prop} {G : Prop} {R : L2.St → Hp → Prop} (h : (∀ σ H, R σ H → N σ H) → G) (g : ∀ σ H, R σ H → N σ H) : G := h g
/-- a pot at p -/
def Wl (H : Hp) (p : Addr) : Prop := ∃ (a : Int) (b : Fin 2147483249) (c : Int), H p = some (.lst [.int a, .int ((b.val : Nat) : Int), .int c])
theorem wl_mk {H : Hp} {p : Addr} {a x c : Int} (h : H p = some (.lst [.int a, .int x, .int c])) (h0 : 0 ≤ x) (h1 : x < 2147483249) : Wl H p := by
  refine ⟨a, ⟨x.toNat, by omega⟩, c, ?_⟩
  rw [h]
  have : ((x.toNat : Nat) : Int) = x := by omega
  show _ = some (HO.lst [.int a, .int ((x.toNat : Nat) : Int), .int c])
  rw [this]
/-- all but p is as it was -/
def But (p : Addr) (H H' : Hp) : Prop := ∀ q o, q ≠ p → H q = some o → H' q = some o
theorem But.refl (p : Addr) (H : Hp) : But p H H := fun _ _ _ e => e
theorem But.trans {p : Addr} {H1 H2 H3 : Hp} (x : But p H1 H2) (y : But p H2 H3) : But p H1 H3 := fun q o n e => y q o n (x q o n e)
theorem But.new {p q : Addr} {H : Hp} {o : HO} (n : H q = none) : But p H (upd H q o) := fun b u _ e => by rw [upd_ne (ne_of_none e n)]; exact e
theorem But.put {p : Addr} {H : Hp} {o : HO} : But p H (upd H p o) := fun b u n e => by rw [upd_ne n]; exact e
theorem But.of {p : Addr} {H H' : Hp} (s : Same H H') : But p H H' := fun b u _ e => s b u e
/-- the heap without p -/
def hide (p : Addr) (H : Hp) : Hp := fun q => if q = p then none else H q
theorem hide_ne {p q : Addr} {H : Hp} (h : q ≠ p) : hide p H q = H q := if_neg h
theorem hide_at {p : Addr} {H : Hp} : hide p H p = none := if_pos rfl
theorem hide_some {p q : Addr} {H : Hp} {o : HO} (h : hide p H q = some o) : q ≠ p ∧ H q = some o := by
  by_cases e : q = p
  · rw [e, hide_at] at h
    cases h
  · rw [hide_ne e] at h
    exact ⟨e, h⟩
theorem hide_sub (p : Addr) (H : Hp) : Same (hide p H) H := fun q o h => (hide_some h).2
theorem But.hide {p : Addr} {H H' : Hp} (h : But p H H') : Same (hide p H) (hide p H') := fun q o e => by
  obtain ⟨n, e⟩ := hide_some e
  rw [hide_ne n]
  exact h q o n e
def Fine (d : PyData) : Prop := d.showable = true ∧ d.depth ≤ 60 ∧ d.shown.length ≤ sizeLine
instance (d : PyData) : Decidable (Fine d) := inferInstanceAs (Decidable (_ ∧ _ ∧ _))
theorem take_succ {α : Type} {l : List α} {i : Nat} {x : α} (h : l[i]? = some x) : l.take (i + 1) = l.take i ++ [x] := by
  rw [List.take_succ, h]
  rfl
/-- every tuple stays -/
def TS (H H' : Hp) : Prop := ∀ q xs, Rd H q (.tup xs) → Rd H' q (.tup xs)
theorem TS.refl (H : Hp) : TS H H := fun _ _ h => h
theorem TS.trans {H1 H2 H3 : Hp} (a : TS H1 H2) (b : TS H2 H3) : TS H1 H3 := fun q xs h => b q xs (a q xs h)
theorem TS.of {H H' : Hp} (s : Same H H') : TS H H' := fun q xs h => by
  rcases h with h | ⟨o, h⟩
  · exact .inl (s _ _ h)
  · exact .inr ⟨o, s _ _ h⟩
theorem TS.put {H : Hp} {D : Addr} {zs : List V} {o : HO} (h : H D = some (.lst zs)) : TS H (upd H D o) := fun q xs r => by
  have ne : q ≠ D := fun z => by
    rw [z] at r
    rcases r with r | ⟨_, r⟩ <;> (rw [h] at r; cases r)
  unfold Rd
  rw [upd_ne ne]
  exact r
theorem TS.but {p : Addr} {H H' : Hp} (b : But p H H') (w : Wl H p) : TS H H' := fun q xs r => by
  obtain ⟨x, y, z, hp⟩ := w
  have ne : q ≠ p := fun e => by
    rw [e] at r
    rcases r with r | ⟨_, r⟩ <;> (rw [hp] at r; cases r)
  rcases r with r | ⟨o, r⟩
  · exact .inl (b _ _ ne r)
  · exact .inr ⟨o, b _ _ ne r⟩
theorem TS.tup {K : PySem.W.Frag} {H H' : Hp} (s : TS H H') {t : Addr} {xs : List V} (h : SqT K H t xs) : SqT K H' t xs := by
  rcases h with h | h
  · exact .inl (s _ _ h)
  · exact .inr h
theorem PairsAt.ts {K : PySem.W.Frag} {H H' : Hp} (e : TS H H') : ∀ {xs : List V} {ps : List E2}, PairsAt K H xs ps → PairsAt K H' xs ps
  | _, _, .nil => .nil
  | _, _, .cons ⟨t, h1, h2⟩ b => .cons ⟨t, h1, e.tup h2⟩ (PairsAt.ts e b)
theorem PairsAt.len {K : PySem.W.Frag} {H : Hp} : ∀ {xs : List V} {ps : List E2}, PairsAt K H xs ps → xs.length = ps.length
  | _, _, .nil => rfl
  | _, _, .cons _ b => congrArg (· + 1) (PairsAt.len b)
theorem GraphAt.ts {K : PySem.W.Frag} {H H' : Hp} (s : TS H H') {x : V} {n : Nat} {es : List E2} (h : GraphAt K H x n es) : GraphAt K H' x n es := by
  obtain ⟨t, e, xs, rfl, h1, h2, h3⟩ := h
  exact ⟨t, e, xs, rfl, s.tup h1, s.tup h2, h3.ts s⟩
theorem Wl.same {H H' : Hp} {p : Addr} (s : Same H H') (w : Wl H p) : Wl H' p := by
  obtain ⟨a, b, c, h⟩ := w
  exact ⟨a, b, c, s _ _ h⟩
theorem Wl.put {H : Hp} {p D : Addr} {o : HO} (w : Wl H p) (ne : D ≠ p) : Wl (upd H D o) p := by
  obtain ⟨a, b, c, h⟩ := w
  exact ⟨a, b, c, by rw [upd_ne (Ne.symm ne)]; exact h⟩
theorem Wl.ne {H : Hp} {p D : Addr} (w : Wl H p) (n : H D = none) : D ≠ p := by
  obtain ⟨a, b, c, h⟩ := w
  rintro rfl
  rw [h] at n
  cases n
theorem Wl.off {K : PySem.W.Frag} {H : Hp} {p t : Addr} {xs : List V} (w : Wl H p) (h : SqT K H t xs) : SqT K (hide p H) t xs := by
  obtain ⟨a, b, c, hp⟩ := w
  rcases h with h | h
  · left
    have ne : t ≠ p := fun e => by
      rw [e] at h
      rcases h with r | ⟨_, r⟩ <;> (rw [hp] at r; cases r)
    unfold Rd
    rw [hide_ne ne]
    exact h
  · exact .inr h
theorem Wl.ts {K : PySem.W.Frag} {H H' : Hp} {p t : Addr} {xs : List V} (w : Wl H p) (b : But p H H') (h : SqT K H t xs) : SqT K H' t xs := (TS.but b w).tup h
theorem Kp.but {K : PySem.W.Frag} {p : Addr} {H H' : Hp} (b : But p H H') (w : Wl H p) (w' : Wl H' p) : Kp K H H' := by
  refine ⟨fun t xs h => (TS.but b w).tup h, fun a xs h => ?_, fun a kvs h => ?_⟩
  · obtain ⟨x, y, z, hp⟩ := w
    obtain ⟨x', y', z', hp'⟩ := w'
    rcases h with (h | ⟨o, h⟩) | h
    · by_cases e : a = p
      · subst e
        exact ⟨_, SqL.of hp'⟩
      · exact ⟨xs, SqL.of (b _ _ e h)⟩
    · by_cases e : a = p
      · subst e
        rw [hp] at h
        cases h
      · exact ⟨xs, .inl (.inr ⟨o, b _ _ e h⟩)⟩
    · exact ⟨xs, .inr h⟩
  · obtain ⟨x, y, z, hp⟩ := w
    have e : a ≠ p := fun e => by
      subst e
      rw [hp] at h
      cases h
    exact b _ _ e h
theorem ShAt.but {K : PySem.W.Frag} {p : Addr} {H H' : Hp} (b : But p H H') (w : Wl H p) (w' : Wl H' p) {v : V} {s : Sh} (h : ShAt K H v s) : ShAt K H' v s := h.kp (Kp.but b w w')
theorem ShsAt.but {K : PySem.W.Frag} {p : Addr} {H H' : Hp} (b : But p H H') (w : Wl H p) (w' : Wl H' p) {v : List V} {s : List Sh} (h : ShsAt K H v s) : ShsAt K H' v s := h.kp (Kp.but b w w')
/-! ### rules -/
/-- t + u, whatever of them is () -/
def rCatW (K : PySem.W.Frag) : R2 := fun x y H Q => ∃ a b xs ys, x = .ref a ∧ y = .ref b ∧ SqT K H a xs ∧ SqT K H b ys ∧ xs.length + ys.length ≤ sizeLine ∧ ∀ p H', Same H H' → SqT K H' p (xs ++ ys) → Q (.ref p) H'
theorem op_catW {X : Cx} : OpR X (binaryOp .Add) (rCatW X.K) := by
  intro pins s σ H x y v u Q I rx ry h
  obtain ⟨a, b, xs, ys, rfl, rfl, ha, hb, hz, q⟩ := h
  refine op_catA pins s σ H _ _ v u Q I rx ry ⟨a, b, xs, ys, rfl, rfl, ha, hb, hz, fun e => ?_, fun _ e => ?_, fun _ _ p np => q p _ (same_new np _) (SqT.of upd_same)⟩
  · subst e
    exact q b H (Same.refl H) hb
  · subst e
    exact q a H (Same.refl H) (by rw [List.append_nil]; exact ha)
/-- t[lo:hi], the whole of it too -/
def rSlW (K : PySem.W.Frag) : V → Option Int → Option Int → Hp → VK → Prop := fun x lo hi H Q => ∃ a xs, x = .ref a ∧ SqT K H a xs ∧ ∀ p H', Same H H' → SqT K H' p (cutV xs lo hi) → Q (.ref p) H'
theorem sl_tupW {X : Cx} : SlR X (rSlW X.K) := by
  intro pins s σ H x v vl vu lo hi sl Q I rx hs pl pu h
  obtain ⟨a, xs, rfl, hx, q⟩ := h
  refine sl_tupA pins s σ H _ v vl vu lo hi sl Q I rx hs pl pu ⟨a, xs, rfl, hx, fun w => q a H (Same.refl H) ?_, fun _ p np => q p _ (same_new np _) (SqT.of upd_same)⟩
  have e : cutV xs lo hi = xs := by
    unfold cutV
    rw [w.1, w.2, List.drop_zero, Nat.sub_zero, List.take_length]
  rw [e]
  exact hx
theorem ShsAt.drop {K : PySem.W.Frag} {H : Hp} : ∀ {xs : List V} {ss : List Sh} (k : Nat), ShsAt K H xs ss → ShsAt K H (xs.drop k) (ss.drop k)
  | _, _, 0, h => h
  | _, _, k + 1, .nil => .nil
  | _, _, k + 1, .cons _ r => ShsAt.drop k r
theorem ShsAt.take {K : PySem.W.Frag} {H : Hp} : ∀ {xs : List V} {ss : List Sh} (k : Nat), ShsAt K H xs ss → ShsAt K H (xs.take k) (ss.take k)
  | _, _, 0, _ => .nil
  | _, _, k + 1, .nil => .nil
  | _, _, k + 1, .cons a r => .cons a (ShsAt.take k r)
theorem ShsAt.cut {K : PySem.W.Frag} {H : Hp} {xs : List V} {ss : List Sh} (h : ShsAt K H xs ss) (lo hi : Option Int) : ∃ ts, ShsAt K H (cutV xs lo hi) ts := ⟨_, (h.drop _).take _⟩
theorem ShsAt.rev {K : PySem.W.Frag} {H : Hp} : ∀ {xs : List V} {ss : List Sh}, ShsAt K H xs ss → ShsAt K H xs.reverse ss.reverse
  | _, _, .nil => .nil
  | _, _, .cons a r => by
    rw [List.reverse_cons, List.reverse_cons]
    exact (ShsAt.rev r).app (.cons a .nil)
theorem ShsAt.mem {K : PySem.W.Frag} {H : Hp} {xs : List V} {ss : List Sh} (h : ShsAt K H xs ss) {x : V} (m : x ∈ xs) : ∃ s, s ∈ ss ∧ ShAt K H x s := by
  obtain ⟨i, hi, e⟩ := List.getElem_of_mem m
  obtain ⟨s, h1, h2⟩ := h.get (i := i) (x := x) (by rw [List.getElem?_eq_getElem hi, e])
  exact ⟨s, List.mem_of_getElem? h1, h2⟩
/-- t[::-1], t a tuple -/
theorem getItem_tuple_rev {prog : Program} {w : World} {A : Around} {E : Value → Shared → Prop} {s : Shared} {t sl : Addr} {items : Array Value} {k : Tok} {Q : Value → Shared → Prop} (ht : IsTup s.heap t items) (hs : s.heap.IsSliceOf sl .none .none (.int (-1) k))
    (h : Q (.ref s.heap.objs.size) { s with heap := s.heap.push { cls := .type "tuple", data := .seq items.toList.reverse.toArray } }) (hsz : items.size ≤ sizeLine) : wpAny (model prog w) A (getItem (.ref t) (.ref sl)) Q E s := by
  have htake : sizeOk (.seq items.toList.reverse.toArray) := by
    show items.toList.reverse.toArray.size ≤ sizeLine
    rw [List.size_toArray, List.length_reverse, Array.length_toList]
    exact hsz
  obtain ⟨os, hos, hcs, hds⟩ := id hs
  have hTs : s.TypeIs (.ref sl) "slice" := ⟨os, hos, hcs⟩
  unfold getItem
  try with_reducible refine wpAny_holding ?_
  first | refine wpAny_bind (wpAny_pure ?_) | skip
  refine wpAny_bind (wpAny_sequenceKey ht.typeIs (by decide) ?_)
  refine wpAny_bind (wpAny_callSpecial?_slot (name := Str.ofString "__getitem__") ht.typeIs PyProof.Rows.slot_tuple_getitem
    (wpAny_call_entry PyProof.Rows.slot_tuple_getitem ht.typeIs entry_tuple_getitem ?_ (args_tuple_getitem _ _)))
  show wpAny _ _ (Builtin.Tuple.tupleItemsOf (.ref t) >>= _) _ _ s
  refine wpAny_bind (tupleItemsOf_ ht ?_)
  refine wpAny_bind (wpAny_typeOf hTs ?_)
  rw [if_pos (by decide)]
  have ap : Builtin.Slice.sliceAdjust none none (-1) (items.size : Int) = ((items.size : Int) - 1, -1) := rfl
  have pl : Builtin.Slice.slicePlaces ((items.size : Int) - 1) (-1) (-1) = items.size := by
    unfold Builtin.Slice.slicePlaces
    rw [if_neg (by decide)]
    by_cases z : items.size = 0
    · rw [z]
      rfl
    · rw [if_pos (by omega)]
      have : ((items.size : Int) - 1 - -1 - 1) / (- -1) + 1 = (items.size : Int) := by
        rw [show - (-1 : Int) = 1 by decide, Int.ediv_one]
        omega
      rw [this, Int.toNat_natCast]
  have pk : ((List.range items.size).filterMap fun (m : Nat) => items[(((items.size : Int) - 1) + (m : Int) * -1).toNat]?).toArray = items.toList.reverse.toArray := by
    congr 1
    refine List.ext_getElem? fun j => ?_
    have e : ∀ n, n ≤ items.size → (List.range n).filterMap (fun (m : Nat) => items[(((items.size : Int) - 1) + (m : Int) * -1).toNat]?) = (items.toList.reverse).take n := fun n => by
      induction n with
      | zero => intro _; rfl
      | succ n ih =>
        intro h
        have hn : n < items.toList.reverse.length := by rw [List.length_reverse, Array.length_toList]; omega
        rw [List.range_succ, List.filterMap_append, ih (by omega), List.take_add_one, List.getElem?_eq_getElem hn]
        congr 1
        have i1 : (((items.size : Int) - 1) + (n : Int) * -1).toNat = items.size - 1 - n := by omega
        have lt : items.size - 1 - n < items.size := by omega
        rw [List.getElem_reverse]
        simp only [List.filterMap_cons, List.filterMap_nil, i1, Array.getElem?_eq_getElem lt, Option.toList_some]
        simp
    rw [e _ (Nat.le_refl _), List.take_of_length_le (by rw [List.length_reverse, Array.length_toList]; exact Nat.le_refl _)]
  refine wpAny_bind ?_
  unfold Builtin.Slice.sliceApplied Builtin.Slice.sliceFields
  refine wpAny_bind (wpAny_bind (wpAny_field hos hds (x := .none) rfl (wpAny_bind (wpAny_field hos hds (x := .none) rfl (wpAny_bind (wpAny_field hos hds (x := .int (-1) k) rfl (wpAny_pure ?_)))))))
  refine wpAny_bind (HT.slicePart_ (.int (-1) k) ?_)
  show wpAny _ _ (if ((-1 : Int) == 0) = true then _ else _) _ _ s
  rw [if_neg (by decide)]
  refine wpAny_bind (HT.slicePart_ .none (wpAny_bind (HT.slicePart_ .none (wpAny_bind (wpAny_pure ?_)))))
  show wpAny _ _ (match Builtin.Slice.sliceAdjust none none (-1) (items.size : Int) with | (lo, hi) => pure (lo, (-1 : Int), Builtin.Slice.slicePlaces lo hi (-1))) _ _ s
  rw [ap]
  show wpAny _ _ (pure ((items.size : Int) - 1, (-1 : Int), Builtin.Slice.slicePlaces ((items.size : Int) - 1) (-1) (-1))) _ _ s
  rw [pl]
  refine wpAny_pure ?_
  have hno : ¬ (((items.size : Int) - 1 == 0 && (-1 : Int) == 1 && items.size == items.size) = true) := by simp
  show wpAny _ _ (if ((items.size : Int) - 1 == 0 && (-1 : Int) == 1 && items.size == items.size) = true then _ else _) _ _ s
  rw [if_neg hno, pk]
  first
    | exact wpAny_bind (m := Builtin.Tuple.tupleExact _) (wpAny_newObj_type (wpAny_pure ⟨_, rfl, wpAny_pure h⟩) htake)
    | exact wpAny_bind (m := Builtin.Tuple.tupleExact _) (wpAny_newObj_type (wpAny_bind (wpAny_pure (wpAny_pure ⟨_, rfl, wpAny_pure h⟩))) htake)
    | exact wpAny_bind (wpAny_bind (m := Builtin.Tuple.tupleExact _) (wpAny_newObj_type (wpAny_pure (wpAny_pure ⟨_, rfl, wpAny_pure h⟩)) htake))
    | exact wpAny_bind (wpAny_bind (m := Builtin.Tuple.tupleExact _) (wpAny_newObj_type (wpAny_pure ⟨_, rfl, wpAny_pure h⟩) htake))
section
variable {X : Cx}
def tRevT (K : PySem.W.Frag) (te : TE) : TE := fun σ H Q => te σ H fun x H1 => ∃ a xs, x = .ref a ∧ SqT K H1 a xs ∧ ∀ p, H1 p = none → Q (.ref p) (upd H1 p (.tup xs.reverse))
theorem pe_revT {e : Expr} {te : TE} {k : Nat} {p1 p2 p3 pos : Pos} (he : PE X e te) : PE X (.Subscript e (.Slice none none (some (.UnaryOp .USub (.Constant (.int 1) k p1) p2)) p3) pos) (tRevT X.K te) := by
  refine ⟨fun pins s σ H Q I h => ?_⟩
  refine Subscript_ (thn (he.run pins s σ H _ I h) fun v s1 ⟨x, H1, I1, r1, q1⟩ => ?_)
  obtain ⟨a, xs, ex, hx, q⟩ := q1
  subst ex
  cases r1
  have hst : PO X (some (.UnaryOp .USub (.Constant (.int 1) k p1) p2)) (tPart (tUn (rU fun i => .int (-i)) (tC (.int 1)))) := po_some (pe_un un_neg pe_int)
  refine wpAny_Slice (thn (po_none.run pins s1 σ H1 (fun o H2 => o = none ∧ H2 = H1) I1 ⟨rfl, rfl⟩) fun vl s2 ⟨l, H2, I2, pl, el, e2⟩ => ?_)
  subst el e2
  refine thn (po_none.run pins s2 σ H2 (fun o H3 => o = none ∧ H3 = H2) I2 ⟨rfl, rfl⟩) fun vu s3 ⟨u, H3, I3, pu, eu, e3⟩ => ?_
  subst eu e3
  refine thn (hst.run pins s3 σ H3 (fun o H4 => o = some (-1) ∧ H4 = H3) I3 ⟨1, rfl, -1, rfl, rfl, rfl⟩) fun vs s4 ⟨o, H4, I4, ps, eo, e4⟩ => ?_
  subst eo e4
  cases pl
  cases pu
  obtain ⟨tk, rfl⟩ : ∃ tk, vs = Value.int (-1) tk := by
    cases ps
    exact ⟨_, rfl⟩
  have I5 : L2.Inv X pins σ H4 { s4 with heap := s4.heap.push { cls := .type "slice", data := .fields #[.none, .none, .int (-1) tk] } } := I4.kept (t' := s4.toks) fun b ob q => Heap.get?_push_of_some _ q
  obtain ⟨its, r, ht, hz⟩ := I5.tuple hx
  have hlen := r.length
  show wpAny (model X.prog X.w) X.A (subscriptTail e (.Slice none none (some (.UnaryOp .USub (.Constant (.int 1) k p1) p2)) p3) (.ref a) (.ref s4.heap.objs.size)) (EP X pins σ Q) X.xe { s4 with heap := s4.heap.push { cls := .type "slice", data := .fields #[.none, .none, .int (-1) tk] } }
  refine tail_any (ops := [.ref a, .ref s4.heap.objs.size]) ht.typeIs (PyProof.Rows.slot_tuple_getitem.lookup) ?_ (by with_unfolding_all rfl)
  refine getItem_tuple_rev ht (Heap.IsSliceOf.new _ .none .none (.int (-1) tk)) ?_ (by rw [List.size_toArray]; omega)
  refine ⟨.ref _, _, I5.laid (t' := s4.toks) (o := .tup xs.reverse) (fun b ob q => Heap.get?_push_of_some _ q) (Nat.le_refl _) ?_, rfl, q _ (I5.hok.fresh (Nat.le_refl _))⟩
  exact ⟨by rw [List.length_reverse]; exact hz, _, r.reverse, IsTup.new _ _⟩
end
theorem but_put {p l : Addr} {H H1 : Hp} {o : HO} (b : But p H H1) (n : H l = none) : But p H (upd H1 l o) := fun q u ne e => by
  rw [upd_ne (ne_of_none e n)]
  exact b q u ne e
theorem cut_to {xs : List V} {k : Nat} (h : k ≤ xs.length) : cutV xs none (some (k : Int)) = xs.take k := by
  unfold cutV
  rw [HT.sIx_none, HT.sIx_nat, List.drop_zero, Nat.sub_zero, Nat.min_eq_left h]
theorem cut_from {xs : List V} {k : Nat} (h : k ≤ xs.length) : cutV xs (some (k : Int)) none = xs.drop k := by
  unfold cutV
  rw [HT.sIx_none, HT.sIx_nat, Nat.min_eq_left h, List.take_of_length_le (by rw [List.length_drop]; exact Nat.le_refl _)]
/-! ### what is asked of a value's kind -/
def isTup : Sh → Bool
  | .tup _ => true
  | _ => false
def isInt : Sh → Bool
  | .int _ => true
  | .bool _ => true
  | _ => false
def isBool : Sh → Bool
  | .bool _ => true
  | _ => false
theorem tyx_tup {K : PySem.W.Frag} {H : Hp} {t : Addr} {xs : List V} (h : SqT K H t xs) : TyX K H (.ref t) (.type "tuple") := by
  rcases h with (h | ⟨o, h⟩) | ⟨o, its, n, h, c, _⟩
  · exact .base (.tup h)
  · exact .fTuple h
  · exact .kTuple h c
theorem tyx_lst {K : PySem.W.Frag} {H : Hp} {t : Addr} {xs : List V} (h : SqL K H t xs) : TyX K H (.ref t) (.type "list") := by
  rcases h with (h | ⟨o, h⟩) | ⟨o, its, n, h, c, _⟩
  · exact .base (.lst h)
  · exact .base (.frz h)
  · exact .kList h c
theorem isi_of {K : PySem.W.Frag} {H : Hp} {v : V} {s : Sh} (h : ShAt K H v s) : ∃ t, TyX K H v t ∧ PySem.W.kitOne K t (.type "tuple") = some (isTup s) ∧ PySem.W.kitOne K t (.type "int") = some (isInt s) ∧ PySem.W.kitOne K t (.type "bool") = some (isBool s) := by
  cases h with
  | int i => exact ⟨_, .base (.int i), rfl, rfl, rfl⟩
  | bool b => exact ⟨_, .base (.bl b), rfl, rfl, rfl⟩
  | tup h r => exact ⟨_, tyx_tup h, rfl, rfl, rfl⟩
  | non => exact ⟨_, .base .non, rfl, rfl, rfl⟩
  | str x => exact ⟨_, .base (.str x), rfl, rfl, rfl⟩
  | lst h => exact ⟨_, tyx_lst h, rfl, rfl, rfl⟩
  | dct h => exact ⟨_, .base (.dK h), rfl, rfl, rfl⟩
/-! ### shapes of pairs -/
def pairS (p : E2) : Sh := .tup [.int (p.1 : Int), .int (p.2 : Int)]
theorem PairsAt.sh {K : PySem.W.Frag} {H : Hp} : ∀ {xs : List V} {ps : List E2}, PairsAt K H xs ps → ShsAt K H xs (ps.map pairS)
  | _, _, .nil => .nil
  | _, _, .cons ⟨t, h1, h2⟩ b => by
    subst h1
    exact .cons (.tup h2 (.cons (.int _) (.cons (.int _) .nil))) (PairsAt.sh b)
theorem sh_pairs {K : PySem.W.Frag} {H : Hp} : ∀ {xs : List V} {ps : List E2}, ShsAt K H xs (ps.map pairS) → PairsAt K H xs ps
  | _, [], h => by cases h; exact .nil
  | _, p :: ps, h => by
    cases h with
    | cons a r =>
      refine .cons ?_ (sh_pairs r)
      cases a with
      | tup ht ra =>
        cases ra with
        | cons r1 ra =>
          cases ra with
          | cons r2 ra =>
            cases ra
            cases r1
            cases r2
            exact ⟨_, rfl, ht⟩
theorem PairsT.but {p : Addr} {H H' : Hp} (b : But p H H') (w : Wl H p) : ∀ {xs : List V} {ps : List E2}, PairsT H xs ps → PairsT H' xs ps
  | _, _, .nil => .nil
  | _, _, .cons ⟨t, e, h⟩ r => .cons ⟨t, e, b _ _ (fun z => by
      obtain ⟨x, y, c, hp⟩ := w
      rw [z, hp] at h
      cases h) h⟩ (PairsT.but b w r)
/-- sorted pairs, some of them maybe alike -/
theorem sorted_pairsD {H : Hp} {xs ys : List V} {ps : List E2} (h : PairsT H xs ps) (so : SrtO.Srtd (ltP (kOf H)) ys) (st : SrtO.Stb (ltP (kOf H)) ys xs) :
    PairsT H ys (ys.map (gOf H)) ∧ ((ys.map (gOf H)).Pairwise fun a b => ¬ ahead b a) ∧ (ys.map (gOf H)).Perm ps := by
  have pm : (ys.map (gOf H)).Perm ps := by
    have z := st.perm.map (gOf H)
    rw [map_gOf h] at z
    exact z
  have hy : ∀ y ∈ ys, PairT H y (gOf H y) := fun y hy => h.mem y (st.perm.mem_iff.mp hy)
  refine ⟨PairsT.of_mem hy, ?_, pm⟩
  rw [List.pairwise_map]
  refine List.Pairwise.imp_of_mem ?_ so
  intro a b ha hb le
  have ka := kOf_at (hy a ha)
  have kb := kOf_at (hy b hb)
  have le2 : SrtO.lexB (kOf H b) (kOf H a) = false := le
  rw [ka, kb] at le2
  have le3 := mt (SrtO.lexB_iff (p := (((gOf H b).1 : Int), ((gOf H b).2 : Int))) (q := (((gOf H a).1 : Int), ((gOf H a).2 : Int)))).mpr (by rw [le2]; decide)
  dsimp only at le3
  unfold ahead
  omega
theorem PairsT.ks {H : Hp} {xs : List V} {ps : List E2} (h : PairsT H xs ps) : ∀ x ∈ xs, ∃ t, x = V.ref t ∧ H t = some (.tup [.int (kOf H x).1, .int (kOf H x).2]) := fun x hx => by
  have z := h.mem x hx
  have k := kOf_at z
  obtain ⟨t, e, ht⟩ := z
  exact ⟨t, e, by rw [k]; exact ht⟩
theorem wl_tup {p t : Addr} {H : Hp} {xs : List V} (w : Wl H p) (h : H t = some (.tup xs)) : t ≠ p := fun z => by
  obtain ⟨x, y, c, hp⟩ := w
  rw [z, hp] at h
  cases h
theorem rows_few : ∀ u, u ≤ 9 → ∀ n, n ≤ 9 → ((List.range u).flatMap (rowP n)).length ≤ 81 := by decide +kernel
/-- lists of numbers -/
def numsN (l : List Nat) : List V := l.map fun k => V.int ((k : Nat) : Int)
theorem numsN_len (l : List Nat) : (numsN l).length = l.length := List.length_map _
theorem numsN_app (l m : List Nat) : numsN (l ++ m) = numsN l ++ numsN m := List.map_append
theorem numsN_get {l : List Nat} {i : Nat} {x : V} (h : (numsN l)[i]? = some x) : ∃ k, l[i]? = some k ∧ x = .int ((k : Nat) : Int) := by
  unfold numsN at h
  rw [List.getElem?_map] at h
  cases e : l[i]? with
  | none => rw [e] at h; cases h
  | some k => rw [e] at h; cases h; exact ⟨k, rfl, rfl⟩
/-! ### values of some kind, not too long -/
inductive Lb : Sh → Prop
  | int (i : Int) : Lb (.int i)
  | bool (b : Bool) : Lb (.bool b)
  | str (x : Str) : Lb (.str x)
  | oth : Lb .oth
  | tup {ss : List Sh} (l : ss.length ≤ 900) (h : ∀ z ∈ ss, Lb z) : Lb (.tup ss)
def Va (K : PySem.W.Frag) (H : Hp) (v : V) : Prop := ∃ s, ShAt K H v s ∧ Lb s
section
variable {K : PySem.W.Frag} {H : Hp}
theorem Va.int (i : Int) : Va K H (.int i) := ⟨_, .int i, .int i⟩
theorem Va.bl (b : Bool) : Va K H (.bl b) := ⟨_, .bool b, .bool b⟩
theorem Va.str (x : Str) : Va K H (.str x) := ⟨_, .str x, .str x⟩
theorem Va.non : Va K H .non := ⟨_, .non, .oth⟩
theorem Va.lst {a : Addr} {xs : List V} (h : SqL K H a xs) : Va K H (.ref a) := ⟨_, .lst h, .oth⟩
theorem Va.dct {a : Addr} {kvs : List (Key × V)} (h : H a = some (.dK kvs)) : Va K H (.ref a) := ⟨_, .dct h, .oth⟩
theorem va_all : ∀ {xs : List V}, (∀ x ∈ xs, Va K H x) → ∃ ss, ShsAt K H xs ss ∧ ∀ z ∈ ss, Lb z
  | [], _ => ⟨[], .nil, fun _ z => nomatch z⟩
  | x :: xs, h => by
    obtain ⟨s, h1, h2⟩ := h x (List.mem_cons_self ..)
    obtain ⟨ss, h3, h4⟩ := va_all (xs := xs) fun y hy => h y (List.mem_cons_of_mem _ hy)
    refine ⟨s :: ss, .cons h1 h3, fun z hz => ?_⟩
    rcases List.mem_cons.mp hz with rfl | hz
    · exact h2
    · exact h4 z hz
theorem Va.tup {t : Addr} {xs : List V} (h : SqT K H t xs) (l : xs.length ≤ 900) (a : ∀ x ∈ xs, Va K H x) : Va K H (.ref t) := by
  obtain ⟨ss, h1, h2⟩ := va_all a
  exact ⟨.tup ss, .tup h h1, .tup (by rw [← h1.len]; exact l) h2⟩
theorem Va.kp {H' : Hp} (e : Kp K H H') {v : V} (h : Va K H v) : Va K H' v := by
  obtain ⟨s, h1, h2⟩ := h
  exact ⟨s, h1.kp e, h2⟩
theorem Va.same {H' : Hp} (e : Same H H') {v : V} (h : Va K H v) : Va K H' v := h.kp (Kp.of e)
theorem Va.but {p : Addr} {H' : Hp} (b : But p H H') (w : Wl H p) (w' : Wl H' p) {v : V} (h : Va K H v) : Va K H' v := h.kp (Kp.but b w w')
theorem va_cut {xs : List V} (lo hi : Option Int) (h : ∀ x ∈ xs, Va K H x) : ∀ x ∈ cutV xs lo hi, Va K H x := fun x hx => h x (List.mem_of_mem_drop (List.mem_of_mem_take hx))
theorem va_app {xs ys : List V} (h : ∀ x ∈ xs, Va K H x) (g : ∀ x ∈ ys, Va K H x) : ∀ x ∈ xs ++ ys, Va K H x := fun x hx => (List.mem_append.mp hx).elim (h x) (g x)
theorem va_nil : ∀ x ∈ ([] : List V), Va K H x := fun _ z => nomatch z
theorem va_cons {x : V} {xs : List V} (a : Va K H x) (h : ∀ x ∈ xs, Va K H x) : ∀ y ∈ x :: xs, Va K H y := fun y hy => by
  rcases List.mem_cons.mp hy with rfl | hy
  · exact a
  · exact h y hy
end
/-! ### values made from written ones -/
def Mk (K : PySem.W.Frag) (t : TE) : Prop := ∀ (σ : L2.St) (H : Hp) (Q : VK), (∀ v H', Same H H' → Va K H' v → Q v H') → t σ H Q
def MkA (K : PySem.W.Frag) (n : Nat) (t : TA) : Prop := ∀ (σ : L2.St) (H : Hp) (Q : List V → Hp → Prop), (∀ vs H', Same H H' → vs.length = n → (∀ v ∈ vs, Va K H' v) → Q vs H') → t σ H Q
section
variable {K : PySem.W.Frag}
theorem mk_int (i : Int) : Mk K (tC (.int i)) := fun σ H Q h => h _ H (Same.refl H) (.int i)
theorem mk_bl (b : Bool) : Mk K (tC (.bl b)) := fun σ H Q h => h _ H (Same.refl H) (.bl b)
theorem mk_str (x : Str) : Mk K (tC (.str x)) := fun σ H Q h => h _ H (Same.refl H) (.str x)
theorem mk_non : Mk K (tC .non) := fun σ H Q h => h _ H (Same.refl H) .non
theorem mk_nil : MkA K 0 tNil := fun σ H Q h => h _ H (Same.refl H) rfl va_nil
theorem mk_cons {t : TE} {ts : TA} {n : Nat} (a : Mk K t) (b : MkA K n ts) : MkA K (n + 1) (tCons t ts) := fun σ H Q h =>
  a σ H _ fun v H1 s1 hv => b σ H1 _ fun vs H2 s2 l hs => h _ H2 (s1.trans s2) (congrArg (· + 1) l) (va_cons (hv.same s2) hs)
theorem mk_tup {ts : TA} {n : Nat} (hn : n ≤ 900) (b : MkA K n ts) : Mk K (tTup ts) := fun σ H Q h =>
  b σ H _ fun vs H1 s1 l hs => ⟨by rw [l]; exact small (by omega), fun p np => h _ _ (s1.trans (same_new np _)) (.tup (SqT.of upd_same) (by omega) fun x hx => (hs x hx).same (same_new np _))⟩
theorem mk_lst {ts : TA} {n : Nat} (hn : n ≤ 1000) (b : MkA K n ts) : Mk K (tLst ts) := fun σ H Q h =>
  b σ H _ fun vs H1 s1 l hs => ⟨by rw [l]; exact small hn, fun p np => h _ _ (s1.trans (same_new np _)) (.lst (SqL.of upd_same))⟩
theorem mk_dct : Mk K tDNewK := fun σ H Q h => fun p np => h _ _ (same_new np _) (.dct upd_same)
theorem mk_pow (i j : Int) (h : CPow i j) : Mk K (tOp (rI CPow fun i j => .int (i ^ j.toNat)) (tC (.int i)) (tC (.int j))) := fun σ H Q q => ⟨_, _, rfl, rfl, h, q _ H (Same.refl H) (.int _)⟩
theorem mk_neg (i : Int) : Mk K (tUn (rU fun i => .int (-i)) (tC (.int i))) := fun σ H Q q => ⟨i, rfl, q _ H (Same.refl H) (.int _)⟩
theorem set_mk {n i : Nat} {ts : TA} {rest : L2.TS} {D : Ends} {σ : L2.St} {H : Hp} (m : MkA K n ts) (hn : n ≤ 1000) (go : ∀ vs F H1, Same H H1 → vs.length = n → (∀ v ∈ vs, Va K H1 v) → H F = none → H1 F = some (.lst vs) → rest D (σ.set i (some (.ref F))) H1) : tSeq (tAsg (tLst ts) (gName i)) rest D σ H :=
  m σ H _ fun vs H1 s1 l h1 => ⟨by rw [l]; exact small hn, fun F nF => go vs F _ (s1.trans (same_new nF _)) l (fun x hx => (h1 x hx).same (same_new nF _)) (s1.free nF) upd_same⟩
end
end My

set_option maxHeartbeats 4000000
/-! The law's draws: the pot, a draw, a pick, a mixing. -/
namespace My
open PySem PySem.Spec PyProof.Rows L2
def top (i : Nat) : Stmt := PySem.Challenge.pw_perfectgraphs_k49_whole_konigs_theorem_e.main.body.getD i (.Pass ⟨0, 0, 0, 0⟩)
abbrev sPot : Stmt := top 42
abbrev sDraw : Stmt := top (42 + 1)
theorem scPot : FnScope ["script", "turn", "stirred", "each", "cell", "digits"] ["script", "turn"] (defScope sPot) := ⟨rfl, rfl, rfl, by decide +kernel, rfl, by decide +kernel, by decide +kernel⟩
theorem scDraw : FnScope ["pot", "few", "digit"] ["pot", "few"] (defScope sDraw) := ⟨rfl, rfl, rfl, by decide +kernel, rfl, by decide +kernel, by decide +kernel⟩
def spPot (K : PySem.W.Frag) : Sp := fun vs H Q _ => ∃ (a : Addr) (ns : List Int) (t : Nat), vs = [.ref a, .int (t : Int)] ∧ SqL K H a (ns.map V.int) ∧ ns.length ≤ 63 ∧ t ≤ 9 ∧
  ∀ (H' : Hp) (p : Addr), Same H H' → H p = none → Wl H' p → Q (.ref p) H'
def spDraw : Sp := fun vs H Q _ => ∃ (p : Addr) (m : Int), vs = [.ref p, .int m] ∧ Wl H p ∧ 0 < m ∧ m < 1000000 ∧
  ∀ (r : Int) (H' : Hp), 0 ≤ r → r < m → But p H H' → Wl H' p → Q (.int r) H'
section
variable {P : Program} {w : World} {K : PySem.W.Frag} {mg : Str → Option Value} {base : Heap} {f fD : Addr} {fd dD : FuncData}
theorem ok_pot (F : L2.Fun K "_law_pot" "_law_pot" sPot f fd) (ml : mg "len" = none) (mi : mg "int" = none) (ma : mg "abs" = none) : FnOk P w K mg base CX0 1 f fd ["script", "turn"] (spPot K) := by
  refine F.ok scPot (fun vs H Q E h => ?_) (fun cdv A outer s H vs Q E hr h => ?_)
  · obtain ⟨a, ns, t, rfl, _⟩ := h
    rfl
  obtain ⟨a, ns, t, rfl, hS, h63, h2, q⟩ := h
  refine ⟨_, pss_cons (ps_set (i := 2) scPot.nd rfl (.inl rfl) (pe_op op_add pe_int (pe_op op_mul pe_int (pv 1))))
    (pss_cons (ps_for PassesOwn.never rfl (pi_list (pe_slice sl_list (pv 0) po_none (po_some pe_int))) (pg_name (i := 3) scPot.nd rfl (.inl rfl))
      (pss_one (ps_set (i := 2) scPot.nd rfl (.inl rfl) (pe_op op_mod (pe_callTy call_int1 (by rfl) mi (by decide +kernel) (pa_cons (pe_op op_add (pe_op op_add (pe_op op_mul (pv 2) pe_int)
        (pe_op op_mul (pe_op op_mod (pe_callTy call_int1 (by rfl) mi (by decide +kernel) (pa_cons (pv 3) pa_nil)) pe_int) pe_int)) pe_int) pa_nil)) pe_int))))
    (pss_cons (ps_set (i := 4) scPot.nd rfl (.inl rfl) (pe_ifExp (pt_cmpR op_lt (pv 1) (pe_callB call_len_seq (by rfl) ml PySem.boot_len (pa_cons (pv 0) pa_nil)) (nomark _))
        (pe_callTy call_int1 (by rfl) mi (by decide +kernel) (pa_cons (pe_ix ix_list (pv 0) (pv 1) (fun _ _ => rfl)) pa_nil)) pe_int))
    (pss_cons (ps_set (i := 5) scPot.nd rfl (.inl rfl) (pe_ifExp (pt_cmpR op_ge (pe_callB call_abs (by rfl) ma (by decide +kernel) (pa_cons (pv 4) pa_nil)) (pe_op op_pow pe_int pe_int) (nomark _))
        (pe_callB call_abs (by rfl) ma (by decide +kernel) (pa_cons (pv 4) pa_nil)) pe_int))
    (pss_one (ps_ret (pe_lst (pa_cons (pv 5) (pa_cons (pe_op op_mod (pe_callTy call_int1 (by rfl) mi (by decide +kernel) (pa_cons (pe_op op_add (pe_op op_add (pe_op op_mul (pv 2) pe_int)
        (pe_op op_mod (pe_callTy call_int1 (by rfl) mi (by decide +kernel) (pa_cons (pv 4) pa_nil)) pe_int)) pe_int) pa_nil)) pe_int) (pa_cons pe_int pa_nil))))))))), ?_⟩
  have hl : (ns.map V.int).length = ns.length := List.length_map _
  refine ⟨_, rfl, _, _, rfl, rfl, .inl ⟨by decide, by decide⟩, _, _, rfl, rfl, ?_⟩
  refine ⟨_, rfl, 10, rfl, a, _, rfl, hS, fun p np => ?_⟩
  refine ⟨p, rfl, ⟨_, SqL.of upd_same⟩, for_list (K := K) (a := p) (xs := cutV (ns.map V.int) none (some 10)) (fun i σ H' => ∃ (m : Int) (e : Option V), σ = [some (.ref a), some (.int (t : Int)), some (.int m), e, none, none] ∧ H' = upd H p (.lst (cutV (ns.map V.int) none (some 10)))) ⟨_, none, rfl, rfl⟩ ?_ ?_ ?_⟩
  · rintro i σ H' _ ⟨m, e, rfl, rfl⟩
    exact SqL.of upd_same
  · rintro i x σ H' hi ⟨m, e, rfl, rfl⟩
    obtain ⟨z, rfl⟩ : ∃ z, x = V.int z := by
      have mem := List.mem_of_getElem? hi
      unfold cutV at mem
      have mem2 := List.mem_of_mem_drop (List.mem_of_mem_take mem)
      obtain ⟨z, _, e⟩ := List.mem_map.mp mem2
      exact ⟨z, e.symm⟩
    refine ⟨_, rfl, _, _, rfl, rfl, .inr ⟨by decide, by decide⟩, _, rfl, .inl ⟨_, rfl, _, _, rfl, rfl, (show (0 : Int) < 1999999943 by decide), _, _, rfl, rfl, .inr ⟨by decide, by decide⟩, _, _, rfl, rfl, _, _, rfl, rfl, .inl ⟨_, rfl, _, _, rfl, rfl, (show (0 : Int) < 2147483249 by decide), ?_⟩⟩⟩
    exact ⟨_, _, rfl, rfl⟩
  rintro σ H' ⟨m, e, rfl, rfl⟩
  have s1 := same_new np (.lst (cutV (ns.map V.int) none (some 10)))
  have hS1 := L2.Same.seq s1 hS
  generalize upd H p (.lst (cutV (ns.map V.int) none (some 10))) = H1 at s1 hS1 ⊢
  refine ⟨_, rfl, _, rfl, a, _, rfl, .inl hS1, _, _, rfl, rfl, _, rfl, ?_⟩
  refine' join (i := 4) (R := fun v => ∃ n : Int, v = V.int n) (fun go => ?_) ?_
  rotate_left 3
  · refine iteB (fun c => ?_) (fun c => ?_)
    · have c1 : ((t : Nat) : Int) < (((ns.map V.int).length : Nat) : Int) := of_decide_eq_true c
      have c2 : t < ns.length := by rw [hl] at c1; omega
      have at1 : atI (ns.map V.int) ((t : Nat) : Int) = some (.int ns[t]) := atI_nat (by rw [List.getElem?_map, List.getElem?_eq_getElem c2] <;> rfl)
      exact ⟨_, rfl, _, rfl, a, _, _, _, rfl, rfl, hS1, at1, .inl ⟨_, rfl, go _ ⟨_, rfl⟩⟩⟩
    · exact go _ ⟨_, rfl⟩
  rintro _ ⟨cell, rfl⟩
  refine ⟨_, rfl, _, rfl, _, _, rfl, rfl, (by show (0 : Int) ≤ 16 ∧ (16 : Int) ≤ 1000000 ∧ (10 : Int).natAbs < 2 ^ 64; decide), _, _, rfl, rfl, _, rfl, ?_⟩
  refine' join (i := 5) (R := fun v => ∃ n : Int, v = V.int n) (fun go => ?_) ?_
  rotate_left 3
  · refine iteB (fun c => ?_) (fun c => ?_)
    · exact ⟨_, rfl, _, rfl, go _ ⟨_, rfl⟩⟩
    · exact go _ ⟨_, rfl⟩
  rintro _ ⟨dg, rfl⟩
  refine ⟨_, rfl, _, rfl, _, _, rfl, rfl, .inr ⟨by decide, by decide⟩, _, rfl, .inl ⟨_, rfl, _, _, rfl, rfl, (show (0 : Int) < 1999999943 by decide), _, _, rfl, rfl, _, _, rfl, rfl, .inl ⟨_, rfl, _, _, rfl, rfl, (show (0 : Int) < 2147483249 by decide), ?_⟩⟩⟩
  refine ⟨(by show 3 ≤ sizeLine; decide), fun r nr => ?_⟩
  exact q _ r (s1.trans (same_new nr _)) (s1.free nr) (wl_mk upd_same (Int.emod_nonneg _ (by decide)) (Int.emod_lt_of_pos _ (by decide)))
theorem ok_draw (F : L2.Fun K "_law_draw" "_law_draw" sDraw f fd) (md : mg "divmod" = none) (mi : mg "int" = none) : FnOk P w K mg base CX0 1 f fd ["pot", "few"] spDraw := by
  refine F.ok scDraw (fun vs H Q E h => ?_) (fun cdv A outer s H vs Q E hr h => ?_)
  · obtain ⟨p, m, rfl, _⟩ := h
    rfl
  obtain ⟨p, m, rfl, ⟨a, b, c, hp⟩, m0, m1, q⟩ := h
  refine ⟨_, pss_cons (ps_if (pt_cmpR op_gt (pe_ix ix_list (pv 0) pe_int (fun _ _ => rfl)) pe_int (nomark _))
      (pss_cons (ps_asg (pe_callB call_divmod (by rfl) md (by decide +kernel) (pa_cons (pe_ix ix_list (pv 0) pe_int (fun _ _ => rfl)) (pa_cons (pv 1) pa_nil))) (pg_tup (by rfl) (pgs_cons (pg_sub (pv 0) pe_int set_list) (pgs_cons (pg_name (i := 2) scDraw.nd rfl (.inl rfl)) pgs_nil))))
        (pss_one (ps_ret (pv 2)))) pss_nil)
    (pss_cons (ps_asg (pe_op op_add (pe_ix ix_list (pv 0) pe_int (fun _ _ => rfl)) pe_int) (pg_sub (pv 0) pe_int set_list))
    (pss_cons (ps_asg (pe_op op_mod (pe_callTy call_int1 (by rfl) mi (by decide +kernel) (pa_cons (pe_op op_add (pe_op op_add (pe_op op_mul (pe_ix ix_list (pv 0) pe_int (fun _ _ => rfl)) (pe_op op_add pe_int
        (pe_op op_mul pe_int (pe_ix ix_list (pv 0) pe_int (fun _ _ => rfl))))) pe_int) (pe_ix ix_list (pv 0) pe_int (fun _ _ => rfl))) pa_nil)) pe_int) (pg_sub (pv 0) pe_int set_list))
    (pss_one (ps_ret (pe_op op_mod (pe_callTy call_int1 (by rfl) mi (by decide +kernel) (pa_cons (pe_op op_fdiv (pe_ix ix_list (pv 0) pe_int (fun _ _ => rfl)) pe_int) pa_nil)) (pv 1)))))), ?_⟩
  refine ⟨_, rfl, p, _, _, _, rfl, rfl, SqL.of hp, rfl, _, _, rfl, rfl, _, rfl, iteB (fun c1 => ?_) (fun _ => ?_)⟩
  · have a0 : a > 0 := of_decide_eq_true c1
    refine ⟨_, rfl, p, _, _, _, rfl, rfl, SqL.of hp, rfl, _, rfl, a, m, rfl, ⟨m0, by omega⟩, fun t nt => ?_⟩
    refine ⟨t, _, rfl, SqT.of upd_same, rfl, _, _, rfl, _, rfl, p, [.int a, .int ((b.val : Nat) : Int), .int c], _, 0, rfl, rfl, ?_, rfl, ?_⟩
    · rw [upd_ne (ne_of_none hp nt)]
      exact hp
    refine ⟨_, _, rfl, ⟨rfl, _, rfl, ?_⟩⟩
    exact q (a % m) _ (Int.emod_nonneg _ (by omega)) (Int.emod_lt_of_pos _ m0) ((But.new nt).trans But.put) ⟨_, b, _, upd_same⟩
  · have b1 : ((b.val : Nat) : Int) < 2147483249 := by have := b.isLt; omega
    refine ⟨_, rfl, p, _, _, _, rfl, rfl, SqL.of hp, rfl, _, _, rfl, rfl, _, rfl, p, [.int a, .int ((b.val : Nat) : Int), .int c], _, 2, rfl, rfl, hp, rfl, ?_⟩
    have h1 : upd H p (.lst [.int a, .int ((b.val : Nat) : Int), .int (c + 1)]) p = some (.lst [.int a, .int ((b.val : Nat) : Int), .int (c + 1)]) := upd_same
    refine ⟨_, rfl, p, _, _, _, rfl, rfl, SqL.of h1, rfl, _, rfl, p, _, _, _, rfl, rfl, SqL.of h1, rfl, _, _, rfl, rfl, .inl ⟨by decide, by decide⟩, _, _, rfl, rfl, _, _, rfl, rfl, .inl ⟨by omega, by omega⟩, _, _, rfl, rfl, _, rfl, p, _, _, _, rfl, rfl, SqL.of h1, rfl, _, _, rfl, rfl,
      .inl ⟨_, rfl, _, _, rfl, rfl, (show (0 : Int) < 2147483249 by decide), _, rfl, p, [.int a, .int ((b.val : Nat) : Int), .int (c + 1)], _, 1, rfl, rfl, h1, rfl, ?_⟩⟩
    refine ⟨_, rfl, p, _, _, _, rfl, rfl, SqL.of upd_same, rfl, _, _, rfl, rfl, ⟨by decide, by decide⟩, .inl ⟨_, rfl, _, rfl, _, _, rfl, rfl, m0, ?_⟩⟩
    exact q _ _ (Int.emod_nonneg _ (by omega)) (Int.emod_lt_of_pos _ m0) (But.put.trans But.put) (wl_mk upd_same (Int.emod_nonneg _ (by decide)) (Int.emod_lt_of_pos _ (by decide)))
end
end My

set_option maxHeartbeats 4000000
namespace My
open PySem PySem.Spec PyProof.Rows L2
abbrev sPick : Stmt := top 44
theorem scPick : FnScope ["pot", "some"] ["pot", "some"] (defScope sPick) := ⟨rfl, rfl, rfl, by decide +kernel, rfl, by decide +kernel, by decide +kernel⟩
/-- from a tuple that stands beside the pot -/
def spPickW (K : PySem.W.Frag) : Sp := fun vs H Q _ => ∃ (p t : Addr) (xs : List V), vs = [.ref p, .ref t] ∧ Wl H p ∧ SqT K (hide p H) t xs ∧ 0 < xs.length ∧ xs.length < 5000 ∧
  ∀ (i : Nat) (v : V) (H' : Hp), xs[i]? = some v → But p H H' → Wl H' p → Q v H'
def spPickL (K : PySem.W.Frag) : Sp := fun vs H Q _ => ∃ (p t : Addr) (xs : List V), vs = [.ref p, .ref t] ∧ Wl H p ∧ H t = some (.lst xs) ∧ t ≠ p ∧ 0 < xs.length ∧ xs.length < 5000 ∧
  ∀ (i : Nat) (v : V) (H' : Hp), xs[i]? = some v → But p H H' → Wl H' p → Q v H'
section
variable {P : Program} {w : World} {K : PySem.W.Frag} {mg : Str → Option Value} {base : Heap} {f fD : Addr} {fd dD : FuncData}
theorem ok_pickW (F : L2.Fun K "_law_pick" "_law_pick" sPick f fd) (GD : FnOk P w K mg base CX0 1 fD dD ["pot", "few"] spDraw) (bD : L2.Binds K dD ["pot", "few"] []) (kD : PySem.W.keepIn K (.ref fD) = true) (mD : mg "_law_draw" = some (.ref fD)) (ml : mg "len" = none) :
    FnOk P w K mg base CX0 2 f fd ["pot", "some"] (spPickW K) := by
  refine F.ok scPick (fun vs H Q E h => ?_) (fun cdv A outer s H vs Q E hr h => ?_)
  · obtain ⟨p, t, xs, rfl, _⟩ := h
    rfl
  obtain ⟨p, t, xs, rfl, hW, hT, l0, l1, q⟩ := h
  refine ⟨_, pss_one (ps_ret (pe_ix ix_tup (pv 1) (pe_call GD hr (by rfl) mD kD bD .nil pass0 (pa_cons (pv 0) (pa_cons (pe_callB call_len_seq (by rfl) ml PySem.boot_len (pa_cons (pv 1) pa_nil)) pa_nil))) (fun _ _ => rfl))), ?_⟩
  have hT0 : SqT K H t xs := Same.tup (hide_sub p H) hT
  refine ⟨_, rfl, _, rfl, _, rfl, t, xs, rfl, .inr hT0, p, _, rfl, hW, by omega, by omega, fun r H' r0 r1 bt hW' => ?_⟩
  obtain ⟨i, rfl⟩ : ∃ i : Nat, r = (i : Int) := ⟨r.toNat, by omega⟩
  have hi : i < xs.length := by omega
  exact ⟨t, xs, _, xs[i], rfl, rfl, Same.tup (hide_sub p H') (Same.tup bt.hide hT), atI_nat (List.getElem?_eq_getElem hi), q i _ H' (List.getElem?_eq_getElem hi) bt hW'⟩
theorem ok_pickL (F : L2.Fun K "_law_pick" "_law_pick" sPick f fd) (GD : FnOk P w K mg base CX0 1 fD dD ["pot", "few"] spDraw) (bD : L2.Binds K dD ["pot", "few"] []) (kD : PySem.W.keepIn K (.ref fD) = true) (mD : mg "_law_draw" = some (.ref fD)) (ml : mg "len" = none) :
    FnOk P w K mg base CX0 2 f fd ["pot", "some"] (spPickL K) := by
  refine F.ok scPick (fun vs H Q E h => ?_) (fun cdv A outer s H vs Q E hr h => ?_)
  · obtain ⟨p, t, xs, rfl, _⟩ := h
    rfl
  obtain ⟨p, t, xs, rfl, hW, hT, tp, l0, l1, q⟩ := h
  refine ⟨_, pss_one (ps_ret (pe_ix (r := rIxL K) ix_list (pv 1) (pe_call GD hr (by rfl) mD kD bD .nil pass0 (pa_cons (pv 0) (pa_cons (pe_callB call_len_seq (by rfl) ml PySem.boot_len (pa_cons (pv 1) pa_nil)) pa_nil))) (fun _ _ => rfl))), ?_⟩
  refine ⟨_, rfl, _, rfl, _, rfl, t, xs, rfl, .inl (SqL.of hT), p, _, rfl, hW, by omega, by omega, fun r H' r0 r1 bt hW' => ?_⟩
  obtain ⟨i, rfl⟩ : ∃ i : Nat, r = (i : Int) := ⟨r.toNat, by omega⟩
  have hi : i < xs.length := by omega
  exact ⟨t, xs, _, xs[i], rfl, rfl, SqL.of (bt _ _ tp hT), atI_nat (List.getElem?_eq_getElem hi), q i _ H' (List.getElem?_eq_getElem hi) bt hW'⟩
end
end My

set_option maxHeartbeats 8000000
namespace My
open PySem PySem.Spec PyProof.Rows L2
abbrev sOdd : Stmt := top 45
theorem scOdd : FnScope ["pot", "some", "more", "last"] ["pot"] (defScope sOdd) := ⟨rfl, rfl, rfl, by decide +kernel, rfl, by decide +kernel, by decide +kernel⟩
/-- a value of some kind -/
def spOdd (K : PySem.W.Frag) : Sp := fun vs H Q _ => ∃ p : Addr, vs = [.ref p] ∧ Wl H p ∧ ∀ (v : V) (H' : Hp), But p H H' → Wl H' p → Va K H' v → Q v H'
section
variable {P : Program} {w : World} {K : PySem.W.Frag} {mg : Str → Option Value} {base : Heap} {f fD fK : Addr} {fd dD dK : FuncData}
theorem ok_odd (F : L2.Fun K "_law_odd" "_law_odd" sOdd f fd) (GK : FnOk P w K mg base CX0 2 fK dK ["pot", "some"] (spPickL K)) (bK : L2.Binds K dK ["pot", "some"] []) (kK : PySem.W.keepIn K (.ref fK) = true) (mK : mg "_law_pick" = some (.ref fK)) : FnOk P w K mg base CX0 3 f fd ["pot"] (spOdd K) := by
  refine F.ok scOdd (fun vs H Q E h => ?_) (fun cdv A outer s H vs Q E hr h => ?_)
  · obtain ⟨p, rfl, _⟩ := h
    rfl
  obtain ⟨p, rfl, hW, q⟩ := h
  refine ⟨_, pss_cons (ps_set (i := 1) scOdd.nd rfl (.inl rfl) (pe_lst (pa_cons pe_non (pa_cons pe_bl (pa_cons pe_bl (pa_cons pe_int (pa_cons pe_int (pa_cons (pe_un un_neg pe_int) (pa_cons (pe_op op_pow pe_int pe_int) (pa_cons pe_str (pa_cons pe_str (pa_cons pe_str (pa_cons (pe_tup pa_nil) (pa_cons (pe_tup (pa_cons pe_int pa_nil)) (pa_cons (pe_tup (pa_cons pe_int (pa_cons pe_int pa_nil))) (pa_cons (pe_tup (pa_cons pe_int (pa_cons pe_int pa_nil))) (pa_cons (pe_tup (pa_cons pe_int (pa_cons pe_int pa_nil))) (pa_cons (pe_tup (pa_cons (pe_tup (pa_cons pe_int (pa_cons pe_int pa_nil))) pa_nil)) pa_nil))))))))))))))))))
    (pss_cons (ps_set (i := 2) scOdd.nd rfl (.inl rfl) (pe_lst (pa_cons (pe_tup (pa_cons (pe_tup (pa_cons pe_int (pa_cons pe_int pa_nil))) pa_nil)) (pa_cons (pe_tup (pa_cons (pe_tup (pa_cons pe_int (pa_cons pe_int pa_nil))) (pa_cons (pe_tup (pa_cons pe_int (pa_cons pe_int pa_nil))) pa_nil))) (pa_cons (pe_lst pa_nil) (pa_cons (pe_lst (pa_cons (pe_tup (pa_cons pe_int (pa_cons pe_int pa_nil))) pa_nil)) (pa_cons pe_dnewK (pa_cons (pe_tup (pa_cons pe_bl pa_nil)) (pa_cons (pe_tup (pa_cons pe_int (pa_cons pe_bl pa_nil))) (pa_cons (pe_tup (pa_cons (pe_tup (pa_cons pe_int (pa_cons pe_bl pa_nil))) pa_nil)) (pa_cons (pe_tup (pa_cons pe_non pa_nil)) (pa_cons (pe_tup (pa_cons pe_str pa_nil)) pa_nil))))))))))))
    (pss_cons (ps_set (i := 3) scOdd.nd rfl (.inl rfl) (pe_lst (pa_cons (pe_tup (pa_cons pe_int (pa_cons (pe_tup pa_nil) pa_nil))) (pa_cons (pe_tup (pa_cons pe_int (pa_cons (pe_tup pa_nil) pa_nil))) (pa_cons (pe_tup (pa_cons pe_int (pa_cons (pe_tup (pa_cons (pe_tup (pa_cons pe_int (pa_cons pe_int pa_nil))) pa_nil)) pa_nil))) (pa_cons (pe_tup (pa_cons pe_int (pa_cons pe_int (pa_cons (pe_tup (pa_cons (pe_tup (pa_cons pe_int (pa_cons pe_int pa_nil))) pa_nil)) pa_nil)))) (pa_cons (pe_tup (pa_cons pe_int (pa_cons pe_int (pa_cons (pe_tup pa_nil) pa_nil)))) (pa_cons (pe_tup (pa_cons (pe_tup pa_nil) (pa_cons (pe_tup pa_nil) pa_nil))) (pa_cons (pe_tup (pa_cons (pe_tup (pa_cons pe_int pa_nil)) pa_nil)) (pa_cons (pe_tup (pa_cons pe_str (pa_cons (pe_tup pa_nil) pa_nil))) pa_nil))))))))))
    (pss_one (ps_ret (pe_call GK hr (by rfl) mK kK bK .nil pass0 (pa_cons (pv 0) (pa_cons (pe_op op_cat (pe_op op_cat (pv 1) (pv 2)) (pv 3)) pa_nil))))))), ?_⟩
  have mk1 := (mk_cons (K := K) mk_non (mk_cons (mk_bl true) (mk_cons (mk_bl false) (mk_cons (mk_int 0) (mk_cons (mk_int 1) (mk_cons (mk_neg 1) (mk_cons (mk_pow 10 20 ⟨by decide, by decide, by decide⟩) (mk_cons (mk_str "") (mk_cons (mk_str "x") (mk_cons (mk_str "hole") (mk_cons (mk_tup (by decide) mk_nil) (mk_cons (mk_tup (by decide) (mk_cons (mk_int 0) mk_nil)) (mk_cons (mk_tup (by decide) (mk_cons (mk_int 1) (mk_cons (mk_int 0) mk_nil))) (mk_cons (mk_tup (by decide) (mk_cons (mk_int 0) (mk_cons (mk_int 1) mk_nil))) (mk_cons (mk_tup (by decide) (mk_cons (mk_int 0) (mk_cons (mk_int 0) mk_nil))) (mk_cons (mk_tup (by decide) (mk_cons (mk_tup (by decide) (mk_cons (mk_int 0) (mk_cons (mk_int 1) mk_nil))) mk_nil)) mk_nil))))))))))))))))
  have mk2 := (mk_cons (K := K) (mk_tup (by decide) (mk_cons (mk_tup (by decide) (mk_cons (mk_int 1) (mk_cons (mk_int 0) mk_nil))) mk_nil)) (mk_cons (mk_tup (by decide) (mk_cons (mk_tup (by decide) (mk_cons (mk_int 0) (mk_cons (mk_int 1) mk_nil))) (mk_cons (mk_tup (by decide) (mk_cons (mk_int 1) (mk_cons (mk_int 0) mk_nil))) mk_nil))) (mk_cons (mk_lst (by decide) mk_nil) (mk_cons (mk_lst (by decide) (mk_cons (mk_tup (by decide) (mk_cons (mk_int 0) (mk_cons (mk_int 1) mk_nil))) mk_nil)) (mk_cons mk_dct (mk_cons (mk_tup (by decide) (mk_cons (mk_bl true) mk_nil)) (mk_cons (mk_tup (by decide) (mk_cons (mk_int 0) (mk_cons (mk_bl true) mk_nil))) (mk_cons (mk_tup (by decide) (mk_cons (mk_tup (by decide) (mk_cons (mk_int 0) (mk_cons (mk_bl true) mk_nil))) mk_nil)) (mk_cons (mk_tup (by decide) (mk_cons mk_non mk_nil)) (mk_cons (mk_tup (by decide) (mk_cons (mk_str "0") mk_nil)) mk_nil))))))))))
  have mk3 := (mk_cons (K := K) (mk_tup (by decide) (mk_cons (mk_int 0) (mk_cons (mk_tup (by decide) mk_nil) mk_nil))) (mk_cons (mk_tup (by decide) (mk_cons (mk_int 1) (mk_cons (mk_tup (by decide) mk_nil) mk_nil))) (mk_cons (mk_tup (by decide) (mk_cons (mk_int 2) (mk_cons (mk_tup (by decide) (mk_cons (mk_tup (by decide) (mk_cons (mk_int 0) (mk_cons (mk_int 1) mk_nil))) mk_nil)) mk_nil))) (mk_cons (mk_tup (by decide) (mk_cons (mk_int 1) (mk_cons (mk_int 1) (mk_cons (mk_tup (by decide) (mk_cons (mk_tup (by decide) (mk_cons (mk_int 0) (mk_cons (mk_int 0) mk_nil))) mk_nil)) mk_nil)))) (mk_cons (mk_tup (by decide) (mk_cons (mk_int 1) (mk_cons (mk_int 1) (mk_cons (mk_tup (by decide) mk_nil) mk_nil)))) (mk_cons (mk_tup (by decide) (mk_cons (mk_tup (by decide) mk_nil) (mk_cons (mk_tup (by decide) mk_nil) mk_nil))) (mk_cons (mk_tup (by decide) (mk_cons (mk_tup (by decide) (mk_cons (mk_int 0) mk_nil)) mk_nil)) (mk_cons (mk_tup (by decide) (mk_cons (mk_str "vertex") (mk_cons (mk_tup (by decide) mk_nil) mk_nil))) mk_nil))))))))
  refine set_mk mk1 (by decide) fun vs1 F1 H2 t1 l1 h1 n1 f1 => ?_
  have w1 := hW.same t1
  have p1 : F1 ≠ p := hW.ne n1
  refine set_mk mk2 (by decide) fun vs2 F2 H4 t2 l2 h2 n2 f2 => ?_
  refine set_mk mk3 (by decide) fun vs3 F3 H6 t3 l3 h3 n3 f3 => ?_
  have f2 := t3 _ _ f2
  have f1 := (t2.trans t3) _ _ f1
  have h2 := fun x hx => (h2 x hx).same t3
  have h1 := fun x hx => (h1 x hx).same (t2.trans t3)
  have t6 := t1.trans (t2.trans t3)
  refine ⟨_, rfl, _, rfl, _, rfl, F1, F2, _, _, rfl, rfl, f1, f2, by rw [l1, l2]; exact small (by decide), fun G1 m1 => ?_⟩
  have e4 := same_new m1 (.lst (vs1 ++ vs2))
  have g1 := upd_same (H := H6) (a := G1) (o := .lst (vs1 ++ vs2))
  have f3 := e4 _ _ f3
  generalize upd H6 G1 (.lst (vs1 ++ vs2)) = H7 at e4 g1 f3 ⊢
  have w7 := (w1.same (t2.trans t3)).same e4
  refine ⟨_, rfl, G1, F3, _, _, rfl, rfl, g1, f3, by rw [List.length_append, l1, l2, l3]; exact small (by decide), fun G2 m2 => ?_⟩
  have e5 := same_new m2 (.lst (vs1 ++ vs2 ++ vs3))
  have hh := fun x hx => (va_app (va_app h1 h2) h3 x hx).same (e4.trans e5)
  have w8 := w7.same e5
  refine ⟨p, G2, _, rfl, w8, upd_same, w7.ne m2, by rw [List.length_append, List.length_append, l1, l2, l3]; decide, by rw [List.length_append, List.length_append, l1, l2, l3]; decide, fun i v H9 hi b9 w9 => ?_⟩
  exact q v H9 ((But.of (t6.trans (e4.trans e5))).trans b9) w9 ((hh v (List.mem_of_getElem? hi)).but b9 w8 w9)
end
end My

set_option maxHeartbeats 8000000
namespace My
open PySem PySem.Spec PyProof.Rows L2
abbrev sBent : Stmt := top 46
theorem scBent : FnScope ["pot", "value", "deep", "at", "some"] ["pot", "value", "deep"] (defScope sBent) := ⟨rfl, rfl, rfl, by decide +kernel, rfl, by decide +kernel, by decide +kernel⟩
/-- numbers and tuples of such, k deep -/
inductive Cl : Nat → Sh → Prop
  | int {k : Nat} (i : Int) (h : i.natAbs ≤ 1000000) : Cl k (.int i)
  | str {k : Nat} (x : Str) (h : PyData.strOk x = true) : Cl k (.str x)
  | tup {k : Nat} {ss : List Sh} (l : ss.length ≤ 400) (h : ∀ z ∈ ss, Cl k z) : Cl (k + 1) (.tup ss)
mutual
theorem Cl.dp {K : PySem.W.Frag} {H : Hp} : ∀ {k : Nat} {s : Sh} {v : V}, Cl k s → ShAt K H v s → ∃ d, Dp K H v d ∧ d.canLay0 = true ∧ d.depth ≤ k + 1 ∧ (∀ ss, s = .tup ss → ∃ ds, d = .tuple ds ∧ ds.length = ss.length)
  | _, _, _, .int i _, .int _ => ⟨_, .int i, by simp [PyData.canLay0], by simp [PyData.depth], fun _ e => by cases e⟩
  | _, _, _, .str x h, .str _ => ⟨_, .str x, by simp [PyData.canLay0, h], by simp [PyData.depth], fun _ e => by cases e⟩
  | _, _, _, .tup l h, .tup (t := t) hx r => by
    obtain ⟨ds, h1, h2, h3, h4⟩ := Cl.dps h r
    refine ⟨.tuple ds, .tup hx h1, by simp [PyData.canLay0, h2], by simp only [PyData.depth]; omega, fun ss e => ?_⟩
    cases e
    exact ⟨ds, rfl, h4⟩
theorem Cl.dps {K : PySem.W.Frag} {H : Hp} : ∀ {k : Nat} {ss : List Sh} {xs : List V}, (∀ z ∈ ss, Cl k z) → ShsAt K H xs ss → ∃ ds, DpAll K H xs ds ∧ PyData.canLayAll0 ds = true ∧ PyData.depthAll ds ≤ k + 1 ∧ ds.length = ss.length
  | _, _, _, _, .nil => ⟨[], .nil, by simp [PyData.canLayAll0], by simp [PyData.depthAll], rfl⟩
  | _, _, _, h, .cons a r => by
    obtain ⟨d, a1, a2, a3, _⟩ := Cl.dp (h _ (List.mem_cons_self ..)) a
    obtain ⟨ds, b1, b2, b3, b4⟩ := Cl.dps (fun z hz => h z (List.mem_cons_of_mem _ hz)) r
    exact ⟨d :: ds, .cons a1 b1, by simp [PyData.canLayAll0, a2, b2], by simp only [PyData.depthAll]; omega, by rw [List.length_cons, List.length_cons, b4]⟩
end
theorem Cl.ne {K : PySem.W.Frag} {H : Hp} {k : Nat} {ss : List Sh} {v : V} (k9 : k ≤ 50) (h : Cl k (.tup ss)) (hv : ShAt K H v (.tup ss)) : ∃ d, Dp K H v d ∧ SeqAt.shaped d = true ∧ (!PyData.eqv d (.tuple [])) = decide (0 < ss.length) := by
  obtain ⟨d, h1, h2, h3, h4⟩ := h.dp hv
  obtain ⟨ds, rfl, e⟩ := h4 ss rfl
  refine ⟨_, h1, ?_, ?_⟩
  · unfold SeqAt.shaped
    rw [Bool.and_eq_true, decide_eq_true_eq]
    exact ⟨h2, by omega⟩
  · rw [← e]
    cases ds with
    | nil => simp [PyData.eqv, PyData.eqvAll]
    | cons a r => simp [PyData.eqv, PyData.eqvAll]
theorem Cl.lb : ∀ {k : Nat} {s : Sh}, Cl k s → Lb s
  | _, _, .int i _ => .int i
  | _, _, .str x _ => .str x
  | _, _, .tup l h => .tup (by omega) fun z hz => Cl.lb (h z hz)
theorem cl_va {K : PySem.W.Frag} {H : Hp} {c : Nat} {xs : List V} {ss : List Sh} (r : ShsAt K H xs ss) (h : ∀ z ∈ ss, Cl c z) : ∀ x ∈ xs, Va K H x := fun x hx => by
  obtain ⟨s, m, hs⟩ := r.mem hx
  exact ⟨s, hs, (h s m).lb⟩
theorem nil_shaped : SeqAt.shaped (.tuple []) = true := by decide +kernel
def spBent (K : PySem.W.Frag) (k : Nat) : Sp := fun vs H Q _ => ∃ (p : Addr) (v : V) (s : Sh) (d : Nat) (c : Nat), vs = [.ref p, v, .int (d : Int)] ∧ Wl H p ∧ ShAt K H v s ∧ Cl c s ∧ c ≤ 50 ∧ d < k ∧ ∀ (v' : V) (H' : Hp), But p H H' → Wl H' p → Va K H' v' → Q v' H'
section
variable {P : Program} {w : World} {K : PySem.W.Frag} {mg : Str → Option Value} {base : Heap} {f fD fK fO : Addr} {fd dD dK dO : FuncData}
theorem log_small {i : Int} (h : i.natAbs ≤ 1000000) : i.natAbs.log2 < 1920 := by
  by_cases z : i.natAbs = 0
  · rw [z]; decide
  · rw [Nat.log2_lt z]
    exact Nat.lt_of_le_of_lt h (Nat.lt_of_lt_of_le (by decide : (1000000 : Nat) < 2 ^ 20) (Nat.pow_le_pow_right (by decide) (by omega : 20 ≤ 1920)))
theorem ok_bent (F : L2.Fun K "_law_bent" "_law_bent" sBent f fd) (B : L2.Binds K fd ["pot", "value", "deep"] []) (kF : PySem.W.keepIn K (.ref f) = true) (mF : mg "_law_bent" = some (.ref f))
    (GD : FnOk P w K mg base CX0 1 fD dD ["pot", "few"] spDraw) (bD : L2.Binds K dD ["pot", "few"] []) (kD : PySem.W.keepIn K (.ref fD) = true) (mD : mg "_law_draw" = some (.ref fD))
    (GK : FnOk P w K mg base CX0 2 fK dK ["pot", "some"] (spPickL K)) (bK : L2.Binds K dK ["pot", "some"] []) (kK : PySem.W.keepIn K (.ref fK) = true) (mK : mg "_law_pick" = some (.ref fK))
    (GO : FnOk P w K mg base CX0 3 fO dO ["pot"] (spOdd K)) (bO : L2.Binds K dO ["pot"] []) (kO : PySem.W.keepIn K (.ref fO) = true) (mO : mg "_law_odd" = some (.ref fO))
    (mi : mg "isinstance" = none) (mt : mg "tuple" = none) (ml : mg "len" = none) (mli : mg "list" = none) (mn : mg "int" = none) (ms : mg "str" = none) : ∀ k, FnOk P w K mg base CX0 (k + 4) f fd ["pot", "value", "deep"] (spBent K k)
  | 0 => by
    refine F.ok scBent (fun vs H Q E h => ?_) (fun cdv A outer s H vs Q E hr h => ?_)
    · obtain ⟨p, v, s, d, c, rfl, _⟩ := h
      rfl
    obtain ⟨p, v, s, d, c, rfl, _, _, _, _, z, _⟩ := h
    omega
  | k + 1 => by
    have G := ok_bent F B kF mF GD bD kD mD GK bK kK mK GO bO kO mO mi mt ml mli mn ms k
    refine F.ok scBent (fun vs H Q E h => ?_) (fun cdv A outer s H vs Q E hr h => ?_)
    · obtain ⟨p, v, s, d, c, rfl, _⟩ := h
      rfl
    obtain ⟨p, v, s, d, c, rfl, hW, hv, hc, c9, dk, q⟩ := h
    have h1 := hr.mono (show 1 ≤ k + 4 by omega)
    have h2 := hr.mono (show 2 ≤ k + 4 by omega)
    have h3 := hr.mono (show 3 ≤ k + 4 by omega)
    refine ⟨_, pss_cons (ps_if (PW.pt (pw_and (pt_val (pe_callB call_isi (by rfl) mi (by decide +kernel) (pa_cons (pv 1) (pa_cons (pe_bltn (v := .ty "tuple") (by rfl) mt (by decide +kernel) rfl) pa_nil)))) (pw_and (pt_cmpR (op_neD hr.units) (pv 1) (pe_tup pa_nil) (nomark _)) (pw_and (pt_cmpR op_gt (pv 2) pe_int (nomark _)) (pw_and1 (pt_cmpR op_gt (pe_call GD h1 (by rfl) mD kD bD .nil pass0 (pa_cons (pv 0) (pa_cons pe_int pa_nil))) pe_int (nomark _)))))))
        (pss_cons (ps_set (i := 3) scBent.nd rfl (.inl rfl) (pe_call GD h1 (by rfl) mD kD bD .nil pass0 (pa_cons (pv 0) (pa_cons (pe_callB call_len_seq (by rfl) ml PySem.boot_len (pa_cons (pv 1) pa_nil)) pa_nil))))
        (pss_one (ps_ret (pe_op op_catW (pe_op op_catW (pe_slice sl_tupW (pv 1) po_none (po_some (pv 3))) (pe_tup (pa_cons (pe_call G hr (by rfl) mF kF B .nil pass0 (pa_cons (pv 0) (pa_cons (pe_ix (r := rIxT K) ix_tup (pv 1) (pv 3) (fun _ _ => rfl)) (pa_cons (pe_op op_sub (pv 2) pe_int) pa_nil)))) pa_nil))) (pe_slice sl_tupW (pv 1) (po_some (pe_op op_add (pv 3) pe_int)) po_none))))) pss_nil)
      (pss_cons (ps_if (pt_val (pe_callB call_isi (by rfl) mi (by decide +kernel) (pa_cons (pv 1) (pa_cons (pe_bltn (v := .ty "tuple") (by rfl) mt (by decide +kernel) rfl) pa_nil))))
        (pss_cons (ps_set (i := 4) scBent.nd rfl (.inl rfl) (pe_lst (pa_cons (pe_callTy call_list_of (by rfl) mli (by decide +kernel) (pa_cons (pv 1) pa_nil))
          (pa_cons (pe_slice sl_tupW (pv 1) po_none (po_some (pe_un un_neg pe_int)))
          (pa_cons (pe_slice sl_tupW (pv 1) (po_some pe_int) po_none)
          (pa_cons (pe_op op_catW (pv 1) (pe_slice sl_tupW (pv 1) (po_some (pe_un un_neg pe_int)) po_none))
          (pa_cons (pe_revT (pv 1))
          (pa_cons (pe_tup pa_nil)
          (pa_cons (pe_tup (pa_cons (pv 1) pa_nil))
          (pa_cons (pe_op op_catW (pv 1) (pe_tup (pa_cons pe_int pa_nil))) pa_nil))))))))))
        (pss_one (ps_ret (pe_call GK h2 (by rfl) mK kK bK .nil pass0 (pa_cons (pv 0) (pa_cons (pv 4) pa_nil)))))) pss_nil)
      (pss_cons (ps_if (pt_val (pe_callB call_isi (by rfl) mi (by decide +kernel) (pa_cons (pv 1) (pa_cons (pe_bltn (v := .ty "int") (by rfl) mn (by decide +kernel) rfl) pa_nil))))
        (pss_one (ps_ret (pe_call GK h2 (by rfl) mK kK bK .nil pass0 (pa_cons (pv 0) (pa_cons (pe_lst (pa_cons (pe_op op_add (pv 1) pe_int) (pa_cons (pe_op op_sub (pv 1) pe_int) (pa_cons (pe_op op_sub pe_int (pv 1)) (pa_cons pe_bl (pa_cons pe_bl (pa_cons pe_non
          (pa_cons (pe_callTy call_str_int (by rfl) ms (by decide +kernel) (pa_cons (pv 1) pa_nil)) (pa_cons (pe_tup (pa_cons (pv 1) pa_nil)) (pa_cons pe_int (pa_cons pe_int pa_nil))))))))))) pa_nil))))) pss_nil)
      (pss_one (ps_ret (pe_call GO h3 (by rfl) mO kO bO .nil pass0 (pa_cons (pv 0) pa_nil)))))), ?_⟩
    obtain ⟨tt, tx, k1, k2, k3⟩ := isi_of hv
    have line : ∀ k, k ≤ 4000 → k ≤ sizeLine := fun k hk => Nat.le_trans hk (by rw [sizeLine_eq]; decide)
    cases hc with
    | int i i9 =>
      have ev : v = .int i := by cases hv; rfl
      subst ev
      refine ⟨_, rfl, .int i, .ty "tuple", tt, .type "tuple", false, rfl, .ty _, tx, k1, _, rfl, iteF (iteF ?_)⟩
      refine ⟨_, rfl, .int i, .ty "tuple", tt, .type "tuple", false, rfl, .ty _, tx, k1, _, rfl, iteF ?_⟩
      refine ⟨_, rfl, .int i, .ty "int", tt, .type "int", true, rfl, .ty _, tx, k2, _, rfl, iteT ?_⟩
      refine ⟨_, rfl, _, rfl, _, _, rfl, rfl, _, rfl, _, _, rfl, rfl, _, rfl, _, _, rfl, rfl, _, rfl, _, rfl, log_small i9, _, rfl, line 1 (by decide), fun t nt => ?_⟩
      have st := same_new nt (.tup [.int i])
      have ht := upd_same (H := H) (a := t) (o := .tup [.int i])
      generalize upd H t (.tup [.int i]) = H1 at st ht ⊢
      refine ⟨line 10 (by decide), fun F nF => ?_⟩
      have sF := same_new nF (.lst [.int (i + 1), .int (i - 1), .int (0 - i), .bl true, .bl false, .non, .str (toString i), .ref t, .int 9, .int 100])
      have w1 := hW.same st
      refine ⟨p, F, _, rfl, w1.same sF, upd_same, w1.ne nF, by simp, by simp, fun j v' H2 hj b2 w2 => ?_⟩
      have w1F := w1.same sF
      have htF := sF _ _ ht
      generalize upd H1 F (.lst [.int (i + 1), .int (i - 1), .int (0 - i), .bl true, .bl false, .non, .str (toString i), .ref t, .int 9, .int 100]) = H1F at sF b2 w1F htF
      have all : ∀ x ∈ [V.int (i + 1), .int (i - 1), .int (0 - i), .bl true, .bl false, .non, .str (toString i), .ref t, .int 9, .int 100], Va K H1F x :=
        va_cons (.int _) (va_cons (.int _) (va_cons (.int _) (va_cons (.bl _) (va_cons (.bl _) (va_cons .non (va_cons (.str _) (va_cons (.tup (SqT.of htF) (by simp) (va_cons (.int i) va_nil)) (va_cons (.int _) (va_cons (.int _) va_nil)))))))))
      exact q v' H2 ((But.of (st.trans sF)).trans b2) w2 ((all v' (List.mem_of_getElem? hj)).but b2 w1F w2)
    | str x ok =>
      have ev : v = .str x := by cases hv; rfl
      subst ev
      refine ⟨_, rfl, .str x, .ty "tuple", tt, .type "tuple", false, rfl, .ty _, tx, k1, _, rfl, iteF (iteF ?_)⟩
      refine ⟨_, rfl, .str x, .ty "tuple", tt, .type "tuple", false, rfl, .ty _, tx, k1, _, rfl, iteF ?_⟩
      refine ⟨_, rfl, .str x, .ty "int", tt, .type "int", false, rfl, .ty _, tx, k2, _, rfl, iteF ?_⟩
      exact ⟨_, rfl, p, rfl, hW, fun v' H' b w' hv' => q v' H' b w' hv'⟩
    | @tup c ss l900 hss =>
      obtain ⟨t, xs, rfl, hT, r⟩ : ∃ t xs, v = .ref t ∧ SqT K H t xs ∧ ShsAt K H xs ss := by
        cases hv with
        | tup h r => exact ⟨_, _, rfl, h, r⟩
      have lx := r.len
      refine ⟨_, rfl, .ref t, .ty "tuple", tt, .type "tuple", true, rfl, .ty _, tx, k1, _, rfl, iteT ?_⟩
      refine' joinT (R := fun σ H' => σ = [some (.ref p), some (.ref t), some (.int (d : Int)), none, none] ∧ But p H H' ∧ Wl H' p) (fun go => ?_) ?_
      rotate_left 1
      · obtain ⟨dd, hd1, hd2, hd3⟩ := Cl.ne c9 (.tup l900 hss) hv
        refine ⟨_, rfl, line 0 (by decide), fun z nz => ?_⟩
        have sz := same_new nz (.tup [])
        have hz := upd_same (H := H) (a := z) (o := .tup [])
        generalize upd H z (.tup []) = H0 at sz hz ⊢
        have w0 := hW.same sz
        have hv0 := hv.same sz
        obtain ⟨dd, hd1, hd2, hd3⟩ := Cl.ne c9 (.tup l900 hss) hv0
        refine ⟨dd, .tuple [], hd1, .tup (SqT.of hz) .nil, hd2, nil_shaped, _, rfl, ?_⟩
        rw [hd3]
        refine iteB (fun c1 => ?_) (fun _ => iteF (go _ _ ⟨rfl, But.of sz, w0⟩))
        have l0 : 0 < ss.length := of_decide_eq_true c1
        refine ⟨_, rfl, _, _, rfl, rfl, _, rfl, iteB (fun c2 => ?_) (fun _ => iteF (go _ _ ⟨rfl, But.of sz, w0⟩))⟩
        have d0 : (0 : Int) < (d : Int) := of_decide_eq_true c2
        refine ⟨_, rfl, p, 4, rfl, w0, by decide, by decide, fun r1 H1 _ _ b1 w1 => ?_⟩
        refine ⟨_, _, rfl, rfl, _, rfl, iteB (fun _ => ?_) (fun _ => go _ _ ⟨rfl, (But.of sz).trans b1, w1⟩)⟩
        have T1 := TS.but b1 w0
        have t1 : SqT K H1 t xs := T1.tup (Same.tup sz hT)
        refine ⟨_, rfl, _, rfl, t, xs, rfl, .inr t1, p, _, rfl, w1, by omega, by omega, fun a H2 a0 a1 b2 w2 => ?_⟩
        obtain ⟨j, rfl⟩ : ∃ j : Nat, a = (j : Int) := ⟨a.toNat, by omega⟩
        have hj : j < xs.length := by omega
        have t2 := (TS.but b2 w1).tup t1
        have b02 := (But.of sz).trans (b1.trans b2)
        refine ⟨_, rfl, _, rfl, _, rfl, t, xs, rfl, t2, fun p1 H3 s3 hp1 => ?_⟩
        have w3 := w2.same s3
        have t3 := Same.tup s3 t2
        have b03 := b02.trans (But.of s3)
        have r3 := r.but b03 hW w3
        obtain ⟨sj, hsj, hxj⟩ := r3.get (i := j) (x := xs[j]) (List.getElem?_eq_getElem hj)
        refine ⟨_, rfl, _, rfl, _, rfl, t, xs, _, xs[j], rfl, rfl, t3, atI_nat (List.getElem?_eq_getElem hj), _, rfl, _, _, rfl, rfl, p, xs[j], sj, d - 1, c, by show [V.ref p, xs[j], V.int ((d : Int) - 1)] = _; rw [show ((d : Int) - 1) = ((d - 1 : Nat) : Int) by omega], w3, hxj, hss sj (List.mem_of_getElem? hsj), by omega, by omega, fun v4 H4 b4 w4 hv4 => ?_⟩
        refine ⟨line 1 (by decide), fun u nu => ?_⟩
        have su := same_new nu (.tup [v4])
        have hu := upd_same (H := H4) (a := u) (o := .tup [v4])
        generalize upd H4 u (.tup [v4]) = H5 at su hu ⊢
        have T4 := TS.but b4 w3
        have w5 := w4.same su
        have p15 : SqT K H5 p1 _ := Same.tup su (T4.tup hp1)
        have cl1 := cutV_length xs none (some (j : Int))
        refine ⟨p1, u, _, _, rfl, rfl, p15, SqT.of hu, line _ (by rw [List.length_singleton]; omega), fun p2 H6 s6 hp2 => ?_⟩
        have t6 : SqT K H6 t xs := Same.tup s6 (Same.tup su (T4.tup t3))
        refine ⟨_, rfl, _, rfl, _, _, rfl, rfl, _, rfl, t, xs, rfl, t6, fun p3 H7 s7 hp3 => ?_⟩
        have cl2 := cutV_length xs (some ((j : Int) + 1)) none
        refine ⟨p2, p3, _, _, rfl, rfl, Same.tup s7 hp2, hp3, line _ (by rw [List.length_append, List.length_singleton]; omega), fun p4 H8 s8 hp4 => ?_⟩
        have s48 := su.trans (s6.trans (s7.trans s8))
        have b08 := b03.trans (b4.trans (But.of s48))
        have w8 := w4.same s48
        have r8 := cl_va (r.but b08 hW w8) hss
        exact q _ H8 b08 w8 (.tup hp4 (by rw [List.length_append, List.length_append, List.length_singleton]; omega) (va_app (va_app (va_cut _ _ r8) (va_cons (hv4.same s48) va_nil)) (va_cut _ _ r8)))
      rintro _ H1 ⟨rfl, b1, w1⟩
      have t1 : SqT K H1 t xs := (TS.but b1 hW).tup hT
      have r1 := r.but b1 hW w1
      obtain ⟨tt1, tx1, j1, _, _⟩ := isi_of (ShAt.tup t1 r1)
      refine ⟨_, rfl, .ref t, .ty "tuple", tt1, .type "tuple", true, rfl, .ty _, tx1, j1, _, rfl, iteT ?_⟩
      refine ⟨_, rfl, t, xs, rfl, .inr t1, fun l nl => ?_⟩
      have s2 := same_new nl (.lst xs)
      have hl := upd_same (H := H1) (a := l) (o := .lst xs)
      generalize upd H1 l (.lst xs) = H2 at s2 hl ⊢
      have t2 := Same.tup s2 t1
      refine ⟨_, rfl, _, rfl, _, rfl, t, xs, rfl, t2, fun p1 H3 s3 hp1 => ?_⟩
      have t3 := Same.tup s3 t2
      refine ⟨_, rfl, _, rfl, t, xs, rfl, t3, fun p2 H4 s4 hp2 => ?_⟩
      have t4 := Same.tup s4 t3
      refine ⟨_, rfl, _, rfl, _, rfl, _, rfl, t, xs, rfl, t4, fun p3 H5 s5 hp3 => ?_⟩
      have t5 := Same.tup s5 t4
      have cl3 := cutV_length xs (some (-1)) none
      refine ⟨t, p3, _, _, rfl, rfl, t5, hp3, Nat.le_trans (Nat.add_le_add_left cl3 _) (Nat.le_trans (by omega : xs.length + xs.length ≤ 1800) (by rw [sizeLine_eq]; decide)), fun p4 H6 s6 hp4 => ?_⟩
      have t6 := Same.tup s6 t5
      refine ⟨_, rfl, t, xs, rfl, t6, fun p5 np5 => ?_⟩
      have s7 := same_new np5 (.tup xs.reverse)
      have hp5 := upd_same (H := H6) (a := p5) (o := .tup xs.reverse)
      generalize upd H6 p5 (.tup xs.reverse) = H7 at s7 hp5 ⊢
      refine ⟨line 0 (by decide), fun p6 np6 => ?_⟩
      have s8 := same_new np6 (.tup [])
      have hp6 := upd_same (H := H7) (a := p6) (o := .tup [])
      generalize upd H7 p6 (.tup []) = H8 at s8 hp6 ⊢
      refine ⟨_, rfl, line 1 (by decide), fun p7 np7 => ?_⟩
      have s9 := same_new np7 (.tup [.ref t])
      have hp7 := upd_same (H := H8) (a := p7) (o := .tup [.ref t])
      generalize upd H8 p7 (.tup [.ref t]) = H9 at s9 hp7 ⊢
      refine ⟨_, rfl, line 1 (by decide), fun u nu => ?_⟩
      have s10 := same_new nu (.tup [.int 0])
      have hu := upd_same (H := H9) (a := u) (o := .tup [.int 0])
      generalize upd H9 u (.tup [.int 0]) = H10 at s10 hu ⊢
      have s610 := s7.trans (s8.trans (s9.trans s10))
      have t10 := Same.tup s610 t6
      refine ⟨t, u, _, _, rfl, rfl, t10, SqT.of hu, line _ (by rw [List.length_singleton]; omega), fun p8 H11 s11 hp8 => ?_⟩
      refine ⟨line 8 (by decide), fun F nF => ?_⟩
      have sF := same_new nF (.lst [.ref l, .ref p1, .ref p2, .ref p4, .ref p5, .ref p6, .ref p7, .ref p8])
      have hF := upd_same (H := H11) (a := F) (o := .lst [.ref l, .ref p1, .ref p2, .ref p4, .ref p5, .ref p6, .ref p7, .ref p8])
      have f8 := s11.trans sF
      have f7 := s10.trans f8
      have f6 := s9.trans f7
      have f5 := s8.trans f6
      have f4 := s7.trans f5
      have f3 := s6.trans f4
      have f2 := s5.trans f3
      have f1 := s4.trans f2
      have f0 := s3.trans f1
      have w11 := w1.same (s2.trans (s3.trans (s4.trans (s5.trans (s6.trans (s610.trans s11))))))
      have Fp := w11.ne nF
      generalize upd H11 F (.lst [.ref l, .ref p1, .ref p2, .ref p4, .ref p5, .ref p6, .ref p7, .ref p8]) = H12 at sF hF f0 f1 f2 f3 f4 f5 f6 f7 f8 ⊢
      have r12 := cl_va (r1.same (s2.trans f0)) hss
      have w12 := w11.same sF
      have t12 := Same.tup (s2.trans f0) t1
      have c1 := cutV_length xs none (some (-1))
      have c2 := cutV_length xs (some 1) none
      have all : ∀ x ∈ [V.ref l, .ref p1, .ref p2, .ref p4, .ref p5, .ref p6, .ref p7, .ref p8], Va K H12 x :=
        va_cons (.lst (SqL.of (f0 _ _ hl))) (va_cons (.tup (Same.tup f1 hp1) (by omega) (va_cut _ _ r12)) (va_cons (.tup (Same.tup f2 hp2) (by omega) (va_cut _ _ r12)) (va_cons (.tup (Same.tup f4 hp4) (by rw [List.length_append]; omega) (va_app r12 (va_cut _ _ r12)))
          (va_cons (.tup (SqT.of (f5 _ _ hp5)) (by rw [List.length_reverse]; omega) fun x hx => r12 x (List.mem_reverse.mp hx)) (va_cons (.tup (SqT.of (f6 _ _ hp6)) (by simp) va_nil) (va_cons (.tup (SqT.of (f7 _ _ hp7)) (by simp) (va_cons (.tup t12 (by omega) r12) va_nil)) (va_cons (.tup (Same.tup sF hp8) (by rw [List.length_append, List.length_singleton]; omega) (va_app r12 (va_cons (.int 0) va_nil))) va_nil)))))))
      refine ⟨_, rfl, _, rfl, p, F, _, rfl, w12, hF, Fp, by simp, by simp, fun j v' H13 hj b13 w13 => ?_⟩
      exact q v' H13 (b1.trans ((But.of (s2.trans f0)).trans b13)) w13 ((all v' (List.mem_of_getElem? hj)).but b13 w12 w13)
end
end My

set_option maxHeartbeats 4000000
namespace My
open PySem PySem.Spec PyProof.Rows L2 RZ
abbrev sIsWhole : Stmt := top 6
abbrev sWholeFrom : Stmt := top (6 + 1)
abbrev sIsTwo : Stmt := top (6 + 2)
abbrev sAsc : Stmt := top (6 + 3)
abbrev sIsGraph : Stmt := top (6 + 4)
abbrev sIsVP : Stmt := top (6 + 5)
abbrev sCheckGraph : Stmt := top (6 + 6)
theorem scIsWhole : FnScope ["value", "low", "high"] ["value", "low", "high"] (defScope sIsWhole) := ⟨rfl, rfl, rfl, by decide +kernel, rfl, by decide +kernel, by decide +kernel⟩
theorem scWholeFrom : FnScope ["value", "low"] ["value", "low"] (defScope sWholeFrom) := ⟨rfl, rfl, rfl, by decide +kernel, rfl, by decide +kernel, by decide +kernel⟩
theorem scIsTwo : FnScope ["value"] ["value"] (defScope sIsTwo) := ⟨rfl, rfl, rfl, by decide +kernel, rfl, by decide +kernel, by decide +kernel⟩
theorem scAsc : FnScope ["row", "value", "following"] ["row"] (defScope sAsc) := ⟨rfl, rfl, rfl, by decide +kernel, rfl, by decide +kernel, by decide +kernel⟩
theorem scIsGraph : FnScope ["value", "many", "edges", "edge"] ["value"] (defScope sIsGraph) := ⟨rfl, rfl, rfl, by decide +kernel, rfl, by decide +kernel, by decide +kernel⟩
theorem scIsVP : FnScope ["value", "many", "vertex"] ["value", "many"] (defScope sIsVP) := ⟨rfl, rfl, rfl, by decide +kernel, rfl, by decide +kernel, by decide +kernel⟩
theorem scCheckGraph : FnScope ["graph"] ["graph"] (defScope sCheckGraph) := ⟨rfl, rfl, rfl, by decide +kernel, rfl, by decide +kernel, by decide +kernel⟩
theorem opOr {X : Cx} {op : Value → Value → Sem Value} {r r' : R2} (a : OpR X op r) (b : OpR X op r') : OpR X op (fun x y H Q => r x y H Q ∨ r' x y H Q) := by
  intro pins s σ H x y v u Q I rx ry h
  rcases h with h | h
  · exact a pins s σ H x y v u Q I rx ry h
  · exact b pins s σ H x y v u Q I rx ry h
theorem walk_zipT {K : PySem.W.Frag} {a b : Addr} {xs ys : List V} {n : Nat} (hn : n = min xs.length ys.length) : Walk (ItzT K a b) n (fun H => SqT K H a xs ∧ SqT K H b ys) (YPair (fun i => xs[i]?) (fun i => ys[i]?)) := by
  subst hn
  refine ⟨fun i _ hi q => ?_, fun _ q => ⟨xs, ys, q.1, q.2, by omega⟩, fun i H v H' _ q y => ?_⟩
  · have h1 : i < xs.length := by omega
    have h2 : i < ys.length := by omega
    exact ⟨xs, ys, xs[i], ys[i], q.1, q.2, by simp [h1], by simp [h2]⟩
  · obtain ⟨T, x, z, h1, h2, h3, h4, h5⟩ := y
    exact ⟨T, x, z, h1, h2, h3, h4 xs q.1, h5 ys q.2⟩
/-- what may be compared: numbers alone, or pairs of numbers alone -/
def Cmp (ss : List Sh) : Prop := (∀ s ∈ ss, ∃ i, s = .int i) ∨ (∀ s ∈ ss, ∃ i j, s = .tup [.int i, .int j])
theorem asc_zip : ∀ ss : List Sh, (List.zipWith ltS ss (ss.drop 1)).all id = ascB ss
  | [] => rfl
  | [s] => rfl
  | s :: t :: r => by
    have ih := asc_zip (t :: r)
    show (ltS s t && (List.zipWith ltS (t :: r) ((t :: r).drop 1)).all id) = (ltS s t && ascB (t :: r))
    rw [ih]
def spWholeFromA (K : PySem.W.Frag) : Sp := fun vs H Q _ => ∃ (v : V) (s : Sh) (lo : Int), vs = [v, .int lo] ∧ ShAt K H v s ∧ Q (.bl (wholeF lo s)) H
def spIsWholeA (K : PySem.W.Frag) : Sp := fun vs H Q _ => ∃ (v : V) (s : Sh) (lo hi : Int), vs = [v, .int lo, .int hi] ∧ ShAt K H v s ∧ Q (.bl (wholeR lo hi s)) H
def spIsTwoA (K : PySem.W.Frag) : Sp := fun vs H Q _ => ∃ (v : V) (s : Sh), vs = [v] ∧ ShAt K H v s ∧ Q (.bl (isTwo s)) H
def spAscA (K : PySem.W.Frag) : Sp := fun vs H Q _ => ∃ (e : Addr) (xs : List V) (ss : List Sh), vs = [.ref e] ∧ SqT K H e xs ∧ ShsAt K H xs ss ∧ Cmp ss ∧ ss.length ≤ 900 ∧ ∀ H', Same H H' → Q (.bl (ascB ss)) H'
def spVPA (K : PySem.W.Frag) : Sp := fun vs H Q _ => ∃ (v : V) (s : Sh) (n : Int), vs = [v, .int n] ∧ ShAt K H v s ∧ ∀ H', Same H H' → Q (.bl (vpB n s)) H'
/-- no tuple in it is too long -/
def shortS : Sh → Prop
  | .tup [_, .tup es] => es.length ≤ 900
  | _ => True
def spIsGraphA (K : PySem.W.Frag) : Sp := fun vs H Q _ => ∃ (v : V) (s : Sh), vs = [v] ∧ ShAt K H v s ∧ shortS s ∧ ∀ H', Same H H' → Q (.bl (isGr s)) H'
section
variable {P : Program} {w : World} {K : PySem.W.Frag} {mg : Str → Option Value} {base : Heap} {f fW fI fE fG : Addr} {fd dW dI dE dG : FuncData}
theorem ok_whole_from (F : L2.Fun K "is_whole_from" "is_whole_from" sWholeFrom f fd) (mty : mg "type" = none) (mi : mg "int" = none) : FnOk P w K mg base CX0 1 f fd ["value", "low"] (spWholeFromA K) := by
  refine F.ok scWholeFrom (fun vs H Q E h => ?_) (fun cdv A outer s H vs Q E hr h => ?_)
  · obtain ⟨v, s, lo, rfl, _⟩ := h
    rfl
  obtain ⟨v, s, lo, rfl, hv, q⟩ := h
  refine ⟨_, pss_one (ps_ret (pe_and (pe_cmpR op_isTy (pe_callTy call_type1 (by rfl) mty (by decide +kernel) (pa_cons (pv 0) pa_nil)) (pe_bltn (v := .ty "int") (by rfl) mi (by decide +kernel) rfl) (nomark _)) (pe_one (pe_cmpR op_ge (pv 0) (pv 1) (nomark _))))), ?_⟩
  obtain ⟨T, ty, ok⟩ := hv.ty
  refine ⟨_, rfl, v, T, rfl, ty, T, "int", rfl, rfl, _, rfl, iteB (fun c => ?_) (fun c => ?_)⟩
  · have c' : T = "int" := of_decide_eq_true c
    cases hv with
    | int i => exact ⟨_, rfl, _, rfl, _, _, rfl, rfl, q⟩
    | bool b => cases ty; exact absurd c' (by decide)
    | tup h r => rw [show T = "tuple" from ok] at c'; exact absurd c' (by decide)
    | non => exact absurd c' ok.1
    | str x => rw [show T = "str" from ok] at c'; exact absurd c' (by decide)
    | lst h => exact absurd c' ok.1
    | dct h => exact absurd c' ok.1
  · show Q (.bl false) H
    have nc : T ≠ "int" := of_decide_eq_false c
    have e : wholeF lo s = false := by
      cases s with
      | int i => exact absurd ok nc
      | _ => rfl
    rw [e] at q
    exact q
theorem ok_is_whole (F : L2.Fun K "is_whole" "is_whole" sIsWhole f fd) (GW : FnOk P w K mg base CX0 1 fW dW ["value", "low"] (spWholeFromA K)) (bW : L2.Binds K dW ["value", "low"] []) (kW : PySem.W.keepIn K (.ref fW) = true) (mW : mg "is_whole_from" = some (.ref fW)) : FnOk P w K mg base CX0 2 f fd ["value", "low", "high"] (spIsWholeA K) := by
  refine F.ok scIsWhole (fun vs H Q E h => ?_) (fun cdv A outer s H vs Q E hr h => ?_)
  · obtain ⟨v, s, lo, hi, rfl, _⟩ := h
    rfl
  obtain ⟨v, s, lo, hi, rfl, hv, q⟩ := h
  refine ⟨_, pss_one (ps_ret (pe_and (pe_call GW hr (by rfl) mW kW bW .nil pass0 (pa_cons (pv 0) (pa_cons (pv 1) pa_nil))) (pe_one (pe_cmpR op_le (pv 0) (pv 2) (nomark _))))), ?_⟩
  refine ⟨_, rfl, _, rfl, v, s, lo, rfl, hv, _, rfl, iteB (fun c => ?_) (fun c => ?_)⟩
  · cases s with
    | int i =>
      cases hv
      refine ⟨_, rfl, _, rfl, _, _, rfl, rfl, ?_⟩
      have e : wholeR lo hi (.int i) = decide (i ≤ hi) := by
        show (decide (i ≥ lo) && decide (i ≤ hi)) = _
        rw [show decide (i ≥ lo) = true from c]
        rfl
      rw [e] at q
      exact q
    | bool b => cases c
    | tup ss => cases c
    | str x => cases c
    | oth => cases c
  · show Q (.bl false) H
    have c' : wholeF lo s = false := c
    have e : wholeR lo hi s = false := by
      cases s with
      | int i =>
        show (decide (i ≥ lo) && decide (i ≤ hi)) = false
        rw [show decide (i ≥ lo) = false from c']
        rfl
      | _ => rfl
    rw [e] at q
    exact q
theorem ok_is_two (F : L2.Fun K "is_tuple_of_two" "is_tuple_of_two" sIsTwo f fd) (mty : mg "type" = none) (mt : mg "tuple" = none) (ml : mg "len" = none) : FnOk P w K mg base CX0 1 f fd ["value"] (spIsTwoA K) := by
  refine F.ok scIsTwo (fun vs H Q E h => ?_) (fun cdv A outer s H vs Q E hr h => ?_)
  · obtain ⟨v, s, rfl, _⟩ := h
    rfl
  obtain ⟨v, s, rfl, hv, q⟩ := h
  refine ⟨_, pss_one (ps_ret (pe_and (pe_cmpR op_isTy (pe_callTy call_type1 (by rfl) mty (by decide +kernel) (pa_cons (pv 0) pa_nil)) (pe_bltn (v := .ty "tuple") (by rfl) mt (by decide +kernel) rfl) (nomark _)) (pe_one (pe_cmpR op_eq (pe_callB call_len_seq (by rfl) ml PySem.boot_len (pa_cons (pv 0) pa_nil)) pe_int (nomark _))))), ?_⟩
  obtain ⟨T, ty, ok⟩ := hv.ty
  refine ⟨_, rfl, v, T, rfl, ty, T, "tuple", rfl, rfl, _, rfl, iteB (fun c => ?_) (fun c => ?_)⟩
  · have c' : T = "tuple" := of_decide_eq_true c
    cases hv with
    | int i => rw [show T = "int" from ok] at c'; exact absurd c' (by decide)
    | bool b => rw [show T = "bool" from ok] at c'; exact absurd c' (by decide)
    | @tup t xs ss h r =>
      refine ⟨_, rfl, t, xs, rfl, .inr h, rfl, ?_⟩
      have le := r.len
      show Q (.bl (decide (V.int ((xs.length : Nat) : Int) = V.int 2))) H
      have e : isTwo (.tup ss) = decide (V.int ((xs.length : Nat) : Int) = V.int 2) := by
        rw [le]
        rcases ss with _ | ⟨a, _ | ⟨b, _ | ⟨c, r⟩⟩⟩
        · rfl
        · rfl
        · rfl
        · symm
          show decide _ = false
          refine decide_eq_false fun z => ?_
          injection z with z
          simp at z
          omega
      rw [e] at q
      exact q
    | non => exact absurd c' ok.2.2.1
    | str x => rw [show T = "str" from ok] at c'; exact absurd c' (by decide)
    | lst h => exact absurd c' ok.2.2.1
    | dct h => exact absurd c' ok.2.2.1
  · show Q (.bl false) H
    have nc : T ≠ "tuple" := of_decide_eq_false c
    have e : isTwo s = false := by
      cases s with
      | tup ss => exact absurd ok nc
      | _ => rfl
    rw [e] at q
    exact q
theorem ok_asc (F : L2.Fun K "is_ascending" "is_ascending" sAsc f fd) (ma : mg "all" = none) (mz : mg "zip" = none) : FnOk P w K mg base CX0 1 f fd ["row"] (spAscA K) := by
  refine F.ok scAsc (fun vs H Q E h => ?_) (fun cdv A outer s H vs Q E hr h => ?_)
  · obtain ⟨e, xs, ss, rfl, _⟩ := h
    rfl
  obtain ⟨e, xs, ss, rfl, he, hs, cmp, few, q⟩ := h
  refine ⟨_, pss_one (ps_ret (pe_callB (cr_all rfl) (by rfl) ma (by decide +kernel) (pa_cons (pe_lc (own := [("value", 1), ("following", 2)]) (g := gTup K 2 (gCons (gName 1) (gCons (gName 2) gNil))) (tt := tYes) rfl scAsc.nd (pi_zipA (by rfl) mz (pa_cons (pv 0) (pa_cons (pe_slice sl_tupA (pv 0) (po_some pe_int) po_none) pa_nil)))
        (blkOk_by (N := ["row", "value", "following"]) (sc := defScope sAsc) (by decide +kernel)) (fun _ _ _ _ _ => pg_tup (by rfl) (pgs_cons (pg_name (i := 1) scAsc.nd rfl (Or.inl rfl)) (pgs_cons (pg_name (i := 2) scAsc.nd rfl (Or.inl rfl)) pgs_nil))) (fun _ _ _ _ _ => pts_nil)
        (fun _ _ _ _ _ => pe_cmpR (r := fun x y H Q => rI0 (fun i j => .bl (decide (i < j))) x y H Q ∨ rLtT K x y H Q) (opOr op_lt (op_ltT hr.units0)) (pv 1) (pv 2) (nomark _))) pa_nil))), ?_⟩
  have lxs := hs.len
  have lz : (List.zipWith ltS ss (ss.drop 1)).length = ss.length - 1 := by rw [List.length_zipWith, List.length_drop]; omega
  cases xs with
  | nil =>
    cases hs
    refine ⟨_, rfl, _, rfl, 1, rfl, e, [], rfl, he, fun _ => ?_, fun z => absurd ⟨rfl, rfl⟩ z⟩
    refine ⟨e, e, [], [], rfl, .inr ⟨he, he, fun B nB => lc_it (walk_zipT (n := 0) rfl) (fun i H3 => i = 0 ∧ Same H H3 ∧ H3 B = some (.lst [])) ⟨rfl, same_new nB _, upd_same⟩ (fun i H3 _ ⟨_, s3, _⟩ => ⟨Same.tup s3 he, Same.tup s3 he⟩) (fun i x H3 H4 hi => absurd hi (Nat.not_lt_zero _)) ?_⟩⟩
    rintro H3 ⟨_, s3, hB⟩
    exact ⟨B, [], rfl, SqL.of hB, q H3 s3⟩
  | cons x0 xs =>
    have hs3 : ShsAt K H xs (ss.drop 1) := by cases hs; assumption
    have cut : cutV (x0 :: xs) (some 1) none = xs := by
      unfold cutV
      rw [HT.sIx_none, show ((1 : Int)) = ((1 : Nat) : Int) from rfl, HT.sIx_nat, List.length_cons, show min 1 (xs.length + 1) = 1 by omega, List.drop_one, List.tail_cons, Nat.add_sub_cancel, List.take_length]
    refine ⟨_, rfl, _, rfl, 1, rfl, e, x0 :: xs, rfl, he, fun z => ?_, fun _ c nc => ?_⟩
    · exfalso
      have z1 := z.1
      rw [show ((1 : Int)) = ((1 : Nat) : Int) from rfl, HT.sIx_nat, List.length_cons] at z1
      omega
    rw [cut]
    have s3 := same_new nc (.tup xs)
    have l1 : xs.length + 1 = ss.length := by rw [← lxs, List.length_cons]
    refine ⟨e, c, x0 :: xs, xs, rfl, .inr ⟨Same.tup s3 he, SqT.of upd_same, fun B nB => lc_it (walk_zipT (n := xs.length) (by rw [List.length_cons]; omega)) (fun i H3 => Same (upd H c (.tup xs)) H3 ∧ H3 B = some (.lst (((List.zipWith ltS ss (ss.drop 1)).take i).map V.bl))) ⟨same_new nB _, upd_same⟩ (fun i H3 _ ⟨s4, _⟩ => ⟨Same.tup (s3.trans s4) he, Same.tup s4 (SqT.of upd_same)⟩) (fun i x H3 H4 hi ⟨s4, hB⟩ ⟨T, y, z, e1, nT, e2, hy, hz⟩ => ?_) ?_⟩⟩
    · subst e1
      subst e2
      have s5 := same_new nT (.tup [y, z])
      have sA := s3.trans (s4.trans s5)
      obtain ⟨a, ha, sa⟩ := (hs.same sA).get hy
      obtain ⟨b, hb, sb⟩ := (hs3.same sA).get hz
      have hz' : (List.zipWith ltS ss (ss.drop 1))[i]? = some (ltS a b) := by rw [List.getElem?_zipWith, ha, hb]
      have fin : Same (upd H c (.tup xs)) (upd (upd H3 T (.tup [y, z])) B (.lst (((List.zipWith ltS ss (ss.drop 1)).take i).map V.bl ++ [V.bl (ltS a b)]))) ∧ upd (upd H3 T (.tup [y, z])) B (.lst (((List.zipWith ltS ss (ss.drop 1)).take i).map V.bl ++ [V.bl (ltS a b)])) B = some (.lst (((List.zipWith ltS ss (ss.drop 1)).take (i + 1)).map V.bl)) := by
        refine ⟨same_put (s4.trans s5) nB, ?_⟩
        rw [upd_same, take_succ hz', List.map_append]
        rfl
      have ln : (((List.zipWith ltS ss (ss.drop 1)).take i).map V.bl).length < sizeLine := small1000 (by rw [List.length_map, List.length_take]; omega)
      have hB5 := s5 _ _ hB
      refine ⟨T, _, rfl, SqT.of upd_same, rfl, _, _, rfl, _, _, rfl, rfl, rfl, ?_⟩
      refine ⟨_, rfl, _, rfl, ?_⟩
      have ma := List.mem_of_getElem? ha
      have mb := List.mem_of_mem_drop (List.mem_of_getElem? hb)
      rcases cmp with cm | cm
      · obtain ⟨k, rfl⟩ := cm a ma
        obtain ⟨l, rfl⟩ := cm b mb
        cases sa
        cases sb
        exact .inl ⟨_, _, rfl, rfl, _, hB5, ln, fin⟩
      · obtain ⟨k, k2, rfl⟩ := cm a ma
        obtain ⟨l, l2, rfl⟩ := cm b mb
        cases sa with
        | @tup t1 ys1 _ h1 r1 =>
          cases sb with
          | @tup t2 ys2 _ h2 r2 =>
            cases r1 with
            | cons p1 r1 =>
              cases r1 with
              | cons p2 r1 =>
                cases r1
                cases p1
                cases p2
                cases r2 with
                | cons p3 r2 =>
                  cases r2 with
                  | cons p4 r2 =>
                    cases r2
                    cases p3
                    cases p4
                    exact .inr ⟨t1, t2, [k, k2], [l, l2], rfl, rfl, h1, h2, _, hB5, ln, fin⟩
    · rintro H3 ⟨s4, hB⟩
      refine ⟨B, _, rfl, SqL.of hB, ?_⟩
      rw [List.take_of_length_le (by omega), asc_zip]
      exact q H3 (s3.trans s4)
theorem ok_vp (F : L2.Fun K "is_vertex_pair" "is_vertex_pair" sIsVP f fd) (GI : FnOk P w K mg base CX0 1 fI dI ["value"] (spIsTwoA K)) (bI : L2.Binds K dI ["value"] []) (kI : PySem.W.keepIn K (.ref fI) = true) (mI : mg "is_tuple_of_two" = some (.ref fI))
    (GW : FnOk P w K mg base CX0 2 fW dW ["value", "low", "high"] (spIsWholeA K)) (bW : L2.Binds K dW ["value", "low", "high"] []) (kW : PySem.W.keepIn K (.ref fW) = true) (mW : mg "is_whole" = some (.ref fW)) (ma : mg "all" = none) : FnOk P w K mg base CX0 3 f fd ["value", "many"] (spVPA K) := by
  refine F.ok scIsVP (fun vs H Q E h => ?_) (fun cdv A outer s H vs Q E hr h => ?_)
  · obtain ⟨v, s, n, rfl, _⟩ := h
    rfl
  obtain ⟨v, s, n, rfl, hv, q⟩ := h
  refine ⟨_, pss_one (ps_ret (pe_and (pe_call GI (hr.mono (by decide)) (by rfl) mI kI bI .nil pass0 (pa_cons (pv 0) pa_nil)) (pe_one (pe_callB (cr_all rfl) (by rfl) ma (by decide +kernel) (pa_cons (pe_lc (own := [("vertex", 2)]) (g := gName 2) (tt := tYes) rfl scIsVP.nd (pi_tup (pv 0))
        (blkOk_by (N := ["value", "many", "vertex"]) (sc := defScope sIsVP) (by decide +kernel)) (fun _ _ _ _ _ => pg_name (i := 2) scIsVP.nd rfl (Or.inl rfl)) (fun _ _ _ _ _ => pts_nil)
        (fun _ _ _ _ _ => pe_call GW hr (by rfl) mW kW bW .nil pass0 (pa_cons (pv 2) (pa_cons pe_int (pa_cons (pe_op op_sub (pv 1) pe_int) pa_nil))))) pa_nil))))), ?_⟩
  refine ⟨_, rfl, v, s, rfl, hv, _, rfl, iteB (fun c => ?_) (fun c => ?_)⟩
  · obtain ⟨a, b, rfl⟩ : ∃ a b, s = .tup [a, b] := by
      unfold isTwo at c
      split at c
      · exact ⟨_, _, rfl⟩
      · cases c
    cases hv with
    | @tup t xs _ h r =>
      have lx := r.len
      refine ⟨_, rfl, t, rfl, ⟨_, h⟩, fun D nD => lc_tup (K := K) (a := t) (xs := xs) (fun i H2 => Same H H2 ∧ H2 D = some (.lst ((([a, b].take i).map (wholeR 0 (n - 1))).map V.bl))) ⟨same_new nD _, upd_same⟩ (fun i H1 _ ⟨s1, _⟩ => Same.tup s1 h) ?_ ?_⟩
      · rintro i x H2 hi ⟨s2, hD⟩
        obtain ⟨z, hz, sz⟩ := (r.same s2).get hi
        refine ⟨rfl, ?_⟩
        refine ⟨_, rfl, _, rfl, _, _, rfl, rfl, x, z, 0, n - 1, rfl, sz, _, hD, small1000 (by rw [List.length_map, List.length_map, List.length_take]; exact Nat.le_trans (Nat.min_le_right _ _) (by show 2 ≤ 1000; decide)), same_put s2 nD, ?_⟩
        rw [upd_same, take_succ hz, List.map_append, List.map_append]
        rfl
      · rintro H2 ⟨s2, hD⟩
        rw [lx, List.take_length] at hD
        refine ⟨D, _, rfl, SqL.of hD, ?_⟩
        have e : ([a, b].map (wholeR 0 (n - 1))).all id = vpB n (.tup [a, b]) := by
          show (wholeR 0 (n - 1) a && (wholeR 0 (n - 1) b && true)) = _
          rw [Bool.and_true]
          rfl
        rw [e]
        exact q H2 s2
  · have e : vpB n s = false := by
      unfold vpB
      split
      · cases c
      · rfl
    rw [e] at q
    exact q H (L2.Same.refl H)
theorem ok_is_graph (F : L2.Fun K "is_graph" "is_graph" sIsGraph f fd) (GI : FnOk P w K mg base CX0 1 fI dI ["value"] (spIsTwoA K)) (bI : L2.Binds K dI ["value"] []) (kI : PySem.W.keepIn K (.ref fI) = true) (mI : mg "is_tuple_of_two" = some (.ref fI))
    (GW : FnOk P w K mg base CX0 2 fW dW ["value", "low", "high"] (spIsWholeA K)) (bW : L2.Binds K dW ["value", "low", "high"] []) (kW : PySem.W.keepIn K (.ref fW) = true) (mW : mg "is_whole" = some (.ref fW))
    (GE : FnOk P w K mg base CX0 3 fE dE ["value", "many"] (spVPA K)) (bE : L2.Binds K dE ["value", "many"] []) (kE : PySem.W.keepIn K (.ref fE) = true) (mE : mg "is_vertex_pair" = some (.ref fE))
    (GA : FnOk P w K mg base CX0 1 fG dG ["row"] (spAscA K)) (bA : L2.Binds K dG ["row"] []) (kA : PySem.W.keepIn K (.ref fG) = true) (mA : mg "is_ascending" = some (.ref fG))
    (tk : Tok) (mM : mg "MOST_VERTICES" = some (.int 9 tk)) (mty : mg "type" = none) (mt : mg "tuple" = none) (ma : mg "all" = none) : FnOk P w K mg base CX0 4 f fd ["value"] (spIsGraphA K) := by
  refine F.ok scIsGraph (fun vs H Q E h => ?_) (fun cdv A outer s H vs Q E hr h => ?_)
  · obtain ⟨v, s, rfl, _⟩ := h
    rfl
  obtain ⟨v, s, rfl, hv, sh, q⟩ := h
  refine ⟨_, pss_cons (ps_if (pt_not (pt_val (pe_call GI (hr.mono (by decide)) (by rfl) mI kI bI .nil pass0 (pa_cons (pv 0) pa_nil)))) (pss_one (ps_ret pe_bl)) pss_nil)
    (pss_cons (ps_asg (pv 0) (pg_tup (by rfl) (pgs_cons (pg_name (i := 1) scIsGraph.nd rfl (.inr rfl)) (pgs_cons (pg_name (i := 2) scIsGraph.nd rfl (.inl rfl)) pgs_nil))))
    (pss_cons (ps_if (PW.pt (pw_or (pt_not (pt_val (pe_call GW (hr.mono (by decide)) (by rfl) mW kW bW .nil pass0 (pa_cons (pv 1) (pa_cons pe_int (pa_cons (pe_glob (v := .int 9) (by rfl) mM ⟨_, rfl⟩) pa_nil))))))
        (pw_or1 (pt_cmpR op_isNotTy (pe_callTy call_type1 (by rfl) mty (by decide +kernel) (pa_cons (pv 2) pa_nil)) (pe_bltn (v := .ty "tuple") (by rfl) mt (by decide +kernel) rfl) (nomark _))))) (pss_one (ps_ret pe_bl)) pss_nil)
    (pss_one (ps_ret (pe_and (pe_callB (cr_all rfl) (by rfl) ma (by decide +kernel) (pa_cons (pe_lc (own := [("edge", 3)]) (g := gName 3) (tt := tYes) rfl scIsGraph.nd (pi_tup (pv 2))
        (blkOk_by (N := ["value", "many", "edges", "edge"]) (sc := defScope sIsGraph) (by decide +kernel)) (fun _ _ _ _ _ => pg_name (i := 3) scIsGraph.nd rfl (Or.inl rfl)) (fun _ _ _ _ _ => pts_nil)
        (fun _ _ _ _ _ => pe_and (pe_call GE (hr.mono (by decide)) (by rfl) mE kE bE .nil pass0 (pa_cons (pv 3) (pa_cons (pv 1) pa_nil))) (pe_one (pe_cmpR op_lt (pe_ix (r := rIxT K) ix_tup (pv 3) pe_int (fun _ _ => rfl)) (pe_ix (r := rIxT K) ix_tup (pv 3) pe_int (fun _ _ => rfl)) (nomark _))))) pa_nil))
      (pe_one (pe_call GA (hr.mono (by decide)) (by rfl) mA kA bA .nil pass0 (pa_cons (pv 2) pa_nil)))))))), ?_⟩
  have q0 := q H (L2.Same.refl H)
  refine ⟨_, rfl, v, s, rfl, hv, _, rfl, iteB (fun c => ?_) (fun c => ?_)⟩
  · have e : isGr s = false := by
      unfold isGr
      split
      · cases c
      · rfl
    rw [e] at q0
    exact q0
  obtain ⟨m, es, rfl⟩ : ∃ a b, s = .tup [a, b] := by
    unfold isTwo at c
    split at c
    · exact ⟨_, _, rfl⟩
    · cases c
  cases hv with
  | @tup t xs _ ht r =>
  cases r with
  | @cons x _ xs _ hm r =>
  cases r with
  | @cons y _ xs _ hy r =>
  cases r
  refine ⟨_, rfl, t, _, rfl, ht, rfl, _, _, rfl, _, _, rfl, rfl, ?_⟩
  refine ⟨_, rfl, x, m, 0, 9, rfl, hm, _, rfl, iteB (fun c1 => ?_) (fun c1 => ?_)⟩
  · have e : isGr (.tup [m, es]) = false := by
      unfold isGr
      split
      · rename_i n es' e
        injection e with e
        injection e with e1 e2
        subst e1
        have c2 : (decide (n ≥ 0) && decide (n ≤ 9)) = false := (Bool.not_eq_true' _).mp c1
        rw [c2, Bool.false_and]
      · rfl
    rw [e] at q0
    exact q0
  obtain ⟨n, rfl, c2⟩ : ∃ n, m = .int n ∧ (decide (n ≥ 0) && decide (n ≤ 9)) = true := by
    cases m with
    | int n => exact ⟨n, rfl, (Bool.not_eq_false' _).mp c1⟩
    | _ => cases c1
  cases hm
  obtain ⟨T, ty, ok⟩ := hy.ty
  refine ⟨_, rfl, y, T, rfl, ty, T, "tuple", rfl, rfl, _, rfl, iteB (fun c3 => ?_) (fun c3 => ?_)⟩
  · have nt : T ≠ "tuple" := by simpa using c3
    have e : isGr (.tup [.int n, es]) = false := by
      cases es with
      | tup es => exact absurd ok nt
      | _ => rfl
    rw [e] at q0
    exact q0
  have et : T = "tuple" := by simpa using c3
  obtain ⟨es, rfl⟩ : ∃ ss, es = .tup ss := by
    cases es with
    | tup ss => exact ⟨ss, rfl⟩
    | int i => rw [show T = "int" from ok] at et; exact absurd et (by decide)
    | bool b => rw [show T = "bool" from ok] at et; exact absurd et (by decide)
    | str x => rw [show T = "str" from ok] at et; exact absurd et (by decide)
    | oth => exact absurd et ok.2.2.1
  have few : es.length ≤ 900 := sh
  cases hy with
  | @tup e xs _ he r =>
  have lx := r.len
  have eq : isGr (.tup [.int n, .tup es]) = (es.all (edgeB n) && ascB es) := by
    show ((decide (n ≥ 0) && decide (n ≤ 9)) && (es.all (edgeB n) && ascB es)) = _
    rw [c2, Bool.true_and]
  refine ⟨_, rfl, e, rfl, ⟨_, he⟩, fun D nD => lc_tup (K := K) (a := e) (xs := xs) (fun i H2 => Same H H2 ∧ H2 D = some (.lst (((es.take i).map (edgeB n)).map V.bl))) ⟨same_new nD _, upd_same⟩ (fun i H1 _ ⟨s1, _⟩ => Same.tup s1 he) ?_ ?_⟩
  · rintro i x H2 hi ⟨s2, hD⟩
    obtain ⟨z, hz, sz⟩ := (r.same s2).get hi
    have ln : (((es.take i).map (edgeB n)).map V.bl).length < sizeLine := small1000 (by rw [List.length_map, List.length_map, List.length_take]; omega)
    have fin : ∀ H3, Same H2 H3 → ∃ acc, H3 D = some (.lst acc) ∧ acc.length < sizeLine ∧ Same H (upd H3 D (.lst (acc ++ [V.bl (edgeB n z)]))) ∧ upd H3 D (.lst (acc ++ [V.bl (edgeB n z)])) D = some (.lst (((es.take (i + 1)).map (edgeB n)).map V.bl)) := fun H3 s3 => by
      refine ⟨_, s3 _ _ hD, ln, same_put (s2.trans s3) nD, ?_⟩
      rw [upd_same, take_succ hz, List.map_append, List.map_append]
      rfl
    refine ⟨rfl, ?_⟩
    refine ⟨_, rfl, _, rfl, x, z, n, rfl, sz, fun H3 s3 => ⟨_, rfl, iteB (fun c4 => ?_) (fun c4 => ?_)⟩⟩
    · obtain ⟨a, b, rfl⟩ : ∃ a b, z = .tup [.int a, .int b] := by
        unfold vpB at c4
        split at c4
        · rename_i a b
          cases a with
          | int a =>
            cases b with
            | int b => exact ⟨a, b, rfl⟩
            | _ => simp [wholeR] at c4
          | _ => simp [wholeR] at c4
        · cases c4
      have e1 : edgeB n (.tup [.int a, .int b]) = decide (a < b) := by
        show (vpB n (.tup [.int a, .int b]) && decide (a < b)) = _
        rw [show vpB n (.tup [.int a, .int b]) = true from c4, Bool.true_and]
      cases sz with
      | @tup u us _ hu ru =>
      cases ru with
      | cons p1 ru =>
      cases ru with
      | cons p2 ru =>
      cases ru
      cases p1
      cases p2
      have hu3 := Same.tup s3 hu
      refine ⟨_, rfl, u, _, 0, _, rfl, rfl, hu3, rfl, _, rfl, u, _, 1, _, rfl, rfl, hu3, rfl, _, _, rfl, rfl, ?_⟩
      have f := fin H3 s3
      rw [e1] at f
      exact f
    · have e1 : edgeB n z = false := by
        show (vpB n z && lt2 z) = false
        rw [show vpB n z = false from c4, Bool.false_and]
      have f := fin H3 s3
      rw [e1] at f
      exact f
  rintro H2 ⟨s2, hD⟩
  rw [lx, List.take_length] at hD
  refine ⟨D, _, rfl, SqL.of hD, _, rfl, ?_⟩
  have ea : (es.map (edgeB n)).all id = es.all (edgeB n) := by rw [List.all_map]; rfl
  rw [ea]
  refine iteB (fun c4 => ?_) (fun c4 => ?_)
  · refine ⟨_, rfl, e, xs, es, rfl, Same.tup s2 he, r.same s2, .inr fun s hs => ?_, few, fun H3 s3 => ?_⟩
    · have h1 := List.all_eq_true.mp c4 s hs
      unfold edgeB at h1
      rw [Bool.and_eq_true] at h1
      have h2 := h1.2
      unfold lt2 at h2
      split at h2
      · exact ⟨_, _, rfl⟩
      · cases h2
    · have q1 := q H3 (s2.trans s3)
      rw [eq, c4, Bool.true_and] at q1
      exact q1
  · have q1 := q H2 s2
    rw [eq, c4, Bool.false_and] at q1
    exact q1
end
end My

set_option maxHeartbeats 4000000
namespace My
open PySem PySem.Spec PyProof.Rows L2
def graphS (n : Nat) (es : List E2) : Sh := .tup [.int (n : Int), .tup (es.map pairS)]
theorem GraphAt.sh {K : PySem.W.Frag} {H : Hp} {x : V} {n : Nat} {es : List E2} (h : GraphAt K H x n es) : ShAt K H x (graphS n es) := by
  obtain ⟨t, e, xs, rfl, h1, h2, h3⟩ := h
  exact .tup h1 (.cons (.int _) (.cons (.tup h2 h3.sh) .nil))
theorem asc_pairs : ∀ {es : List E2}, es.Pairwise ahead → ascB (es.map pairS) = true
  | [], _ => rfl
  | [_], _ => rfl
  | p :: q :: r, h => by
    have h1 := (List.pairwise_cons.mp h).1 q (List.mem_cons_self ..)
    have ih := asc_pairs (es := q :: r) (List.pairwise_cons.mp h).2
    show (HT.lexLt [(p.1 : Int), (p.2 : Int)] [(q.1 : Int), (q.2 : Int)] && ascB ((q :: r).map pairS)) = true
    rw [ih, Bool.and_true]
    unfold HT.lexLt
    split
    · unfold HT.lexLt
      rcases h1 with h1 | ⟨_, h1⟩
      · omega
      · rw [if_neg (by omega)]
        exact decide_eq_true (by omega)
    · rename_i e
      rcases h1 with h1 | ⟨h1, _⟩
      · exact decide_eq_true (by omega)
      · exact absurd (by omega) e
theorem isGr_good {n : Nat} {es : List E2} (g : Good n es) : isGr (graphS n es) = true := by
  have n9 := g.n9
  show ((decide ((n : Int) ≥ 0) && decide ((n : Int) ≤ 9)) && ((es.map pairS).all (edgeB (n : Int)) && ascB (es.map pairS))) = true
  rw [asc_pairs g.up, decide_eq_true (show (n : Int) ≥ 0 by omega), decide_eq_true (show (n : Int) ≤ 9 by omega)]
  simp only [Bool.and_true, Bool.true_and]
  rw [List.all_eq_true]
  intro s hs
  obtain ⟨p, hp, rfl⟩ := List.mem_map.mp hs
  obtain ⟨l1, l2⟩ := g.lt p hp
  show (((decide ((p.1 : Int) ≥ 0) && decide ((p.1 : Int) ≤ (n : Int) - 1)) && (decide ((p.2 : Int) ≥ 0) && decide ((p.2 : Int) ≤ (n : Int) - 1))) && decide ((p.1 : Int) < (p.2 : Int))) = true
  simp
  omega
/-- a lot -/
def LotAt (K : PySem.W.Frag) (H : Hp) (x : V) (l : List Nat) : Prop := ∃ t, x = .ref t ∧ SqT K H t (l.map fun k => V.int ((k : Nat) : Int))
structure LotOk (n : Nat) (l : List Nat) : Prop where
  lt : ∀ k ∈ l, k < n
  up : l.Pairwise (· < ·)
def lotS (l : List Nat) : Sh := .tup (l.map fun k => Sh.int ((k : Nat) : Int))
theorem LotAt.same {K : PySem.W.Frag} {H H' : Hp} (s : Same H H') {x : V} {l : List Nat} (h : LotAt K H x l) : LotAt K H' x l := by
  obtain ⟨t, rfl, h⟩ := h
  exact ⟨t, rfl, Same.tup s h⟩
theorem ints_sh {K : PySem.W.Frag} {H : Hp} : ∀ l : List Nat, ShsAt K H (l.map fun k => V.int ((k : Nat) : Int)) (l.map fun k => Sh.int ((k : Nat) : Int))
  | [] => .nil
  | _ :: r => .cons (.int _) (ints_sh r)
theorem LotAt.sh {K : PySem.W.Frag} {H : Hp} {x : V} {l : List Nat} (h : LotAt K H x l) : ShAt K H x (lotS l) := by
  obtain ⟨t, rfl, h⟩ := h
  exact .tup h (ints_sh l)
theorem asc_lot : ∀ {l : List Nat}, l.Pairwise (· < ·) → ascB (l.map fun k => Sh.int ((k : Nat) : Int)) = true
  | [], _ => rfl
  | [_], _ => rfl
  | p :: q :: r, h => by
    have h1 := (List.pairwise_cons.mp h).1 q (List.mem_cons_self ..)
    have ih := asc_lot (l := q :: r) (List.pairwise_cons.mp h).2
    show (decide ((p : Int) < (q : Int)) && ascB ((q :: r).map fun k => Sh.int ((k : Nat) : Int))) = true
    rw [ih, Bool.and_true]
    exact decide_eq_true (by omega)
theorem isLot_ok {n : Nat} {l : List Nat} (g : LotOk n l) : isLot n (lotS l) = true := by
  show ((l.map fun k => Sh.int ((k : Nat) : Int)).all (wholeR 0 ((n : Int) - 1)) && ascB (l.map fun k => Sh.int ((k : Nat) : Int))) = true
  rw [asc_lot g.up, Bool.and_true, List.all_eq_true]
  intro s hs
  obtain ⟨k, hk, rfl⟩ := List.mem_map.mp hs
  have l1 := g.lt k hk
  show (decide ((k : Int) ≥ 0) && decide ((k : Int) ≤ (n : Int) - 1)) = true
  simp
  omega
theorem LotOk.few {n : Nat} {l : List Nat} (g : LotOk n l) : l.length ≤ n := by
  have nd : l.Nodup := g.up.imp fun h => Nat.ne_of_lt h
  have z := sub_few nd (m := List.range n) fun k hk => List.mem_range.mpr (g.lt k hk)
  rw [List.length_range] at z
  exact z
def shortL : Sh → Prop
  | .tup ss => ss.length ≤ 900
  | _ => True
def spCheckGraph (K : PySem.W.Frag) : Sp := fun vs H Q _ => ∃ (x : V) (n : Nat) (es : List E2), vs = [x] ∧ GraphAt K H x n es ∧ Good n es ∧ ∀ H', Same H H' → Q .non H'
section
variable {P : Program} {w : World} {K : PySem.W.Frag} {mg : Str → Option Value} {base : Heap} {f fW fA fG fC fL fO : Addr} {fd dW dA dG dC dL dO : FuncData}
theorem ok_check_graph (F : L2.Fun K "check_graph" "check_graph" sCheckGraph f fd) (GG : FnOk P w K mg base CX0 4 fG dG ["value"] (spIsGraphA K)) (bG : L2.Binds K dG ["value"] []) (kG : PySem.W.keepIn K (.ref fG) = true) (mG : mg "is_graph" = some (.ref fG)) : FnOk P w K mg base CX0 5 f fd ["graph"] (spCheckGraph K) := by
  refine F.ok scCheckGraph (fun vs H Q E h => ?_) (fun cdv A outer s H vs Q E hr h => ?_)
  · obtain ⟨x, n, es, rfl, _⟩ := h
    rfl
  obtain ⟨x, n, es, rfl, hx, g, q⟩ := h
  refine ⟨_, pss_one (ps_if (pt_not (pt_val (pe_call GG (hr.mono (by decide)) (by rfl) mG kG bG .nil pass0 (pa_cons (pv 0) pa_nil)))) (pss_one ps_never) pss_nil), ?_⟩
  have few := g.few
  refine ⟨_, rfl, x, graphS n es, rfl, hx.sh, (by show (es.map pairS).length ≤ 900; rw [List.length_map]; omega), fun H' s' => ?_⟩
  rw [isGr_good g]
  exact ⟨_, rfl, iteF (q H' s')⟩
end
end My

set_option maxHeartbeats 4000000
/-! Bipartite multigraphs, in plain Lean and in the heap. -/
namespace My
open PySem PySem.Spec PyProof.Rows L2
structure MulG (l r : Nat) (es : List E2) : Prop where
  l9 : l ≤ 9
  r9 : r ≤ 9
  lt : ∀ p ∈ es, p.1 < l ∧ p.2 < r
  up : es.Pairwise fun a b => ¬ ahead b a
def MulAt (K : PySem.W.Frag) (H : Hp) (x : V) (l r : Nat) (es : List E2) : Prop := ∃ (t e : Addr) (xs : List V), x = .ref t ∧ SqT K H t [.int (l : Int), .int (r : Int), .ref e] ∧ SqT K H e xs ∧ PairsAt K H xs es
def MulT (H : Hp) (x : V) (l r : Nat) (es : List E2) : Prop := ∃ (t e : Addr) (xs : List V), x = .ref t ∧ H t = some (.tup [.int (l : Int), .int (r : Int), .ref e]) ∧ H e = some (.tup xs) ∧ PairsT H xs es
theorem MulT.at {K : PySem.W.Frag} {H : Hp} {x : V} {l r : Nat} {es : List E2} (h : MulT H x l r es) : MulAt K H x l r es := by
  obtain ⟨t, e, xs, h1, h2, h3, h4⟩ := h
  exact ⟨t, e, xs, h1, SqT.of h2, SqT.of h3, h4.at⟩
theorem MulAt.ts {K : PySem.W.Frag} {H H' : Hp} (s : TS H H') {x : V} {l r : Nat} {es : List E2} (h : MulAt K H x l r es) : MulAt K H' x l r es := by
  obtain ⟨t, e, xs, h1, h2, h3, h4⟩ := h
  exact ⟨t, e, xs, h1, s.tup h2, s.tup h3, h4.ts s⟩
theorem MulAt.same {K : PySem.W.Frag} {H H' : Hp} (s : Same H H') {x : V} {l r : Nat} {es : List E2} (h : MulAt K H x l r es) : MulAt K H' x l r es := h.ts (TS.of s)
theorem MulT.but {p : Addr} {H H' : Hp} (b : But p H H') (w : Wl H p) {x : V} {l r : Nat} {es : List E2} (h : MulT H x l r es) : MulT H' x l r es := by
  obtain ⟨t, e, xs, h1, h2, h3, h4⟩ := h
  exact ⟨t, e, xs, h1, b _ _ (wl_tup w h2) h2, b _ _ (wl_tup w h3) h3, h4.but b w⟩
theorem MulT.same {H H' : Hp} (s : Same H H') {x : V} {l r : Nat} {es : List E2} (h : MulT H x l r es) : MulT H' x l r es := by
  obtain ⟨t, e, xs, h1, h2, h3, h4⟩ := h
  exact ⟨t, e, xs, h1, s _ _ h2, s _ _ h3, h4.same s⟩
/-! ### what is a multigraph -/
def intS : Sh → Int
  | .int i => i
  | _ => 0
def mulS (l r : Nat) (es : List E2) : Sh := .tup [.int (l : Int), .int (r : Int), .tup (es.map pairS)]
def leS : Sh → Sh → Bool
  | .tup [.int a, .int b], .tup [.int c, .int d] => if a = c then (if b = d then true else decide (b ≤ d)) else decide (a ≤ c)
  | _, _ => false
def nevB : List Sh → Bool
  | s :: t :: r => leS s t && nevB (t :: r)
  | _ => true
def edgeM (l r : Int) : Sh → Bool
  | .tup [a, b] => wholeR 0 (l - 1) a && wholeR 0 (r - 1) b
  | _ => false
def isMul : Sh → Bool
  | .tup [a, b, .tup es] => (wholeR 0 9 a && wholeR 0 9 b) && (decide (es.length ≤ 9) && (es.all (edgeM (intS a) (intS b)) && nevB es))
  | _ => false
theorem MulAt.sh {K : PySem.W.Frag} {H : Hp} {x : V} {l r : Nat} {es : List E2} (h : MulAt K H x l r es) : ShAt K H x (mulS l r es) := by
  obtain ⟨t, e, xs, rfl, h2, h3, h4⟩ := h
  exact .tup h2 (.cons (.int _) (.cons (.int _) (.cons (.tup h3 h4.sh) .nil)))
theorem sh_mul {K : PySem.W.Frag} {H : Hp} {x : V} {l r : Nat} {es : List E2} (h : ShAt K H x (mulS l r es)) : MulAt K H x l r es := by
  cases h with
  | tup ht r =>
    cases r with
    | cons a r =>
      cases r with
      | cons b r =>
        cases r with
        | cons c r =>
          cases r
          cases a
          cases b
          cases c with
          | tup he re => exact ⟨_, _, _, rfl, ht, he, sh_pairs re⟩
theorem leS_pair (p q : E2) : leS (pairS p) (pairS q) = true ↔ ¬ ahead q p := by
  show (if (p.1 : Int) = (q.1 : Int) then (if (p.2 : Int) = (q.2 : Int) then true else decide ((p.2 : Int) ≤ (q.2 : Int))) else decide ((p.1 : Int) ≤ (q.1 : Int))) = true ↔ _
  unfold ahead
  split
  · split
    · simp; omega
    · rw [decide_eq_true_eq]; omega
  · rw [decide_eq_true_eq]; omega
theorem nev_pairs : ∀ ps : List E2, nevB (ps.map pairS) = true ↔ ps.Pairwise fun a b => ¬ ahead b a
  | [] => ⟨fun _ => .nil, fun _ => rfl⟩
  | [p] => ⟨fun _ => List.pairwise_singleton _ _, fun _ => rfl⟩
  | p :: q :: r => by
    have ih := nev_pairs (q :: r)
    show (leS (pairS p) (pairS q) && nevB ((q :: r).map pairS)) = true ↔ _
    rw [Bool.and_eq_true, leS_pair, ih, List.pairwise_cons (a := p)]
    constructor
    · rintro ⟨h1, h2⟩
      refine ⟨fun z hz => ?_, h2⟩
      rcases List.mem_cons.mp hz with rfl | hz
      · exact h1
      · have h3 := (List.pairwise_cons.mp h2).1 z hz
        unfold ahead at h1 h3 ⊢
        omega
    · rintro ⟨h1, h2⟩
      exact ⟨h1 q (List.mem_cons_self ..), h2⟩
theorem edgeM_pair {l r : Int} {s : Sh} (h : edgeM l r s = true) : ∃ p : E2, s = pairS p ∧ (p.1 : Int) < l ∧ (p.2 : Int) < r := by
  unfold edgeM at h
  split at h
  · rename_i a b
    rw [Bool.and_eq_true] at h
    obtain ⟨h1, h2⟩ := h
    cases a with
    | int i =>
      cases b with
      | int j =>
        have h1' : (decide (i ≥ 0) && decide (i ≤ l - 1)) = true := h1
        have h2' : (decide (j ≥ 0) && decide (j ≤ r - 1)) = true := h2
        simp at h1' h2'
        refine ⟨(i.toNat, j.toNat), ?_, ?_, ?_⟩
        · show Sh.tup [.int i, .int j] = .tup [.int ((i.toNat : Nat) : Int), .int ((j.toNat : Nat) : Int)]
          rw [show ((i.toNat : Nat) : Int) = i by omega, show ((j.toNat : Nat) : Int) = j by omega]
        · show ((i.toNat : Nat) : Int) < l
          omega
        · show ((j.toNat : Nat) : Int) < r
          omega
      | _ => cases h2
    | _ => cases h1
  · cases h
theorem edgesM_pairs {l r : Int} : ∀ {es : List Sh}, es.all (edgeM l r) = true → ∃ ps : List E2, es = ps.map pairS ∧ ∀ p ∈ ps, (p.1 : Int) < l ∧ (p.2 : Int) < r
  | [], _ => ⟨[], rfl, fun _ z => nomatch z⟩
  | s :: es, h => by
    rw [List.all_cons, Bool.and_eq_true] at h
    obtain ⟨p, e, lt⟩ := edgeM_pair h.1
    obtain ⟨ps, e2, lts⟩ := edgesM_pairs h.2
    refine ⟨p :: ps, by rw [e, e2]; rfl, fun q hq => ?_⟩
    rcases List.mem_cons.mp hq with rfl | hq
    · exact lt
    · exact lts q hq
theorem whole9 {s : Sh} (h : wholeR 0 9 s = true) : ∃ n : Nat, s = .int (n : Int) ∧ n ≤ 9 := by
  cases s with
  | int i =>
    have h' : (decide (i ≥ 0) && decide (i ≤ 9)) = true := h
    simp at h'
    refine ⟨i.toNat, by rw [show ((i.toNat : Nat) : Int) = i by omega], by omega⟩
  | _ => cases h
theorem isMul_spec {s : Sh} (h : isMul s = true) : ∃ l r es, s = mulS l r es ∧ MulG l r es ∧ es.length ≤ 9 := by
  unfold isMul at h
  split at h
  · rename_i a b es
    rw [Bool.and_eq_true, Bool.and_eq_true, Bool.and_eq_true, Bool.and_eq_true, decide_eq_true_eq] at h
    obtain ⟨⟨h1, h2⟩, h3, h4, h5⟩ := h
    obtain ⟨l, rfl, l9⟩ := whole9 h1
    obtain ⟨r, rfl, r9⟩ := whole9 h2
    obtain ⟨ps, rfl, lt⟩ := edgesM_pairs h4
    have lt' : ∀ p ∈ ps, (p.1 : Int) < (l : Int) ∧ (p.2 : Int) < (r : Int) := lt
    exact ⟨l, r, ps, rfl, ⟨l9, r9, fun p hp => by have := lt' p hp; omega, (nev_pairs ps).mp h5⟩, by rw [List.length_map] at h3; exact h3⟩
  · cases h
theorem isMul_good {l r : Nat} {es : List E2} (g : MulG l r es) (e9 : es.length ≤ 9) : isMul (mulS l r es) = true := by
  have l9 := g.l9
  have r9 := g.r9
  show ((wholeR 0 9 (.int (l : Int)) && wholeR 0 9 (.int (r : Int))) && (decide ((es.map pairS).length ≤ 9) && ((es.map pairS).all (edgeM (l : Int) (r : Int)) && nevB (es.map pairS)))) = true
  have w : ∀ n : Nat, n ≤ 9 → wholeR 0 9 (.int (n : Int)) = true := fun n h => by
    show (decide ((n : Int) ≥ 0) && decide ((n : Int) ≤ 9)) = true
    simp
    omega
  rw [w l l9, w r r9, (nev_pairs es).mpr g.up, decide_eq_true (by rw [List.length_map]; exact e9)]
  simp only [Bool.and_true, Bool.true_and]
  rw [List.all_eq_true]
  intro s hs
  obtain ⟨p, hp, rfl⟩ := List.mem_map.mp hs
  obtain ⟨a, b⟩ := g.lt p hp
  show ((decide ((p.1 : Int) ≥ 0) && decide ((p.1 : Int) ≤ (l : Int) - 1)) && (decide ((p.2 : Int) ≥ 0) && decide ((p.2 : Int) ≤ (r : Int) - 1))) = true
  simp
  omega
/-! ### edges at a vertex, degrees, the line graph -/
def sd (i : Nat) (p : E2) : Nat := if i = 0 then p.1 else p.2
def eAt (es : List E2) (k : Nat) : E2 := es.getD k (0, 0)
theorem eAt_get {es : List E2} {k : Nat} (h : k < es.length) : es[k]? = some (eAt es k) := by
  unfold eAt
  rw [List.getD_eq_getElem?_getD, List.getElem?_eq_getElem h]
  rfl
def atL (es : List E2) (i v : Nat) : List Nat := (List.range es.length).filter fun k => sd i (eAt es k) == v
def degL (l r : Nat) (es : List E2) : List Nat := [0] ++ (List.range l).map (fun v => (atL es 0 v).length) ++ (List.range r).map fun v => (atL es 1 v).length
def meetB (es : List E2) (u v : Nat) : Bool := (eAt es u).1 == (eAt es v).1 || (eAt es u).2 == (eAt es v).2
def lineP (es : List E2) : List E2 := (allP es.length).filter fun p => meetB es p.1 p.2
theorem atL_few (es : List E2) (i v : Nat) : (atL es i v).length ≤ es.length := by
  unfold atL
  refine Nat.le_trans (List.length_filter_le _ _) ?_
  rw [List.length_range]
  exact Nat.le_refl _
theorem degL_few {l r : Nat} {es : List E2} : ∀ d ∈ degL l r es, d ≤ es.length := fun d hd => by
  unfold degL at hd
  rcases List.mem_append.mp hd with hd | hd
  · rcases List.mem_append.mp hd with hd | hd
    · rw [List.mem_singleton.mp hd]; exact Nat.zero_le _
    · obtain ⟨v, _, rfl⟩ := List.mem_map.mp hd
      exact atL_few es 0 v
  · obtain ⟨v, _, rfl⟩ := List.mem_map.mp hd
    exact atL_few es 1 v
def IsMax (ns : List Nat) (m : Nat) : Prop := m ∈ ns ∧ ∀ y ∈ ns, y ≤ m
theorem IsMax.uniq {ns : List Nat} {m m' : Nat} (h : IsMax ns m) (h' : IsMax ns m') : m = m' := Nat.le_antisymm (h'.2 _ h.1) (h.2 _ h'.1)
theorem line_good {es : List E2} (h : es.length ≤ 9) : Good es.length (lineP es) := by
  refine ⟨h, fun p hp => mem_allP.mp (List.mem_filter.mp hp).1, (allP_up es.length h).filter _⟩
theorem mem_lineP {es : List E2} {u v : Nat} : (u, v) ∈ lineP es ↔ u < v ∧ v < es.length ∧ meetB es u v = true := by
  unfold lineP
  rw [List.mem_filter, mem_allP]
  exact and_assoc
end My

set_option maxHeartbeats 8000000
namespace My
open PySem PySem.Spec PyProof.Rows L2
abbrev sLWh : Stmt := top 47
abbrev sMulti : Stmt := top 54
theorem scLWh : FnScope ["value"] ["value"] (defScope sLWh) := ⟨rfl, rfl, rfl, by decide +kernel, rfl, by decide +kernel, by decide +kernel⟩
theorem scMulti : FnScope ["pot", "most", "left", "right", "found", "turn", "again"] ["pot", "most"] (defScope sMulti) := ⟨rfl, rfl, rfl, by decide +kernel, rfl, by decide +kernel, by decide +kernel⟩
def isWh : Sh → Bool
  | .int _ => true
  | _ => false
def spLWh (K : PySem.W.Frag) : Sp := fun vs H Q _ => ∃ (v : V) (s : Sh), vs = [v] ∧ ShAt K H v s ∧ Q (.bl (isWh s)) H
def spMulti : Sp := fun vs H Q _ => ∃ (p : Addr) (most : Nat), vs = [.ref p, .int (most : Int)] ∧ Wl H p ∧ most ≤ 10 ∧ ∀ (x : V) (l r : Nat) (es : List E2) (H' : Hp), But p H H' → Wl H' p → MulT H' x l r es → MulG l r es → 1 ≤ l → 1 ≤ r → es.length ≤ most → Q x H'
section
variable {P : Program} {w : World} {K : PySem.W.Frag} {mg : Str → Option Value} {base : Heap} {f fD fK : Addr} {fd dD dK : FuncData}
theorem ok_lwh (F : L2.Fun K "_law_is_whole" "_law_is_whole" sLWh f fd) (mi : mg "isinstance" = none) (mn : mg "int" = none) (mb : mg "bool" = none) : FnOk P w K mg base CX0 1 f fd ["value"] (spLWh K) := by
  refine F.ok scLWh (fun vs H Q E h => ?_) (fun cdv A outer s H vs Q E hr h => ?_)
  · obtain ⟨v, s, rfl, _⟩ := h
    rfl
  obtain ⟨v, s, rfl, hv, q⟩ := h
  refine ⟨_, pss_one (ps_ret (pe_and (pe_callB call_isi (by rfl) mi (by decide +kernel) (pa_cons (pv 0) (pa_cons (pe_bltn (v := .ty "int") (by rfl) mn (by decide +kernel) rfl) pa_nil))) (pe_one (pe_not (pe_callB call_isi (by rfl) mi (by decide +kernel) (pa_cons (pv 0) (pa_cons (pe_bltn (v := .ty "bool") (by rfl) mb (by decide +kernel) rfl) pa_nil))))))), ?_⟩
  obtain ⟨tt, tx, k1, k2, k3⟩ := isi_of hv
  refine ⟨_, rfl, v, .ty "int", tt, .type "int", isInt s, rfl, .ty _, tx, k2, _, rfl, ?_⟩
  refine iteB (fun c => ?_) (fun c => ?_)
  · refine ⟨_, rfl, v, .ty "bool", tt, .type "bool", isBool s, rfl, .ty _, tx, k3, _, rfl, ?_⟩
    cases s with
    | int i => exact q
    | bool b => exact q
    | _ => cases c
  · cases s with
    | int i => cases c
    | bool b => cases c
    | _ => exact q
theorem pairs_shapedL (es : List E2) : SeqAt.shaped (.list (es.map pairD)) = true := by
  have pd := pairsD_depth es
  unfold SeqAt.shaped
  rw [Bool.and_eq_true, decide_eq_true_eq]
  refine ⟨?_, ?_⟩
  · simp only [PyData.canLay0, pairsD_lay es]
  · simp only [PyData.depth]
    omega
theorem one_five {i : Nat} {v : V} (h : ([.int 1, .int 2, .int 2, .int 3, .int 3, .int 4, .int 5] : List V)[i]? = some v) : ∃ n : Nat, v = .int (n : Int) ∧ 1 ≤ n ∧ n ≤ 5 := by
  have m := List.mem_of_getElem? h
  simp only [List.mem_cons, List.mem_nil_iff, or_false] at m
  rcases m with rfl | rfl | rfl | rfl | rfl | rfl | rfl
  · exact ⟨1, rfl, by decide, by decide⟩
  · exact ⟨2, rfl, by decide, by decide⟩
  · exact ⟨2, rfl, by decide, by decide⟩
  · exact ⟨3, rfl, by decide, by decide⟩
  · exact ⟨3, rfl, by decide, by decide⟩
  · exact ⟨4, rfl, by decide, by decide⟩
  · exact ⟨5, rfl, by decide, by decide⟩
theorem ok_multi (F : L2.Fun K "_law_multi" "_law_multi" sMulti f fd)
    (GD : FnOk P w K mg base CX0 1 fD dD ["pot", "few"] spDraw) (bD : L2.Binds K dD ["pot", "few"] []) (kD : PySem.W.keepIn K (.ref fD) = true) (mD : mg "_law_draw" = some (.ref fD))
    (GK : FnOk P w K mg base CX0 2 fK dK ["pot", "some"] (spPickL K)) (bK : L2.Binds K dK ["pot", "some"] []) (kK : PySem.W.keepIn K (.ref fK) = true) (mK : mg "_law_pick" = some (.ref fK))
    (mr : mg "range" = none) (mt : mg "tuple" = none) (mso : mg "sorted" = none) : FnOk P w K mg base CX0 3 f fd ["pot", "most"] spMulti := by
  refine F.ok scMulti (fun vs H Q E h => ?_) (fun cdv A outer s H vs Q E hr h => ?_)
  · obtain ⟨p, most, rfl, _⟩ := h
    rfl
  obtain ⟨p, most, rfl, hW, m10, q⟩ := h
  have h1 := hr.mono (show 1 ≤ 2 by decide)
  refine ⟨_, pss_cons (ps_par3 rfl scMulti.nd (i := 2) (j := 3) (l := 4) rfl rfl rfl (by decide) (by decide) (by decide) rfl rfl rfl (pa_cons (pe_call GK hr (by rfl) mK kK bK .nil pass0 (pa_cons (pv 0) (pa_cons (pe_lst (pa_cons pe_int (pa_cons pe_int (pa_cons pe_int (pa_cons pe_int (pa_cons pe_int (pa_cons pe_int (pa_cons pe_int pa_nil)))))))) pa_nil))) (pa_cons (pe_call GK hr (by rfl) mK kK bK .nil pass0 (pa_cons (pv 0) (pa_cons (pe_lst (pa_cons pe_int (pa_cons pe_int (pa_cons pe_int (pa_cons pe_int (pa_cons pe_int (pa_cons pe_int (pa_cons pe_int pa_nil)))))))) pa_nil))) (pa_cons (pe_lst pa_nil) pa_nil))) (by rfl))
    (pss_cons (ps_for PassesOwn.never rfl (pi_range1 rfl mr (pa_cons (pe_call GD h1 (by rfl) mD kD bD .nil pass0 (pa_cons (pv 0) (pa_cons (pe_op op_add (pv 1) pe_int) pa_nil))) pa_nil)) (pg_name (i := 5) scMulti.nd rfl (.inl rfl))
      (pss_cons (ps_set (i := 6) scMulti.nd rfl (.inl rfl) (pe_and (pe_cmpR (op_neD hr.units) (pv 4) (pe_lst pa_nil) (nomark _)) (pe_one (pe_cmpR op_eq (pe_call GD h1 (by rfl) mD kD bD .nil pass0 (pa_cons (pv 0) (pa_cons pe_int pa_nil))) pe_int (nomark _)))))
      (pss_one (ps_expr (pe_bm PySem.F.plainAttrs_list PySem.F.slot_list_append PySem.F.type_list_append mt_append (pv 4) (pa_cons (pe_ifExp (pt_val (pv 6)) (pe_call GK hr (by rfl) mK kK bK .nil pass0 (pa_cons (pv 0) (pa_cons (pv 4) pa_nil))) (pe_tup (pa_cons (pe_call GD h1 (by rfl) mD kD bD .nil pass0 (pa_cons (pv 0) (pa_cons (pv 2) pa_nil))) (pa_cons (pe_call GD h1 (by rfl) mD kD bD .nil pass0 (pa_cons (pv 0) (pa_cons (pv 3) pa_nil))) pa_nil)))) pa_nil))))))
    (pss_one (ps_ret (pe_tup (pa_cons (pv 2) (pa_cons (pv 3) (pa_cons (pe_callTy call_tuple_of (by rfl) mt (by decide +kernel) (pa_cons (pe_callB cr_sortedPO (by rfl) mso (by decide +kernel) (pa_cons (pv 4) pa_nil)) pa_nil)) pa_nil))))))), ?_⟩
  have line : ∀ k, k ≤ 1000 → k ≤ sizeLine := fun k hk => small hk
  refine ⟨_, rfl, line 7 (by decide), fun F1 n1 => ?_⟩
  have s1 := same_new n1 (.lst [.int 1, .int 2, .int 2, .int 3, .int 3, .int 4, .int 5])
  refine ⟨p, F1, _, rfl, hW.same s1, upd_same, hW.ne n1, by simp, by simp, fun i v H1 hi b1 w1 => ?_⟩
  obtain ⟨l, rfl, l1, l5⟩ := one_five hi
  refine ⟨_, rfl, line 7 (by decide), fun F2 n2 => ?_⟩
  have s2 := same_new n2 (.lst [.int 1, .int 2, .int 2, .int 3, .int 3, .int 4, .int 5])
  refine ⟨p, F2, _, rfl, w1.same s2, upd_same, w1.ne n2, by simp, by simp, fun i2 v2 H2 hi2 b2 w2 => ?_⟩
  obtain ⟨r, rfl, r1, r5⟩ := one_five hi2
  have b02 := (But.of s1).trans (b1.trans ((But.of s2).trans b2))
  refine ⟨line 0 (by decide), fun D nD => ⟨_, _, _, rfl, ?_⟩⟩
  have sD := same_new nD (.lst [])
  have hD := upd_same (H := H2) (a := D) (o := .lst [])
  have Dp := w2.ne nD
  have nD2 : H2 D = none := nD
  have w3 := w2.same sD
  have b3 := But.of (p := p) sD
  clear s1 s2 hi hi2
  generalize upd H2 D (.lst []) = H3 at sD hD w3 b3 ⊢
  refine ⟨_, rfl, _, rfl, _, _, rfl, rfl, p, _, rfl, w3, by omega, by omega, fun n H4 n0 n1 b4 w4 => ?_⟩
  have hD4 := b4 _ _ Dp hD
  have b24 := b3.trans b4
  refine ⟨n, rfl, by omega, by omega, for_range (lo := 0) (n := n.toNat) (fun i σ H' => ∃ (zs : List V) (ps : List E2) (s5 s6 : Option V), σ = [some (.ref p), some (.int (most : Int)), some (.int (l : Int)), some (.int (r : Int)), some (.ref D), s5, s6] ∧ But p H2 H' ∧ Wl H' p ∧ H' D = some (.lst zs) ∧ PairsT H' zs ps ∧ ps.length = i ∧ ∀ q ∈ ps, q.1 < l ∧ q.2 < r) ⟨[], [], none, none, rfl, b24, w4, hD4, .nil, rfl, fun _ z => nomatch z⟩ ?_ ?_⟩
  · rintro i σ H5 li ⟨zs, ps, s5, s6, rfl, b5, w5, hD5, hz, lp, lt⟩
    have lz := PairsT.len hz
    have i9 : i ≤ 10 := by omega
    refine' joinS (i := 6) (R := fun v H' => ∃ b : Bool, v = .bl b ∧ But p H5 H' ∧ Wl H' p ∧ (b = true → 0 < ps.length)) (fun go => ?_) ?_
    rotate_left 2
    · refine ⟨_, rfl, line 0 (by decide), fun Z nZ => ?_⟩
      have sZ := same_new nZ (.lst [])
      have hZ := upd_same (H := H5) (a := Z) (o := .lst [])
      generalize upd H5 Z (.lst []) = H6 at sZ hZ ⊢
      have hz6 := hz.same sZ
      refine ⟨.list (ps.map pairD), .list [], .lst (SqL.of (sZ _ _ hD5)) hz6.at.dp, .lst (SqL.of hZ) .nil, pairs_shapedL ps, pairs_shapedL [], _, rfl, ?_⟩
      refine iteB (fun c => ?_) (fun c => go _ _ ⟨false, rfl, But.of sZ, w5.same sZ, fun z => by cases z⟩)
      have l0 : 0 < ps.length := by
        cases ps with
        | nil => simp [PyData.eqv, PyData.eqvAll] at c
        | cons a r => simp
      refine ⟨_, rfl, p, 6, rfl, w5.same sZ, by decide, by decide, fun d H7 _ _ b7 w7 => ?_⟩
      exact ⟨rfl, go _ _ ⟨_, rfl, (But.of sZ).trans b7, w7, fun _ => l0⟩⟩
    rintro _ H6 ⟨b, rfl, b6, w6, hb⟩
    have hD6 := b6 _ _ Dp hD5
    have hz6 := hz.but b6 w5
    refine ⟨_, rfl, .inl ⟨rfl, _, SqL.of hD6⟩, _, rfl, _, rfl, iteB (fun c => ?_) (fun _ => ?_)⟩
    · have l0 := hb c
      refine ⟨_, rfl, _, rfl, p, D, zs, rfl, w6, hD6, Dp, by omega, by omega, fun j v H7 hj b7 w7 => ?_⟩
      have hD7 := b7 _ _ Dp hD6
      have hz7 := hz6.but b7 w6
      refine ⟨D, zs, _, rfl, rfl, hD7, small1000 (by omega), ?_⟩
      have m := hz7.mem v (List.mem_of_getElem? hj)
      have mp : gOf H7 v ∈ ps := by
        rw [← map_gOf hz7]
        exact List.mem_map.mpr ⟨v, List.mem_of_getElem? hj, rfl⟩
      refine ⟨zs ++ [v], ps ++ [gOf H7 v], _, _, rfl, but_put (b5.trans (b6.trans b7)) nD2, w7.put Dp, upd_same, (hz7.append (.cons m .nil)).put hD7, by rw [List.length_append]; show ps.length + 1 = i + 1; omega, fun q hq => ?_⟩
      rcases List.mem_append.mp hq with hq | hq
      · exact lt q hq
      · rw [List.mem_singleton.mp hq]; exact lt _ mp
    · refine ⟨_, rfl, _, rfl, p, _, rfl, w6, by omega, by omega, fun a H7 a0 a1 b7 w7 => ?_⟩
      refine ⟨_, rfl, _, rfl, p, _, rfl, w7, by omega, by omega, fun c H8 c0 c1 b8 w8 => ?_⟩
      obtain ⟨a, rfl⟩ : ∃ k : Nat, a = (k : Int) := ⟨a.toNat, by omega⟩
      obtain ⟨c, rfl⟩ : ∃ k : Nat, c = (k : Int) := ⟨c.toNat, by omega⟩
      refine ⟨line 2 (by decide), fun u nu => ?_⟩
      have su := same_new nu (.tup [.int (a : Int), .int (c : Int)])
      have hD8 := b8 _ _ Dp (b7 _ _ Dp hD6)
      have hz8 := (hz6.but b7 w6).but b8 w7
      refine ⟨D, zs, _, rfl, rfl, su _ _ hD8, small1000 (by omega), ?_⟩
      have hp := push_pairT (a, c) hD8 nu hz8
      refine ⟨zs ++ [.ref u], ps ++ [(a, c)], _, _, rfl, but_put (b5.trans (b6.trans (b7.trans (b8.trans (But.of su))))) nD2, (w8.same su).put Dp, upd_same, hp, by rw [List.length_append]; show ps.length + 1 = i + 1; omega, fun q hq => ?_⟩
      rcases List.mem_append.mp hq with hq | hq
      · exact lt q hq
      · rw [List.mem_singleton.mp hq]; exact ⟨by show a < l; omega, by show c < r; omega⟩
  · rintro σ H5 ⟨zs, ps, s5, s6, rfl, b5, w5, hD5, hz, lp, lt⟩
    refine ⟨_, rfl, _, rfl, _, rfl, D, zs, kOf H5, rfl, SqL.of hD5, hz.ks, fun ys S so st nS => ?_⟩
    have sS := same_new nS (.lst ys)
    have hS := upd_same (H := H5) (a := S) (o := .lst ys)
    obtain ⟨g1, g2, g3⟩ := sorted_pairsD hz so st
    generalize hg : ys.map (gOf H5) = qs at g1 g2 g3
    generalize upd H5 S (.lst ys) = H6 at sS hS ⊢
    refine ⟨S, _, rfl, .inl ⟨SqL.of hS, fun e ne => ?_⟩⟩
    have se := same_new ne (.tup ys)
    have he := upd_same (H := H6) (a := e) (o := .tup ys)
    generalize upd H6 e (.tup ys) = H7 at se he ⊢
    refine ⟨line 3 (by decide), fun t nt => ?_⟩
    have st := same_new nt (.tup [.int (l : Int), .int (r : Int), .ref e])
    have s57 := sS.trans (se.trans st)
    refine q (.ref t) l r qs _ (b02.trans (b5.trans (But.of s57))) (w5.same s57) ⟨t, e, ys, rfl, upd_same, st _ _ he, g1.same s57⟩ ⟨by omega, by omega, fun q hq => lt q (g3.mem_iff.mp hq), g2⟩ l1 r1 ?_
    rw [g3.length_eq, lp]
    omega
end
end My

set_option maxHeartbeats 8000000
namespace My
open PySem PySem.Spec PyProof.Rows L2
abbrev sAt : Stmt := top 55
abbrev sNear : Stmt := top 56
abbrev sDeg : Stmt := top 57
abbrev sLine : Stmt := top 58
theorem scAt : FnScope ["multi", "side", "vertex", "k"] ["multi", "side", "vertex"] (defScope sAt) := ⟨rfl, rfl, rfl, by decide +kernel, rfl, by decide +kernel, by decide +kernel⟩
theorem scNear : FnScope ["multi", "one", "two"] ["multi", "one", "two"] (defScope sNear) := ⟨rfl, rfl, rfl, by decide +kernel, rfl, by decide +kernel, by decide +kernel⟩
theorem scDeg : FnScope ["multi", "found", "side", "each"] ["multi"] (defScope sDeg) := ⟨rfl, rfl, rfl, by decide +kernel, rfl, by decide +kernel, by decide +kernel⟩
theorem scLine : FnScope ["multi", "found", "one", "two"] ["multi"] (defScope sLine) := ⟨rfl, rfl, rfl, by decide +kernel, rfl, by decide +kernel, by decide +kernel⟩
def spAt (K : PySem.W.Frag) : Sp := fun vs H Q _ => ∃ (x : V) (l r : Nat) (es : List E2) (i v : Nat), vs = [x, .int (i : Int), .int (v : Int)] ∧ MulAt K H x l r es ∧ es.length ≤ 10 ∧ i ≤ 1 ∧ ∀ (t : Addr) H', Same H H' → H' t = some (.tup (numsN (atL es i v))) → Q (.ref t) H'
def spNear (K : PySem.W.Frag) : Sp := fun vs H Q _ => ∃ (x : V) (l r : Nat) (es : List E2) (u v : Nat), vs = [x, .int (u : Int), .int (v : Int)] ∧ MulAt K H x l r es ∧ u < es.length ∧ v < es.length ∧ Q (.bl (decide (u ≠ v) && meetB es u v)) H
def spDeg (K : PySem.W.Frag) : Sp := fun vs H Q _ => ∃ (x : V) (l r : Nat) (es : List E2), vs = [x] ∧ MulAt K H x l r es ∧ MulG l r es ∧ es.length ≤ 10 ∧ ∀ (m : Nat) H', Same H H' → IsMax (degL l r es) m → Q (.int (m : Int)) H'
def spLine (K : PySem.W.Frag) : Sp := fun vs H Q _ => ∃ (x : V) (l r : Nat) (es : List E2), vs = [x] ∧ MulAt K H x l r es ∧ es.length ≤ 9 ∧ ∀ (y : V) H', Same H H' → GraphAt K H' y es.length (lineP es) → Q y H'
theorem pairV_at {K : PySem.W.Frag} {i : Nat} (h : i ≤ 1) (p : E2) : atI [V.int (p.1 : Int), V.int (p.2 : Int)] ((i : Nat) : Int) = some (.int ((sd i p : Nat) : Int)) := by
  rcases (show i = 0 ∨ i = 1 by omega) with rfl | rfl
  · rfl
  · rfl
theorem mul_at {K : PySem.W.Frag} {H : Hp} {x : V} {l r : Nat} {es : List E2} (h : MulAt K H x l r es) : ∃ (t e : Addr) (xs : List V), x = .ref t ∧ SqT K H t [.int (l : Int), .int (r : Int), .ref e] ∧ SqT K H e xs ∧ xs.length = es.length ∧ ∀ k, k < es.length → ∃ u, xs[k]? = some (.ref u) ∧ SqT K H u [.int ((eAt es k).1 : Int), .int ((eAt es k).2 : Int)] := by
  obtain ⟨t, e, xs, rfl, h2, h3, h4⟩ := h
  have le := PairsAt.len h4
  refine ⟨t, e, xs, rfl, h2, h3, le, fun k hk => ?_⟩
  obtain ⟨p, hp, u, hu, su⟩ := PairsAt.get h4 (List.getElem?_eq_getElem (by omega : k < xs.length))
  rw [eAt_get hk] at hp
  cases hp
  exact ⟨u, by rw [List.getElem?_eq_getElem (by omega : k < xs.length), hu], su⟩
theorem dec_nat (a b : Nat) : decide (V.int (a : Int) = V.int (b : Int)) = (a == b) := by
  by_cases h : a = b
  · subst h; simp
  · rw [decide_eq_false (fun z => h (by injection z with z; exact Int.ofNat.inj z))]
    exact (beq_eq_false_iff_ne.mpr h).symm
theorem len_vec (a b c : V) : atI [a, b, c] 2 = some c := atI_nat (j := 2) rfl
section
variable {P : Program} {w : World} {K : PySem.W.Frag} {mg : Str → Option Value} {base : Heap} {f fA fN fW : Addr} {fd dA dN dW : FuncData}
theorem ok_at (F : L2.Fun K "_law_at" "_law_at" sAt f fd) (mr : mg "range" = none) (ml : mg "len" = none) (mt : mg "tuple" = none) : FnOk P w K mg base CX0 1 f fd ["multi", "side", "vertex"] (spAt K) := by
  refine F.ok scAt (fun vs H Q E h => ?_) (fun cdv A outer s H vs Q E hr h => ?_)
  · obtain ⟨x, l, r, es, i, v, rfl, _⟩ := h
    rfl
  obtain ⟨x, l, r, es, i, v, rfl, hx, e10, i1, q⟩ := h
  refine ⟨_, pss_one (ps_ret (pe_callTy call_tuple_of (by rfl) mt (by decide +kernel) (pa_cons (pe_lc (own := [("k", 3)]) (g := gName 3) (tt := tTest (tOp rEq (tOp (rIxT K) (tOp (rIxT K) (tOp (rIxT K) (tVar 0) (tC (.int 2))) (tVar 3)) (tVar 1)) (tVar 2))) rfl scAt.nd
      (pi_range1 rfl mr (pa_cons (pe_callB call_len_seq (by rfl) ml PySem.boot_len (pa_cons (pe_ix (r := rIxT K) ix_tup (pv 0) pe_int (fun _ _ => rfl)) pa_nil)) pa_nil))
      (blkOk_by (N := ["multi", "side", "vertex", "k"]) (sc := defScope sAt) (by decide +kernel)) (fun _ _ _ _ _ => pg_name (i := 3) scAt.nd rfl (Or.inl rfl))
      (fun _ _ _ _ _ => pts_one (pt_cmpR (r := rEq) op_eq (pe_ix (r := rIxT K) ix_tup (pe_ix (r := rIxT K) ix_tup (pe_ix (r := rIxT K) ix_tup (pv 0) pe_int (fun _ _ => rfl)) (pv 3) (fun _ _ => rfl)) (pv 1) (fun _ _ => rfl)) (pv 2) (nomark _)))
      (fun _ _ _ _ _ => pv 3)) pa_nil))), ?_⟩
  obtain ⟨t, e, xs, rfl, ht, he, le, get⟩ := mul_at hx
  refine ⟨_, rfl, t, _, 2, _, rfl, rfl, ht, len_vec _ _ _, e, _, rfl, .inr he, _, rfl, by omega, by omega, fun D nD => lc_range (lo := 0) (n := ((xs.length : Nat) : Int).toNat) (fun j H2 => Same H H2 ∧ H2 D = some (.lst (numsN ((List.range j).filter fun k => sd i (eAt es k) == v)))) ⟨same_new nD _, upd_same⟩ ?_ ?_⟩
  · rintro j H2 lj ⟨s2, hD⟩
    rw [Int.zero_add]
    have jl : j < es.length := by omega
    obtain ⟨u, hu, su⟩ := get j jl
    refine ⟨rfl, ?_⟩
    refine ⟨_, rfl, t, _, 2, _, rfl, rfl, Same.tup s2 ht, len_vec _ _ _, _, rfl, e, xs, _, _, rfl, rfl, Same.tup s2 he, atI_nat hu, _, rfl, u, _, _, _, rfl, rfl, Same.tup s2 su, pairV_at (K := K) i1 _, _, rfl, rfl, _, rfl, ?_⟩
    rw [dec_nat]
    refine iteB (fun c => ?_) (fun c => ?_)
    · refine ⟨_, rfl, _, hD, small1000 (by rw [numsN_len]; refine Nat.le_trans (List.length_filter_le _ _) ?_; rw [List.length_range]; omega), same_put s2 nD, ?_⟩
      rw [upd_same, List.range_succ, List.filter_append, List.filter_cons_of_pos (by exact c), List.filter_nil, numsN_app]
      rfl
    · refine ⟨s2, ?_⟩
      rw [hD, List.range_succ, List.filter_append, List.filter_cons_of_neg (by rw [c]; decide), List.filter_nil, List.append_nil]
  · rintro H2 ⟨s2, hD⟩
    refine ⟨D, _, rfl, .inl ⟨SqL.of hD, fun l nl => ?_⟩⟩
    refine q l _ (s2.trans (same_new nl _)) ?_
    rw [upd_same, show ((xs.length : Nat) : Int).toNat = es.length by omega]
    rfl
theorem ok_near (F : L2.Fun K "_law_near" "_law_near" sNear f fd) : FnOk P w K mg base CX0 1 f fd ["multi", "one", "two"] (spNear K) := by
  refine F.ok scNear (fun vs H Q E h => ?_) (fun cdv A outer s H vs Q E hr h => ?_)
  · obtain ⟨x, l, r, es, u, v, rfl, _⟩ := h
    rfl
  obtain ⟨x, l, r, es, u, v, rfl, hx, hu, hv, q⟩ := h
  refine ⟨_, pss_one (ps_ret (pe_and (pe_cmpR op_ne (pv 1) (pv 2) (nomark _)) (pe_one (pe_or (pe_cmpR op_eq (pe_ix (r := rIxT K) ix_tup (pe_ix (r := rIxT K) ix_tup (pe_ix (r := rIxT K) ix_tup (pv 0) pe_int (fun _ _ => rfl)) (pv 1) (fun _ _ => rfl)) pe_int (fun _ _ => rfl)) (pe_ix (r := rIxT K) ix_tup (pe_ix (r := rIxT K) ix_tup (pe_ix (r := rIxT K) ix_tup (pv 0) pe_int (fun _ _ => rfl)) (pv 2) (fun _ _ => rfl)) pe_int (fun _ _ => rfl)) (nomark _))
      (pe_one (pe_cmpR op_eq (pe_ix (r := rIxT K) ix_tup (pe_ix (r := rIxT K) ix_tup (pe_ix (r := rIxT K) ix_tup (pv 0) pe_int (fun _ _ => rfl)) (pv 1) (fun _ _ => rfl)) pe_int (fun _ _ => rfl)) (pe_ix (r := rIxT K) ix_tup (pe_ix (r := rIxT K) ix_tup (pe_ix (r := rIxT K) ix_tup (pv 0) pe_int (fun _ _ => rfl)) (pv 2) (fun _ _ => rfl)) pe_int (fun _ _ => rfl)) (nomark _))))))), ?_⟩
  obtain ⟨t, e, xs, rfl, ht, he, le, get⟩ := mul_at hx
  obtain ⟨a, ha, sa⟩ := get u hu
  obtain ⟨b, hb, sb⟩ := get v hv
  refine ⟨_, rfl, _, rfl, rfl, _, rfl, ?_⟩
  rw [dec_nat]
  refine iteB (fun c => ?_) (fun c => ?_)
  · have ne : u ≠ v := fun z => by subst z; simp at c
    rw [decide_eq_true ne, Bool.true_and] at q
    refine ⟨_, rfl, t, _, 2, _, rfl, rfl, ht, len_vec _ _ _, _, rfl, e, xs, _, _, rfl, rfl, he, atI_nat ha, a, _, 0, _, rfl, rfl, sa, atI_nat (j := 0) rfl, _, rfl, t, _, 2, _, rfl, rfl, ht, len_vec _ _ _, _, rfl, e, xs, _, _, rfl, rfl, he, atI_nat hb, b, _, 0, _, rfl, rfl, sb, atI_nat (j := 0) rfl, rfl, _, rfl, ?_⟩
    rw [dec_nat]
    unfold meetB at q
    refine iteB (fun c1 => ?_) (fun c1 => ?_)
    · rw [c1, Bool.true_or] at q
      exact q
    · rw [c1, Bool.false_or] at q
      refine ⟨_, rfl, t, _, 2, _, rfl, rfl, ht, len_vec _ _ _, _, rfl, e, xs, _, _, rfl, rfl, he, atI_nat ha, a, _, 1, _, rfl, rfl, sa, atI_nat (j := 1) rfl, _, rfl, t, _, 2, _, rfl, rfl, ht, len_vec _ _ _, _, rfl, e, xs, _, _, rfl, rfl, he, atI_nat hb, b, _, 1, _, rfl, rfl, sb, atI_nat (j := 1) rfl, rfl, ?_⟩
      rw [dec_nat]
      exact q
  · have e : u = v := by
      by_cases z : u = v
      · exact z
      · rw [beq_eq_false_iff_ne.mpr z] at c
        cases c
    rw [decide_eq_false (fun z => z e), Bool.false_and] at q
    exact q
end
end My

set_option maxHeartbeats 4000000
namespace My
open PySem PySem.Spec PyProof.Rows L2
theorem le_pairs (a b c d : Int) : Ob.lexAt (fun j => decide (([a, b] : List Int).getD j 0 = ([c, d] : List Int).getD j 0)) (fun j => decide (([a, b] : List Int).getD j 0 ≤ ([c, d] : List Int).getD j 0)) (decide (([a, b] : List Int).length ≤ ([c, d] : List Int).length)) 0 (min ([a, b] : List Int).length ([c, d] : List Int).length) = leS (.tup [.int a, .int b]) (.tup [.int c, .int d]) := by
  show Ob.lexAt _ _ (decide ((2 : Nat) ≤ 2)) 0 2 = (if a = c then (if b = d then true else decide (b ≤ d)) else decide (a ≤ c))
  simp only [Ob.lexAt]
  by_cases h : a = c
  · subst h
    by_cases h2 : b = d
    · subst h2
      simp
    · simp [h2]
  · simp [h]
theorem two_of {l r : Int} {s : Sh} (h : edgeM l r s = true) : ∃ a b : Int, s = .tup [.int a, .int b] := by
  obtain ⟨p, e, _⟩ := edgeM_pair h
  exact ⟨_, _, e⟩
theorem nev_zip : ∀ ss : List Sh, (List.zipWith leS ss (ss.drop 1)).all id = nevB ss
  | [] => rfl
  | [s] => rfl
  | s :: t :: r => by
    have ih := nev_zip (t :: r)
    show (leS s t && (List.zipWith leS (t :: r) ((t :: r).drop 1)).all id) = (leS s t && nevB (t :: r))
    rw [ih]
theorem isMul_no {a b c : Sh} (h : wholeR 0 9 a = false ∨ wholeR 0 9 b = false ∨ isTup c = false) : isMul (.tup [a, b, c]) = false := by
  cases c with
  | tup es =>
    show ((wholeR 0 9 a && wholeR 0 9 b) && _) = false
    rcases h with h | h | h
    · rw [h]; rfl
    · rw [h, Bool.and_false]; rfl
    · cases h
  | _ => rfl
theorem edgeM_no {l r : Int} {a b : Sh} (h : wholeR 0 (l - 1) a = false ∨ wholeR 0 (r - 1) b = false) : edgeM l r (.tup [a, b]) = false := by
  show (wholeR 0 (l - 1) a && wholeR 0 (r - 1) b) = false
  rcases h with h | h
  · rw [h]; rfl
  · rw [h, Bool.and_false]
theorem wholeR_lt (n i : Int) : wholeR 0 (n - 1) (.int i) = (decide (0 ≤ i) && decide (i < n)) := by
  show (decide (i ≥ 0) && decide (i ≤ n - 1)) = _
  congr 1
  exact decide_eq_decide.mpr (by omega)
/-- [f(xs[k], xs[k + 1]) for k ..] -/
theorem zip_take {f : Sh → Sh → Bool} {ss : List Sh} {k : Nat} {a b : Sh} (ha : ss[k]? = some a) (hb : ss[k + 1]? = some b) : (List.zipWith f ss (ss.drop 1))[k]? = some (f a b) := by
  rw [List.getElem?_zipWith, ha, List.getElem?_drop, Nat.add_comm, hb]
theorem lineP_eq (es : List E2) : lineP es = (List.range es.length).flatMap fun u => (rowP es.length u).filter fun p => meetB es p.1 p.2 := List.filter_flatMap
end My

set_option maxHeartbeats 2000000
/-! Sets of vertices as masks, in plain Lean. -/
namespace My
open PySem PySem.Spec PyProof.Rows L2
theorem and_nn (a b : Nat) : Builtin.bitAnd (a : Int) (b : Int) = ((a &&& b : Nat) : Int) := by
  rw [bitAnd_pp (by omega) (by omega), Int.toNat_natCast, Int.toNat_natCast]
theorem or_nn (a b : Nat) : Builtin.bitOr (a : Int) (b : Int) = ((a ||| b : Nat) : Int) := by
  have n1 : ∀ k : Nat, Builtin.bitNot (Builtin.bitNot (k : Int)) = (k : Int) := fun k => by unfold Builtin.bitNot; omega
  have n2 : ∀ k : Nat, ¬ 0 ≤ Builtin.bitNot (k : Int) := fun k => by unfold Builtin.bitNot; omega
  unfold Builtin.bitOr Builtin.bitAnd
  simp only [n2, decide_false]
  rw [n1, n1, n1, Int.toNat_natCast, Int.toNat_natCast]
def adjB (es : List E2) (u v : Nat) : Bool := decide ((min u v, max u v) ∈ es)
theorem adj_comm (es : List E2) (u v : Nat) : adjB es u v = adjB es v u := by
  unfold adjB
  rw [Nat.min_comm, Nat.max_comm]
theorem adj_ne {n : Nat} {es : List E2} (g : Good n es) {u v : Nat} (h : adjB es u v = true) : u ≠ v ∧ u < n ∧ v < n := by
  have z := g.lt _ (of_decide_eq_true h)
  dsimp only at z
  omega
def NbOk (n : Nat) (es : List E2) (nb : List Nat) : Prop := nb.length = n ∧ ∀ u, u < n → ∀ v, (nb.getD u 0).testBit v = adjB es u v
theorem nb_nil (n : Nat) : NbOk n [] (List.replicate n 0) := by
  refine ⟨List.length_replicate .., fun u hu v => ?_⟩
  rw [List.getD_eq_getElem?_getD, List.getElem?_replicate, if_pos hu]
  simp [adjB]
theorem bit_pow (a v : Nat) : (2 ^ a).testBit v = decide (a = v) := by
  rw [Nat.testBit_two_pow]
theorem nb_step {n : Nat} {l : List E2} {nb : List Nat} {a b : Nat} (h : NbOk n l nb) (ab : a < b) (bn : b < n) :
    NbOk n (l ++ [(a, b)]) ((nb.set a (nb.getD a 0 ||| 2 ^ b)).set b ((nb.set a (nb.getD a 0 ||| 2 ^ b)).getD b 0 ||| 2 ^ a)) := by
  obtain ⟨hl, hb⟩ := h
  refine ⟨by rw [List.length_set, List.length_set, hl], fun u hu v => ?_⟩
  have eb : (nb.set a (nb.getD a 0 ||| 2 ^ b)).getD b 0 = nb.getD b 0 := by
    rw [List.getD_eq_getElem?_getD, List.getElem?_set_ne (by omega), ← List.getD_eq_getElem?_getD]
  rw [eb]
  have ad : adjB (l ++ [(a, b)]) u v = (adjB l u v || (decide (u = a ∧ v = b) || decide (u = b ∧ v = a))) := by
    unfold adjB
    rw [Bool.eq_iff_iff]
    simp only [decide_eq_true_eq, Bool.or_eq_true, List.mem_append, List.mem_singleton, Prod.mk.injEq]
    constructor
    · rintro (z | ⟨z1, z2⟩)
      · exact .inl z
      · right
        omega
    · rintro (z | z | z)
      · exact .inl z
      · right; omega
      · right; omega
  rw [ad]
  by_cases c1 : u = b
  · subst c1
    rw [List.getD_eq_getElem?_getD, List.getElem?_set_self (by rw [List.length_set, hl]; exact hu)]
    show (nb.getD u 0 ||| 2 ^ a).testBit v = _
    rw [Nat.testBit_or, hb u hu, bit_pow]
    congr 1
    rw [Bool.eq_iff_iff, Bool.or_eq_true, decide_eq_true_eq, decide_eq_true_eq, decide_eq_true_eq]
    constructor
    · intro z
      exact .inr ⟨rfl, z.symm⟩
    · rintro (z | z)
      · exact absurd z.1 (by omega)
      · exact z.2.symm
  · rw [List.getD_eq_getElem?_getD, List.getElem?_set_ne (by omega)]
    by_cases c2 : u = a
    · subst c2
      rw [List.getElem?_set_self (by rw [hl]; exact hu)]
      show (nb.getD u 0 ||| 2 ^ b).testBit v = _
      rw [Nat.testBit_or, hb u hu, bit_pow]
      congr 1
      rw [Bool.eq_iff_iff, Bool.or_eq_true, decide_eq_true_eq, decide_eq_true_eq, decide_eq_true_eq]
      constructor
      · intro z
        exact .inl ⟨rfl, z.symm⟩
      · rintro (z | z)
        · exact z.2.symm
        · exact absurd z.1 c1
    · rw [List.getElem?_set_ne (by omega), ← List.getD_eq_getElem?_getD, hb u hu]
      have z : (decide (u = a ∧ v = b) || decide (u = b ∧ v = a)) = false := by
        rw [Bool.or_eq_false_iff]
        exact ⟨decide_eq_false (fun z => c2 z.1), decide_eq_false (fun z => c1 z.1)⟩
      rw [z, Bool.or_false]
/-! cliques -/
def Clq (es : List E2) (m : Nat) : Prop := ∀ u v, m.testBit u = true → m.testBit v = true → u ≠ v → adjB es u v = true
theorem sub_and (a b : Nat) : a &&& b = a ↔ ∀ v, a.testBit v = true → b.testBit v = true := by
  constructor
  · intro h v hv
    have z := congrArg (Nat.testBit · v) h
    simp only [Nat.testBit_and, hv, Bool.true_and] at z
    exact z
  · intro h
    refine Nat.eq_of_testBit_eq fun v => ?_
    rw [Nat.testBit_and]
    cases e : a.testBit v with
    | false => rfl
    | true => rw [h v e]; rfl
def FoundOk (es : List E2) (k : Nat) (found : List Nat) : Prop := found.Nodup ∧ ∀ m, m ∈ found ↔ m < 2 ^ k ∧ Clq es m
theorem found_nil (es : List E2) : FoundOk es 0 [0] := by
  refine ⟨by simp, fun m => ?_⟩
  rw [List.mem_singleton]
  constructor
  · rintro rfl
    exact ⟨by decide, fun u v h => by simp at h⟩
  · intro h
    have := h.1
    omega
def goOn (found : List Nat) (k near : Nat) : List Nat := found ++ (found.filter fun m => m &&& near == m).map (· ||| 2 ^ k)
theorem or_pow_bit {c k v : Nat} : (c ||| 2 ^ k).testBit v = (c.testBit v || decide (k = v)) := by rw [Nat.testBit_or, bit_pow]
theorem high_out {c k v : Nat} (h : c < 2 ^ k) (hv : k ≤ v) : c.testBit v = false := Nat.testBit_lt_two_pow (Nat.lt_of_lt_of_le h (Nat.pow_le_pow_right (by decide) hv))
theorem found_step {n : Nat} {es : List E2} {nb : List Nat} {found : List Nat} {k : Nat} (h : FoundOk es k found) (nk : NbOk n es nb) (kn : k < n) : FoundOk es (k + 1) (goOn found k (nb.getD k 0)) := by
  obtain ⟨nd, mem⟩ := h
  have low : ∀ m ∈ found, m < 2 ^ k := fun m hm => ((mem m).mp hm).1
  constructor
  · unfold goOn
    rw [List.nodup_append]
    refine ⟨nd, ?_, ?_⟩
    · show List.Pairwise _ _
      rw [List.pairwise_map]
      refine List.Pairwise.imp_of_mem ?_ (nd.filter _)
      intro x y hx hy ne e
      refine ne (?_ : x = y)
      refine Nat.eq_of_testBit_eq fun v => ?_
      have lx := low x (List.mem_filter.mp hx).1
      have ly := low y (List.mem_filter.mp hy).1
      have z := congrArg (Nat.testBit · v) e
      simp only [or_pow_bit] at z
      by_cases c : k = v
      · subst c
        rw [high_out lx (Nat.le_refl _), high_out ly (Nat.le_refl _)]
      · rw [decide_eq_false c, Bool.or_false, Bool.or_false] at z
        exact z
    · intro a ha b hb e
      subst e
      obtain ⟨c, hc, e⟩ := List.mem_map.mp hb
      have z := high_out (low a ha) (Nat.le_refl k)
      rw [← e, or_pow_bit, decide_eq_true rfl, Bool.or_true] at z
      cases z
  · intro m
    unfold goOn
    rw [List.mem_append, mem m, List.mem_map]
    constructor
    · rintro (⟨h1, h2⟩ | ⟨c, hc, rfl⟩)
      · exact ⟨Nat.lt_of_lt_of_le h1 (Nat.pow_le_pow_right (by decide) (Nat.le_succ k)), h2⟩
      · obtain ⟨hc, near⟩ := List.mem_filter.mp hc
        obtain ⟨lc, cl⟩ := (mem c).mp hc
        have sub := (sub_and c _).mp (by simpa using near)
        refine ⟨Nat.or_lt_two_pow (Nat.lt_of_lt_of_le lc (Nat.pow_le_pow_right (by decide) (Nat.le_succ k))) (Nat.pow_lt_pow_right (by decide) (Nat.lt_succ_self k)), fun u v hu hv ne => ?_⟩
        rw [or_pow_bit] at hu hv
        simp only [Bool.or_eq_true, decide_eq_true_eq] at hu hv
        rcases hu with hu | rfl
        · rcases hv with hv | rfl
          · exact cl u v hu hv ne
          · rw [adj_comm, ← nk.2 k kn]
            exact sub u hu
        · rcases hv with hv | rfl
          · rw [← nk.2 k kn]
            exact sub v hv
          · exact absurd rfl ne
    · rintro ⟨h1, h2⟩
      by_cases c : m.testBit k = true
      · right
        have le : m % 2 ^ k < 2 ^ k := Nat.mod_lt _ (Nat.two_pow_pos k)
        have bits : ∀ v, (m % 2 ^ k).testBit v = (decide (v < k) && m.testBit v) := fun v => Nat.testBit_mod_two_pow m k v
        refine ⟨m % 2 ^ k, List.mem_filter.mpr ⟨(mem _).mpr ⟨le, fun u v hu hv ne => ?_⟩, ?_⟩, ?_⟩
        · rw [bits, Bool.and_eq_true] at hu hv
          exact h2 u v hu.2 hv.2 ne
        · have s : m % 2 ^ k &&& nb.getD k 0 = m % 2 ^ k := (sub_and _ _).mpr fun v hv => by
            rw [bits, Bool.and_eq_true] at hv
            have lt := of_decide_eq_true hv.1
            rw [nk.2 k kn]
            exact h2 k v c hv.2 (by omega)
          simpa using s
        · refine Nat.eq_of_testBit_eq fun v => ?_
          rw [or_pow_bit, bits]
          by_cases e : k = v
          · subst e; simp [c]
          · by_cases l : v < k
            · simp [l, e]
            · have z : m.testBit v = false := high_out h1 (by omega)
              simp [l, e, z]
      · left
        refine ⟨?_, h2⟩
        refine Nat.lt_pow_two_of_testBit m fun v hv => ?_
        by_cases e : v = k
        · subst e; simpa using c
        · exact high_out h1 (by omega)
/-! lots as masks -/
def maskN (l : List Nat) : Nat := (l.map fun k => 2 ^ k).sum
theorem desc_lt : ∀ {l : List Nat} {k : Nat}, l.Pairwise (· > ·) → (∀ a ∈ l, a < k) → maskN l < 2 ^ k
  | [], k, _, _ => Nat.two_pow_pos k
  | a :: r, k, h, lt => by
    have ak := lt a (List.mem_cons_self ..)
    have ih := desc_lt (l := r) (k := a) (List.pairwise_cons.mp h).2 fun b hb => (List.pairwise_cons.mp h).1 b hb
    have e : maskN (a :: r) = 2 ^ a + maskN r := by unfold maskN; rw [List.map_cons, List.sum_cons]
    have z : 2 ^ (a + 1) ≤ 2 ^ k := Nat.pow_le_pow_right (by decide) ak
    rw [Nat.pow_succ] at z
    omega
theorem desc_bit : ∀ {l : List Nat}, l.Pairwise (· > ·) → ∀ v, (maskN l).testBit v = decide (v ∈ l)
  | [], _, v => by simp [maskN]
  | a :: r, h, v => by
    have lt := desc_lt (l := r) (k := a) (List.pairwise_cons.mp h).2 fun b hb => (List.pairwise_cons.mp h).1 b hb
    have ih := desc_bit (l := r) (List.pairwise_cons.mp h).2 v
    have e : maskN (a :: r) = 2 ^ a + maskN r := by unfold maskN; rw [List.map_cons, List.sum_cons]
    rw [e]
    rcases Nat.lt_trichotomy v a with c | c | c
    · rw [Nat.testBit_two_pow_add_gt c, ih]
      have ne : v ≠ a := by omega
      simp [ne]
    · subst c
      rw [Nat.testBit_two_pow_add_eq, high_out lt (Nat.le_refl _)]
      simp
    · have z : 2 ^ a + maskN r < 2 ^ (a + 1) := by rw [Nat.pow_succ]; omega
      rw [high_out z c]
      have n1 : v ≠ a := by omega
      have n2 : v ∉ r := fun hv => by have := (List.pairwise_cons.mp h).1 v hv; omega
      simp [n1, n2]
theorem mask_rev (l : List Nat) : maskN l.reverse = maskN l := by
  unfold maskN
  rw [List.map_reverse]
  exact List.sum_reverse _
theorem mask_bit {l : List Nat} (h : l.Pairwise (· < ·)) (v : Nat) : (maskN l).testBit v = decide (v ∈ l) := by
  rw [← mask_rev, desc_bit (List.pairwise_reverse.mpr h)]
  simp
/-- the lot of a mask's bits below n -/
def bitsN (n m : Nat) : List Nat := (List.range n).filter fun v => m.testBit v
theorem bits_up (n m : Nat) : (bitsN n m).Pairwise (· < ·) := (List.pairwise_lt_range).filter _
theorem mem_bits {n m v : Nat} : v ∈ bitsN n m ↔ v < n ∧ m.testBit v = true := by
  unfold bitsN
  rw [List.mem_filter, List.mem_range]
theorem mask_bits {n m : Nat} (h : m < 2 ^ n) : maskN (bitsN n m) = m := by
  refine Nat.eq_of_testBit_eq fun v => ?_
  rw [mask_bit (bits_up n m)]
  by_cases c : v < n
  · cases e : m.testBit v with
    | true => exact decide_eq_true (mem_bits.mpr ⟨c, e⟩)
    | false => exact decide_eq_false fun z => by rw [(mem_bits.mp z).2] at e; cases e
  · rw [high_out h (by omega)]
    exact decide_eq_false fun z => c (mem_bits.mp z).1
/-- two ascending lists with the same members -/
theorem eq_of_lt : ∀ {l m : List Nat}, l.Pairwise (· < ·) → m.Pairwise (· < ·) → (∀ k, k ∈ l ↔ k ∈ m) → l = m
  | [], [], _, _, _ => rfl
  | [], b :: m, _, _, h => absurd ((h b).mpr (List.mem_cons_self ..)) (by simp)
  | a :: l, [], _, _, h => absurd ((h a).mp (List.mem_cons_self ..)) (by simp)
  | a :: l, b :: m, hl, hm, h => by
    have l1 := (List.pairwise_cons.mp hl).1
    have m1 := (List.pairwise_cons.mp hm).1
    have e : a = b := by
      rcases List.mem_cons.mp ((h a).mp (List.mem_cons_self ..)) with e | e
      · exact e
      · rcases List.mem_cons.mp ((h b).mpr (List.mem_cons_self ..)) with e2 | e2
        · exact e2.symm
        · have := l1 b e2
          have := m1 a e
          omega
    subst e
    rw [eq_of_lt (List.pairwise_cons.mp hl).2 (List.pairwise_cons.mp hm).2 fun k => ?_]
    constructor
    · intro hk
      have := l1 k hk
      rcases List.mem_cons.mp ((h k).mp (List.mem_cons_of_mem _ hk)) with e | e
      · omega
      · exact e
    · intro hk
      have := m1 k hk
      rcases List.mem_cons.mp ((h k).mpr (List.mem_cons_of_mem _ hk)) with e | e
      · omega
      · exact e
theorem bits_mask {n : Nat} {l : List Nat} (h : l.Pairwise (· < ·)) (lt : ∀ k ∈ l, k < n) : bitsN n (maskN l) = l := by
  refine eq_of_lt (bits_up n _) h fun k => ?_
  rw [mem_bits, mask_bit h, decide_eq_true_eq]
  exact ⟨fun z => z.2, fun z => ⟨lt k z, z⟩⟩
/-- all of a list are adjacent two by two, or no two are -/
def PairB (es : List E2) (tied : Bool) (l : List Nat) : Prop := l.Pairwise fun u v => adjB es u v = tied
instance (es : List E2) (tied : Bool) (l : List Nat) : Decidable (PairB es tied l) := inferInstanceAs (Decidable (List.Pairwise _ l))
theorem pairB_mem {es : List E2} {tied : Bool} {l : List Nat} (nd : l.Nodup) : PairB es tied l ↔ ∀ u ∈ l, ∀ v ∈ l, u ≠ v → adjB es u v = tied := by
  unfold PairB
  constructor
  · intro h
    induction l with
    | nil => intro u hu; cases hu
    | cons a r ih =>
      obtain ⟨h1, h2⟩ := List.pairwise_cons.mp h
      have ih := ih (List.nodup_cons.mp nd).2 h2
      intro u hu v hv ne
      rcases List.mem_cons.mp hu with e1 | hu2
      · rcases List.mem_cons.mp hv with e2 | hv2
        · exact absurd (e1.trans e2.symm) ne
        · rw [e1]; exact h1 v hv2
      · rcases List.mem_cons.mp hv with e2 | hv2
        · rw [adj_comm, e2]; exact h1 u hu2
        · exact ih u hu2 v hv2 ne
  · intro h
    refine List.Pairwise.imp_of_mem (R := fun u v => u ≠ v) ?_ nd
    intro u v hu hv ne
    exact h u hu v hv ne
theorem clq_mask {es : List E2} {l : List Nat} (h : l.Pairwise (· < ·)) : Clq es (maskN l) ↔ PairB es true l := by
  rw [pairB_mem (h.imp fun z => Nat.ne_of_lt z)]
  constructor
  · intro c u hu v hv ne
    exact c u v (by rw [mask_bit h]; exact decide_eq_true hu) (by rw [mask_bit h]; exact decide_eq_true hv) ne
  · intro c u v hu hv ne
    rw [mask_bit h] at hu hv
    exact c u (of_decide_eq_true hu) v (of_decide_eq_true hv) ne
end My

set_option maxHeartbeats 4000000
/-! Tables of who is adjacent to whom: lists of lists of bools. -/
namespace My
open PySem PySem.Spec PyProof.Rows L2
def tabP (n : Nat) (f : Nat → Nat → Bool) : List E2 := (allP n).filter fun p => f p.1 p.2
theorem tab_good {n : Nat} (h : n ≤ 9) (f : Nat → Nat → Bool) : Good n (tabP n f) :=
  ⟨h, fun p hp => mem_allP.mp (List.mem_filter.mp hp).1, (allP_up n h).filter _⟩
theorem tabP_eq (n : Nat) (f : Nat → Nat → Bool) : tabP n f = (List.range n).flatMap fun u => (rowP n u).filter fun p => f p.1 p.2 := List.filter_flatMap
def rowV (n : Nat) (f : Nat → Bool) : List V := (List.range n).map fun j => V.bl (f j)
theorem rowV_len (n : Nat) (f : Nat → Bool) : (rowV n f).length = n := by unfold rowV; rw [List.length_map, List.length_range]
theorem rowV_get {n j : Nat} (f : Nat → Bool) (h : j < n) : (rowV n f)[j]? = some (.bl (f j)) := by
  unfold rowV
  rw [List.getElem?_map, List.getElem?_range h]
  rfl
theorem rowV_set {n : Nat} (f : Nat → Bool) (j : Nat) (b : Bool) : (rowV n f).set j (.bl b) = rowV n fun k => if k = j then b else f k := by
  refine List.ext_getElem? fun k => ?_
  by_cases hk : k < n
  · rw [rowV_get _ hk]
    by_cases e : k = j
    · subst e
      rw [List.getElem?_set_self (by rw [rowV_len]; exact hk), if_pos rfl]
    · rw [List.getElem?_set_ne (Ne.symm e), rowV_get f hk, if_neg e]
  · rw [List.getElem?_eq_none (by rw [List.length_set, rowV_len]; omega), List.getElem?_eq_none (by rw [rowV_len]; omega)]
theorem rowV_succ (n : Nat) (f : Nat → Bool) : rowV (n + 1) f = rowV n f ++ [.bl (f n)] := by
  unfold rowV
  rw [List.range_succ, List.map_append]
  rfl
theorem rowV_congr {n : Nat} {f g : Nat → Bool} (h : ∀ j, j < n → f j = g j) : rowV n f = rowV n g := by
  unfold rowV
  exact List.map_congr_left fun j hj => by rw [h j (List.mem_range.mp hj)]
structure TabR (H : Hp) (D : Addr) (n : Nat) (f : Nat → Nat → Bool) (rs : List Addr) : Prop where
  hd : H D = some (.lst (rs.map V.ref))
  len : rs.length = n
  row : ∀ i r, rs[i]? = some r → H r = some (.lst (rowV n (f i)))
theorem TabR.same {H H' : Hp} (s : Same H H') {D : Addr} {n : Nat} {f : Nat → Nat → Bool} {rs : List Addr} (h : TabR H D n f rs) : TabR H' D n f rs := ⟨s _ _ h.hd, h.len, fun i r hi => s _ _ (h.row i r hi)⟩
theorem TabR.get {H : Hp} {D : Addr} {n : Nat} {f : Nat → Nat → Bool} {rs : List Addr} (h : TabR H D n f rs) {i : Nat} (hi : i < n) : ∃ r, rs[i]? = some r ∧ (rs.map V.ref)[i]? = some (.ref r) ∧ H r = some (.lst (rowV n (f i))) := by
  have l : i < rs.length := by rw [h.len]; exact hi
  refine ⟨rs[i], List.getElem?_eq_getElem l, by rw [List.getElem?_map, List.getElem?_eq_getElem l]; rfl, h.row i _ (List.getElem?_eq_getElem l)⟩
theorem TabR.congr {H : Hp} {D : Addr} {n : Nat} {f g : Nat → Nat → Bool} {rs : List Addr} (h : TabR H D n f rs) (e : ∀ i j, i < n → j < n → f i j = g i j) : TabR H D n g rs :=
  ⟨h.hd, h.len, fun i r hi => by
    rw [h.row i r hi, rowV_congr fun j hj => e i j (by have := (List.getElem?_eq_some_iff.mp hi).1; rw [h.len] at this; exact this) hj]⟩
theorem ixN_of {n j : Nat} (h : j < n) : ixN n (j : Int) = some j := by
  unfold ixN
  rw [if_pos (by omega), if_pos (by omega), Int.toNat_natCast]
def GraphT (H : Hp) (x : V) (n : Nat) (es : List E2) : Prop := ∃ (t e : Addr) (xs : List V), x = .ref t ∧ H t = some (.tup [.int (n : Int), .ref e]) ∧ H e = some (.tup xs) ∧ PairsT H xs es
theorem GraphT.at {K : PySem.W.Frag} {H : Hp} {x : V} {n : Nat} {es : List E2} (h : GraphT H x n es) : GraphAt K H x n es := by
  obtain ⟨t, e, xs, h1, h2, h3, h4⟩ := h
  exact ⟨t, e, xs, h1, SqT.of h2, SqT.of h3, h4.at⟩
theorem GraphT.same {H H' : Hp} (s : Same H H') {x : V} {n : Nat} {es : List E2} (h : GraphT H x n es) : GraphT H' x n es := by
  obtain ⟨t, e, xs, h1, h2, h3, h4⟩ := h
  exact ⟨t, e, xs, h1, s _ _ h2, s _ _ h3, h4.same s⟩
theorem GraphT.but {p : Addr} {H H' : Hp} (b : But p H H') (w : Wl H p) {x : V} {n : Nat} {es : List E2} (h : GraphT H x n es) : GraphT H' x n es := by
  obtain ⟨t, e, xs, h1, h2, h3, h4⟩ := h
  exact ⟨t, e, xs, h1, b _ _ (wl_tup w h2) h2, b _ _ (wl_tup w h3) h3, h4.but b w⟩
theorem GraphAt.same' {K : PySem.W.Frag} {H H' : Hp} (s : Same H H') {x : V} {n : Nat} {es : List E2} (h : GraphAt K H x n es) : GraphAt K H' x n es := h.ts (TS.of s)
theorem pair_at {K : PySem.W.Frag} {H : Hp} {xs : List V} {es : List E2} (h : PairsAt K H xs es) {i : Nat} {p : E2} (hp : es[i]? = some p) : ∃ u, xs[i]? = some (.ref u) ∧ SqT K H u [.int (p.1 : Int), .int (p.2 : Int)] := by
  have le := PairsAt.len h
  have hi : i < xs.length := by rw [le]; exact (List.getElem?_eq_some_iff.mp hp).1
  obtain ⟨q, hq, u, hu, su⟩ := PairsAt.get h (List.getElem?_eq_getElem hi)
  rw [hp] at hq
  cases hq
  exact ⟨u, by rw [List.getElem?_eq_getElem hi, hu], su⟩
theorem adj_nil (u v : Nat) : adjB [] u v = false := by simp [adjB]
theorem adj_snoc {l : List E2} {a b : Nat} (ab : a < b) (u v : Nat) : adjB (l ++ [(a, b)]) u v = (adjB l u v || (decide (u = a ∧ v = b) || decide (u = b ∧ v = a))) := by
  unfold adjB
  have e : decide ((min u v, max u v) ∈ l ++ [(a, b)]) = (decide ((min u v, max u v) ∈ l) || decide ((min u v, max u v) = (a, b))) := by
    rw [Bool.eq_iff_iff]
    simp
  rw [e]
  congr 1
  rw [Bool.eq_iff_iff]
  simp only [Bool.or_eq_true, decide_eq_true_eq, Prod.mk.injEq]
  omega
end My

set_option maxHeartbeats 4000000
/-! range(n) as a value; list(range(n)). -/
namespace My
open PySem PySem.Spec PyProof.Rows L2
section
variable {X : Cx}
def rRng1 : List V → Hp → VK → Prop := fun vs H Q => ∃ j : Int, vs = [V.int j] ∧ ∀ p, H p = none → Q (.ref p) (upd H p (.rng 0 j))
theorem cr_range1 : CallR X (.type "range") rRng1 := by
  intro pins s σ H vs us Q I r h
  obtain ⟨j, rfl, q⟩ := h
  obtain ⟨u1, rfl, t, rfl⟩ := vals1 r
  refine call_range_1 ⟨.ref s.heap.objs.size, upd H s.heap.objs.size (.rng 0 j), I.laid (t' := s.toks + 2) (fun b o e => Heap.get?_push_of_some _ e) (Nat.le_refl _) ?_, rfl, q _ (I.hok.fresh (Nat.le_refl _))⟩
  exact ⟨_, _, _, Heap.get?_push_size _ rfl⟩
def rListRng : List V → Hp → VK → Prop := fun vs H Q => ∃ (a : Addr) (n : Nat), vs = [V.ref a] ∧ H a = some (.rng 0 (n : Int)) ∧ n ≤ 1000 ∧ ∀ p, H p = none → Q (.ref p) (upd H p (.lst (numsN (List.range n))))
theorem call_listRng (hc : X.calm = true) : CallR X (.type "list") rListRng := by
  intro pins s σ H vs us Q I r h
  obtain ⟨a, n, rfl, ha, hn, q⟩ := h
  obtain ⟨u1, rfl, ru⟩ := vals1 r
  obtain rfl : u1 = Value.ref a := ru
  obtain ⟨t1, t2, t3, ho⟩ := I.hok a _ ha
  refine call_list_range (I.ok.hd hc) (n := n) ho (small_one (by decide) (by decide) (by omega) (by omega)) (by rw [rangeSize_one]; split <;> omega) (by omega) fun h' tk acc c' hk e' hi => ?_
  refine ⟨.ref s.heap.objs.size, upd H s.heap.objs.size (.lst (numsN (List.range n))), I.laid hk (Nat.le_refl _) (show ObjOk X.prog X.w _ _ _ (.lst (numsN (List.range n))) from ⟨?_, acc.toList, c', ?_, ?_⟩), rfl, q _ (I.hok.fresh (Nat.le_refl _))⟩
  · rw [numsN_len, List.length_range]; exact small hn
  · have la : acc.toList.length = n := by rw [Array.length_toList]; exact hi.1
    have es : numsN (List.range n) = (List.range acc.toList.length).map fun i => V.int ((i : Nat) : Int) := by
      rw [la]
      rfl
    rw [es]
    refine vals_of_get acc.toList _ fun j u hj => ?_
    obtain ⟨t, rfl⟩ := hi.2 j u (by rw [← hj, Array.getElem?_toList])
    exact ⟨t, by rw [Int.mul_one, Int.zero_add]⟩
  · rw [Array.toArray_toList]
    exact e'
end
end My

set_option maxHeartbeats 4000000
/-! Orientations: lists of pairs of numbers of any kind. -/
namespace My
open PySem PySem.Spec PyProof.Rows L2
abbrev Z2 := Int × Int
def zS (p : Z2) : Sh := .tup [.int p.1, .int p.2]
def zE (p : E2) : Z2 := ((p.1 : Int), (p.2 : Int))
def zw (p : Z2) : Z2 := (p.2, p.1)
def zD (p : Z2) : PyData := .tuple [.int p.1, .int p.2]
/-- s is an orientation of es -/
def Ori (es : List E2) (s : Sh) : Prop := ∃ ps : List Z2, s = .tup (ps.map zS) ∧ ascB (ps.map zS) = true ∧ (∀ p ∈ ps, p ∈ es.map zE ∨ zw p ∈ es.map zE) ∧ ∀ e ∈ es.map zE, e ∈ ps ∨ zw e ∈ ps
open Classical in
noncomputable def oriB (es : List E2) (s : Sh) : Bool := decide (Ori es s)
theorem ori_yes {es : List E2} {s : Sh} (h : Ori es s) : oriB es s = true := @decide_eq_true _ (Classical.propDecidable _) h
theorem ori_no {es : List E2} {s : Sh} (h : ¬ Ori es s) : oriB es s = false := @decide_eq_false _ (Classical.propDecidable _) h
theorem zS_inj {p q : Z2} (h : zS p = zS q) : p = q := by
  unfold zS at h
  injection h with h
  injection h with h1 h
  injection h with h2 _
  injection h1 with h1
  injection h2 with h2
  exact Prod.ext h1 h2
theorem zSs_inj : ∀ {ps qs : List Z2}, ps.map zS = qs.map zS → ps = qs
  | [], [], _ => rfl
  | [], _ :: _, h => by cases h
  | _ :: _, [], h => by cases h
  | p :: ps, q :: qs, h => by
    rw [List.map_cons, List.map_cons] at h
    injection h with h1 h2
    rw [zS_inj h1, zSs_inj h2]
theorem ori_iff {es : List E2} {ps : List Z2} : Ori es (.tup (ps.map zS)) ↔ ascB (ps.map zS) = true ∧ (∀ p ∈ ps, p ∈ es.map zE ∨ zw p ∈ es.map zE) ∧ ∀ e ∈ es.map zE, e ∈ ps ∨ zw e ∈ ps := by
  constructor
  · rintro ⟨qs, e, h⟩
    injection e with e
    rw [zSs_inj e]
    exact h
  · exact fun h => ⟨ps, rfl, h⟩
def isZ : Sh → Bool
  | .tup [.int _, .int _] => true
  | _ => false
theorem isZ_of {s : Sh} (h : isZ s = true) : ∃ p, s = zS p := by
  unfold isZ at h
  split at h
  · exact ⟨(_, _), rfl⟩
  · cases h
theorem isZs : ∀ {ss : List Sh}, ss.all isZ = true → ∃ ps : List Z2, ss = ps.map zS
  | [], _ => ⟨[], rfl⟩
  | s :: ss, h => by
    rw [List.all_cons, Bool.and_eq_true] at h
    obtain ⟨p, rfl⟩ := isZ_of h.1
    obtain ⟨ps, rfl⟩ := isZs h.2
    exact ⟨p :: ps, rfl⟩
theorem isZ_zS (p : Z2) : isZ (zS p) = true := rfl
theorem all_isZ (ps : List Z2) : (ps.map zS).all isZ = true := by
  rw [List.all_eq_true]
  intro s hs
  obtain ⟨p, _, rfl⟩ := List.mem_map.mp hs
  rfl
theorem ori_not {es : List E2} {ss : List Sh} (h : ss.all isZ = false) : ¬ Ori es (.tup ss) := by
  rintro ⟨ps, e, _⟩
  injection e with e
  rw [e, all_isZ] at h
  cases h
theorem zS_at {K : PySem.W.Frag} {H : Hp} {x : V} {p : Z2} (h : ShAt K H x (zS p)) : ∃ t, x = .ref t ∧ SqT K H t [.int p.1, .int p.2] := by
  cases h with
  | tup h r =>
    cases r with
    | cons a r =>
      cases r with
      | cons b r =>
        cases r
        cases a
        cases b
        exact ⟨_, rfl, h⟩
theorem at_zS {K : PySem.W.Frag} {H : Hp} {t : Addr} {p : Z2} (h : SqT K H t [.int p.1, .int p.2]) : ShAt K H (.ref t) (zS p) := .tup h (.cons (.int _) (.cons (.int _) .nil))
theorem zS_dp {K : PySem.W.Frag} {H : Hp} {x : V} {p : Z2} (h : ShAt K H x (zS p)) : Dp K H x (zD p) := by
  obtain ⟨t, rfl, ht⟩ := zS_at h
  exact .tup ht (.cons (.int _) (.cons (.int _) .nil))
theorem zSs_dp {K : PySem.W.Frag} {H : Hp} : ∀ {xs : List V} {ps : List Z2}, ShsAt K H xs (ps.map zS) → DpAll K H xs (ps.map zD)
  | [], [], _ => .nil
  | _ :: _, [], h => by cases h
  | [], _ :: _, h => by cases h
  | x :: xs, p :: ps, h => by
    rw [List.map_cons] at h
    cases h with
    | cons a r => exact .cons (zS_dp a) (zSs_dp r)
theorem zSs_get {K : PySem.W.Frag} {H : Hp} {xs : List V} {ps : List Z2} (h : ShsAt K H xs (ps.map zS)) {i : Nat} {x : V} (hx : xs[i]? = some x) : ∃ p t, ps[i]? = some p ∧ x = .ref t ∧ SqT K H t [.int p.1, .int p.2] := by
  obtain ⟨s, h1, h2⟩ := h.get hx
  rw [List.getElem?_map] at h1
  cases e : ps[i]? with
  | none => rw [e] at h1; cases h1
  | some p =>
    rw [e] at h1
    cases h1
    obtain ⟨t, h3, h4⟩ := zS_at h2
    exact ⟨p, t, rfl, h3, h4⟩
theorem zD_eqv (p q : Z2) : PyData.eqv (zD p) (zD q) = decide (p = q) := by
  obtain ⟨a, b⟩ := p
  obtain ⟨c, d⟩ := q
  simp only [zD, PyData.eqv, PyData.eqvAll, Bool.and_true]
  by_cases h1 : a = c
  · subst h1
    by_cases h2 : b = d
    · subst h2
      simp
    · have z : (b == d) = false := beq_eq_false_iff_ne.mpr h2
      simp [z, h2]
  · have z : (a == c) = false := beq_eq_false_iff_ne.mpr h1
    simp [z, h1]
theorem any_zs (p : Z2) : ∀ es : List Z2, ((es.map zD).any fun z => PyData.eqv z (zD p)) = decide (p ∈ es)
  | [] => rfl
  | q :: es => by
    rw [List.map_cons, List.any_cons, any_zs p es, zD_eqv]
    by_cases h : q = p
    · subst h
      simp
    · have h' : p ≠ q := fun e => h e.symm
      simp [h, h']
theorem zD_depth (p : Z2) : (zD p).depth ≤ 3 := by simp [zD, PyData.depth, PyData.depthAll]
theorem zDs_depth : ∀ es : List Z2, PyData.depthAll (es.map zD) ≤ 3
  | [] => by simp [PyData.depthAll]
  | q :: es => by
    have h1 := zD_depth q
    have h2 := zDs_depth es
    simp only [List.map_cons, PyData.depthAll]
    omega
theorem zD_lay (p : Z2) : (zD p).canLay0 = true := by simp [zD, PyData.canLay0, PyData.canLayAll0]
theorem zDs_lay : ∀ es : List Z2, PyData.canLayAll0 (es.map zD) = true
  | [] => by simp [PyData.canLayAll0]
  | q :: es => by simp [PyData.canLayAll0, zD_lay q, zDs_lay es]
theorem pairs_zs {K : PySem.W.Frag} {H : Hp} {xs : List V} {es : List E2} (h : PairsAt K H xs es) : ShsAt K H xs ((es.map zE).map zS) := by
  have := h.sh
  rw [List.map_map]
  exact this
section
variable {X : Cx}
def rInZ (K : PySem.W.Frag) : R2 := fun x y H Q => ∃ (p : Z2) (t : Addr) (xs : List V) (es : List Z2), ShAt K H x (zS p) ∧ y = .ref t ∧ SqT K H t xs ∧ ShsAt K H xs (es.map zS) ∧ Q (.bl (decide (p ∈ es))) H
theorem op_inZ (hu : X.A.units + 64 < cLine) : OpR X (compareOp .In) (rInZ X.K) := by
  rintro pins s σ H x y v u Q I rx ry ⟨p, t, xs, es, hp, rfl, ht, hes, q⟩
  obtain ⟨as, r1⟩ := Dp.reads I _ x v (zS_dp hp) rx
  obtain ⟨bs, r2⟩ := Dp.reads I (.tuple (es.map zD)) (.ref t) u (.tup ht (zSs_dp hes)) ry
  refine SeqAt.in_tuple_reads r2 r1 (zDs_lay es) (zD_lay p) ?_ ?_
  · have := zD_depth p
    have := Nat.min_le_right (PyData.depthAll (es.map zD)) (zD p).depth
    omega
  · rw [any_zs]
    exact ⟨.bl _, H, I, rfl, q⟩
theorem pe_revK {K : PySem.W.Frag} {e : Expr} {te : TE} {k : Nat} {p1 p2 p3 pos : Pos} (he : PE X e te) (hK : X.K = K := by rfl) : PE X (.Subscript e (.Slice none none (some (.UnaryOp .USub (.Constant (.int 1) k p1) p2)) p3) pos) (tRevT K te) := by
  subst hK
  exact pe_revT he
/-- isinstance in a comprehension -/
theorem call_isiG {K : PySem.W.Frag} (hK : X.K = K := by rfl) : CallR X (.builtin "isinstance") (rIsi K) := by
  subst hK
  exact call_isi
end
theorem push_bl {f : Sh → Bool} {ss : List Sh} {i : Nat} {t : Sh} (ht : ss[i]? = some t) : ((ss.take (i + 1)).map f).map V.bl = ((ss.take i).map f).map V.bl ++ [.bl (f t)] := by
  rw [take_succ ht, List.map_append, List.map_append]
  rfl
theorem all_id {α : Type} (f : α → Bool) (l : List α) : (l.map f).all id = l.all f := by
  rw [List.all_map]
  rfl
/-- len, in a comprehension -/
def rLenZ (K : PySem.W.Frag) : List V → Hp → VK → Prop := fun xs H Q => ∃ p ys, xs = [V.ref p] ∧ (SqL K H p ys ∨ SqT K H p ys) ∧ Q (V.int ((ys.length : Nat) : Int)) H
/-! ### by what the program asks -/
theorem zE_inj {p q : E2} (h : zE p = zE q) : p = q := by
  have h1 := congrArg Prod.fst h
  have h2 := congrArg Prod.snd h
  exact Prod.ext (Int.ofNat.inj h1) (Int.ofNat.inj h2)
theorem mem_zE {p : E2} {es : List E2} : zE p ∈ es.map zE ↔ p ∈ es := by
  rw [List.mem_map]
  exact ⟨fun ⟨q, h, e⟩ => by rw [← zE_inj e]; exact h, fun h => ⟨p, h, rfl⟩⟩
def ordP (p : E2) : E2 := (min p.1 p.2, max p.1 p.2)
theorem ord_mem {n : Nat} {es : List E2} (g : Good n es) (p : E2) : ordP p ∈ es ↔ (p ∈ es ∨ (p.2, p.1) ∈ es) := by
  obtain ⟨a, b⟩ := p
  unfold ordP
  dsimp only
  by_cases h : a ≤ b
  · rw [Nat.min_eq_left h, Nat.max_eq_right h]
    constructor
    · exact .inl
    · rintro (z | z)
      · exact z
      · have := (g.lt _ z).1
        dsimp only at this
        omega
  · rw [Nat.min_eq_right (by omega), Nat.max_eq_left (by omega)]
    constructor
    · exact .inr
    · rintro (z | z)
      · have := (g.lt _ z).1
        dsimp only at this
        omega
      · exact z
theorem ord_is {n : Nat} {es : List E2} (g : Good n es) {p e : E2} (he : e ∈ es) : ordP p = e ↔ (p = e ∨ p = (e.2, e.1)) := by
  have l := (g.lt _ he).1
  obtain ⟨a, b⟩ := p
  obtain ⟨c, d⟩ := e
  dsimp only at l
  unfold ordP
  simp only [Prod.mk.injEq]
  omega
/-- the sides that lie in ps, in order, are all of es -/
theorem ori_pairs {n : Nat} {es : List E2} (g : Good n es) {ps ws : List E2} (up : ws.Pairwise ahead) (mw : ∀ q, q ∈ ws ↔ q ∈ ps.map ordP) : Ori es (.tup (ps.map pairS)) ↔ ascB (ps.map pairS) = true ∧ ws = es := by
  have e : ps.map pairS = (ps.map zE).map zS := by rw [List.map_map]; rfl
  rw [e, ori_iff]
  refine and_congr Iff.rfl ?_
  constructor
  · rintro ⟨h1, h2⟩
    refine eq_of_up up g.up fun q => ?_
    rw [mw, List.mem_map]
    constructor
    · rintro ⟨p, hp, rfl⟩
      rw [ord_mem g]
      rcases h1 (zE p) (mem_zE.mpr hp) with z | z
      · exact .inl (mem_zE.mp z)
      · exact .inr ((mem_zE (p := (p.2, p.1))).mp z)
    · intro hq
      rcases h2 (zE q) (mem_zE.mpr hq) with z | z
      · exact ⟨q, mem_zE.mp z, (ord_is g hq).mpr (.inl rfl)⟩
      · exact ⟨(q.2, q.1), (mem_zE (p := (q.2, q.1))).mp z, (ord_is g hq).mpr (.inr rfl)⟩
  · rintro rfl
    refine ⟨fun z hz => ?_, fun z hz => ?_⟩
    · obtain ⟨p, hp, rfl⟩ := List.mem_map.mp hz
      have := (mw (ordP p)).mpr (List.mem_map.mpr ⟨p, hp, rfl⟩)
      rw [ord_mem g] at this
      rcases this with h | h
      · exact .inl (mem_zE.mpr h)
      · exact .inr ((mem_zE (p := (p.2, p.1))).mpr h)
    · obtain ⟨q, hq, rfl⟩ := List.mem_map.mp hz
      obtain ⟨p, hp, e⟩ := List.mem_map.mp ((mw q).mp hq)
      rcases (ord_is g hq).mp e with rfl | rfl
      · exact .inl (mem_zE.mpr hp)
      · exact .inr (mem_zE.mpr hp)
def spLOr (K : PySem.W.Frag) : Sp := fun vs H Q _ => ∃ (x v : V) (n : Nat) (es : List E2) (s : Sh), vs = [x, v] ∧ GraphAt K H x n es ∧ Good n es ∧ ShAt K H v s ∧ Lb s ∧ ∀ H', Same H H' → Q (.bl (oriB es s)) H'
end My

set_option maxHeartbeats 8000000
namespace My
open PySem PySem.Spec PyProof.Rows L2
def spLMul (K : PySem.W.Frag) : Sp := fun vs H Q _ => ∃ (v : V) (s : Sh), vs = [v] ∧ ShAt K H v s ∧ ∀ H', Same H H' → Q (.bl (isMul s)) H'
def degPart (l r : Nat) (es : List E2) (i : Nat) : List Nat := [0] ++ (List.range i).flatMap fun s => (List.range (if s = 0 then l else r)).map fun v => (atL es s v).length
theorem degPart_two (l r : Nat) (es : List E2) : degPart l r es 2 = degL l r es := by
  unfold degPart degL
  rw [show List.range 2 = [0, 1] from rfl, List.flatMap_cons, List.flatMap_cons, List.flatMap_nil, List.append_nil, List.append_assoc]
  rfl
section
variable {P : Program} {w : World} {K : PySem.W.Frag} {mg : Str → Option Value} {base : Heap} {f fA fN fW : Addr} {fd dA dN dW : FuncData}
theorem ok_deg (F : L2.Fun K "_law_degree" "_law_degree" sDeg f fd) (GA : FnOk P w K mg base CX0 1 fA dA ["multi", "side", "vertex"] (spAt K)) (bA : L2.Binds K dA ["multi", "side", "vertex"] []) (kA : PySem.W.keepIn K (.ref fA) = true) (mA : mg "_law_at" = some (.ref fA))
    (mr : mg "range" = none) (ml : mg "len" = none) (mx : mg "max" = none) : FnOk P w K mg base CX0 2 f fd ["multi"] (spDeg K) := by
  refine F.ok scDeg (fun vs H Q E h => ?_) (fun cdv A outer s H vs Q E hr h => ?_)
  · obtain ⟨x, l, r, es, rfl, _⟩ := h
    rfl
  obtain ⟨x, l, r, es, rfl, hx, g, e10, q⟩ := h
  refine ⟨_, pss_cons (ps_set (i := 1) scDeg.nd rfl (.inl rfl) (pe_lst (pa_cons pe_int pa_nil)))
    (pss_cons (ps_for PassesOwn.never rfl (pi_range1 rfl mr (pa_cons pe_int pa_nil)) (pg_name (i := 2) scDeg.nd rfl (.inr rfl))
      (pss_one (ps_set (i := 1) scDeg.nd rfl (.inl rfl) (pe_op op_cat (pv 1) (pe_lc (own := [("each", 3)]) (g := gName 3) (tt := tYes) rfl scDeg.nd (pi_range1 rfl mr (pa_cons (pe_ix (r := rIxT K) ix_tup (pv 0) (pv 2) (fun _ _ => rfl)) pa_nil))
        (blkOk_by (N := ["multi", "found", "side", "each"]) (sc := defScope sDeg) (by decide +kernel)) (fun _ _ _ _ _ => pg_name (i := 3) scDeg.nd rfl (Or.inl rfl)) (fun _ _ _ _ _ => pts_nil)
        (fun _ _ _ _ _ => pe_callB (id := "len") (r := rLenZ K) call_len_seq (by rfl) ml PySem.boot_len (pa_cons (pe_call GA hr (by rfl) mA kA bA .nil pass0 (pa_cons (pv 0) (pa_cons (pv 2) (pa_cons (pv 3) pa_nil)))) pa_nil)))))))
    (pss_one (ps_ret (pe_callB (cr_max rfl) (by rfl) mx (by decide +kernel) (pa_cons (pv 1) pa_nil))))), ?_⟩
  obtain ⟨t, e, xs, rfl, ht, he, le, get⟩ := mul_at hx
  have l9 := g.l9
  have r9 := g.r9
  refine ⟨(by show 1 ≤ sizeLine; exact small (by decide)), fun b nb => ?_⟩
  have s1 := same_new nb (.lst [.int 0])
  have hb := upd_same (H := H) (a := b) (o := .lst [.int 0])
  generalize upd H b (.lst [.int 0]) = H1 at s1 hb ⊢
  have few : ∀ i, i ≤ 2 → (degPart l r es i).length ≤ 19 := fun i hi => by
    rcases (show i = 0 ∨ i = 1 ∨ i = 2 by omega) with rfl | rfl | rfl
    · simp [degPart]
    · simp [degPart, show List.range 1 = [0] from rfl]; omega
    · simp [degPart, show List.range 2 = [0, 1] from rfl]; omega
  refine ⟨2, rfl, by decide, by decide, for_range (lo := 0) (n := 2) (fun i σ H' => ∃ (b : Addr) (s2 : Option V), σ = [some (.ref t), some (.ref b), s2, none] ∧ Same H1 H' ∧ H' b = some (.lst (numsN (degPart l r es i)))) ⟨b, none, rfl, Same.refl H1, hb⟩ ?_ ?_⟩
  · rintro i σ H2 li ⟨b, s2, rfl, s12, hb2⟩
    rw [Int.zero_add]
    have i1 : i ≤ 1 := by omega
    have h02 := s1.trans s12
    have hw : atI [V.int (l : Int), V.int (r : Int), V.ref e] ((i : Nat) : Int) = some (.int ((if i = 0 then l else r : Nat) : Int)) := by
      rcases (show i = 0 ∨ i = 1 by omega) with rfl | rfl
      · rfl
      · rfl
    have w9 : (if i = 0 then l else r : Nat) ≤ 9 := by split <;> omega
    generalize hm : (if i = 0 then l else r : Nat) = m at hw w9
    refine ⟨_, rfl, _, rfl, _, rfl, t, _, _, _, rfl, rfl, Same.tup h02 ht, hw, (m : Int), rfl, by omega, by omega, fun D nD => lc_range (lo := 0) (n := ((m : Nat) : Int).toNat) (fun j H3 => Same H2 H3 ∧ H3 D = some (.lst (numsN ((List.range j).map fun v => (atL es i v).length)))) ⟨same_new nD _, upd_same⟩ ?_ ?_⟩
    · rintro j H3 lj ⟨s3, hD⟩
      rw [Int.zero_add]
      refine ⟨rfl, ?_⟩
      refine ⟨_, rfl, _, rfl, _, rfl, .ref t, l, r, es, i, j, rfl, hx.same (h02.trans s3), e10, i1, fun u H4 s4 hu => ?_⟩
      refine ⟨u, _, rfl, .inr (SqT.of hu), _, s4 _ _ hD, small1000 (by rw [numsN_len, List.length_map, List.length_range]; omega), same_put (s3.trans s4) nD, ?_⟩
      rw [upd_same, List.range_succ, List.map_append, numsN_app, numsN_len]
      rfl
    · rintro H3 ⟨s3, hD⟩
      refine ⟨b, D, _, _, rfl, rfl, s3 _ _ hb2, hD, ?_, fun c nc => ?_⟩
      · rw [numsN_len, numsN_len, List.length_map, List.length_range]
        have := few i (by omega)
        exact small (by omega)
      · refine ⟨c, _, rfl, s12.trans (s3.trans (same_new nc _)), ?_⟩
        rw [upd_same, ← numsN_app]
        have ep : degPart l r es (i + 1) = degPart l r es i ++ (List.range m).map fun v => (atL es i v).length := by
          unfold degPart
          rw [List.range_succ, List.flatMap_append, List.flatMap_cons, List.flatMap_nil, List.append_nil, ← List.append_assoc, hm]
        rw [ep, show ((m : Nat) : Int).toNat = m by omega]
  · rintro σ H2 ⟨b, s2, rfl, s12, hb2⟩
    rw [degPart_two] at hb2
    have en : numsN (degL l r es) = ((degL l r es).map fun k => ((k : Nat) : Int)).map V.int := by
      unfold numsN
      rw [List.map_map]
      rfl
    rw [en] at hb2
    refine ⟨_, rfl, b, _, rfl, SqL.of hb2, by rw [List.length_map]; unfold degL; simp, fun m hm le => ?_⟩
    obtain ⟨k, hk, rfl⟩ := List.mem_map.mp hm
    refine q k H2 (s1.trans s12) ⟨hk, fun y hy => ?_⟩
    have := le _ (List.mem_map.mpr ⟨y, hy, rfl⟩)
    omega
theorem ok_line (F : L2.Fun K "_law_line" "_law_line" sLine f fd) (GN : FnOk P w K mg base CX0 1 fN dN ["multi", "one", "two"] (spNear K)) (bN : L2.Binds K dN ["multi", "one", "two"] []) (kN : PySem.W.keepIn K (.ref fN) = true) (mN : mg "_law_near" = some (.ref fN))
    (mr : mg "range" = none) (ml : mg "len" = none) (mt : mg "tuple" = none) : FnOk P w K mg base CX0 2 f fd ["multi"] (spLine K) := by
  refine F.ok scLine (fun vs H Q E h => ?_) (fun cdv A outer s H vs Q E hr h => ?_)
  · obtain ⟨x, l, r, es, rfl, _⟩ := h
    rfl
  obtain ⟨x, l, r, es, rfl, hx, n9, q⟩ := h
  refine ⟨_, pss_cons (ps_set (i := 1) scLine.nd rfl (.inl rfl) (pe_lst pa_nil))
    (pss_cons (ps_for PassesOwn.never rfl (pi_range1 rfl mr (pa_cons (pe_callB call_len_seq (by rfl) ml PySem.boot_len (pa_cons (pe_ix (r := rIxT K) ix_tup (pv 0) pe_int (fun _ _ => rfl)) pa_nil)) pa_nil)) (pg_name (i := 2) scLine.nd rfl (.inr rfl))
      (pss_one (ps_set (i := 1) scLine.nd rfl (.inl rfl) (pe_op op_cat (pv 1) (pe_lc (own := [("two", 3)]) (g := gName 3) (tt := tB (tCall (spNear K) [] E0 (tCons (tVar 0) (tCons (tVar 2) (tCons (tVar 3) tNil))))) rfl scLine.nd (pi_range2 (by rfl) mr (pa_cons (pe_op op_add (pv 2) pe_int) (pa_cons (pe_callB call_len_seq (by rfl) ml PySem.boot_len (pa_cons (pe_ix (r := rIxT K) ix_tup (pv 0) pe_int (fun _ _ => rfl)) pa_nil)) pa_nil)))
        (blkOk_by (N := ["multi", "found", "one", "two"]) (sc := defScope sLine) (by decide +kernel)) (fun _ _ _ _ _ => pg_name (i := 3) scLine.nd rfl (Or.inl rfl))
        (fun _ _ _ _ _ => pts_one (pt_val (pe_call GN hr (by rfl) mN kN bN .nil pass0 (pa_cons (pv 0) (pa_cons (pv 2) (pa_cons (pv 3) pa_nil))))))
        (fun _ _ _ _ _ => pe_tup (pa_cons (pv 2) (pa_cons (pv 3) pa_nil))))))))
    (pss_one (ps_ret (pe_tup (pa_cons (pe_callB call_len_seq (by rfl) ml PySem.boot_len (pa_cons (pe_ix (r := rIxT K) ix_tup (pv 0) pe_int (fun _ _ => rfl)) pa_nil)) (pa_cons (pe_callTy call_tuple_of (by rfl) mt (by decide +kernel) (pa_cons (pv 1) pa_nil)) pa_nil)))))), ?_⟩
  obtain ⟨t, e, xs, rfl, ht, he, le, get⟩ := mul_at hx
  refine ⟨(by show 0 ≤ sizeLine; decide), fun a na => ?_⟩
  have sa := same_new na (.lst [])
  refine ⟨_, rfl, t, _, 2, _, rfl, rfl, Same.tup sa ht, len_vec _ _ _, e, _, rfl, .inr (Same.tup sa he), ((xs.length : Nat) : Int), rfl, by omega, by omega, for_range (lo := 0) (n := ((xs.length : Nat) : Int).toNat) (fun i σ H' => ∃ (b : Addr) (ys : List V) (s4 : Option V), σ = [some (.ref t), some (.ref b), s4, none] ∧ Same H H' ∧ H' b = some (.lst ys) ∧
      PairsAt K H' ys ((List.range i).flatMap fun u => (rowP es.length u).filter fun p => meetB es p.1 p.2)) ⟨a, [], none, rfl, sa, upd_same, .nil⟩ ?_ ?_⟩
  · rintro u σ H1 lu ⟨b, ys, s4, rfl, s1, hb, py⟩
    rw [Int.zero_add]
    have un : u < es.length := by omega
    refine ⟨_, rfl, _, rfl, _, _, rfl, rfl, _, rfl, t, _, 2, _, rfl, rfl, Same.tup s1 ht, len_vec _ _ _, e, _, rfl, .inr (Same.tup s1 he), _, _, rfl, ⟨by omega, by omega, by omega, by omega⟩, fun D nD => lc_range (lo := (u : Int) + 1) (n := (((xs.length : Nat) : Int) - ((u : Int) + 1)).toNat)
      (fun k H2 => Same H1 H2 ∧ ∃ zs, H2 D = some (.lst zs) ∧ zs.length ≤ k ∧ PairsAt K (hide D H2) zs (((List.range k).map fun j => (u, u + 1 + j)).filter fun p => meetB es p.1 p.2)) ⟨same_new nD _, [], upd_same, Nat.le_refl _, .nil⟩ ?_ ?_⟩
    · rintro k H2 lk ⟨s2, zs, hD, lz, pz⟩
      rw [show ((u : Int) + 1 + (k : Int)) = ((u + 1 + k : Nat) : Int) by omega]
      refine ⟨rfl, ?_⟩
      have sH := s1.trans s2
      refine ⟨_, rfl, _, rfl, _, rfl, .ref t, l, r, es, u, u + 1 + k, rfl, hx.same sH, un, by omega, _, rfl, ?_⟩
      rw [decide_eq_true (show u ≠ u + 1 + k by omega), Bool.true_and]
      refine iteB (fun c => ?_) (fun c => ?_)
      · refine ⟨_, rfl, _, rfl, (by show 2 ≤ sizeLine; exact small (by decide)), fun r2 nr2 => ?_⟩
        have s4 := same_new nr2 (.tup [.int ((u : Nat) : Int), .int ((u + 1 + k : Nat) : Int)])
        have hD4 := s4 _ _ hD
        have ne2 : r2 ≠ D := fun z => by
          rw [z, hD] at nr2
          cases nr2
        refine ⟨zs, hD4, small1000 (by omega), same_put (s2.trans s4) nD, _, upd_same, by rw [List.length_append]; show zs.length + 1 ≤ k + 1; omega, ?_⟩
        rw [List.range_succ, List.map_append, List.filter_append]
        have bt : But D H2 _ := (But.new (o := .tup [.int ((u : Nat) : Int), .int ((u + 1 + k : Nat) : Int)]) nr2).trans (.put (o := .lst (zs ++ [.ref r2])))
        refine (pz.same bt.hide).append ?_
        show PairsAt K _ [V.ref r2] ([(u, u + 1 + k)].filter fun p => meetB es p.1 p.2)
        rw [List.filter_cons_of_pos (by exact c), List.filter_nil]
        refine .cons ⟨r2, rfl, SqT.of ?_⟩ .nil
        rw [hide_ne ne2, upd_ne ne2]
        exact upd_same
      · refine ⟨s2, zs, hD, by omega, ?_⟩
        rw [List.range_succ, List.map_append, List.filter_append]
        show PairsAt K _ zs (_ ++ [(u, u + 1 + k)].filter fun p => meetB es p.1 p.2)
        rw [List.filter_cons_of_neg (by rw [c]; decide), List.filter_nil, List.append_nil]
        exact pz
    · rintro H2 ⟨s2, zs, hD, lz, pz⟩
      have le1 : ys.length ≤ 81 := by
        rw [PairsAt.len py]
        have z := List.length_filter_le (fun p => meetB es p.1 p.2) ((List.range u).flatMap (rowP es.length))
        rw [List.filter_flatMap] at z
        exact Nat.le_trans z (rows_few u (by omega) es.length n9)
      refine ⟨b, D, ys, zs, rfl, rfl, s2 _ _ hb, hD, small (by omega), fun c nc => ?_⟩
      have s3 := same_new nc (.lst (ys ++ zs))
      refine ⟨c, _, _, rfl, (s1.trans s2).trans s3, upd_same, ?_⟩
      rw [List.range_succ, List.flatMap_append]
      refine (py.same (s2.trans s3)).append ?_
      have ek : (((xs.length : Nat) : Int) - ((u : Int) + 1)).toNat = es.length - (u + 1) := by omega
      rw [ek] at pz
      show PairsAt K _ zs ([u].flatMap fun u => (rowP es.length u).filter fun p => meetB es p.1 p.2)
      rw [List.flatMap_cons, List.flatMap_nil, List.append_nil]
      exact (pz.same (hide_sub D H2)).same s3
  · rintro σ H1 ⟨b, ys, s4, rfl, s1, hb, py⟩
    rw [show ((xs.length : Nat) : Int).toNat = es.length by omega, ← lineP_eq] at py
    refine ⟨_, rfl, t, _, 2, _, rfl, rfl, Same.tup s1 ht, len_vec _ _ _, e, _, rfl, .inr (Same.tup s1 he), _, rfl, b, _, rfl, .inl ⟨SqL.of hb, fun l' nl => ⟨(by show 2 ≤ sizeLine; exact small (by decide)), fun r' nr => ?_⟩⟩⟩
    rw [le]
    have s2 := same_new nl (.tup ys)
    have s3 := same_new nr (.tup [.int (es.length : Int), .ref l'])
    exact q (.ref r') _ ((s1.trans s2).trans s3) ⟨r', l', ys, rfl, SqT.of upd_same, SqT.of (s3 _ _ upd_same), (py.same s2).same s3⟩
end
end My

set_option maxHeartbeats 8000000
namespace My
open PySem PySem.Spec PyProof.Rows L2 RZ
abbrev sPIsMul : Stmt := top 26
abbrev sPEdge : Stmt := top 27
abbrev sPNev : Stmt := top 28
abbrev sPCheck : Stmt := top 29
theorem scPIsMul : FnScope ["value", "left", "right", "edges", "edge"] ["value"] (defScope sPIsMul) := ⟨rfl, rfl, rfl, by decide +kernel, rfl, by decide +kernel, by decide +kernel⟩
theorem scPEdge : FnScope ["value", "left", "right"] ["value", "left", "right"] (defScope sPEdge) := ⟨rfl, rfl, rfl, by decide +kernel, rfl, by decide +kernel, by decide +kernel⟩
theorem scPNev : FnScope ["edges", "edge", "following"] ["edges"] (defScope sPNev) := ⟨rfl, rfl, rfl, by decide +kernel, rfl, by decide +kernel, by decide +kernel⟩
theorem scPCheck : FnScope ["multigraph"] ["multigraph"] (defScope sPCheck) := ⟨rfl, rfl, rfl, by decide +kernel, rfl, by decide +kernel, by decide +kernel⟩
def spPEdge (K : PySem.W.Frag) : Sp := fun vs H Q _ => ∃ (v : V) (s : Sh) (l r : Int), vs = [v, .int l, .int r] ∧ ShAt K H v s ∧ Q (.bl (edgeM l r s)) H
def spPNev (K : PySem.W.Frag) : Sp := fun vs H Q _ => ∃ (e : Addr) (xs : List V) (ss : List Sh), vs = [.ref e] ∧ SqT K H e xs ∧ ShsAt K H xs ss ∧ (∀ s ∈ ss, ∃ i j, s = .tup [.int i, .int j]) ∧ ss.length ≤ 900 ∧ ∀ H', Same H H' → Q (.bl (nevB ss)) H'
def spPCheck (K : PySem.W.Frag) : Sp := fun vs H Q _ => ∃ (x : V) (l r : Nat) (es : List E2), vs = [x] ∧ MulAt K H x l r es ∧ MulG l r es ∧ es.length ≤ 9 ∧ ∀ H', Same H H' → Q .non H'
section
variable {P : Program} {w : World} {K : PySem.W.Frag} {mg : Str → Option Value} {base : Heap} {f fI fW fE fN fM : Addr} {fd dI dW dE dN dM : FuncData}
theorem ok_pedge (F : L2.Fun K "_is_edge" "_is_edge" sPEdge f fd) (GI : FnOk P w K mg base CX0 1 fI dI ["value"] (spIsTwoA K)) (bI : L2.Binds K dI ["value"] []) (kI : PySem.W.keepIn K (.ref fI) = true) (mI : mg "is_tuple_of_two" = some (.ref fI))
    (GW : FnOk P w K mg base CX0 2 fW dW ["value", "low", "high"] (spIsWholeA K)) (bW : L2.Binds K dW ["value", "low", "high"] []) (kW : PySem.W.keepIn K (.ref fW) = true) (mW : mg "is_whole" = some (.ref fW)) : FnOk P w K mg base CX0 3 f fd ["value", "left", "right"] (spPEdge K) := by
  refine F.ok scPEdge (fun vs H Q E h => ?_) (fun cdv A outer s0 H vs Q E hr h => ?_)
  · obtain ⟨v, s, l, r, rfl, _⟩ := h
    rfl
  obtain ⟨v, s, l, r, rfl, hv, q⟩ := h
  refine ⟨_, pss_one (ps_ret (pe_and (pe_call GI (hr.mono (by decide)) (by rfl) mI kI bI .nil pass0 (pa_cons (pv 0) pa_nil)) (pe_and (pe_call GW hr (by rfl) mW kW bW .nil pass0 (pa_cons (pe_ix (r := rIxT K) ix_tup (pv 0) pe_int (fun _ _ => rfl)) (pa_cons pe_int (pa_cons (pe_op op_sub (pv 1) pe_int) pa_nil))))
    (pe_one (pe_call GW hr (by rfl) mW kW bW .nil pass0 (pa_cons (pe_ix (r := rIxT K) ix_tup (pv 0) pe_int (fun _ _ => rfl)) (pa_cons pe_int (pa_cons (pe_op op_sub (pv 2) pe_int) pa_nil)))))))), ?_⟩
  refine ⟨_, rfl, v, s, rfl, hv, _, rfl, iteB (fun c => ?_) (fun c => ?_)⟩
  · obtain ⟨a, b, rfl⟩ : ∃ a b, s = .tup [a, b] := by
      unfold isTwo at c
      split at c
      · exact ⟨_, _, rfl⟩
      · cases c
    cases hv with
    | @tup t xs _ h r =>
    cases r with
    | @cons x1 _ _ _ ha r =>
    cases r with
    | @cons x2 _ _ _ hb r =>
    cases r
    have e : edgeM l r (.tup [a, b]) = (wholeR 0 (l - 1) a && wholeR 0 (r - 1) b) := rfl
    rw [e] at q
    refine ⟨_, rfl, t, _, 0, _, rfl, rfl, h, rfl, _, rfl, _, _, rfl, rfl, x1, a, 0, l - 1, rfl, ha, _, rfl, iteB (fun c1 => ?_) (fun c1 => ?_)⟩
    · refine ⟨_, rfl, t, _, 1, _, rfl, rfl, h, rfl, _, rfl, _, _, rfl, rfl, x2, b, 0, r - 1, rfl, hb, ?_⟩
      rw [c1, Bool.true_and] at q
      exact q
    · rw [c1, Bool.false_and] at q
      exact q
  · have e : edgeM l r s = false := by
      unfold edgeM
      split
      · cases c
      · rfl
    rw [e] at q
    exact q
theorem ok_pnev (F : L2.Fun K "_is_never_falling" "_is_never_falling" sPNev f fd) (ma : mg "all" = none) (mz : mg "zip" = none) : FnOk P w K mg base CX0 1 f fd ["edges"] (spPNev K) := by
  refine F.ok scPNev (fun vs H Q E h => ?_) (fun cdv A outer s H vs Q E hr h => ?_)
  · obtain ⟨e, xs, ss, rfl, _⟩ := h
    rfl
  obtain ⟨e, xs, ss, rfl, he, hs, cmp, few, q⟩ := h
  refine ⟨_, pss_one (ps_ret (pe_callB (cr_all rfl) (by rfl) ma (by decide +kernel) (pa_cons (pe_lc (own := [("edge", 1), ("following", 2)]) (g := gTup K 2 (gCons (gName 1) (gCons (gName 2) gNil))) (tt := tYes) rfl scPNev.nd (pi_zipA (by rfl) mz (pa_cons (pv 0) (pa_cons (pe_slice sl_tupA (pv 0) (po_some pe_int) po_none) pa_nil)))
        (blkOk_by (N := ["edges", "edge", "following"]) (sc := defScope sPNev) (by decide +kernel)) (fun _ _ _ _ _ => pg_tup (by rfl) (pgs_cons (pg_name (i := 1) scPNev.nd rfl (Or.inl rfl)) (pgs_cons (pg_name (i := 2) scPNev.nd rfl (Or.inl rfl)) pgs_nil))) (fun _ _ _ _ _ => pts_nil)
        (fun _ _ _ _ _ => pe_cmpR (r := rLeT K) (op_leT hr.units0) (pv 1) (pv 2) (nomark _))) pa_nil))), ?_⟩
  have lxs := hs.len
  have lz : (List.zipWith leS ss (ss.drop 1)).length = ss.length - 1 := by rw [List.length_zipWith, List.length_drop]; omega
  cases xs with
  | nil =>
    cases hs
    refine ⟨_, rfl, _, rfl, 1, rfl, e, [], rfl, he, fun _ => ?_, fun z => absurd ⟨rfl, rfl⟩ z⟩
    refine ⟨e, e, [], [], rfl, .inr ⟨he, he, fun B nB => lc_it (walk_zipT (n := 0) rfl) (fun i H3 => i = 0 ∧ Same H H3 ∧ H3 B = some (.lst [])) ⟨rfl, same_new nB _, upd_same⟩ (fun i H3 _ ⟨_, s3, _⟩ => ⟨Same.tup s3 he, Same.tup s3 he⟩) (fun _ _ _ _ l => absurd l (by omega)) ?_⟩⟩
    rintro H3 ⟨_, s3, hB⟩
    exact ⟨B, [], rfl, SqL.of hB, q H3 s3⟩
  | cons x0 xs =>
    have hs3 : ShsAt K H xs (ss.drop 1) := by cases hs; assumption
    have cut : cutV (x0 :: xs) (some 1) none = xs := by
      unfold cutV
      rw [HT.sIx_none, show ((1 : Int)) = ((1 : Nat) : Int) from rfl, HT.sIx_nat, List.length_cons, show min 1 (xs.length + 1) = 1 by omega, List.drop_one, List.tail_cons, Nat.add_sub_cancel, List.take_length]
    refine ⟨_, rfl, _, rfl, 1, rfl, e, x0 :: xs, rfl, he, fun z => ?_, fun _ c nc => ?_⟩
    · exfalso
      have z1 := z.1
      rw [show ((1 : Int)) = ((1 : Nat) : Int) from rfl, HT.sIx_nat, List.length_cons] at z1
      omega
    rw [cut]
    have s3 := same_new nc (.tup xs)
    have l1 : xs.length + 1 = ss.length := by rw [← lxs, List.length_cons]
    refine ⟨e, c, x0 :: xs, xs, rfl, .inr ⟨Same.tup s3 he, SqT.of upd_same, fun B nB => lc_it (walk_zipT (n := xs.length) (by rw [List.length_cons]; omega)) (fun i H3 => Same (upd H c (.tup xs)) H3 ∧ H3 B = some (.lst (((List.zipWith leS ss (ss.drop 1)).take i).map V.bl))) ⟨same_new nB _, upd_same⟩ (fun i H3 _ ⟨s4, _⟩ => ⟨Same.tup (s3.trans s4) he, Same.tup s4 (SqT.of upd_same)⟩) ?_ ?_⟩⟩
    · rintro i x H3 H4 li ⟨s4, hB⟩ ⟨T, y, z, e1, nT, e2, hy, hz⟩
      subst e1
      subst e2
      have s5 := same_new nT (.tup [y, z])
      have sA := s3.trans (s4.trans s5)
      obtain ⟨a, ha, sa⟩ := (hs.same sA).get hy
      obtain ⟨b, hb, sb⟩ := (hs3.same sA).get hz
      have hz' : (List.zipWith leS ss (ss.drop 1))[i]? = some (leS a b) := by rw [List.getElem?_zipWith, ha, hb]
      have fin : Same (upd H c (.tup xs)) (upd (upd H3 T (.tup [y, z])) B (.lst (((List.zipWith leS ss (ss.drop 1)).take i).map V.bl ++ [V.bl (leS a b)]))) ∧ upd (upd H3 T (.tup [y, z])) B (.lst (((List.zipWith leS ss (ss.drop 1)).take i).map V.bl ++ [V.bl (leS a b)])) B = some (.lst (((List.zipWith leS ss (ss.drop 1)).take (i + 1)).map V.bl)) := by
        refine ⟨same_put (s4.trans s5) nB, ?_⟩
        rw [upd_same, take_succ hz', List.map_append]
        rfl
      have ln : (((List.zipWith leS ss (ss.drop 1)).take i).map V.bl).length < sizeLine := small1000 (by rw [List.length_map, List.length_take]; omega)
      have hB5 := s5 _ _ hB
      refine ⟨T, _, rfl, SqT.of upd_same, rfl, _, _, rfl, _, _, rfl, rfl, rfl, ?_⟩
      refine ⟨_, rfl, _, rfl, ?_⟩
      obtain ⟨k, k2, rfl⟩ := cmp a (List.mem_of_getElem? ha)
      obtain ⟨l, l2, rfl⟩ := cmp b (List.mem_of_mem_drop (List.mem_of_getElem? hb))
      cases sa with
      | @tup t1 ys1 _ h1 r1 =>
        cases sb with
        | @tup t2 ys2 _ h2 r2 =>
          cases r1 with
          | cons p1 r1 =>
            cases r1 with
            | cons p2 r1 =>
              cases r1
              cases p1
              cases p2
              cases r2 with
              | cons p3 r2 =>
                cases r2 with
                | cons p4 r2 =>
                  cases r2
                  cases p3
                  cases p4
                  rw [← le_pairs] at fin
                  exact ⟨t1, t2, [k, k2], [l, l2], rfl, rfl, h1, h2, _, hB5, ln, fin⟩
    · rintro H3 ⟨s4, hB⟩
      refine ⟨B, _, rfl, SqL.of hB, ?_⟩
      rw [List.take_of_length_le (by omega), nev_zip]
      exact q H3 (s3.trans s4)
end
end My

set_option maxHeartbeats 8000000
namespace My
open PySem PySem.Spec PyProof.Rows L2 RZ
abbrev sPLeft : Stmt := top 30
abbrev sPRight : Stmt := top 31
abbrev sPEAt : Stmt := top 32
abbrev sPDeg : Stmt := top 33
abbrev sPLine : Stmt := top 34
abbrev sPMeet : Stmt := top 35
theorem scPLeft : FnScope ["multigraph"] ["multigraph"] (defScope sPLeft) := ⟨rfl, rfl, rfl, by decide +kernel, rfl, by decide +kernel, by decide +kernel⟩
theorem scPRight : FnScope ["multigraph"] ["multigraph"] (defScope sPRight) := ⟨rfl, rfl, rfl, by decide +kernel, rfl, by decide +kernel, by decide +kernel⟩
theorem scPEAt : FnScope ["multigraph", "side", "ends", "edge", "vertex", "end"] ["multigraph", "side"] (defScope sPEAt) := ⟨rfl, rfl, rfl, by decide +kernel, rfl, by decide +kernel, by decide +kernel⟩
theorem scPDeg : FnScope ["multigraph", "rows", "row"] ["multigraph"] (defScope sPDeg) := ⟨rfl, rfl, rfl, by decide +kernel, rfl, by decide +kernel, by decide +kernel⟩
theorem scPLine : FnScope ["multigraph", "edges", "many", "pairs", "one", "other"] ["multigraph"] (defScope sPLine) := ⟨rfl, rfl, rfl, by decide +kernel, rfl, by decide +kernel, by decide +kernel⟩
theorem scPMeet : FnScope ["edge", "other"] ["edge", "other"] (defScope sPMeet) := ⟨rfl, rfl, rfl, by decide +kernel, rfl, by decide +kernel, by decide +kernel⟩
/-- lists of numbers -/
inductive RowsN (H : Hp) : List V → List (List Nat) → Prop
  | nil : RowsN H [] []
  | cons {r : Addr} {l : List Nat} {xs : List V} {ls : List (List Nat)} (h : H r = some (.lst (numsN l))) (t : RowsN H xs ls) : RowsN H (.ref r :: xs) (l :: ls)
theorem RowsN.same {H H' : Hp} (s : Same H H') : ∀ {xs : List V} {ls : List (List Nat)}, RowsN H xs ls → RowsN H' xs ls
  | _, _, .nil => .nil
  | _, _, .cons h t => .cons (s _ _ h) (RowsN.same s t)
theorem RowsN.app {H : Hp} : ∀ {xs ys : List V} {ls ms : List (List Nat)}, RowsN H xs ls → RowsN H ys ms → RowsN H (xs ++ ys) (ls ++ ms)
  | _, _, _, _, .nil, h => h
  | _, _, _, _, .cons a t, h => .cons a (RowsN.app t h)
theorem RowsN.len {H : Hp} : ∀ {xs : List V} {ls : List (List Nat)}, RowsN H xs ls → xs.length = ls.length
  | _, _, .nil => rfl
  | _, _, .cons _ t => congrArg (· + 1) (RowsN.len t)
theorem RowsN.get {H : Hp} : ∀ {xs : List V} {ls : List (List Nat)}, RowsN H xs ls → ∀ {i : Nat} {x : V}, xs[i]? = some x → ∃ r l, x = .ref r ∧ ls[i]? = some l ∧ H r = some (.lst (numsN l))
  | _, _, .nil, i, x, e => by simp at e
  | _, _, .cons h t, 0, x, e => by simp at e; subst e; exact ⟨_, _, rfl, rfl, h⟩
  | _, _, .cons h t, i + 1, x, e => by
    obtain ⟨r, l, h1, h2, h3⟩ := RowsN.get t (i := i) (x := x) (by simpa using e)
    exact ⟨r, l, h1, by simpa using h2, h3⟩
theorem RowsN.put {H : Hp} {D : Addr} {o : HO} {zs : List V} {ls : List (List Nat)} (h : RowsN (hide D H) zs ls) : RowsN (upd H D o) zs ls := h.same fun q u e => by
  obtain ⟨n, e⟩ := hide_some e
  rw [upd_ne n]
  exact e
def spPIsMul (K : PySem.W.Frag) : Sp := fun vs H Q _ => ∃ (v : V) (s : Sh), vs = [v] ∧ ShAt K H v s ∧ ∀ H', Same H H' → Q (.bl (isMul s)) H'
def spPEAt (K : PySem.W.Frag) : Sp := fun vs H Q _ => ∃ (x : V) (l r : Nat) (es : List E2) (i : Nat), vs = [x, .int (i : Int)] ∧ MulAt K H x l r es ∧ MulG l r es ∧ es.length ≤ 9 ∧ i ≤ 1 ∧ ∀ (F : Addr) (rs : List V) H', Same H H' → H' F = some (.lst rs) → RowsN H' rs ((List.range (if i = 0 then l else r)).map (atL es i)) → Q (.ref F) H'
def spPSide (K : PySem.W.Frag) (i : Nat) : Sp := fun vs H Q _ => ∃ (x : V) (l r : Nat) (es : List E2), vs = [x] ∧ MulAt K H x l r es ∧ MulG l r es ∧ es.length ≤ 9 ∧ ∀ (F : Addr) (rs : List V) H', Same H H' → H' F = some (.lst rs) → RowsN H' rs ((List.range (if i = 0 then l else r)).map (atL es i)) → Q (.ref F) H'
def spPDeg (K : PySem.W.Frag) : Sp := fun vs H Q _ => ∃ (x : V) (l r : Nat) (es : List E2), vs = [x] ∧ MulAt K H x l r es ∧ MulG l r es ∧ es.length ≤ 9 ∧ ∀ (m : Nat) H', Same H H' → IsMax (degL l r es) m → Q (.int (m : Int)) H'
def spPLine (K : PySem.W.Frag) : Sp := fun vs H Q _ => ∃ (x : V) (l r : Nat) (es : List E2), vs = [x] ∧ MulAt K H x l r es ∧ MulG l r es ∧ es.length ≤ 9 ∧ ∀ (y : V) H', Same H H' → GraphAt K H' y es.length (lineP es) → Q y H'
def spPMeet (K : PySem.W.Frag) : Sp := fun vs H Q _ => ∃ (a b : Addr) (p q : E2), vs = [.ref a, .ref b] ∧ SqT K H a [.int (p.1 : Int), .int (p.2 : Int)] ∧ SqT K H b [.int (q.1 : Int), .int (q.2 : Int)] ∧ Q (.bl (p.1 == q.1 || p.2 == q.2)) H
theorem enum_at (es : List E2) (i v j : Nat) (h : j < es.length) : ((List.range (j + 1)).filter fun k => sd i (eAt es k) == v) = ((List.range j).filter fun k => sd i (eAt es k) == v) ++ (if (sd i (eAt es j) == v) = true then [j] else []) := by
  rw [List.range_succ, List.filter_append]
  congr 1
  by_cases c : (sd i (eAt es j) == v) = true
  · rw [if_pos c, List.filter_cons_of_pos (by exact c), List.filter_nil]
  · rw [if_neg c, List.filter_cons_of_neg (by exact c), List.filter_nil]
section
variable {P : Program} {w : World} {K : PySem.W.Frag} {mg : Str → Option Value} {base : Heap} {f fI fW fE fN fM fC fL fR : Addr} {fd dI dW dE dN dM dC dL dR : FuncData}
theorem ok_pismul (F : L2.Fun K "is_multigraph" "is_multigraph" sPIsMul f fd) (GW : FnOk P w K mg base CX0 2 fW dW ["value", "low", "high"] (spIsWholeA K)) (bW : L2.Binds K dW ["value", "low", "high"] []) (kW : PySem.W.keepIn K (.ref fW) = true) (mW : mg "is_whole" = some (.ref fW))
    (GE : FnOk P w K mg base CX0 3 fE dE ["value", "left", "right"] (spPEdge K)) (bE : L2.Binds K dE ["value", "left", "right"] []) (kE : PySem.W.keepIn K (.ref fE) = true) (mE : mg "_is_edge" = some (.ref fE))
    (GN : FnOk P w K mg base CX0 1 fN dN ["edges"] (spPNev K)) (bN : L2.Binds K dN ["edges"] []) (kN : PySem.W.keepIn K (.ref fN) = true) (mN : mg "_is_never_falling" = some (.ref fN))
    (tk : Tok) (mS : mg "MOST_ON_A_SIDE" = some (.int 9 tk)) (tk2 : Tok) (mX : mg "MOST_EDGES" = some (.int 9 tk2)) (mty : mg "type" = none) (mt : mg "tuple" = none) (ma : mg "all" = none) (ml : mg "len" = none) : FnOk P w K mg base CX0 4 f fd ["value"] (spPIsMul K) := by
  refine F.ok scPIsMul (fun vs H Q E h => ?_) (fun cdv A outer s0 H vs Q E hr h => ?_)
  · obtain ⟨v, s, rfl, _⟩ := h
    rfl
  obtain ⟨v, s, rfl, hv, q⟩ := h
  refine ⟨_, pss_cons (ps_if (PW.pt (pw_or (pt_cmpR op_isNotTy (pe_callTy call_type1 (by rfl) mty (by decide +kernel) (pa_cons (pv 0) pa_nil)) (pe_bltn (v := .ty "tuple") (by rfl) mt (by decide +kernel) rfl) (nomark _)) (pw_or1 (pt_cmpR op_ne (pe_callB call_len_seq (by rfl) ml PySem.boot_len (pa_cons (pv 0) pa_nil)) pe_int (nomark _))))) (pss_one (ps_ret pe_bl)) pss_nil)
    (pss_cons (ps_asg (pv 0) (pg_tup (by rfl) (pgs_cons (pg_name (i := 1) scPIsMul.nd rfl (.inr rfl)) (pgs_cons (pg_name (i := 2) scPIsMul.nd rfl (.inr rfl)) (pgs_cons (pg_name (i := 3) scPIsMul.nd rfl (.inl rfl)) pgs_nil)))))
    (pss_cons (ps_if (PW.pt (pw_or (pt_not (pt_val (pe_call GW (hr.mono (by decide)) (by rfl) mW kW bW .nil pass0 (pa_cons (pv 1) (pa_cons pe_int (pa_cons (pe_glob (v := .int 9) (by rfl) mS ⟨_, rfl⟩) pa_nil))))))
        (pw_or1 (pt_not (pt_val (pe_call GW (hr.mono (by decide)) (by rfl) mW kW bW .nil pass0 (pa_cons (pv 2) (pa_cons pe_int (pa_cons (pe_glob (v := .int 9) (by rfl) mS ⟨_, rfl⟩) pa_nil))))))))) (pss_one (ps_ret pe_bl)) pss_nil)
    (pss_cons (ps_if (PW.pt (pw_or (pt_cmpR op_isNotTy (pe_callTy call_type1 (by rfl) mty (by decide +kernel) (pa_cons (pv 3) pa_nil)) (pe_bltn (v := .ty "tuple") (by rfl) mt (by decide +kernel) rfl) (nomark _))
        (pw_or1 (pt_cmpR op_gt (pe_callB call_len_seq (by rfl) ml PySem.boot_len (pa_cons (pv 3) pa_nil)) (pe_glob (v := .int 9) (by rfl) mX ⟨_, rfl⟩) (nomark _))))) (pss_one (ps_ret pe_bl)) pss_nil)
    (pss_one (ps_ret (pe_and (pe_callB (cr_all rfl) (by rfl) ma (by decide +kernel) (pa_cons (pe_lc (own := [("edge", 4)]) (g := gName 4) (tt := tYes) rfl scPIsMul.nd (pi_tup (pv 3))
        (blkOk_by (N := ["value", "left", "right", "edges", "edge"]) (sc := defScope sPIsMul) (by decide +kernel)) (fun _ _ _ _ _ => pg_name (i := 4) scPIsMul.nd rfl (Or.inl rfl)) (fun _ _ _ _ _ => pts_nil)
        (fun _ _ _ _ _ => pe_call GE hr (by rfl) mE kE bE .nil pass0 (pa_cons (pv 4) (pa_cons (pv 1) (pa_cons (pv 2) pa_nil))))) pa_nil))
      (pe_one (pe_call GN (hr.mono (by decide)) (by rfl) mN kN bN .nil pass0 (pa_cons (pv 3) pa_nil))))))))), ?_⟩
  have q0 := q H (Same.refl H)
  have qf : isMul s = false → Q (.bl false) H := fun e => by
    rw [e] at q0
    exact q0
  obtain ⟨T, ty, ok⟩ := hv.ty
  refine ⟨_, rfl, v, T, rfl, ty, T, "tuple", rfl, rfl, _, rfl, ?_⟩
  refine iteB (fun c3 => iteT (qf ?_)) (fun c3 => ?_)
  · have nt : T ≠ "tuple" := by simpa using c3
    cases s with
    | tup es => exact absurd ok nt
    | _ => rfl
  have et : T = "tuple" := by simpa using c3
  obtain ⟨ss, rfl⟩ : ∃ ss, s = .tup ss := by
    cases s with
    | tup ss => exact ⟨ss, rfl⟩
    | int i => rw [show T = "int" from ok] at et; exact absurd et (by decide)
    | bool b => rw [show T = "bool" from ok] at et; exact absurd et (by decide)
    | str x => rw [show T = "str" from ok] at et; exact absurd et (by decide)
    | oth => exact absurd et ok.2.2.1
  cases hv with
  | @tup u xs _ hu r =>
  have lx := r.len
  refine ⟨_, rfl, u, _, rfl, .inr hu, rfl, _, rfl, ?_⟩
  refine iteB (fun c1 => qf ?_) (fun c1 => ?_)
  · rcases ss with _ | ⟨a, _ | ⟨b, _ | ⟨c, _ | ⟨d, t⟩⟩⟩⟩
    · rfl
    · rfl
    · rfl
    · rw [lx] at c1
      cases c1
    · cases c <;> rfl
  obtain ⟨a, b, c, rfl⟩ : ∃ a b c, ss = [a, b, c] := by
    rw [lx] at c1
    rcases ss with _ | ⟨a, _ | ⟨b, _ | ⟨c, _ | ⟨d, t⟩⟩⟩⟩
    · cases c1
    · cases c1
    · cases c1
    · exact ⟨a, b, c, rfl⟩
    · exfalso
      have z : (!decide (V.int (((a :: b :: c :: d :: t).length : Nat) : Int) = V.int 3)) = false := c1
      rw [decide_eq_false (fun z => by
        injection z with z
        simp at z
        omega)] at z
      cases z
  cases r with
  | @cons x _ _ _ ha r =>
  cases r with
  | @cons y _ _ _ hb r =>
  cases r with
  | @cons z _ _ _ hc r =>
  cases r
  refine ⟨_, rfl, u, _, rfl, hu, rfl, _, _, rfl, _, _, rfl, _, _, rfl, rfl, ?_⟩
  refine ⟨_, rfl, x, a, 0, 9, rfl, ha, _, rfl, iteB (fun c2 => iteT (qf (isMul_no (.inl ?_)))) (fun c2 => ?_)⟩
  · simpa using c2
  have wa : wholeR 0 9 a = true := by simpa using c2
  refine ⟨_, rfl, y, b, 0, 9, rfl, hb, _, rfl, iteB (fun c4 => qf (isMul_no (.inr (.inl ?_)))) (fun c4 => ?_)⟩
  · simpa using c4
  have wb : wholeR 0 9 b = true := by simpa using c4
  obtain ⟨l, rfl, l9⟩ := whole9 wa
  obtain ⟨m, rfl, m9⟩ := whole9 wb
  cases ha
  cases hb
  obtain ⟨T2, ty2, ok2⟩ := hc.ty
  refine ⟨_, rfl, z, T2, rfl, ty2, T2, "tuple", rfl, rfl, _, rfl, ?_⟩
  refine iteB (fun c5 => iteT (qf (isMul_no (.inr (.inr ?_))))) (fun c5 => ?_)
  · have nt : T2 ≠ "tuple" := by simpa using c5
    cases c with
    | tup es => exact absurd ok2 nt
    | _ => rfl
  have et2 : T2 = "tuple" := by simpa using c5
  obtain ⟨es, rfl⟩ : ∃ ss, c = .tup ss := by
    cases c with
    | tup ss => exact ⟨ss, rfl⟩
    | int i => rw [show T2 = "int" from ok2] at et2; exact absurd et2 (by decide)
    | bool b => rw [show T2 = "bool" from ok2] at et2; exact absurd et2 (by decide)
    | str x => rw [show T2 = "str" from ok2] at et2; exact absurd et2 (by decide)
    | oth => exact absurd et2 ok2.2.2.1
  cases hc with
  | @tup e ys _ he re =>
  have ly := re.len
  have eq0 : isMul (.tup [.int (l : Int), .int (m : Int), .tup es]) = (decide (es.length ≤ 9) && (es.all (edgeM (l : Int) (m : Int)) && nevB es)) := by
    show ((wholeR 0 9 (.int (l : Int)) && wholeR 0 9 (.int (m : Int))) && (decide (es.length ≤ 9) && (es.all (edgeM (l : Int) (m : Int)) && nevB es))) = _
    rw [wa, wb]
    rfl
  refine ⟨_, rfl, e, ys, rfl, .inr he, _, _, rfl, rfl, _, rfl, iteB (fun d6 => qf ?_) (fun d6 => ?_)⟩
  · have := of_decide_eq_true d6
    rw [eq0, decide_eq_false (by omega), Bool.false_and]
  have e9 : es.length ≤ 9 := by
    have := of_decide_eq_false d6
    omega
  rw [decide_eq_true e9, Bool.true_and] at eq0
  rw [eq0] at q
  refine ⟨_, rfl, e, rfl, ⟨_, he⟩, fun D nD => lc_tup (K := K) (a := e) (xs := ys) (fun i H2 => Same H H2 ∧ H2 D = some (.lst (((es.take i).map (edgeM (l : Int) (m : Int))).map V.bl))) ⟨same_new nD _, upd_same⟩ (fun i H1 _ ⟨s1, _⟩ => Same.tup s1 he) ?_ ?_⟩
  · rintro i x H2 hi ⟨s2, hD⟩
    obtain ⟨t, ht, st⟩ := (re.same s2).get hi
    refine ⟨rfl, ?_⟩
    refine ⟨_, rfl, _, rfl, _, rfl, x, t, (l : Int), (m : Int), rfl, st, _, hD, small1000 (by rw [List.length_map, List.length_map, List.length_take]; omega), same_put s2 nD, ?_⟩
    rw [upd_same, take_succ ht, List.map_append, List.map_append]
    rfl
  rintro H2 ⟨s2, hD⟩
  rw [ly, List.take_length] at hD
  refine ⟨D, _, rfl, SqL.of hD, _, rfl, ?_⟩
  have ea : (es.map (edgeM (l : Int) (m : Int))).all id = es.all (edgeM (l : Int) (m : Int)) := by rw [List.all_map]; rfl
  rw [ea]
  refine iteB (fun c4 => ?_) (fun c4 => ?_)
  · refine ⟨_, rfl, e, ys, es, rfl, Same.tup s2 he, re.same s2, fun s hs => two_of (List.all_eq_true.mp c4 s hs), by omega, fun H3 s3 => ?_⟩
    have q1 := q H3 (s2.trans s3)
    rw [c4, Bool.true_and] at q1
    exact q1
  · have q1 := q H2 s2
    rw [c4, Bool.false_and] at q1
    exact q1
theorem ok_pmeet (F : L2.Fun K "_do_meet" "_do_meet" sPMeet f fd) : FnOk P w K mg base CX0 1 f fd ["edge", "other"] (spPMeet K) := by
  refine F.ok scPMeet (fun vs H Q E h => ?_) (fun cdv A outer s0 H vs Q E hr h => ?_)
  · obtain ⟨a, b, p, q, rfl, _⟩ := h
    rfl
  obtain ⟨a, b, p, o, rfl, ha, hb, q⟩ := h
  refine ⟨_, pss_one (ps_ret (pe_or (pe_cmpR op_eq (pe_ix (r := rIxT K) ix_tup (pv 0) pe_int (fun _ _ => rfl)) (pe_ix (r := rIxT K) ix_tup (pv 1) pe_int (fun _ _ => rfl)) (nomark _)) (pe_one (pe_cmpR op_eq (pe_ix (r := rIxT K) ix_tup (pv 0) pe_int (fun _ _ => rfl)) (pe_ix (r := rIxT K) ix_tup (pv 1) pe_int (fun _ _ => rfl)) (nomark _))))), ?_⟩
  refine ⟨_, rfl, a, _, 0, _, rfl, rfl, ha, rfl, _, rfl, b, _, 0, _, rfl, rfl, hb, rfl, rfl, _, rfl, ?_⟩
  rw [dec_nat]
  refine iteB (fun c1 => ?_) (fun c1 => ?_)
  · rw [c1, Bool.true_or] at q
    exact q
  · rw [c1, Bool.false_or] at q
    refine ⟨_, rfl, a, _, 1, _, rfl, rfl, ha, rfl, _, rfl, b, _, 1, _, rfl, rfl, hb, rfl, rfl, ?_⟩
    rw [dec_nat]
    exact q
theorem ok_peat (F : L2.Fun K "_edges_at" "_edges_at" sPEAt f fd) (mr : mg "range" = none) (me : mg "enumerate" = none) : FnOk P w K mg base CX0 1 f fd ["multigraph", "side"] (spPEAt K) := by
  refine F.ok scPEAt (fun vs H Q E h => ?_) (fun cdv A outer s0 H vs Q E hr h => ?_)
  · obtain ⟨x, l, r, es, i, rfl, _⟩ := h
    rfl
  obtain ⟨x, l, r, es, i, rfl, hx, g, e9, i1, q⟩ := h
  refine ⟨_, pss_cons (ps_set (i := 2) scPEAt.nd rfl (.inr rfl) (pe_lc (own := [("edge", 3)]) (g := gName 3) (tt := tYes) rfl scPEAt.nd (pi_tup (pe_ix (r := rIxT K) ix_tup (pv 0) pe_int (fun _ _ => rfl)))
        (blkOk_by (N := ["multigraph", "side", "ends", "edge", "vertex", "end"]) (sc := defScope sPEAt) (by decide +kernel)) (fun _ _ _ _ _ => pg_name (i := 3) scPEAt.nd rfl (Or.inl rfl)) (fun _ _ _ _ _ => pts_nil)
        (fun _ _ _ _ _ => pe_ix (r := rIxT K) ix_tup (pv 3) (pv 1) (fun _ _ => rfl))))
    (pss_one (ps_ret (pe_lc (own := [("vertex", 4)]) (g := gName 4) (tt := tYes) (te := tLc (iEnum K (tCons (tVar 2) tNil)) (gTup K 2 (gCons (gName 3) (gCons (gName 5) gNil))) (tTest (tOp rEq (tVar 5) (tVar 4))) (tVar 3) [3, 5]) rfl scPEAt.nd (pi_range1 rfl mr (pa_cons (pe_ix (r := rIxT K) ix_tup (pv 0) (pv 1) (fun _ _ => rfl)) pa_nil))
        (blkOk_by (N := ["multigraph", "side", "ends", "edge", "vertex", "end"]) (sc := defScope sPEAt) (by decide +kernel)) (fun _ _ _ _ _ => pg_name (i := 4) scPEAt.nd rfl (Or.inr rfl)) (fun _ _ _ _ _ => pts_nil)
        (fun _ _ _ _ _ => pe_lc (own := [("edge", 3), ("end", 5)]) (g := gTup K 2 (gCons (gName 3) (gCons (gName 5) gNil))) (tt := tTest (tOp rEq (tVar 5) (tVar 4))) rfl scPEAt.nd (pi_enum (by rfl) me (pa_cons (pv 2) pa_nil))
          (blkOk_by (N := ["multigraph", "side", "ends", "edge", "vertex", "end"]) rfl) (fun _ _ _ _ _ => pg_tup (by rfl) (pgs_cons (pg_name (i := 3) scPEAt.nd rfl (Or.inl rfl)) (pgs_cons (pg_name (i := 5) scPEAt.nd rfl (Or.inl rfl)) pgs_nil)))
          (fun _ _ _ _ _ => pts_one (pt_cmpR (r := rEq) op_eq (pv 5) (pv 4) (nomark _))) (fun _ _ _ _ _ => pv 3))))), ?_⟩
  obtain ⟨t, e, xs, rfl, ht, he, le, get⟩ := mul_at hx
  have l9 := g.l9
  have r9 := g.r9
  refine ⟨_, rfl, t, _, 2, _, rfl, rfl, ht, len_vec _ _ _, e, rfl, ⟨_, he⟩, fun D nD => lo_it (walk_tup (xs := xs)) (fun j H2 => Same H H2 ∧ H2 D = some (.lst (numsN ((List.range j).map fun k => sd i (eAt es k))))) ⟨same_new nD _, upd_same⟩ (fun j H2 _ ⟨s2, _⟩ => Same.tup s2 he) ?_ ?_⟩
  · rintro j x _ H2 lj ⟨s2, hD⟩ ⟨rfl, hj⟩
    obtain ⟨u, hu, su⟩ := get j (by omega)
    have ex : x = .ref u := by rw [hj] at hu; exact Option.some.inj hu
    subst ex
    refine ⟨rfl, ?_⟩
    refine ⟨_, rfl, _, rfl, u, _, _, _, rfl, rfl, Same.tup s2 su, pairV_at (K := K) i1 _, _, hD, small1000 (by rw [numsN_len, List.length_map, List.length_range]; omega), same_put s2 nD, ?_⟩
    rw [upd_same, List.range_succ, List.map_append, numsN_app]
    rfl
  rintro H1 ⟨s1, hD⟩
  rw [le] at hD
  have hw : atI [V.int (l : Int), V.int (r : Int), V.ref e] ((i : Nat) : Int) = some (.int ((if i = 0 then l else r : Nat) : Int)) := by
    rcases (show i = 0 ∨ i = 1 by omega) with rfl | rfl
    · rfl
    · rfl
  have w9 : (if i = 0 then l else r : Nat) ≤ 9 := by split <;> omega
  generalize hm : (if i = 0 then l else r : Nat) = m at hw w9 q
  refine ⟨_, rfl, _, rfl, t, _, _, _, rfl, rfl, Same.tup s1 ht, hw, (m : Int), rfl, by omega, by omega, fun R nR => lc_range (lo := 0) (n := ((m : Nat) : Int).toNat) (fun v H3 => Same H1 H3 ∧ ∃ rs, H3 R = some (.lst rs) ∧ RowsN (hide R H3) rs ((List.range v).map (atL es i))) ⟨same_new nR _, [], upd_same, .nil⟩ ?_ ?_⟩
  · rintro v H3 lv ⟨s3, rs, hR, hrs⟩
    rw [Int.zero_add]
    have hD3 := s3 _ _ hD
    have lr := hrs.len
    rw [List.length_map, List.length_range] at lr
    refine ⟨rfl, ?_⟩
    refine ⟨_, rfl, D, _, rfl, SqL.of hD3, fun B nB => lo_it (walk_enum (xs := numsN ((List.range es.length).map fun k => sd i (eAt es k)))) (fun j H4 => Same H3 H4 ∧ H4 B = some (.lst (numsN ((List.range j).filter fun k => sd i (eAt es k) == v)))) ⟨same_new nB _, upd_same⟩ (fun j H4 _ ⟨s4, _⟩ => SqL.of (s4 _ _ hD3)) ?_ ?_⟩
    · rintro j x H4 H5 lj ⟨s4, hB⟩ ⟨T, y, z, rfl, nT, rfl, ey, ez⟩
      obtain rfl : V.int ((j : Nat) : Int) = y := Option.some.inj ey
      rw [numsN_len, List.length_map, List.length_range] at lj
      obtain ⟨k, hk, rfl⟩ := numsN_get ez
      rw [List.getElem?_map, List.getElem?_range lj] at hk
      cases hk
      have s5 := same_new nT (.tup [.int ((j : Nat) : Int), .int ((sd i (eAt es j) : Nat) : Int)])
      have hB5 := s5 _ _ hB
      refine ⟨T, _, rfl, SqT.of upd_same, rfl, _, _, rfl, _, _, rfl, rfl, rfl, ?_⟩
      refine ⟨_, rfl, _, rfl, rfl, _, rfl, ?_⟩
      rw [dec_nat]
      have en := enum_at es i v j lj
      refine iteB (fun c => ?_) (fun c => ?_)
      · rw [if_pos c] at en
        refine ⟨_, rfl, _, hB5, small1000 (by rw [numsN_len]; refine Nat.le_trans (List.length_filter_le _ _) ?_; rw [List.length_range]; omega), same_put (s4.trans s5) nB, ?_⟩
        rw [upd_same, en, numsN_app]
        rfl
      · rw [if_neg (by rw [c]; decide), List.append_nil] at en
        refine ⟨s4.trans s5, ?_⟩
        rw [hB5, en]
    · rintro H4 ⟨s4, hB⟩
      rw [numsN_len, List.length_map, List.length_range] at hB
      have hR4 := s4 _ _ hR
      have BR : B ≠ R := fun z => by
        rw [z, hR] at nB
        cases nB
      refine ⟨rs, hR4, small1000 (by omega), same_put (s3.trans s4) nR, _, upd_same, ?_⟩
      rw [List.range_succ, List.map_append]
      have bt : But R H3 (upd H4 R (.lst (rs ++ [.ref B]))) := (But.of s4).trans .put
      refine (hrs.same bt.hide).app (.cons ?_ .nil)
      rw [hide_ne BR, upd_ne BR]
      exact hB
  · rintro H3 ⟨s3, rs, hR, hrs⟩
    rw [show ((m : Nat) : Int).toNat = m by omega] at hrs
    exact q R rs H3 (s1.trans s3) hR (hrs.same (hide_sub R H3))
theorem ok_pleft (F : L2.Fun K "edges_at_left" "edges_at_left" sPLeft f fd) (GE : FnOk P w K mg base CX0 1 fE dE ["multigraph", "side"] (spPEAt K)) (bE : L2.Binds K dE ["multigraph", "side"] []) (kE : PySem.W.keepIn K (.ref fE) = true) (mE : mg "_edges_at" = some (.ref fE)) : FnOk P w K mg base CX0 2 f fd ["multigraph"] (spPSide K 0) := by
  refine F.ok scPLeft (fun vs H Q E h => ?_) (fun cdv A outer s0 H vs Q E hr h => ?_)
  · obtain ⟨x, l, r, es, rfl, _⟩ := h
    rfl
  obtain ⟨x, l, r, es, rfl, hx, g, e9, q⟩ := h
  refine ⟨_, pss_one (ps_ret (pe_call GE hr (by rfl) mE kE bE .nil pass0 (pa_cons (pv 0) (pa_cons pe_int pa_nil)))), ?_⟩
  exact ⟨_, rfl, x, l, r, es, 0, rfl, hx, g, e9, by decide, q⟩
theorem ok_pright (F : L2.Fun K "edges_at_right" "edges_at_right" sPRight f fd) (GE : FnOk P w K mg base CX0 1 fE dE ["multigraph", "side"] (spPEAt K)) (bE : L2.Binds K dE ["multigraph", "side"] []) (kE : PySem.W.keepIn K (.ref fE) = true) (mE : mg "_edges_at" = some (.ref fE)) : FnOk P w K mg base CX0 2 f fd ["multigraph"] (spPSide K 1) := by
  refine F.ok scPRight (fun vs H Q E h => ?_) (fun cdv A outer s0 H vs Q E hr h => ?_)
  · obtain ⟨x, l, r, es, rfl, _⟩ := h
    rfl
  obtain ⟨x, l, r, es, rfl, hx, g, e9, q⟩ := h
  refine ⟨_, pss_one (ps_ret (pe_call GE hr (by rfl) mE kE bE .nil pass0 (pa_cons (pv 0) (pa_cons pe_int pa_nil)))), ?_⟩
  exact ⟨_, rfl, x, l, r, es, 1, rfl, hx, g, e9, by decide, q⟩
theorem ok_pcheck (F : L2.Fun K "check_multigraph" "check_multigraph" sPCheck f fd) (GG : FnOk P w K mg base CX0 4 fI dI ["value"] (spPIsMul K)) (bG : L2.Binds K dI ["value"] []) (kG : PySem.W.keepIn K (.ref fI) = true) (mG : mg "is_multigraph" = some (.ref fI)) : FnOk P w K mg base CX0 5 f fd ["multigraph"] (spPCheck K) := by
  refine F.ok scPCheck (fun vs H Q E h => ?_) (fun cdv A outer s0 H vs Q E hr h => ?_)
  · obtain ⟨x, l, r, es, rfl, _⟩ := h
    rfl
  obtain ⟨x, l, r, es, rfl, hx, g, e9, q⟩ := h
  refine ⟨_, pss_one (ps_if (pt_not (pt_val (pe_call GG (hr.mono (by decide)) (by rfl) mG kG bG .nil pass0 (pa_cons (pv 0) pa_nil)))) (pss_one ps_never) pss_nil), ?_⟩
  refine ⟨_, rfl, x, mulS l r es, rfl, hx.sh, fun H' s' => ?_⟩
  rw [isMul_good g e9]
  exact ⟨_, rfl, iteF (q H' s')⟩
theorem ok_pdeg (F : L2.Fun K "greatest_degree" "greatest_degree" sPDeg f fd) (GC : FnOk P w K mg base CX0 5 fC dC ["multigraph"] (spPCheck K)) (bC : L2.Binds K dC ["multigraph"] []) (kC : PySem.W.keepIn K (.ref fC) = true) (mC : mg "check_multigraph" = some (.ref fC))
    (GL : FnOk P w K mg base CX0 2 fL dL ["multigraph"] (spPSide K 0)) (bL : L2.Binds K dL ["multigraph"] []) (kL : PySem.W.keepIn K (.ref fL) = true) (mL : mg "edges_at_left" = some (.ref fL))
    (GR : FnOk P w K mg base CX0 2 fR dR ["multigraph"] (spPSide K 1)) (bR : L2.Binds K dR ["multigraph"] []) (kR : PySem.W.keepIn K (.ref fR) = true) (mR : mg "edges_at_right" = some (.ref fR))
    (ml : mg "len" = none) (mx : mg "max" = none) : FnOk P w K mg base CX0 6 f fd ["multigraph"] (spPDeg K) := by
  refine F.ok scPDeg (fun vs H Q E h => ?_) (fun cdv A outer s0 H vs Q E hr h => ?_)
  · obtain ⟨x, l, r, es, rfl, _⟩ := h
    rfl
  obtain ⟨x, l, r, es, rfl, hx, g, e9, q⟩ := h
  have h2 := hr.mono (show 2 ≤ 5 by decide)
  refine ⟨_, pss_cons (ps_expr (pe_call GC hr (by rfl) mC kC bC .nil pass0 (pa_cons (pv 0) pa_nil)))
    (pss_cons (ps_set (i := 1) scPDeg.nd rfl (.inl rfl) (pe_op op_cat (pe_call GL h2 (by rfl) mL kL bL .nil pass0 (pa_cons (pv 0) pa_nil)) (pe_call GR h2 (by rfl) mR kR bR .nil pass0 (pa_cons (pv 0) pa_nil))))
    (pss_one (ps_ret (pe_callB (cr_max rfl) (by rfl) mx (by decide +kernel) (pa_cons (pe_op op_cat (pe_lst (pa_cons pe_int pa_nil)) (pe_lc (own := [("row", 2)]) (g := gName 2) (tt := tYes) rfl scPDeg.nd (pi_list (pv 1))
        (blkOk_by (N := ["multigraph", "rows", "row"]) (sc := defScope sPDeg) (by decide +kernel)) (fun _ _ _ _ _ => pg_name (i := 2) scPDeg.nd rfl (Or.inl rfl)) (fun _ _ _ _ _ => pts_nil)
        (fun _ _ _ _ _ => pe_callB (id := "len") (r := rLenZ K) call_len_seq (by rfl) ml PySem.boot_len (pa_cons (pv 2) pa_nil)))) pa_nil))))), ?_⟩
  have l9 := g.l9
  have r9 := g.r9
  refine ⟨_, rfl, x, l, r, es, rfl, hx, g, e9, fun H1 s1 => ?_⟩
  refine ⟨_, rfl, x, l, r, es, rfl, hx.same s1, g, e9, fun F1 rs1 H2 s2 f1 w1 => ?_⟩
  refine ⟨_, rfl, x, l, r, es, rfl, hx.same (s1.trans s2), g, e9, fun F2 rs2 H3 s3 f2 w2 => ?_⟩
  have n1 := w1.len
  have n2 := w2.len
  rw [List.length_map, List.length_range] at n1 n2
  rw [if_pos rfl] at n1 w1
  rw [if_neg (by decide)] at n2 w2
  refine ⟨F1, F2, rs1, rs2, rfl, rfl, s3 _ _ f1, f2, small (by omega), fun G1 nG => ?_⟩
  have s4 := same_new nG (.lst (rs1 ++ rs2))
  have hG := upd_same (H := H3) (a := G1) (o := .lst (rs1 ++ rs2))
  have rows := ((w1.same s3).app w2).same s4
  generalize upd H3 G1 (.lst (rs1 ++ rs2)) = H4 at s4 hG rows ⊢
  generalize hL : (List.range l).map (atL es 0) ++ (List.range r).map (atL es 1) = L at rows
  have lL : L.length ≤ 18 := by rw [← hL, List.length_append, List.length_map, List.length_map, List.length_range, List.length_range]; omega
  have ln := rows.len
  refine ⟨small (by decide), fun Z nZ => ?_⟩
  have sZ := same_new nZ (.lst [.int 0])
  have hZ := upd_same (H := H4) (a := Z) (o := .lst [.int 0])
  generalize upd H4 Z (.lst [.int 0]) = H5 at sZ hZ ⊢
  have hG5 := sZ _ _ hG
  have rows5 := rows.same sZ
  refine ⟨_, rfl, G1, rfl, ⟨_, SqL.of hG5⟩, fun D nD => lo_it (walk_list (xs := rs1 ++ rs2)) (fun j H6 => Same H5 H6 ∧ H6 D = some (.lst (numsN ((L.take j).map List.length)))) ⟨same_new nD _, upd_same⟩ (fun j H6 _ ⟨s6, _⟩ => SqL.of (s6 _ _ hG5)) ?_ ?_⟩
  · rintro j y _ H6 lj ⟨s6, hD⟩ ⟨rfl, hj⟩
    obtain ⟨u, m, rfl, hm, hu⟩ := (rows5.same s6).get hj
    refine ⟨rfl, ?_⟩
    refine ⟨_, rfl, u, _, rfl, .inl (SqL.of hu), _, hD, small1000 (by rw [numsN_len, List.length_map, List.length_take]; omega), same_put s6 nD, ?_⟩
    rw [upd_same, take_succ hm, List.map_append, numsN_app, numsN_len]
    rfl
  · rintro H6 ⟨s6, hD⟩
    rw [ln, List.take_length] at hD
    refine ⟨Z, D, _, _, rfl, rfl, s6 _ _ hZ, hD, ?_, fun M nM => ?_⟩
    · rw [numsN_len, List.length_map]
      show 1 + L.length ≤ _
      exact small (by omega)
    have ed : [V.int 0] ++ numsN (L.map List.length) = ((degL l r es).map fun k => ((k : Nat) : Int)).map V.int := by
      rw [← hL]
      unfold degL numsN
      simp [List.map_append, List.map_map, Function.comp_def]
    rw [ed]
    refine ⟨M, _, rfl, SqL.of upd_same, by rw [List.length_map]; unfold degL; simp, fun m hm le => ?_⟩
    obtain ⟨k, hk, rfl⟩ := List.mem_map.mp hm
    refine q k _ (s1.trans (s2.trans (s3.trans (s4.trans (sZ.trans (s6.trans (same_new nM _))))))) ⟨hk, fun y hy => ?_⟩
    have := le _ (List.mem_map.mpr ⟨y, hy, rfl⟩)
    omega
theorem ok_pline (F : L2.Fun K "line_graph" "line_graph" sPLine f fd) (GC : FnOk P w K mg base CX0 5 fC dC ["multigraph"] (spPCheck K)) (bC : L2.Binds K dC ["multigraph"] []) (kC : PySem.W.keepIn K (.ref fC) = true) (mC : mg "check_multigraph" = some (.ref fC))
    (GM : FnOk P w K mg base CX0 1 fM dM ["edge", "other"] (spPMeet K)) (bM : L2.Binds K dM ["edge", "other"] []) (kM : PySem.W.keepIn K (.ref fM) = true) (mM : mg "_do_meet" = some (.ref fM))
    (ml : mg "len" = none) (mr : mg "range" = none) (mt : mg "tuple" = none) : FnOk P w K mg base CX0 6 f fd ["multigraph"] (spPLine K) := by
  refine F.ok scPLine (fun vs H Q E h => ?_) (fun cdv A outer s0 H vs Q E hr h => ?_)
  · obtain ⟨x, l, r, es, rfl, _⟩ := h
    rfl
  obtain ⟨x, l, r, es, rfl, hx, g, e9, q⟩ := h
  have h1 := hr.mono (show 1 ≤ 5 by decide)
  refine ⟨_, pss_cons (ps_expr (pe_call GC hr (by rfl) mC kC bC .nil pass0 (pa_cons (pv 0) pa_nil)))
    (pss_cons (ps_set (i := 1) scPLine.nd rfl (.inr rfl) (pe_ix (r := rIxT K) ix_tup (pv 0) pe_int (fun _ _ => rfl)))
    (pss_cons (ps_set (i := 2) scPLine.nd rfl (.inr rfl) (pe_callB call_len_seq (by rfl) ml PySem.boot_len (pa_cons (pv 1) pa_nil)))
    (pss_cons (ps_setLc2 (i := 3) (own := [("one", 4), ("other", 5)]) (vs1 := [5]) (g := gName 4) (g1 := gName 5) (tt := tYes) (tt1 := tYes) rfl scPLine.nd rfl rfl (sw_true rfl rfl rfl (by decide +kernel)) (pi_range1 rfl mr (pa_cons (pv 2) pa_nil)) (blkOk_by (N := ["multigraph", "edges", "many", "pairs", "one", "other"]) (sc := defScope sPLine) (by decide +kernel)) (by decide)
        (fun _ _ _ _ _ => pg_name (i := 4) scPLine.nd rfl (Or.inl rfl)) (fun _ _ _ _ _ => pts_nil) (fun _ _ _ _ _ => pi_range2 (by rfl) mr (pa_cons (pe_op op_add (pv 4) pe_int) (pa_cons (pv 2) pa_nil))) (fun _ _ _ _ _ => pg_name (i := 5) scPLine.nd rfl (Or.inl rfl)) (fun _ _ _ _ _ => pts_nil)
        (fun _ _ _ _ _ => pe_tup (pa_cons (pv 4) (pa_cons (pv 5) pa_nil))))
    (pss_one (ps_ret (pe_tup (pa_cons (pv 2) (pa_cons (pe_callTy call_tuple_of (by rfl) mt (by decide +kernel) (pa_cons (pe_lc (own := [("one", 4), ("other", 5)]) (g := gTup K 2 (gCons (gName 4) (gCons (gName 5) gNil))) (tt := tB (tCall (spPMeet K) [] E0 (tCons (tOp (rIxT K) (tVar 1) (tVar 4)) (tCons (tOp (rIxT K) (tVar 1) (tVar 5)) tNil)))) rfl scPLine.nd (pi_list (pv 3))
        (blkOk_by (N := ["multigraph", "edges", "many", "pairs", "one", "other"]) (sc := defScope sPLine) (by decide +kernel)) (fun _ _ _ _ _ => pg_tup (by rfl) (pgs_cons (pg_name (i := 4) scPLine.nd rfl (Or.inl rfl)) (pgs_cons (pg_name (i := 5) scPLine.nd rfl (Or.inl rfl)) pgs_nil)))
        (fun _ _ _ _ _ => pts_one (pt_val (pe_call GM h1 (by rfl) mM kM bM .nil pass0 (pa_cons (pe_ix (r := rIxT K) ix_tup (pv 1) (pv 4) (fun _ _ => rfl)) (pa_cons (pe_ix (r := rIxT K) ix_tup (pv 1) (pv 5) (fun _ _ => rfl)) pa_nil)))))
        (fun _ _ _ _ _ => pe_tup (pa_cons (pv 4) (pa_cons (pv 5) pa_nil)))) pa_nil)) pa_nil)))))))), ?_⟩
  refine ⟨_, rfl, x, l, r, es, rfl, hx, g, e9, fun H1 s1 => ?_⟩
  obtain ⟨t, e, xs, rfl, ht, he, le, get⟩ := mul_at (hx.same s1)
  refine ⟨_, rfl, t, _, 2, _, rfl, rfl, ht, len_vec _ _ _, ?_⟩
  refine ⟨_, rfl, e, xs, rfl, .inr he, ?_⟩
  rw [le]
  refine ⟨_, rfl, ((es.length : Nat) : Int), rfl, by omega, by omega, fun D nD => lo_it (walk_range (lo := 0) (n := ((es.length : Nat) : Int).toNat)) (fun i H2 => Same H1 H2 ∧ ∃ zs, H2 D = some (.lst zs) ∧ PairsT H2 zs ((List.range i).flatMap (rowP es.length))) ⟨same_new nD _, [], upd_same, .nil⟩ (fun _ _ _ _ => trivial) ?_ ?_⟩
  · rintro i x H2 _ li ⟨s2, zs, hD, pz⟩ ⟨rfl, ex⟩
    obtain rfl : x = V.int ((i : Nat) : Int) := ex.trans (congrArg V.int (Int.zero_add _))
    have l9 : zs.length ≤ 81 := by rw [PairsT.len pz]; exact rows_few i (by omega) es.length e9
    refine ⟨rfl, ?_⟩
    refine ⟨_, rfl, _, _, rfl, rfl, _, rfl, _, _, rfl, ⟨by omega, by omega, by omega, by omega⟩, lo_it (walk_range (lo := (i : Int) + 1) (n := (((es.length : Nat) : Int) - ((i : Int) + 1)).toNat)) (fun j H3 => Same H1 H3 ∧ ∃ zs, H3 D = some (.lst zs) ∧ PairsT H3 zs ((List.range i).flatMap (rowP es.length) ++ (List.range j).map fun j => (i, i + 1 + j))) ⟨s2, zs, hD, by rw [List.range_zero, List.map_nil, List.append_nil]; exact pz⟩ (fun _ _ _ _ => trivial) ?_ ?_⟩
    · rintro j x H3 _ lj ⟨s3, zs, hD, pz⟩ ⟨rfl, ex⟩
      obtain rfl : x = V.int ((i + 1 + j : Nat) : Int) := ex.trans (congrArg V.int (by omega))
      refine ⟨rfl, ?_⟩
      refine ⟨_, rfl, _, rfl, (by show 2 ≤ sizeLine; exact small (by decide)), fun u nu => ?_⟩
      have p1 := push_pairT (i, i + 1 + j) hD nu pz
      have l1 : zs.length ≤ 81 + 9 := by
        rw [PairsT.len pz, List.length_append, List.length_map, List.length_range]
        have := rows_few i (by omega) es.length e9
        omega
      refine ⟨zs, (same_new nu _) _ _ hD, small1000 (by omega), same_put (s3.trans (same_new nu _)) nD, _, upd_same, ?_⟩
      rw [List.range_succ, List.map_append, ← List.append_assoc]
      exact p1
    · rintro H3 ⟨s3, zs, hD, pz⟩
      refine ⟨s3, zs, hD, ?_⟩
      rw [List.range_succ, List.flatMap_append, List.flatMap_cons, List.flatMap_nil, List.append_nil]
      rw [show (((es.length : Nat) : Int) - ((i : Int) + 1)).toNat = es.length - (i + 1) by omega] at pz
      exact pz
  rintro H2 ⟨s2, zs, hD, pz⟩
  rw [show ((es.length : Nat) : Int).toNat = es.length by omega] at pz
  have ap : (List.range es.length).flatMap (rowP es.length) = allP es.length := rfl
  rw [ap] at pz
  have lz := PairsT.len pz
  have few := allP_few es.length e9
  refine ⟨_, rfl, _, rfl, D, rfl, ⟨_, SqL.of hD⟩, fun D2 nD2 => lo_it (walk_list (xs := zs)) (fun j H3 => Same H2 H3 ∧ ∃ ys, H3 D2 = some (.lst ys) ∧ PairsT H3 ys (((allP es.length).take j).filter fun p => meetB es p.1 p.2)) ⟨same_new nD2 _, [], upd_same, .nil⟩ (fun j H3 _ ⟨s3, _⟩ => SqL.of (s3 _ _ hD)) ?_ ?_⟩
  · rintro j y _ H3 lj ⟨s3, ys, hD2, py⟩ ⟨rfl, hj⟩
    have pz3 := pz.same s3
    have m := pz3.mem y (List.mem_of_getElem? hj)
    have em := map_gOf pz3
    have hp : (allP es.length)[j]? = some (gOf H3 y) := by
      rw [← em, List.getElem?_map, hj]
      rfl
    generalize gOf H3 y = p at m hp
    obtain ⟨u, rfl, hu⟩ := m
    obtain ⟨p1, p2⟩ := mem_allP.mp (List.mem_of_getElem? hp)
    obtain ⟨a, ha, sa⟩ := get p.1 (by omega)
    obtain ⟨b, hb, sb⟩ := get p.2 p2
    have s13 := s2.trans s3
    refine ⟨u, _, rfl, SqT.of hu, rfl, _, _, rfl, _, _, rfl, rfl, rfl, ?_⟩
    refine ⟨_, rfl, _, rfl, e, xs, _, _, rfl, rfl, Same.tup s13 he, atI_nat ha, _, rfl, _, rfl, e, xs, _, _, rfl, rfl, Same.tup s13 he, atI_nat hb, a, b, eAt es p.1, eAt es p.2, rfl, Same.tup s13 sa, Same.tup s13 sb, _, rfl, ?_⟩
    have tk := take_succ hp
    refine iteB (fun c => ?_) (fun c => ?_)
    · refine ⟨_, rfl, _, rfl, (by show 2 ≤ sizeLine; exact small (by decide)), fun u2 nu2 => ?_⟩
      have pp := push_pairT p hD2 nu2 py
      refine ⟨ys, (same_new nu2 _) _ _ hD2, small1000 ?_, same_put (s3.trans (same_new nu2 _)) nD2, _, upd_same, ?_⟩
      · rw [PairsT.len py]
        refine Nat.le_trans (List.length_filter_le _ _) ?_
        rw [List.length_take]
        omega
      · rw [tk, List.filter_append, List.filter_cons_of_pos (by exact c), List.filter_nil]
        exact pp
    · refine ⟨s3, ys, hD2, ?_⟩
      rw [tk, List.filter_append, List.filter_cons_of_neg (by show ¬ meetB es p.1 p.2 = true; unfold meetB; rw [c]; decide), List.filter_nil, List.append_nil]
      exact py
  · rintro H3 ⟨s3, ys, hD2, py⟩
    rw [lz, List.take_length] at py
    refine ⟨D2, _, rfl, .inl ⟨SqL.of hD2, fun l' nl => ⟨(by show 2 ≤ sizeLine; exact small (by decide)), fun r' nr => ?_⟩⟩⟩
    have t2 := same_new nl (.tup ys)
    have t3 := same_new nr (.tup [.int (es.length : Int), .ref l'])
    exact q (.ref r') _ (s1.trans (s2.trans (s3.trans (t2.trans t3)))) ⟨r', l', ys, rfl, SqT.of upd_same, SqT.of (t3 _ _ upd_same), ((py.same t2).same t3).at⟩
end
end My

set_option maxHeartbeats 8000000
namespace My
open PySem PySem.Spec PyProof.Rows L2
abbrev sIsCol : Stmt := top 18
theorem scIsCol : FnScope ["graph", "value", "many", "edges", "colour", "one", "other"] ["graph", "value"] (defScope sIsCol) := ⟨rfl, rfl, rfl, by decide +kernel, rfl, by decide +kernel, by decide +kernel⟩
/-- a colouring, whatever its numbers -/
def isCol (n : Nat) (es : List E2) : Sh → Bool
  | .tup ss => decide (ss.length = n) && (ss.all (wholeF 0) && es.all fun p => !(intS (ss.getD p.1 (.int 0)) == intS (ss.getD p.2 (.int 0))))
  | _ => false
def spIsCol (K : PySem.W.Frag) : Sp := fun vs H Q _ => ∃ (x : V) (n : Nat) (es : List E2) (v : V) (s : Sh), vs = [x, v] ∧ GraphAt K H x n es ∧ Good n es ∧ ShAt K H v s ∧ ∀ H', Same H H' → Q (.bl (isCol n es s)) H'
section
variable {P : Program} {w : World} {K : PySem.W.Frag} {mg : Str → Option Value} {base : Heap} {f fC fW : Addr} {fd dC dW : FuncData}
theorem ok_is_col (F : L2.Fun K "is_colouring" "is_colouring" sIsCol f fd) (GC : FnOk P w K mg base CX0 5 fC dC ["graph"] (spCheckGraph K)) (bC : L2.Binds K dC ["graph"] []) (kC : PySem.W.keepIn K (.ref fC) = true) (mC : mg "check_graph" = some (.ref fC))
    (GW : FnOk P w K mg base CX0 1 fW dW ["value", "low"] (spWholeFromA K)) (bW : L2.Binds K dW ["value", "low"] []) (kW : PySem.W.keepIn K (.ref fW) = true) (mW : mg "is_whole_from" = some (.ref fW))
    (mty : mg "type" = none) (mt : mg "tuple" = none) (ma : mg "all" = none) (ml : mg "len" = none) : FnOk P w K mg base CX0 6 f fd ["graph", "value"] (spIsCol K) := by
  refine F.ok scIsCol (fun vs H Q E h => ?_) (fun cdv A outer s H vs Q E hr h => ?_)
  · obtain ⟨x, n, es, v, s, rfl, _⟩ := h
    rfl
  obtain ⟨x, n, es, v, s, rfl, hx, g, hv, q⟩ := h
  refine ⟨_, pss_cons (ps_expr (pe_call GC hr (by rfl) mC kC bC .nil pass0 (pa_cons (pv 0) pa_nil)))
    (pss_cons (ps_asg (pv 0) (pg_tup (by rfl) (pgs_cons (pg_name (i := 2) scIsCol.nd rfl (.inl rfl)) (pgs_cons (pg_name (i := 3) scIsCol.nd rfl (.inl rfl)) pgs_nil))))
    (pss_cons (ps_if (PW.pt (pw_or (pt_cmpR op_isNotTy (pe_callTy call_type1 (by rfl) mty (by decide +kernel) (pa_cons (pv 1) pa_nil)) (pe_bltn (v := .ty "tuple") (by rfl) mt (by decide +kernel) rfl) (nomark _)) (pw_or1 (pt_cmpR op_ne (pe_callB call_len_seq (by rfl) ml PySem.boot_len (pa_cons (pv 1) pa_nil)) (pv 2) (nomark _))))) (pss_one (ps_ret pe_bl)) pss_nil)
    (pss_cons (ps_if (pt_not (pt_val (pe_callB (cr_all rfl) (by rfl) ma (by decide +kernel) (pa_cons (pe_lc (own := [("colour", 4)]) (g := gName 4) (tt := tYes) rfl scIsCol.nd (pi_tup (pv 1))
        (blkOk_by (N := ["graph", "value", "many", "edges", "colour", "one", "other"]) (sc := defScope sIsCol) (by decide +kernel)) (fun _ _ _ _ _ => pg_name (i := 4) scIsCol.nd rfl (Or.inl rfl)) (fun _ _ _ _ _ => pts_nil)
        (fun _ _ _ _ _ => pe_call GW (hr.mono (by decide)) (by rfl) mW kW bW .nil pass0 (pa_cons (pv 4) (pa_cons pe_int pa_nil)))) pa_nil)))) (pss_one (ps_ret pe_bl)) pss_nil)
    (pss_one (ps_ret (pe_callB (cr_all rfl) (by rfl) ma (by decide +kernel) (pa_cons (pe_lc (own := [("one", 5), ("other", 6)]) (g := gTup K 2 (gCons (gName 5) (gCons (gName 6) gNil))) (tt := tYes) rfl scIsCol.nd (pi_tup (pv 3))
        (blkOk_by (N := ["graph", "value", "many", "edges", "colour", "one", "other"]) (sc := defScope sIsCol) (by decide +kernel)) (fun _ _ _ _ _ => pg_tup (by rfl) (pgs_cons (pg_name (i := 5) scIsCol.nd rfl (Or.inl rfl)) (pgs_cons (pg_name (i := 6) scIsCol.nd rfl (Or.inl rfl)) pgs_nil))) (fun _ _ _ _ _ => pts_nil)
        (fun _ _ _ _ _ => pe_cmpR (r := rNe) op_ne (pe_ix (r := rIxT K) ix_tup (pv 1) (pv 5) (fun _ _ => rfl)) (pe_ix (r := rIxT K) ix_tup (pv 1) (pv 6) (fun _ _ => rfl)) (nomark _))) pa_nil))))))), ?_⟩
  refine ⟨_, rfl, x, n, es, rfl, hx, g, fun H1 s1 => ?_⟩
  obtain ⟨t, e, ys, rfl, ht, he, hes⟩ := hx.same s1
  refine ⟨_, rfl, t, _, rfl, ht, rfl, _, _, rfl, _, _, rfl, rfl, ?_⟩
  have hv1 := hv.same s1
  obtain ⟨T, ty, ok⟩ := hv1.ty
  refine ⟨_, rfl, v, T, rfl, ty, T, "tuple", rfl, rfl, _, rfl, ?_⟩
  refine iteB (fun c3 => ?_) (fun c3 => ?_)
  · refine iteT ?_
    have nt : T ≠ "tuple" := by simpa using c3
    have e : isCol n es s = false := by
      cases s with
      | tup es => exact absurd ok nt
      | _ => rfl
    have q0 := q H1 s1
    rw [e] at q0
    exact q0
  have et : T = "tuple" := by simpa using c3
  obtain ⟨ss, rfl⟩ : ∃ ss, s = .tup ss := by
    cases s with
    | tup ss => exact ⟨ss, rfl⟩
    | int i => rw [show T = "int" from ok] at et; exact absurd et (by decide)
    | bool b => rw [show T = "bool" from ok] at et; exact absurd et (by decide)
    | str x => rw [show T = "str" from ok] at et; exact absurd et (by decide)
    | oth => exact absurd et ok.2.2.1
  have eq : isCol n es (.tup ss) = (decide (ss.length = n) && (ss.all (wholeF 0) && es.all fun p => !(intS (ss.getD p.1 (.int 0)) == intS (ss.getD p.2 (.int 0))))) := rfl
  have n9 := g.n9
  have few := g.few
  have le := PairsAt.len hes
  cases hv1 with
  | @tup u xs _ hu r =>
  have lx := r.len
  refine ⟨_, rfl, u, _, rfl, .inr hu, _, rfl, rfl, _, rfl, ?_⟩
  refine iteB (fun c4 => ?_) (fun c4 => ?_)
  · have ne : ss.length ≠ n := fun z => by
      have z2 : decide (V.int ((xs.length : Nat) : Int) = V.int (n : Int)) = true := decide_eq_true (by rw [lx, z])
      rw [z2] at c4
      cases c4
    have q0 := q H1 s1
    rw [eq, decide_eq_false ne, Bool.false_and] at q0
    exact q0
  have ln : ss.length = n := by
    by_cases z : ss.length = n
    · exact z
    · have z2 : decide (V.int ((xs.length : Nat) : Int) = V.int (n : Int)) = false := decide_eq_false fun w => z (by
        injection w with w
        rw [lx] at w
        exact Int.ofNat.inj w)
      rw [z2] at c4
      cases c4
  rw [eq, decide_eq_true ln, Bool.true_and] at q
  refine ⟨_, rfl, u, rfl, ⟨_, hu⟩, fun D nD => lo_it (walk_tup (xs := xs)) (fun i H2 => Same H1 H2 ∧ H2 D = some (.lst (((ss.take i).map (wholeF 0)).map V.bl))) ⟨same_new nD _, upd_same⟩ (fun i H2 _ ⟨s2, _⟩ => Same.tup s2 hu) ?_ ?_⟩
  · rintro i y _ H2 li ⟨s2, hD⟩ ⟨rfl, hi⟩
    obtain ⟨z, hz, sz⟩ := (r.same s2).get hi
    refine ⟨rfl, ?_⟩
    refine ⟨_, rfl, y, z, 0, rfl, sz, _, hD, small1000 (by rw [List.length_map, List.length_map, List.length_take]; omega), same_put s2 nD, ?_⟩
    rw [upd_same, take_succ hz, List.map_append, List.map_append]
    rfl
  rintro H2 ⟨s2, hD⟩
  rw [lx, List.take_length] at hD
  refine ⟨D, _, rfl, SqL.of hD, _, rfl, ?_⟩
  have ea : (ss.map (wholeF 0)).all id = ss.all (wholeF 0) := by rw [List.all_map]; rfl
  rw [ea]
  refine iteB (fun c5 => ?_) (fun c5 => ?_)
  · have c6 : ss.all (wholeF 0) = false := by
      cases z : ss.all (wholeF 0) with
      | false => rfl
      | true => rw [z] at c5; cases c5
    have q1 := q H2 (s1.trans s2)
    rw [c6, Bool.false_and] at q1
    exact q1
  have c6 : ss.all (wholeF 0) = true := by
    cases z : ss.all (wholeF 0) with
    | true => rfl
    | false => rw [z] at c5; cases c5
  rw [c6, Bool.true_and] at q
  have xint : ∀ k, k < n → xs[k]? = some (V.int (intS (ss.getD k (.int 0)))) := fun k hk => by
    have hkx : k < xs.length := by omega
    obtain ⟨z, hz, sz⟩ := r.get (List.getElem?_eq_getElem hkx)
    have wz := List.all_eq_true.mp c6 z (List.mem_of_getElem? hz)
    rw [List.getElem?_eq_getElem hkx, List.getD_eq_getElem?_getD, hz]
    generalize xs[k] = xv at sz ⊢
    cases z with
    | int i =>
      cases sz
      rfl
    | _ => cases wz
  refine ⟨_, rfl, e, rfl, ⟨_, Same.tup s2 he⟩, fun D2 nD2 => lo_it (walk_tup (xs := ys)) (fun i H3 => Same H2 H3 ∧ H3 D2 = some (.lst (((es.take i).map fun p => !(intS (ss.getD p.1 (.int 0)) == intS (ss.getD p.2 (.int 0)))).map V.bl))) ⟨same_new nD2 _, upd_same⟩ (fun i H3 _ ⟨s3, _⟩ => Same.tup s3 (Same.tup s2 he)) ?_ ?_⟩
  · rintro i y _ H3 li ⟨s3, hD2⟩ ⟨rfl, hi⟩
    have s23 := s2.trans s3
    obtain ⟨p, hp, w2, rfl, hw2⟩ := PairsAt.get (hes.same s23) hi
    obtain ⟨l1, l2⟩ := g.lt p (List.mem_of_getElem? hp)
    have hu3 := Same.tup s23 hu
    refine ⟨w2, _, rfl, hw2, rfl, _, _, rfl, _, _, rfl, rfl, ?_⟩
    refine ⟨rfl, ?_⟩
    refine ⟨_, rfl, _, rfl, u, _, _, _, rfl, rfl, hu3, atI_nat (xint p.1 (by omega)), _, rfl, _, rfl, u, _, _, _, rfl, rfl, hu3, atI_nat (xint p.2 l2), rfl, _, hD2, small1000 (by rw [List.length_map, List.length_map, List.length_take]; omega), same_put s3 nD2, ?_⟩
    rw [upd_same, take_succ hp, List.map_append, List.map_append, dec_int]
    rfl
  · rintro H3 ⟨s3, hD2⟩
    rw [le, List.take_length] at hD2
    refine ⟨D2, _, rfl, SqL.of hD2, ?_⟩
    have q1 := q H3 (s1.trans (s2.trans s3))
    have eb : (es.map fun p => !(intS (ss.getD p.1 (.int 0)) == intS (ss.getD p.2 (.int 0)))).all id = es.all fun p => !(intS (ss.getD p.1 (.int 0)) == intS (ss.getD p.2 (.int 0))) := by rw [List.all_map]; rfl
    rw [eb]
    exact q1
end
end My

set_option maxHeartbeats 6400000
/-! set(xs), xs a list of tuples of ints of any length, at most 62 unlike ones. -/
namespace My
open PySem PySem.Spec PyProof.Rows L2
section
variable {P : Program} {w : World} {A : Around} {E : Value → Shared → Prop} {s : Shared}
theorem st_loop {I : Addr} {fp wr : List Addr} {G : Array GenState → Array GenState → Prop} {n : Nat} {Pv : Nat → Value → Prop} {St : Nat → Shared → Prop} {R : Result → Shared → Prop}
    (W : WalksS P w A.in1 I fp wr G n Pv St) (S : Addr) (offS : S ∉ fp) (ks : List (Addr × List Int)) (hn : n = ks.length) (hfew : ∀ M : List (Addr × List Int), (∀ p ∈ M, p ∈ ks) → (M.map (·.2)).Nodup → M.length ≤ 62) (hval : ∀ i v, Pv i v → ∃ p, ks[i]? = some p ∧ v = .ref p.1)
    (h0 : Heap) (hk : ∀ p ∈ ks, IsT P w h0 p.2 p.1) (hS0 : h0.get? S = none) (hw0 : ∀ b ∈ wr, h0.get? b = none) (hu : A.in1.units < cLine) :
    ∀ (k i : Nat) (s : Shared), n - i = k → i ≤ n → St i s → (∀ b o, h0.get? b = some o → s.heap.get? b = some o) → (∃ L es ep t, SetTR P w s.heap S L es ep t ∧ Got ks i L) →
      (∀ s' L es ep t, Moved (S :: wr) G s s' → SetTR P w s'.heap S L es ep t → Got ks n L → (∀ b o, h0.get? b = some o → s'.heap.get? b = some o) → R (.ok (.ret .none)) s') →
      codeAny (model P w) A (.builtin "set.update.loop" ⟨[.ref S, .ref I], []⟩) R s := by
  have offw : S ∉ wr := fun h => offS (W.sub _ h)
  have into : ∀ b ∈ wr, b ∈ S :: wr := fun b hb => List.mem_cons_of_mem _ hb
  have stays : ∀ {s s' : Shared}, Moved wr G s s' → (∀ b o, h0.get? b = some o → s.heap.get? b = some o) → ∀ b o, h0.get? b = some o → s'.heap.get? b = some o := fun hm kp b o e =>
    hm.heap b o (fun hb => by rw [hw0 b hb] at e; cases e) (kp b o e)
  intro k
  induction k with
  | zero =>
    intro i s hk' hi st0 kp ⟨L, es, ep, t, hS, g⟩ hR
    have hin : i = n := by omega
    subst hin
    refine codeAny_builtin PyProof.Rows.F.entry_set_update_loop ?_
    rw [Around.under_plainId PyProof.Rows.F.plain_set_update_loop _]
    show wpAny _ A.in1 (pyNext (.ref I) >>= _) _ _ s
    refine wpAny_bind (W.done s _ _ st0 fun s' hm => ?_)
    show wpAny _ A.in1 (ret Value.none) _ _ s'
    have kp' := stays hm kp
    have sub : ∀ p ∈ L, p ∈ ks := fun p hp => List.mem_of_mem_take (g.sub p hp)
    exact wpAny_pure (hR s' L es ep t (hm.mono into) (hS.keep (fun o e => hm.heap S o offw e) fun p hp => isT_keep (hk p (sub p hp)) kp') g kp')
  | succ k ih =>
    intro i s hk' hi st0 kp ⟨L, es, ep, t, hS, g⟩ hR
    have hlt : i < n := by omega
    refine codeAny_builtin PyProof.Rows.F.entry_set_update_loop ?_
    rw [Around.under_plainId PyProof.Rows.F.plain_set_update_loop _]
    show wpAny _ A.in1 (pyNext (.ref I) >>= _) _ _ s
    refine wpAny_bind (W.item i s _ _ hlt st0 fun v s' hP st' hm => ?_)
    obtain ⟨p, hp, rfl⟩ := hval i v hP
    have kp' := stays hm kp
    have sub : ∀ p ∈ L, p ∈ ks := fun p hp => List.mem_of_mem_take (g.sub p hp)
    have hS' : SetTR P w s'.heap S L es ep t := hS.keep (fun o e => hm.heap S o offw e) fun q hq => isT_keep (hk q (sub q hq)) kp'
    have hx : IsT P w s'.heap p.2 p.1 := isT_keep (hk p (List.mem_of_getElem? hp)) kp'
    show wpAny _ A.in1 (holding [Value.ref p.1] (setAdd S (.ref p.1)) >>= _) _ _ s'
    refine wpAny_bind (wpAny_holding ?_)
    unfold setAdd
    refine wpAny_holding ?_
    refine wpAny_bind (wpAny_pyHash_tuple hu hx ?_)
    refine add_at (s := { s' with toks := s'.toks + (p.2.length + 1) }) hS' hx hu (by have := hfew L sub hS.nd; omega) fun b h' L' es' ep' t' hsb hS2 c1 c2 => ?_
    have g' : Got ks (i + 1) L' := by
      rcases Classical.em (p.2 ∈ L.map (·.2)) with c | c
      · rw [c1 c]; exact g.same hp c
      · exact g.more hp (c2 c)
    have kp2 : ∀ b o, h0.get? b = some o → h'.get? b = some o := fun b o e => (hsb.2 b (fun z => by rw [z, hS0] at e; cases e)).trans (kp' b o e)
    refine wpAny_pure ⟨plainId_quiet PyProof.Rows.F.plain_set_update_loop _, ih (i + 1) _ (by omega) hlt (W.frame _ s' _ _ st' (Nat.le_add_right _ _) fun b hb o e => ?_) kp2 ⟨L', es', ep', t', hS2, g'⟩ fun s'' L2 es2 ep2 t2 hm'' hS'' g'' kp'' => ?_⟩
    · rw [hsb.2 b (fun h : b = S => offS (by rw [← h]; exact hb))]; exact e
    · refine hR s'' L2 es2 ep2 t2 (Moved.trans W.gtrans ((hm.mono into).then_heap (Nat.le_add_right _ _) fun b o hb e => ?_) hm'') hS'' g'' kp''
      rw [hsb.2 b (fun h : b = S => hb (by rw [h]; exact List.mem_cons_self))]; exact e

theorem st_call {l : Addr} {items : Array Value} (ks : List (Addr × List Int)) {Q : Value → Shared → Prop} (hh : A.handled = none) (hl : s.heap.IsList l items) (hit : items.toList = ks.map fun p => Value.ref p.1)
    (hk : ∀ p ∈ ks, IsT P w s.heap p.2 p.1) (hfew : ∀ M : List (Addr × List Int), (∀ p ∈ M, p ∈ ks) → (M.map (·.2)).Nodup → M.length ≤ 62) (hu : A.units + 3 < cLine)
    (h : ∀ (h' : Heap) (tk : Nat) L es ep t, SetTR P w h' s.heap.objs.size L es ep t → Got ks ks.length L → (∀ b o, s.heap.get? b = some o → h'.get? b = some o) → Q (.ref s.heap.objs.size) { s with heap := h', toks := tk }) :
    wpAny (model P w) A (call (.type "set") [.ref l]) Q E s := by
  have lenI : items.size = ks.length := by
    have q := congrArg List.length hit
    rw [Array.length_toList, List.length_map] at q
    exact q
  obtain ⟨c, tl, mr⟩ := F.called_set.mro
  have md := F.called_set.made
  have into := F.called_set.sub
  refine wpAny_call (codeAny_of_tree ?_)
  show wpAny _ _ (callAny (.type "set") _) _ _ _
  refine wpAny_pure ⟨Code.quiet_builtin _ (by decide +kernel), codeAny_builtin F.entry_type_call ?_⟩
  rw [Around.under_plain (weight_type_call_type "set" [.ref l] []) rfl]
  have h1 := F.called_set.notType
  have h2 := F.called_set.canCreate
  have ct := F.typeCall_set_1 (.ref l)
  repeat (any_goals (first | assumption | wp_step))

  refine codeAny_mono (code_set_led1 (.ref l) (E := E) (Q₁ := fun obj s₁ => obj = .ref s.heap.objs.size ∧ s₁ = { s with heap := s.heap.push { cls := .type "set", dict := none, data := .set #[] 0 (.fresh 0 0 (!w.params.followText "set-order")) } }) ⟨rfl, rfl⟩) fun r s₁ hr => ?_
  cases r with
  | error e => exact hr
  | ok fl =>
    cases fl with
    | ret obj =>
      obtain ⟨rfl, rfl⟩ := hr
      have hS : (s.heap.push { cls := .type "set", dict := none, data := .set #[] 0 (.fresh 0 0 (!w.params.followText "set-order")) }).get? s.heap.objs.size = some { cls := .type "set", dict := none, data := .set #[] 0 (.fresh 0 0 (!w.params.followText "set-order")) } := Heap.get?_push_size _ rfl
      have hT : Shared.TypeIs { s with heap := s.heap.push { cls := .type "set", dict := none, data := .set #[] 0 (.fresh 0 0 (!w.params.followText "set-order")) } } (.ref s.heap.objs.size) "set" := ⟨_, hS, rfl⟩
      have hli := F.called_set.init.lookup
      have hbi := F.called_set.init.bind (.ref s.heap.objs.size)
      repeat (any_goals (first | assumption | wp_step))

      refine codeAny_mono (codeAny_call_builtin (R := wants (fun r s₂ => r = .none ∧ ∃ h' tk L es ep t, s₂ = { s with heap := h', toks := tk } ∧ SetTR P w h' s.heap.objs.size L es ep t ∧ Got ks ks.length L ∧
          (∀ b o, s.heap.get? b = some o → h'.get? b = some o)) E) F.called_set.init.plain F.entry_set_init (check_set_init_1 hT ?_)) fun r₂ s₂ hr₂ => ?_
      · obtain ⟨ol, hol, hcl, nl, hdl⟩ := hl
        obtain ⟨ocls, odict, odata, oslots⟩ := ol
        simp only at hcl hdl
        subst hcl; subst hdl
        have hol' : (s.heap.push { cls := .type "set", dict := none, data := .set #[] 0 (.fresh 0 0 (!w.params.followText "set-order")) }).get? l = some { cls := .type "list", dict := odict, data := .seq items nl, slots := oslots } := Heap.get?_push_of_some _ hol
        have y1 := F.sub_list_set
        have y2 := F.sub_list_frozenset
        have hne : (Value.type "list" == Value.type "dict") = false := by decide
        have hl1 : (s.heap.push { cls := .type "set", dict := none, data := .set #[] 0 (.fresh 0 0 (!w.params.followText "set-order")) }).IsList l items := ⟨_, hol', rfl, nl, rfl⟩
        unfold Builtin.«set.__init__» noKeywords Builtin.Frozenset.updateFrom
        generalize hPI : pyIter = PI
        wp_walk
        subst hPI

        refine wpAny_pyIter_list hl1 ?_
        refine wpAny_bind (wpAny_runValue ?_)
        have lS : l < s.heap.objs.size := Heap.lt_size hol
        have hh3 : A.in1.in1.in1.handled = none := by simp [hh]
        have hz1 : (s.heap.push { cls := .type "set", dict := none, data := .set #[] 0 (.fresh 0 0 (!w.params.followText "set-order")) }).objs.size = s.heap.objs.size + 1 := Heap.size_push ..
        have nI : l ≠ (s.heap.push { cls := .type "set", dict := none, data := .set #[] 0 (.fresh 0 0 (!w.params.followText "set-order")) }).objs.size := by
          rw [Heap.size_push]; exact Nat.ne_of_lt (Nat.lt_succ_of_lt lS)
        have offS : s.heap.objs.size ∉ [(s.heap.push { cls := .type "set", dict := none, data := .set #[] 0 (.fresh 0 0 (!w.params.followText "set-order")) }).objs.size, l] := by
          rw [Heap.size_push]; simp only [List.mem_cons, List.mem_singleton, List.not_mem_nil, or_false, not_or]
          exact ⟨Nat.ne_of_lt (Nat.lt_succ_self _), Nat.ne_of_gt lS⟩
        have hval : ∀ (i : Nat) (v : Value), items[i]? = some v → ∃ p, ks[i]? = some p ∧ v = .ref p.1 := fun i v hv => by
          have q : items.toList[i]? = some v := by rw [Array.getElem?_toList]; exact hv
          rw [hit, List.getElem?_map] at q
          cases hq : ks[i]? with
          | none => rw [hq] at q; cases q
          | some p =>
            rw [hq] at q
            exact ⟨p, rfl, (Option.some.inj q).symm⟩
        have fresh : ∀ b, s.heap.objs.size ≤ b → s.heap.get? b = none := fun b hb => by
          cases q : s.heap.get? b with
          | none => rfl
          | some o => exact absurd (Nat.lt_of_lt_of_le (Heap.lt_size q) hb) (Nat.lt_irrefl _)
        refine st_loop ((Walks.list hh3 _ l nI items).toS) s.heap.objs.size
          offS ks lenI hfew hval s.heap hk (fresh _ (Nat.le_refl _)) (fun b hb => fresh b (by
            rw [List.mem_singleton.mp hb, Heap.size_push]
            exact Nat.le_succ _)) hu (items.size - 0) 0 _ (by omega) (Nat.zero_le _)
          ⟨⟨_, Heap.get?_push_size _ rfl, rfl, rfl⟩, (hl1.push _)⟩ (fun b o e => Heap.get?_push_of_some _ (Heap.get?_push_of_some _ e)) ?hS0 ?hR
        case hS0 =>
          have hget : ((s.heap.push { cls := .type "set", dict := none, data := .set #[] 0 (.fresh 0 0 (!w.params.followText "set-order")) }).push { cls := .type "list_iterator", data := .fields #[.ref l, .int 0 0] }).get? s.heap.objs.size
              = some { cls := .type "set", dict := none, data := .set #[] 0 (.fresh 0 0 (!w.params.followText "set-order")) } := Heap.get?_push_of_some _ hS
          exact ⟨[], #[], 0, _, setTR_fresh hget, Got.zero ks⟩
        case hR =>
          intro s' L es ep t hm hS' g' kp
          obtain ⟨h', g2, d', tk', os'⟩ := s'
          have eg : g2 = s.gens := hm.gens
          have ed : d' = s.drawn := hm.drawn
          have eo : os' = s.os := hm.os
          subst eg; subst ed; subst eo
          show wpAny _ _ _ _ _ _
          refine wpAny_pure ?_
          show wpAny _ _ (ret Value.none) _ _ _
          rw [lenI] at g'
          exact wpAny_pure ⟨rfl, h', tk', L, es, ep, t, rfl, hS', g', kp⟩

      · cases r₂ with
        | error e => exact hr₂
        | ok fl₂ =>
          cases fl₂ with
          | ret r =>
            obtain ⟨rfl, h', tk, L, es, ep, t, rfl, hS', g', hk'⟩ := hr₂
            repeat (any_goals (first | assumption | wp_step))
            exact h _ _ _ _ _ _ hS' g' hk'
          | _ => exact hr₂.elim
    | _ => exact hr.elim

end
section
variable {X : Cx}
def rSetM (K : PySem.W.Frag) (P : Program) (w : World) : List V → Hp → VK → Prop := fun xs H Q => ∃ (l : Addr) (ks : List (Addr × List Int)), xs = [V.ref l] ∧ SqL K H l (ks.map fun p => V.ref p.1) ∧ (∀ p ∈ ks, SqT K H p.1 (p.2.map V.int)) ∧ (∀ M : List (Addr × List Int), (∀ p ∈ M, p ∈ ks) → (M.map (·.2)).Nodup → M.length ≤ 62) ∧
  ∀ a L, H a = none → (∀ p ∈ L, p ∈ ks) → (∀ p ∈ ks, p.2 ∈ L.map (·.2)) → Q (.ref a) (upd H a (SetTO P w a L))
theorem cr_setM (hc : X.calm = true) (hu : X.A.units + 64 < cLine) : CallR X (.type "set") (rSetM X.K X.prog X.w) := by
  intro pins s σ H xs us Q I r h
  obtain ⟨l, ks, rfl, hl, hk, hf, q⟩ := h
  rw [Vals.ref1 r]
  obtain ⟨its, rv, pl, hz⟩ := I.list hl
  have hn : H s.heap.objs.size = none := I.hok.fresh (Nat.le_refl _)
  refine st_call (P := X.prog) (w := X.w) ks (I.ok.hd hc) pl.isList (by simpa using refs_of_vals rv) (fun p hp => L2.Inv.isT I (hk p hp)) hf (by omega) fun h' tk L es ep t R g k => ?_
  refine ⟨.ref s.heap.objs.size, upd H s.heap.objs.size (SetTO X.prog X.w s.heap.objs.size L), I.laid (t' := tk) k (Nat.le_refl _) (setTO_new R.t0), rfl, q _ L hn (fun p hp => ?_) fun p hp => ?_⟩
  · exact List.mem_of_mem_take (g.sub p hp)
  · exact g.all p (by rw [List.take_length]; exact hp)
end
end My

set_option maxHeartbeats 4000000
/-! Sets of sides; what the program's is_orientation answers. -/
namespace My
open PySem PySem.Spec PyProof.Rows L2
theorem pairs_ksO {K : PySem.W.Frag} {H : Hp} : ∀ {ys : List V} {qs : List E2}, PairsAt K H ys qs → ∃ ks : List (Addr × List Int), ys = ks.map (fun p => V.ref p.1) ∧ ks.map (·.2) = qs.map (fun q => [(q.1 : Int), (q.2 : Int)]) ∧ ∀ p ∈ ks, SqT K H p.1 (p.2.map V.int)
  | _, _, .nil => ⟨[], rfl, rfl, fun _ z => nomatch z⟩
  | _, _, .cons a b => by
    obtain ⟨t, rfl, h⟩ := a
    obtain ⟨ks, h1, h2, h3⟩ := pairs_ksO b
    refine ⟨(t, _) :: ks, by rw [h1]; rfl, by rw [List.map_cons, h2]; rfl, ?_⟩
    intro p hp
    rcases List.mem_cons.mp hp with rfl | hp
    · exact h
    · exact h3 p hp
def toEO (ns : List Int) : E2 := ((ns.getD 0 0).toNat, (ns.getD 1 0).toNat)
theorem toEO_of (q : E2) : toEO [(q.1 : Int), (q.2 : Int)] = q := by
  unfold toEO
  simp
theorem ks_pairsO {K : PySem.W.Frag} {H : Hp} : ∀ {L : List (Addr × List Int)}, (∀ p ∈ L, SqT K H p.1 (p.2.map V.int)) → (∀ p ∈ L, p.2 = [((toEO p.2).1 : Int), ((toEO p.2).2 : Int)]) → PairsAt K H (L.map fun q => V.ref q.1) (L.map fun p => toEO p.2)
  | [], _, _ => .nil
  | p :: L, h, b => by
    refine .cons ⟨p.1, rfl, ?_⟩ (ks_pairsO (fun r hr => h r (List.mem_cons_of_mem _ hr)) fun r hr => b r (List.mem_cons_of_mem _ hr))
    have z := h p (List.mem_cons_self ..)
    rw [b p (List.mem_cons_self ..)] at z
    exact z
def leP : List E2 := (List.range 9).flatMap fun a => ((List.range 9).filter fun b => decide (a ≤ b)).map fun b => (a, b)
theorem leP_len : leP.length = 45 := by decide +kernel
theorem mem_leP {q : E2} (h : q.1 ≤ q.2) (h9 : q.2 < 9) : q ∈ leP := by
  unfold leP
  rw [List.mem_flatMap]
  refine ⟨q.1, List.mem_range.mpr (by omega), List.mem_map.mpr ⟨q.2, List.mem_filter.mpr ⟨List.mem_range.mpr h9, by simpa using h⟩, rfl⟩⟩
theorem ks_few {M : List (Addr × List Int)} (nd : (M.map (·.2)).Nodup) (h : ∀ p ∈ M, ∃ q : E2, p.2 = [(q.1 : Int), (q.2 : Int)] ∧ q.1 ≤ q.2 ∧ q.2 < 9) : M.length ≤ 62 := by
  have e : M.map (·.2) = (M.map fun p => toEO p.2).map fun q => [(q.1 : Int), (q.2 : Int)] := by
    rw [List.map_map]
    refine List.map_congr_left fun p hp => ?_
    obtain ⟨q, e, _⟩ := h p hp
    show p.2 = [((toEO p.2).1 : Int), ((toEO p.2).2 : Int)]
    rw [e, toEO_of]
  rw [e] at nd
  have nd2 : (M.map fun p => toEO p.2).Nodup := by
    have z := List.pairwise_map.mp nd
    exact z.imp fun h e => h (by rw [e])
  have z := sub_few nd2 (m := leP) fun q hq => by
    obtain ⟨p, hp, rfl⟩ := List.mem_map.mp hq
    obtain ⟨q, e, h1, h2⟩ := h p hp
    rw [e, toEO_of]
    exact mem_leP h1 h2
  rw [List.length_map, leP_len] at z
  omega
theorem pairsD_eqv : ∀ ws es : List E2, PyData.eqvAll (ws.map pairD) (es.map pairD) = decide (ws = es)
  | [], [] => by simp [PyData.eqvAll]
  | [], _ :: _ => by simp [PyData.eqvAll]
  | _ :: _, [] => by simp [PyData.eqvAll]
  | w :: ws, e :: es => by
    rw [List.map_cons, List.map_cons]
    simp only [PyData.eqvAll]
    rw [pairD_eqv, pairsD_eqv ws es]
    by_cases h : w = e
    · subst h
      simp
    · simp [h]
theorem pairs_shapedO (es : List E2) : SeqAt.shaped (.list (es.map pairD)) = true := by
  have pd := pairsD_depth es
  unfold SeqAt.shaped
  rw [Bool.and_eq_true, decide_eq_true_eq]
  refine ⟨?_, ?_⟩
  · simp only [PyData.canLay0, pairsD_lay es]
  · simp only [PyData.depth]
    omega
theorem vp_edge (n : Int) (s : Sh) : vpB n s = edgeM n n s := by
  cases s with
  | tup ss => rcases ss with _ | ⟨a, _ | ⟨b, _ | ⟨c, t⟩⟩⟩ <;> rfl
  | _ => rfl
theorem vp_pairs {n : Nat} {ss : List Sh} (h : ss.all (vpB (n : Int)) = true) : ∃ ps : List E2, ss = ps.map pairS ∧ ∀ p ∈ ps, p.1 < n ∧ p.2 < n := by
  rw [show vpB (n : Int) = edgeM n n from funext (vp_edge n)] at h
  obtain ⟨ps, e, lt⟩ := edgesM_pairs h
  exact ⟨ps, e, fun p hp => by have := lt p hp; omega⟩
theorem ori_vp {n : Nat} {es : List E2} (g : Good n es) {ss : List Sh} (h : Ori es (.tup ss)) : ss.all (vpB (n : Int)) = true := by
  obtain ⟨ps, e, _, h1, _⟩ := h
  injection e with e
  subst e
  rw [List.all_eq_true]
  intro s hs
  obtain ⟨p, hp, rfl⟩ := List.mem_map.mp hs
  have small : ∀ q : Z2, q ∈ es.map zE → 0 ≤ q.1 ∧ q.1 < n ∧ 0 ≤ q.2 ∧ q.2 < n := fun q hq => by
    obtain ⟨r, hr, rfl⟩ := List.mem_map.mp hq
    have := g.lt r hr
    show (0 : Int) ≤ (r.1 : Int) ∧ (r.1 : Int) < n ∧ (0 : Int) ≤ (r.2 : Int) ∧ (r.2 : Int) < n
    omega
  have b : 0 ≤ p.1 ∧ p.1 < n ∧ 0 ≤ p.2 ∧ p.2 < n := by
    rcases h1 p hp with z | z
    · exact small p z
    · have := small _ z
      exact ⟨this.2.2.1, this.2.2.2, this.1, this.2.1⟩
  show ((decide (p.1 ≥ 0) && decide (p.1 ≤ (n : Int) - 1)) && (decide (p.2 ≥ 0) && decide (p.2 ≤ (n : Int) - 1))) = true
  simp
  omega
end My

set_option maxHeartbeats 4000000
/-! A pair in a list or a tuple of pairs; lots compared to the empty one. -/
namespace My
open PySem PySem.Spec PyProof.Rows L2
def numsD (l : List Nat) : List PyData := l.map fun k => PyData.int ((k : Nat) : Int)
theorem numsD_dp {K : PySem.W.Frag} {H : Hp} : ∀ l : List Nat, DpAll K H (numsN l) (numsD l)
  | [] => .nil
  | a :: r => .cons (.int _) (numsD_dp r)
theorem numsD_lay : ∀ l : List Nat, PyData.canLayAll0 (numsD l) = true ∧ PyData.depthAll (numsD l) ≤ 1
  | [] => by constructor <;> simp [numsD, PyData.canLayAll0, PyData.depthAll]
  | a :: r => by
    obtain ⟨h1, h2⟩ := numsD_lay r
    unfold numsD at h1 h2 ⊢
    rw [List.map_cons]
    constructor
    · simp only [PyData.canLayAll0, PyData.canLay0, h1, Bool.and_true]
    · simp only [PyData.depthAll, PyData.depth]
      omega
theorem numsD_shL (l : List Nat) : SeqAt.shaped (.list (numsD l)) = true := by
  obtain ⟨h1, h2⟩ := numsD_lay l
  unfold SeqAt.shaped
  rw [Bool.and_eq_true, decide_eq_true_eq]
  refine ⟨?_, ?_⟩
  · simp only [PyData.canLay0, h1]
  · simp only [PyData.depth]
    omega
theorem numsD_shT (l : List Nat) : SeqAt.shaped (.tuple (numsD l)) = true := by
  obtain ⟨h1, h2⟩ := numsD_lay l
  unfold SeqAt.shaped
  rw [Bool.and_eq_true, decide_eq_true_eq]
  refine ⟨?_, ?_⟩
  · simp only [PyData.canLay0, h1]
  · simp only [PyData.depth]
    omega
theorem numsD_nilL (l : List Nat) : PyData.eqv (.list (numsD l)) (.list (numsD [])) = l.isEmpty := by
  cases l with
  | nil => simp [numsD, PyData.eqv, PyData.eqvAll]
  | cons a r => simp [numsD, PyData.eqv, PyData.eqvAll]
theorem numsD_nilT (l : List Nat) : PyData.eqv (.tuple (numsD l)) (.tuple (numsD [])) = l.isEmpty := by
  cases l with
  | nil => simp [numsD, PyData.eqv, PyData.eqvAll]
  | cons a r => simp [numsD, PyData.eqv, PyData.eqvAll]
section
variable {X : Cx}
def rInPL (K : PySem.W.Frag) : R2 := fun x y H Q => ∃ (p : E2) (t : Addr) (xs : List V) (es : List E2), PairAt K H x p ∧ y = .ref t ∧ (SqL K H t xs ∨ SqT K H t xs) ∧ PairsAt K H xs es ∧ Q (.bl (decide (p ∈ es))) H
theorem op_inPL (hu : X.A.units + 64 < cLine) : OpR X (compareOp .In) (rInPL X.K) := by
  rintro pins s σ H x y v u Q I rx ry ⟨p, t, xs, es, hp, rfl, ht, hes, q⟩
  rcases ht with ht | ht
  · obtain ⟨as, r1⟩ := Dp.reads I _ x v hp.dp rx
    obtain ⟨bs, r2⟩ := Dp.reads I (.list (es.map pairD)) (.ref t) u (.lst ht hes.dp) ry
    refine SeqAt.in_list_reads r2 r1 (pairsD_lay es) (pairD_lay p) ?_ ?_
    · have := pairD_depth p
      have := Nat.min_le_right (PyData.depthAll (es.map pairD)) (pairD p).depth
      omega
    · rw [any_pairs]
      exact ⟨.bl _, H, I, rfl, q⟩
  · exact op_inP hu pins s σ H x _ v u Q I rx ry ⟨p, t, xs, es, hp, rfl, ht, hes, q⟩
end
end My
namespace My
open PySem PySem.Spec PyProof.Rows L2
theorem pairs_ksT {H : Hp} : ∀ {ys : List V} {qs : List E2}, PairsT H ys qs → ∃ ks : List (Addr × List Int), ys = ks.map (fun p => V.ref p.1) ∧ ks.map (·.2) = qs.map (fun q => [(q.1 : Int), (q.2 : Int)]) ∧ ∀ p ∈ ks, H p.1 = some (.tup (p.2.map V.int))
  | _, _, .nil => ⟨[], rfl, rfl, fun _ z => nomatch z⟩
  | _, _, .cons a b => by
    obtain ⟨t, rfl, h⟩ := a
    obtain ⟨ks, h1, h2, h3⟩ := pairs_ksT b
    refine ⟨(t, _) :: ks, by rw [h1]; rfl, by rw [List.map_cons, h2]; rfl, ?_⟩
    intro p hp
    rcases List.mem_cons.mp hp with rfl | hp
    · exact h
    · exact h3 p hp
theorem ks_pairsT {H : Hp} : ∀ {L : List (Addr × List Int)}, (∀ p ∈ L, H p.1 = some (.tup (p.2.map V.int))) → (∀ p ∈ L, p.2 = [((toEO p.2).1 : Int), ((toEO p.2).2 : Int)]) → PairsT H (L.map fun q => V.ref q.1) (L.map fun p => toEO p.2)
  | [], _, _ => .nil
  | p :: L, h, b => by
    refine .cons ⟨p.1, rfl, ?_⟩ (ks_pairsT (fun r hr => h r (List.mem_cons_of_mem _ hr)) fun r hr => b r (List.mem_cons_of_mem _ hr))
    have z := h p (List.mem_cons_self ..)
    rw [b p (List.mem_cons_self ..)] at z
    exact z
def lotsD (L : List (List Nat)) : List PyData := L.map fun l => .tuple (numsD l)
theorem lotsD_lay : ∀ L : List (List Nat), PyData.canLayAll0 (lotsD L) = true ∧ PyData.depthAll (lotsD L) ≤ 3
  | [] => by constructor <;> simp [lotsD, PyData.canLayAll0, PyData.depthAll]
  | l :: r => by
    obtain ⟨h1, h2⟩ := lotsD_lay r
    obtain ⟨g1, g2⟩ := numsD_lay l
    unfold lotsD at h1 h2 ⊢
    rw [List.map_cons]
    constructor
    · simp only [PyData.canLayAll0, PyData.canLay0, h1, g1, Bool.and_true]
    · simp only [PyData.depthAll, PyData.depth]
      omega
theorem lotsD_sh (L : List (List Nat)) : SeqAt.shaped (.list (lotsD L)) = true := by
  obtain ⟨h1, h2⟩ := lotsD_lay L
  unfold SeqAt.shaped
  rw [Bool.and_eq_true, decide_eq_true_eq]
  refine ⟨?_, ?_⟩
  · simp only [PyData.canLay0, h1]
  · simp only [PyData.depth]
    omega
theorem lotsD_nil (L : List (List Nat)) : PyData.eqv (.list (lotsD L)) (.list (lotsD [])) = L.isEmpty := by
  cases L with
  | nil => simp [lotsD, PyData.eqv, PyData.eqvAll]
  | cons a r => simp [lotsD, PyData.eqv, PyData.eqvAll]
end My
namespace My
open PySem PySem.Spec PyProof.Rows L2
section
variable {X : Cx}
def rListRng2 : List V → Hp → VK → Prop := fun vs H Q => ∃ (a : Addr) (lo n : Nat), vs = [V.ref a] ∧ H a = some (.rng (lo : Int) ((lo + n : Nat) : Int)) ∧ n ≤ 1000 ∧ lo ≤ 1000 ∧ ∀ p, H p = none → Q (.ref p) (upd H p (.lst (numsN ((List.range n).map (lo + ·)))))
theorem call_listRng2 (hc : X.calm = true) : CallR X (.type "list") rListRng2 := by
  intro pins s σ H vs us Q I r h
  obtain ⟨a, lo, n, rfl, ha, hn, hlo, q⟩ := h
  obtain ⟨u1, rfl, ru⟩ := vals1 r
  obtain rfl : u1 = Value.ref a := ru
  obtain ⟨t1, t2, t3, ho⟩ := I.hok a _ ha
  refine call_list_range (I.ok.hd hc) (n := n) ho (small_one (by omega) (by omega) (by omega) (by omega)) (by rw [rangeSize_one]; split <;> omega) (by omega) fun h' tk acc c' hk e' hi => ?_
  refine ⟨.ref s.heap.objs.size, upd H s.heap.objs.size (.lst (numsN ((List.range n).map (lo + ·)))), I.laid hk (Nat.le_refl _) (show ObjOk X.prog X.w _ _ _ (.lst (numsN ((List.range n).map (lo + ·)))) from ⟨?_, acc.toList, c', ?_, ?_⟩), rfl, q _ (I.hok.fresh (Nat.le_refl _))⟩
  · rw [numsN_len, List.length_map, List.length_range]; exact small hn
  · have la : acc.toList.length = n := by rw [Array.length_toList]; exact hi.1
    have es : numsN ((List.range n).map (lo + ·)) = (List.range acc.toList.length).map fun i => V.int (((lo + i : Nat)) : Int) := by
      rw [la]
      unfold numsN
      rw [List.map_map]
      rfl
    rw [es]
    refine vals_of_get acc.toList _ fun j u hj => ?_
    obtain ⟨t, rfl⟩ := hi.2 j u (by rw [← hj, Array.getElem?_toList])
    refine ⟨t, ?_⟩
    rw [Int.mul_one]
    congr 1
  · rw [Array.toArray_toList]
    exact e'
end
end My

set_option maxHeartbeats 8000000
namespace My
open PySem PySem.Spec PyProof.Rows L2 RZ
abbrev sLProp : Stmt := top 59
theorem scLProp : FnScope ["multi", "value", "most", "one", "each", "two"] ["multi", "value", "most"] (defScope sLProp) := ⟨rfl, rfl, rfl, by decide +kernel, rfl, by decide +kernel, by decide +kernel⟩
def nthZ (ss : List Sh) (k : Nat) : Int := intS (ss.getD k (.int 0))
def hitB (es : List E2) (ss : List Sh) (one two : Nat) : Bool := (nthZ ss one == nthZ ss two) && (decide (one ≠ two) && meetB es one two)
def propB (m : Int) (es : List E2) : Sh → Bool
  | .tup ss => decide (ss.length = es.length) && (ss.all (wholeR 0 (m - 1)) && (List.range ss.length).all fun one => ((List.range one).filter (hitB es ss one)).isEmpty)
  | _ => false
def spLProp (K : PySem.W.Frag) : Sp := fun vs H Q _ => ∃ (x v : V) (l r : Nat) (es : List E2) (s : Sh) (m : Int), vs = [x, v, .int m] ∧ MulAt K H x l r es ∧ es.length ≤ 9 ∧ ShAt K H v s ∧ ∀ H', Same H H' → Q (.bl (propB m es s)) H'
section
variable {P : Program} {w : World} {K : PySem.W.Frag} {mg : Str → Option Value} {base : Heap} {f fW fN fP : Addr} {fd dW dN dP : FuncData}
theorem ok_lprop (F : L2.Fun K "_law_is_proper" "_law_is_proper" sLProp f fd) (GW : FnOk P w K mg base CX0 1 fW dW ["value"] (spLWh K)) (bW : L2.Binds K dW ["value"] []) (kW : PySem.W.keepIn K (.ref fW) = true) (mW : mg "_law_is_whole" = some (.ref fW))
    (GN : FnOk P w K mg base CX0 1 fN dN ["multi", "one", "two"] (spNear K)) (bN : L2.Binds K dN ["multi", "one", "two"] []) (kN : PySem.W.keepIn K (.ref fN) = true) (mN : mg "_law_near" = some (.ref fN))
    (mi : mg "isinstance" = none) (mt : mg "tuple" = none) (ml : mg "len" = none) (mr : mg "range" = none) (ma : mg "all" = none) : FnOk P w K mg base CX0 2 f fd ["multi", "value", "most"] (spLProp K) := by
  refine F.ok scLProp (fun vs H Q E h => ?_) (fun cdv A outer s0 H vs Q E hr h => ?_)
  · obtain ⟨x, v, l, r, es, s, m, rfl, _⟩ := h
    rfl
  obtain ⟨x, v, l, r, es, s, m, rfl, hx, e9, hv, q⟩ := h
  refine ⟨_, pss_cons (ps_if (PW.pt (pw_or (pt_not (pt_val (pe_callB call_isi (by rfl) mi (by decide +kernel) (pa_cons (pv 1) (pa_cons (pe_bltn (v := .ty "tuple") (by rfl) mt (by decide +kernel) rfl) pa_nil)))))
        (pw_or1 (pt_cmpR op_ne (pe_callB call_len_seq (by rfl) ml PySem.boot_len (pa_cons (pv 1) pa_nil)) (pe_callB call_len_seq (by rfl) ml PySem.boot_len (pa_cons (pe_ix (r := rIxT K) ix_tup (pv 0) pe_int (fun _ _ => rfl)) pa_nil)) (nomark _))))) (pss_one (ps_ret pe_bl)) pss_nil)
    (pss_cons (ps_if (pt_not (pt_val (pe_callB (cr_all rfl) (by rfl) ma (by decide +kernel) (pa_cons (pe_lc (own := [("each", 4)]) (g := gName 4) (tt := tYes) rfl scLProp.nd (pi_tup (pv 1))
          (blkOk_by (N := ["multi", "value", "most", "one", "each", "two"]) (sc := defScope sLProp) (by decide +kernel)) (fun _ _ _ _ _ => pg_name (i := 4) scLProp.nd rfl (Or.inl rfl)) (fun _ _ _ _ _ => pts_nil)
          (fun _ _ _ _ _ => pe_and (pe_call GW hr (by rfl) mW kW bW .nil pass0 (pa_cons (pv 4) pa_nil)) (pe_one (pe_chain op_le op_lt pe_int (pv 4) (pv 2))))) pa_nil)))) (pss_one (ps_ret pe_bl)) pss_nil)
    (pss_cons (ps_for PassesOwn.never rfl (pi_range1 rfl mr (pa_cons (pe_callB call_len_seq (by rfl) ml PySem.boot_len (pa_cons (pv 1) pa_nil)) pa_nil)) (pg_name (i := 3) scLProp.nd rfl (.inr rfl))
      (pss_one (ps_if (pt_cmpR (op_neD hr.units) (pe_lc (own := [("two", 5)]) (g := gName 5) (tt := tAnd (tTest (tOp rEq (tOp (rIxT K) (tVar 1) (tVar 3)) (tOp (rIxT K) (tVar 1) (tVar 5)))) (tB (tCall (spNear K) [] E0 (tCons (tVar 0) (tCons (tVar 3) (tCons (tVar 5) tNil)))))) rfl scLProp.nd (pi_range1 rfl mr (pa_cons (pv 3) pa_nil))
          (blkOk_by (N := ["multi", "value", "most", "one", "each", "two"]) (sc := defScope sLProp) (by decide +kernel)) (fun _ _ _ _ _ => pg_name (i := 5) scLProp.nd rfl (Or.inl rfl))
          (fun _ _ _ _ _ => pts_one (PW.pt (pw_and (pt_cmpR op_eq (pe_ix (r := rIxT K) ix_tup (pv 1) (pv 3) (fun _ _ => rfl)) (pe_ix (r := rIxT K) ix_tup (pv 1) (pv 5) (fun _ _ => rfl)) (nomark _)) (pw_and1 (pt_val (pe_call GN hr (by rfl) mN kN bN .nil pass0 (pa_cons (pv 0) (pa_cons (pv 3) (pa_cons (pv 5) pa_nil)))))))))
          (fun _ _ _ _ _ => pv 5)) (pe_lst pa_nil) (nomark _)) (pss_one (ps_ret pe_bl)) pss_nil)))
    (pss_one (ps_ret pe_bl)))), ?_⟩
  have hx0 := hx
  obtain ⟨t, e, ys, rfl, ht, he, hes⟩ := hx
  have le := PairsAt.len hes
  have a2 : atI [V.int (l : Int), V.int (r : Int), V.ref e] 2 = some (.ref e) := atI_nat (j := 2) rfl
  have qn : ∀ H', Same H H' → propB m es s = false → Q (.bl false) H' := fun H' s' c => by
    have := q H' s'
    rw [c] at this
    exact this
  obtain ⟨tt, tx, k1, _, _⟩ := isi_of hv
  refine ⟨_, rfl, v, .ty "tuple", tt, .type "tuple", isTup s, rfl, .ty _, tx, k1, _, rfl, ?_⟩
  refine iteB (fun c0 => iteT (qn H (Same.refl H) ?_)) (fun c0 => ?_)
  · cases s with
    | tup ss => cases c0
    | _ => rfl
  obtain ⟨ss, rfl⟩ : ∃ ss, s = .tup ss := by
    cases s with
    | tup ss => exact ⟨ss, rfl⟩
    | _ => cases c0
  clear c0
  cases hv with
  | @tup u xs _ hu r' =>
  have lx := r'.len
  refine ⟨_, rfl, u, xs, rfl, .inr hu, _, rfl, t, _, 2, _, rfl, rfl, ht, a2, e, ys, rfl, .inr he, rfl, _, rfl, ?_⟩
  have ev : (!decide (V.int ((xs.length : Nat) : Int) = V.int ((ys.length : Nat) : Int))) = !decide (ss.length = es.length) := by
    rw [lx, le]
    congr 1
    by_cases h : ss.length = es.length
    · rw [h, decide_eq_true rfl, decide_eq_true rfl]
    · rw [decide_eq_false h, decide_eq_false (fun z => h (by injection z with z; exact Int.ofNat.inj z))]
  rw [ev]
  refine iteB (fun c1 => qn H (Same.refl H) ?_) (fun c1 => ?_)
  · have c2 : decide (ss.length = es.length) = false := by simpa using c1
    show (decide (ss.length = es.length) && _) = false
    rw [c2, Bool.false_and]
  have c2 : ss.length = es.length := by simpa using c1
  have eq0 : propB m es (.tup ss) = (ss.all (wholeR 0 (m - 1)) && (List.range ss.length).all fun one => ((List.range one).filter (hitB es ss one)).isEmpty) := by
    show (decide (ss.length = es.length) && _) = _
    rw [decide_eq_true c2, Bool.true_and]
  refine ⟨_, rfl, u, rfl, ⟨_, hu⟩, fun D nD => lo_it (walk_tup (xs := xs)) (fun i H2 => Same H H2 ∧ H2 D = some (.lst (((ss.take i).map (wholeR 0 (m - 1))).map V.bl))) ⟨same_new nD _, upd_same⟩ (fun i H2 _ ⟨s2, _⟩ => Same.tup s2 hu) ?_ ?_⟩
  · rintro i y _ H2 li ⟨s2, hD⟩ ⟨rfl, hy⟩
    obtain ⟨z, hz, st⟩ := (r'.same s2).get hy
    have fin : ∀ b, b = wholeR 0 (m - 1) z → Same H (upd H2 D (.lst (((ss.take i).map (wholeR 0 (m - 1))).map V.bl ++ [.bl b]))) ∧ upd H2 D (.lst (((ss.take i).map (wholeR 0 (m - 1))).map V.bl ++ [.bl b])) D = some (.lst (((ss.take (i + 1)).map (wholeR 0 (m - 1))).map V.bl)) := fun b e => by
      refine ⟨same_put s2 nD, ?_⟩
      rw [upd_same, push_bl hz, e]
    have ln : (((ss.take i).map (wholeR 0 (m - 1))).map V.bl).length < sizeLine := small1000 (by rw [List.length_map, List.length_map, List.length_take]; omega)
    refine ⟨rfl, ?_⟩
    refine ⟨_, rfl, y, z, rfl, st, _, rfl, iteB (fun c1 => ?_) (fun c1 => ⟨_, hD, ln, fin _ ?_⟩)⟩
    rotate_left 1
    · cases z with
      | int i => cases c1
      | _ => rfl
    obtain ⟨k, rfl⟩ : ∃ k, z = .int k := by
      cases z with
      | int k => exact ⟨k, rfl⟩
      | _ => cases c1
    cases st
    have wl := wholeR_lt m k
    refine ⟨_, rfl, _, _, rfl, rfl, _, rfl, iteB (fun c2 => ?_) (fun c2 => ⟨_, hD, ln, fin _ ?_⟩)⟩
    rotate_left 1
    · rw [wl, c2]
      rfl
    refine ⟨_, rfl, _, _, rfl, rfl, _, hD, ln, fin _ ?_⟩
    rw [wl, c2, Bool.true_and]
  rintro H2 ⟨s2, hD⟩
  rw [lx, List.take_length] at hD
  refine ⟨D, _, rfl, SqL.of hD, _, rfl, ?_⟩
  rw [all_id]
  refine iteB (fun c1 => qn H2 s2 ?_) (fun c1 => ?_)
  · have c2 : ss.all (wholeR 0 (m - 1)) = false := by simpa using c1
    rw [eq0, c2, Bool.false_and]
  have al : ss.all (wholeR 0 (m - 1)) = true := by simpa using c1
  have num : ∀ t ∈ ss, ∃ k, t = .int k := fun t ht => by
    have := List.all_eq_true.mp al t ht
    cases t with
    | int k => exact ⟨k, rfl⟩
    | _ => cases this
  rw [eq0, al, Bool.true_and] at q
  rw [eq0, al, Bool.true_and] at qn
  clear hD nD D c1
  have hu2 := Same.tup s2 hu
  have r2 := r'.same s2
  have gx : ∀ k, k < ss.length → xs[k]? = some (.int (nthZ ss k)) := fun k hk => by
    have hk' : k < xs.length := by omega
    obtain ⟨t1, h1, r1⟩ := r2.get (List.getElem?_eq_getElem hk')
    obtain ⟨a, rfl⟩ := num t1 (List.mem_of_getElem? h1)
    have e1 : nthZ ss k = a := by
      unfold nthZ
      rw [List.getD_eq_getElem?_getD, h1]
      rfl
    rw [List.getElem?_eq_getElem hk', e1]
    generalize xs[k] = y1 at r1
    cases r1
    rfl
  refine ⟨_, rfl, u, xs, rfl, .inr hu2, _, rfl, by omega, by omega, for_range (lo := 0) (n := ((xs.length : Nat) : Int).toNat) (fun i σ H' => ∃ (s3 : Option V), σ = [some (.ref t), some (.ref u), some (.int m), s3, none, none] ∧ Same H2 H' ∧ ∀ k, k < i → ((List.range k).filter (hitB es ss k)).isEmpty = true) ⟨none, rfl, Same.refl _, fun _ z => absurd z (Nat.not_lt_zero _)⟩ ?_ ?_⟩
  · rintro k σ H3 lk ⟨s3', rfl, s3, no⟩
    rw [Int.zero_add]
    rw [Int.toNat_natCast] at lk
    have s03 := s2.trans s3
    have hu3 := Same.tup s03 hu
    refine ⟨_, rfl, (k : Int), rfl, by omega, by omega, fun D nD => lo_it (walk_range (lo := 0) (n := ((k : Nat) : Int).toNat)) (fun j H4 => Same H3 H4 ∧ H4 D = some (.lst (numsN ((List.range j).filter (hitB es ss k))))) ⟨same_new nD _, upd_same⟩ (fun _ _ _ _ => trivial) ?_ ?_⟩
    · rintro j y _ H4 lj ⟨s4, hD⟩ ⟨rfl, ex⟩
      obtain rfl : y = V.int ((j : Nat) : Int) := ex.trans (congrArg V.int (Int.zero_add _))
      rw [Int.toNat_natCast] at lj
      have s04 := s03.trans s4
      have hu4 := Same.tup s04 hu
      have few : ((List.range j).filter (hitB es ss k)).length ≤ 9 := by
        refine Nat.le_trans (List.length_filter_le _ _) ?_
        rw [List.length_range]
        omega
      have ev2 : decide (V.int (nthZ ss k) = V.int (nthZ ss j)) = (nthZ ss k == nthZ ss j) := by
        by_cases h : nthZ ss k = nthZ ss j
        · rw [h]
          simp
        · rw [decide_eq_false (fun z => h (by injection z))]
          exact (beq_eq_false_iff_ne.mpr h).symm
      have stop : hitB es ss k j = false → Same H3 H4 ∧ H4 D = some (.lst (numsN ((List.range (j + 1)).filter (hitB es ss k)))) := fun c => by
        refine ⟨s4, ?_⟩
        rw [hD, List.range_succ, List.filter_append, List.filter_cons_of_neg (by rw [c]; decide), List.filter_nil, List.append_nil]
      refine ⟨rfl, ?_⟩
      refine ⟨_, rfl, _, rfl, u, xs, _, _, rfl, rfl, hu4, atI_nat (gx k (by omega)), _, rfl, _, rfl, u, xs, _, _, rfl, rfl, hu4, atI_nat (gx j (by omega)), rfl, _, rfl, ?_⟩
      rw [ev2]
      refine iteB (fun c3 => ?_) (fun c3 => iteF (stop ?_))
      rotate_left 1
      · unfold hitB
        rw [c3, Bool.false_and]
      refine ⟨_, rfl, _, rfl, _, rfl, .ref t, l, r, es, k, j, rfl, hx0.same s04, by omega, by omega, _, rfl, iteB (fun c4 => ?_) (fun c4 => stop ?_)⟩
      rotate_left 1
      · unfold hitB
        rw [c4, Bool.and_false]
      refine ⟨_, rfl, _, hD, small1000 (by rw [numsN_len]; omega), same_put s4 nD, ?_⟩
      have hit : hitB es ss k j = true := by
        unfold hitB
        rw [c3, c4]
        rfl
      rw [upd_same, List.range_succ, List.filter_append, List.filter_cons_of_pos hit, numsN_app]
      rfl
    rintro H4 ⟨s4, hD⟩
    rw [Int.toNat_natCast] at hD
    refine ⟨small (by show 0 ≤ 1000; decide), fun e5 ne5 => ?_⟩
    have se := same_new ne5 (.lst [])
    refine ⟨.list (numsD ((List.range k).filter (hitB es ss k))), .list (numsD []), .lst (SqL.of (se _ _ hD)) (numsD_dp _), .lst (SqL.of upd_same) (numsD_dp []), numsD_shL _, numsD_shL [], _, rfl, ?_⟩
    rw [numsD_nilL]
    refine iteB (fun c3 => qn _ (s03.trans (s4.trans se)) ?_) (fun c3 => ⟨_, rfl, s3.trans (s4.trans se), fun k' hk' => ?_⟩)
    · cases e6 : ((List.range ss.length).all fun one => ((List.range one).filter (hitB es ss one)).isEmpty) with
      | false => rfl
      | true =>
        have := List.all_eq_true.mp e6 k (List.mem_range.mpr (by omega))
        rw [this] at c3
        cases c3
    · rcases Nat.lt_or_ge k' k with z | z
      · exact no k' z
      · have : k' = k := by omega
        subst this
        simpa using c3
  · rintro σ H3 ⟨s3', rfl, s3, no⟩
    rw [Int.toNat_natCast, lx] at no
    have yes : ((List.range ss.length).all fun one => ((List.range one).filter (hitB es ss one)).isEmpty) = true := by
      rw [List.all_eq_true]
      exact fun k hk => no k (List.mem_range.mp hk)
    rw [yes] at q
    exact q H3 (s2.trans s3)
end
section
variable {P : Program} {w : World} {K : PySem.W.Frag} {mg : Str → Option Value} {base : Heap} {f fW fN fP : Addr} {fd dW dN dP : FuncData}
end
end My

set_option maxHeartbeats 8000000
namespace My
open PySem PySem.Spec PyProof.Rows L2
abbrev sTable : Stmt := top 48
abbrev sOfT : Stmt := top 49
theorem scTable : FnScope ["graph", "rows", "one", "two", "each"] ["graph"] (defScope sTable) := ⟨rfl, rfl, rfl, by decide +kernel, rfl, by decide +kernel, by decide +kernel⟩
theorem scOfT : FnScope ["rows", "found", "one", "two"] ["rows"] (defScope sOfT) := ⟨rfl, rfl, rfl, by decide +kernel, rfl, by decide +kernel, by decide +kernel⟩
def spTable (K : PySem.W.Frag) : Sp := fun vs H Q _ => ∃ (x : V) (n : Nat) (es : List E2), vs = [x] ∧ GraphAt K H x n es ∧ Good n es ∧ ∀ (D : Addr) (rs : List Addr) H', Same H H' → H D = none → TabR H' D n (adjB es) rs → Q (.ref D) H'
def spOfT : Sp := fun vs H Q _ => ∃ (D : Addr) (n : Nat) (f : Nat → Nat → Bool) (rs : List Addr), vs = [.ref D] ∧ TabR H D n f rs ∧ n ≤ 9 ∧ ∀ y H', Same H H' → GraphT H' y n (tabP n f) → Q y H'
section
variable {P : Program} {w : World} {K : PySem.W.Frag} {mg : Str → Option Value} {base : Heap} {f fD : Addr} {fd dD : FuncData}
theorem ok_table (F : L2.Fun K "_law_table" "_law_table" sTable f fd) (mr : mg "range" = none) : FnOk P w K mg base CX0 1 f fd ["graph"] (spTable K) := by
  refine F.ok scTable (fun vs H Q E h => ?_) (fun cdv A outer s H vs Q E hr h => ?_)
  · obtain ⟨x, n, es, rfl, _⟩ := h
    rfl
  obtain ⟨x, n, es, rfl, ⟨t, e, xs, rfl, ht, he, hes⟩, g, q⟩ := h
  refine ⟨_, pss_cons (ps_setLc (i := 1) (own := [("each", 4)]) (g := gName 4) (tt := tYes) rfl scTable.nd rfl rfl (sw_true rfl rfl rfl (by decide +kernel)) (pi_range1 rfl mr (pa_cons (pe_ix (r := rIxT K) ix_tup (pv 0) pe_int (fun _ _ => rfl)) pa_nil))
        (blkOk_by (N := ["graph", "rows", "one", "two", "each"]) (sc := defScope sTable) (by decide +kernel)) (fun _ _ _ _ _ => pg_name (i := 4) scTable.nd rfl (Or.inl rfl)) (fun _ _ _ _ _ => pts_nil)
        (fun _ _ _ _ _ => pe_op (r := rRep) op_rep (pe_lst (pa_cons pe_bl pa_nil)) (pe_ix (r := rIxT K) ix_tup (pv 0) pe_int (fun _ _ => rfl))))
    (pss_cons (ps_for PassesOwn.never rfl (pi_tup (pe_ix (r := rIxT K) ix_tup (pv 0) pe_int (fun _ _ => rfl))) (pg_tup (by rfl) (pgs_cons (pg_name (i := 2) scTable.nd rfl (.inl rfl)) (pgs_cons (pg_name (i := 3) scTable.nd rfl (.inl rfl)) pgs_nil)))
      (pss_cons (ps_asg pe_bl (pg_sub (pe_ix (r := rIxL K) ix_list (pv 1) (pv 2) (fun _ _ => rfl)) (pv 3) set_list))
      (pss_one (ps_asg pe_bl (pg_sub (pe_ix (r := rIxL K) ix_list (pv 1) (pv 3) (fun _ _ => rfl)) (pv 2) set_list)))))
    (pss_one (ps_ret (pv 1)))), ?_⟩
  have n9 := g.n9
  have few := g.few
  have le := PairsAt.len hes
  have a0 : atI [V.int (n : Int), V.ref e] 0 = some (.int (n : Int)) := atI_nat (j := 0) rfl
  have a1 : atI [V.int (n : Int), V.ref e] 1 = some (.ref e) := atI_nat (j := 1) rfl
  refine ⟨_, rfl, t, _, 0, _, rfl, rfl, ht, a0, (n : Int), rfl, by omega, by omega, fun D nD => lc_range (lo := 0) (n := ((n : Nat) : Int).toNat) (fun i H2 => Same H H2 ∧ ∃ rs : List Addr, rs.length = i ∧ H2 D = some (.lst (rs.map V.ref)) ∧ rs.Nodup ∧ ∀ r ∈ rs, r ≠ D ∧ H r = none ∧ H2 r = some (.lst (rowV n fun _ => false))) ⟨same_new nD _, [], rfl, upd_same, List.nodup_nil, fun _ z => nomatch z⟩ ?_ ?_⟩
  · rintro i H2 li ⟨s2, rs, lr, hD, nd, hrs⟩
    refine ⟨rfl, ?_⟩
    refine ⟨small (by decide), fun Z nZ => ?_⟩
    have sZ := same_new nZ (.lst [V.bl false])
    have hZ := upd_same (H := H2) (a := Z) (o := .lst [V.bl false])
    generalize upd H2 Z (.lst [V.bl false]) = H3 at sZ hZ ⊢
    refine ⟨_, rfl, t, _, 0, _, rfl, rfl, Same.tup (s2.trans sZ) ht, a0, Z, (n : Int), [V.bl false], rfl, rfl, hZ, by omega, by omega, small (by rw [Int.toNat_natCast, List.length_singleton]; omega), fun F nF => ?_⟩
    have e0 : (List.replicate ((n : Nat) : Int).toNat [V.bl false]).flatten = rowV n fun _ => false := by
      rw [Int.toNat_natCast, List.flatten_replicate_singleton]
      unfold rowV
      rw [List.map_const', List.length_range]
    rw [e0]
    have sF := same_new nF (.lst (rowV n fun _ => false))
    have hF := upd_same (H := H3) (a := F) (o := .lst (rowV n fun _ => false))
    have nF2 : H2 F = none := sZ.free nF
    have nF0 : H F = none := s2.free nF2
    have FD : F ≠ D := fun z => by rw [z, hD] at nF2; cases nF2
    generalize upd H3 F (.lst (rowV n fun _ => false)) = H4 at sF hF ⊢
    have s24 := sZ.trans sF
    refine ⟨_, s24 _ _ hD, small1000 (by rw [List.length_map]; omega), same_put (s2.trans s24) nD, rs ++ [F], by rw [List.length_append, lr]; rfl, by rw [upd_same, List.map_append]; rfl, ?_, fun r hr => ?_⟩
    · rw [List.nodup_append]
      refine ⟨nd, by simp, fun a ha b hb z => ?_⟩
      rw [List.mem_singleton.mp hb] at z
      have := (hrs a ha).2.2
      rw [z, nF2] at this
      cases this
    · rcases List.mem_append.mp hr with hr | hr
      · obtain ⟨h1, h2, h3⟩ := hrs r hr
        exact ⟨h1, h2, by rw [upd_ne h1]; exact s24 _ _ h3⟩
      · rw [List.mem_singleton.mp hr]
        exact ⟨FD, nF0, by rw [upd_ne FD]; exact hF⟩
  rintro H1 ⟨s1, rs, lr, hD, nd, hrs⟩
  rw [show ((n : Nat) : Int).toNat = n by omega] at lr
  have T0 : TabR H1 D n (adjB []) rs := ⟨hD, lr, fun i r hi => by
    rw [(hrs r (List.mem_of_getElem? hi)).2.2, rowV_congr fun j _ => adj_nil i j]⟩
  have off : ∀ r ∈ rs, r ≠ D ∧ H r = none := fun r hr => ⟨(hrs r hr).1, (hrs r hr).2.1⟩
  -- setting one place
  have put : ∀ (H2 : Hp) (ff : Nat → Nat → Bool) (a b : Nat) (r : Addr), Same H H2 → TabR H2 D n ff rs → rs[a]? = some r → Same H (upd H2 r (.lst (rowV n fun k => if k = b then true else ff a k))) ∧ TabR (upd H2 r (.lst (rowV n fun k => if k = b then true else ff a k))) D n (fun i j => if i = a ∧ j = b then true else ff i j) rs := fun H2 ff a b r s2 T ha => by
    have ma := List.mem_of_getElem? ha
    refine ⟨same_put s2 (off r ma).2, by rw [upd_ne (Ne.symm (off r ma).1)]; exact T.hd, T.len, fun i q hi => ?_⟩
    by_cases c : i = a
    · subst c
      rw [ha] at hi
      cases hi
      rw [upd_same]
      congr 2
      exact rowV_congr fun j _ => by simp
    · have qr : q ≠ r := fun z => by
        subst z
        obtain ⟨l1, e1⟩ := List.getElem?_eq_some_iff.mp hi
        obtain ⟨l2, e2⟩ := List.getElem?_eq_some_iff.mp ha
        rcases Nat.lt_or_gt_of_ne c with h | h
        · exact List.pairwise_iff_getElem.mp nd i a l1 l2 h (e1.trans e2.symm)
        · exact List.pairwise_iff_getElem.mp nd a i l2 l1 h (e2.trans e1.symm)
      rw [upd_ne qr, T.row i q hi]
      congr 2
      exact rowV_congr fun j _ => by simp [c]
  refine ⟨_, rfl, t, _, 1, _, rfl, rfl, Same.tup s1 ht, a1, e, rfl, ⟨_, Same.tup s1 he⟩, for_it (walk_tup (xs := xs)) (fun i σ H' => ∃ (s2 s3 : Option V), σ = [some (.ref t), some (.ref D), s2, s3, none] ∧ Same H H' ∧ TabR H' D n (adjB (es.take i)) rs) ⟨none, none, rfl, s1, T0⟩ (fun i σ H' _ ⟨_, _, _, s, _⟩ => Same.tup s he) ?_ ?_⟩
  · rintro i x σ H2 H3 li ⟨s2', s3', rfl, s2, T⟩ ⟨rfl, hi⟩
    obtain ⟨p, hp, u, rfl, hu⟩ := PairsAt.get (hes.same s2) hi
    obtain ⟨l1, l2⟩ := g.lt p (List.mem_of_getElem? hp)
    obtain ⟨r1, hr1, hv1, row1⟩ := T.get (show p.1 < n by omega)
    refine ⟨u, _, rfl, hu, rfl, _, _, rfl, _, _, rfl, rfl, ?_⟩
    refine ⟨_, rfl, _, rfl, D, _, _, _, rfl, rfl, SqL.of T.hd, atI_nat hv1, _, rfl, r1, _, _, p.2, rfl, rfl, row1, by rw [rowV_len]; exact ixN_of l2, ?_⟩
    rw [rowV_set]
    obtain ⟨s4, T4⟩ := put H3 _ p.1 p.2 r1 s2 T hr1
    generalize upd H3 r1 (.lst (rowV n fun k => if k = p.2 then true else adjB (es.take i) p.1 k)) = H4 at s4 T4 ⊢
    obtain ⟨r2, hr2, hv2, row2⟩ := T4.get l2
    refine ⟨_, rfl, _, rfl, D, _, _, _, rfl, rfl, SqL.of T4.hd, atI_nat hv2, _, rfl, r2, _, _, p.1, rfl, rfl, row2, by rw [rowV_len]; exact ixN_of (by omega), ?_⟩
    rw [rowV_set]
    obtain ⟨s5, T5⟩ := put H4 _ p.2 p.1 r2 s4 T4 hr2
    refine ⟨_, _, rfl, s5, T5.congr fun a b _ _ => ?_⟩
    rw [take_succ hp, show p = (p.1, p.2) from rfl, adj_snoc l1]
    by_cases c1 : a = p.2 ∧ b = p.1
    · simp [c1]
    · by_cases c2 : a = p.1 ∧ b = p.2
      · simp [c2]
      · simp [c1, c2]
  · rintro σ H2 ⟨s2', s3', rfl, s2, T⟩
    rw [le, List.take_length] at T
    exact ⟨_, rfl, q D rs H2 s2 nD T⟩
theorem ok_oft (F : L2.Fun K "_law_of_table" "_law_of_table" sOfT f fd) (mr : mg "range" = none) (ml : mg "len" = none) (mt : mg "tuple" = none) : FnOk P w K mg base CX0 1 f fd ["rows"] spOfT := by
  refine F.ok scOfT (fun vs H Q E h => ?_) (fun cdv A outer s H vs Q E hr h => ?_)
  · obtain ⟨D, n, ff, rs, rfl, _⟩ := h
    rfl
  obtain ⟨D, n, ff, rs, rfl, T, n9, q⟩ := h
  refine ⟨_, pss_cons (ps_set (i := 1) scOfT.nd rfl (.inl rfl) (pe_lst pa_nil))
    (pss_cons (ps_for PassesOwn.never rfl (pi_range1 rfl mr (pa_cons (pe_callB call_len_seq (by rfl) ml PySem.boot_len (pa_cons (pv 0) pa_nil)) pa_nil)) (pg_name (i := 2) scOfT.nd rfl (.inr rfl))
      (pss_one (ps_set (i := 1) scOfT.nd rfl (.inl rfl) (pe_op op_cat (pv 1) (pe_lc (own := [("two", 3)]) (g := gName 3) (tt := tB (tOp (rIxL K) (tOp (rIxL K) (tVar 0) (tVar 2)) (tVar 3))) rfl scOfT.nd (pi_range2 (by rfl) mr (pa_cons (pe_op op_add (pv 2) pe_int) (pa_cons (pe_callB call_len_seq (by rfl) ml PySem.boot_len (pa_cons (pv 0) pa_nil)) pa_nil)))
        (blkOk_by (N := ["rows", "found", "one", "two"]) (sc := defScope sOfT) (by decide +kernel)) (fun _ _ _ _ _ => pg_name (i := 3) scOfT.nd rfl (Or.inl rfl))
        (fun _ _ _ _ _ => pts_one (pt_val (pe_ix (r := rIxL K) ix_list (pe_ix (r := rIxL K) ix_list (pv 0) (pv 2) (fun _ _ => rfl)) (pv 3) (fun _ _ => rfl))))
        (fun _ _ _ _ _ => pe_tup (pa_cons (pv 2) (pa_cons (pv 3) pa_nil))))))))
    (pss_one (ps_ret (pe_tup (pa_cons (pe_callB call_len_seq (by rfl) ml PySem.boot_len (pa_cons (pv 0) pa_nil)) (pa_cons (pe_callTy call_tuple_of (by rfl) mt (by decide +kernel) (pa_cons (pv 1) pa_nil)) pa_nil)))))), ?_⟩
  have lr : (rs.map V.ref).length = n := by rw [List.length_map]; exact T.len
  refine ⟨(by show 0 ≤ sizeLine; decide), fun a na => ?_⟩
  have sa := same_new na (.lst [])
  refine ⟨_, rfl, D, _, rfl, .inl (SqL.of (T.same sa).hd), (((rs.map V.ref).length : Nat) : Int), rfl, by omega, by omega, for_range (lo := 0) (n := (((rs.map V.ref).length : Nat) : Int).toNat) (fun i σ H' => ∃ (b : Addr) (ys : List V) (s4 : Option V), σ = [some (.ref D), some (.ref b), s4, none] ∧ Same H H' ∧ H' b = some (.lst ys) ∧
      PairsT H' ys ((List.range i).flatMap fun u => (rowP n u).filter fun p => ff p.1 p.2)) ⟨a, [], none, rfl, sa, upd_same, .nil⟩ ?_ ?_⟩
  · rintro u σ H1 lu ⟨b, ys, s4, rfl, s1, hb, py⟩
    rw [Int.zero_add]
    have un : u < n := by omega
    have T1 := T.same s1
    refine ⟨_, rfl, _, rfl, _, _, rfl, rfl, _, rfl, D, _, rfl, .inl (SqL.of T1.hd), _, _, rfl, ⟨by omega, by omega, by omega, by omega⟩, fun E nE => lc_range (lo := (u : Int) + 1) (n := ((((rs.map V.ref).length : Nat) : Int) - ((u : Int) + 1)).toNat)
      (fun k H2 => Same H1 H2 ∧ ∃ zs, H2 E = some (.lst zs) ∧ zs.length ≤ k ∧ PairsT H2 zs (((List.range k).map fun j => (u, u + 1 + j)).filter fun p => ff p.1 p.2)) ⟨same_new nE _, [], upd_same, Nat.le_refl _, .nil⟩ ?_ ?_⟩
    · rintro k H2 lk ⟨s2, zs, hE, lz, pz⟩
      rw [show ((u : Int) + 1 + (k : Int)) = ((u + 1 + k : Nat) : Int) by omega]
      have T2 := T1.same s2
      obtain ⟨r, hr, hv, row⟩ := T2.get un
      refine ⟨rfl, ?_⟩
      refine ⟨_, rfl, _, rfl, D, _, _, _, rfl, rfl, SqL.of T2.hd, atI_nat hv, _, rfl, r, _, _, _, rfl, rfl, SqL.of row, atI_nat (rowV_get _ (by omega)), _, rfl, ?_⟩
      refine iteB (fun c => ?_) (fun c => ?_)
      · refine ⟨_, rfl, _, rfl, (by show 2 ≤ sizeLine; exact small (by decide)), fun r2 nr2 => ?_⟩
        have pp := push_pairT (u, u + 1 + k) hE nr2 pz
        refine ⟨zs, (same_new nr2 _) _ _ hE, small1000 (by omega), same_put (s2.trans (same_new nr2 _)) nE, _, upd_same, by rw [List.length_append]; show zs.length + 1 ≤ k + 1; omega, ?_⟩
        rw [List.range_succ, List.map_append, List.filter_append]
        show PairsT _ _ (_ ++ [(u, u + 1 + k)].filter fun p => ff p.1 p.2)
        rw [List.filter_cons_of_pos (by exact c), List.filter_nil]
        exact pp
      · refine ⟨s2, zs, hE, by omega, ?_⟩
        rw [List.range_succ, List.map_append, List.filter_append]
        show PairsT _ zs (_ ++ [(u, u + 1 + k)].filter fun p => ff p.1 p.2)
        rw [List.filter_cons_of_neg (by show ¬ ff u (u + 1 + k) = true; rw [c]; decide), List.filter_nil, List.append_nil]
        exact pz
    · rintro H2 ⟨s2, zs, hE, lz, pz⟩
      have le1 : ys.length ≤ 81 := by
        rw [PairsT.len py]
        have z := List.length_filter_le (fun p => ff p.1 p.2) ((List.range u).flatMap (rowP n))
        rw [List.filter_flatMap] at z
        exact Nat.le_trans z (rows_few u (by omega) n n9)
      refine ⟨b, E, ys, zs, rfl, rfl, s2 _ _ hb, hE, small (by omega), fun c nc => ?_⟩
      have s3 := same_new nc (.lst (ys ++ zs))
      refine ⟨c, _, _, rfl, (s1.trans s2).trans s3, upd_same, ?_⟩
      rw [List.range_succ, List.flatMap_append]
      refine (py.same (s2.trans s3)).append ?_
      have ek : ((((rs.map V.ref).length : Nat) : Int) - ((u : Int) + 1)).toNat = n - (u + 1) := by omega
      rw [ek] at pz
      show PairsT _ zs ([u].flatMap fun u => (rowP n u).filter fun p => ff p.1 p.2)
      rw [List.flatMap_cons, List.flatMap_nil, List.append_nil]
      exact pz.same s3
  · rintro σ H1 ⟨b, ys, s4, rfl, s1, hb, py⟩
    rw [show (((rs.map V.ref).length : Nat) : Int).toNat = n by omega, ← tabP_eq] at py
    refine ⟨_, rfl, D, _, rfl, .inl (SqL.of (T.same s1).hd), _, rfl, b, _, rfl, .inl ⟨SqL.of hb, fun l' nl => ⟨(by show 2 ≤ sizeLine; exact small (by decide)), fun r' nr => ?_⟩⟩⟩
    rw [lr]
    have s2 := same_new nl (.tup ys)
    have s3 := same_new nr (.tup [.int (n : Int), .ref l'])
    exact q (.ref r') _ ((s1.trans s2).trans s3) ⟨r', l', ys, rfl, upd_same, s3 _ _ upd_same, (py.same s2).same s3⟩
end
end My

set_option maxHeartbeats 8000000
namespace My
open PySem PySem.Spec PyProof.Rows L2
abbrev sFlip : Stmt := top 50
theorem scFlip : FnScope ["graph", "rows", "row", "each"] ["graph"] (defScope sFlip) := ⟨rfl, rfl, rfl, by decide +kernel, rfl, by decide +kernel, by decide +kernel⟩
def spRing : Sp := fun vs H Q _ => ∃ m : Nat, vs = [.int (m : Int)] ∧ 3 ≤ m ∧ m ≤ 9 ∧ ∀ y es H', Same H H' → GraphT H' y m es → Good m es → Q y H'
/-- the ring itself -/
def spRingE : Sp := fun vs H Q _ => ∃ m : Nat, vs = [.int (m : Int)] ∧ 3 ≤ m ∧ m ≤ 9 ∧ ∀ y es H', Same H H' → GraphT H' y m es → Good m es → (∀ q, q ∈ es ↔ q ∈ (List.range (m - 1)).map (fun k => (k, k + 1)) ++ [(0, m - 1)]) → Q y H'
def spFlip (K : PySem.W.Frag) : Sp := fun vs H Q _ => ∃ (x : V) (n : Nat) (es : List E2), vs = [x] ∧ GraphAt K H x n es ∧ Good n es ∧ ∀ y H', Same H H' → GraphT H' y n (tabP n fun i j => !adjB es i j) → Q y H'
def spWithin (K : PySem.W.Frag) : Sp := fun vs H Q _ => ∃ (x : V) (n : Nat) (es : List E2) (S : Addr) (l : List Nat), vs = [x, .ref S] ∧ GraphAt K H x n es ∧ Good n es ∧ H S = some (.lst (numsN l)) ∧ (∀ k ∈ l, k < n) ∧ l.length ≤ 9 ∧ ∀ y H', Same H H' → GraphT H' y l.length (tabP l.length fun i j => adjB es (l.getD i 0) (l.getD j 0)) → Q y H'
def ringP (m : Nat) : List E2 := (List.range (m - 1)).map (fun k => (k, k + 1)) ++ [(0, m - 1)]
theorem ring_nodup : ∀ m, m ≤ 9 → 3 ≤ m → (ringP m).Nodup := by decide +kernel
theorem ring_lt {m : Nat} (h : 3 ≤ m) : ∀ p ∈ ringP m, p.1 < p.2 ∧ p.2 < m := fun p hp => by
  unfold ringP at hp
  rcases List.mem_append.mp hp with hp | hp
  · obtain ⟨k, hk, rfl⟩ := List.mem_map.mp hp
    have := List.mem_range.mp hk
    exact ⟨by show k < k + 1; omega, by show k + 1 < m; omega⟩
  · rw [List.mem_singleton.mp hp]
    exact ⟨by show 0 < m - 1; omega, by show m - 1 < m; omega⟩
section
variable {P : Program} {w : World} {K : PySem.W.Frag} {mg : Str → Option Value} {base : Heap} {f fT fO : Addr} {fd dT dO : FuncData}
theorem ok_flip (F : L2.Fun K "_law_flipped" "_law_flipped" sFlip f fd) (GT : FnOk P w K mg base CX0 1 fT dT ["graph"] (spTable K)) (bT : L2.Binds K dT ["graph"] []) (kT : PySem.W.keepIn K (.ref fT) = true) (mT : mg "_law_table" = some (.ref fT))
    (GO : FnOk P w K mg base CX0 1 fO dO ["rows"] spOfT) (bO : L2.Binds K dO ["rows"] []) (kO : PySem.W.keepIn K (.ref fO) = true) (mO : mg "_law_of_table" = some (.ref fO)) : FnOk P w K mg base CX0 2 f fd ["graph"] (spFlip K) := by
  refine F.ok scFlip (fun vs H Q E h => ?_) (fun cdv A outer s H vs Q E hr h => ?_)
  · obtain ⟨x, n, es, rfl, _⟩ := h
    rfl
  obtain ⟨x, n, es, rfl, hx, g, q⟩ := h
  refine ⟨_, pss_cons (ps_set (i := 1) scFlip.nd rfl (.inl rfl) (pe_call GT hr (by rfl) mT kT bT .nil pass0 (pa_cons (pv 0) pa_nil)))
    (pss_one (ps_ret (pe_call GO hr (by rfl) mO kO bO .nil pass0 (pa_cons (pe_lc (own := [("row", 2)]) (g := gName 2) (tt := tYes) (te := tLc (iList K (tVar 2)) (gName 3) tYes (tNotV (tVar 3)) [3]) rfl scFlip.nd (pi_list (pv 1))
        (blkOk_by (N := ["graph", "rows", "row", "each"]) (sc := defScope sFlip) (by decide +kernel)) (fun _ _ _ _ _ => pg_name (i := 2) scFlip.nd rfl (Or.inl rfl)) (fun _ _ _ _ _ => pts_nil)
        (fun _ _ _ _ _ => pe_lc (own := [("each", 3)]) (g := gName 3) (tt := tYes) rfl scFlip.nd (pi_list (pv 2))
          (blkOk_by (N := ["graph", "rows", "row", "each"]) rfl) (fun _ _ _ _ _ => pg_name (i := 3) scFlip.nd rfl (Or.inl rfl)) (fun _ _ _ _ _ => pts_nil) (fun _ _ _ _ _ => pe_not (pv 3)))) pa_nil)))), ?_⟩
  have n9 := g.n9
  refine ⟨_, rfl, x, n, es, rfl, hx, g, fun D rs H1 s1 _ T => ?_⟩
  have lm : (rs.map V.ref).length = n := by rw [List.length_map]; exact T.len
  refine ⟨_, rfl, D, rfl, ⟨_, SqL.of T.hd⟩, fun R nR => lo_it (walk_list (xs := rs.map V.ref)) (fun i H2 => Same H1 H2 ∧ ∃ qs : List Addr, qs.length = i ∧ H2 R = some (.lst (qs.map V.ref)) ∧ ∀ k r, qs[k]? = some r → r ≠ R ∧ H2 r = some (.lst (rowV n fun j => !adjB es k j))) ⟨same_new nR _, [], rfl, upd_same, fun k r z => by simp at z⟩ (fun i H2 _ ⟨s2, _⟩ => SqL.of (s2 _ _ T.hd)) ?_ ?_⟩
  · rintro i y _ H2 li ⟨s2, qs, lq, hR, hqs⟩ ⟨rfl, hy⟩
    have T2 := T.same s2
    obtain ⟨r, hr', hv, row⟩ := T2.get (show i < n by omega)
    have ey : y = .ref r := by rw [hv] at hy; exact (Option.some.inj hy).symm
    subst ey
    refine ⟨rfl, ?_⟩
    refine ⟨_, rfl, r, rfl, ⟨_, SqL.of row⟩, fun B nB => lo_it (walk_list (xs := rowV n (adjB es i))) (fun j H3 => Same H2 H3 ∧ H3 B = some (.lst (rowV j fun j => !adjB es i j))) ⟨same_new nB _, upd_same⟩ (fun j H3 _ ⟨s3, _⟩ => SqL.of (s3 _ _ row)) ?_ ?_⟩
    · rintro j z _ H3 lj ⟨s3, hB⟩ ⟨rfl, hz⟩
      rw [rowV_len] at lj
      rw [rowV_get _ lj] at hz
      cases hz
      refine ⟨rfl, ?_⟩
      refine ⟨_, rfl, _, rfl, _, hB, small1000 (by rw [rowV_len]; omega), same_put s3 nB, ?_⟩
      rw [upd_same, rowV_succ]
    · rintro H3 ⟨s3, hB⟩
      rw [rowV_len] at hB
      have hR3 := s3 _ _ hR
      have BR : B ≠ R := fun z => by rw [z, hR] at nB; cases nB
      refine ⟨_, hR3, small1000 (by rw [List.length_map]; omega), same_put (s2.trans s3) nR, qs ++ [B], by rw [List.length_append, lq]; rfl, by rw [upd_same, List.map_append]; rfl, fun k u hk => ?_⟩
      by_cases c : k < i
      · rw [List.getElem?_append_left (by omega)] at hk
        obtain ⟨h1, h2⟩ := hqs k u hk
        exact ⟨h1, by rw [upd_ne h1]; exact s3 _ _ h2⟩
      · have : k = i := by
          have := (List.getElem?_eq_some_iff.mp hk).1
          rw [List.length_append, List.length_singleton] at this
          omega
        subst this
        rw [List.getElem?_append_right (by omega), lq, Nat.sub_self] at hk
        cases hk
        exact ⟨BR, by rw [upd_ne BR]; exact hB⟩
  · rintro H2 ⟨s2, qs, lq, hR, hqs⟩
    refine ⟨R, n, _, qs, rfl, ⟨hR, by omega, fun i r hi => (hqs i r hi).2⟩, n9, fun y H3 s3 hy => q y H3 (s1.trans (s2.trans s3)) hy⟩
end
end My

set_option maxHeartbeats 4000000
namespace My
open PySem PySem.Spec PyProof.Rows L2
abbrev sMasks : Stmt := top 13
abbrev sLotOf : Stmt := top 14
theorem scMasks : FnScope ["graph", "many", "edges", "masks", "one", "other"] ["graph"] (defScope sMasks) := ⟨rfl, rfl, rfl, by decide +kernel, rfl, by decide +kernel, by decide +kernel⟩
theorem scLotOf : FnScope ["mask", "vertex"] ["mask"] (defScope sLotOf) := ⟨rfl, rfl, rfl, by decide +kernel, rfl, by decide +kernel, by decide +kernel⟩
theorem numsN_set (l : List Nat) (j k : Nat) : (numsN l).set j (V.int ((k : Nat) : Int)) = numsN (l.set j k) := by
  unfold numsN
  rw [List.map_set]
theorem numsN_getD {l : List Nat} {j : Nat} (h : j < l.length) : (numsN l)[j]? = some (V.int ((l.getD j 0 : Nat) : Int)) := by
  unfold numsN
  rw [List.getElem?_map, List.getElem?_eq_getElem h, List.getD_eq_getElem?_getD, List.getElem?_eq_getElem h]
  rfl
theorem shl_one (b : Nat) : (1 : Int) * 2 ^ ((b : Nat) : Int).toNat = ((2 ^ b : Nat) : Int) := by
  rw [Int.toNat_natCast, Int.one_mul, Int.natCast_pow]
  rfl
theorem or_shl (a b : Nat) : Builtin.bitOr ((a : Nat) : Int) ((1 : Int) * 2 ^ ((b : Nat) : Int).toNat) = ((a ||| 2 ^ b : Nat) : Int) := by
  rw [shl_one, or_nn]
def rGetN (K : PySem.W.Frag) : V → V → Hp → VK → Prop := fun x y H Q => ∃ (p : Addr) (xs : List V) (j : Nat) (v : V), x = .ref p ∧ y = .int (j : Int) ∧ SqL K H p xs ∧ xs[j]? = some v ∧ Q v H
section
variable {X : Cx}
theorem pget_list : PGet X (rGetN X.K) := by
  intro pins s σ H x y ov iv Q I rx ry h
  obtain ⟨p, xs, j, v, rfl, rfl, hq, he, q⟩ := h
  cases rx
  obtain ⟨t, rfl⟩ := ry
  obtain ⟨its, r, pl, hz⟩ := I.list hq
  obtain ⟨w, ew, rw'⟩ := r.get he
  have hn := line63
  have hj : j < xs.length := (List.getElem?_eq_some_iff.mp he).1
  exact wpAny_getItem_list pl.isList (by omega) (by omega) (by rw [Int.toNat_natCast]; simpa using ew) ⟨v, H, I, rw', q⟩
theorem ip_or : PIp X .BitOr (ipI fun i j => Builtin.bitOr i j) := by
  intro pins s σ H x y v u Q I r1 r2 h
  obtain ⟨i, j, e1, e2, q⟩ := h
  subst e1; subst e2
  obtain ⟨t, rfl⟩ := r1
  obtain ⟨t', rfl⟩ := r2
  exact ior_int ⟨.int _, H, I.tok _, ⟨_, rfl⟩, q⟩
end
def spMasks (K : PySem.W.Frag) : Sp := fun vs H Q _ => ∃ (x : V) (n : Nat) (es : List E2), vs = [x] ∧ GraphAt K H x n es ∧ Good n es ∧ ∀ (D : Addr) (nb : List Nat) H', H D = none → Same H H' → H' D = some (.lst (numsN nb)) → NbOk n es nb → Q (.ref D) H'
section
variable {P : Program} {w : World} {K : PySem.W.Frag} {mg : Str → Option Value} {base : Heap} {f : Addr} {fd : FuncData}
theorem ok_masks (F : L2.Fun K "neighbour_masks" "neighbour_masks" sMasks f fd) : FnOk P w K mg base CX0 1 f fd ["graph"] (spMasks K) := by
  refine F.ok scMasks (fun vs H Q E h => ?_) (fun cdv A outer s H vs Q E hr h => ?_)
  · obtain ⟨x, n, es, rfl, _⟩ := h
    rfl
  obtain ⟨x, n, es, rfl, ⟨t, e, xs, rfl, ht, he, hes⟩, g, q⟩ := h
  refine ⟨_, pss_cons (ps_asg (pv 0) (pg_tup (by rfl) (pgs_cons (pg_name (i := 1) scMasks.nd rfl (.inl rfl)) (pgs_cons (pg_name (i := 2) scMasks.nd rfl (.inl rfl)) pgs_nil))))
    (pss_cons (ps_set (i := 3) scMasks.nd rfl (.inl rfl) (pe_op op_rep (pe_lst (pa_cons pe_int pa_nil)) (pv 1)))
    (pss_cons (ps_for PassesOwn.never rfl (pi_tup (pv 2)) (pg_tup (by rfl) (pgs_cons (pg_name (i := 4) scMasks.nd rfl (.inl rfl)) (pgs_cons (pg_name (i := 5) scMasks.nd rfl (.inl rfl)) pgs_nil)))
      (pss_cons (ps_augS (pv 3) (pv 4) pget_list (pe_op op_shl pe_int (pv 5)) ip_or set_list)
      (pss_one (ps_augS (pv 3) (pv 5) pget_list (pe_op op_shl pe_int (pv 4)) ip_or set_list))))
    (pss_one (ps_ret (pv 3))))), ?_⟩
  have n9 := g.n9
  have few := g.few
  have le := PairsAt.len hes
  refine ⟨_, rfl, t, _, rfl, ht, rfl, _, _, rfl, _, _, rfl, rfl, ?_⟩
  refine ⟨(by show 1 ≤ sizeLine; rw [sizeLine_eq]; decide), fun z nz => ?_⟩
  have hz := upd_same (H := H) (a := z) (o := .lst [V.int 0])
  have sz := same_new nz (.lst [V.int 0])
  refine ⟨_, rfl, z, (n : Int), [.int 0], rfl, rfl, hz, by omega, by omega, small (by rw [Int.toNat_natCast, List.length_singleton]; omega), fun D nD => ?_⟩
  have e0 : (List.replicate ((n : Nat) : Int).toNat [V.int 0]).flatten = numsN (List.replicate n 0) := by
    rw [Int.toNat_natCast]
    unfold numsN
    rw [List.map_replicate, List.flatten_replicate_singleton]
    rfl
  rw [e0]
  have sD := same_new nD (.lst (numsN (List.replicate n 0)))
  have nD0 : H D = none := sz.free nD
  have s0 := sz.trans sD
  have hD := upd_same (H := upd H z (.lst [V.int 0])) (a := D) (o := .lst (numsN (List.replicate n 0)))
  generalize upd (upd H z (.lst [V.int 0])) D (.lst (numsN (List.replicate n 0))) = H0 at s0 hD sD ⊢
  refine ⟨_, rfl, e, rfl, ⟨_, Same.tup s0 he⟩, for_it (walk_tup (xs := xs)) (fun i σ H' => ∃ (nb : List Nat) (s4 s5 : Option V), σ = [some (.ref t), some (.int (n : Int)), some (.ref e), some (.ref D), s4, s5] ∧ Same H H' ∧ H' D = some (.lst (numsN nb)) ∧ NbOk n (es.take i) nb)
    ⟨_, none, none, rfl, s0, hD, nb_nil n⟩ (fun i σ H' _ ⟨_, _, _, _, s, _⟩ => Same.tup s he) ?_ ?_⟩
  · rintro i x σ H2 H3 li ⟨nb, s4, s5, rfl, s2, hD2, ok⟩ ⟨rfl, hi⟩
    obtain ⟨p, hp, u, rfl, hu⟩ := PairsAt.get (hes.same s2) hi
    obtain ⟨l1, l2⟩ := g.lt p (List.mem_of_getElem? hp)
    have ln := ok.1
    have ln2 : (nb.set p.1 (nb.getD p.1 0 ||| 2 ^ p.2)).length = n := by rw [List.length_set]; exact ln
    refine ⟨u, _, rfl, hu, rfl, _, _, rfl, _, _, rfl, rfl, ?_⟩
    refine ⟨_, rfl, _, rfl, D, _, p.1, _, rfl, rfl, SqL.of hD2, numsN_getD (by omega), _, rfl, _, _, rfl, rfl, ⟨by omega, by omega, by decide⟩, _, _, rfl, rfl, D, _, _, p.1, rfl, rfl, hD2, by rw [numsN_len]; exact ixN_of (by omega), ?_⟩
    simp only [or_shl, numsN_set]
    have hD3 := upd_same (H := H3) (a := D) (o := .lst (numsN (nb.set p.1 (nb.getD p.1 0 ||| 2 ^ p.2))))
    have s3 := same_put (o := .lst (numsN (nb.set p.1 (nb.getD p.1 0 ||| 2 ^ p.2)))) s2 nD0
    generalize upd H3 D (.lst (numsN (nb.set p.1 (nb.getD p.1 0 ||| 2 ^ p.2)))) = H4 at hD3 s3 ⊢
    refine ⟨_, rfl, _, rfl, D, _, p.2, _, rfl, rfl, SqL.of hD3, numsN_getD (by omega), _, rfl, _, _, rfl, rfl, ⟨by omega, by omega, by decide⟩, _, _, rfl, rfl, D, _, _, p.2, rfl, rfl, hD3, by rw [numsN_len]; exact ixN_of (by omega), ?_⟩
    simp only [or_shl, numsN_set]
    refine ⟨_, _, _, rfl, same_put s3 nD0, upd_same, ?_⟩
    rw [take_succ hp]
    exact nb_step ok l1 l2
  · rintro σ H2 ⟨nb, s4, s5, rfl, s2, hD2, ok⟩
    rw [le, List.take_length] at ok
    exact ⟨_, rfl, q D nb H2 nD0 s2 hD2 ok⟩
end
end My

set_option maxHeartbeats 4000000
namespace My
open PySem PySem.Spec PyProof.Rows L2
def spMaskOf (K : PySem.W.Frag) : Sp := fun vs H Q _ => ∃ (v : V) (l : List Nat), vs = [v] ∧ LotAt K H v l ∧ l.length ≤ 100 ∧ (∀ k ∈ l, k ≤ 100) ∧ ∀ H', Same H H' → Q (.int ((maskN l : Nat) : Int)) H'
def spLotOf (K : PySem.W.Frag) : Sp := fun vs H Q _ => ∃ (m n : Nat), vs = [.int (m : Int)] ∧ m < 2 ^ n ∧ n ≤ 9 ∧ ∀ (t : Addr) H', H t = none → Same H H' → H' t = some (.tup ((bitsN n m).map fun k => V.int ((k : Nat) : Int))) → Q (.ref t) H'
theorem sum_cast : ∀ l : List Nat, ((l.map fun k => ((2 ^ k : Nat) : Int)).sum) = ((maskN l : Nat) : Int)
  | [] => rfl
  | a :: r => by
    have ih := sum_cast r
    unfold maskN at ih ⊢
    rw [List.map_cons, List.sum_cons, ih, List.map_cons, List.sum_cons]
    omega
theorem bits_len_eq : ∀ n, n ≤ 9 → ∀ m : Nat, m < 2 ^ n → (List.range (Builtin.Int.intBits ((m : Nat) : Int))).filter (fun v => m.testBit v) = bitsN n m := by decide +kernel
theorem intBits_le : ∀ m : Nat, m < 512 → Builtin.Int.intBits ((m : Nat) : Int) ≤ 9 := by decide +kernel
theorem shr_bit (m v : Nat) : Builtin.bitAnd (((m : Nat) : Int) / 2 ^ ((v : Nat) : Int).toNat) 1 = if m.testBit v then 1 else 0 := by
  rw [Int.toNat_natCast]
  have e : ((m : Nat) : Int) / 2 ^ v = ((m / 2 ^ v : Nat) : Int) := by
    rw [Int.natCast_ediv, Int.natCast_pow]
    rfl
  rw [e, show (1 : Int) = ((1 : Nat) : Int) from rfl, and_nn]
  rw [Nat.testBit_eq_decide_div_mod_eq, Nat.and_one_is_mod]
  have z := Nat.mod_lt (m / 2 ^ v) (show 2 > 0 by decide)
  by_cases c : m / 2 ^ v % 2 = 1
  · rw [c]; simp
  · have : m / 2 ^ v % 2 = 0 := by omega
    rw [this]; simp
def tTruM (K : PySem.W.Frag) (te : TE) : TT := fun σ H Q => te σ H fun x H' => ∃ k, TruV K x H' k ∧ Q k H'
section
variable {P : Program} {w : World} {K : PySem.W.Frag} {mg : Str → Option Value} {base : Heap} {f : Addr} {fd : FuncData}
theorem ok_lot_of (F : L2.Fun K "lot_of" "lot_of" sLotOf f fd) (mr : mg "range" = none) (mt : mg "tuple" = none) : FnOk P w K mg base CX0 1 f fd ["mask"] (spLotOf K) := by
  refine F.ok scLotOf (fun vs H Q E h => ?_) (fun cdv A outer s H vs Q E hr h => ?_)
  · obtain ⟨m, n, rfl, _⟩ := h
    rfl
  obtain ⟨m, n, rfl, lt, n9, q⟩ := h
  refine ⟨_, pss_one (ps_ret (pe_callTy call_tuple_of (by rfl) mt (by decide +kernel) (pa_cons (pe_lc (own := [("vertex", 1)]) (g := gName 1) (tt := tTruM K (tOp (rI0 fun i j => .int (Builtin.bitAnd i j)) (tOp (rI (fun _ j => 0 ≤ j) fun i j => .int (i / 2 ^ j.toNat)) (tVar 0) (tVar 1)) (tC (.int 1)))) rfl scLotOf.nd (pi_range1 rfl mr (pa_cons (pe_bits (pv 0)) pa_nil))
        (blkOk_by (N := ["mask", "vertex"]) (sc := defScope sLotOf) (by decide +kernel)) (fun _ _ _ _ _ => pg_name (i := 1) scLotOf.nd rfl (Or.inl rfl)) (fun _ _ _ _ _ => pts_one (pt_truth (pe_op op_and (pe_op op_shr (pv 0) (pv 1)) pe_int) (by intro _; rfl))) (fun _ _ _ _ _ => pv 1)) pa_nil))), ?_⟩
  have l9 : m < 512 := Nat.lt_of_lt_of_le lt (Nat.pow_le_pow_right (by decide) n9)
  have b9 := intBits_le m l9
  refine ⟨_, rfl, _, rfl, _, rfl, by omega, by omega, fun D nD => lo_it (walk_range (lo := 0) (n := ((Builtin.Int.intBits ((m : Nat) : Int) : Nat) : Int).toNat)) (fun i H2 => Same H H2 ∧ H2 D = some (.lst (((List.range i).filter fun v => m.testBit v).map fun k => V.int ((k : Nat) : Int)))) ⟨same_new nD _, upd_same⟩ (fun _ _ _ _ => trivial) ?_ ?_⟩
  · rintro i x H2 _ li ⟨s2, hD⟩ ⟨rfl, ex⟩
    obtain rfl : x = V.int ((i : Nat) : Int) := ex.trans (congrArg V.int (Int.zero_add _))
    have few : ((List.range i).filter fun v => m.testBit v).length ≤ i := Nat.le_trans (List.length_filter_le _ _) (by rw [List.length_range]; exact Nat.le_refl _)
    refine ⟨rfl, ?_⟩
    refine ⟨_, rfl, _, rfl, _, _, rfl, rfl, by omega, _, _, rfl, rfl, _, rfl, ?_⟩
    simp only [shr_bit]
    cases e : m.testBit i with
    | true =>
      refine iteT ⟨_, rfl, _, hD, small1000 (by rw [List.length_map]; omega), same_put s2 nD, ?_⟩
      rw [upd_same, List.range_succ, List.filter_append, List.map_append, List.filter_cons_of_pos e]
      rfl
    | false =>
      refine iteF ⟨s2, ?_⟩
      rw [hD, List.range_succ, List.filter_append, List.filter_cons_of_neg (by rw [e]; decide), List.filter_nil, List.append_nil]
  · rintro H2 ⟨s2, hD⟩
    rw [Int.toNat_natCast, bits_len_eq n n9 m lt] at hD
    refine ⟨D, _, rfl, .inl ⟨SqL.of hD, fun l nl => ?_⟩⟩
    exact q l _ (s2.free nl) (s2.trans (same_new nl _)) upd_same
end
end My

set_option maxHeartbeats 4000000
/-! sorted of a list of tuples of ints of any lengths: all of them other than (), or the first one (). -/
namespace My
open PySem PySem.W PySem.Calls PyProof.Rows Builtin
section
variable {prog : Program} {w : World} {A : Around} {E : Value → Shared → Prop} {s : Shared}
theorem kat_ints {b fin : Bool} {Q : Bool → Shared → Prop} : ∀ {ps qs : List Value} {ns ms : List Int} (i : Nat), IntsAre ps ns → IntsAre qs ms → fin = decide (ps.length < qs.length) → Q (HT.lexLt ns ms) s → KatLex prog w A b fin Q (ps.zip qs) i s
  | _, _, _, _, i, .nil, .nil, hf, h => by
    have e : fin = false := by rw [hf]; rfl
    subst e
    exact kat_nil h
  | _, _, _, _, i, .nil, .cons c u t, hf, h => by
    have e : fin = true := by rw [hf]; exact decide_eq_true (by simp)
    subst e
    exact kat_nil h
  | _, _, _, _, i, .cons c u t, .nil, hf, h => by
    have e : fin = false := by rw [hf]; exact decide_eq_false (by simp)
    subst e
    exact kat_nil h
  | _, _, _, _, i, .cons a t r, .cons c u r', hf, h => by
    rw [HT.lexLt_cons] at h
    refine kat_cons (SeqAt.EqAt.int_int a t c u prog w _ _ ?_)
    refine kat_go (fun e1 => ?_) (fun e1 => ?_)
    · have ex : a = c := by simpa using e1
      rw [if_pos ex] at h
      refine kat_yes (kat_ints (i + 1) r r' ?_ h)
      rw [hf]
      simp
    · have ex : ¬ a = c := by simpa using e1
      rw [if_neg ex] at h
      refine kat_no ?_
      cases hb : (b && i == 0) with
      | true => exact oneLt_int h
      | false => exact kat_one _ _ (PyProof.Rows.lt_int h)
theorem tups_cmp {vs : List Value} {k : Value → List Int} (hp : ∀ v ∈ vs, TS.TupInts s.heap v (k v)) : SrtO.Cmp prog w A s (tuples' true) (fun p => p.1 ∈ vs) (SrtO.lt2 fun v u => HT.lexLt (k v) (k u)) := by
  intro p q hm hm'
  obtain ⟨a, xs, e, ⟨o, ho, hc, n, hd⟩, hi⟩ := hp _ hm
  obtain ⟨a', xs', e', ⟨o', ho', hc', n', hd'⟩, hi'⟩ := hp _ hm'
  show wpAny (model prog w) A (keyLt' (tuples' true) p.1 q.1) (fun r s' => s' = s ∧ r = HT.lexLt (k p.1) (k q.1)) (fun _ _ => False) s
  generalize k p.1 = kp at hi ⊢
  generalize k q.1 = kq at hi' ⊢
  rw [e, e']
  refine kat_lt ho hd ho' hd' ?_
  exact kat_ints 0 hi hi' (by rw [Array.length_toList, Array.length_toList]) ⟨rfl, rfl⟩
theorem tup_lt_call {a b : Addr} {dd dd2 : Option Addr} {items items2 : Array Value} {n n2 : Nat} {sl sl2 : Array (Option Value)} {ns ms : List Int} {Q : Value → Shared → Prop} (ga : s.heap.get? a = some { cls := .type "tuple", dict := dd, data := .seq items n, slots := sl })
    (gb : s.heap.get? b = some { cls := .type "tuple", dict := dd2, data := .seq items2 n2, slots := sl2 }) (ia : IntsAre items.toList ns) (ib : IntsAre items2.toList ms) (h : Q (.bool (HT.lexLt ns ms)) s) : wpAny (model prog w) A (call (.builtin "tuple.__lt__") [.ref a, .ref b]) Q E s := by
  have tp : s.TypeIs (.ref a) "tuple" := ⟨_, ga, rfl⟩
  refine wpAny_call (codeAny_call_builtin PySem.F.slot_tuple_lt.plain PySem.F.entry_tuple_lt (PySem.F.slot_tuple_lt.check _ _ _ _ _ _ _ _ tp (PySem.F.args_tuple_lt_2 _ _) ?_))
  refine wpAny_mono (HT.tuple_lt_ints a b items items2 n n2 dd dd2 sl sl2 ns ms ia ib prog w _ (wants Q E) s ⟨ga, gb, h⟩) (fun fin s' q => ?_) fun _ _ z => z
  cases fin with
  | done f => exact q
  | again c => exact q
theorem tups_lt {v u : Value} {ns ms : List Int} {Q : Bool → Shared → Prop} (hu : A.units < cLine) (hv : TS.TupInts s.heap v ns) (hw : TS.TupInts s.heap u ms) (h : Q (HT.lexLt ns ms) s) : wpAny (model prog w) A (keyLt' oneType' v u) Q E s := by
  obtain ⟨a, xs, rfl, hl, hi⟩ := hv
  obtain ⟨b, ys, rfl, hb, hj⟩ := hw
  obtain ⟨⟨cls, dd, data, sl⟩, ho, hc, n, hd⟩ := id hl
  obtain ⟨⟨cls2, dd2, data2, sl2⟩, ho2, hc2, n2, hd2⟩ := id hb
  simp only at hc hd hc2 hd2
  subst hc hd hc2 hd2
  rw [keyLt'_oneType, oneLt'_eq]
  simp only [if_true]
  refine wpAny_bind (wpAny_cRoomFor hu ?_)
  have tp : s.TypeIs (.ref a) "tuple" := ⟨_, ho, rfl⟩
  refine wpAny_bind (wpAny_callSpecialIfBound?_slot tp PySem.F.slot_tuple_lt (tup_lt_call ho ho2 hi hj ?_))
  exact wpAny_truthy_bool h
theorem tups_cmp1 {vs : List Value} {k : Value → List Int} (hu : A.units < cLine) (hp : ∀ v ∈ vs, TS.TupInts s.heap v (k v)) : SrtO.Cmp prog w A s oneType' (fun p => p.1 ∈ vs) (SrtO.lt2 fun v u => HT.lexLt (k v) (k u)) := by
  intro p q hm hm'
  exact tups_lt (Q := fun r s' => s' = s ∧ r = HT.lexLt (k p.1) (k q.1)) (E := fun _ _ => False) hu (hp _ hm) (hp _ hm') ⟨rfl, rfl⟩
end
section
variable {M : Model} {A : Around} {E : Value → Shared → Prop} {s : Shared}
theorem tup_type {v : Value} {ns : List Int} (h : TS.TupInts s.heap v ns) : Looks M s.heap (typeOf v) (.type "tuple") := by
  obtain ⟨a, xs, rfl, ⟨o, ho, hc, n, hd⟩, hi⟩ := h
  have z : Looks M s.heap (typeOf (.ref a)) o.cls := (Looks.ld ho).andThen .now
  rw [hc] at z
  exact z
theorem tup_firsts : ∀ (vs : List Value) (k : Value → List Int) {Q : List (Option Value) → Shared → Prop}, (∀ v ∈ vs, TS.TupInts s.heap v (k v)) → (∀ fs : List (Option Value), (∀ v r, vs = v :: r → k v = [] → ∃ t, fs = none :: t) → Q fs s) → wpAny M A (vs.mapM firstOfTuple') Q E s
  | [], k, Q, _, h => by
    rw [List.mapM_nil]
    exact wpAny_pure (h [] fun v r e => by cases e)
  | v :: vs, k, Q, hp, h => by
    have tv := tup_type (M := M) (hp v (List.mem_cons_self ..))
    obtain ⟨a, xs, rfl, ⟨o, ho, hc, n, hd⟩, hi⟩ := hp v (List.mem_cons_self ..)
    rw [List.mapM_cons]
    refine wpAny_bind ?_
    rw [kas_first_eq]
    refine wpAny_bind (tv.here ?_)
    rw [if_neg (by first | decide | simp)]
    refine wpAny_bind (listItems_at ho hd (wpAny_pure ?_))
    refine wpAny_bind (tup_firsts vs k (fun u hu => hp u (List.mem_cons_of_mem _ hu)) fun fs _ => wpAny_pure (h _ fun v r e en => ?_))
    cases e
    rw [en] at hi
    refine ⟨fs, ?_⟩
    have e0 : xs.toList = [] := by
      cases xs with
      | mk l => cases hi; rfl
    have e1 : xs = #[] := by
      cases xs with
      | mk l => exact congrArg Array.mk e0
    rw [e1]
    rfl
theorem tups_kind1 {vs : List Value} {k : Value → List Int} {v0 : Value} {r : List Value} {Q : SortKind → Shared → Prop} (e0 : vs = v0 :: r) (k0 : k v0 = []) (hp : ∀ v ∈ vs, TS.TupInts s.heap v (k v)) (h : Q oneType' s) : wpAny M A (keyKind' vs.toArray) Q E s := by
  subst e0
  rw [keyKind'_eq, List.mapM_toArray, map_eq_pure_bind]
  refine wpAny_bind (wpAny_bind (tup_firsts _ k hp fun fs hf => wpAny_pure ?_))
  obtain ⟨t, rfl⟩ := hf v0 r rfl k0
  rw [if_neg (by simp), if_neg (by simp)]
  rw [oneTypeOnly'_eq, List.mapM_toArray, map_eq_pure_bind]
  refine wpAny_bind (wpAny_bind (wpAny_bind (kas_mapM (r := Value.type "tuple") _ (fun v hv Q' hq => (tup_type (hp v hv)).here hq) (wpAny_pure ?_))))
  have hall : ((List.map (fun _ => Value.type "tuple") (v0 :: r)).toArray.all fun x => x == Value.type "tuple") = true := by
    simp only [List.all_toArray, List.all_map, List.all_eq_true]
    intro _ _
    rfl
  have h0 : (List.map (fun _ => Value.type "tuple") (v0 :: r)).toArray[0]? = some (Value.type "tuple") := by simp
  rw [h0]
  simp only [hall, if_true]
  exact wpAny_pure (wpAny_pure h)
theorem tups_heads {h : Heap} : ∀ {vs : List Value} {k : Value → List Int}, (∀ v ∈ vs, TS.TupInts h v (k v)) → (∀ v ∈ vs, k v ≠ []) → ∃ fs : List Value, KatTups h vs fs ∧ fs.length = vs.length ∧ ∀ f ∈ fs, ∃ x t, f = Value.int x t
  | [], _, _, _ => ⟨[], KatTups.nil, rfl, fun _ hm => by simp at hm⟩
  | v :: vs, k, hp, ne => by
    obtain ⟨fs, h1, h2, h3⟩ := tups_heads (vs := vs) (k := k) (fun v' hm => hp v' (List.mem_cons_of_mem _ hm)) fun v' hm => ne v' (List.mem_cons_of_mem _ hm)
    obtain ⟨a, xs, rfl, ⟨o, ho, hc, n, hd⟩, hi⟩ := hp v (List.mem_cons_self ..)
    have nv := ne _ (List.mem_cons_self ..)
    generalize k (Value.ref a) = kv at hi nv
    cases xs with
    | mk l =>
      cases hi with
      | nil => exact absurd rfl nv
      | cons x t ht =>
        rename_i vs' ns'
        refine ⟨.int x t :: fs, KatTups.cons ho hc hd rfl h1, by rw [List.length_cons, List.length_cons, h2], fun f hm => ?_⟩
        rcases List.mem_cons.mp hm with rfl | hm
        · exact ⟨x, t, rfl⟩
        · exact h3 f hm
end
section
variable {prog : Program} {w : World} {A : Around} {E : Value → Shared → Prop} {s : Shared}
/-- none of them (), or the first one () -/
def Sortish (ks : List (List Int)) : Prop := (∀ k ∈ ks, k ≠ []) ∨ ∃ r, ks = [] :: r
theorem tups_sortable {a : Addr} {vs : List Value} {k : Value → List Int} (hu : A.units < cLine) (h2 : 2 ≤ vs.length) (hp : ∀ v ∈ vs, TS.TupInts s.heap v (k v)) (si : Sortish (vs.map k)) (ha : ∀ v ∈ vs, v ≠ .ref a) :
    SrtO.SortableO prog w A s a vs fun v u => HT.lexLt (k v) (k u) := by
  intro h' keep
  have hp' : ∀ v ∈ vs, TS.TupInts h' v (k v) := fun v hm => by
    obtain ⟨b, xs, e, ⟨o, ho, hc⟩, hi⟩ := hp v hm
    exact ⟨b, xs, e, ⟨o, keep b o (fun z => ha v hm (by rw [e, z])) ho, hc⟩, hi⟩
  rcases si with ne | ⟨r, e⟩
  · obtain ⟨fs, h1, h3, h4⟩ := tups_heads hp' fun v hm => ne _ (List.mem_map.mpr ⟨v, hm, rfl⟩)
    refine ⟨tuples' true, fun Q E hq => ?_, tups_cmp (s := { s with heap := h' }) hp'⟩
    refine kat_kind (s := { s with heap := h' }) (T := .type "int") h1 (by omega) (fun f hm => ?_) (by rfl) ?_
    · obtain ⟨x, t, rfl⟩ := h4 f hm
      exact Looks.now
    · have e : (Value.type "int" != Value.type "tuple") = true := by first | decide +kernel | rfl | decide
      rw [e]
      exact hq
  · refine ⟨oneType', fun Q E hq => ?_, tups_cmp1 (s := { s with heap := h' }) hu hp'⟩
    cases vs with
    | nil => cases e
    | cons v0 vr =>
      rw [List.map_cons] at e
      exact tups_kind1 (s := { s with heap := h' }) rfl (List.cons.inj e).1 hp' hq
end
end My
namespace L2
open PySem PySem.Spec PyProof.Rows
/-- sorted(xs), xs a list of tuples of ints (k says which): a new list, sorted, equal ones in their order -/
def rSortTI (K : PySem.W.Frag) : List V → Hp → VK → Prop := fun vs H Q => ∃ (a : Addr) (xs : List V) (k : V → List Int), vs = [V.ref a] ∧ SqL K H a xs ∧ (∀ x ∈ xs, ∃ t, x = V.ref t ∧ SqT K H t ((k x).map V.int)) ∧ (xs.length < 2 ∨ My.Sortish (xs.map k)) ∧
  ∀ ys p, SrtO.Srtd (fun x y => HT.lexLt (k x) (k y)) ys → SrtO.Stb (fun x y => HT.lexLt (k x) (k y)) ys xs → H p = none → Q (.ref p) (upd H p (.lst ys))
section
variable {X : Cx}
theorem cr_sortTI (hu : X.A.units + 64 < cLine) : CallR X (.builtin "sorted") (rSortTI X.K) := by
  intro pins s σ H vs us Q I r h
  obtain ⟨a, xs, k, rfl, hs, hx, si, q⟩ := h
  obtain ⟨its, rv, hl, hz⟩ := I.list hs
  rw [Vals.ref1 r]
  obtain ⟨e1, e2⟩ := bkV_refs rv fun x m => by
    obtain ⟨t, e, _⟩ := hx x m
    exact ⟨t, e⟩
  have hp : ∀ v ∈ its, TS.TupInts s.heap v (k (bkV v)) := fun v hv => by
    obtain ⟨t, rfl⟩ := e2 v hv
    have hm : V.ref t ∈ xs := by rw [e1]; exact List.mem_map.mpr ⟨_, hv, rfl⟩
    obtain ⟨t', e, ht⟩ := hx _ hm
    cases e
    exact tupI_raw I ht
  refine SrtO.sorted_ord (NtL.swo_lexL fun u => k (bkV u)) hl.isList (by rw [← rv.length]; exact hz) (fun h2 h₁ b hb kp => ?_) fun out h1 h2 => ?_
  · refine My.tups_sortable (s := { s with heap := h₁ }) (k := fun u => k (bkV u)) ?_ h2 (fun v hv => ?_) ?_ fun v hv e => ?_
    · show X.A.units + _ + _ < cLine
      omega
    · obtain ⟨c, ys, e, ⟨o, ho, hc⟩, hi⟩ := hp v hv
      exact ⟨c, ys, e, ⟨o, (kp c o ho).2, hc⟩, hi⟩
    · rcases si with l2 | si
      · rw [rv.length] at l2
        omega
      · rw [e1, List.map_map] at si
        exact si
    · obtain ⟨c, ys, e', ⟨o, ho, hc⟩, hi⟩ := hp v hv
      rw [e'] at e
      cases e
      exact (kp _ o ho).1 rfl
  · obtain ⟨ep, he'⟩ := PyProof.Rows.sortedAll_at s.heap its out.toArray
    have h3 : ∀ u ∈ out, ∃ a, u = Value.ref a := fun u hu => e2 u (h2.perm.mem_iff.mp hu)
    have hb : SrtO.Stb (fun x y => HT.lexLt (k x) (k y)) (out.map bkV) xs := by
      rw [e1]
      exact SrtO.Stb.map (NtL.swo_lexL k) bkV h2
    have hlen : (out.map bkV).length ≤ sizeLine := by
      rw [hb.perm.length_eq]
      exact hz
    exact ⟨.ref _, upd H (s.heap.objs.size + 1) (.lst (out.map bkV)), I.laid (t' := s.toks) (fun _ _ => PyProof.Rows.sortedAll_old) (Nat.le_succ _) ⟨hlen, out, ep, bkV_vals h3, he'⟩, rfl, q _ _ (SrtO.srtd_map h1) hb (I.hok.fresh (Nat.le_succ _))⟩
end
end L2

set_option maxHeartbeats 4000000
/-! Lists of lots in the heap, sorted ones. -/
namespace My
open PySem PySem.Spec PyProof.Rows L2
def natV (l : List Nat) : List V := l.map fun k => V.int ((k : Nat) : Int)
def natI (l : List Nat) : List Int := l.map fun k => ((k : Nat) : Int)
theorem natV_eq (l : List Nat) : (natI l).map V.int = natV l := by unfold natI natV; rw [List.map_map]; rfl
theorem natI_inj : ∀ {l m : List Nat}, natI l = natI m → l = m
  | [], [], _ => rfl
  | [], _ :: _, h => by cases h
  | _ :: _, [], h => by cases h
  | a :: l, b :: m, h => by
    obtain ⟨h1, h2⟩ := List.cons.inj (show ((a : Nat) : Int) :: natI l = ((b : Nat) : Int) :: natI m from h)
    rw [Int.ofNat.inj h1, natI_inj h2]
theorem natV_inj : ∀ {l m : List Nat}, natV l = natV m → l = m
  | [], [], _ => rfl
  | [], _ :: _, h => by cases h
  | _ :: _, [], h => by cases h
  | a :: l, b :: m, h => by
    obtain ⟨h1, h2⟩ := List.cons.inj (show V.int ((a : Nat) : Int) :: natV l = V.int ((b : Nat) : Int) :: natV m from h)
    injection h1 with h1
    rw [Int.ofNat.inj h1, natV_inj h2]
/-- a tuple of this lot -/
def LotT (H : Hp) (x : V) (l : List Nat) : Prop := ∃ t, x = .ref t ∧ H t = some (.tup (natV l))
theorem LotT.same {H H' : Hp} (s : Same H H') {x : V} {l : List Nat} (h : LotT H x l) : LotT H' x l := by
  obtain ⟨t, e, h⟩ := h
  exact ⟨t, e, s _ _ h⟩
theorem LotT.uniq {H : Hp} {x : V} {l m : List Nat} (h : LotT H x l) (h' : LotT H x m) : l = m := by
  obtain ⟨t, rfl, h⟩ := h
  obtain ⟨t', e, h'⟩ := h'
  cases e
  rw [h] at h'
  injection h' with h'
  injection h' with h'
  exact natV_inj h'
inductive LotsT (H : Hp) : List V → List (List Nat) → Prop
  | nil : LotsT H [] []
  | cons {x : V} {l : List Nat} {xs : List V} {ls : List (List Nat)} : LotT H x l → LotsT H xs ls → LotsT H (x :: xs) (l :: ls)
theorem LotsT.same {H H' : Hp} (s : Same H H') {xs : List V} {ls : List (List Nat)} (h : LotsT H xs ls) : LotsT H' xs ls := by
  induction h with
  | nil => exact .nil
  | cons a _ ih => exact .cons (a.same s) ih
theorem LotsT.len {H : Hp} {xs : List V} {ls : List (List Nat)} (h : LotsT H xs ls) : xs.length = ls.length := by
  induction h with
  | nil => rfl
  | cons _ _ ih => rw [List.length_cons, List.length_cons, ih]
theorem LotsT.snoc {H : Hp} {xs : List V} {ls : List (List Nat)} {x : V} {l : List Nat} (h : LotsT H xs ls) (hx : LotT H x l) : LotsT H (xs ++ [x]) (ls ++ [l]) := by
  induction h with
  | nil => exact .cons hx .nil
  | cons a _ ih => exact .cons a ih
theorem LotsT.app {H : Hp} {xs ys : List V} {ls ms : List (List Nat)} (h : LotsT H xs ls) (h' : LotsT H ys ms) : LotsT H (xs ++ ys) (ls ++ ms) := by
  induction h with
  | nil => exact h'
  | cons a _ ih => exact .cons a ih
theorem LotsT.get {H : Hp} {xs : List V} {ls : List (List Nat)} (h : LotsT H xs ls) {i : Nat} {x : V} (hi : xs[i]? = some x) : ∃ l, ls[i]? = some l ∧ LotT H x l := by
  induction h generalizing i with
  | nil => simp at hi
  | cons a _ ih =>
    cases i with
    | zero =>
      cases hi
      exact ⟨_, rfl, a⟩
    | succ i => exact ih hi
theorem LotT.put {H : Hp} {B : Addr} {ys : List V} {o : HO} (hB : H B = some (.lst ys)) {x : V} {l : List Nat} (h : LotT H x l) : LotT (upd H B o) x l := by
  obtain ⟨t, e, h⟩ := h
  have ne : t ≠ B := fun z => by
    rw [z, hB] at h
    cases h
  exact ⟨t, e, by rw [upd_ne ne]; exact h⟩
theorem LotsT.put {H : Hp} {B : Addr} {ys : List V} {o : HO} (hB : H B = some (.lst ys)) {xs : List V} {ls : List (List Nat)} (h : LotsT H xs ls) : LotsT (upd H B o) xs ls := by
  induction h with
  | nil => exact .nil
  | cons a _ ih => exact .cons (a.put hB) ih
open Classical in
noncomputable def kN (H : Hp) (x : V) : List Nat := if h : ∃ l, LotT H x l then h.choose else []
theorem kN_at {H : Hp} {x : V} {l : List Nat} (h : LotT H x l) : kN H x = l := by
  unfold kN
  rw [dif_pos ⟨l, h⟩]
  exact (Classical.choose_spec (⟨l, h⟩ : ∃ l, LotT H x l)).uniq h
theorem LotsT.mem {H : Hp} {xs : List V} {ls : List (List Nat)} (h : LotsT H xs ls) : ∀ x ∈ xs, LotT H x (kN H x) := by
  induction h with
  | nil => intro x hx; cases hx
  | cons a _ ih =>
    intro x hx
    rcases List.mem_cons.mp hx with rfl | hx
    · rw [kN_at a]; exact a
    · exact ih x hx
theorem LotsT.map {H : Hp} {xs : List V} {ls : List (List Nat)} (h : LotsT H xs ls) : xs.map (kN H) = ls := by
  induction h with
  | nil => rfl
  | cons a _ ih => rw [List.map_cons, kN_at a, ih]
theorem LotsT.of_mem {H : Hp} : ∀ {ys : List V}, (∀ y ∈ ys, LotT H y (kN H y)) → LotsT H ys (ys.map (kN H))
  | [], _ => .nil
  | y :: ys, h => .cons (h y (List.mem_cons_self ..)) (LotsT.of_mem fun z hz => h z (List.mem_cons_of_mem _ hz))
/-- ahead of, as tuples are compared -/
def ltL (a b : List Nat) : Prop := HT.lexLt (natI a) (natI b) = true
theorem ltL_asym {a b : List Nat} (h : ltL a b) : ¬ ltL b a := fun h' => by
  have z := NtL.lex_asym _ _ h
  unfold ltL at h'
  rw [z] at h'
  cases h'
theorem lex_same : ∀ {a b : List Int}, HT.lexLt a b = false → HT.lexLt b a = false → a = b
  | [], [], _, _ => rfl
  | [], b :: bs, h, _ => by rw [HT.lexLt_nil_cons] at h; cases h
  | a :: as, [], _, h => by rw [HT.lexLt_nil_cons] at h; cases h
  | a :: as, b :: bs, h, h' => by
    rw [HT.lexLt_cons] at h h'
    by_cases e : a = b
    · rw [if_pos e] at h
      rw [if_pos e.symm] at h'
      rw [e, lex_same h h']
    · rw [if_neg e] at h
      rw [if_neg (Ne.symm e)] at h'
      have := of_decide_eq_false h
      have := of_decide_eq_false h'
      omega
/-- two lists that ascend, with the same members -/
theorem eq_of_ltL : ∀ {l m : List (List Nat)}, l.Pairwise ltL → m.Pairwise ltL → (∀ k, k ∈ l ↔ k ∈ m) → l = m
  | [], [], _, _, _ => rfl
  | [], b :: m, _, _, h => absurd ((h b).mpr (List.mem_cons_self ..)) (by simp)
  | a :: l, [], _, _, h => absurd ((h a).mp (List.mem_cons_self ..)) (by simp)
  | a :: l, b :: m, hl, hm, h => by
    have l1 := (List.pairwise_cons.mp hl).1
    have m1 := (List.pairwise_cons.mp hm).1
    have irr : ∀ k : List Nat, ¬ ltL k k := fun k z => ltL_asym z z
    have e : a = b := by
      rcases List.mem_cons.mp ((h a).mp (List.mem_cons_self ..)) with e | e
      · exact e
      · rcases List.mem_cons.mp ((h b).mpr (List.mem_cons_self ..)) with e2 | e2
        · exact e2.symm
        · exact absurd (m1 a e) (ltL_asym (l1 b e2))
    subst e
    rw [eq_of_ltL (List.pairwise_cons.mp hl).2 (List.pairwise_cons.mp hm).2 fun k => ?_]
    constructor
    · intro hk
      rcases List.mem_cons.mp ((h k).mp (List.mem_cons_of_mem _ hk)) with e | e
      · rw [e] at hk
        exact absurd (l1 a hk) (irr a)
      · exact e
    · intro hk
      rcases List.mem_cons.mp ((h k).mpr (List.mem_cons_of_mem _ hk)) with e | e
      · rw [e] at hk
        exact absurd (m1 a hk) (irr a)
      · exact e
/-- sorted lots, none twice, ascend -/
theorem sorted_lots {H : Hp} {xs ys : List V} {ls : List (List Nat)} (h : LotsT H xs ls) (nd : ls.Nodup) (so : SrtO.Srtd (fun x y => HT.lexLt (natI (kN H x)) (natI (kN H y))) ys) (st : SrtO.Stb (fun x y => HT.lexLt (natI (kN H x)) (natI (kN H y))) ys xs) :
    LotsT H ys (ys.map (kN H)) ∧ (ys.map (kN H)).Pairwise ltL ∧ (ys.map (kN H)).Perm ls := by
  have pm : (ys.map (kN H)).Perm ls := by
    have z := st.perm.map (kN H)
    rw [h.map] at z
    exact z
  refine ⟨LotsT.of_mem fun y hy => h.mem y (st.perm.mem_iff.mp hy), ?_, pm⟩
  have nd2 : (ys.map (kN H)).Nodup := pm.nodup_iff.mpr nd
  rw [List.pairwise_map]
  refine (so.and (List.pairwise_map.mp nd2)).imp ?_
  intro a b ⟨le, ne⟩
  have le2 : HT.lexLt (natI (kN H b)) (natI (kN H a)) = false := le
  unfold ltL
  cases e : HT.lexLt (natI (kN H a)) (natI (kN H b)) with
  | true => rfl
  | false => exact absurd (natI_inj (lex_same e le2)) ne
theorem sortish_ne {ls : List (List Nat)} (h : ∀ l ∈ ls, l ≠ []) : Sortish (ls.map natI) := .inl fun k hk => by
  obtain ⟨l, hl, rfl⟩ := List.mem_map.mp hk
  intro z
  exact h l hl (natI_inj (m := []) z)
theorem sortish_nil (r : List (List Nat)) : Sortish (([] :: r).map natI) := .inr ⟨r.map natI, rfl⟩
/-- what sorted asks of lots -/
theorem lots_sort {K : PySem.W.Frag} {H : Hp} {xs : List V} {ls : List (List Nat)} (h : LotsT H xs ls) (si : Sortish (ls.map natI) ∨ ls.length < 2) :
    (∀ x ∈ xs, ∃ t, x = V.ref t ∧ SqT K H t ((natI (kN H x)).map V.int)) ∧ (xs.length < 2 ∨ Sortish (xs.map fun x => natI (kN H x))) := by
  refine ⟨fun x hx => ?_, ?_⟩
  · obtain ⟨t, e, ht⟩ := h.mem x hx
    refine ⟨t, e, SqT.of ?_⟩
    rw [natV_eq]
    exact ht
  · rcases si with ne | l2
    · right
      have e : xs.map (fun x => natI (kN H x)) = ls.map natI := by
        rw [← h.map, List.map_map]
        rfl
      rw [e]
      exact ne
    · left
      rw [h.len]
      exact l2
end My

set_option maxHeartbeats 4000000
namespace My
open PySem PySem.Spec PyProof.Rows L2
abbrev sLots : Stmt := top 51
theorem scLots : FnScope ["many", "found", "each", "lot"] ["many"] (defScope sLots) := ⟨rfl, rfl, rfl, by decide +kernel, rfl, by decide +kernel, by decide +kernel⟩
def lotsN : Nat → List (List Nat)
  | 0 => [[]]
  | i + 1 => lotsN i ++ (lotsN i).map (· ++ [i])
theorem lotsN_len : ∀ i, (lotsN i).length = 2 ^ i
  | 0 => rfl
  | i + 1 => by
    show (lotsN i ++ (lotsN i).map (· ++ [i])).length = _
    rw [List.length_append, List.length_map, lotsN_len i, Nat.pow_succ]
    omega
theorem lotsN_head : ∀ i, ∃ r, lotsN i = [] :: r
  | 0 => ⟨[], rfl⟩
  | i + 1 => by
    obtain ⟨r, e⟩ := lotsN_head i
    exact ⟨r ++ (lotsN i).map (· ++ [i]), by show lotsN i ++ _ = _; rw [e]; rfl⟩
theorem mem_lotsN : ∀ {i : Nat} {l : List Nat}, l ∈ lotsN i ↔ LotOk i l
  | 0, l => by
    show l ∈ [[]] ↔ _
    rw [List.mem_singleton]
    constructor
    · rintro rfl
      exact ⟨fun k (hk : k ∈ []) => absurd hk (by simp), List.Pairwise.nil⟩
    · intro h
      cases l with
      | nil => rfl
      | cons a r => exact absurd (h.lt a (List.mem_cons_self ..)) (by omega)
  | i + 1, l => by
    show l ∈ lotsN i ++ (lotsN i).map (· ++ [i]) ↔ _
    rw [List.mem_append, List.mem_map]
    constructor
    · rintro (h | ⟨m, hm, rfl⟩)
      · have z := mem_lotsN.mp h
        exact ⟨fun k hk => Nat.lt_succ_of_lt (z.lt k hk), z.up⟩
      · have z := mem_lotsN.mp hm
        refine ⟨fun k hk => ?_, ?_⟩
        · rcases List.mem_append.mp hk with hk | hk
          · exact Nat.lt_succ_of_lt (z.lt k hk)
          · rw [List.mem_singleton.mp hk]
            exact Nat.lt_succ_self i
        · rw [List.pairwise_append]
          refine ⟨z.up, List.pairwise_singleton _ _, fun a ha b hb => ?_⟩
          rw [List.mem_singleton.mp hb]
          exact z.lt a ha
    · intro h
      by_cases c : i ∈ l
      · right
        have hl : l ≠ [] := fun e => by rw [e] at c; cases c
        have e := List.dropLast_concat_getLast hl
        have up := h.up
        rw [← e, List.pairwise_append] at up
        have last : l.getLast hl = i := by
          rw [← e] at c
          rcases List.mem_append.mp c with c | c
          · have y := up.2.2 i c _ (List.mem_singleton.mpr rfl)
            have := h.lt _ (List.getLast_mem hl)
            omega
          · exact (List.mem_singleton.mp c).symm
        rw [last] at e up
        refine ⟨l.dropLast, mem_lotsN.mpr ⟨fun k hk => up.2.2 k hk i (by simp), up.1⟩, e⟩
      · left
        exact mem_lotsN.mpr ⟨fun k hk => by
          have := h.lt k hk
          have : k ≠ i := fun z => c (z ▸ hk)
          omega, h.up⟩
theorem lotsN_nodup : ∀ i, (lotsN i).Nodup
  | 0 => by show ([[]] : List (List Nat)).Nodup; simp
  | i + 1 => by
    show (lotsN i ++ (lotsN i).map (· ++ [i])).Nodup
    rw [List.nodup_append]
    refine ⟨lotsN_nodup i, ?_, ?_⟩
    · show List.Pairwise _ _
      rw [List.pairwise_map]
      exact (lotsN_nodup i).imp fun ne e => ne (List.append_cancel_right e)
    · intro a ha b hb e
      obtain ⟨m, _, rfl⟩ := List.mem_map.mp hb
      have z := (mem_lotsN.mp ha).lt i (by rw [e]; simp)
      omega
/-- all lots, ascending -/
def AllLots (n : Nat) (L : List (List Nat)) : Prop := L.Pairwise ltL ∧ ∀ l, l ∈ L ↔ LotOk n l
def spLots (K : PySem.W.Frag) : Sp := fun vs H Q _ => ∃ (n : Nat), vs = [.int (n : Int)] ∧ n ≤ 9 ∧ ∀ (F : Addr) (xs : List V) (L : List (List Nat)) H', Same H H' → H' F = some (.lst xs) → LotsT H' xs L → AllLots n L → L.length = 2 ^ n → Q (.ref F) H'
section
variable {P : Program} {w : World} {K : PySem.W.Frag} {mg : Str → Option Value} {base : Heap} {f : Addr} {fd : FuncData}
theorem ok_lots (F : L2.Fun K "_law_lots" "_law_lots" sLots f fd) (mr : mg "range" = none) (mso : mg "sorted" = none) : FnOk P w K mg base CX0 1 f fd ["many"] (spLots K) := by
  refine F.ok scLots (fun vs H Q E h => ?_) (fun cdv A outer s H vs Q E hr h => ?_)
  · obtain ⟨n, rfl, _⟩ := h
    rfl
  obtain ⟨n, rfl, n9, q⟩ := h
  refine ⟨_, pss_cons (ps_set (i := 1) scLots.nd rfl (.inl rfl) (pe_lst (pa_cons (pe_tup pa_nil) pa_nil)))
    (pss_cons (ps_for PassesOwn.never rfl (pi_range1 rfl mr (pa_cons (pv 0) pa_nil)) (pg_name (i := 2) scLots.nd rfl (.inr rfl))
      (pss_one (ps_set (i := 1) scLots.nd rfl (.inl rfl) (pe_op op_cat (pv 1) (pe_lc (own := [("lot", 3)]) (g := gName 3) (tt := tYes) rfl scLots.nd (pi_list (pv 1))
        (blkOk_by (N := ["many", "found", "each", "lot"]) (sc := defScope sLots) (by decide +kernel)) (fun _ _ _ _ _ => pg_name (i := 3) scLots.nd rfl (Or.inl rfl)) (fun _ _ _ _ _ => pts_nil)
        (fun _ _ _ _ _ => pe_op (r := rCatA K) op_catA (pv 3) (pe_tup (pa_cons (pv 2) pa_nil))))))))
    (pss_one (ps_ret (pe_callB (cr_sortTI hr.units) (by rfl) mso (by decide +kernel) (pa_cons (pv 1) pa_nil))))), ?_⟩
  refine ⟨(by show 0 ≤ sizeLine; decide), fun t0 nt0 => ⟨(by show 1 ≤ sizeLine; rw [sizeLine_eq]; decide), fun F0 nF0 => ?_⟩⟩
  have s1 := same_new nt0 (.tup [])
  have s2 := same_new nF0 (.lst [V.ref t0])
  have h0 := upd_same (H := upd H t0 (.tup [])) (a := F0) (o := .lst [V.ref t0])
  have x0 : LotT (upd (upd H t0 (.tup [])) F0 (.lst [V.ref t0])) (.ref t0) [] := ⟨t0, rfl, s2 _ _ upd_same⟩
  have s0 := s1.trans s2
  generalize upd (upd H t0 (.tup [])) F0 (.lst [V.ref t0]) = H0 at s0 h0 x0 ⊢
  refine ⟨_, rfl, (n : Int), rfl, by omega, by omega, for_range (lo := 0) (n := ((n : Nat) : Int).toNat) (fun i σ H' => ∃ (F : Addr) (xs : List V) (s2 : Option V), σ = [some (.int (n : Int)), some (.ref F), s2, none] ∧ Same H H' ∧ H' F = some (.lst xs) ∧ LotsT H' xs (lotsN i))
    ⟨F0, [.ref t0], none, rfl, s0, h0, .cons x0 .nil⟩ ?_ ?_⟩
  · rintro i σ H2 li ⟨F, xs, s2', rfl, s2, hF, hl⟩
    have ll := lotsN_len i
    have p8 : 2 ^ i ≤ 2 ^ 8 := Nat.pow_le_pow_right (by decide) (by omega)
    have lx := hl.len
    rw [show (0 : Int) + (i : Int) = (i : Int) by omega]
    refine ⟨_, rfl, _, rfl, F, rfl, ⟨_, SqL.of hF⟩, fun B nB => lo_it (walk_list (xs := xs)) (fun j H4 => Same H2 H4 ∧ ∃ ys, H4 B = some (.lst ys) ∧ LotsT H4 ys (((lotsN i).take j).map (· ++ [i]))) ⟨same_new nB _, [], upd_same, .nil⟩ (fun j H4 _ ⟨s4, _⟩ => SqL.of (s4 _ _ hF)) ?_ ?_⟩
    · rintro j x _ H4 lj ⟨s4, ys, hB, hy⟩ ⟨rfl, hj⟩
      obtain ⟨l, e, hx⟩ := hl.get hj
      have hx4 := hx.same s4
      obtain ⟨t, rfl, ht⟩ := hx4
      refine ⟨rfl, ?_⟩
      refine ⟨_, rfl, _, rfl, (by show 1 ≤ sizeLine; rw [sizeLine_eq]; decide), fun u nu => ?_⟩
      have su := same_new nu (.tup [.int (i : Int)])
      have lm : l.length ≤ 9 := by
        have := (mem_lotsN.mp (List.mem_of_getElem? e)).few
        omega
      have lt : ys.length < 1000 := by rw [hy.len, List.length_map, List.length_take]; omega
      refine ⟨t, u, natV l, _, rfl, rfl, SqT.of (su _ _ ht), SqT.of upd_same, Nat.le_trans (by rw [List.length_cons, List.length_nil]; unfold natV; rw [List.length_map]; omega : _ ≤ 10) (by rw [sizeLine_eq]; decide), fun en => ?_, fun _ en => absurd en (by simp), fun en _ p np => ?_⟩
      · have el : l = [] := by
          cases l with
          | nil => rfl
          | cons a r => cases en
        subst el
        have hB2 := su _ _ hB
        refine ⟨ys, hB2, small1000 (by omega), same_put (s4.trans su) nB, _, upd_same, ?_⟩
        rw [take_succ e, List.map_append]
        have xu : LotT (upd H4 u (.tup [.int (i : Int)])) (.ref u) ([] ++ [i]) := ⟨u, rfl, upd_same⟩
        exact ((hy.same su).put hB2).snoc (xu.put hB2)
      · have sp := same_new np (.tup (natV l ++ [.int (i : Int)]))
        have hB2 := (su.trans sp) _ _ hB
        refine ⟨ys, hB2, small1000 (by omega), same_put (s4.trans (su.trans sp)) nB, _, upd_same, ?_⟩
        rw [take_succ e, List.map_append]
        have xu : LotT (upd (upd H4 u (.tup [.int (i : Int)])) p (.tup (natV l ++ [.int (i : Int)]))) (.ref p) (l ++ [i]) := ⟨p, rfl, by rw [upd_same]; unfold natV; rw [List.map_append]; rfl⟩
        exact ((hy.same (su.trans sp)).put hB2).snoc (xu.put hB2)
    · rintro H4 ⟨s4, ys, hB, hy⟩
      rw [lx, List.take_length] at hy
      refine ⟨F, B, _, _, rfl, rfl, s4 _ _ hF, hB, Nat.le_trans (by rw [hy.len, hl.len, List.length_map]; omega : _ ≤ 1024) (by rw [sizeLine_eq]; decide), fun c nc => ?_⟩
      have sc := same_new nc (.lst (xs ++ ys))
      exact ⟨c, _, _, rfl, s2.trans (s4.trans sc), upd_same, ((hl.same s4).app hy).same sc⟩
  · rintro σ H2 ⟨F, xs, s2', rfl, s2, hF, hl⟩
    rw [Int.toNat_natCast] at hl
    obtain ⟨r, er⟩ := lotsN_head n
    obtain ⟨p1, p2⟩ := lots_sort (K := K) hl (.inl (by rw [er]; exact sortish_nil r))
    refine ⟨_, rfl, F, xs, fun x => natI (kN H2 x), rfl, SqL.of hF, p1, p2, fun ys p so st np => ?_⟩
    obtain ⟨h1, h2, h3⟩ := sorted_lots hl (lotsN_nodup n) so st
    have sp := same_new np (.lst ys)
    exact q p ys _ _ (s2.trans sp) upd_same (h1.same sp) ⟨h2, fun l => h3.mem_iff.trans mem_lotsN⟩ (by rw [h3.length_eq, lotsN_len])
end
end My

/-! x in a row of numbers. -/
namespace My
open PySem PySem.Spec PyProof.Rows L2
theorem inV_k (k : Nat) : ∀ l : List Nat, inV (V.int (k : Int)) (numsN l) = decide (k ∈ l)
  | [] => by simp [inV, numsN]
  | a :: l => by
    have ih := inV_k k l
    unfold inV numsN at ih ⊢
    rw [List.map_cons, List.any_cons, ih]
    by_cases e : a = k
    · subst e; simp [eqV]
    · have : eqV (V.int (a : Int)) (V.int (k : Int)) = false := by
        simp [eqV]
        omega
      rw [this, Bool.false_or]
      simp [Ne.symm e]
theorem flat_k (l : List Nat) : (numsN l).all flatV = true := by
  rw [List.all_eq_true]
  intro v hv
  obtain ⟨k, _, rfl⟩ := List.mem_map.mp hv
  rfl
end My

/-! A ring as it goes round, plain. -/
namespace My
/-- those of l next to z that are not yet told -/
def rdNext (f : Nat → Nat → Bool) (l ts : List Nat) (z : Nat) : List Nat := l.filter fun w => f z w && !decide (w ∈ ts ++ [z])
/-- the vertices told after so many turns, the last one apart -/
def rdRun (f : Nat → Nat → Bool) (l : List Nat) : Nat → Option (List Nat × Nat)
  | 0 => some ([], l.headD 0)
  | k + 1 => match rdRun f l k with
    | none => none
    | some (ts, z) => match rdNext f l ts z with
      | [] => none
      | a :: _ => some (ts ++ [z], a)
def degB (f : Nat → Nat → Bool) (l : List Nat) (v : Nat) : Bool := decide ((l.filter fun w => f v w).length = 2)
def roundL (f : Nat → Nat → Bool) (l : List Nat) : List Nat := if l.length < 4 ∨ l.all (degB f l) = false then [] else match rdRun f l (l.length - 1) with
  | none => []
  | some (ts, z) => ts ++ [z]
theorem run_in {f : Nat → Nat → Bool} {l : List Nat} (ne : l ≠ []) : ∀ {k : Nat} {ts : List Nat} {z : Nat}, rdRun f l k = some (ts, z) → ts.length = k ∧ (∀ v ∈ ts ++ [z], v ∈ l) ∧ (ts ++ [z]).Nodup
  | 0, ts, z, e => by
    cases e
    refine ⟨rfl, fun v hv => ?_, by simp⟩
    have hv : v = l.headD 0 := by simpa using hv
    subst hv
    obtain ⟨b, r, rfl⟩ := List.exists_cons_of_ne_nil ne
    exact List.mem_cons_self ..
  | k + 1, ts, z, e => by
    unfold rdRun at e
    cases e1 : rdRun f l k with
    | none => rw [e1] at e; cases e
    | some tz =>
      obtain ⟨us, y⟩ := tz
      rw [e1] at e
      obtain ⟨h1, h2, h3⟩ := run_in ne e1
      dsimp only at e
      cases e2 : rdNext f l us y with
      | nil => rw [e2] at e; cases e
      | cons a r =>
        rw [e2] at e
        dsimp only at e
        have ⟨e3, e4⟩ : us ++ [y] = ts ∧ a = z := by cases e; exact ⟨rfl, rfl⟩
        subst e3
        subst e4
        have ma : a ∈ rdNext f l us y := by rw [e2]; exact List.mem_cons_self ..
        obtain ⟨m1, m2⟩ := List.mem_filter.mp ma
        have m3 : a ∉ us ++ [y] := by
          rw [Bool.and_eq_true, Bool.not_eq_true', decide_eq_false_iff_not] at m2
          exact m2.2
        refine ⟨by rw [List.length_append, h1]; rfl, fun v hv => ?_, ?_⟩
        · rcases List.mem_append.mp hv with hv | hv
          · exact h2 v hv
          · rw [List.mem_singleton.mp hv]; exact m1
        · exact List.nodup_append.mpr ⟨h3, by simp, fun u hu w hw e => m3 (by rw [← List.mem_singleton.mp hw, ← e]; exact hu)⟩
theorem run_none {f : Nat → Nat → Bool} {l : List Nat} {k : Nat} (h : rdRun f l k = none) : ∀ m, rdRun f l (k + m) = none
  | 0 => h
  | m + 1 => by
    have ih := run_none h m
    show rdRun f l ((k + m) + 1) = none
    unfold rdRun
    rw [ih]
def Steps (f : Nat → Nat → Bool) (c : List Nat) : Prop := ∀ i, i + 1 < c.length → f (c.getD i 0) (c.getD (i + 1) 0) = true
theorem getD_left {c : List Nat} {a i : Nat} (h : i < c.length) : (c ++ [a]).getD i 0 = c.getD i 0 := by
  rw [List.getD_eq_getElem?_getD, List.getD_eq_getElem?_getD, List.getElem?_append_left h]
theorem getD_end (c : List Nat) (a : Nat) : (c ++ [a]).getD c.length 0 = a := by
  rw [List.getD_eq_getElem?_getD, List.getElem?_append_right (Nat.le_refl _), Nat.sub_self]
  rfl
theorem run_adj {f : Nat → Nat → Bool} {l : List Nat} : ∀ {k : Nat} {ts : List Nat} {z : Nat}, rdRun f l k = some (ts, z) → Steps f (ts ++ [z])
  | 0, ts, z, e => by
    cases e
    intro i h
    simp at h
  | k + 1, ts, z, e => by
    unfold rdRun at e
    cases e1 : rdRun f l k with
    | none => rw [e1] at e; cases e
    | some tz =>
      obtain ⟨us, y⟩ := tz
      rw [e1] at e
      have ih := run_adj e1
      dsimp only at e
      cases e2 : rdNext f l us y with
      | nil => rw [e2] at e; cases e
      | cons a r =>
        rw [e2] at e
        dsimp only at e
        have ⟨e3, e4⟩ : us ++ [y] = ts ∧ a = z := by cases e; exact ⟨rfl, rfl⟩
        subst e3
        subst e4
        have ma : a ∈ rdNext f l us y := by rw [e2]; exact List.mem_cons_self ..
        have m2 := (List.mem_filter.mp ma).2
        rw [Bool.and_eq_true] at m2
        intro i hi
        rw [List.length_append, List.length_singleton] at hi
        by_cases c : i + 1 < (us ++ [y]).length
        · rw [getD_left (by omega), getD_left c]
          exact ih i c
        · have ei : i + 1 = (us ++ [y]).length := by omega
          rw [getD_left (by omega), ei, getD_end]
          have e5 : i = us.length := by
            rw [List.length_append, List.length_singleton] at ei
            omega
          rw [e5, getD_end]
          exact m2.1
/-- two places and no third -/
theorem two_only {l : List Nat} {p : Nat → Bool} (nd : l.Nodup) (two : (l.filter p).length = 2) {a b : Nat} (ab : a ≠ b) (ha : a ∈ l) (hb : b ∈ l) (pa : p a = true) (pb : p b = true) {x : Nat} (hx : x ∈ l) (px : p x = true) : x = a ∨ x = b := by
  by_cases h1 : x = a
  · exact .inl h1
  by_cases h2 : x = b
  · exact .inr h2
  exfalso
  have z := sub_few (l := [a, b, x]) (m := l.filter p) (by simp [ab, Ne.symm h1, Ne.symm h2]) fun v hv => by
    simp only [List.mem_cons, List.mem_nil_iff, or_false] at hv
    rcases hv with rfl | rfl | rfl
    · exact List.mem_filter.mpr ⟨ha, pa⟩
    · exact List.mem_filter.mpr ⟨hb, pb⟩
    · exact List.mem_filter.mpr ⟨hx, px⟩
  rw [two] at z
  simp at z
/-- what a round that is told is: all of the lot, each next to the one before, every one with two neighbours in it -/
theorem round_is {f : Nat → Nat → Bool} {l : List Nat} (h : roundL f l ≠ []) : 4 ≤ l.length ∧ l.all (degB f l) = true ∧ (roundL f l).length = l.length ∧ (roundL f l).Nodup ∧ (∀ v ∈ roundL f l, v ∈ l) ∧ Steps f (roundL f l) := by
  have c : ¬ (l.length < 4 ∨ l.all (degB f l) = false) := fun z => h (by unfold roundL; rw [if_pos z])
  have l4 : 4 ≤ l.length := by
    by_cases y : l.length < 4
    · exact absurd (.inl y) c
    · omega
  have al : l.all (degB f l) = true := by
    cases y : l.all (degB f l) with
    | true => rfl
    | false => exact absurd (.inr y) c
  have ne : l ≠ [] := fun z => by rw [z] at l4; exact absurd l4 (by decide)
  have e : roundL f l = match rdRun f l (l.length - 1) with
    | none => []
    | some (ts, z) => ts ++ [z] := by
    unfold roundL
    rw [if_neg c]
  cases e1 : rdRun f l (l.length - 1) with
  | none => rw [e, e1] at h; exact absurd rfl h
  | some tz =>
    obtain ⟨ts, z⟩ := tz
    have e2 : roundL f l = ts ++ [z] := by rw [e, e1]
    obtain ⟨r1, r2, r3⟩ := run_in ne e1
    rw [e2]
    refine ⟨l4, al, ?_, r3, r2, run_adj e1⟩
    rw [List.length_append, List.length_singleton, r1]
    omega
/-- side by side on a ring of so many -/
def Beside (m i j : Nat) : Prop := i + 1 = j ∨ j + 1 = i ∨ (i = 0 ∧ j + 1 = m) ∨ (j = 0 ∧ i + 1 = m)
/-- a round that is told is a ring: its vertices are those of the lot, and two of them are adjacent if they are side by side -/
theorem ring_is {f : Nat → Nat → Bool} {l : List Nat} (nd : l.Nodup) (sym : ∀ u v, f u v = f v u) (irr : ∀ v, f v v = false) (h : roundL f l ≠ []) :
    (∀ v, v ∈ roundL f l ↔ v ∈ l) ∧ ∀ i j, i < l.length → j < l.length → (f ((roundL f l).getD i 0) ((roundL f l).getD j 0) = true ↔ Beside l.length i j) := by
  obtain ⟨l4, al, len, cnd, sub, st⟩ := round_is h
  generalize roundL f l = c at len cnd sub st
  have sup : ∀ v ∈ l, v ∈ c := fun v hv => by
    by_cases y : v ∈ c
    · exact y
    · have z := sub_few (l := v :: c) (m := l) (List.nodup_cons.mpr ⟨y, cnd⟩) fun x hx => by
        rcases List.mem_cons.mp hx with rfl | hx
        · exact hv
        · exact sub x hx
      rw [List.length_cons] at z
      omega
  have at_ : ∀ i (hi : i < l.length), c.getD i 0 = c[i]'(by omega) := fun i hi => by
    rw [List.getD_eq_getElem?_getD, List.getElem?_eq_getElem (by omega)]
    rfl
  have inC : ∀ i, i < l.length → c.getD i 0 ∈ c := fun i hi => by rw [at_ i hi]; exact List.getElem_mem _
  have inL : ∀ i, i < l.length → c.getD i 0 ∈ l := fun i hi => sub _ (inC i hi)
  have inj : ∀ i j, i < l.length → j < l.length → i ≠ j → c.getD i 0 ≠ c.getD j 0 := fun i j hi hj ne e => by
    rw [at_ i hi, at_ j hj] at e
    rcases Nat.lt_or_gt_of_ne ne with y | y
    · exact List.pairwise_iff_getElem.mp cnd i j (by omega) (by omega) y e
    · exact List.pairwise_iff_getElem.mp cnd j i (by omega) (by omega) y e.symm
  have place : ∀ v ∈ l, ∃ k, k < l.length ∧ c.getD k 0 = v := fun v hv => by
    obtain ⟨k, hk, e⟩ := List.getElem_of_mem (sup v hv)
    exact ⟨k, by omega, by rw [at_ k (by omega)]; exact e⟩
  have two : ∀ i, i < l.length → (l.filter (f (c.getD i 0))).length = 2 := fun i hi => of_decide_eq_true (List.all_eq_true.mp al _ (inL i hi))
  have nx : ∀ i, i + 1 < l.length → f (c.getD i 0) (c.getD (i + 1) 0) = true := fun i hi => st i (by omega)
  have pv : ∀ i, i + 1 < l.length → f (c.getD (i + 1) 0) (c.getD i 0) = true := fun i hi => by rw [sym]; exact nx i hi
  have same : ∀ i j, i < l.length → j < l.length → c.getD i 0 = c.getD j 0 → i = j := fun i j hi hj e => by
    by_cases y : i = j
    · exact y
    · exact absurd e (inj i j hi hj y)
  have mid : ∀ i j, i + 2 < l.length → j < l.length → f (c.getD (i + 1) 0) (c.getD j 0) = true → j = i ∨ j = i + 2 := fun i j hi hj e => by
    rcases two_only nd (two (i + 1) (by omega)) (inj i (i + 2) (by omega) hi (by omega)) (inL i (by omega)) (inL (i + 2) hi) (pv i (by omega)) (nx (i + 1) hi) (inL j hj) e with z | z
    · exact .inl (same j i hj (by omega) z)
    · exact .inr (same j (i + 2) hj hi z)
  obtain ⟨x, hx, fx, nx1⟩ : ∃ x ∈ l, f (c.getD 0 0) x = true ∧ x ≠ c.getD 1 0 := by
    have t0 := two 0 (by omega)
    have fnd : (l.filter (f (c.getD 0 0))).Nodup := nd.filter _
    match e : l.filter (f (c.getD 0 0)), t0, fnd with
    | [a, b], _, fnd =>
      have ma : a ∈ l.filter (f (c.getD 0 0)) := by rw [e]; simp
      have mb : b ∈ l.filter (f (c.getD 0 0)) := by rw [e]; simp
      have ab : a ≠ b := by simpa using fnd
      obtain ⟨a1, a2⟩ := List.mem_filter.mp ma
      obtain ⟨b1, b2⟩ := List.mem_filter.mp mb
      by_cases y : a = c.getD 1 0
      · exact ⟨b, b1, b2, fun z => ab (y.trans z.symm)⟩
      · exact ⟨a, a1, a2, y⟩
  obtain ⟨k, hk, rfl⟩ := place x hx
  have k0 : k ≠ 0 := fun z => by rw [z, irr] at fx; cases fx
  have k1 : k ≠ 1 := fun z => nx1 (by rw [z])
  have km : k + 1 = l.length := by
    by_cases y : k + 1 < l.length
    · obtain ⟨k', rfl⟩ : ∃ k', k = k' + 1 := ⟨k - 1, by omega⟩
      rcases mid k' 0 (by omega) (by omega) (by rw [sym]; exact fx) with z | z <;> omega
    · omega
  have f0 : ∀ j, j < l.length → f (c.getD 0 0) (c.getD j 0) = true → j = 1 ∨ j + 1 = l.length := fun j hj e => by
    rcases two_only nd (two 0 (by omega)) (inj 1 k (by omega) hk (Ne.symm k1)) (inL 1 (by omega)) (inL k hk) (nx 0 (by omega)) fx (inL j hj) e with z | z
    · exact .inl (same j 1 hj (by omega) z)
    · have := same j k hj hk z
      omega
  have fl : ∀ j, j < l.length → f (c.getD k 0) (c.getD j 0) = true → j = 0 ∨ j + 1 = k := fun j hj e => by
    obtain ⟨k', rfl⟩ : ∃ k', k = k' + 1 := ⟨k - 1, by omega⟩
    rcases two_only nd (two (k' + 1) hk) (inj 0 k' (by omega) (by omega) (by omega)) (inL 0 (by omega)) (inL k' (by omega)) (by rw [sym]; exact fx) (pv k' hk) (inL j hj) e with z | z
    · exact .inl (same j 0 hj (by omega) z)
    · have := same j k' hj (by omega) z
      omega
  refine ⟨fun v => ⟨sub v, sup v⟩, fun i j hi hj => ⟨fun e => ?_, fun b => ?_⟩⟩
  · by_cases i0 : i = 0
    · subst i0
      rcases f0 j hj e with z | z
      · exact .inl z.symm
      · exact .inr (.inr (.inl ⟨rfl, z⟩))
    · by_cases im : i + 1 = l.length
      · have ik : i = k := by omega
        subst ik
        rcases fl j hj e with z | z
        · exact .inr (.inr (.inr ⟨z, im⟩))
        · exact .inr (.inl z)
      · obtain ⟨i', rfl⟩ : ∃ i', i = i' + 1 := ⟨i - 1, by omega⟩
        rcases mid i' j (by omega) hj e with z | z
        · exact .inr (.inl (by omega))
        · exact .inl (by omega)
  · rcases b with z | z | ⟨z1, z2⟩ | ⟨z1, z2⟩
    · subst z
      exact nx i hj
    · subst z
      exact pv j hi
    · subst z1
      have jk : j = k := by omega
      subst jk
      exact fx
    · subst z1
      have ik : i = k := by omega
      subst ik
      rw [sym]
      exact fx
end My

set_option maxHeartbeats 8000000
namespace My
open PySem PySem.Spec PyProof.Rows L2
abbrev sRnd : Stmt := top 52
theorem scRnd : FnScope ["rows", "lot", "told", "before", "turn", "ahead", "one", "two", "each"] ["rows", "lot"] (defScope sRnd) := ⟨rfl, rfl, rfl, by decide +kernel, rfl, by decide +kernel, by decide +kernel⟩
def spRnd (K : PySem.W.Frag) : Sp := fun vs H Q _ => ∃ (D t : Addr) (n : Nat) (f : Nat → Nat → Bool) (rs : List Addr) (l : List Nat), vs = [.ref D, .ref t] ∧ TabR H D n f rs ∧ SqT K H t (numsN l) ∧ (∀ k ∈ l, k < n) ∧ l.length ≤ 9 ∧
  ∀ (r : Addr) H', Same H H' → H' r = some (.tup (numsN (roundL f l))) → Q (.ref r) H'
theorem last_n (ts : List Nat) (z : Nat) : atI (numsN (ts ++ [z])) (-1) = some (.int (z : Int)) := by
  rw [numsN_app]
  exact atI_last (numsN ts) _
section
variable {P : Program} {w : World} {K : PySem.W.Frag} {mg : Str → Option Value} {base : Heap} {f : Addr} {fd : FuncData}
theorem ok_round (F : L2.Fun K "_law_round" "_law_round" sRnd f fd) (mr : mg "range" = none) (ml : mg "len" = none) (ma : mg "all" = none) (mt : mg "tuple" = none) : FnOk P w K mg base CX0 1 f fd ["rows", "lot"] (spRnd K) := by
  refine F.ok scRnd (fun vs H Q E h => ?_) (fun cdv A outer s0 H vs Q E hr h => ?_)
  · obtain ⟨D, t, n, ff, rs, l, rfl, _⟩ := h
    rfl
  obtain ⟨D, t, n, ff, rs, l, rfl, T, ht, lt, l9, q⟩ := h
  refine ⟨_, pss_cons (ps_if (PW.pt (pw_or (pt_cmpR op_lt (pe_callB call_len_seq (by rfl) ml PySem.boot_len (pa_cons (pv 1) pa_nil)) pe_int (nomark _)) (pw_or1 (pt_not (pt_val (pe_callB (cr_all rfl) (by rfl) ma (by decide +kernel) (pa_cons (pe_lc (own := [("one", 6)]) (g := gName 6) (tt := tYes) (te := tOp rEq (tCB (rLenZ K) (tCons (tLc (iTup K (tVar 1)) (gName 7) (tB (tOp (rIxL K) (tOp (rIxL K) (tVar 0) (tVar 6)) (tVar 7))) (tVar 7) [7]) tNil)) (tC (.int 2))) rfl scRnd.nd (pi_tup (pv 1))
          (blkOk_by (N := ["rows", "lot", "told", "before", "turn", "ahead", "one", "two", "each"]) (sc := defScope sRnd) (by decide +kernel)) (fun _ _ _ _ _ => pg_name (i := 6) scRnd.nd rfl (Or.inr rfl)) (fun _ _ _ _ _ => pts_nil)
          (fun _ _ _ _ _ => pe_cmpR (r := rEq) op_eq (pe_callB (id := "len") (r := rLenZ K) call_len_seq (by rfl) ml PySem.boot_len (pa_cons (pe_lc (own := [("two", 7)]) (g := gName 7) (tt := tB (tOp (rIxL K) (tOp (rIxL K) (tVar 0) (tVar 6)) (tVar 7))) rfl scRnd.nd (pi_tup (pv 1))
            (blkOk_by (N := ["rows", "lot", "told", "before", "turn", "ahead", "one", "two", "each"]) rfl) (fun _ _ _ _ _ => pg_name (i := 7) scRnd.nd rfl (Or.inl rfl))
            (fun _ _ _ _ _ => pts_one (pt_val (pe_ix (r := rIxL K) ix_list (pe_ix (r := rIxL K) ix_list (pv 0) (pv 6) (fun _ _ => rfl)) (pv 7) (fun _ _ => rfl))))
            (fun _ _ _ _ _ => pv 7)) pa_nil)) pe_int (nomark _))) pa_nil)))))))
        (pss_one (ps_ret (pe_tup pa_nil))) pss_nil)
    (pss_cons (ps_asg (pe_tup (pa_cons (pe_lst (pa_cons (pe_ix (r := rIxT K) ix_tup (pv 1) pe_int (fun _ _ => rfl)) pa_nil)) (pa_cons (pe_un un_neg pe_int) pa_nil))) (pg_tup (by rfl) (pgs_cons (pg_name (i := 2) scRnd.nd rfl (.inr rfl)) (pgs_cons (pg_name (i := 3) scRnd.nd rfl (.inr rfl)) pgs_nil))))
    (pss_cons (ps_for PassesOwn.never rfl (pi_range1 (by rfl) mr (pa_cons (pe_op op_sub (pe_callB call_len_seq (by rfl) ml PySem.boot_len (pa_cons (pv 1) pa_nil)) pe_int) pa_nil)) (pg_name (i := 4) scRnd.nd rfl (.inl rfl))
      (pss_cons (ps_setLc (i := 5) (own := [("each", 8)]) (g := gName 8) (tt := tAnd (tB (tOp (rIxL K) (tOp (rIxL K) (tVar 0) (tOp (rIxL K) (tVar 2) (tUn (rU fun i => .int (-i)) (tC (.int 1))))) (tVar 8))) (tAnd (tTest (tOp rNe (tVar 8) (tVar 3))) (tTest (tOp (rIn K true) (tVar 8) (tVar 2))))) rfl scRnd.nd rfl rfl (sw_true rfl rfl rfl (by decide +kernel)) (pi_tup (pv 1))
        (blkOk_by (N := ["rows", "lot", "told", "before", "turn", "ahead", "one", "two", "each"]) (sc := defScope sRnd) (by decide +kernel)) (fun _ _ _ _ _ => pg_name (i := 8) scRnd.nd rfl (Or.inl rfl))
        (fun _ _ _ _ _ => pts_one (PW.pt (pw_and (pt_val (pe_ix (r := rIxL K) ix_list (pe_ix (r := rIxL K) ix_list (pv 0) (pe_ix (r := rIxL K) ix_list (pv 2) (pe_un un_neg pe_int) (fun _ _ => rfl)) (fun _ _ => rfl)) (pv 8) (fun _ _ => rfl))) (pw_and (pt_cmpR op_ne (pv 8) (pv 3) (nomark _)) (pw_and1 (pt_cmpR (r := rIn K true) op_notIn_seq (pv 8) (pv 2) (by rfl)))))))
        (fun _ _ _ _ _ => pv 8))
      (pss_cons (ps_if (pt_cmpR (op_eqD hr.units) (pv 5) (pe_lst pa_nil) (nomark _)) (pss_one (ps_ret (pe_tup pa_nil))) pss_nil)
      (pss_cons (ps_set (i := 3) scRnd.nd rfl (.inr rfl) (pe_ix (r := rIxL K) ix_list (pv 2) (pe_un un_neg pe_int) (fun _ _ => rfl)))
      (pss_one (ps_expr (pe_bm PySem.F.plainAttrs_list PySem.F.slot_list_append PySem.F.type_list_append mt_append (pv 2) (pa_cons (pe_ix (r := rIxL K) ix_list (pv 5) pe_int (fun _ _ => rfl)) pa_nil))))))))
    (pss_one (ps_ret (pe_callTy call_tuple_of (by rfl) mt (by decide +kernel) (pa_cons (pv 2) pa_nil)))))), ?_⟩
  have line : ∀ k, k ≤ 1000 → k ≤ sizeLine := fun k hk => small hk
  have out : ∀ H', Same H H' → roundL ff l = [] → ∀ r, H' r = none → Q (.ref r) (upd H' r (.tup [])) := fun H' s' e r nr => q r _ (s'.trans (same_new nr _)) (by rw [upd_same, e]; rfl)
  refine ⟨_, rfl, t, _, rfl, .inr ht, _, _, rfl, rfl, _, rfl, iteB (fun c => ?_) (fun c => ?_)⟩
  · have c := of_decide_eq_true c
    rw [numsN_len] at c
    refine ⟨line 0 (by decide), fun r nr => out H (Same.refl _) ?_ r nr⟩
    unfold roundL
    rw [if_pos (.inl (by omega))]
  have c := of_decide_eq_false c
  rw [numsN_len] at c
  have l4 : 4 ≤ l.length := by omega
  refine ⟨_, rfl, t, rfl, ⟨_, ht⟩, fun B nB => lo_it (walk_tup (xs := numsN l)) (fun i H2 => Same H H2 ∧ H2 B = some (.lst (((l.take i).map (degB ff l)).map V.bl))) ⟨same_new nB _, upd_same⟩ (fun i H2 _ ⟨s2, _⟩ => Same.tup s2 ht) ?_ ?_⟩
  · rintro i y _ H2 li ⟨s2, hB⟩ ⟨rfl, hy⟩
    obtain ⟨v, hv, rfl⟩ := numsN_get hy
    rw [numsN_len] at li
    refine ⟨rfl, ?_⟩
    have ht2 := Same.tup s2 ht
    refine ⟨_, rfl, t, rfl, ⟨_, ht2⟩, fun C nC => lo_it (walk_tup (xs := numsN l)) (fun j H3 => Same H2 H3 ∧ H3 C = some (.lst (numsN ((l.take j).filter fun w => ff v w)))) ⟨same_new nC _, upd_same⟩ (fun j H3 _ ⟨s3, _⟩ => Same.tup s3 ht2) ?_ ?_⟩
    · rintro j y _ H3 lj ⟨s3, hC⟩ ⟨rfl, hy2⟩
      obtain ⟨w, hw, rfl⟩ := numsN_get hy2
      rw [numsN_len] at lj
      have T3 := T.same (s2.trans s3)
      obtain ⟨r, _, hv', row⟩ := T3.get (lt v (List.mem_of_getElem? hv))
      have fl : ((l.take j).filter fun w => ff v w).length ≤ 9 := by
        refine Nat.le_trans (List.length_filter_le _ _) ?_
        rw [List.length_take]
        omega
      refine ⟨rfl, ?_⟩
      refine ⟨_, rfl, _, rfl, D, _, _, _, rfl, rfl, SqL.of T3.hd, atI_nat hv', _, rfl, r, _, _, _, rfl, rfl, SqL.of row, atI_nat (rowV_get _ (lt w (List.mem_of_getElem? hw))), _, rfl, iteB (fun c1 => ?_) (fun c1 => ?_)⟩
      · refine ⟨_, rfl, _, hC, small1000 (by rw [numsN_len]; omega), same_put s3 nC, ?_⟩
        rw [upd_same, take_succ hw, List.filter_append, List.filter_cons_of_pos (p := fun w => ff v w) c1, numsN_app]
        rfl
      · refine ⟨s3, ?_⟩
        rw [hC, take_succ hw, List.filter_append, List.filter_cons_of_neg (p := fun w => ff v w) (by rw [c1]; decide), List.filter_nil, List.append_nil]
    · rintro H3 ⟨s3, hC⟩
      rw [numsN_len, List.take_length] at hC
      refine ⟨C, _, rfl, .inl (SqL.of hC), rfl, _, s3 _ _ hB, small1000 (by rw [List.length_map, List.length_map, List.length_take]; omega), same_put (s2.trans s3) nB, ?_⟩
      rw [upd_same, take_succ hv, List.map_append, List.map_append, numsN_len]
      have ed : decide (V.int (((l.filter fun w => ff v w).length : Nat) : Int) = V.int 2) = degB ff l v := by
        unfold degB
        by_cases h : (l.filter fun w => ff v w).length = 2
        · rw [decide_eq_true h, h]; rfl
        · rw [decide_eq_false h, decide_eq_false (fun z => h (by injection z with z; omega))]
      rw [ed]
      rfl
  rintro H2 ⟨s2, hB⟩
  rw [numsN_len, List.take_length] at hB
  refine ⟨B, _, rfl, SqL.of hB, _, rfl, ?_⟩
  rw [all_id]
  refine iteB (fun c1 => ?_) (fun c1 => ?_)
  · refine ⟨line 0 (by decide), fun r nr => out H2 s2 ?_ r nr⟩
    unfold roundL
    rw [if_pos (.inr (by simpa using c1))]
  have c1 : l.all (degB ff l) = true := by simpa using c1
  have rl : roundL ff l = match rdRun ff l (l.length - 1) with
    | none => []
    | some (ts, z) => ts ++ [z] := by
    unfold roundL
    rw [if_neg (by rw [c1]; simp; omega)]
    all_goals (cases rdRun ff l (l.length - 1) <;> rfl)
  have ne : l ≠ [] := fun z => by rw [z] at l4; exact absurd l4 (by decide)
  have h0 : l[0]? = some (l.headD 0) := by
    cases l with
    | nil => exact absurd rfl ne
    | cons a r => rfl
  have a0 : atI (numsN l) 0 = some (.int ((l.headD 0 : Nat) : Int)) := atI_nat (j := 0) (by unfold numsN; rw [List.getElem?_map, h0]; rfl)
  refine ⟨_, rfl, t, _, 0, _, rfl, rfl, Same.tup s2 ht, a0, line 1 (by decide), fun W nW => ?_⟩
  have sW := same_new nW (.lst [V.int ((l.headD 0 : Nat) : Int)])
  have hW := upd_same (H := H2) (a := W) (o := .lst [V.int ((l.headD 0 : Nat) : Int)])
  have nW0 : H W = none := s2.free nW
  generalize upd H2 W (.lst [V.int ((l.headD 0 : Nat) : Int)]) = H3 at sW hW ⊢
  refine ⟨1, rfl, line 2 (by decide), fun T0 nT0 => ?_⟩
  have sT := same_new nT0 (.tup [.ref W, .int (-1)])
  refine ⟨T0, _, rfl, SqT.of upd_same, rfl, _, _, rfl, _, _, rfl, rfl, ?_⟩
  have s03 := s2.trans (sW.trans sT)
  have hW4 := sT _ _ hW
  generalize upd H3 T0 (.tup [.ref W, .int (-1)]) = H4 at s03 hW4 ⊢
  have e1 : (((l.length : Nat) : Int) - 1).toNat = l.length - 1 := by omega
  refine ⟨_, rfl, t, _, rfl, .inr (Same.tup s03 ht), _, _, rfl, rfl, (((numsN l).length : Nat) : Int) - 1, rfl, by rw [numsN_len]; omega, by rw [numsN_len]; omega, for_range (lo := 0) (n := ((((numsN l).length : Nat) : Int) - 1).toNat) (fun k σ H' => ∃ (ts : List Nat) (z : Nat) (b : Int) (s4 s5 : Option V), σ = [some (.ref D), some (.ref t), some (.ref W), some (.int b), s4, s5, none, none, none] ∧ Same H H' ∧ H' W = some (.lst (numsN (ts ++ [z]))) ∧ rdRun ff l k = some (ts, z) ∧ (b = -1 ∨ ∃ b', b' ∈ ts ∧ b = ((b' : Nat) : Int)))
    ⟨[], l.headD 0, -1, _, _, rfl, s03, hW4, rfl, .inl rfl⟩ ?_ ?_⟩
  · rintro k σ H5 lk ⟨ts, z, b, s4', s5', rfl, s5, hW5, run, hb⟩
    rw [numsN_len, e1] at lk
    rw [Int.zero_add]
    obtain ⟨r1, r2, r3⟩ := run_in ne run
    have ht5 := Same.tup s5 ht
    have ln := last_n ts z
    have zl := r2 z (List.mem_append.mpr (.inr (List.mem_singleton.mpr rfl)))
    refine ⟨_, rfl, t, rfl, ⟨_, ht5⟩, fun B nB => lo_it (walk_tup (xs := numsN l)) (fun j H6 => Same H5 H6 ∧ H6 B = some (.lst (numsN ((l.take j).filter fun w => ff z w && !decide (w ∈ ts ++ [z]))))) ⟨same_new nB _, upd_same⟩ (fun j H6 _ ⟨s6, _⟩ => Same.tup s6 ht5) ?_ ?_⟩
    · rintro j y _ H6 lj ⟨s6, hB⟩ ⟨rfl, hy⟩
      obtain ⟨w, hw, rfl⟩ := numsN_get hy
      rw [numsN_len] at lj
      have T6 := T.same (s5.trans s6)
      have hW6 := s6 _ _ hW5
      obtain ⟨r, _, hv', row⟩ := T6.get (lt z zl)
      have fl : ((l.take j).filter fun w => ff z w && !decide (w ∈ ts ++ [z])).length ≤ 9 := by
        refine Nat.le_trans (List.length_filter_le _ _) ?_
        rw [List.length_take]
        omega
      have no : (ff z w && !decide (w ∈ ts ++ [z])) = false → H6 B = some (.lst (numsN ((l.take (j + 1)).filter fun w => ff z w && !decide (w ∈ ts ++ [z])))) := fun c => by
        rw [hB, take_succ hw, List.filter_append, List.filter_cons_of_neg (p := fun w => ff z w && !decide (w ∈ ts ++ [z])) (by rw [c]; decide), List.filter_nil, List.append_nil]
      refine ⟨rfl, ?_⟩
      refine ⟨_, rfl, _, rfl, 1, rfl, W, _, _, _, rfl, rfl, SqL.of hW6, ln, D, _, _, _, rfl, rfl, SqL.of T6.hd, atI_nat hv', _, rfl, r, _, _, _, rfl, rfl, SqL.of row, atI_nat (rowV_get _ (lt w (List.mem_of_getElem? hw))), _, rfl, iteB (fun c1 => ?_) (fun c1 => ⟨s6, no (by rw [c1]; rfl)⟩)⟩
      refine ⟨_, rfl, _, rfl, rfl, _, rfl, iteB (fun c2 => ?_) (fun c2 => ⟨s6, no ?_⟩)⟩
      · refine ⟨_, rfl, _, rfl, W, numsN (ts ++ [z]), rfl, .inl (SqL.of hW6), rfl, flat_k _, _, rfl, ?_⟩
        rw [if_pos rfl, inV_k]
        refine iteB (fun c3 => ?_) (fun c3 => ⟨s6, no (by rw [c3, Bool.and_false])⟩)
        refine ⟨_, rfl, _, hB, small1000 (by rw [numsN_len]; omega), same_put s6 nB, ?_⟩
        rw [upd_same, take_succ hw, List.filter_append, List.filter_cons_of_pos (p := fun w => ff z w && !decide (w ∈ ts ++ [z])) (by rw [c1, c3]; rfl), numsN_app]
        rfl
      · have eq : V.int (w : Int) = V.int b := by simpa using c2
        have wb : (w : Int) = b := by injection eq
        rcases hb with h | ⟨b', m, h⟩
        · omega
        · have : w = b' := by omega
          subst this
          rw [decide_eq_true (List.mem_append.mpr (.inl m)), Bool.not_true, Bool.and_false]
    rintro H6 ⟨s6, hB⟩
    rw [numsN_len, List.take_length] at hB
    have enx : (l.filter fun w => ff z w && !decide (w ∈ ts ++ [z])) = rdNext ff l ts z := rfl
    rw [enx] at hB
    have hW6 := s6 _ _ hW5
    refine ⟨_, rfl, line 0 (by decide), fun e ne' => ?_⟩
    have se := same_new ne' (.lst [])
    refine ⟨.list (numsD (rdNext ff l ts z)), .list (numsD []), .lst (SqL.of (se _ _ hB)) (numsD_dp _), .lst (SqL.of upd_same) (numsD_dp []), numsD_shL _, numsD_shL [], _, rfl, ?_⟩
    rw [numsD_nilL]
    have s07 := s5.trans (s6.trans se)
    have hW7 := se _ _ hW6
    have hB7 := se _ _ hB
    generalize upd H6 e (.lst []) = H7 at s07 hW7 hB7 ⊢
    refine iteB (fun c2 => ?_) (fun c2 => ?_)
    · refine ⟨line 0 (by decide), fun r nr => out H7 s07 ?_ r nr⟩
      have nn : rdRun ff l (k + 1) = none := by
        unfold rdRun
        rw [run]
        dsimp only
        rw [List.isEmpty_iff.mp c2]
      have z2 := run_none nn (l.length - 1 - (k + 1))
      have e9 : k + 1 + (l.length - 1 - (k + 1)) = l.length - 1 := by
        clear hb
        omega
      rw [e9] at z2
      rw [rl, z2]
    · cases ea : rdNext ff l ts z with
      | nil => rw [ea] at c2; cases c2
      | cons a r =>
        rw [ea] at hB7
        have b0 : atI (numsN (a :: r)) 0 = some (.int (a : Int)) := atI_nat (j := 0) rfl
        have nx : rdRun ff l (k + 1) = some (ts ++ [z], a) := by
          show (match rdRun ff l k with
            | none => none
            | some (ts, z) => match rdNext ff l ts z with
              | [] => none
              | a :: _ => some (ts ++ [z], a)) = _
          rw [run]
          dsimp only
          rw [ea]
        refine ⟨_, rfl, 1, rfl, W, _, _, _, rfl, rfl, SqL.of hW7, ln, ?_⟩
        refine ⟨_, rfl, .inl ⟨rfl, _, SqL.of hW7⟩, _, rfl, B, _, 0, _, rfl, rfl, SqL.of hB7, b0, W, _, _, rfl, rfl, hW7, small1000 (by rw [numsN_len, List.length_append, r1, List.length_singleton]; omega), ?_⟩
        refine ⟨ts ++ [z], a, (z : Int), _, _, rfl, same_put s07 nW0, ?_, nx, .inr ⟨z, List.mem_append.mpr (.inr (List.mem_singleton.mpr rfl)), rfl⟩⟩
        rw [upd_same, numsN_app (ts ++ [z])]
        rfl
  · rintro σ H5 ⟨ts, z, b, s4', s5', rfl, s5, hW5, run, hb⟩
    rw [numsN_len, e1] at run
    refine ⟨_, rfl, W, _, rfl, .inl ⟨SqL.of hW5, fun r nr => q r _ (s5.trans (same_new nr _)) ?_⟩⟩
    rw [upd_same, rl, run]
end
end My

/-! A lot whose graph is a ring is told. -/
namespace My
theorem gD {c : List Nat} {i : Nat} (h : i < c.length) : c.getD i 0 = c[i] := by
  rw [List.getD_eq_getElem?_getD, List.getElem?_eq_getElem h]
  rfl
theorem gD_mem {c : List Nat} {i : Nat} (h : i < c.length) : c.getD i 0 ∈ c := by rw [gD h]; exact List.getElem_mem _
theorem gD_inj {c : List Nat} (nd : c.Nodup) {i j : Nat} (hi : i < c.length) (hj : j < c.length) (e : c.getD i 0 = c.getD j 0) : i = j := by
  rw [gD hi, gD hj] at e
  by_cases y : i = j
  · exact y
  · rcases Nat.lt_or_gt_of_ne y with z | z
    · exact absurd e (List.pairwise_iff_getElem.mp nd i j hi hj z)
    · exact absurd e.symm (List.pairwise_iff_getElem.mp nd j i hj hi z)
theorem gD_place {c : List Nat} {v : Nat} (h : v ∈ c) : ∃ i, i < c.length ∧ c.getD i 0 = v := by
  obtain ⟨i, hi, e⟩ := List.getElem_of_mem h
  exact ⟨i, hi, by rw [gD hi]; exact e⟩
/-- c goes round the ring of l -/
structure RingOf (f : Nat → Nat → Bool) (l c : List Nat) : Prop where
  mem : ∀ v, v ∈ c ↔ v ∈ l
  nd : c.Nodup
  len : c.length = l.length
  adj : ∀ i j, i < c.length → j < c.length → (f (c.getD i 0) (c.getD j 0) = true ↔ Beside c.length i j)
def nextI (m i : Nat) : Nat := if i + 1 = m then 0 else i + 1
def prevI (m i : Nat) : Nat := if i = 0 then m - 1 else i - 1
theorem RingOf.deg {f : Nat → Nat → Bool} {l c : List Nat} (r : RingOf f l c) (nd : l.Nodup) (l4 : 4 ≤ l.length) {v : Nat} (hv : v ∈ l) : (l.filter (f v)).length = 2 := by
  obtain ⟨i, hi, rfl⟩ := gD_place ((r.mem v).mpr hv)
  have len := r.len
  have pn : prevI c.length i < c.length ∧ nextI c.length i < c.length ∧ prevI c.length i ≠ nextI c.length i ∧ ∀ j, j < c.length → (Beside c.length i j ↔ j = prevI c.length i ∨ j = nextI c.length i) := by
    unfold prevI nextI Beside
    refine ⟨by split <;> omega, by split <;> omega, by split <;> split <;> omega, fun j hj => ?_⟩
    split <;> split <;> omega
  obtain ⟨p1, p2, p3, p4⟩ := pn
  have two : ∀ x, x ∈ l.filter (f (c.getD i 0)) ↔ x ∈ [c.getD (prevI c.length i) 0, c.getD (nextI c.length i) 0] := fun x => by
    rw [List.mem_filter]
    simp only [List.mem_cons, List.mem_nil_iff, or_false]
    constructor
    · rintro ⟨hx, e⟩
      obtain ⟨j, hj, rfl⟩ := gD_place ((r.mem x).mpr hx)
      rcases (p4 j hj).mp ((r.adj i j hi hj).mp e) with rfl | rfl
      · exact .inl rfl
      · exact .inr rfl
    · rintro (rfl | rfl)
      · exact ⟨(r.mem _).mp (gD_mem p1), (r.adj i _ hi p1).mpr ((p4 _ p1).mpr (.inl rfl))⟩
      · exact ⟨(r.mem _).mp (gD_mem p2), (r.adj i _ hi p2).mpr ((p4 _ p2).mpr (.inr rfl))⟩
  have n2 : [c.getD (prevI c.length i) 0, c.getD (nextI c.length i) 0].Nodup := by
    have : c.getD (prevI c.length i) 0 ≠ c.getD (nextI c.length i) 0 := fun e => p3 (gD_inj r.nd p1 p2 e)
    simpa using this
  have a := sub_few (nd.filter (f (c.getD i 0))) fun x hx => (two x).mp hx
  have b := sub_few n2 fun x hx => (two x).mpr hx
  simp only [List.length_cons, List.length_nil] at a b
  omega
/-- a part of the ring that holds all neighbours of its vertices is the whole -/
theorem RingOf.whole {f : Nat → Nat → Bool} {l c : List Nat} (r : RingOf f l c) (T : List Nat) {z : Nat} (hz : z ∈ T) (zl : z ∈ l) (cl : ∀ v ∈ T, v ∈ l → ∀ w ∈ l, f v w = true → w ∈ T) : ∀ v ∈ l, v ∈ T := by
  have len := r.len
  have step : ∀ i, i + 1 < c.length → c.getD i 0 ∈ T → c.getD (i + 1) 0 ∈ T := fun i hi h =>
    cl _ h ((r.mem _).mp (gD_mem (by omega))) _ ((r.mem _).mp (gD_mem hi)) ((r.adj i (i + 1) (by omega) hi).mpr (.inl rfl))
  have back : ∀ i, i + 1 < c.length → c.getD (i + 1) 0 ∈ T → c.getD i 0 ∈ T := fun i hi h =>
    cl _ h ((r.mem _).mp (gD_mem hi)) _ ((r.mem _).mp (gD_mem (by omega))) ((r.adj (i + 1) i hi (by omega)).mpr (.inr (.inl rfl)))
  obtain ⟨i0, h0, rfl⟩ := gD_place ((r.mem z).mpr zl)
  have down : ∀ d, d ≤ i0 → c.getD (i0 - d) 0 ∈ T := fun d => by
    induction d with
    | zero => intro _; exact hz
    | succ d ih =>
      intro hd
      have y := ih (by omega)
      have e : i0 - d = (i0 - (d + 1)) + 1 := by omega
      rw [e] at y
      exact back _ (by omega) y
  have zero : c.getD 0 0 ∈ T := by
    have y := down i0 (Nat.le_refl _)
    rw [Nat.sub_self] at y
    exact y
  have all : ∀ i, i < c.length → c.getD i 0 ∈ T := fun i => by
    induction i with
    | zero => intro _; exact zero
    | succ i ih => intro hi; exact step i hi (ih (by omega))
  intro v hv
  obtain ⟨i, hi, rfl⟩ := gD_place ((r.mem v).mpr hv)
  exact all i hi
theorem RingOf.on {f : Nat → Nat → Bool} {l c : List Nat} (r : RingOf f l c) (nd : l.Nodup) (l4 : 4 ≤ l.length) (sym : ∀ u v, f u v = f v u) (irr : ∀ v, f v v = false) {k : Nat} (hk : k + 1 < l.length) {ts : List Nat} {z : Nat} (run : rdRun f l k = some (ts, z)) : rdNext f l ts z ≠ [] := by
  intro e
  have ne : l ≠ [] := fun z => by rw [z] at l4; exact absurd l4 (by decide)
  obtain ⟨r1, r2, r3⟩ := run_in ne run
  have st := run_adj run
  have tl : (ts ++ [z]).length = k + 1 := by rw [List.length_append, r1]; rfl
  have zk : (ts ++ [z]).getD k 0 = z := by rw [← r1]; exact getD_end ts z
  have shut : ∀ w ∈ l, f z w = true → w ∈ ts ++ [z] := fun w hw fw => by
    by_cases y : w ∈ ts ++ [z]
    · exact y
    · have m : w ∈ rdNext f l ts z := List.mem_filter.mpr ⟨hw, by rw [fw, decide_eq_false y]; rfl⟩
      rw [e] at m
      cases m
  generalize ts ++ [z] = T at r2 r3 st tl zk shut
  have zT : z ∈ T := by rw [← zk]; exact gD_mem (by omega)
  have deg := fun {v} (hv : v ∈ l) => r.deg nd l4 hv
  have inl : ∀ i, i ≤ k → T.getD i 0 ∈ l := fun i hi => r2 _ (gD_mem (by omega))
  have two : ∀ i, i + 2 ≤ k → ∀ w ∈ l, f (T.getD (i + 1) 0) w = true → w = T.getD i 0 ∨ w = T.getD (i + 2) 0 := fun i hi w hw fw =>
    two_only nd (deg (inl (i + 1) (by omega))) (fun y => absurd (gD_inj r3 (by omega) (by omega) y) (by omega)) (inl i (by omega)) (inl (i + 2) hi) (by rw [sym]; exact st i (by omega)) (st (i + 1) (by omega)) hw fw
  have pos : 0 < k := by
    rcases Nat.eq_zero_or_pos k with y | y
    · subst y
      exfalso
      have d := deg (r2 z zT)
      have hp : 0 < (l.filter (f z)).length := by omega
      have m := List.getElem_mem hp
      obtain ⟨m1, m2⟩ := List.mem_filter.mp m
      have m3 := shut _ m1 m2
      obtain ⟨i, hi, ei⟩ := gD_place m3
      have i0 : i = 0 := by omega
      subst i0
      rw [← ei, zk, irr] at m2
      cases m2
    · exact y
  -- the last one's other neighbour is the first one
  obtain ⟨k', rfl⟩ : ∃ k', k = k' + 1 := ⟨k - 1, by omega⟩
  have prev : f z (T.getD k' 0) = true := by
    have y := st k' (by omega)
    rw [zk] at y
    rw [sym]
    exact y
  obtain ⟨x, hx, fx, xp⟩ : ∃ x ∈ l, f z x = true ∧ x ≠ T.getD k' 0 := by
    have t0 := deg (r2 z zT)
    have fnd : (l.filter (f z)).Nodup := nd.filter _
    match e : l.filter (f z), t0, fnd with
    | [a, b], _, fnd =>
      have ma : a ∈ l.filter (f z) := by rw [e]; simp
      have mb : b ∈ l.filter (f z) := by rw [e]; simp
      have ab : a ≠ b := by simpa using fnd
      obtain ⟨a1, a2⟩ := List.mem_filter.mp ma
      obtain ⟨b1, b2⟩ := List.mem_filter.mp mb
      by_cases y : a = T.getD k' 0
      · exact ⟨b, b1, b2, fun q => ab (y.trans q.symm)⟩
      · exact ⟨a, a1, a2, y⟩
  obtain ⟨j, hj, rfl⟩ := gD_place (shut x hx fx)
  have jk : j ≠ k' + 1 := fun y => by rw [y, zk, irr] at fx; cases fx
  have jk' : j ≠ k' := fun y => xp (by rw [y])
  have j0 : j = 0 := by
    rcases Nat.eq_zero_or_pos j with y | y
    · exact y
    · obtain ⟨j', rfl⟩ : ∃ j', j = j' + 1 := ⟨j - 1, by omega⟩
      rcases two j' (by omega) z (r2 z zT) (by rw [sym]; exact fx) with q | q
      · rw [← zk] at q
        have := gD_inj r3 (by omega) (by omega) q
        omega
      · rw [← zk] at q
        have := gD_inj r3 (by omega) (by omega) q
        omega
  subst j0
  have closed : ∀ v ∈ T, v ∈ l → ∀ w ∈ l, f v w = true → w ∈ T := fun v hv _ w hw fw => by
    obtain ⟨i, hi, rfl⟩ := gD_place hv
    rcases Nat.eq_zero_or_pos i with y | y
    · subst y
      rcases two_only nd (deg (inl 0 (by omega))) (fun y => absurd (gD_inj r3 (i := 1) (j := k' + 1) (by omega) (by omega) (y.trans zk.symm)) (by omega)) (inl 1 (by omega)) (r2 z zT) (st 0 (by omega)) (by rw [sym]; exact fx) hw fw with q | q
      · rw [q]; exact gD_mem (by omega)
      · rw [q]; exact zT
    · obtain ⟨i', rfl⟩ : ∃ i', i = i' + 1 := ⟨i - 1, by omega⟩
      by_cases q : i' = k'
      · subst q
        rw [zk] at fw
        exact shut w hw fw
      · rcases two i' (by omega) w hw fw with q2 | q2
        · rw [q2]; exact gD_mem (by omega)
        · rw [q2]; exact gD_mem (by omega)
  have all := r.whole T zT (r2 z zT) closed
  have y := sub_few nd all
  omega
/-- a lot whose graph is a ring is told -/
theorem RingOf.told {f : Nat → Nat → Bool} {l c : List Nat} (r : RingOf f l c) (nd : l.Nodup) (l4 : 4 ≤ l.length) (sym : ∀ u v, f u v = f v u) (irr : ∀ v, f v v = false) : roundL f l ≠ [] := by
  have go : ∀ k, k + 1 ≤ l.length → ∃ ts z, rdRun f l k = some (ts, z) := fun k => by
    induction k with
    | zero => intro _; exact ⟨_, _, rfl⟩
    | succ k ih =>
      intro hk
      obtain ⟨ts, z, e⟩ := ih (by omega)
      have n := r.on nd l4 sym irr (by omega) e
      unfold rdRun
      rw [e]
      dsimp only
      cases e2 : rdNext f l ts z with
      | nil => exact absurd e2 n
      | cons a q => exact ⟨_, _, rfl⟩
  obtain ⟨ts, z, e⟩ := go (l.length - 1) (by omega)
  have al : l.all (degB f l) = true := List.all_eq_true.mpr fun v hv => decide_eq_true (r.deg nd l4 hv)
  unfold roundL
  rw [if_neg (by rw [al]; simp; omega), e]
  simp
/-- how a round begins -/
theorem run_first {f : Nat → Nat → Bool} {l : List Nat} : ∀ {k : Nat} {ts : List Nat} {z : Nat}, rdRun f l k = some (ts, z) → (ts ++ [z]).length = k + 1 ∧ (ts ++ [z]).getD 0 0 = l.headD 0 ∧ (0 < k → (ts ++ [z]).getD 1 0 = (rdNext f l [] (l.headD 0)).headD 0)
  | 0, ts, z, e => by
    cases e
    exact ⟨rfl, rfl, fun h => absurd h (by decide)⟩
  | k + 1, ts, z, e => by
    unfold rdRun at e
    cases e1 : rdRun f l k with
    | none => rw [e1] at e; cases e
    | some tz =>
      obtain ⟨us, y⟩ := tz
      rw [e1] at e
      obtain ⟨h0, h1, h2⟩ := run_first e1
      dsimp only at e
      cases e2 : rdNext f l us y with
      | nil => rw [e2] at e; cases e
      | cons a r =>
        rw [e2] at e
        dsimp only at e
        have ⟨e3, e4⟩ : us ++ [y] = ts ∧ a = z := by cases e; exact ⟨rfl, rfl⟩
        subst e3
        subst e4
        refine ⟨by rw [List.length_append, h0]; rfl, by rw [getD_left (by omega)]; exact h1, fun _ => ?_⟩
        by_cases k0 : k = 0
        · subst k0
          have e5 : us = [] ∧ y = l.headD 0 := by
            have z : some (([] : List Nat), l.headD 0) = some (us, y) := e1
            cases z
            exact ⟨rfl, rfl⟩
          obtain ⟨rfl, rfl⟩ := e5
          rw [e2]
          rfl
        · rw [getD_left (by omega)]
          exact h2 (by omega)
/-- it begins at the least vertex, and goes on to the lesser one of its two neighbours -/
theorem round_first {f : Nat → Nat → Bool} {l : List Nat} (up : l.Pairwise (· < ·)) (sym : ∀ u v, f u v = f v u) (irr : ∀ v, f v v = false) (h : roundL f l ≠ []) :
    (∀ v ∈ l, (roundL f l).getD 0 0 ≤ v) ∧ (roundL f l).getD 1 0 < (roundL f l).getD (l.length - 1) 0 := by
  have nd : l.Nodup := up.imp fun z => Nat.ne_of_lt z
  obtain ⟨l4, al, len, cnd, sub, st⟩ := round_is h
  obtain ⟨mm, ri⟩ := ring_is nd sym irr h
  have c : ¬ (l.length < 4 ∨ l.all (degB f l) = false) := fun z => h (by unfold roundL; rw [if_pos z])
  obtain ⟨f0, f1⟩ : (roundL f l).getD 0 0 = l.headD 0 ∧ (roundL f l).getD 1 0 = (rdNext f l [] (l.headD 0)).headD 0 := by
    unfold roundL at h ⊢
    rw [if_neg c] at h ⊢
    cases e1 : rdRun f l (l.length - 1) with
    | none => rw [e1] at h; exact absurd rfl h
    | some tz =>
      obtain ⟨ts, z⟩ := tz
      obtain ⟨_, h1, h2⟩ := run_first e1
      exact ⟨h1, h2 (by omega)⟩
  have ne : l ≠ [] := fun z => by rw [z] at l4; exact absurd l4 (by decide)
  refine ⟨fun v hv => ?_, ?_⟩
  · rw [f0]
    obtain ⟨a, r, rfl⟩ := List.exists_cons_of_ne_nil ne
    rcases List.mem_cons.mp hv with rfl | hv
    · exact Nat.le_refl _
    · exact Nat.le_of_lt ((List.pairwise_cons.mp up).1 v hv)
  · have al1 := (ri 0 (l.length - 1) (by omega) (by omega)).mpr (.inr (.inr (.inl ⟨rfl, by omega⟩)))
    have last_l : (roundL f l).getD (l.length - 1) 0 ∈ l := sub _ (gD_mem (by omega))
    have ne1 : (roundL f l).getD (l.length - 1) 0 ≠ (roundL f l).getD 1 0 := fun e => absurd (gD_inj cnd (by omega) (by omega) e) (by omega)
    have nez : (roundL f l).getD (l.length - 1) 0 ≠ l.headD 0 := fun e => by
      rw [← f0] at e
      exact absurd (gD_inj cnd (by omega) (by omega) e) (by omega)
    rw [f0] at al1
    have m : (roundL f l).getD (l.length - 1) 0 ∈ rdNext f l [] (l.headD 0) := by
      refine List.mem_filter.mpr ⟨last_l, ?_⟩
      rw [al1, decide_eq_false (by simpa using nez)]
      rfl
    have upN : (rdNext f l [] (l.headD 0)).Pairwise (· < ·) := up.filter _
    rw [f1] at ne1 ⊢
    generalize (roundL f l).getD (l.length - 1) 0 = x at m ne1
    cases e : rdNext f l [] (l.headD 0) with
    | nil => rw [e] at m; cases m
    | cons a r =>
      rw [e] at m upN ne1
      rcases List.mem_cons.mp m with z | z
      · exact absurd z ne1
      · exact (List.pairwise_cons.mp upN).1 x z
end My

/-! Graphs of up to nine vertices without odd holes and odd antiholes are perfect, plain. -/
namespace My
open Classical
section
variable {α : Type}
/-! ### more rows than columns -/
def dotL : List Int → List (α → Int) → α → Int
  | c :: cs, r :: rs, v => c * r v + dotL cs rs v
  | _, _, _ => 0
theorem dotL_app : ∀ {c1 : List Int} {r1 : List (α → Int)} (c2 : List Int) (r2 : List (α → Int)) (v : α), c1.length = r1.length → dotL (c1 ++ c2) (r1 ++ r2) v = dotL c1 r1 v + dotL c2 r2 v
  | [], [], c2, r2, v, _ => by simp [dotL]
  | c :: cs, r :: rs, c2, r2, v, h => by
    have ih := dotL_app (c1 := cs) (r1 := rs) c2 r2 v (by simpa using h)
    simp only [List.cons_append, dotL, ih]
    omega
theorem dotL_scale (p : Int) (q : (α → Int) → Int) (r0 : α → Int) (v : α) : ∀ (cs : List Int) (rs : List (α → Int)), cs.length = rs.length → dotL cs (rs.map fun r => fun v => p * r v - q r * r0 v) v = dotL (cs.map (p * ·)) rs v - dotL cs (rs.map fun r => fun _ => q r) v * r0 v
  | [], [], _ => by simp [dotL]
  | c :: cs, r :: rs, h => by
    have ih := dotL_scale p q r0 v cs rs (by simpa using h)
    simp only [List.map_cons, dotL, ih]
    rw [Int.mul_sub, Int.add_mul, Int.mul_assoc p, ← Int.mul_assoc c p, Int.mul_comm c p, Int.mul_assoc p c, Int.mul_assoc c (q r)]
    omega
theorem dotL_const (q : (α → Int) → Int) (v w : α) (h : ∀ r : α → Int, q r = r w) : ∀ (cs : List Int) (rs : List (α → Int)), dotL cs (rs.map fun r => fun _ => q r) v = dotL cs rs w
  | [], _ => by simp [dotL]
  | _ :: _, [] => by simp [dotL]
  | c :: cs, r :: rs => by
    have ih := dotL_const q v w h cs rs
    simp only [List.map_cons, dotL]
    rw [ih, h]
theorem few_cols : ∀ (vs : List α) (rows : List (α → Int)), vs.length < rows.length → ∃ cs : List Int, cs.length = rows.length ∧ (∃ x ∈ cs, x ≠ 0) ∧ ∀ v ∈ vs, dotL cs rows v = 0
  | [], rows, h => by
    refine ⟨rows.map fun _ => 1, by simp, ?_, fun _ z => nomatch z⟩
    cases rows with
    | nil => cases h
    | cons r rs => exact ⟨1, by simp, by decide⟩
  | w :: vs, rows, h => by
    by_cases c : ∀ r ∈ rows, r w = 0
    · obtain ⟨cs, l, nz, z⟩ := few_cols vs rows (by rw [List.length_cons] at h; omega)
      refine ⟨cs, l, nz, fun v hv => ?_⟩
      rcases List.mem_cons.mp hv with rfl | hv
      · clear z nz l h
        induction cs generalizing rows with
        | nil => simp [dotL]
        | cons x cs ih =>
          cases rows with
          | nil => simp [dotL]
          | cons r rs =>
            simp only [dotL]
            rw [c r (List.mem_cons_self ..), ih rs fun r hr => c r (List.mem_cons_of_mem _ hr)]
            simp
      · exact z v hv
    · obtain ⟨r0, m, nz0⟩ : ∃ r ∈ rows, r w ≠ 0 := by
        apply Classical.byContradiction
        intro y
        exact c fun r hr => Classical.byContradiction fun z => y ⟨r, hr, z⟩
      obtain ⟨xs, ys, rfl⟩ := List.append_of_mem m
      obtain ⟨cs, l, ⟨x, hx, xn⟩, z⟩ := few_cols vs ((xs ++ ys).map fun r => fun v => r0 w * r v - r w * r0 v) (by
        simp only [List.length_cons, List.length_append, List.length_map] at h ⊢
        omega)
      rw [List.length_map, List.length_append] at l
      let c1 := cs.take xs.length
      let c2 := cs.drop xs.length
      have e12 : c1 ++ c2 = cs := List.take_append_drop _ _
      have l1 : c1.length = xs.length := by show (cs.take _).length = _; rw [List.length_take]; omega
      have l2 : c2.length = ys.length := by show (cs.drop _).length = _; rw [List.length_drop]; omega
      let d0 : Int := - dotL cs (xs ++ ys) w
      refine ⟨c1.map (r0 w * ·) ++ d0 :: c2.map (r0 w * ·), by simp [l1, l2], ?_, fun v hv => ?_⟩
      · refine ⟨r0 w * x, ?_, Int.mul_ne_zero nz0 xn⟩
        rw [← e12] at hx
        rcases List.mem_append.mp hx with hx | hx
        · exact List.mem_append.mpr (.inl (List.mem_map_of_mem hx))
        · exact List.mem_append.mpr (.inr (List.mem_cons_of_mem _ (List.mem_map_of_mem hx)))
      · rw [dotL_app _ _ _ (by rw [List.length_map, l1])]
        show dotL (c1.map (r0 w * ·)) xs v + (d0 * r0 v + dotL (c2.map (r0 w * ·)) ys v) = 0
        have key : dotL (cs.map (r0 w * ·)) (xs ++ ys) v = dotL (c1.map (r0 w * ·)) xs v + dotL (c2.map (r0 w * ·)) ys v := by
          rw [← e12, List.map_append, dotL_app _ _ _ (by rw [List.length_map, l1])]
        have goal : dotL (cs.map (r0 w * ·)) (xs ++ ys) v + d0 * r0 v = 0 := by
          rcases List.mem_cons.mp hv with rfl | hv
          · have sc : ∀ (cs : List Int) (rs : List (α → Int)), dotL (cs.map (r0 v * ·)) rs v = r0 v * dotL cs rs v := fun cs => by
              induction cs with
              | nil => intro rs; simp [dotL]
              | cons c cs ih =>
                intro rs
                cases rs with
                | nil => simp [dotL]
                | cons r rs =>
                  simp only [List.map_cons, dotL, ih, Int.mul_add, Int.mul_assoc]
            rw [sc]
            show r0 v * dotL cs (xs ++ ys) v + -dotL cs (xs ++ ys) v * r0 v = 0
            rw [Int.neg_mul, Int.mul_comm]
            omega
          · have y := z v hv
            rw [dotL_scale (r0 w) (fun r => r w) r0 v cs (xs ++ ys) (by rw [l, List.length_append]), dotL_const (fun r => r w) v w (fun _ => rfl)] at y
            show dotL (cs.map (r0 w * ·)) (xs ++ ys) v + -dotL cs (xs ++ ys) w * r0 v = 0
            rw [Int.neg_mul]
            omega
        omega
end
/-! ### rows of noughts and ones -/
def dotN : List Int → List Nat → Int
  | c :: cs, w :: ws => c * (w : Int) + dotN cs ws
  | _, _ => 0
theorem dot_sum (S : List (Nat → Bool)) : ∀ (cs : List Int) (B : List Nat), cs.length = S.length → (∀ v ∈ B, dotL cs (S.map fun s => fun v => if s v = true then (1 : Int) else 0) v = 0) → dotN cs (S.map fun s => (B.filter s).length) = 0 := by
  have key : ∀ (cs : List Int) (S : List (Nat → Bool)) (B : List Nat), dotN cs (S.map fun s => (B.filter s).length) = (B.map fun v => dotL cs (S.map fun s => fun v => if s v = true then (1 : Int) else 0) v).sum := fun cs => by
    induction cs with
    | nil =>
      intro S B
      simp only [dotN, dotL]
      induction B with
      | nil => rfl
      | cons b B ih => rw [List.map_cons, List.sum_cons, ← ih]; rfl
    | cons c cs ih =>
      intro S B
      cases S with
      | nil =>
        simp only [List.map_nil, dotN, dotL]
        induction B with
        | nil => rfl
        | cons b B ih2 => rw [List.map_cons, List.sum_cons, ← ih2]; rfl
      | cons s S =>
        simp only [List.map_cons, dotN, dotL]
        rw [ih]
        clear ih
        induction B with
        | nil => simp
        | cons b B ih2 =>
          simp only [List.map_cons, List.sum_cons, List.filter_cons]
          by_cases y : s b = true
          · rw [if_pos y, if_pos y, List.length_cons]
            have e : c * (((B.filter s).length + 1 : Nat) : Int) = c * ((B.filter s).length : Int) + c * 1 := by
              rw [← Int.mul_add]
              rfl
            rw [e]
            omega
          · rw [if_neg y, if_neg y]
            simp only [Int.mul_zero]
            omega
  intro cs B _ h
  rw [key]
  clear key
  induction B with
  | nil => rfl
  | cons b B ih => rw [List.map_cons, List.sum_cons, h b (List.mem_cons_self ..), ih fun v hv => h v (List.mem_cons_of_mem _ hv)]; rfl
theorem ones_sum : ∀ {cs : List Int} {ws : List Nat}, cs.length = ws.length → (∀ w ∈ ws, w ≤ 1) → ws.sum = ws.length → dotN cs ws = cs.sum ∧ ∀ w ∈ ws, w = 1
  | [], [], _, _, _ => ⟨rfl, fun _ z => nomatch z⟩
  | c :: cs, w :: ws, l, h, s => by
    have h1 := h w (List.mem_cons_self ..)
    have low : ∀ {ws : List Nat}, (∀ w ∈ ws, w ≤ 1) → ws.sum ≤ ws.length := fun {ws} h => by
      induction ws with
      | nil => exact Nat.le_refl _
      | cons a r ih =>
        have := ih fun w hw => h w (List.mem_cons_of_mem _ hw)
        have := h a (List.mem_cons_self ..)
        rw [List.sum_cons, List.length_cons]
        omega
    have h2 := low fun w hw => h w (List.mem_cons_of_mem _ hw)
    rw [List.sum_cons, List.length_cons] at s
    have w1 : w = 1 := by omega
    subst w1
    obtain ⟨i1, i2⟩ := ones_sum (cs := cs) (ws := ws) (by simpa using l) (fun w hw => h w (List.mem_cons_of_mem _ hw)) (by omega)
    refine ⟨?_, fun w hw => ?_⟩
    · simp only [dotN, List.sum_cons, i1]
      omega
    · rcases List.mem_cons.mp hw with rfl | hw
      · rfl
      · exact i2 w hw
theorem one_out : ∀ {cs : List Int} {ws : List Nat} {i : Nat}, cs.length = ws.length → (∀ w ∈ ws, w ≤ 1) → ws.sum + 1 = ws.length → ws[i]? = some 0 → ∃ c, cs[i]? = some c ∧ dotN cs ws = cs.sum - c
  | [], [], _, _, _, s, _ => by simp at s
  | c :: cs, w :: ws, 0, l, h, s, e => by
    have w0 : w = 0 := by simpa using e
    subst w0
    rw [List.sum_cons, List.length_cons] at s
    obtain ⟨i1, _⟩ := ones_sum (cs := cs) (ws := ws) (by simpa using l) (fun w hw => h w (List.mem_cons_of_mem _ hw)) (by omega)
    refine ⟨c, rfl, ?_⟩
    simp only [dotN, List.sum_cons, i1]
    omega
  | c :: cs, w :: ws, i + 1, l, h, s, e => by
    rw [List.sum_cons, List.length_cons] at s
    have h1 := h w (List.mem_cons_self ..)
    have e' : ws[i]? = some 0 := by simpa using e
    have w1 : w = 1 := by
      rcases Nat.lt_or_ge w 1 with y | y
      · exfalso
        have z := (ones_sum (cs := cs) (ws := ws) (by simpa using l) (fun w hw => h w (List.mem_cons_of_mem _ hw)) (by omega)).2 0 (List.mem_of_getElem? e')
        cases z
      · omega
    subst w1
    obtain ⟨d, h2, h3⟩ := one_out (cs := cs) (ws := ws) (by simpa using l) (fun w hw => h w (List.mem_cons_of_mem _ hw)) (by omega) e'
    refine ⟨d, by simpa using h2, ?_⟩
    simp only [dotN, List.sum_cons, h3]
    omega
/-! ### cliques, stable sets, colours -/
def CliqF (f : Nat → Nat → Bool) (l : List Nat) : Prop := ∀ u ∈ l, ∀ v ∈ l, u ≠ v → f u v = true
def StabF (f : Nat → Nat → Bool) (l : List Nat) : Prop := ∀ u ∈ l, ∀ v ∈ l, f u v = false
def ColF (f : Nat → Nat → Bool) (V : List Nat) (k : Nat) : Prop := ∃ c : Nat → Nat, (∀ u ∈ V, c u < k) ∧ ∀ u ∈ V, ∀ v ∈ V, f u v = true → c u ≠ c v
/-- no clique of V has more than k vertices -/
def Most (f : Nat → Nat → Bool) (V : List Nat) (k : Nat) : Prop := ∀ B : List Nat, B.Nodup → (∀ v ∈ B, v ∈ V) → CliqF f B → B.length ≤ k
theorem ColF.mono {f : Nat → Nat → Bool} {V : List Nat} {j k : Nat} (h : ColF f V j) (jk : j ≤ k) : ColF f V k := by
  obtain ⟨c, h1, h2⟩ := h
  exact ⟨c, fun u hu => Nat.lt_of_lt_of_le (h1 u hu) jk, h2⟩
theorem pick_fun {p : Nat → (Nat → Nat) → Prop} (h : ∀ v, ∃ c, p v c) : ∃ F : Nat → Nat → Nat, ∀ v, p v (F v) := ⟨fun v => Classical.choose (h v), fun v => Classical.choose_spec (h v)⟩
theorem one_few {f : Nat → Nat → Bool} {s : Nat → Bool} (st : ∀ u v, s u = true → s v = true → f u v = false) {B : List Nat} (nd : B.Nodup) (cl : CliqF f B) : (B.filter s).length ≤ 1 := by
  have nf : (B.filter s).Nodup := nd.filter _
  match e : B.filter s, nf with
  | [], _ => exact Nat.zero_le _
  | [a], _ => exact Nat.le_refl _
  | a :: b :: r, nf =>
    exfalso
    have ma : a ∈ B.filter s := by rw [e]; simp
    have mb : b ∈ B.filter s := by rw [e]; simp
    obtain ⟨a1, a2⟩ := List.mem_filter.mp ma
    obtain ⟨b1, b2⟩ := List.mem_filter.mp mb
    have ne : a ≠ b := fun z => by
      rw [List.nodup_cons] at nf
      exact nf.1 (by rw [z]; simp)
    have y := cl a a1 b b1 ne
    rw [st a b a2 b2] at y
    cases y
theorem sum_classes (c : Nat → Nat) (p : Nat → Bool) : ∀ (w : Nat) (B : List Nat), (∀ u ∈ B, p u = true → c u < w) → ((List.range w).map fun j => (B.filter fun u => p u && decide (c u = j)).length).sum = (B.filter p).length := by
  intro w B
  induction B with
  | nil =>
    intro _
    simp only [List.filter_nil, List.length_nil]
    induction w with
    | zero => rfl
    | succ w ih => rw [List.range_succ, List.map_append, List.sum_append, ih (fun _ z => (nomatch z))]; rfl
  | cons b B ih =>
    intro h
    have ih := ih fun u hu => h u (List.mem_cons_of_mem _ hu)
    by_cases pb : p b = true
    · rw [List.filter_cons_of_pos pb, List.length_cons, ← ih]
      have cb := h b (List.mem_cons_self ..) pb
      have step : ∀ w, ((List.range w).map fun j => ((b :: B).filter fun u => p u && decide (c u = j)).length).sum = ((List.range w).map fun j => (B.filter fun u => p u && decide (c u = j)).length).sum + (if c b < w then 1 else 0) := fun w => by
        induction w with
        | zero => simp
        | succ w ih2 =>
          rw [List.range_succ, List.map_append, List.map_append, List.sum_append, List.sum_append, ih2]
          simp only [List.map_cons, List.map_nil, List.sum_cons, List.sum_nil]
          by_cases y : c b = w
          · rw [List.filter_cons_of_pos (by rw [pb, decide_eq_true y]; rfl), List.length_cons, if_neg (by omega), if_pos (by omega)]
            omega
          · rw [List.filter_cons_of_neg (by rw [pb, decide_eq_false y]; decide)]
            by_cases z : c b < w
            · rw [if_pos z, if_pos (by omega)]
              omega
            · rw [if_neg z, if_neg (by omega)]
              omega
      rw [step, if_pos cb]
    · rw [List.filter_cons_of_neg pb, ← ih]
      congr 2
      funext j
      rw [List.filter_cons_of_neg (by simp [pb])]
theorem filter_ne_len {B : List Nat} (nd : B.Nodup) (v : Nat) : (B.filter fun u => decide (u ≠ v)).length + (if v ∈ B then 1 else 0) = B.length := by
  induction B with
  | nil => simp
  | cons b B ih =>
    obtain ⟨nb, nd'⟩ := List.nodup_cons.mp nd
    have ih := ih nd'
    by_cases e : b = v
    · subst e
      rw [if_neg nb] at ih
      rw [List.filter_cons_of_neg (by simp), if_pos (List.mem_cons_self ..), List.length_cons]
      omega
    · rw [List.filter_cons_of_pos (by simp [e]), List.length_cons, List.length_cons]
      have m : (v ∈ b :: B) ↔ v ∈ B := by
        rw [List.mem_cons]
        exact ⟨fun z => z.resolve_left fun y => e y.symm, .inr⟩
      by_cases y : v ∈ B
      · rw [if_pos (m.mpr y)]
        rw [if_pos y] at ih
        omega
      · rw [if_neg (fun z => y (m.mp z))]
        rw [if_neg y] at ih
        omega
theorem both_len {A B : List Nat} (na : A.Nodup) (nb : B.Nodup) : (B.filter fun u => decide (u ∈ A)).length = (A.map fun v => if v ∈ B then 1 else 0).sum := by
  have e : (A.map fun v => if v ∈ B then 1 else 0).sum = (A.filter fun v => decide (v ∈ B)).length := by
    clear na
    induction A with
    | nil => rfl
    | cons a A ih =>
      rw [List.map_cons, List.sum_cons, ih, List.filter_cons]
      by_cases y : a ∈ B
      · rw [if_pos y, if_pos (decide_eq_true y), List.length_cons]
        omega
      · rw [if_neg y, if_neg (by simp [y])]
        omega
  rw [e]
  have a := sub_few (nb.filter fun u => decide (u ∈ A)) (m := A.filter fun v => decide (v ∈ B)) fun x hx => by
    obtain ⟨h1, h2⟩ := List.mem_filter.mp hx
    exact List.mem_filter.mpr ⟨of_decide_eq_true h2, decide_eq_true h1⟩
  have b := sub_few (na.filter fun v => decide (v ∈ B)) (m := B.filter fun u => decide (u ∈ A)) fun x hx => by
    obtain ⟨h1, h2⟩ := List.mem_filter.mp hx
    exact List.mem_filter.mpr ⟨of_decide_eq_true h2, decide_eq_true h1⟩
  omega
/-- a graph that is no more than just not perfect has more vertices than the clique number times the stable number -/
theorem many_of {f : Nat → Nat → Bool} {V A0 B0 : List Nat} {w : Nat} (sym : ∀ u v, f u v = f v u) (irr : ∀ v, f v v = false) (nV : V.Nodup) (w1 : 1 ≤ w) (mo : Most f V w) (nB : B0.Nodup) (B0V : ∀ v ∈ B0, v ∈ V) (cB : CliqF f B0) (lB : B0.length = w)
    (ih : ∀ V' : List Nat, V'.Nodup → (∀ v ∈ V', v ∈ V) → V'.length < V.length → ∀ k, Most f V' k → ColF f V' k) (nc : ¬ ColF f V w) (nA : A0.Nodup) (A0V : ∀ v ∈ A0, v ∈ V) (sA : StabF f A0) (a1 : 1 ≤ A0.length) : A0.length * w < V.length := by
  refine Nat.lt_of_not_le fun few => ?_
  obtain ⟨F, hF⟩ := pick_fun (p := fun v c => v ∈ V → (∀ u ∈ V, u ≠ v → c u < w) ∧ ∀ u ∈ V, ∀ x ∈ V, u ≠ v → x ≠ v → f u x = true → c u ≠ c x) fun v => by
    by_cases hv : v ∈ V
    · have l := filter_ne_len nV v
      rw [if_pos hv] at l
      obtain ⟨c, c1, c2⟩ := ih (V.filter fun u => decide (u ≠ v)) (nV.filter _) (fun u hu => (List.mem_filter.mp hu).1) (by omega) w fun B n s c => mo B n (fun u hu => (List.mem_filter.mp (s u hu)).1) c
      have mem : ∀ u ∈ V, u ≠ v → u ∈ V.filter fun u => decide (u ≠ v) := fun u hu ne => List.mem_filter.mpr ⟨hu, decide_eq_true ne⟩
      exact ⟨c, fun _ => ⟨fun u hu ne => c1 u (mem u hu ne), fun u hu x hx n1 n2 e => c2 u (mem u hu n1) x (mem x hx n2) e⟩⟩
    · exact ⟨fun _ => 0, fun z => absurd z hv⟩
  let T : Nat → Nat → Nat → Bool := fun v j u => (decide (u ∈ V) && decide (u ≠ v)) && decide (F v u = j)
  let fam : List (Nat → Bool) := (fun u => decide (u ∈ A0)) :: A0.flatMap fun v => (List.range w).map (T v)
  have lfl : ∀ A : List Nat, (A.flatMap fun v => (List.range w).map (T v)).length = A.length * w := fun A => by
    induction A with
    | nil => simp
    | cons a A ih => rw [List.flatMap_cons, List.length_append, ih, List.length_map, List.length_range, List.length_cons, Nat.succ_mul]; omega
  have lfam : fam.length = A0.length * w + 1 := by
    show (_ :: _).length = _
    rw [List.length_cons, lfl]
  have memF : ∀ s ∈ fam, (s = fun u => decide (u ∈ A0)) ∨ ∃ v ∈ A0, ∃ j, j < w ∧ s = T v j := fun s hs => by
    rcases List.mem_cons.mp hs with h | h
    · exact .inl h
    · obtain ⟨v, hv, h⟩ := List.mem_flatMap.mp h
      obtain ⟨j, hj, rfl⟩ := List.mem_map.mp h
      exact .inr ⟨v, hv, j, List.mem_range.mp hj, rfl⟩
  have stF : ∀ s ∈ fam, ∀ u x, s u = true → s x = true → f u x = false := fun s hs u x h1 h2 => by
    rcases memF s hs with rfl | ⟨v, hv, j, hj, rfl⟩
    · exact sA u (of_decide_eq_true h1) x (of_decide_eq_true h2)
    · have h1 : ((decide (u ∈ V) && decide (u ≠ v)) && decide (F v u = j)) = true := h1
      have h2 : ((decide (x ∈ V) && decide (x ≠ v)) && decide (F v x = j)) = true := h2
      simp only [Bool.and_eq_true, decide_eq_true_eq] at h1 h2
      cases e : f u x with
      | false => rfl
      | true => exact absurd (h1.2.trans h2.2.symm) ((hF v (A0V v hv)).2 u h1.1.1 x h2.1.1 h1.1.2 h2.1.2 e)
  have avoid : ∀ s ∈ fam, ∃ B : List Nat, B.Nodup ∧ (∀ v ∈ B, v ∈ V) ∧ CliqF f B ∧ B.length = w ∧ ∀ u ∈ B, s u = false := fun s hs => by
    apply Classical.byContradiction
    intro no
    by_cases y : ∃ v ∈ V, s v = true
    · obtain ⟨v0, hv0, sv0⟩ := y
      let V' := V.filter fun u => !s u
      have sm : V'.length < V.length := by
        have z := sub_few (l := v0 :: V') (m := V) (List.nodup_cons.mpr ⟨fun h => (by have := (List.mem_filter.mp h).2; rw [sv0] at this; cases this), nV.filter _⟩) fun x hx => by
          rcases List.mem_cons.mp hx with rfl | hx
          · exact hv0
          · exact (List.mem_filter.mp hx).1
        rw [List.length_cons] at z
        omega
      obtain ⟨c, c1, c2⟩ := ih V' (nV.filter _) (fun u hu => (List.mem_filter.mp hu).1) sm (w - 1) fun B n sb cl => by
        have z := mo B n (fun u hu => (List.mem_filter.mp (sb u hu)).1) cl
        have ne : B.length ≠ w := fun e => no ⟨B, n, fun u hu => (List.mem_filter.mp (sb u hu)).1, cl, e, fun u hu => by
          have := (List.mem_filter.mp (sb u hu)).2
          simpa using this⟩
        omega
      refine nc ⟨fun u => if s u = true then w - 1 else c u, fun u hu => ?_, fun u hu x hx e => ?_⟩
      · by_cases su : s u = true
        · show (if s u = true then w - 1 else c u) < w
          rw [if_pos su]; omega
        · show (if s u = true then w - 1 else c u) < w
          rw [if_neg su]
          have := c1 u (List.mem_filter.mpr ⟨hu, by simp [su]⟩)
          omega
      · show (if s u = true then w - 1 else c u) ≠ (if s x = true then w - 1 else c x)
        by_cases su : s u = true
        · by_cases sx : s x = true
          · rw [stF s hs u x su sx] at e
            cases e
          · rw [if_pos su, if_neg sx]
            have := c1 x (List.mem_filter.mpr ⟨hx, by simp [sx]⟩)
            omega
        · have mu : u ∈ V' := List.mem_filter.mpr ⟨hu, by simp [su]⟩
          by_cases sx : s x = true
          · rw [if_neg su, if_pos sx]
            have := c1 u mu
            omega
          · rw [if_neg su, if_neg sx]
            exact c2 u mu x (List.mem_filter.mpr ⟨hx, by simp [sx]⟩) e
    · refine no ⟨B0, nB, B0V, cB, lB, fun u hu => ?_⟩
      cases e : s u with
      | false => rfl
      | true => exact absurd ⟨u, B0V u hu, e⟩ y
  have total : ∀ B : List Nat, B.Nodup → (∀ v ∈ B, v ∈ V) → B.length = w → (fam.map fun s => (B.filter s).length).sum = A0.length * w := fun B n sb lw => by
    show (((fun u => decide (u ∈ A0)) :: A0.flatMap fun v => (List.range w).map (T v)).map fun s => (B.filter s).length).sum = _
    rw [List.map_cons, List.sum_cons, both_len nA n]
    have rest : ∀ A : List Nat, (∀ v ∈ A, v ∈ V) → (A.map fun v => if v ∈ B then 1 else 0).sum + ((A.flatMap fun v => (List.range w).map (T v)).map fun s => (B.filter s).length).sum = A.length * w := fun A => by
      induction A with
      | nil => intro _; simp
      | cons a A ih =>
        intro hA
        have ih := ih fun v hv => hA v (List.mem_cons_of_mem _ hv)
        rw [List.map_cons, List.sum_cons, List.flatMap_cons, List.map_append, List.sum_append, List.length_cons, Nat.succ_mul]
        have one : (((List.range w).map (T a)).map fun s => (B.filter s).length).sum + (if a ∈ B then 1 else 0) = w := by
          rw [List.map_map]
          have z := sum_classes (F a) (fun u => decide (u ∈ V) && decide (u ≠ a)) w B fun u hu h => by
            simp only [Bool.and_eq_true, decide_eq_true_eq] at h
            exact (hF a (hA a (List.mem_cons_self ..))).1 u h.1 h.2
          have e1 : ((fun s : Nat → Bool => (B.filter s).length) ∘ T a) = fun j => (B.filter fun u => (decide (u ∈ V) && decide (u ≠ a)) && decide (F a u = j)).length := rfl
          rw [e1, z]
          have e2 : (B.filter fun u => decide (u ∈ V) && decide (u ≠ a)) = B.filter fun u => decide (u ≠ a) := by
            refine List.filter_congr fun u hu => ?_
            rw [decide_eq_true (sb u hu), Bool.true_and]
          rw [e2, filter_ne_len n a, lw]
        omega
    have z := rest A0 A0V
    omega
  obtain ⟨cs, lc, ⟨x, hx, xn⟩, zero⟩ := few_cols V (fam.map fun s => fun v => if (s : Nat → Bool) v = true then (1 : Int) else 0) (by rw [List.length_map, lfam]; omega)
  rw [List.length_map] at lc
  have each : ∀ i, i < fam.length → cs[i]? = some cs.sum := fun i hi => by
    obtain ⟨B, n, sb, cl, lw, av⟩ := avoid fam[i] (List.getElem_mem _)
    have z := dot_sum fam cs B lc fun v hv => zero v (sb v hv)
    have ws1 : ∀ y ∈ fam.map fun s => (B.filter s).length, y ≤ 1 := fun y hy => by
      obtain ⟨s, hs, rfl⟩ := List.mem_map.mp hy
      exact one_few (stF s hs) n cl
    obtain ⟨c, h1, h2⟩ := one_out (cs := cs) (ws := fam.map fun s => (B.filter s).length) (i := i) (by rw [List.length_map, lc]) ws1 (by rw [total B n sb lw, List.length_map, lfam]) (by
      rw [List.getElem?_map, List.getElem?_eq_getElem hi]
      have e : B.filter fam[i] = [] := List.filter_eq_nil_iff.mpr fun u hu => by rw [av u hu]; decide
      show some (B.filter fam[i]).length = _
      rw [e]
      rfl)
    rw [z] at h2
    rw [h1]
    congr 1
    omega
  have all : ∀ y ∈ cs, y = cs.sum := fun y hy => by
    obtain ⟨i, hi, e⟩ := List.getElem_of_mem hy
    have z := each i (by omega)
    rw [List.getElem?_eq_getElem hi, e] at z
    exact Option.some.inj z
  have tot : ∀ (ds : List Int) (S : Int), (∀ y ∈ ds, y = S) → ds.sum = (ds.length : Int) * S := fun ds S => by
    induction ds with
    | nil => intro _; simp
    | cons d ds ih =>
      intro h
      rw [List.sum_cons, ih fun y hy => h y (List.mem_cons_of_mem _ hy), h d (List.mem_cons_self ..), List.length_cons]
      have e : ((ds.length + 1 : Nat) : Int) * S = (ds.length : Int) * S + 1 * S := by
        rw [← Int.add_mul]
        rfl
      rw [e]
      omega
  have s0 := tot cs cs.sum all
  have l2 : 2 ≤ cs.length := by
    rw [lc, lfam]
    have := Nat.mul_le_mul a1 w1
    omega
  have sz : cs.sum = 0 := by
    obtain ⟨d, hd⟩ : ∃ d : Nat, cs.length = d + 2 := ⟨cs.length - 2, by omega⟩
    rw [hd] at s0
    have e : ((d + 2 : Nat) : Int) * cs.sum = cs.sum + ((d + 1 : Nat) : Int) * cs.sum := by
      have e2 : ((d + 2 : Nat) : Int) = 1 + ((d + 1 : Nat) : Int) := by omega
      rw [e2, Int.add_mul, Int.one_mul]
    rw [e] at s0
    have z : ((d + 1 : Nat) : Int) * cs.sum = 0 := by omega
    rcases Int.mul_eq_zero.mp z with y | y
    · omega
    · exact y
  exact xn ((all x hx).trans sz)
/-! ### two colours -/
theorem min_ex {p : Nat → Prop} (h : ∃ n, p n) : ∃ n, p n ∧ ∀ m, p m → n ≤ m := by
  obtain ⟨n, hn⟩ := h
  induction n using Nat.strongRecOn with
  | ind n ih =>
    by_cases c : ∃ m, m < n ∧ p m
    · obtain ⟨m, ml, hm⟩ := c
      exact ih m ml hm
    · exact ⟨n, hn, fun m hm => Nat.le_of_not_lt fun z => c ⟨m, z, hm⟩⟩
/-- a walk of so many steps within V -/
def Wlk (f : Nat → Nat → Bool) (V : List Nat) : Nat → Nat → Nat → Prop
  | 0, u, v => u = v ∧ u ∈ V
  | n + 1, u, v => ∃ w, u ∈ V ∧ f u w = true ∧ Wlk f V n w v
section
variable {f : Nat → Nat → Bool} {V : List Nat}
theorem Wlk.fst : ∀ {n u v : Nat}, Wlk f V n u v → u ∈ V
  | 0, _, _, ⟨_, h⟩ => h
  | _ + 1, _, _, ⟨_, h, _⟩ => h
theorem Wlk.app : ∀ {n m u v w : Nat}, Wlk f V n u v → Wlk f V m v w → Wlk f V (n + m) u w
  | 0, m, u, v, w, ⟨e, _⟩, h => by subst e; rw [Nat.zero_add]; exact h
  | n + 1, m, u, v, w, ⟨x, h1, h2, h3⟩, h => by
    rw [Nat.succ_add]
    exact ⟨x, h1, h2, Wlk.app h3 h⟩
theorem Wlk.one {u v : Nat} (hu : u ∈ V) (hv : v ∈ V) (e : f u v = true) : Wlk f V 1 u v := ⟨v, hu, e, rfl, hv⟩
theorem Wlk.rev (sym : ∀ u v, f u v = f v u) : ∀ {n u v : Nat}, Wlk f V n u v → Wlk f V n v u
  | 0, u, v, ⟨e, h⟩ => by subst e; exact ⟨rfl, h⟩
  | n + 1, u, v, ⟨x, h1, h2, h3⟩ => (Wlk.rev sym h3).app (.one h3.fst h1 (by rw [sym]; exact h2))
theorem Wlk.list : ∀ {n u v : Nat}, Wlk f V n u v → ∃ c : Nat → Nat, c 0 = u ∧ c n = v ∧ (∀ i, i ≤ n → c i ∈ V) ∧ ∀ i, i < n → f (c i) (c (i + 1)) = true
  | 0, u, v, ⟨e, h⟩ => ⟨fun _ => u, rfl, e, fun _ _ => h, fun i hi => absurd hi (Nat.not_lt_zero i)⟩
  | n + 1, u, v, ⟨x, h1, h2, h3⟩ => by
    obtain ⟨c, c0, cn, cv, cs⟩ := Wlk.list h3
    refine ⟨fun i => if i = 0 then u else c (i - 1), if_pos rfl, ?_, fun i hi => ?_, fun i hi => ?_⟩
    · show (if n + 1 = 0 then u else c (n + 1 - 1)) = v
      rw [if_neg (by omega)]
      exact cn
    · show (if i = 0 then u else c (i - 1)) ∈ V
      by_cases z : i = 0
      · rw [if_pos z]; exact h1
      · rw [if_neg z]; exact cv (i - 1) (by omega)
    · show f (if i = 0 then u else c (i - 1)) (if i + 1 = 0 then u else c (i + 1 - 1)) = true
      rw [if_neg (show ¬ i + 1 = 0 by omega)]
      by_cases z : i = 0
      · subst z
        rw [if_pos rfl]
        show f u (c 0) = true
        rw [c0]
        exact h2
      · rw [if_neg z]
        have y := cs (i - 1) (by omega)
        rw [show i - 1 + 1 = i by omega] at y
        exact y
theorem seg {n : Nat} {c : Nat → Nat} (cv : ∀ i, i ≤ n → c i ∈ V) (cs : ∀ i, i < n → f (c i) (c (i + 1)) = true) : ∀ (d i : Nat), i + d ≤ n → Wlk f V d (c i) (c (i + d))
  | 0, i, h => ⟨rfl, cv i (by omega)⟩
  | d + 1, i, h => by
    have y := seg cv cs d (i + 1) (by omega)
    rw [show i + 1 + d = i + (d + 1) by omega] at y
    exact ⟨c (i + 1), cv i (by omega), cs i (by omega), y⟩
/-- a ring of five, seven or nine -/
def RingF (f : Nat → Nat → Bool) (V : List Nat) : Prop := ∃ c : List Nat, (c.length = 5 ∨ c.length = 7 ∨ c.length = 9) ∧ c.Nodup ∧ (∀ v ∈ c, v ∈ V) ∧ ∀ i j, i < c.length → j < c.length → (f (c.getD i 0) (c.getD j 0) = true ↔ Beside c.length i j)
theorem two_cols (sym : ∀ u v, f u v = f v u) (irr : ∀ v, f v v = false) (V9 : V.length ≤ 9) (mo : Most f V 2) (no : ¬ RingF f V) : ColF f V 2 := by
  by_cases odd : ∃ k, k % 2 = 1 ∧ ∃ u, Wlk f V k u u
  · exfalso
    obtain ⟨k, ⟨k1, u, w⟩, least⟩ := min_ex odd
    have short : ∀ m v, m % 2 = 1 → m < k → ¬ Wlk f V m v v := fun m v m1 mk h => by
      have := least m ⟨m1, v, h⟩
      omega
    obtain ⟨c, c0, ck, cv, cs⟩ := w.list
    have ek : c k = c 0 := by rw [ck, c0]
    have back : ∀ i j, i ≤ j → j ≤ k → Wlk f V (k - (j - i)) (c j) (c i) := fun i j ij jk => by
      have a := seg cv cs (k - j) j (by omega)
      rw [show j + (k - j) = k by omega, ek] at a
      have b := seg cv cs i 0 (by omega)
      rw [Nat.zero_add] at b
      have y := a.app b
      rw [show k - j + i = k - (j - i) by omega] at y
      exact y
    have fore : ∀ i j, i ≤ j → j ≤ k → Wlk f V (j - i) (c i) (c j) := fun i j ij jk => by
      have a := seg cv cs (j - i) i (by omega)
      rw [show i + (j - i) = j by omega] at a
      exact a
    have dist : ∀ i j, i < j → j < k → c i ≠ c j := fun i j ij jk e => by
      have a := fore i j (by omega) (by omega)
      have b := back i j (by omega) (by omega)
      rw [← e] at a b
      by_cases p : (j - i) % 2 = 1
      · exact short _ _ p (by omega) a
      · exact short _ _ (by omega) (by omega) b
    have chord : ∀ i j, i < j → j < k → f (c i) (c j) = true → i + 1 = j ∨ (i = 0 ∧ j + 1 = k) := fun i j ij jk e => by
      by_cases p : i + 1 = j
      · exact .inl p
      by_cases q : i = 0 ∧ j + 1 = k
      · exact .inr q
      exfalso
      have a := (fore i j (by omega) (by omega)).app (.one (cv j (by omega)) (cv i (by omega)) (by rw [sym]; exact e))
      have b := (back i j (by omega) (by omega)).app (.one (cv i (by omega)) (cv j (by omega)) e)
      by_cases r : (j - i) % 2 = 1
      · exact short _ _ (by omega) (by omega) b
      · exact short _ _ (by omega) (by omega) a
    have last : 1 < k → f (c (k - 1)) (c 0) = true := fun h => by
      have y := cs (k - 1) (by omega)
      rw [show k - 1 + 1 = k by omega, ek] at y
      exact y
    have kn1 : k ≠ 1 := fun z => by
      have y := cs 0 (by omega)
      rw [show 0 + 1 = k by omega, ek, irr] at y
      cases y
    have kn3 : k ≠ 3 := fun z => by
      subst z
      have y := mo [c 0, c 1, c 2] (by
        have d1 := dist 0 1 (by omega) (by omega)
        have d2 := dist 0 2 (by omega) (by omega)
        have d3 := dist 1 2 (by omega) (by omega)
        simp [d1, d2, d3]) (fun v hv => by
          simp only [List.mem_cons, List.mem_nil_iff, or_false] at hv
          rcases hv with rfl | rfl | rfl
          · exact cv 0 (by omega)
          · exact cv 1 (by omega)
          · exact cv 2 (by omega)) (fun a ha b hb ne => by
          have e01 := cs 0 (by omega)
          have e12 := cs 1 (by omega)
          have e20 := last (by omega)
          have e10 := e01
          have e21 := e12
          have e02 := e20
          rw [sym] at e10 e21 e02
          simp only [List.mem_cons, List.mem_nil_iff, or_false] at ha hb
          rcases ha with rfl | rfl | rfl <;> rcases hb with rfl | rfl | rfl
          · exact absurd rfl ne
          · exact e01
          · exact e02
          · exact e10
          · exact absurd rfl ne
          · exact e12
          · exact e20
          · exact e21
          · exact absurd rfl ne)
      simp at y
    let cl := (List.range k).map c
    have lcl : cl.length = k := by show ((List.range k).map c).length = k; rw [List.length_map, List.length_range]
    have gcl : ∀ i, i < k → cl.getD i 0 = c i := fun i hi => by
      show ((List.range k).map c).getD i 0 = _
      rw [List.getD_eq_getElem?_getD, List.getElem?_map, List.getElem?_range hi]
      rfl
    have ncl : cl.Nodup := by
      show List.Pairwise _ ((List.range k).map c)
      rw [List.pairwise_map]
      refine List.Pairwise.imp_of_mem ?_ (List.pairwise_lt_range (n := k))
      intro a b ha hb ab
      exact dist a b ab (List.mem_range.mp hb)
    have vcl : ∀ v ∈ cl, v ∈ V := fun v hv => by
      obtain ⟨i, hi, rfl⟩ := List.mem_map.mp hv
      exact cv i (by have := List.mem_range.mp hi; omega)
    have k9 := sub_few ncl vcl
    rw [lcl] at k9
    refine no ⟨cl, by rw [lcl]; omega, ncl, vcl, fun i j hi hj => ?_⟩
    rw [lcl] at hi hj ⊢
    rw [gcl i hi, gcl j hj]
    unfold Beside
    constructor
    · intro e
      rcases Nat.lt_trichotomy i j with h | h | h
      · rcases chord i j h hj e with z | z
        · exact .inl z
        · exact .inr (.inr (.inl z))
      · subst h
        rw [irr] at e
        cases e
      · rcases chord j i h hi (by rw [sym]; exact e) with z | z
        · exact .inr (.inl z)
        · exact .inr (.inr (.inr z))
    · rintro (z | z | ⟨z1, z2⟩ | ⟨z1, z2⟩)
      · have y := cs i (by omega)
        rw [z] at y
        exact y
      · have y := cs j (by omega)
        rw [z, sym] at y
        exact y
      · have y := last (by omega)
        rw [show k - 1 = j by omega, sym] at y
        rw [z1]
        exact y
      · have y := last (by omega)
        rw [show k - 1 = i by omega] at y
        rw [z1]
        exact y
  · have evn : ∀ k u, Wlk f V k u u → k % 2 = 0 := fun k u h => by
      rcases Nat.mod_two_eq_zero_or_one k with z | z
      · exact z
      · exact absurd ⟨k, z, u, h⟩ odd
    let Rt : Nat → Nat → Prop := fun v r => (∃ n, Wlk f V n r v) ∧ ∀ r', (∃ n, Wlk f V n r' v) → r ≤ r'
    let Ev : Nat → Prop := fun v => ∃ r n, Rt v r ∧ n % 2 = 0 ∧ Wlk f V n r v
    refine ⟨fun v => if Ev v then 0 else 1, fun u _ => ?_, fun u hu v hv e => ?_⟩
    · show (if Ev u then 0 else 1) < 2
      split <;> omega
    · show (if Ev u then 0 else 1) ≠ (if Ev v then 0 else 1)
      have uv : Wlk f V 1 u v := .one hu hv e
      have vu : Wlk f V 1 v u := uv.rev sym
      have same : ∀ r, Rt u r ↔ Rt v r := fun r => by
        have tr : ∀ {a b : Nat}, Wlk f V 1 a b → ∀ r', (∃ n, Wlk f V n r' a) → ∃ n, Wlk f V n r' b := fun w r' ⟨n, h⟩ => ⟨n + 1, h.app w⟩
        exact ⟨fun ⟨a, b⟩ => ⟨tr uv r a, fun r' h => b r' (tr vu r' h)⟩, fun ⟨a, b⟩ => ⟨tr vu r a, fun r' h => b r' (tr uv r' h)⟩⟩
      obtain ⟨r, hr⟩ : ∃ r, Rt u r := min_ex (p := fun r => ∃ n, Wlk f V n r u) ⟨u, 0, rfl, hu⟩
      have one : ∀ {v r r'}, Rt v r → Rt v r' → r = r' := fun a b => Nat.le_antisymm (a.2 _ b.1) (b.2 _ a.1)
      by_cases eu : Ev u
      · by_cases ev : Ev v
        · exfalso
          obtain ⟨r1, n1, h1, p1, w1⟩ := eu
          obtain ⟨r2, n2, h2, p2, w2⟩ := ev
          have e12 := one ((same r1).mp h1) h2
          subst e12
          have z := evn _ _ (((w1.rev sym).app w2).app vu)
          omega
        · rw [if_pos eu, if_neg ev]; omega
      · by_cases ev : Ev v
        · rw [if_neg eu, if_pos ev]; omega
        · exfalso
          obtain ⟨n, w⟩ := hr.1
          rcases Nat.mod_two_eq_zero_or_one n with z | z
          · exact eu ⟨r, n, hr, z, w⟩
          · exact ev ⟨r, n + 1, (same r).mp hr, by omega, w.app uv⟩
end
/-! ### the strong perfect graph theorem, of up to nine vertices -/
def compF (f : Nat → Nat → Bool) (u v : Nat) : Bool := decide (u ≠ v) && !f u v
theorem max_ex {p : Nat → Prop} (h : ∃ n, p n) {b : Nat} (hb : ∀ n, p n → n ≤ b) : ∃ n, p n ∧ ∀ m, p m → m ≤ n := by
  obtain ⟨d, ⟨n, hn, e⟩, l⟩ := min_ex (p := fun d => ∃ n, p n ∧ n + d = b) (by
    obtain ⟨n, hn⟩ := h
    exact ⟨b - n, n, hn, by have := hb n hn; omega⟩)
  refine ⟨n, hn, fun m hm => ?_⟩
  have := l (b - m) ⟨m, hm, by have := hb m hm; omega⟩
  have := hb m hm
  omega
theorem spgt {f : Nat → Nat → Bool} (sym : ∀ u v, f u v = f v u) (irr : ∀ v, f v v = false) : ∀ (N : Nat) (V : List Nat), V.length = N → V.Nodup → V.length ≤ 9 → ¬ RingF f V → ¬ RingF (compF f) V → ∀ k, Most f V k → ColF f V k := fun N => by
  induction N using Nat.strongRecOn with
  | ind N IH =>
    intro V lV nV V9 no1 no2 k mk
    apply Classical.byContradiction
    intro nck
    have sub1 : ∀ {g : Nat → Nat → Bool} {V' : List Nat}, (∀ v ∈ V', v ∈ V) → RingF g V' → RingF g V := fun s ⟨c, a, b, d, e⟩ => ⟨c, a, b, fun v hv => s v (d v hv), e⟩
    have ih : ∀ V' : List Nat, V'.Nodup → (∀ v ∈ V', v ∈ V) → V'.length < V.length → ∀ k, Most f V' k → ColF f V' k := fun V' n s l k m =>
      IH V'.length (by omega) V' rfl n (by omega) (fun z => no1 (sub1 s z)) (fun z => no2 (sub1 s z)) k m
    obtain ⟨w, ⟨B0, nB, sB, cB, lB⟩, wm⟩ := max_ex (p := fun n => ∃ B : List Nat, B.Nodup ∧ (∀ v ∈ B, v ∈ V) ∧ CliqF f B ∧ B.length = n) ⟨0, [], .nil, (fun _ h => (nomatch h)), (fun _ h => (nomatch h)), rfl⟩ (b := k) fun n ⟨B, n1, n2, n3, n4⟩ => by rw [← n4]; exact mk B n1 n2 n3
    have mw : Most f V w := fun B n1 n2 n3 => wm _ ⟨B, n1, n2, n3, rfl⟩
    have wk : w ≤ k := by rw [← lB]; exact mk B0 nB sB cB
    have nc : ¬ ColF f V w := fun z => nck (z.mono wk)
    obtain ⟨a, ⟨A0, nA, sA, tA, lA⟩, am⟩ := max_ex (p := fun n => ∃ A : List Nat, A.Nodup ∧ (∀ v ∈ A, v ∈ V) ∧ StabF f A ∧ A.length = n) ⟨0, [], .nil, (fun _ h => (nomatch h)), (fun _ h => (nomatch h)), rfl⟩ (b := V.length) fun n ⟨A, n1, n2, n3, n4⟩ => by rw [← n4]; exact sub_few n1 n2
    have ne : ∃ v, v ∈ V := by
      cases V with
      | nil => exact absurd ⟨fun _ => 0, fun _ h => (nomatch h), fun _ h => nomatch h⟩ nc
      | cons v _ => exact ⟨v, List.mem_cons_self ..⟩
    obtain ⟨v0, hv0⟩ := ne
    have one : ∀ v ∈ ([v0] : List Nat), v ∈ V := fun v hv => by rw [List.mem_singleton.mp hv]; exact hv0
    have w1 : 1 ≤ w := wm 1 ⟨[v0], by simp, one, fun u hu v hv ne => by rw [List.mem_singleton.mp hu, List.mem_singleton.mp hv] at ne; exact absurd rfl ne, rfl⟩
    have a1 : 1 ≤ a := am 1 ⟨[v0], by simp, one, fun u hu v hv => by rw [List.mem_singleton.mp hu, List.mem_singleton.mp hv]; exact irr v0, rfl⟩
    have many := many_of sym irr nV w1 mw nB sB cB lB ih nc nA sA tA (by rw [lA]; exact a1)
    rw [lA] at many
    by_cases w2 : w ≤ 2
    · by_cases w3 : w = 1
      · subst w3
        refine nc ⟨fun _ => 0, fun _ _ => Nat.one_pos, fun u hu v hv e => ?_⟩
        exfalso
        have uv : u ≠ v := fun z => by rw [z, irr] at e; cases e
        have y := mw [u, v] (by simp [uv]) (fun x hx => by
          simp only [List.mem_cons, List.mem_nil_iff, or_false] at hx
          rcases hx with rfl | rfl
          · exact hu
          · exact hv) (fun x hx y hy xy => by
          simp only [List.mem_cons, List.mem_nil_iff, or_false] at hx hy
          rcases hx with rfl | rfl <;> rcases hy with rfl | rfl
          · exact absurd rfl xy
          · exact e
          · rw [sym]; exact e
          · exact absurd rfl xy)
        simp at y
      · have : w = 2 := by omega
        subst this
        exact nc (two_cols sym irr V9 mw no1)
    · by_cases a2 : a ≤ 2
      · have am' : ∀ A : List Nat, A.Nodup → (∀ v ∈ A, v ∈ V) → StabF f A → A.length ≤ a := fun A n1 n2 n3 => am _ ⟨A, n1, n2, n3, rfl⟩
        have stab_of : ∀ A : List Nat, CliqF (compF f) A → StabF f A := fun A h u hu v hv => by
          by_cases e : u = v
          · subst e; exact irr u
          · have y := h u hu v hv e
            unfold compF at y
            rw [Bool.and_eq_true] at y
            simpa using y.2
        by_cases a3 : a = 1
        · subst a3
          have z := wm V.length ⟨V, nV, fun _ h => h, fun u hu v hv uv => by
            cases e : f u v with
            | true => rfl
            | false =>
              exfalso
              have y := am' [u, v] (by simp [uv]) (fun x hx => by
                simp only [List.mem_cons, List.mem_nil_iff, or_false] at hx
                rcases hx with rfl | rfl
                · exact hu
                · exact hv) (fun x hx y hy => by
                simp only [List.mem_cons, List.mem_nil_iff, or_false] at hx hy
                rcases hx with rfl | rfl <;> rcases hy with rfl | rfl
                · exact irr _
                · exact e
                · rw [sym]; exact e
                · exact irr _)
              simp at y, rfl⟩
          omega
        · have : a = 2 := by omega
          subst this
          obtain ⟨c, c1, c2⟩ := two_cols (f := compF f) (V := V) (fun u v => by
            unfold compF
            rw [sym u v]
            congr 1
            exact decide_eq_decide.mpr ⟨Ne.symm, Ne.symm⟩) (fun v => by unfold compF; simp) V9 (fun B n1 n2 n3 => am' B n1 n2 (stab_of B n3)) no2
          have cls : ∀ i, (V.filter fun u => decide (c u = i)).length ≤ w := fun i => mw _ (nV.filter _) (fun u hu => (List.mem_filter.mp hu).1) fun u hu v hv uv => by
            obtain ⟨u1, u2⟩ := List.mem_filter.mp hu
            obtain ⟨v1, v2⟩ := List.mem_filter.mp hv
            cases e : f u v with
            | true => rfl
            | false => exact absurd ((of_decide_eq_true u2).trans (of_decide_eq_true v2).symm) (c2 u u1 v v1 (by unfold compF; rw [decide_eq_true uv, e]; rfl))
          have z := sum_classes c (fun _ => true) 2 V fun u hu _ => c1 u hu
          have e0 := cls 0
          have e1 := cls 1
          have ft : V.filter (fun _ => true) = V := List.filter_eq_self.mpr fun _ _ => rfl
          rw [ft, List.range_succ, List.range_succ, List.range_zero] at z
          simp only [Bool.true_and, List.nil_append, List.map_append, List.map_cons, List.map_nil, List.sum_append, List.sum_cons, List.sum_nil] at z
          omega
      · have := Nat.mul_le_mul (show 3 ≤ a by omega) (show 3 ≤ w by omega)
        omega
end My

set_option maxHeartbeats 4000000
/-! The odd rounds of a lot. -/
namespace My
open PySem PySem.Spec PyProof.Rows L2
def odd1 (l : List Nat) (q : Bool × List E2) : List (Bool × List Nat) := if (roundL (adjB q.2) l).isEmpty = true then [] else [(q.1, roundL (adjB q.2) l)]
/-- the odd rounds of a lot: in the graph es, and in fs -/
def oddOf (es fs : List E2) (l : List Nat) : List (Bool × List Nat) := if l.length = 5 ∨ l.length = 7 ∨ l.length = 9 then [(true, es), (false, fs)].flatMap (odd1 l) else []
def flipE (n : Nat) (es : List E2) : List E2 := tabP n fun i j => !adjB es i j
def OddT (H : Hp) (x : V) (q : Bool × List Nat) : Prop := ∃ u v : Addr, x = .ref u ∧ H u = some (.tup [.bl q.1, .ref v]) ∧ H v = some (.tup (numsN q.2))
abbrev OddsT (H : Hp) : List V → List (Bool × List Nat) → Prop := Paired (OddT H)
theorem OddT.same {H H' : Hp} (s : Same H H') {x : V} {q : Bool × List Nat} (h : OddT H x q) : OddT H' x q := by
  obtain ⟨u, v, e, h1, h2⟩ := h
  exact ⟨u, v, e, s _ _ h1, s _ _ h2⟩
theorem OddsT.same {H H' : Hp} (s : Same H H') {xs : List V} {qs : List (Bool × List Nat)} (h : OddsT H xs qs) : OddsT H' xs qs := Paired.mapP h fun _ _ z => z.same s
theorem OddsT.snoc {H : Hp} {xs : List V} {qs : List (Bool × List Nat)} {x : V} {q : Bool × List Nat} (h : OddsT H xs qs) (k : OddT H x q) : OddsT H (xs ++ [x]) (qs ++ [q]) := by
  induction h with
  | nil => exact .cons k .nil
  | cons a _ ih => exact .cons a ih
theorem odd1_len (l : List Nat) (q : Bool × List E2) : (odd1 l q).length ≤ 1 := by
  unfold odd1
  split <;> simp
theorem oddOf_len (es fs : List E2) (l : List Nat) : (oddOf es fs l).length ≤ 2 := by
  unfold oddOf
  split
  · have h1 := odd1_len l (true, es)
    have h2 := odd1_len l (false, fs)
    simp only [List.flatMap_cons, List.flatMap_nil, List.length_append, List.length_nil]
    omega
  · exact Nat.zero_le _
theorem odds_len (es fs : List E2) : ∀ L : List (List Nat), (L.flatMap (oddOf es fs)).length ≤ 2 * L.length
  | [] => Nat.le_refl _
  | l :: L => by
    have ih := odds_len es fs L
    have h1 := oddOf_len es fs l
    rw [List.flatMap_cons, List.length_append, List.length_cons]
    omega
theorem adj_self {n : Nat} {es : List E2} (g : Good n es) (v : Nat) : adjB es v v = false := by
  cases h : adjB es v v with
  | false => rfl
  | true => exact absurd rfl (adj_ne g h).1
theorem tab_adj {n : Nat} {ff : Nat → Nat → Bool} (sym : ∀ u v, ff u v = ff v u) {a b : Nat} (ha : a < n) (hb : b < n) (c : a ≠ b) : adjB (tabP n ff) a b = ff a b := by
  have key : ∀ u v, u < v → v < n → adjB (tabP n ff) u v = ff u v := fun u v uv vn => by
    unfold adjB tabP
    rw [Nat.min_eq_left (by omega), Nat.max_eq_right (by omega), Bool.eq_iff_iff, decide_eq_true_eq, List.mem_filter]
    exact ⟨fun z => z.2, fun z => ⟨mem_allP.mpr ⟨uv, vn⟩, z⟩⟩
  rcases Nat.lt_or_gt_of_ne c with z | z
  · exact key a b z hb
  · rw [adj_comm _ a b, sym a b]
    exact key b a z ha
theorem odd_ring {n : Nat} {es : List E2} {l : List Nat} {q : Bool × List Nat} (g : Good n es) (nd : l.Nodup) (h : q ∈ oddOf es (flipE n es) l) : (l.length = 5 ∨ l.length = 7 ∨ l.length = 9) ∧ RingOf (adjB (if q.1 = true then es else flipE n es)) l q.2 := by
  unfold oddOf at h
  split at h
  · rename_i c
    refine ⟨c, ?_⟩
    obtain ⟨p, hp, hq⟩ := List.mem_flatMap.mp h
    unfold odd1 at hq
    split at hq
    · cases hq
    · rename_i ne
      obtain rfl := List.mem_singleton.mp hq
      have ne : roundL (adjB p.2) l ≠ [] := fun z => ne (by rw [z]; rfl)
      have key : ∀ fs, Good n fs → roundL (adjB fs) l ≠ [] → RingOf (adjB fs) l (roundL (adjB fs) l) := fun fs gf ne => by
        obtain ⟨l4, al, len, cnd, sub, st⟩ := round_is ne
        obtain ⟨mm, ri⟩ := ring_is nd (fun u v => adj_comm _ u v) (adj_self gf) ne
        exact ⟨mm, cnd, len, fun i j hi hj => by rw [len] at hi hj ⊢; exact ri i j hi hj⟩
      simp only [List.mem_cons, List.mem_nil_iff, or_false] at hp
      rcases hp with rfl | rfl
      · exact key es g ne
      · exact key (flipE n es) (tab_good g.n9 _) ne
  · cases h
theorem odd_of {n : Nat} {es : List E2} {l c : List Nat} (b : Bool) (g : Good n es) (nd : l.Nodup) (lm : l.length = 5 ∨ l.length = 7 ∨ l.length = 9) (r : RingOf (adjB (if b = true then es else flipE n es)) l c) : oddOf es (flipE n es) l ≠ [] := by
  have gf : Good n (if b = true then es else flipE n es) := by
    split
    · exact g
    · exact tab_good g.n9 _
  have told := r.told nd (by omega) (fun u v => adj_comm _ u v) (adj_self gf)
  intro e
  unfold oddOf at e
  rw [if_pos lm, List.flatMap_eq_nil_iff] at e
  have z : odd1 l (b, if b = true then es else flipE n es) = [] := by
    cases b with
    | true => exact e (true, es) (by simp)
    | false => exact e (false, flipE n es) (by simp)
  unfold odd1 at z
  have ne : ¬ (roundL (adjB (if b = true then es else flipE n es)) l).isEmpty = true := fun y => told (List.isEmpty_iff.mp y)
  rw [if_neg ne] at z
  cases z
/-- a clique of a ring -/
theorem ring_clq {f : Nat → Nat → Bool} {l c B : List Nat} (r : RingOf f l c) (l4 : 4 ≤ l.length) (nB : B.Nodup) (sB : ∀ v ∈ B, v ∈ l) (cl : CliqF f B) : B.length ≤ 2 := by
  match B, nB, sB, cl with
  | [], _, _, _ => exact Nat.zero_le _
  | [_], _, _, _ => show 1 ≤ 2; decide
  | [_, _], _, _, _ => exact Nat.le_refl _
  | x :: y :: z :: t, nB, sB, cl =>
    exfalso
    have len := r.len
    have mx : x ∈ x :: y :: z :: t := by simp
    have my : y ∈ x :: y :: z :: t := by simp
    have mz : z ∈ x :: y :: z :: t := by simp
    have xy : x ≠ y := fun e => by subst e; simp at nB
    have xz : x ≠ z := fun e => by subst e; simp at nB
    have yz : y ≠ z := fun e => by subst e; simp at nB
    have a1 := cl x mx y my xy
    have a2 := cl x mx z mz xz
    have a3 := cl y my z mz yz
    obtain ⟨i, hi, ei⟩ := gD_place ((r.mem x).mpr (sB x mx))
    obtain ⟨j, hj, ej⟩ := gD_place ((r.mem y).mpr (sB y my))
    obtain ⟨k, hk, ek⟩ := gD_place ((r.mem z).mpr (sB z mz))
    have ij : i ≠ j := fun e => xy (by rw [← ei, ← ej, e])
    have ik : i ≠ k := fun e => xz (by rw [← ei, ← ek, e])
    have jk : j ≠ k := fun e => yz (by rw [← ej, ← ek, e])
    rw [← ei, ← ej, r.adj i j hi hj] at a1
    rw [← ei, ← ek, r.adj i k hi hk] at a2
    rw [← ej, ← ek, r.adj j k hj hk] at a3
    unfold Beside at a1 a2 a3
    omega
/-- a stable set of a ring -/
theorem ring_stb {f : Nat → Nat → Bool} {l c B : List Nat} (r : RingOf f l c) (nl : l.Nodup) (l4 : 4 ≤ l.length) (nB : B.Nodup) (sB : ∀ v ∈ B, v ∈ l) (st : ∀ u ∈ B, ∀ v ∈ B, u ≠ v → f u v = false) : 2 * B.length ≤ l.length := by
  have len := r.len
  let pl : Nat → Nat := fun v => c.idxOf v
  have hpl : ∀ v ∈ l, pl v < c.length ∧ c.getD (pl v) 0 = v := fun v hv => by
    have h := List.idxOf_lt_length_of_mem ((r.mem v).mpr hv)
    exact ⟨h, by rw [gD h]; exact List.getElem_idxOf h⟩
  let nx : Nat → Nat := fun v => c.getD (nextI c.length (pl v)) 0
  have nlt : ∀ i, i < c.length → nextI c.length i < c.length := fun i hi => by unfold nextI; split <;> omega
  have ninj : ∀ u ∈ B, ∀ v ∈ B, nx u = nx v → u = v := fun u hu v hv e => by
    obtain ⟨a1, a2⟩ := hpl u (sB u hu)
    obtain ⟨b1, b2⟩ := hpl v (sB v hv)
    have z := gD_inj r.nd (nlt _ a1) (nlt _ b1) e
    have y : pl u = pl v := by
      unfold nextI at z
      split at z <;> split at z <;> omega
    rw [← a2, ← b2, y]
  have nadj : ∀ v ∈ B, f v (nx v) = true ∧ v ≠ nx v := fun v hv => by
    obtain ⟨b1, b2⟩ := hpl v (sB v hv)
    have z := (r.adj (pl v) (nextI c.length (pl v)) b1 (nlt _ b1)).mpr (by
      unfold nextI Beside
      split <;> omega)
    rw [b2] at z
    refine ⟨z, fun e => ?_⟩
    have y := gD_inj r.nd b1 (nlt _ b1) (b2.trans e)
    unfold nextI at y
    split at y <;> omega
  have nd : (B ++ B.map nx).Nodup := by
    rw [List.nodup_append]
    refine ⟨nB, ?_, fun a ha b hb e => ?_⟩
    · show List.Pairwise _ _
      rw [List.pairwise_map]
      refine List.Pairwise.imp_of_mem ?_ nB
      intro a b ha hb ne e
      exact ne (ninj a ha b hb e)
    · subst e
      obtain ⟨v, hv, e⟩ := List.mem_map.mp hb
      obtain ⟨z1, z2⟩ := nadj v hv
      have y := st v hv a ha (by rw [← e]; exact z2)
      rw [← e, z1] at y
      cases y
  have z := sub_few nd (m := l) fun x hx => by
    rcases List.mem_append.mp hx with hx | hx
    · exact sB x hx
    · obtain ⟨v, hv, rfl⟩ := List.mem_map.mp hx
      exact (r.mem _).mp (gD_mem (nlt _ (hpl v (sB v hv)).1))
  rw [List.length_append, List.length_map] at z
  omega
theorem sum_le {g : Nat → Nat} {s : Nat} (h : ∀ j, g j ≤ s) : ∀ k, ((List.range k).map g).sum ≤ k * s := by
  intro k
  induction k with
  | zero => simp
  | succ k ih =>
    have := h k
    rw [List.range_succ, List.map_append, List.sum_append, Nat.succ_mul]
    simp only [List.map_cons, List.map_nil, List.sum_cons, List.sum_nil]
    omega
theorem col_few {F : Nat → Nat → Bool} {l : List Nat} {k s : Nat} (nl : l.Nodup) (h : ColF F l k) (st : ∀ B : List Nat, B.Nodup → (∀ v ∈ B, v ∈ l) → (∀ u ∈ B, ∀ v ∈ B, u ≠ v → F u v = false) → B.length ≤ s) : l.length ≤ k * s := by
  obtain ⟨c, c1, c2⟩ := h
  have z := sum_classes c (fun _ => true) k l fun u hu _ => c1 u hu
  have ft : l.filter (fun _ => true) = l := List.filter_eq_self.mpr fun _ _ => rfl
  rw [ft] at z
  rw [← z]
  have each : ∀ j, (l.filter fun u => true && decide (c u = j)).length ≤ s := fun j => st _ (nl.filter _) (fun u hu => (List.mem_filter.mp hu).1) fun u hu v hv _ => by
    obtain ⟨u1, u2⟩ := List.mem_filter.mp hu
    obtain ⟨v1, v2⟩ := List.mem_filter.mp hv
    simp only [Bool.true_and, decide_eq_true_eq] at u2 v2
    cases e : F u v with
    | false => rfl
    | true => exact absurd (u2.trans v2.symm) (c2 u u1 v v1 e)
  exact sum_le each k
end My

set_option maxHeartbeats 8000000
namespace My
open PySem PySem.Spec PyProof.Rows L2
abbrev sRod : Stmt := top 53
theorem scRod : FnScope ["graph", "rows", "flipped", "found", "lot", "is_hole", "each", "told"] ["graph"] (defScope sRod) := ⟨rfl, rfl, rfl, by decide +kernel, rfl, by decide +kernel, by decide +kernel⟩
def spRod (K : PySem.W.Frag) : Sp := fun vs H Q _ => ∃ (x : V) (n : Nat) (es : List E2), vs = [x] ∧ GraphAt K H x n es ∧ Good n es ∧
  ∀ (F : Addr) (zs : List V) (L : List (List Nat)) H', Same H H' → AllLots n L → H' F = some (.lst zs) → OddsT H' zs (L.flatMap (oddOf es (flipE n es))) → Q (.ref F) H'
section
variable {P : Program} {w : World} {K : PySem.W.Frag} {mg : Str → Option Value} {base : Heap} {f fT fF fL fR : Addr} {fd dT dF dL dR : FuncData}
theorem ok_odd_rounds (F : L2.Fun K "_law_odd_rounds" "_law_odd_rounds" sRod f fd)
    (GT : FnOk P w K mg base CX0 1 fT dT ["graph"] (spTable K)) (bT : L2.Binds K dT ["graph"] []) (kT : PySem.W.keepIn K (.ref fT) = true) (mT : mg "_law_table" = some (.ref fT))
    (GF : FnOk P w K mg base CX0 2 fF dF ["graph"] (spFlip K)) (bF : L2.Binds K dF ["graph"] []) (kF : PySem.W.keepIn K (.ref fF) = true) (mF : mg "_law_flipped" = some (.ref fF))
    (GL : FnOk P w K mg base CX0 1 fL dL ["many"] (spLots K)) (bL : L2.Binds K dL ["many"] []) (kL : PySem.W.keepIn K (.ref fL) = true) (mL : mg "_law_lots" = some (.ref fL))
    (GR : FnOk P w K mg base CX0 1 fR dR ["rows", "lot"] (spRnd K)) (bR : L2.Binds K dR ["rows", "lot"] []) (kR : PySem.W.keepIn K (.ref fR) = true) (mR : mg "_law_round" = some (.ref fR))
    (ml : mg "len" = none) : FnOk P w K mg base CX0 3 f fd ["graph"] (spRod K) := by
  refine F.ok scRod (fun vs H Q E h => ?_) (fun cdv A outer s0 H vs Q E hr h => ?_)
  · obtain ⟨x, n, es, rfl, _⟩ := h
    rfl
  obtain ⟨x, n, es, rfl, hx, g, q⟩ := h
  have h1 := hr.mono (show 1 ≤ 2 by decide)
  refine ⟨_, pss_cons (ps_par3 (by rfl) scRod.nd (i := 1) (j := 2) (l := 3) rfl rfl rfl (by decide) (by decide) (by decide) rfl rfl rfl (pa_cons (pe_call GT h1 (by rfl) mT kT bT .nil pass0 (pa_cons (pv 0) pa_nil)) (pa_cons (pe_call GT h1 (by rfl) mT kT bT .nil pass0 (pa_cons (pe_call GF hr (by rfl) mF kF bF .nil pass0 (pa_cons (pv 0) pa_nil)) pa_nil)) (pa_cons (pe_lst pa_nil) pa_nil))) (by rfl))
    (pss_cons (ps_for PassesOwn.never rfl (pi_list (pe_call GL h1 (by rfl) mL kL bL .nil pass0 (pa_cons (pe_ix (r := rIxT K) ix_tup (pv 0) pe_int (fun _ _ => rfl)) pa_nil))) (pg_name (i := 4) scRod.nd rfl (.inl rfl))
      (pss_one (ps_if (pt_cmpR (r := rIn K false) op_in_seq (pe_callB call_len_seq (by rfl) ml PySem.boot_len (pa_cons (pv 4) pa_nil)) (pe_tup (pa_cons pe_int (pa_cons pe_int (pa_cons pe_int pa_nil)))) (by rfl))
        (pss_one (ps_for PassesOwn.never rfl (pi_list (pe_lst (pa_cons (pe_tup (pa_cons pe_bl (pa_cons (pv 1) pa_nil))) (pa_cons (pe_tup (pa_cons pe_bl (pa_cons (pv 2) pa_nil))) pa_nil)))) (pg_tup (by rfl) (pgs_cons (pg_name (i := 5) scRod.nd rfl (.inl rfl)) (pgs_cons (pg_name (i := 6) scRod.nd rfl (.inl rfl)) pgs_nil)))
          (pss_cons (ps_set (i := 7) scRod.nd rfl (.inl rfl) (pe_call GR h1 (by rfl) mR kR bR .nil pass0 (pa_cons (pv 6) (pa_cons (pv 4) pa_nil))))
          (pss_one (ps_set (i := 3) scRod.nd rfl (.inl rfl) (pe_op op_cat (pv 3) (pe_ifExp (pt_cmpR (op_neD hr.units) (pv 7) (pe_tup pa_nil) (nomark _)) (pe_lst (pa_cons (pe_tup (pa_cons (pv 5) (pa_cons (pv 7) pa_nil))) pa_nil)) (pe_lst pa_nil)))))))) pss_nil)))
    (pss_one (ps_ret (pv 3)))), ?_⟩
  have line : ∀ k, k ≤ 1000 → k ≤ sizeLine := fun k hk => small hk
  have big : ∀ k, k ≤ 100000 → k ≤ sizeLine := fun k hk => Nat.le_trans hk (by rw [sizeLine_eq]; decide)
  have n9 := g.n9
  refine ⟨_, rfl, x, n, es, rfl, hx, g, fun D rs H1 s1 _ T => ?_⟩
  refine ⟨_, rfl, x, n, es, rfl, hx.same s1, g, fun y H2 s2 hy => ?_⟩
  refine ⟨y, n, flipE n es, rfl, hy.at, tab_good n9 _, fun D2 rs2 H3 s3 _ T2 => ?_⟩
  refine ⟨line 0 (by decide), fun R0 nR0 => ⟨_, _, _, rfl, ?_⟩⟩
  have sR0 := same_new nR0 (.lst [])
  have hR0 := upd_same (H := H3) (a := R0) (o := .lst [])
  generalize upd H3 R0 (.lst []) = H4 at sR0 hR0 ⊢
  have s04 := s1.trans (s2.trans (s3.trans sR0))
  have T4 := T.same (s2.trans (s3.trans sR0))
  have T24 := T2.same sR0
  obtain ⟨tg, eg, ys, rfl, htg, heg, hes⟩ := hx.same s04
  have a0 : atI [V.int (n : Int), V.ref eg] 0 = some (.int (n : Int)) := atI_nat (j := 0) rfl
  refine ⟨_, rfl, tg, _, 0, _, rfl, rfl, htg, a0, n, rfl, n9, fun F0 ls L H5 s5 hF hl al len => ?_⟩
  have l512 : L.length ≤ 512 := by rw [len]; exact Nat.le_trans (Nat.pow_le_pow_right (by decide) n9) (by decide)
  have ll := hl.len
  generalize flipE n es = fs at T24 q
  refine ⟨F0, rfl, ⟨_, SqL.of hF⟩, for_it (walk_list (xs := ls)) (fun i σ H' => ∃ (R : Addr) (zs : List V) (s4 s5 s6 s7 : Option V), σ = [some (.ref tg), some (.ref D), some (.ref D2), some (.ref R), s4, s5, s6, s7] ∧ Same H5 H' ∧ H' R = some (.lst zs) ∧ OddsT H' zs ((L.take i).flatMap (oddOf es fs))) ⟨R0, [], none, none, none, none, rfl, Same.refl _, s5 _ _ hR0, .nil⟩ (fun i σ H' _ ⟨_, _, _, _, _, _, _, s, _⟩ => SqL.of (s _ _ hF)) ?_ ?_⟩
  · rintro i v σ H6' H6 li ⟨R, zs, s4', s5', s6', s7', rfl, s6, hR, pz⟩ ⟨rfl, hi⟩
    obtain ⟨l, hL, hx'⟩ := hl.get hi
    obtain ⟨t, rfl, ht1⟩ := hx'.same s6
    have ht : H6 t = some (.tup (numsN l)) := ht1
    have lo := (al.2 l).mp (List.mem_of_getElem? hL)
    have l9 : l.length ≤ 9 := Nat.le_trans lo.few n9
    have step : (L.take (i + 1)).flatMap (oddOf es fs) = (L.take i).flatMap (oddOf es fs) ++ oddOf es fs l := by
      rw [take_succ hL, List.flatMap_append]
      simp
    have cnt := odds_len es fs (L.take i)
    rw [List.length_take] at cnt
    refine ⟨_, rfl, t, _, rfl, .inr (SqT.of ht), line 3 (by decide), fun e ne => ?_⟩
    have se := same_new ne (.tup [V.int 5, V.int 7, V.int 9])
    refine ⟨e, _, rfl, .inr (SqT.of upd_same), rfl, rfl, _, rfl, ?_⟩
    rw [if_neg (by decide), numsN_len]
    have ein : inV (V.int ((l.length : Nat) : Int)) [V.int 5, V.int 7, V.int 9] = decide (l.length = 5 ∨ l.length = 7 ∨ l.length = 9) := by
      have z := inV_k l.length [5, 7, 9]
      have y : numsN [5, 7, 9] = [V.int 5, V.int 7, V.int 9] := rfl
      rw [y] at z
      rw [z]
      refine decide_eq_decide.mpr ?_
      simp
    rw [ein]
    generalize upd H6 e (.tup [V.int 5, V.int 7, V.int 9]) = H7 at se ⊢
    have hR7 := se _ _ hR
    have pz7 := pz.same se
    refine iteB (fun c => ?_) (fun c => ?_)
    rotate_left 1
    · refine ⟨R, zs, _, _, _, _, rfl, s6.trans se, hR7, ?_⟩
      have e0 : oddOf es fs l = [] := by
        unfold oddOf
        rw [if_neg (of_decide_eq_false c)]
      rw [step, e0, List.append_nil]
      exact pz7
    have c := of_decide_eq_true c
    have s57 := s6.trans se
    refine ⟨_, rfl, line 2 (by decide), fun a na => ?_⟩
    have sa := same_new na (.tup [.bl true, .ref D])
    have ha := upd_same (H := H7) (a := a) (o := .tup [.bl true, .ref D])
    generalize upd H7 a (.tup [.bl true, .ref D]) = H8 at sa ha ⊢
    refine ⟨_, rfl, line 2 (by decide), fun b nb => ?_⟩
    have sb := same_new nb (.tup [.bl false, .ref D2])
    have hb := upd_same (H := H8) (a := b) (o := .tup [.bl false, .ref D2])
    generalize upd H8 b (.tup [.bl false, .ref D2]) = H9 at sb hb ⊢
    refine ⟨line 2 (by decide), fun W nW => ?_⟩
    have sW := same_new nW (.lst [.ref a, .ref b])
    have hW := upd_same (H := H9) (a := W) (o := .lst [.ref a, .ref b])
    generalize upd H9 W (.lst [.ref a, .ref b]) = HA at sW hW ⊢
    have s7A := sa.trans (sb.trans sW)
    have haA := sW _ _ (sb _ _ ha)
    have hbA := sW _ _ hb
    have s4A := s5.trans (s57.trans s7A)
    refine ⟨W, rfl, ⟨_, SqL.of hW⟩, for_it (walk_list (xs := [.ref a, .ref b])) (fun j σ H' => ∃ (R : Addr) (zs : List V) (s5 s6 s7 : Option V), σ = [some (.ref tg), some (.ref D), some (.ref D2), some (.ref R), some (.ref t), s5, s6, s7] ∧ Same HA H' ∧ H' R = some (.lst zs) ∧ OddsT H' zs ((L.take i).flatMap (oddOf es fs) ++ ([(true, es), (false, fs)].take j).flatMap (odd1 l)))
      ⟨R, zs, _, _, _, rfl, Same.refl _, s7A _ _ hR7, by rw [List.take_zero, List.flatMap_nil, List.append_nil]; exact pz7.same s7A⟩ (fun j σ H' _ ⟨_, _, _, _, _, _, s, _⟩ => SqL.of (s _ _ hW)) ?_ ?_⟩
    · rintro j y σ HB' HB lj ⟨R2, zs2, s5', s6', s7', rfl, sB, hR2, pz2⟩ ⟨rfl, hj⟩
      have s4B := s4A.trans sB
      obtain ⟨u, bq, Eq', D', rs', rfl, hu, T', hq⟩ : ∃ (u : Addr) (bq : Bool) (E' : List E2) (D' : Addr) (rs' : List Addr), y = .ref u ∧ HB u = some (.tup [.bl bq, .ref D']) ∧ TabR HB D' n (adjB E') rs' ∧ [(true, es), (false, fs)][j]? = some (bq, E') := by
        have lj2 : j < 2 := lj
        rcases (show j = 0 ∨ j = 1 by omega) with rfl | rfl
        · cases hj
          exact ⟨a, true, es, D, rs, rfl, sB _ _ haA, T4.same s4B, rfl⟩
        · cases hj
          exact ⟨b, false, fs, D2, rs2, rfl, sB _ _ hbA, T24.same s4B, rfl⟩
      have st2 : ([(true, es), (false, fs)].take (j + 1)).flatMap (odd1 l) = ([(true, es), (false, fs)].take j).flatMap (odd1 l) ++ odd1 l (bq, Eq') := by
        rw [take_succ hq, List.flatMap_append]
        simp
      have htB := ((se.trans s7A).trans sB) _ _ ht
      refine ⟨u, _, rfl, SqT.of hu, rfl, _, _, rfl, _, _, rfl, rfl, ?_⟩
      refine ⟨_, rfl, _, rfl, D', t, n, adjB Eq', rs', l, rfl, T', SqT.of htB, lo.lt, l9, fun r HC sC hr' => ?_⟩
      have lz := Paired.length pz2
      have cnt2 : (([(true, es), (false, fs)].take j).flatMap (odd1 l)).length ≤ 2 := by
        have := odd1_len l (true, es)
        have := odd1_len l (false, fs)
        have lj2 : j < 2 := lj
        rcases (show j = 0 ∨ j = 1 by omega) with rfl | rfl
        · exact Nat.zero_le _
        · simp only [List.take_succ_cons, List.take_zero, List.flatMap_cons, List.flatMap_nil, List.length_append, List.length_nil]
          omega
      rw [List.length_append] at lz
      refine ⟨_, rfl, _, rfl, line 0 (by decide), fun e2 ne2 => ?_⟩
      have se2 := same_new ne2 (.tup [])
      have he2 := upd_same (H := HC) (a := e2) (o := .tup [])
      generalize upd HC e2 (.tup []) = HD at se2 he2 ⊢
      refine ⟨.tuple (numsD (roundL (adjB Eq') l)), .tuple (numsD []), .tup (SqT.of (se2 _ _ hr')) (numsD_dp _), .tup (SqT.of he2) (numsD_dp []), numsD_shT _, numsD_shT [], _, rfl, ?_⟩
      rw [numsD_nilT]
      have sBD := sC.trans se2
      have hRD := sBD _ _ hR2
      refine iteB (fun c2 => ?_) (fun c2 => ?_)
      · refine ⟨_, rfl, _, rfl, line 2 (by decide), fun m nm => ?_⟩
        have sm := same_new nm (.tup [.bl bq, .ref r])
        have hm := upd_same (H := HD) (a := m) (o := .tup [.bl bq, .ref r])
        generalize upd HD m (.tup [.bl bq, .ref r]) = HE at sm hm ⊢
        refine ⟨line 1 (by decide), fun X nX => ?_⟩
        have sX := same_new nX (.lst [.ref m])
        have hX := upd_same (H := HE) (a := X) (o := .lst [.ref m])
        generalize upd HE X (.lst [.ref m]) = HF at sX hX ⊢
        refine ⟨R2, X, _, _, rfl, rfl, sX _ _ (sm _ _ hRD), hX, big _ (by rw [List.length_singleton]; omega), fun Z nZ => ?_⟩
        have sZ := same_new nZ (.lst (zs2 ++ [.ref m]))
        have sBZ := sBD.trans (sm.trans (sX.trans sZ))
        refine ⟨Z, zs2 ++ [.ref m], _, _, _, rfl, sB.trans sBZ, upd_same, ?_⟩
        have o1 : odd1 l (bq, Eq') = [(bq, roundL (adjB Eq') l)] := by
          unfold odd1
          rw [if_neg (by intro z; rw [z] at c2; cases c2)]
        rw [st2, o1, ← List.append_assoc]
        exact (pz2.same sBZ).snoc ⟨m, r, rfl, (sX.trans sZ) _ _ hm, (se2.trans (sm.trans (sX.trans sZ))) _ _ hr'⟩
      · refine ⟨line 0 (by decide), fun X nX => ?_⟩
        have sX := same_new nX (.lst [])
        have hX := upd_same (H := HD) (a := X) (o := .lst [])
        generalize upd HD X (.lst []) = HF at sX hX ⊢
        refine ⟨R2, X, _, _, rfl, rfl, sX _ _ hRD, hX, big _ (by rw [List.length_nil]; omega), fun Z nZ => ?_⟩
        have sZ := same_new nZ (.lst (zs2 ++ []))
        have sBZ := sBD.trans (sX.trans sZ)
        refine ⟨Z, zs2 ++ [], _, _, _, rfl, sB.trans sBZ, upd_same, ?_⟩
        have o1 : odd1 l (bq, Eq') = [] := by
          unfold odd1
          rw [if_pos (by simpa using c2)]
        have z := pz2.same sBZ
        rw [st2, o1, List.append_nil]
        rw [List.append_nil] at z ⊢
        exact z
    · rintro σ HB ⟨R2, zs2, s5', s6', s7', rfl, sB, hR2, pz2⟩
      refine ⟨R2, zs2, _, _, _, _, rfl, s57.trans (s7A.trans sB), hR2, ?_⟩
      have e2 : oddOf es fs l = [(true, es), (false, fs)].flatMap (odd1 l) := by
        unfold oddOf
        rw [if_pos c]
      rw [step, e2]
      exact pz2
  · rintro σ H6 ⟨R, zs, s4', s5', s6', s7', rfl, s6, hR, pz⟩
    rw [ll, List.take_length] at pz
    exact ⟨_, rfl, q R zs L H6 (s04.trans (s5.trans s6)) al hR pz⟩
end
end My

set_option maxHeartbeats 4000000
/-! Clique numbers of masks, in plain Lean. -/
namespace My
open PySem PySem.Spec PyProof.Rows L2
def sizeN (c : Nat) : Nat := (bitsN 9 c).length
theorem size_flip : ∀ c : Nat, c < 512 → ∀ g : Nat, g < 9 → c.testBit g = true → sizeN (c ^^^ 2 ^ g) + 1 = sizeN c := by decide +kernel
/-- the number of the greatest bit -/
def topN (m : Nat) : Nat := Builtin.Int.intBits ((m : Nat) : Int) - 1
theorem top_ok : ∀ m : Nat, m < 512 → 1 ≤ m → Builtin.Int.intBits ((m : Nat) : Int) = topN m + 1 ∧ topN m < 9 ∧ m.testBit (topN m) = true ∧ m < 2 ^ (topN m + 1) ∧ 2 ^ topN m ≤ m := by decide +kernel
def SubN (c m : Nat) : Prop := ∀ u, c.testBit u = true → m.testBit u = true
theorem SubN.le {c m : Nat} (h : SubN c m) : c ≤ m := by
  rw [← (sub_and c m).mpr h]
  exact Nat.and_le_right
def CnOk (es : List E2) (m v : Nat) : Prop := (∃ c, SubN c m ∧ Clq es c ∧ sizeN c = v) ∧ ∀ c, SubN c m → Clq es c → sizeN c ≤ v
theorem cn_zero (es : List E2) : CnOk es 0 0 := by
  refine ⟨⟨0, fun u h => h, fun u v h => by simp at h, rfl⟩, fun c h _ => ?_⟩
  have := h.le
  have : c = 0 := by omega
  rw [this]
  exact Nat.le_of_eq rfl
theorem xor_bit (m g u : Nat) : (m ^^^ 2 ^ g).testBit u = (m.testBit u ^^ decide (g = u)) := by rw [Nat.testBit_xor, bit_pow]
theorem cn_step {n : Nat} {es : List E2} {nb : List Nat} {m v1 v2 : Nat} (gd : Good n es) (ok : NbOk n es nb) (lt : m < 2 ^ n) (m1 : 1 ≤ m) (h1 : CnOk es (m ^^^ 2 ^ topN m) v1) (h2 : CnOk es (m &&& nb.getD (topN m) 0) v2) : CnOk es m (max v1 (1 + v2)) := by
  have n9 := gd.n9
  have m9 : m < 512 := Nat.lt_of_lt_of_le lt (Nat.pow_le_pow_right (by decide) n9)
  obtain ⟨_, t9, tb, _, _⟩ := top_ok m m9 m1
  generalize topN m = g at h1 h2 t9 tb
  have gn : g < n := by
    by_cases c : g < n
    · exact c
    · rw [high_out lt (by omega)] at tb
      cases tb
  have gg : adjB es g g = false := by
    cases e : adjB es g g with
    | false => rfl
    | true => exact absurd rfl (adj_ne gd e).1
  obtain ⟨⟨c1, s1, q1, e1⟩, u1⟩ := h1
  obtain ⟨⟨c2, s2, q2, e2⟩, u2⟩ := h2
  have lift1 : ∀ c, SubN c (m ^^^ 2 ^ g) → SubN c m := fun c s u hu => by
    have z := s u hu
    rw [xor_bit] at z
    by_cases e : g = u
    · rw [← e]; exact tb
    · rw [decide_eq_false e, Bool.xor_false] at z
      exact z
  have in2 : ∀ u, (m &&& nb.getD g 0).testBit u = true → m.testBit u = true ∧ adjB es g u = true := fun u hu => by
    rw [Nat.testBit_and, Bool.and_eq_true, ok.2 g gn] at hu
    exact hu
  have no2 : c2.testBit g = false := by
    cases e : c2.testBit g with
    | false => rfl
    | true =>
      have z := (in2 g (s2 g e)).2
      rw [gg] at z
      cases z
  have big : SubN (c2 ^^^ 2 ^ g) m ∧ Clq es (c2 ^^^ 2 ^ g) ∧ sizeN (c2 ^^^ 2 ^ g) = 1 + v2 := by
    have bits : ∀ u, (c2 ^^^ 2 ^ g).testBit u = true → u = g ∨ c2.testBit u = true := fun u hu => by
      rw [xor_bit] at hu
      by_cases e : g = u
      · exact .inl e.symm
      · rw [decide_eq_false e, Bool.xor_false] at hu
        exact .inr hu
    have sb : SubN (c2 ^^^ 2 ^ g) m := fun u hu => by
      rcases bits u hu with rfl | z
      · exact tb
      · exact (in2 u (s2 u z)).1
    refine ⟨sb, fun u v hu hv ne => ?_, ?_⟩
    · rcases bits u hu with rfl | zu
      · rcases bits v hv with rfl | zv
        · exact absurd rfl ne
        · exact (in2 v (s2 v zv)).2
      · rcases bits v hv with rfl | zv
        · rw [adj_comm]
          exact (in2 u (s2 u zu)).2
        · exact q2 u v zu zv ne
    · have tg : (c2 ^^^ 2 ^ g).testBit g = true := by
        rw [xor_bit, no2, decide_eq_true rfl]
        rfl
      have z := size_flip _ (Nat.lt_of_le_of_lt sb.le m9) g t9 tg
      have e : c2 ^^^ 2 ^ g ^^^ 2 ^ g = c2 := by
        refine Nat.eq_of_testBit_eq fun u => ?_
        rw [xor_bit, xor_bit]
        cases c2.testBit u <;> cases decide (g = u) <;> rfl
      rw [e, e2] at z
      omega
  constructor
  · by_cases c : v1 ≤ 1 + v2
    · refine ⟨c2 ^^^ 2 ^ g, big.1, big.2.1, ?_⟩
      rw [big.2.2]
      omega
    · exact ⟨c1, lift1 c1 s1, q1, by omega⟩
  · intro c sc cc
    cases e : c.testBit g with
    | false =>
      have z := u1 c (fun u hu => by
        rw [xor_bit, sc u hu]
        by_cases e3 : g = u
        · rw [← e3, e] at hu
          cases hu
        · rw [decide_eq_false e3]
          rfl) cc
      omega
    | true =>
      have bits : ∀ u, (c ^^^ 2 ^ g).testBit u = true → g ≠ u ∧ c.testBit u = true := fun u hu => by
        rw [xor_bit] at hu
        by_cases e3 : g = u
        · rw [← e3, e, decide_eq_true rfl] at hu
          cases hu
        · rw [decide_eq_false e3, Bool.xor_false] at hu
          exact ⟨e3, hu⟩
      have z := u2 (c ^^^ 2 ^ g) (fun u hu => by
        obtain ⟨ne, cu⟩ := bits u hu
        rw [Nat.testBit_and, sc u cu, ok.2 g gn, cc g u e cu ne]
        rfl) (fun u v hu hv ne => cc u v (bits u hu).2 (bits v hv).2 ne)
      have y := size_flip c (Nat.lt_of_le_of_lt sc.le m9) g t9 e
      omega
theorem xor_less {m : Nat} (m9 : m < 512) (m1 : 1 ≤ m) : m ^^^ 2 ^ topN m < m := by
  obtain ⟨_, _, tb, tl, tg⟩ := top_ok m m9 m1
  refine Nat.lt_of_lt_of_le (Nat.lt_pow_two_of_testBit _ fun v hv => ?_) tg
  rw [xor_bit]
  by_cases e : topN m = v
  · rw [← e, tb, decide_eq_true rfl]
    rfl
  · rw [decide_eq_false e, Bool.xor_false]
    exact high_out tl (by omega)
theorem and_less {n : Nat} {es : List E2} {nb : List Nat} {m : Nat} (gd : Good n es) (ok : NbOk n es nb) (lt : m < 2 ^ n) (m1 : 1 ≤ m) : topN m < n ∧ m &&& nb.getD (topN m) 0 < m := by
  have m9 : m < 512 := Nat.lt_of_lt_of_le lt (Nat.pow_le_pow_right (by decide) gd.n9)
  obtain ⟨_, _, tb, tl, tg⟩ := top_ok m m9 m1
  have gn : topN m < n := by
    by_cases c : topN m < n
    · exact c
    · rw [high_out lt (by omega)] at tb
      cases tb
  refine ⟨gn, Nat.lt_of_lt_of_le (Nat.lt_pow_two_of_testBit _ fun v hv => ?_) tg⟩
  rw [Nat.testBit_and]
  by_cases e : topN m = v
  · subst e
    rw [ok.2 _ gn]
    cases e : adjB es (topN m) (topN m) with
    | false => exact Bool.and_false _
    | true => exact absurd rfl (adj_ne gd e).1
  · rw [high_out tl (by omega)]
    rfl
end My

set_option maxHeartbeats 4000000
namespace My
open PySem PySem.Spec PyProof.Rows L2
abbrev sCNum : Stmt := top 16
abbrev sCNums : Stmt := top 20
theorem scCNum : FnScope ["graph"] ["graph"] (defScope sCNum) := ⟨rfl, rfl, rfl, by decide +kernel, rfl, by decide +kernel, by decide +kernel⟩
theorem scCNums : FnScope ["neighbours", "numbers", "mask", "greatest", "without_it", "with_it"] ["neighbours"] (defScope sCNums) := ⟨rfl, rfl, rfl, by decide +kernel, rfl, by decide +kernel, by decide +kernel⟩
/-- the greatest number of vertices of a lot that is tied so -/
def BestOk (n : Nat) (es : List E2) (tied : Bool) (v : Nat) : Prop := (∃ l, LotOk n l ∧ PairB es tied l ∧ l.length = v) ∧ ∀ l, LotOk n l → PairB es tied l → l.length ≤ v
theorem cn_best {n : Nat} {es : List E2} {v : Nat} (n9 : n ≤ 9) (h : CnOk es (2 ^ n - 1) v) : BestOk n es true v := by
  have full : ∀ u, (2 ^ n - 1).testBit u = decide (u < n) := fun u => Nat.testBit_two_pow_sub_one n u
  constructor
  · obtain ⟨c, sc, cc, ec⟩ := h.1
    have lt : c < 2 ^ n := Nat.lt_of_le_of_lt sc.le (by have := Nat.two_pow_pos n; omega)
    refine ⟨bitsN n c, ⟨fun k hk => (mem_bits.mp hk).1, bits_up n c⟩, (clq_mask (bits_up n c)).mp (by rw [mask_bits lt]; exact cc), ?_⟩
    rw [← ec]
    unfold sizeN
    have z := bits_mask (n := 9) (bits_up n c) fun k hk => Nat.lt_of_lt_of_le (mem_bits.mp hk).1 n9
    rw [mask_bits lt] at z
    rw [z]
  · intro l lo pb
    have z := h.2 (maskN l) (fun u hu => by
      rw [mask_bit lo.up] at hu
      rw [full]
      exact decide_eq_true (lo.lt u (of_decide_eq_true hu))) ((clq_mask lo.up).mpr pb)
    unfold sizeN at z
    rw [bits_mask (n := 9) lo.up fun k hk => Nat.lt_of_lt_of_le (lo.lt k hk) n9] at z
    exact z
theorem best_uniq {n : Nat} {es : List E2} {t : Bool} {v u : Nat} (h : BestOk n es t v) (h' : BestOk n es t u) : v = u := by
  obtain ⟨⟨l, l1, l2, l3⟩, hl⟩ := h
  obtain ⟨⟨m, m1, m2, m3⟩, hm⟩ := h'
  have := hl m m1 m2
  have := hm l l1 l2
  omega
def spCNums (K : PySem.W.Frag) : Sp := fun vs H Q _ => ∃ (D : Addr) (nb : List Nat) (n : Nat) (es : List E2), vs = [.ref D] ∧ SqL K H D (numsN nb) ∧ NbOk n es nb ∧ Good n es ∧ ∀ (F : Addr) (ns : List Nat) H', Same H H' → H' F = some (.lst (numsN ns)) → ns.length = 2 ^ n → (∀ k, k < 2 ^ n → CnOk es k (ns.getD k 0)) → Q (.ref F) H'
def spNum (K : PySem.W.Frag) (tied : Bool) : Sp := fun vs H Q _ => ∃ (x : V) (n : Nat) (es : List E2), vs = [x] ∧ GraphAt K H x n es ∧ Good n es ∧ ∀ (v : Nat) H', Same H H' → BestOk n es tied v → Q (.int (v : Int)) H'
theorem xor_shl (a b : Nat) : Builtin.bitXor ((a : Nat) : Int) ((1 : Int) * 2 ^ ((b : Nat) : Int).toNat) = ((a ^^^ 2 ^ b : Nat) : Int) := by
  rw [shl_one, Bits.bitXor_pp (Int.natCast_nonneg _) (Int.natCast_nonneg _), Int.toNat_natCast, Int.toNat_natCast]
theorem at_end {ns : List Nat} {m : Nat} (h : ns.length = m) (m1 : 1 ≤ m) : atI (numsN ns) (-1) = some (V.int ((ns.getD (m - 1) 0 : Nat) : Int)) := by
  have ne : ns ≠ [] := fun z => by
    rw [z, List.length_nil] at h
    omega
  have l : ns.getD (m - 1) 0 = ns.getLast ne := by
    rw [List.getLast_eq_getElem, List.getD_eq_getElem?_getD, List.getElem?_eq_getElem (by omega)]
    simp [h]
  have e : numsN ns = numsN ns.dropLast ++ [V.int ((ns.getLast ne : Nat) : Int)] := by
    conv => lhs; rw [← List.dropLast_concat_getLast ne]
    unfold numsN
    rw [List.map_append]
    rfl
  rw [e, l]
  exact atI_last _ _
section
variable {P : Program} {w : World} {K : PySem.W.Frag} {mg : Str → Option Value} {base : Heap} {f fC fN fM : Addr} {fd dC dN dM : FuncData}
theorem ok_clique_numbers (F : L2.Fun K "clique_numbers" "clique_numbers" sCNums f fd) (mr : mg "range" = none) (ml : mg "len" = none) (mx : mg "max" = none) : FnOk P w K mg base CX0 1 f fd ["neighbours"] (spCNums K) := by
  refine F.ok scCNums (fun vs H Q E h => ?_) (fun cdv A outer s H vs Q E hr h => ?_)
  · obtain ⟨D, nb, n, es, rfl, _⟩ := h
    rfl
  obtain ⟨D, nb, n, es, rfl, hD, ok, g, q⟩ := h
  refine ⟨_, pss_cons (ps_set (i := 1) scCNums.nd rfl (.inl rfl) (pe_lst (pa_cons pe_int pa_nil)))
    (pss_cons (ps_for PassesOwn.never rfl (pi_range2 (by rfl) mr (pa_cons pe_int (pa_cons (pe_op op_shl pe_int (pe_callB call_len_seq (by rfl) ml PySem.boot_len (pa_cons (pv 0) pa_nil))) pa_nil))) (pg_name (i := 2) scCNums.nd rfl (.inl rfl))
      (pss_cons (ps_set (i := 3) scCNums.nd rfl (.inl rfl) (pe_op op_sub (pe_bits (pv 2)) pe_int))
      (pss_cons (ps_set (i := 4) scCNums.nd rfl (.inl rfl) (pe_ix (r := rIxL K) ix_list (pv 1) (pe_op op_xor (pv 2) (pe_op op_shl pe_int (pv 3))) (fun _ _ => rfl)))
      (pss_cons (ps_set (i := 5) scCNums.nd rfl (.inl rfl) (pe_op op_add pe_int (pe_ix (r := rIxL K) ix_list (pv 1) (pe_op op_and (pv 2) (pe_ix (r := rIxL K) ix_list (pv 0) (pv 3) (fun _ _ => rfl))) (fun _ _ => rfl))))
      (pss_one (ps_expr (pe_bm PySem.F.plainAttrs_list PySem.F.slot_list_append PySem.F.type_list_append mt_append (pv 1) (pa_cons (pe_callB (call_max2 rfl) (by rfl) mx (by decide +kernel) (pa_cons (pv 4) (pa_cons (pv 5) pa_nil))) pa_nil))))))))
    (pss_one (ps_ret (pv 1)))), ?_⟩
  have n9 := g.n9
  have ln := ok.1
  have p9 : 2 ^ n ≤ 512 := Nat.pow_le_pow_right (by decide) n9
  have p1 := Nat.two_pow_pos n
  refine ⟨(by show 1 ≤ sizeLine; rw [sizeLine_eq]; decide), fun F0 nF0 => ?_⟩
  have s0 := same_new nF0 (.lst [V.int 0])
  have e2 : (1 : Int) * 2 ^ (((numsN nb).length : Nat) : Int).toNat = ((2 ^ n : Nat) : Int) := by
    rw [Int.toNat_natCast, numsN_len, ln, Int.one_mul, Int.natCast_pow]
    rfl
  have h0 := upd_same (H := H) (a := F0) (o := .lst [V.int 0])
  generalize upd H F0 (.lst [V.int 0]) = H0 at s0 h0 ⊢
  refine ⟨_, rfl, D, _, rfl, .inl (Same.seq s0 hD), _, _, rfl, rfl, ⟨by rw [numsN_len]; omega, by rw [numsN_len]; omega, by decide⟩, 1, ((2 ^ n : Nat) : Int), congrArg (fun z : Int => [V.int 1, V.int z]) e2, ⟨by decide, by decide, by omega, by omega⟩, for_range (lo := 1) (n := (((2 ^ n : Nat) : Int) - 1).toNat) (fun i σ H' => ∃ (ns : List Nat) (s2 s3 s4 s5 : Option V), σ = [some (.ref D), some (.ref F0), s2, s3, s4, s5] ∧ Same H H' ∧ H' F0 = some (.lst (numsN ns)) ∧ ns.length = i + 1 ∧ ∀ k, k < i + 1 → CnOk es k (ns.getD k 0))
    ⟨[0], none, none, none, none, rfl, s0, h0, rfl, fun k hk => ?_⟩ ?_ ?_⟩
  · obtain rfl : k = 0 := by omega
    exact cn_zero es
  · rintro i σ H2 li ⟨ns, s2', s3', s4', s5', rfl, s2, hF, nl, cn⟩
    have lm : i + 1 < 2 ^ n := by omega
    have m9 : i + 1 < 512 := by omega
    obtain ⟨ib, t9, tb, tl, tg⟩ := top_ok (i + 1) m9 (by omega)
    obtain ⟨tn, al⟩ := and_less g ok lm (by omega)
    have xl := xor_less m9 (show 1 ≤ i + 1 by omega)
    have em : (1 : Int) + (i : Int) = ((i + 1 : Nat) : Int) := by omega
    rw [em]
    have eb : ((Builtin.Int.intBits ((i + 1 : Nat) : Int) : Nat) : Int) - 1 = ((topN (i + 1) : Nat) : Int) := by
      rw [ib]
      omega
    refine ⟨_, rfl, _, rfl, _, _, rfl, rfl, ?_⟩
    simp only [eb]
    refine ⟨_, rfl, _, rfl, _, rfl, _, _, rfl, rfl, ⟨by omega, by omega, by decide⟩, _, _, rfl, rfl, ?_⟩
    simp only [xor_shl]
    refine ⟨F0, _, _, _, rfl, rfl, SqL.of hF, atI_nat (numsN_getD (by omega)), _, rfl, _, rfl, _, rfl, _, rfl, D, _, _, _, rfl, rfl, Same.seq s2 hD, atI_nat (numsN_getD (by omega)), _, _, rfl, rfl, ?_⟩
    simp only [and_nn]
    refine ⟨F0, _, _, _, rfl, rfl, SqL.of hF, atI_nat (numsN_getD (by omega)), _, _, rfl, rfl, ?_⟩
    refine ⟨_, rfl, .inl ⟨rfl, _, SqL.of hF⟩, _, rfl, _, rfl, _, _, rfl, F0, _, _, rfl, rfl, hF, small1000 (by rw [numsN_len]; omega), ?_⟩
    have eM : (if (1 : Int) + ((ns.getD (i + 1 &&& nb.getD (topN (i + 1)) 0) 0 : Nat) : Int) > ((ns.getD (i + 1 ^^^ 2 ^ topN (i + 1)) 0 : Nat) : Int) then (1 : Int) + ((ns.getD (i + 1 &&& nb.getD (topN (i + 1)) 0) 0 : Nat) : Int) else ((ns.getD (i + 1 ^^^ 2 ^ topN (i + 1)) 0 : Nat) : Int)) = ((max (ns.getD (i + 1 ^^^ 2 ^ topN (i + 1)) 0) (1 + ns.getD (i + 1 &&& nb.getD (topN (i + 1)) 0) 0) : Nat) : Int) := by
      split <;> omega
    refine ⟨ns ++ [max (ns.getD (i + 1 ^^^ 2 ^ topN (i + 1)) 0) (1 + ns.getD (i + 1 &&& nb.getD (topN (i + 1)) 0) 0)], _, _, _, _, rfl, same_put s2 nF0, ?_, by rw [List.length_append, nl]; rfl, fun k hk => ?_⟩
    · rw [upd_same, eM]
      unfold numsN
      rw [List.map_append]
      rfl
    · by_cases c : k < i + 1
      · rw [List.getD_eq_getElem?_getD, List.getElem?_append_left (by omega), ← List.getD_eq_getElem?_getD]
        exact cn k c
      · obtain rfl : k = i + 1 := by omega
        rw [List.getD_eq_getElem?_getD, List.getElem?_append_right (by omega), nl, Nat.sub_self]
        exact cn_step g ok lm (by omega) (cn _ xl) (cn _ al)
  · rintro σ H2 ⟨ns, s2', s3', s4', s5', rfl, s2, hF, nl, cn⟩
    have e3 : (((2 ^ n : Nat) : Int) - 1).toNat + 1 = 2 ^ n := by omega
    rw [e3] at nl cn
    exact ⟨_, rfl, q F0 ns H2 s2 hF nl cn⟩
theorem ok_clique_number (F : L2.Fun K "clique_number" "clique_number" sCNum f fd) (GC : FnOk P w K mg base CX0 5 fC dC ["graph"] (spCheckGraph K)) (bC : L2.Binds K dC ["graph"] []) (kC : PySem.W.keepIn K (.ref fC) = true) (mC : mg "check_graph" = some (.ref fC))
    (GN : FnOk P w K mg base CX0 1 fN dN ["graph"] (spMasks K)) (bN : L2.Binds K dN ["graph"] []) (kN' : PySem.W.keepIn K (.ref fN) = true) (mN : mg "neighbour_masks" = some (.ref fN))
    (GM : FnOk P w K mg base CX0 1 fM dM ["neighbours"] (spCNums K)) (bM : L2.Binds K dM ["neighbours"] []) (kM : PySem.W.keepIn K (.ref fM) = true) (mM : mg "clique_numbers" = some (.ref fM)) : FnOk P w K mg base CX0 6 f fd ["graph"] (spNum K true) := by
  refine F.ok scCNum (fun vs H Q E h => ?_) (fun cdv A outer s H vs Q E hr h => ?_)
  · obtain ⟨x, n, es, rfl, _⟩ := h
    rfl
  obtain ⟨x, n, es, rfl, hx, g, q⟩ := h
  refine ⟨_, pss_cons (ps_expr (pe_call GC hr (by rfl) mC kC bC .nil pass0 (pa_cons (pv 0) pa_nil)))
    (pss_one (ps_ret (pe_ix (r := rIxL K) ix_list (pe_call GM (hr.mono (by decide)) (by rfl) mM kM bM .nil pass0 (pa_cons (pe_call GN (hr.mono (by decide)) (by rfl) mN kN' bN .nil pass0 (pa_cons (pv 0) pa_nil)) pa_nil)) (pe_un un_neg pe_int) (fun _ _ => rfl)))), ?_⟩
  have p1 := Nat.two_pow_pos n
  refine ⟨_, rfl, x, n, es, rfl, hx, g, fun H1 s1 => ?_⟩
  refine ⟨_, rfl, x, n, es, rfl, hx.same s1, g, fun D nb H2 nD s2 hD ok => ⟨D, nb, n, es, rfl, SqL.of hD, ok, g, fun F0 ns H3 s3 hF nl cn => ?_⟩⟩
  refine ⟨_, rfl, F0, _, _, _, rfl, rfl, SqL.of hF, ?_, q (ns.getD (2 ^ n - 1) 0) H3 (s1.trans (s2.trans s3)) (cn_best g.n9 (cn _ (by omega)))⟩
  exact at_end nl p1
end
end My

set_option maxHeartbeats 4000000
/-! Chromatic numbers of masks, in plain Lean. -/
namespace My
open PySem PySem.Spec PyProof.Rows L2
/-- no two of them adjacent -/
def Stb (es : List E2) (m : Nat) : Prop := ∀ u v, m.testBit u = true → m.testBit v = true → u ≠ v → adjB es u v = false
/-- a mask's vertices can have colours below k -/
def ColB (es : List E2) (m k : Nat) : Prop := ∃ f : Nat → Nat, (∀ u, m.testBit u = true → f u < k) ∧ ∀ u v, m.testBit u = true → m.testBit v = true → adjB es u v = true → f u ≠ f v
def ChOk (es : List E2) (m v : Nat) : Prop := ColB es m v ∧ ∀ k, ColB es m k → v ≤ k
theorem ch_zero (es : List E2) : ChOk es 0 0 := ⟨⟨fun _ => 0, fun u h => by simp at h, fun u v h => by simp at h⟩, fun k _ => Nat.zero_le k⟩
theorem xor_sub {m c : Nat} (h : SubN c m) (u : Nat) : (m ^^^ c).testBit u = (m.testBit u && !c.testBit u) := by
  rw [Nat.testBit_xor]
  have z := h u
  cases e : c.testBit u with
  | false => cases m.testBit u <;> rfl
  | true => rw [z e]; rfl
/-- a class of a colouring -/
theorem class_mask (n : Nat) {m : Nat} (lt : m < 2 ^ n) (f : Nat → Nat) (a : Nat) : ∃ c, SubN c m ∧ ∀ u, c.testBit u = true ↔ m.testBit u = true ∧ f u = a := by
  have up : ((List.range n).filter fun u => m.testBit u && f u == a).Pairwise (· < ·) := (List.pairwise_lt_range).filter _
  have key : ∀ u, (maskN ((List.range n).filter fun u => m.testBit u && f u == a)).testBit u = true ↔ m.testBit u = true ∧ f u = a := fun u => by
    rw [mask_bit up, decide_eq_true_eq, List.mem_filter, List.mem_range, Bool.and_eq_true, beq_iff_eq]
    refine ⟨fun z => z.2, fun z => ⟨?_, z⟩⟩
    by_cases c : u < n
    · exact c
    · rw [high_out lt (by omega)] at z
      cases z.1
  exact ⟨_, fun u hu => ((key u).mp hu).1, key⟩
/-- the colour of a vertex is a class that it is in; the rest needs one less -/
theorem ch_low {n : Nat} {es : List E2} {m t k : Nat} (lt : m < 2 ^ n) (ht : m.testBit t = true) (h : ColB es m k) : ∃ c, SubN c m ∧ c.testBit t = true ∧ Stb es c ∧ 1 ≤ k ∧ ColB es (m ^^^ c) (k - 1) := by
  obtain ⟨f, hf, hp⟩ := h
  obtain ⟨c, sc, hc⟩ := class_mask n lt f (f t)
  have ft := hf t ht
  refine ⟨c, sc, (hc t).mpr ⟨ht, rfl⟩, fun u v hu hv ne => ?_, by omega, fun u => if f u = k - 1 then f t else f u, fun u hu => ?_, fun u v hu hv ad => ?_⟩
  · obtain ⟨mu, eu⟩ := (hc u).mp hu
    obtain ⟨mv, ev⟩ := (hc v).mp hv
    cases e : adjB es u v with
    | false => rfl
    | true => exact absurd (eu.trans ev.symm) (hp u v mu mv e)
  · rw [xor_sub sc, Bool.and_eq_true, Bool.not_eq_true'] at hu
    have nu : f u ≠ f t := fun z => by
      rw [(hc u).mpr ⟨hu.1, z⟩] at hu
      cases hu.2
    have := hf u hu.1
    dsimp only
    split <;> omega
  · rw [xor_sub sc, Bool.and_eq_true, Bool.not_eq_true'] at hu hv
    have nu : f u ≠ f t := fun z => by
      rw [(hc u).mpr ⟨hu.1, z⟩] at hu
      cases hu.2
    have nv : f v ≠ f t := fun z => by
      rw [(hc v).mpr ⟨hv.1, z⟩] at hv
      cases hv.2
    have ne := hp u v hu.1 hv.1 ad
    dsimp only
    split <;> split <;> omega
theorem ch_high {es : List E2} {m c k : Nat} (sc : SubN c m) (st : Stb es c) (ir : ∀ u, adjB es u u = false) (h : ColB es (m ^^^ c) k) : ColB es m (k + 1) := by
  obtain ⟨f, hf, hp⟩ := h
  have rest : ∀ u, m.testBit u = true → c.testBit u = false → (m ^^^ c).testBit u = true := fun u hu hc => by rw [xor_sub sc, hu, hc]; rfl
  refine ⟨fun u => if c.testBit u then k else f u, fun u hu => ?_, fun u v hu hv ad => ?_⟩
  · dsimp only
    cases e : c.testBit u with
    | true => simp
    | false =>
      have := hf u (rest u hu e)
      simp
      omega
  · dsimp only
    cases eu : c.testBit u with
    | true =>
      cases ev : c.testBit v with
      | true =>
        by_cases ne : u = v
        · subst ne
          rw [ir] at ad
          cases ad
        · rw [st u v eu ev ne] at ad
          cases ad
      | false =>
        have := hf v (rest v hv ev)
        simp
        omega
    | false =>
      cases ev : c.testBit v with
      | true =>
        have := hf u (rest u hu eu)
        simp
        omega
      | false =>
        simp
        exact hp u v (rest u hu eu) (rest v hv ev) ad
/-- the stable masks of a greatest vertex -/
def RowOk (es : List E2) (t : Nat) (row : List Nat) : Prop := ∀ c, c ∈ row ↔ c < 2 ^ (t + 1) ∧ c.testBit t = true ∧ Stb es c
theorem ch_step {n : Nat} {es : List E2} {m v : Nat} {row : List Nat} (gd : Good n es) (lt : m < 2 ^ n) (m1 : 1 ≤ m) (ro : RowOk es (topN m) row) (num : Nat → Nat) (ok : ∀ k, k < m → ChOk es k (num k))
    (hv : v ∈ (row.filter fun c => c &&& m == c).map fun c => num (m ^^^ c)) (hm : ∀ y ∈ (row.filter fun c => c &&& m == c).map fun c => num (m ^^^ c), v ≤ y) : ChOk es m (1 + v) := by
  have m9 : m < 512 := Nat.lt_of_lt_of_le lt (Nat.pow_le_pow_right (by decide) gd.n9)
  obtain ⟨_, t9, tb, tl, tg⟩ := top_ok m m9 m1
  have ir : ∀ u, adjB es u u = false := fun u => by
    cases e : adjB es u u with
    | false => rfl
    | true => exact absurd rfl (adj_ne gd e).1
  have less : ∀ c, SubN c m → c.testBit (topN m) = true → m ^^^ c < m := fun c sc tc => by
    refine Nat.lt_of_lt_of_le (Nat.lt_pow_two_of_testBit _ fun u hu => ?_) tg
    rw [xor_sub sc]
    by_cases e : topN m = u
    · rw [← e, tc]
      exact Bool.and_false _
    · rw [high_out tl (by omega)]
      rfl
  constructor
  · obtain ⟨c, hc, rfl⟩ := List.mem_map.mp hv
    obtain ⟨hc, sb⟩ := List.mem_filter.mp hc
    obtain ⟨c1, c2, c3⟩ := (ro c).mp hc
    have sc : SubN c m := (sub_and c m).mp (beq_iff_eq.mp sb)
    rw [Nat.add_comm]
    exact ch_high sc c3 ir (ok _ (less c sc c2)).1
  · intro k hk
    obtain ⟨c, sc, c2, c3, k1, ck⟩ := ch_low lt tb hk
    have mem : num (m ^^^ c) ∈ (row.filter fun c => c &&& m == c).map fun c => num (m ^^^ c) := List.mem_map.mpr ⟨c, List.mem_filter.mpr ⟨(ro c).mpr ⟨Nat.lt_of_le_of_lt sc.le tl, c2, c3⟩, beq_iff_eq.mpr ((sub_and c m).mpr sc)⟩, rfl⟩
    have := hm _ mem
    have := (ok _ (less c sc c2)).2 _ ck
    omega
/-- the row is not empty where a mask needs it -/
theorem row_some {n : Nat} {es : List E2} {m : Nat} {row : List Nat} (gd : Good n es) (lt : m < 2 ^ n) (m1 : 1 ≤ m) (ro : RowOk es (topN m) row) : 0 < (row.filter fun c => c &&& m == c).length := by
  have m9 : m < 512 := Nat.lt_of_lt_of_le lt (Nat.pow_le_pow_right (by decide) gd.n9)
  obtain ⟨_, t9, tb, tl, tg⟩ := top_ok m m9 m1
  refine List.length_pos_of_mem (a := 2 ^ topN m) (List.mem_filter.mpr ⟨(ro _).mpr ⟨Nat.pow_lt_pow_right (by decide) (Nat.lt_succ_self _), by rw [bit_pow]; exact decide_eq_true rfl, fun u v hu hv ne => ?_⟩, beq_iff_eq.mpr ((sub_and _ _).mpr fun v hv => ?_)⟩)
  · rw [bit_pow] at hu hv
    exact absurd ((of_decide_eq_true hu).symm.trans (of_decide_eq_true hv)) ne
  · rw [bit_pow] at hv
    rw [← of_decide_eq_true hv]
    exact tb
/-- the stable masks of vertices below k -/
def StbOk (es : List E2) (k : Nat) (found : List Nat) : Prop := ∀ m, m ∈ found ↔ m < 2 ^ k ∧ Stb es m
theorem stb_nil (es : List E2) : StbOk es 0 [0] := fun m => by
  rw [List.mem_singleton]
  constructor
  · rintro rfl
    exact ⟨by decide, fun u v h => by simp at h⟩
  · intro h
    have := h.1
    omega
def rowN (found : List Nat) (k near : Nat) : List Nat := (found.filter fun m => m &&& near == 0).map (· ||| 2 ^ k)
theorem and_zero (a b : Nat) : a &&& b = 0 ↔ ∀ v, a.testBit v = true → b.testBit v = false := by
  constructor
  · intro h v hv
    have z := congrArg (Nat.testBit · v) h
    simp only [Nat.testBit_and, hv, Bool.true_and, Nat.zero_testBit] at z
    exact z
  · intro h
    refine Nat.eq_of_testBit_eq fun v => ?_
    rw [Nat.testBit_and, Nat.zero_testBit]
    cases e : a.testBit v with
    | false => rfl
    | true => rw [h v e]; rfl
theorem row_step {n : Nat} {es : List E2} {nb found : List Nat} {k : Nat} (h : StbOk es k found) (ok : NbOk n es nb) (kn : k < n) : RowOk es k (rowN found k (nb.getD k 0)) ∧ StbOk es (k + 1) (found ++ rowN found k (nb.getD k 0)) := by
  have ro : RowOk es k (rowN found k (nb.getD k 0)) := fun c => by
    unfold rowN
    rw [List.mem_map]
    constructor
    · rintro ⟨m, hm, rfl⟩
      obtain ⟨hm, nr⟩ := List.mem_filter.mp hm
      obtain ⟨lm, sm⟩ := (h m).mp hm
      have far := (and_zero _ _).mp (beq_iff_eq.mp nr)
      refine ⟨Nat.or_lt_two_pow (Nat.lt_of_lt_of_le lm (Nat.pow_le_pow_right (by decide) (Nat.le_succ k))) (Nat.pow_lt_pow_right (by decide) (Nat.lt_succ_self k)), by rw [or_pow_bit, decide_eq_true rfl, Bool.or_true], fun u v hu hv ne => ?_⟩
      rw [or_pow_bit] at hu hv
      simp only [Bool.or_eq_true, decide_eq_true_eq] at hu hv
      rcases hu with hu | rfl
      · rcases hv with hv | rfl
        · exact sm u v hu hv ne
        · rw [adj_comm, ← ok.2 k kn]
          exact far u hu
      · rcases hv with hv | rfl
        · rw [← ok.2 k kn]
          exact far v hv
        · exact absurd rfl ne
    · rintro ⟨c1, c2, c3⟩
      have bits : ∀ v, (c % 2 ^ k).testBit v = (decide (v < k) && c.testBit v) := fun v => Nat.testBit_mod_two_pow c k v
      refine ⟨c % 2 ^ k, List.mem_filter.mpr ⟨(h _).mpr ⟨Nat.mod_lt _ (Nat.two_pow_pos k), fun u v hu hv ne => ?_⟩, beq_iff_eq.mpr ((and_zero _ _).mpr fun v hv => ?_)⟩, ?_⟩
      · rw [bits, Bool.and_eq_true] at hu hv
        exact c3 u v hu.2 hv.2 ne
      · rw [bits, Bool.and_eq_true] at hv
        have lt := of_decide_eq_true hv.1
        rw [ok.2 k kn]
        exact c3 k v c2 hv.2 (by omega)
      · refine Nat.eq_of_testBit_eq fun v => ?_
        rw [or_pow_bit, bits]
        by_cases e : k = v
        · subst e; simp [c2]
        · by_cases l : v < k
          · simp [l, e]
          · have z : c.testBit v = false := high_out c1 (by omega)
            simp [l, e, z]
  refine ⟨ro, fun m => ?_⟩
  rw [List.mem_append, ro m, h m]
  constructor
  · rintro (⟨h1, h2⟩ | ⟨h1, _, h3⟩)
    · exact ⟨Nat.lt_of_lt_of_le h1 (Nat.pow_le_pow_right (by decide) (Nat.le_succ k)), h2⟩
    · exact ⟨h1, h3⟩
  · rintro ⟨h1, h2⟩
    cases e : m.testBit k with
    | true => exact .inr ⟨h1, rfl, h2⟩
    | false =>
      left
      refine ⟨Nat.lt_pow_two_of_testBit m fun v hv => ?_, h2⟩
      by_cases c : v = k
      · rw [c]; exact e
      · exact high_out h1 (by omega)
end My

set_option maxHeartbeats 4000000
namespace My
open PySem PySem.Spec PyProof.Rows L2
abbrev sChNum : Stmt := top 17
abbrev sChNums : Stmt := top 21
abbrev sStbRows : Stmt := top 22
theorem scChNum : FnScope ["graph"] ["graph"] (defScope sChNum) := ⟨rfl, rfl, rfl, by decide +kernel, rfl, by decide +kernel, by decide +kernel⟩
theorem scChNums : FnScope ["neighbours", "colours", "numbers", "mask", "fitting", "colour"] ["neighbours"] (defScope sChNums) := ⟨rfl, rfl, rfl, by decide +kernel, rfl, by decide +kernel, by decide +kernel⟩
theorem scStbRows : FnScope ["neighbours", "found", "rows", "vertex", "near", "row", "mask"] ["neighbours"] (defScope sStbRows) := ⟨rfl, rfl, rfl, by decide +kernel, rfl, by decide +kernel, by decide +kernel⟩
/-- lists of masks that stand apart from the list at R -/
inductive RowsT (H : Hp) (R : Addr) : List V → List (List Nat) → Prop
  | nil : RowsT H R [] []
  | cons {r : Addr} {l : List Nat} {xs : List V} {ls : List (List Nat)} : r ≠ R → H r = some (.lst (numsN l)) → RowsT H R xs ls → RowsT H R (.ref r :: xs) (l :: ls)
theorem RowsT.same {H H' : Hp} {R : Addr} (s : Same H H') {xs : List V} {ls : List (List Nat)} (h : RowsT H R xs ls) : RowsT H' R xs ls := by
  induction h with
  | nil => exact .nil
  | cons a b _ ih => exact .cons a (s _ _ b) ih
theorem RowsT.put {H : Hp} {R : Addr} {o : HO} {xs : List V} {ls : List (List Nat)} (h : RowsT H R xs ls) : RowsT (upd H R o) R xs ls := by
  induction h with
  | nil => exact .nil
  | cons a b _ ih => exact .cons a (by rw [upd_ne a]; exact b) ih
theorem RowsT.snoc {H : Hp} {R r : Addr} {xs : List V} {ls : List (List Nat)} {l : List Nat} (h : RowsT H R xs ls) (ne : r ≠ R) (hr : H r = some (.lst (numsN l))) : RowsT H R (xs ++ [.ref r]) (ls ++ [l]) := by
  induction h with
  | nil => exact .cons ne hr .nil
  | cons a b _ ih => exact .cons a b ih
theorem RowsT.len {H : Hp} {R : Addr} {xs : List V} {ls : List (List Nat)} (h : RowsT H R xs ls) : xs.length = ls.length := by
  induction h with
  | nil => rfl
  | cons _ _ _ ih => rw [List.length_cons, List.length_cons, ih]
theorem RowsT.get {H : Hp} {R : Addr} {xs : List V} {ls : List (List Nat)} (h : RowsT H R xs ls) {i : Nat} (hi : i < ls.length) : ∃ r, xs[i]? = some (.ref r) ∧ H r = some (.lst (numsN (ls.getD i []))) := by
  induction h generalizing i with
  | nil => simp at hi
  | cons a b _ ih =>
    cases i with
    | zero => exact ⟨_, rfl, b⟩
    | succ i => exact ih (by simpa using hi)
def AllRows (es : List E2) (rows : List (List Nat)) : Prop := ∀ t, t < rows.length → RowOk es t (rows.getD t []) ∧ (rows.getD t []).length ≤ 512
def spRows (K : PySem.W.Frag) : Sp := fun vs H Q _ => ∃ (D : Addr) (nb : List Nat) (n : Nat) (es : List E2), vs = [.ref D] ∧ SqL K H D (numsN nb) ∧ NbOk n es nb ∧ n ≤ 9 ∧ ∀ (R : Addr) (xs : List V) (rows : List (List Nat)) H', Same H H' → H' R = some (.lst xs) → RowsT H' R xs rows → rows.length = n → AllRows es rows → Q (.ref R) H'
theorem stb_few {es : List E2} {k n : Nat} {found : List Nat} (nd : found.Nodup) (h : StbOk es k found) (kn : k ≤ n) (n9 : n ≤ 9) : found.length ≤ 512 := by
  have z := sub_few nd (m := List.range (2 ^ k)) fun m hm => List.mem_range.mpr ((h m).mp hm).1
  rw [List.length_range] at z
  have p : 2 ^ k ≤ 2 ^ 9 := Nat.pow_le_pow_right (by decide) (by omega)
  omega
theorem row_nodup {es : List E2} {found : List Nat} {k near : Nat} (nd : found.Nodup) (h : StbOk es k found) : (found ++ rowN found k near).Nodup := by
  have low : ∀ m ∈ found, m < 2 ^ k := fun m hm => ((h m).mp hm).1
  unfold rowN
  rw [List.nodup_append]
  refine ⟨nd, ?_, ?_⟩
  · show List.Pairwise _ _
    rw [List.pairwise_map]
    refine List.Pairwise.imp_of_mem ?_ (nd.filter _)
    intro x y hx hy ne e
    refine ne (?_ : x = y)
    refine Nat.eq_of_testBit_eq fun v => ?_
    have lx := low x (List.mem_filter.mp hx).1
    have ly := low y (List.mem_filter.mp hy).1
    have z := congrArg (Nat.testBit · v) e
    simp only [or_pow_bit] at z
    by_cases c : k = v
    · subst c
      rw [high_out lx (Nat.le_refl _), high_out ly (Nat.le_refl _)]
    · rw [decide_eq_false c, Bool.or_false, Bool.or_false] at z
      exact z
  · intro a ha b hb e
    subst e
    obtain ⟨c, hc, e⟩ := List.mem_map.mp hb
    have z := high_out (low a ha) (Nat.le_refl k)
    rw [← e, or_pow_bit, decide_eq_true rfl, Bool.or_true] at z
    cases z
section
variable {P : Program} {w : World} {K : PySem.W.Frag} {mg : Str → Option Value} {base : Heap} {f fC fN fM : Addr} {fd dC dN dM : FuncData}
theorem ok_stb_rows (F : L2.Fun K "_stable_masks_by_greatest" "_stable_masks_by_greatest" sStbRows f fd) (me : mg "enumerate" = none) : FnOk P w K mg base CX0 1 f fd ["neighbours"] (spRows K) := by
  refine F.ok scStbRows (fun vs H Q E h => ?_) (fun cdv A outer s H vs Q E hr h => ?_)
  · obtain ⟨D, nb, n, es, rfl, _⟩ := h
    rfl
  obtain ⟨D, nb, n, es, rfl, hD, ok, n9, q⟩ := h
  refine ⟨_, pss_cons (ps_set (i := 1) scStbRows.nd rfl (.inl rfl) (pe_lst (pa_cons pe_int pa_nil)))
    (pss_cons (ps_set (i := 2) scStbRows.nd rfl (.inl rfl) (pe_lst pa_nil))
    (pss_cons (ps_for PassesOwn.never rfl (pi_enum (by rfl) me (pa_cons (pv 0) pa_nil)) (pg_tup (by rfl) (pgs_cons (pg_name (i := 3) scStbRows.nd rfl (.inr rfl)) (pgs_cons (pg_name (i := 4) scStbRows.nd rfl (.inr rfl)) pgs_nil)))
      (pss_cons (ps_setLc (i := 5) (own := [("mask", 6)]) (g := gName 6) (tt := tTest (tOp rEq (tOp (rI0 fun i j => .int (Builtin.bitAnd i j)) (tVar 6) (tVar 4)) (tC (.int 0)))) rfl scStbRows.nd rfl rfl (sw_true rfl rfl rfl (by decide +kernel)) (pi_list (pv 1))
          (blkOk_by (N := ["neighbours", "found", "rows", "vertex", "near", "row", "mask"]) (sc := defScope sStbRows) (by decide +kernel)) (fun _ _ _ _ _ => pg_name (i := 6) scStbRows.nd rfl (Or.inl rfl))
          (fun _ _ _ _ _ => pts_one (pt_cmpR (r := rEq) op_eq (pe_op op_and (pv 6) (pv 4)) pe_int (nomark _)))
          (fun _ _ _ _ _ => pe_op op_or (pv 6) (pe_op op_shl pe_int (pv 3))))
      (pss_cons (ps_expr (pe_bm PySem.F.plainAttrs_list PySem.F.slot_list_append PySem.F.type_list_append mt_append (pv 2) (pa_cons (pv 5) pa_nil)))
      (pss_one (ps_set (i := 1) scStbRows.nd rfl (.inl rfl) (pe_op op_cat (pv 1) (pv 5)))))))
    (pss_one (ps_ret (pv 2))))), ?_⟩
  have ln := ok.1
  refine ⟨(by show 1 ≤ sizeLine; rw [sizeLine_eq]; decide), fun F0 nF0 => ?_⟩
  have s0 := same_new nF0 (.lst [V.int 0])
  have h0 := upd_same (H := H) (a := F0) (o := .lst [V.int 0])
  generalize upd H F0 (.lst [V.int 0]) = H0 at s0 h0 ⊢
  refine ⟨(by show 0 ≤ sizeLine; decide), fun R nR => ?_⟩
  have sR := same_new nR (.lst [])
  have hR := upd_same (H := H0) (a := R) (o := .lst [])
  refine ⟨_, rfl, D, _, rfl, Same.seq (s0.trans sR) hD, for_it walk_enum (fun i σ H' => ∃ (F1 : Addr) (found : List Nat) (xs : List V) (rows : List (List Nat)) (s3 s4 s5 : Option V), σ = [some (.ref D), some (.ref F1), some (.ref R), s3, s4, s5, none] ∧ Same H0 H' ∧ H' F1 = some (.lst (numsN found)) ∧ F1 ≠ R ∧ H' R = some (.lst xs) ∧ RowsT H' R xs rows ∧ rows.length = i ∧ AllRows es rows ∧ StbOk es i found ∧ found.Nodup)
    ⟨F0, [0], [], [], none, none, none, rfl, sR, sR _ _ h0, ne_of_none h0 nR, hR, .nil, rfl, fun t ht => absurd ht (by simp), stb_nil es, by simp⟩ (fun i σ H' _ ⟨_, _, _, _, _, _, _, _, s, _⟩ => Same.seq (s0.trans s) hD) ?_ ?_⟩
  · rintro i x σ H2 H3 li ⟨F1, found, xs, rows, s3', s4', s5', rfl, s2, hF, FR, hR2, hro, rl, ar, so, nd⟩ ⟨T, y, v, rfl, nT, rfl, e1, e2⟩
    obtain rfl : V.int ((i : Nat) : Int) = y := Option.some.inj e1
    rw [numsN_len] at li
    have e2' : (numsN nb)[i]? = some v := e2
    rw [numsN_getD li] at e2'
    obtain rfl := Option.some.inj e2'
    have sT := same_new nT (.tup [.int ((i : Nat) : Int), .int ((nb.getD i 0 : Nat) : Int)])
    have hF3 := sT _ _ hF
    have few := stb_few nd so (show i ≤ n by omega) n9
    refine ⟨T, _, rfl, SqT.of upd_same, rfl, _, _, rfl, _, _, rfl, rfl, ?_⟩
    have hR3 := sT _ _ hR2
    have hro3 := hro.same sT
    have s23 := s2.trans sT
    generalize upd H2 T (.tup [.int ((i : Nat) : Int), .int ((nb.getD i 0 : Nat) : Int)]) = H3 at hF3 hR3 hro3 s23 ⊢
    refine ⟨_, rfl, F1, rfl, ⟨_, SqL.of hF3⟩, fun B nB => lo_it (walk_list (xs := numsN found)) (fun j H4 => Same H3 H4 ∧ H4 B = some (.lst (numsN (((found.take j).filter fun m => m &&& nb.getD i 0 == 0).map (· ||| 2 ^ i))))) ⟨same_new nB _, upd_same⟩ (fun j H4 _ ⟨s4, _⟩ => SqL.of (s4 _ _ hF3)) ?_ ?_⟩
    · rintro j x _ H4 lj ⟨s4, hB⟩ ⟨rfl, hj⟩
      unfold numsN at hj
      rw [List.getElem?_map] at hj
      cases e : found[j]? with
      | none => rw [e] at hj; cases hj
      | some m =>
        rw [e] at hj
        cases hj
        have tk := take_succ e
        refine ⟨rfl, ?_⟩
        refine ⟨_, rfl, _, rfl, _, _, rfl, rfl, rfl, _, rfl, ?_⟩
        simp only [and_nn]
        have ev : decide (V.int ((m &&& nb.getD i 0 : Nat) : Int) = V.int 0) = (m &&& nb.getD i 0 == 0) := by
          rw [Bool.eq_iff_iff, decide_eq_true_eq, beq_iff_eq]
          refine ⟨fun z => ?_, fun z => by rw [z]; rfl⟩
          injection z with z
          exact Int.ofNat.inj z
        rw [ev]
        have fl : (((found.take j).filter fun m => m &&& nb.getD i 0 == 0).map (· ||| 2 ^ i)).length ≤ 512 := by
          rw [List.length_map]
          refine Nat.le_trans (List.length_filter_le _ _) ?_
          rw [List.length_take]
          omega
        refine iteB (fun c => ?_) (fun c => ?_)
        · refine ⟨_, rfl, _, rfl, _, _, rfl, rfl, ⟨by omega, by omega, by decide⟩, _, _, rfl, rfl, ?_⟩
          simp only [or_shl]
          refine ⟨_, hB, small1000 (by rw [numsN_len]; omega), same_put s4 nB, ?_⟩
          rw [upd_same, tk, List.filter_append, List.filter_cons_of_pos (p := fun m => m &&& nb.getD i 0 == 0) c, List.map_append]
          unfold numsN
          rw [List.map_append]
          rfl
        · refine ⟨s4, ?_⟩
          rw [hB, tk, List.filter_append, List.filter_cons_of_neg (p := fun m => m &&& nb.getD i 0 == 0) (by rw [c]; decide), List.filter_nil, List.append_nil]
    · rintro H4 ⟨s4, hB⟩
      rw [numsN_len, List.take_length] at hB
      have fl : (rowN found i (nb.getD i 0)).length ≤ 512 := by
        unfold rowN
        rw [List.length_map]
        exact Nat.le_trans (List.length_filter_le _ _) few
      obtain ⟨ro, so2⟩ := row_step so ok (show i < n by omega)
      have hB' : H4 B = some (.lst (numsN (rowN found i (nb.getD i 0)))) := hB
      have BR : B ≠ R := fun z => by rw [z, hR3] at nB; cases nB
      have hR4 := s4 _ _ hR3
      have xl := hro.len
      refine ⟨_, rfl, .inl ⟨rfl, _, SqL.of hR4⟩, _, rfl, R, xs, _, rfl, rfl, hR4, small1000 (by omega), ?_⟩
      have hF4 : (upd H4 R (.lst (xs ++ [.ref B]))) F1 = some (.lst (numsN found)) := by rw [upd_ne FR]; exact s4 _ _ hF3
      have hB4 : (upd H4 R (.lst (xs ++ [.ref B]))) B = some (.lst (numsN (rowN found i (nb.getD i 0)))) := by rw [upd_ne BR]; exact hB'
      have hR5 := upd_same (H := H4) (a := R) (o := .lst (xs ++ [.ref B]))
      have ro5 : RowsT (upd H4 R (.lst (xs ++ [.ref B]))) R (xs ++ [.ref B]) (rows ++ [rowN found i (nb.getD i 0)]) := (hro3.same s4).put.snoc BR hB4
      have s5 : Same H0 (upd H4 R (.lst (xs ++ [.ref B]))) := same_put (s23.trans s4) nR
      generalize upd H4 R (.lst (xs ++ [.ref B])) = H5 at hF4 hB4 hR5 ro5 s5 ⊢
      refine ⟨_, rfl, _, rfl, F1, B, _, _, rfl, rfl, hF4, hB4, Nat.le_trans (by rw [numsN_len, numsN_len]; omega : _ ≤ 1024) (by rw [sizeLine_eq]; decide), fun c nc => ?_⟩
      have sc := same_new nc (.lst (numsN found ++ numsN (rowN found i (nb.getD i 0))))
      have e3 : numsN found ++ numsN (rowN found i (nb.getD i 0)) = numsN (found ++ rowN found i (nb.getD i 0)) := by
        unfold numsN
        rw [List.map_append]
      rw [e3] at sc ⊢
      have cR : c ≠ R := fun z => by rw [z, hR5] at nc; cases nc
      refine ⟨c, _, _, _, _, _, _, rfl, s5.trans sc, upd_same, cR, sc _ _ hR5, ro5.same sc, by rw [List.length_append, rl]; rfl, fun t ht => ?_, so2, row_nodup nd so⟩
      by_cases ct : t < rows.length
      · rw [List.getD_eq_getElem?_getD, List.getElem?_append_left ct, ← List.getD_eq_getElem?_getD]
        exact ar t ct
      · have : t = i := by
          rw [List.length_append, List.length_singleton] at ht
          omega
        subst this
        rw [List.getD_eq_getElem?_getD, List.getElem?_append_right (by omega), rl, Nat.sub_self]
        exact ⟨ro, fl⟩
  · rintro σ H2 ⟨F1, found, xs, rows, s3', s4', s5', rfl, s2, hF, FR, hR2, hro, rl, ar, so, nd⟩
    rw [numsN_len, ln] at rl
    exact ⟨_, rfl, q R xs rows H2 (s0.trans s2) hR2 hro rl ar⟩
def spChNums (K : PySem.W.Frag) : Sp := fun vs H Q _ => ∃ (D : Addr) (nb : List Nat) (n : Nat) (es : List E2), vs = [.ref D] ∧ SqL K H D (numsN nb) ∧ NbOk n es nb ∧ Good n es ∧ ∀ (F : Addr) (ns : List Nat) H', Same H H' → H' F = some (.lst (numsN ns)) → ns.length = 2 ^ n → (∀ k, k < 2 ^ n → ChOk es k (ns.getD k 0)) → Q (.ref F) H'
theorem min_nat {l : List Nat} (pos : 0 < l.length) {m : Int} (hm : m ∈ l.map fun k => ((k : Nat) : Int)) (hu : ∀ y, y ∈ (l.map fun k => ((k : Nat) : Int)) → m ≤ y) : ∃ v : Nat, m = (v : Int) ∧ v ∈ l ∧ ∀ y ∈ l, v ≤ y := by
  obtain ⟨v, hv, rfl⟩ := List.mem_map.mp hm
  refine ⟨v, rfl, hv, fun y hy => ?_⟩
  have z := hu ((y : Nat) : Int) (List.mem_map.mpr ⟨y, hy, rfl⟩)
  omega
theorem xor_nn (a b : Nat) : Builtin.bitXor ((a : Nat) : Int) ((b : Nat) : Int) = ((a ^^^ b : Nat) : Int) := by
  rw [Bits.bitXor_pp (Int.natCast_nonneg _) (Int.natCast_nonneg _), Int.toNat_natCast, Int.toNat_natCast]
theorem ev_masks (a m : Nat) : decide (V.int ((a : Nat) : Int) = V.int ((m : Nat) : Int)) = (a == m) := by
  rw [Bool.eq_iff_iff, decide_eq_true_eq, beq_iff_eq]
  refine ⟨fun z => ?_, fun z => by rw [z]⟩
  injection z with z
  exact Int.ofNat.inj z
theorem sub_less {m c : Nat} (m9 : m < 512) (m1 : 1 ≤ m) (sc : SubN c m) (tc : c.testBit (topN m) = true) : m ^^^ c < m := by
  obtain ⟨_, t9, tb, tl, tg⟩ := top_ok m m9 m1
  refine Nat.lt_of_lt_of_le (Nat.lt_pow_two_of_testBit _ fun u hu => ?_) tg
  rw [xor_sub sc]
  by_cases e : topN m = u
  · rw [← e, tc]
    exact Bool.and_false _
  · rw [high_out tl (by omega)]
    rfl
theorem ok_chrom_numbers (F : L2.Fun K "chromatic_numbers" "chromatic_numbers" sChNums f fd) (GR : FnOk P w K mg base CX0 1 fM dM ["neighbours"] (spRows K)) (bR : L2.Binds K dM ["neighbours"] []) (kR : PySem.W.keepIn K (.ref fM) = true) (mR : mg "_stable_masks_by_greatest" = some (.ref fM))
    (mr : mg "range" = none) (ml : mg "len" = none) (mn : mg "min" = none) : FnOk P w K mg base CX0 2 f fd ["neighbours"] (spChNums K) := by
  refine F.ok scChNums (fun vs H Q E h => ?_) (fun cdv A outer s H vs Q E hr h => ?_)
  · obtain ⟨D, nb, n, es, rfl, _⟩ := h
    rfl
  obtain ⟨D, nb, n, es, rfl, hD, ok, g, q⟩ := h
  refine ⟨_, pss_cons (ps_set (i := 1) scChNums.nd rfl (.inl rfl) (pe_call GR hr (by rfl) mR kR bR .nil pass0 (pa_cons (pv 0) pa_nil)))
    (pss_cons (ps_set (i := 2) scChNums.nd rfl (.inr rfl) (pe_lst (pa_cons pe_int pa_nil)))
    (pss_cons (ps_for PassesOwn.never rfl (pi_range2 (by rfl) mr (pa_cons pe_int (pa_cons (pe_op op_shl pe_int (pe_callB call_len_seq (by rfl) ml PySem.boot_len (pa_cons (pv 0) pa_nil))) pa_nil))) (pg_name (i := 3) scChNums.nd rfl (.inr rfl))
      (pss_cons (ps_setLc (i := 4) (own := [("colour", 5)]) (g := gName 5) (tt := tTest (tOp rEq (tOp (rI0 fun i j => .int (Builtin.bitAnd i j)) (tVar 5) (tVar 3)) (tVar 5))) rfl scChNums.nd rfl rfl (sw_true rfl rfl rfl (by decide +kernel)) (pi_list (pe_ix (r := rIxL K) ix_list (pv 1) (pe_op op_sub (pe_bits (pv 3)) pe_int) (fun _ _ => rfl)))
          (blkOk_by (N := ["neighbours", "colours", "numbers", "mask", "fitting", "colour"]) (sc := defScope sChNums) (by decide +kernel)) (fun _ _ _ _ _ => pg_name (i := 5) scChNums.nd rfl (Or.inl rfl))
          (fun _ _ _ _ _ => pts_one (pt_cmpR (r := rEq) op_eq (pe_op op_and (pv 5) (pv 3)) (pv 5) (nomark _)))
          (fun _ _ _ _ _ => pv 5))
      (pss_one (ps_expr (pe_bm PySem.F.plainAttrs_list PySem.F.slot_list_append PySem.F.type_list_append mt_append (pv 2) (pa_cons (pe_op op_add pe_int (pe_callB (cr_min rfl) (by rfl) mn (by decide +kernel) (pa_cons (pe_lc (own := [("colour", 5)]) (g := gName 5) (tt := tYes) rfl scChNums.nd (pi_list (pv 4))
          (blkOk_by (N := ["neighbours", "colours", "numbers", "mask", "fitting", "colour"]) (sc := defScope sChNums) (by decide +kernel)) (fun _ _ _ _ _ => pg_name (i := 5) scChNums.nd rfl (Or.inl rfl)) (fun _ _ _ _ _ => pts_nil)
          (fun _ _ _ _ _ => pe_ix (r := rIxL K) ix_list (pv 2) (pe_op op_xor (pv 3) (pv 5)) (fun _ _ => rfl))) pa_nil))) pa_nil))))))
    (pss_one (ps_ret (pv 2))))), ?_⟩
  have n9 := g.n9
  have ln := ok.1
  have p9 : 2 ^ n ≤ 512 := Nat.pow_le_pow_right (by decide) n9
  have p1 := Nat.two_pow_pos n
  refine ⟨_, rfl, D, nb, n, es, rfl, hD, ok, n9, fun R xs rows H0 s0 hR hro rl ar => ?_⟩
  have xl := hro.len
  refine ⟨(by show 1 ≤ sizeLine; rw [sizeLine_eq]; decide), fun F0 nF0 => ?_⟩
  have sF := same_new nF0 (.lst [V.int 0])
  have e2 : (1 : Int) * 2 ^ (((numsN nb).length : Nat) : Int).toNat = ((2 ^ n : Nat) : Int) := by
    rw [Int.toNat_natCast, numsN_len, ln, Int.one_mul, Int.natCast_pow]
    rfl
  have h0 := upd_same (H := H0) (a := F0) (o := .lst [V.int 0])
  refine ⟨_, rfl, D, _, rfl, .inl (Same.seq (s0.trans sF) hD), _, _, rfl, rfl, ⟨by rw [numsN_len]; omega, by rw [numsN_len]; omega, by decide⟩, 1, ((2 ^ n : Nat) : Int), congrArg (fun z : Int => [V.int 1, V.int z]) e2, ⟨by decide, by decide, by omega, by omega⟩, for_range (lo := 1) (n := (((2 ^ n : Nat) : Int) - 1).toNat) (fun i σ H' => ∃ (ns : List Nat) (s3 s4 : Option V), σ = [some (.ref D), some (.ref R), some (.ref F0), s3, s4, none] ∧ Same H0 H' ∧ H' F0 = some (.lst (numsN ns)) ∧ ns.length = i + 1 ∧ ∀ k, k < i + 1 → ChOk es k (ns.getD k 0))
    ⟨[0], none, none, rfl, sF, h0, rfl, fun k hk => ?_⟩ ?_ ?_⟩
  · obtain rfl : k = 0 := by omega
    exact ch_zero es
  · rintro i σ H2 li ⟨ns, s3', s4', rfl, s2, hF, nl, cn⟩
    have lm : i + 1 < 2 ^ n := by omega
    have m9 : i + 1 < 512 := by omega
    obtain ⟨ib, t9, tb, tl, tg⟩ := top_ok (i + 1) m9 (by omega)
    obtain ⟨tn, al⟩ := and_less g ok lm (by omega)
    have em : (1 : Int) + (i : Int) = ((i + 1 : Nat) : Int) := by omega
    rw [em]
    have eb : ((Builtin.Int.intBits ((i + 1 : Nat) : Int) : Nat) : Int) - 1 = ((topN (i + 1) : Nat) : Int) := by
      rw [ib]
      omega
    obtain ⟨rr, er, hr0⟩ := hro.get (i := topN (i + 1)) (by omega)
    obtain ⟨ro, rfew⟩ := ar (topN (i + 1)) (by omega)
    generalize rows.getD (topN (i + 1)) [] = row at hr0 ro rfew
    refine ⟨_, rfl, _, rfl, _, rfl, _, _, rfl, rfl, ?_⟩
    simp only [eb]
    have hr2 := s2 _ _ hr0
    refine ⟨R, _, _, _, rfl, rfl, SqL.of (s2 _ _ hR), atI_nat er, rr, rfl, ⟨_, SqL.of hr2⟩, fun B nB => lo_it (walk_list (xs := numsN row)) (fun j H4 => Same H2 H4 ∧ H4 B = some (.lst (numsN ((row.take j).filter fun c => c &&& (i + 1) == c)))) ⟨same_new nB _, upd_same⟩ (fun j H4 _ ⟨s4, _⟩ => SqL.of (s4 _ _ hr2)) ?_ ?_⟩
    · rintro j x _ H4 lj ⟨s4, hB⟩ ⟨rfl, hj⟩
      unfold numsN at hj
      rw [List.getElem?_map] at hj
      cases e : row[j]? with
      | none => rw [e] at hj; cases hj
      | some c =>
        rw [e] at hj
        cases hj
        have tk := take_succ e
        refine ⟨rfl, ?_⟩
        refine ⟨_, rfl, _, rfl, _, _, rfl, rfl, _, rfl, rfl, _, rfl, ?_⟩
        simp only [and_nn]
        rw [ev_masks]
        have fl : ((row.take j).filter fun c => c &&& (i + 1) == c).length ≤ 512 := by
          refine Nat.le_trans (List.length_filter_le _ _) ?_
          rw [List.length_take]
          omega
        refine iteB (fun cc => ?_) (fun cc => ?_)
        · refine ⟨_, rfl, _, hB, small1000 (by rw [numsN_len]; omega), same_put s4 nB, ?_⟩
          rw [upd_same, tk, List.filter_append, List.filter_cons_of_pos (p := fun c => c &&& (i + 1) == c) cc]
          unfold numsN
          rw [List.map_append]
          rfl
        · refine ⟨s4, ?_⟩
          rw [hB, tk, List.filter_append, List.filter_cons_of_neg (p := fun c => c &&& (i + 1) == c) (by rw [cc]; decide), List.filter_nil, List.append_nil]
    · rintro H4 ⟨s4, hB⟩
      rw [numsN_len, List.take_length] at hB
      have fpos := row_some g lm (show 1 ≤ i + 1 by omega) ro
      have ffew : (row.filter fun c => c &&& (i + 1) == c).length ≤ 512 := Nat.le_trans (List.length_filter_le _ _) rfew
      have sub : ∀ c ∈ row.filter fun c => c &&& (i + 1) == c, i + 1 ^^^ c < i + 1 := fun c hc => by
        obtain ⟨hc, sb⟩ := List.mem_filter.mp hc
        have sc : SubN c (i + 1) := (sub_and c _).mp (beq_iff_eq.mp sb)
        exact sub_less m9 (by omega) sc ((ro c).mp hc).2.1
      have hF4 := s4 _ _ hF
      generalize efit : (row.filter fun c => c &&& (i + 1) == c) = fit at hB fpos ffew sub
      refine ⟨_, rfl, .inl ⟨rfl, _, SqL.of hF4⟩, _, rfl, B, rfl, ⟨_, SqL.of hB⟩, fun B2 nB2 => lo_it (walk_list (xs := numsN fit)) (fun j H5 => Same H4 H5 ∧ H5 B2 = some (.lst (numsN ((fit.take j).map fun c => ns.getD (i + 1 ^^^ c) 0)))) ⟨same_new nB2 _, upd_same⟩ (fun j H5 _ ⟨s5, _⟩ => SqL.of (s5 _ _ hB)) ?_ ?_⟩
      · rintro j x _ H5 lj ⟨s5, hB2⟩ ⟨rfl, hj⟩
        unfold numsN at hj
        rw [List.getElem?_map] at hj
        cases e : fit[j]? with
        | none => rw [e] at hj; cases hj
        | some c =>
          rw [e] at hj
          cases hj
          have cl := sub c (List.mem_of_getElem? e)
          refine ⟨rfl, ?_⟩
          refine ⟨_, rfl, _, rfl, _, rfl, _, _, rfl, rfl, ?_⟩
          simp only [xor_nn]
          refine ⟨F0, _, _, _, rfl, rfl, SqL.of (s5 _ _ hF4), atI_nat (numsN_getD (by omega)), _, hB2, small1000 (by rw [numsN_len, List.length_map, List.length_take]; omega), same_put s5 nB2, ?_⟩
          rw [upd_same, take_succ e, List.map_append]
          unfold numsN
          rw [List.map_append]
          rfl
      · rintro H5 ⟨s5, hB2⟩
        rw [numsN_len, List.take_length] at hB2
        have eN : numsN (fit.map fun c => ns.getD (i + 1 ^^^ c) 0) = ((fit.map fun c => ns.getD (i + 1 ^^^ c) 0).map fun k => ((k : Nat) : Int)).map V.int := by
          unfold numsN
          simp only [List.map_map]
          rfl
        rw [eN] at hB2
        refine ⟨B2, _, rfl, SqL.of hB2, by rw [List.length_map, List.length_map]; exact fpos, fun m hm hu => ?_⟩
        obtain ⟨v, rfl, hv, hle⟩ := min_nat (by rw [List.length_map]; exact fpos) hm hu
        have hF5 := s5 _ _ hF4
        refine ⟨_, _, rfl, rfl, F0, _, _, rfl, rfl, hF5, small1000 (by rw [numsN_len]; omega), ns ++ [1 + v], _, _, rfl, same_put (s2.trans (s4.trans s5)) nF0, ?_, by rw [List.length_append, nl]; rfl, fun k hk => ?_⟩
        · rw [upd_same]
          unfold numsN
          rw [List.map_append]
          rfl
        · by_cases c : k < i + 1
          · rw [List.getD_eq_getElem?_getD, List.getElem?_append_left (by omega), ← List.getD_eq_getElem?_getD]
            exact cn k c
          · obtain rfl : k = i + 1 := by omega
            rw [List.getD_eq_getElem?_getD, List.getElem?_append_right (by omega), nl, Nat.sub_self]
            rw [← efit] at hv hle
            exact ch_step g lm (by omega) ro (fun k => ns.getD k 0) cn hv hle
  · rintro σ H2 ⟨ns, s3', s4', rfl, s2, hF, nl, cn⟩
    have e3 : (((2 ^ n : Nat) : Int) - 1).toNat + 1 = 2 ^ n := by omega
    rw [e3] at nl cn
    exact ⟨_, rfl, q F0 ns H2 (s0.trans s2) hF nl cn⟩
def spChNum (K : PySem.W.Frag) : Sp := fun vs H Q _ => ∃ (x : V) (n : Nat) (es : List E2), vs = [x] ∧ GraphAt K H x n es ∧ Good n es ∧ ∀ (v : Nat) H', Same H H' → ChOk es (2 ^ n - 1) v → Q (.int (v : Int)) H'
theorem at_end2 {ns : List Nat} {m : Nat} (h : ns.length = m) (m1 : 1 ≤ m) : atI (numsN ns) (-1) = some (V.int ((ns.getD (m - 1) 0 : Nat) : Int)) := by
  have ne : ns ≠ [] := fun z => by
    rw [z, List.length_nil] at h
    omega
  have l : ns.getD (m - 1) 0 = ns.getLast ne := by
    rw [List.getLast_eq_getElem, List.getD_eq_getElem?_getD, List.getElem?_eq_getElem (by omega)]
    simp [h]
  have e : numsN ns = numsN ns.dropLast ++ [V.int ((ns.getLast ne : Nat) : Int)] := by
    conv => lhs; rw [← List.dropLast_concat_getLast ne]
    unfold numsN
    rw [List.map_append]
    rfl
  rw [e, l]
  exact atI_last _ _
theorem ok_chrom_number (F : L2.Fun K "chromatic_number" "chromatic_number" sChNum f fd) (GC : FnOk P w K mg base CX0 5 fC dC ["graph"] (spCheckGraph K)) (bC : L2.Binds K dC ["graph"] []) (kC : PySem.W.keepIn K (.ref fC) = true) (mC : mg "check_graph" = some (.ref fC))
    (GN : FnOk P w K mg base CX0 1 fN dN ["graph"] (spMasks K)) (bN : L2.Binds K dN ["graph"] []) (kN' : PySem.W.keepIn K (.ref fN) = true) (mN : mg "neighbour_masks" = some (.ref fN))
    (GM : FnOk P w K mg base CX0 2 fM dM ["neighbours"] (spChNums K)) (bM : L2.Binds K dM ["neighbours"] []) (kM : PySem.W.keepIn K (.ref fM) = true) (mM : mg "chromatic_numbers" = some (.ref fM)) : FnOk P w K mg base CX0 6 f fd ["graph"] (spChNum K) := by
  refine F.ok scChNum (fun vs H Q E h => ?_) (fun cdv A outer s H vs Q E hr h => ?_)
  · obtain ⟨x, n, es, rfl, _⟩ := h
    rfl
  obtain ⟨x, n, es, rfl, hx, g, q⟩ := h
  refine ⟨_, pss_cons (ps_expr (pe_call GC hr (by rfl) mC kC bC .nil pass0 (pa_cons (pv 0) pa_nil)))
    (pss_one (ps_ret (pe_ix (r := rIxL K) ix_list (pe_call GM (hr.mono (by decide)) (by rfl) mM kM bM .nil pass0 (pa_cons (pe_call GN (hr.mono (by decide)) (by rfl) mN kN' bN .nil pass0 (pa_cons (pv 0) pa_nil)) pa_nil)) (pe_un un_neg pe_int) (fun _ _ => rfl)))), ?_⟩
  have p1 := Nat.two_pow_pos n
  refine ⟨_, rfl, x, n, es, rfl, hx, g, fun H1 s1 => ?_⟩
  refine ⟨_, rfl, x, n, es, rfl, hx.same s1, g, fun D nb H2 nD s2 hD ok => ⟨D, nb, n, es, rfl, SqL.of hD, ok, g, fun F0 ns H3 s3 hF nl cn => ?_⟩⟩
  exact ⟨_, rfl, F0, _, _, _, rfl, rfl, SqL.of hF, at_end2 nl p1, q (ns.getD (2 ^ n - 1) 0) H3 (s1.trans (s2.trans s3)) (cn _ (by omega))⟩
end
end My

set_option maxHeartbeats 4000000
/-! A colouring made class by class. -/
namespace My
open PySem PySem.Spec PyProof.Rows L2
def setAll (cs l : List Nat) (k : Nat) : List Nat := l.foldl (fun cs u => cs.set u k) cs
theorem setAll_len (k : Nat) : ∀ (l cs : List Nat), (setAll cs l k).length = cs.length
  | [], cs => rfl
  | a :: l, cs => by
    show (setAll (cs.set a k) l k).length = _
    rw [setAll_len k l, List.length_set]
theorem setAll_get (k u : Nat) : ∀ (l cs : List Nat), (∀ a ∈ l, a < cs.length) → (setAll cs l k).getD u 0 = if u ∈ l then k else cs.getD u 0
  | [], cs, _ => by simp [setAll]
  | a :: l, cs, h => by
    show (setAll (cs.set a k) l k).getD u 0 = _
    rw [setAll_get k u l (cs.set a k) fun b hb => by rw [List.length_set]; exact h b (List.mem_cons_of_mem _ hb)]
    by_cases c : u ∈ l
    · rw [if_pos c, if_pos (List.mem_cons_of_mem _ c)]
    · rw [if_neg c]
      by_cases e : u = a
      · subst e
        rw [if_pos (List.mem_cons_self ..), List.getD_eq_getElem?_getD, List.getElem?_set_self (h u (List.mem_cons_self ..))]
        rfl
      · rw [if_neg (by simp [e, c]), List.getD_eq_getElem?_getD, List.getElem?_set_ne (Ne.symm e), ← List.getD_eq_getElem?_getD]
structure MakeOk (es : List E2) (n v : Nat) (num : Nat → Nat) (L : Nat) (cs : List Nat) : Prop where
  len : cs.length = n
  lt : L < 2 ^ n
  le : num L ≤ v
  few : ∀ u, u < n → L.testBit u = false → num L ≤ cs.getD u 0 ∧ cs.getD u 0 < v
  all : ∀ c, num L ≤ c → c < v → ∃ u, u < n ∧ L.testBit u = false ∧ cs.getD u 0 = c
  ok : ∀ a b, a < n → b < n → L.testBit a = false → L.testBit b = false → adjB es a b = true → cs.getD a 0 ≠ cs.getD b 0
theorem make_start {es : List E2} {n : Nat} {num : Nat → Nat} {cs : List Nat} (h : cs.length = n) : MakeOk es n (num (2 ^ n - 1)) num (2 ^ n - 1) cs := by
  have p := Nat.two_pow_pos n
  have full : ∀ u, u < n → (2 ^ n - 1).testBit u = true := fun u hu => by
    rw [Nat.testBit_two_pow_sub_one]
    exact decide_eq_true hu
  refine ⟨h, by omega, Nat.le_refl _, fun u hu z => ?_, fun c h1 h2 => by omega, fun a b ha _ za => ?_⟩
  · rw [full u hu] at z
    cases z
  · rw [full a ha] at za
    cases za
theorem make_step {es : List E2} {n v : Nat} {num : Nat → Nat} {L c : Nat} {cs : List Nat} (gd : Good n es) (num_ok : ∀ k, k < 2 ^ n → ChOk es k (num k)) (h : MakeOk es n v num L cs) (t : Nat) (tc : c.testBit t = true) (sc : SubN c L) (st : Stb es c) (less : num (L ^^^ c) < num L) :
    MakeOk es n v num (L ^^^ c) (setAll cs (bitsN n c) (num L - 1)) := by
  have ir : ∀ u, adjB es u u = false := fun u => by
    cases e : adjB es u u with
    | false => rfl
    | true => exact absurd rfl (adj_ne gd e).1
  have lt' : L ^^^ c < 2 ^ n := Nat.xor_lt_two_pow h.lt (Nat.lt_of_le_of_lt sc.le h.lt)
  have eq : num (L ^^^ c) = num L - 1 := by
    have z := (num_ok L h.lt).2 _ (ch_high sc st ir (num_ok _ lt').1)
    omega
  have get : ∀ u, u < n → (setAll cs (bitsN n c) (num L - 1)).getD u 0 = if c.testBit u = true then num L - 1 else cs.getD u 0 := fun u hu => by
    rw [setAll_get _ _ _ _ fun a ha => by rw [h.len]; exact (mem_bits.mp ha).1]
    by_cases e : c.testBit u = true
    · rw [if_pos (mem_bits.mpr ⟨hu, e⟩), if_pos e]
    · rw [if_neg (fun z => e (mem_bits.mp z).2), if_neg e]
  have out : ∀ u, (L ^^^ c).testBit u = false → c.testBit u = true ∨ (c.testBit u = false ∧ L.testBit u = false) := fun u hu => by
    rw [xor_sub sc] at hu
    cases e : c.testBit u with
    | true => exact .inl rfl
    | false =>
      rw [e] at hu
      refine .inr ⟨rfl, ?_⟩
      simpa using hu
  have inC : ∀ u, c.testBit u = true → u < n := fun u hu => by
    by_cases z : u < n
    · exact z
    · rw [high_out (Nat.lt_of_le_of_lt sc.le h.lt) (by omega)] at hu
      cases hu
  refine ⟨by rw [setAll_len]; exact h.len, lt', by have := h.le; omega, fun u hu z => ?_, fun k h1 h2 => ?_, fun a b ha hb za zb ad => ?_⟩
  · rw [get u hu, eq]
    rcases out u z with e | ⟨e, e2⟩
    · rw [if_pos e]
      have := h.le
      omega
    · rw [if_neg (by rw [e]; decide)]
      have := h.few u hu e2
      omega
  · by_cases e : k = num L - 1
    · refine ⟨t, inC t tc, by rw [xor_sub sc, tc]; exact Bool.and_false _, ?_⟩
      rw [get t (inC t tc), if_pos tc, e]
    · obtain ⟨u, hu, e1, e2⟩ := h.all k (by omega) h2
      have cu : c.testBit u = false := by
        cases y : c.testBit u with
        | false => rfl
        | true =>
          rw [sc u y] at e1
          cases e1
      refine ⟨u, hu, by rw [xor_sub sc, e1]; rfl, ?_⟩
      rw [get u hu, if_neg (by rw [cu]; decide)]
      exact e2
  · rw [get a ha, get b hb]
    rcases out a za with ea | ⟨ea, ea2⟩
    · rcases out b zb with eb | ⟨eb, eb2⟩
      · by_cases ne : a = b
        · subst ne
          rw [ir] at ad
          cases ad
        · rw [st a b ea eb ne] at ad
          cases ad
      · rw [if_pos ea, if_neg (by rw [eb]; decide)]
        have := h.few b hb eb2
        omega
    · rcases out b zb with eb | ⟨eb, eb2⟩
      · rw [if_neg (by rw [ea]; decide), if_pos eb]
        have := h.few a ha ea2
        omega
      · rw [if_neg (by rw [ea]; decide), if_neg (by rw [eb]; decide)]
        exact h.ok a b ha hb ea2 eb2 ad
/-- there is a class to go on with -/
theorem best_some {n : Nat} {es : List E2} {L : Nat} {row : List Nat} {num : Nat → Nat} (lt : L < 2 ^ n) (n9 : n ≤ 9) (m1 : 1 ≤ L) (ro : RowOk es (topN L) row) (num_ok : ∀ k, k < 2 ^ n → ChOk es k (num k)) : 0 < ((row.filter fun c => c &&& L == c).filter fun c => decide (num (L ^^^ c) < num L)).length := by
  have m9 : L < 512 := Nat.lt_of_lt_of_le lt (Nat.pow_le_pow_right (by decide) n9)
  obtain ⟨_, t9, tb, tl, tg⟩ := top_ok L m9 m1
  obtain ⟨c, sc, c2, c3, k1, ck⟩ := ch_low lt tb (num_ok L lt).1
  have lt' : L ^^^ c < 2 ^ n := Nat.xor_lt_two_pow lt (Nat.lt_of_le_of_lt sc.le lt)
  have z := (num_ok _ lt').2 _ ck
  exact List.length_pos_of_mem (List.mem_filter.mpr ⟨List.mem_filter.mpr ⟨(ro c).mpr ⟨Nat.lt_of_le_of_lt sc.le tl, c2, c3⟩, beq_iff_eq.mpr ((sub_and c L).mpr sc)⟩, decide_eq_true (by omega)⟩)
end My

set_option maxHeartbeats 8000000
namespace My
open PySem PySem.Spec PyProof.Rows L2
abbrev sColg : Stmt := top 19
theorem scColg : FnScope ["graph", "neighbours", "numbers", "rows", "colours", "left", "fitting", "best", "vertex", "mask"] ["graph"] (defScope sColg) := ⟨rfl, rfl, rfl, by decide +kernel, rfl, by decide +kernel, by decide +kernel⟩
/-- a colouring with v colours, each of them used -/
structure TellsCol (es : List E2) (n v : Nat) (cs : List Nat) : Prop where
  len : cs.length = n
  few : ∀ u, u < n → cs.getD u 0 < v
  all : ∀ c, c < v → ∃ u, u < n ∧ cs.getD u 0 = c
  ok : ∀ a b, a < n → b < n → adjB es a b = true → cs.getD a 0 ≠ cs.getD b 0
def spColg (K : PySem.W.Frag) : Sp := fun vs H Q _ => ∃ (x : V) (n : Nat) (es : List E2), vs = [x] ∧ GraphAt K H x n es ∧ Good n es ∧ ∀ (t : Addr) (cs : List Nat) (v : Nat) H', Same H H' → H' t = some (.tup (numsN cs)) → ChOk es (2 ^ n - 1) v → TellsCol es n v cs → Q (.ref t) H'
section
variable {X : Cx}
theorem ip_xor : PIp X .BitXor (ipI fun i j => Builtin.bitXor i j) := by
  intro pins s σ H x y v u Q I r1 r2 h
  obtain ⟨i, j, e1, e2, q⟩ := h
  subst e1; subst e2
  obtain ⟨t, rfl⟩ := r1
  obtain ⟨t', rfl⟩ := r2
  exact ixor_int ⟨.int _, H, I.tok _, ⟨_, rfl⟩, q⟩
end
section
variable {P : Program} {w : World} {K : PySem.W.Frag} {mg : Str → Option Value} {base : Heap} {f fC fN fM fR fL : Addr} {fd dC dN dM dR dL : FuncData}
theorem ok_colouring (F : L2.Fun K "colouring" "colouring" sColg f fd) (GC : FnOk P w K mg base CX0 5 fC dC ["graph"] (spCheckGraph K)) (bC : L2.Binds K dC ["graph"] []) (kC : PySem.W.keepIn K (.ref fC) = true) (mC : mg "check_graph" = some (.ref fC))
    (GN : FnOk P w K mg base CX0 1 fN dN ["graph"] (spMasks K)) (bN : L2.Binds K dN ["graph"] []) (kN' : PySem.W.keepIn K (.ref fN) = true) (mN : mg "neighbour_masks" = some (.ref fN))
    (GM : FnOk P w K mg base CX0 2 fM dM ["neighbours"] (spChNums K)) (bM : L2.Binds K dM ["neighbours"] []) (kM : PySem.W.keepIn K (.ref fM) = true) (mM : mg "chromatic_numbers" = some (.ref fM))
    (GR : FnOk P w K mg base CX0 1 fR dR ["neighbours"] (spRows K)) (bR : L2.Binds K dR ["neighbours"] []) (kR : PySem.W.keepIn K (.ref fR) = true) (mR : mg "_stable_masks_by_greatest" = some (.ref fR))
    (GL : FnOk P w K mg base CX0 1 fL dL ["mask"] (spLotOf K)) (bL : L2.Binds K dL ["mask"] []) (kL : PySem.W.keepIn K (.ref fL) = true) (mL : mg "lot_of" = some (.ref fL))
    (ml : mg "len" = none) (mt : mg "tuple" = none) : FnOk P w K mg base CX0 6 f fd ["graph"] (spColg K) := by
  refine F.ok scColg (fun vs H Q E h => ?_) (fun cdv A outer s H vs Q E hr h => ?_)
  · obtain ⟨x, n, es, rfl, _⟩ := h
    rfl
  obtain ⟨x, n, es, rfl, hx, g, q⟩ := h
  have h1 := hr.mono (show 1 ≤ 5 by decide)
  have h2 := hr.mono (show 2 ≤ 5 by decide)
  refine ⟨_, pss_cons (ps_expr (pe_call GC hr (by rfl) mC kC bC .nil pass0 (pa_cons (pv 0) pa_nil)))
    (pss_cons (ps_set (i := 1) scColg.nd rfl (.inl rfl) (pe_call GN h1 (by rfl) mN kN' bN .nil pass0 (pa_cons (pv 0) pa_nil)))
    (pss_cons (ps_set (i := 2) scColg.nd rfl (.inr rfl) (pe_call GM h2 (by rfl) mM kM bM .nil pass0 (pa_cons (pv 1) pa_nil)))
    (pss_cons (ps_set (i := 3) scColg.nd rfl (.inl rfl) (pe_call GR h1 (by rfl) mR kR bR .nil pass0 (pa_cons (pv 1) pa_nil)))
    (pss_cons (ps_set (i := 4) scColg.nd rfl (.inl rfl) (pe_op op_rep (pe_lst (pa_cons pe_int pa_nil)) (pe_callB call_len_seq (by rfl) ml PySem.boot_len (pa_cons (pv 1) pa_nil))))
    (pss_cons (ps_set (i := 5) scColg.nd rfl (.inr rfl) (pe_op op_sub (pe_callB call_len_seq (by rfl) ml PySem.boot_len (pa_cons (pv 2) pa_nil)) pe_int))
    (pss_cons (ps_while PassesOwn.never (pt_truth (pv 5) (by intro _; rfl))
      (pss_cons (ps_setLc (i := 6) (own := [("mask", 9)]) (g := gName 9) (tt := tTest (tOp rEq (tOp (rI0 fun i j => .int (Builtin.bitAnd i j)) (tVar 9) (tVar 5)) (tVar 9))) rfl scColg.nd rfl rfl (sw_true rfl rfl rfl (by decide +kernel)) (pi_list (pe_ix (r := rIxL K) ix_list (pv 3) (pe_op op_sub (pe_bits (pv 5)) pe_int) (fun _ _ => rfl)))
          (blkOk_by (N := ["graph", "neighbours", "numbers", "rows", "colours", "left", "fitting", "best", "vertex", "mask"]) (sc := defScope sColg) (by decide +kernel)) (fun _ _ _ _ _ => pg_name (i := 9) scColg.nd rfl (Or.inl rfl))
          (fun _ _ _ _ _ => pts_one (pt_cmpR (r := rEq) op_eq (pe_op op_and (pv 9) (pv 5)) (pv 9) (nomark _)))
          (fun _ _ _ _ _ => pv 9))
      (pss_cons (ps_setLc (i := 7) (own := [("mask", 9)]) (g := gName 9) (tt := tTest (tOp (rI0 fun i j => .bl (decide (i < j))) (tOp (rIxL K) (tVar 2) (tOp (rI0 fun i j => .int (Builtin.bitXor i j)) (tVar 5) (tVar 9))) (tOp (rIxL K) (tVar 2) (tVar 5)))) rfl scColg.nd rfl rfl (sw_true rfl rfl rfl (by decide +kernel)) (pi_list (pv 6))
          (blkOk_by (N := ["graph", "neighbours", "numbers", "rows", "colours", "left", "fitting", "best", "vertex", "mask"]) (sc := defScope sColg) (by decide +kernel)) (fun _ _ _ _ _ => pg_name (i := 9) scColg.nd rfl (Or.inl rfl))
          (fun _ _ _ _ _ => pts_one (pt_cmpR op_lt (pe_ix (r := rIxL K) ix_list (pv 2) (pe_op op_xor (pv 5) (pv 9)) (fun _ _ => rfl)) (pe_ix (r := rIxL K) ix_list (pv 2) (pv 5) (fun _ _ => rfl)) (nomark _)))
          (fun _ _ _ _ _ => pv 9))
      (pss_cons (ps_for PassesOwn.never rfl (pi_tup (pe_call GL h1 (by rfl) mL kL bL .nil pass0 (pa_cons (pe_ix (r := rIxL K) ix_list (pv 7) pe_int (fun _ _ => rfl)) pa_nil))) (pg_name (i := 8) scColg.nd rfl (.inl rfl))
        (pss_one (ps_asg (pe_op op_sub (pe_ix (r := rIxL K) ix_list (pv 2) (pv 5) (fun _ _ => rfl)) pe_int) (pg_sub (pv 4) (pv 8) set_list))))
      (pss_one (ps_aug (i := 5) scColg.nd rfl (.inr rfl) (pe_ix (r := rIxL K) ix_list (pv 7) pe_int (fun _ _ => rfl)) ip_xor))))))
    (pss_one (ps_ret (pe_callTy call_tuple_of (by rfl) mt (by decide +kernel) (pa_cons (pv 4) pa_nil)))))))))), ?_⟩
  have n9 := g.n9
  have p9 : 2 ^ n ≤ 512 := Nat.pow_le_pow_right (by decide) n9
  have p1 := Nat.two_pow_pos n
  refine ⟨_, rfl, x, n, es, rfl, hx, g, fun H1 s1 => ?_⟩
  refine ⟨_, rfl, x, n, es, rfl, hx.same s1, g, fun D nb H2 nD s2 hD ok => ?_⟩
  have ln := ok.1
  refine ⟨_, rfl, D, nb, n, es, rfl, SqL.of hD, ok, g, fun FN ns H3 s3 hN nl cn => ?_⟩
  have hD3 := s3 _ _ hD
  refine ⟨_, rfl, D, nb, n, es, rfl, SqL.of hD3, ok, n9, fun R xs rows H4 s4 hR hro rl ar => ?_⟩
  have xl := hro.len
  have hD4 := s4 _ _ hD3
  have hN4 := s4 _ _ hN
  refine ⟨(by show 1 ≤ sizeLine; rw [sizeLine_eq]; decide), fun z nz => ?_⟩
  have sz := same_new nz (.lst [V.int 0])
  have hz := upd_same (H := H4) (a := z) (o := .lst [V.int 0])
  refine ⟨_, rfl, D, _, rfl, .inl (SqL.of (sz _ _ hD4)), z, _, [.int 0], rfl, rfl, hz, by rw [numsN_len]; omega, by rw [numsN_len]; omega, small (by rw [Int.toNat_natCast, List.length_singleton, numsN_len]; omega), fun C nC => ?_⟩
  have e0 : (List.replicate (((numsN nb).length : Nat) : Int).toNat [V.int 0]).flatten = numsN (List.replicate n 0) := by
    rw [Int.toNat_natCast, numsN_len, ln]
    unfold numsN
    rw [List.map_replicate, List.flatten_replicate_singleton]
    rfl
  rw [e0]
  have sC := same_new nC (.lst (numsN (List.replicate n 0)))
  have nC4 : H4 C = none := sz.free nC
  have hC := upd_same (H := upd H4 z (.lst [V.int 0])) (a := C) (o := .lst (numsN (List.replicate n 0)))
  have s45 := sz.trans sC
  generalize upd (upd H4 z (.lst [V.int 0])) C (.lst (numsN (List.replicate n 0))) = H5 at hC s45 ⊢
  have eL : (((numsN ns).length : Nat) : Int) - 1 = ((2 ^ n - 1 : Nat) : Int) := by
    rw [numsN_len, nl]
    omega
  refine ⟨_, rfl, FN, _, rfl, .inl (SqL.of (s45 _ _ hN4)), _, _, rfl, rfl, ?_⟩
  simp only [eL]
  obtain ⟨W, hW⟩ : ∃ W : Nat → L2.St → Hp → Prop, W = fun (L : Nat) σ H' => ∃ (cs : List Nat) (s6 s7 s8 : Option V), σ = [some x, some (.ref D), some (.ref FN), some (.ref R), some (.ref C), some (.int (L : Int)), s6, s7, s8, none] ∧ Same H4 H' ∧ H' C = some (.lst (numsN cs)) ∧ MakeOk es n (ns.getD (2 ^ n - 1) 0) (fun k => ns.getD k 0) L cs := ⟨_, rfl⟩
  refine ⟨W, ⟨2 ^ n - 1, ?_⟩, ?_⟩
  · rw [hW]
    exact ⟨List.replicate n 0, none, none, none, rfl, s45, hC, make_start (num := fun k => ns.getD k 0) (List.length_replicate ..)⟩
  rintro L σ H6 w6
  rw [hW] at w6
  obtain ⟨cs, s6', s7', s8', rfl, s6, hC6, mk⟩ := w6
  have Llt := mk.lt
  refine ⟨_, rfl, _, rfl, iteB (fun c => ?_) (fun c => ?_)⟩
  · have L1 : 1 ≤ L := by
      have c' : (L : Int) ≠ 0 := by simpa using c
      omega
    refine ⟨fun σ' H' => ∃ m', m' < L ∧ W m' σ' H', fun σ' H' h => h, ?_⟩
    have L9 : L < 512 := by omega
    obtain ⟨ib, t9, tb, tl, tg⟩ := top_ok L L9 L1
    obtain ⟨tn, _⟩ := and_less g ok Llt L1
    have eb : ((Builtin.Int.intBits ((L : Nat) : Int) : Nat) : Int) - 1 = ((topN L : Nat) : Int) := by
      rw [ib]
      omega
    obtain ⟨rr, er, hr0⟩ := hro.get (i := topN L) (by omega)
    obtain ⟨ro, rfew⟩ := ar (topN L) (by omega)
    generalize rows.getD (topN L) [] = row at hr0 ro rfew
    have bs := best_some (num := fun k => ns.getD k 0) Llt n9 L1 ro cn
    refine ⟨_, rfl, _, rfl, _, rfl, _, _, rfl, rfl, ?_⟩
    simp only [eb]
    have hr2 := s6 _ _ hr0
    refine ⟨R, _, _, _, rfl, rfl, SqL.of (s6 _ _ hR), atI_nat er, rr, rfl, ⟨_, SqL.of hr2⟩, fun B nB => lo_it (walk_list (xs := numsN row)) (fun j H7 => Same H6 H7 ∧ H7 B = some (.lst (numsN ((row.take j).filter fun c => c &&& L == c)))) ⟨same_new nB _, upd_same⟩ (fun j H7 _ ⟨s7, _⟩ => SqL.of (s7 _ _ hr2)) ?_ ?_⟩
    · rintro j x _ H7 lj ⟨s7, hB⟩ ⟨rfl, hj⟩
      unfold numsN at hj
      rw [List.getElem?_map] at hj
      cases e : row[j]? with
      | none => rw [e] at hj; cases hj
      | some c =>
        rw [e] at hj
        cases hj
        have tk := take_succ e
        refine ⟨rfl, ?_⟩
        refine ⟨_, rfl, _, rfl, _, _, rfl, rfl, _, rfl, rfl, _, rfl, ?_⟩
        simp only [and_nn]
        rw [ev_masks]
        have fl : ((row.take j).filter fun c => c &&& L == c).length ≤ 512 := by
          refine Nat.le_trans (List.length_filter_le _ _) ?_
          rw [List.length_take]
          omega
        refine iteB (fun cc => ?_) (fun cc => ?_)
        · refine ⟨_, rfl, _, hB, small1000 (by rw [numsN_len]; omega), same_put s7 nB, ?_⟩
          rw [upd_same, tk, List.filter_append, List.filter_cons_of_pos (p := fun c => c &&& L == c) cc]
          unfold numsN
          rw [List.map_append]
          rfl
        · refine ⟨s7, ?_⟩
          rw [hB, tk, List.filter_append, List.filter_cons_of_neg (p := fun c => c &&& L == c) (by rw [cc]; decide), List.filter_nil, List.append_nil]
    · rintro H7 ⟨s7, hB⟩
      rw [numsN_len, List.take_length] at hB
      have ffew : (row.filter fun c => c &&& L == c).length ≤ 512 := Nat.le_trans (List.length_filter_le _ _) rfew
      have props : ∀ c ∈ row.filter fun c => c &&& L == c, SubN c L ∧ c.testBit (topN L) = true ∧ Stb es c := fun c hc => by
        obtain ⟨hc, sb⟩ := List.mem_filter.mp hc
        exact ⟨(sub_and c _).mp (beq_iff_eq.mp sb), ((ro c).mp hc).2.1, ((ro c).mp hc).2.2⟩
      generalize efit : (row.filter fun c => c &&& L == c) = fit at hB ffew bs props
      have hN7 := s7 _ _ (s6 _ _ hN4)
      have less : ∀ c ∈ fit, L ^^^ c < 2 ^ n := fun c hc => Nat.lt_trans (sub_less L9 L1 (props c hc).1 (props c hc).2.1) Llt
      refine ⟨_, rfl, B, rfl, ⟨_, SqL.of hB⟩, fun B2 nB2 => lo_it (walk_list (xs := numsN fit)) (fun j H8 => Same H7 H8 ∧ H8 B2 = some (.lst (numsN ((fit.take j).filter fun c => decide (ns.getD (L ^^^ c) 0 < ns.getD L 0))))) ⟨same_new nB2 _, upd_same⟩ (fun j H8 _ ⟨s8, _⟩ => SqL.of (s8 _ _ hB)) ?_ ?_⟩
      · rintro j x _ H8 lj ⟨s8, hB2⟩ ⟨rfl, hj⟩
        unfold numsN at hj
        rw [List.getElem?_map] at hj
        cases e : fit[j]? with
        | none => rw [e] at hj; cases hj
        | some c =>
          rw [e] at hj
          cases hj
          have tk := take_succ e
          have cl := less c (List.mem_of_getElem? e)
          have hN8 := s8 _ _ hN7
          refine ⟨rfl, ?_⟩
          refine ⟨_, rfl, _, rfl, _, rfl, _, _, rfl, rfl, ?_⟩
          simp only [xor_nn]
          refine ⟨FN, _, _, _, rfl, rfl, SqL.of hN8, atI_nat (numsN_getD (by omega)), _, rfl, _, rfl, FN, _, _, _, rfl, rfl, SqL.of hN8, atI_nat (numsN_getD (by omega)), _, _, rfl, rfl, _, rfl, ?_⟩
          have ev : decide (((ns.getD (L ^^^ c) 0 : Nat) : Int) < ((ns.getD L 0 : Nat) : Int)) = decide (ns.getD (L ^^^ c) 0 < ns.getD L 0) := decide_eq_decide.mpr ⟨fun z => by omega, fun z => by omega⟩
          rw [ev]
          have fl : ((fit.take j).filter fun c => decide (ns.getD (L ^^^ c) 0 < ns.getD L 0)).length ≤ 512 := by
            refine Nat.le_trans (List.length_filter_le _ _) ?_
            rw [List.length_take]
            omega
          refine iteB (fun cc => ?_) (fun cc => ?_)
          · refine ⟨_, rfl, _, hB2, small1000 (by rw [numsN_len]; omega), same_put s8 nB2, ?_⟩
            rw [upd_same, tk, List.filter_append, List.filter_cons_of_pos (p := fun c => decide (ns.getD (L ^^^ c) 0 < ns.getD L 0)) cc]
            unfold numsN
            rw [List.map_append]
            rfl
          · refine ⟨s8, ?_⟩
            rw [hB2, tk, List.filter_append, List.filter_cons_of_neg (p := fun c => decide (ns.getD (L ^^^ c) 0 < ns.getD L 0)) (by rw [cc]; decide), List.filter_nil, List.append_nil]
      · rintro H8 ⟨s8, hB2⟩
        rw [numsN_len, List.take_length] at hB2
        have bprops : ∀ c ∈ fit.filter fun c => decide (ns.getD (L ^^^ c) 0 < ns.getD L 0), c ∈ fit ∧ ns.getD (L ^^^ c) 0 < ns.getD L 0 := fun c hc => ⟨(List.mem_filter.mp hc).1, of_decide_eq_true (List.mem_filter.mp hc).2⟩
        generalize (fit.filter fun c => decide (ns.getD (L ^^^ c) 0 < ns.getD L 0)) = best at hB2 bs bprops
        obtain ⟨c0, rest, rfl⟩ : ∃ c0 rest, best = c0 :: rest := by
          cases best with
          | nil => exact absurd bs (by simp)
          | cons a r => exact ⟨a, r, rfl⟩
        obtain ⟨c0f, c0l⟩ := bprops c0 (List.mem_cons_self ..)
        obtain ⟨sc, tc, st⟩ := props c0 c0f
        have c0n : c0 < 2 ^ n := Nat.lt_of_le_of_lt sc.le Llt
        have step := make_step g cn mk (topN L) tc sc st c0l
        have s68 := s7.trans s8
        have BC : B2 ≠ C := fun z => by
          have := s68 _ _ hC6
          have z2 := s7 _ _ hC6
          rw [z, z2] at nB2
          cases nB2
        refine ⟨_, rfl, B2, _, 0, _, rfl, rfl, SqL.of hB2, atI_nat (j := 0) rfl, c0, n, rfl, c0n, n9, fun t H9 nt s9 ht => ?_⟩
        have hC9 := s9 _ _ (s68 _ _ hC6)
        have hB9 := s9 _ _ hB2
        have hN9 := s9 _ _ (s8 _ _ hN7)
        have s49 := s6.trans (s68.trans s9)
        have one : ((ns.getD L 0 : Nat) : Int) - 1 = ((ns.getD L 0 - 1 : Nat) : Int) := by omega
        have tC' : t ≠ C := fun z => by
          rw [z, hC9] at ht
          cases ht
        have nlt : ∀ u ∈ bitsN n c0, u < cs.length := fun u hu => by rw [mk.len]; exact (mem_bits.mp hu).1
        refine ⟨t, rfl, ⟨_, SqT.of ht⟩, for_it (walk_tup (xs := (bitsN n c0).map fun k => V.int ((k : Nat) : Int))) (fun j σ H' => ∃ (s8 : Option V), σ = [some x, some (.ref D), some (.ref FN), some (.ref R), some (.ref C), some (.int (L : Int)), some (.ref B), some (.ref B2), s8, none] ∧ Same H4 H' ∧ H' FN = some (.lst (numsN ns)) ∧ H' B2 = some (.lst (numsN (c0 :: rest))) ∧ H' t = some (.tup ((bitsN n c0).map fun k => V.int ((k : Nat) : Int))) ∧ H' C = some (.lst (numsN (setAll cs ((bitsN n c0).take j) (ns.getD L 0 - 1)))))
          ⟨_, rfl, s49, hN9, hB9, ht, hC9⟩ (fun j σ H' _ ⟨_, _, _, _, _, e, _⟩ => SqT.of e) ?_ ?_⟩
        · rintro j x σ _ H10 lj ⟨s8', rfl, s10, hN10, hB10, ht10, hC10⟩ ⟨rfl, hj⟩
          rw [List.getElem?_map] at hj
          cases e : (bitsN n c0)[j]? with
          | none => rw [e] at hj; cases hj
          | some u =>
            rw [e] at hj
            cases hj
            have ul := nlt u (List.mem_of_getElem? e)
            refine ⟨_, rfl, _, rfl, FN, _, _, _, rfl, rfl, SqL.of hN10, atI_nat (numsN_getD (by omega)), _, _, rfl, rfl, ?_⟩
            simp only [one]
            have FC : FN ≠ C := ne_of_none hN4 nC4
            refine ⟨_, rfl, _, rfl, C, _, _, u, rfl, rfl, hC10, by rw [numsN_len, setAll_len]; exact ixN_of ul, _, rfl, same_put s10 nC4, by rw [upd_ne FC]; exact hN10, by rw [upd_ne BC]; exact hB10, by rw [upd_ne tC']; exact ht10, ?_⟩
            rw [upd_same, numsN_set, take_succ e]
            unfold setAll
            rw [List.foldl_append]
            rfl
        · rintro σ H10 ⟨s8', rfl, s10, hN10, hB10, ht10, hC10⟩
          rw [List.length_map, List.take_length] at hC10
          refine ⟨_, rfl, _, rfl, B2, _, 0, _, rfl, rfl, SqL.of hB10, atI_nat (j := 0) rfl, _, _, rfl, rfl, L ^^^ c0, sub_less L9 L1 sc tc, ?_⟩
          rw [hW]
          refine ⟨_, some (.ref B), some (.ref B2), s8', ?_, s10, hC10, step⟩
          simp only [xor_nn]
          rfl
  · have L0 : L = 0 := by
      have c' : (L : Int) = 0 := by simpa using c
      omega
    subst L0
    refine ⟨_, rfl, C, _, rfl, .inl ⟨SqL.of hC6, fun t nt => ?_⟩⟩
    have z0 : ns.getD 0 0 = 0 := by
      have := (cn 0 p1).2 0 (ch_zero es).1
      omega
    refine q t cs (ns.getD (2 ^ n - 1) 0) _ (s1.trans (s2.trans (s3.trans (s4.trans (s6.trans (same_new nt _)))))) upd_same (cn _ (by omega)) ⟨mk.len, fun u hu => (mk.few u hu (Nat.zero_testBit u)).2, fun c hc => ?_, fun a b ha hb ad => mk.ok a b ha hb (Nat.zero_testBit a) (Nat.zero_testBit b) ad⟩
    obtain ⟨u, hu, _, e⟩ := mk.all c (by show ns.getD 0 0 ≤ c; omega) hc
    exact ⟨u, hu, e⟩
end
end My

set_option maxHeartbeats 4000000
/-! Perfect graphs, by chromatic and clique numbers and by odd rounds. -/
namespace My
open PySem PySem.Spec PyProof.Rows L2
/-- no odd hole and no odd antihole -/
def Perf (n : Nat) (es : List E2) : Prop := ∀ l, LotOk n l → oddOf es (flipE n es) l = []
theorem comp_adj {n : Nat} {es : List E2} (g : Good n es) {u v : Nat} (hu : u < n) (hv : v < n) : adjB (flipE n es) u v = compF (adjB es) u v := by
  unfold compF
  by_cases e : u = v
  · subst e
    have gf : Good n (flipE n es) := tab_good g.n9 _
    rw [adj_self gf]
    simp
  · rw [decide_eq_true e, Bool.true_and]
    exact tab_adj (fun u v => by rw [adj_comm]) hu hv e
theorem ring_bad {n : Nat} {es : List E2} (g : Good n es) (p : Perf n es) {V : List Nat} (lt : ∀ v ∈ V, v < n) (b : Bool) : ¬ RingF (if b = true then adjB es else compF (adjB es)) V := by
  rintro ⟨c, cm, cn, cV, ca⟩
  let l := (List.range n).filter fun v => decide (v ∈ c)
  have up : l.Pairwise (· < ·) := List.pairwise_lt_range.filter _
  have lo : LotOk n l := ⟨fun k hk => List.mem_range.mp (List.mem_filter.mp hk).1, up⟩
  have nl : l.Nodup := up.imp fun z => Nat.ne_of_lt z
  have mem : ∀ v, v ∈ c ↔ v ∈ l := fun v => by
    show v ∈ c ↔ v ∈ (List.range n).filter _
    rw [List.mem_filter, List.mem_range, decide_eq_true_eq]
    exact ⟨fun h => ⟨lt v (cV v h), h⟩, fun h => h.2⟩
  have len : c.length = l.length := by
    have a := sub_few cn fun v hv => (mem v).mp hv
    have b := sub_few nl fun v hv => (mem v).mpr hv
    omega
  refine odd_of b g nl (by rw [← len]; exact cm) ⟨mem, cn, len, fun i j hi hj => ?_⟩ (p l lo)
  rw [← ca i j hi hj]
  cases b with
  | true => rfl
  | false => rw [if_neg (by decide), if_neg (by decide), comp_adj g (lt _ (cV _ (gD_mem hi))) (lt _ (cV _ (gD_mem hj)))]
theorem size_ge {n m : Nat} {B : List Nat} (n9 : n ≤ 9) (nB : B.Nodup) (lt : ∀ v ∈ B, v < n) (h : ∀ v ∈ B, m.testBit v = true) : B.length ≤ sizeN m := sub_few nB fun v hv => mem_bits.mpr ⟨Nat.lt_of_lt_of_le (lt v hv) n9, h v hv⟩
theorem perf_all {n : Nat} {es : List E2} (g : Good n es) (p : Perf n es) {m c k : Nat} (hm : m < 2 ^ n) (hc : CnOk es m c) (hk : ChOk es m k) : k ≤ c := by
  have lt : ∀ v ∈ bitsN n m, v < n := fun v hv => (mem_bits.mp hv).1
  have nV : (bitsN n m).Nodup := (bits_up n m).imp fun z => Nat.ne_of_lt z
  have V9 : (bitsN n m).length ≤ 9 := by
    have z := sub_few nV (m := List.range n) fun v hv => List.mem_range.mpr (lt v hv)
    rw [List.length_range] at z
    exact Nat.le_trans z g.n9
  have mo : Most (adjB es) (bitsN n m) c := fun B nB sB cl => by
    have nx : (List.range n).filter (fun v => decide (v ∈ B)) |>.Pairwise (· < ·) := List.pairwise_lt_range.filter _
    have bit : ∀ u, (maskN ((List.range n).filter fun v => decide (v ∈ B))).testBit u = true ↔ u ∈ B := fun u => by
      rw [mask_bit nx, decide_eq_true_eq, List.mem_filter, List.mem_range, decide_eq_true_eq]
      exact ⟨fun z => z.2, fun z => ⟨lt u (sB u z), z⟩⟩
    have z := hc.2 (maskN ((List.range n).filter fun v => decide (v ∈ B))) (fun u hu => (mem_bits.mp (sB u ((bit u).mp hu))).2) fun u v hu hv ne => cl u ((bit u).mp hu) v ((bit v).mp hv) ne
    exact Nat.le_trans (size_ge g.n9 nB (fun v hv => lt v (sB v hv)) fun v hv => (bit v).mpr hv) z
  have no1 := ring_bad g p lt true
  have no2 := ring_bad g p lt false
  obtain ⟨f, f1, f2⟩ := spgt (fun u v => adj_comm es u v) (adj_self g) _ (bitsN n m) rfl nV V9 no1 no2 c mo
  have inV : ∀ u, m.testBit u = true → u ∈ bitsN n m := fun u hu => by
    by_cases y : u < n
    · exact mem_bits.mpr ⟨y, hu⟩
    · rw [high_out hm (by omega)] at hu
      cases hu
  exact hk.2 c ⟨f, fun u hu => f1 u (inV u hu), fun u v hu hv e => f2 u (inV u hu) v (inV v hv) e⟩
theorem perf_no {n : Nat} {es : List E2} (g : Good n es) {l : List Nat} (lo : LotOk n l) (h : oddOf es (flipE n es) l ≠ []) {c k : Nat} (hc : CnOk es (maskN l) c) (hk : ChOk es (maskN l) k) : c < k := by
  have nl : l.Nodup := lo.up.imp fun z => Nat.ne_of_lt z
  obtain ⟨q, hq⟩ : ∃ q, q ∈ oddOf es (flipE n es) l := by
    cases e : oddOf es (flipE n es) l with
    | nil => exact absurd e h
    | cons a _ => exact ⟨a, List.mem_cons_self ..⟩
  obtain ⟨lm, r⟩ := odd_ring g nl hq
  obtain ⟨b, cs⟩ := q
  dsimp only at r
  have bit : ∀ u, (maskN l).testBit u = true ↔ u ∈ l := fun u => by rw [mask_bit lo.up, decide_eq_true_eq]
  have col : ColF (adjB es) l k := by
    obtain ⟨f, f1, f2⟩ := hk.1
    exact ⟨f, fun u hu => f1 u ((bit u).mpr hu), fun u hu v hv e => f2 u v ((bit u).mpr hu) ((bit v).mpr hv) e⟩
  obtain ⟨⟨cc, sc, cq, ec⟩, _⟩ := hc
  have nC : (bitsN 9 cc).Nodup := (bits_up 9 cc).imp fun z => Nat.ne_of_lt z
  have sC : ∀ v ∈ bitsN 9 cc, v ∈ l := fun v hv => (bit v).mp (sc v (mem_bits.mp hv).2)
  have cC : CliqF (adjB es) (bitsN 9 cc) := fun u hu v hv ne => cq u v (mem_bits.mp hu).2 (mem_bits.mp hv).2 ne
  have ec : (bitsN 9 cc).length = c := ec
  have l4 : 4 ≤ l.length := by omega
  cases b with
  | true =>
    rw [if_pos rfl] at r
    have w := ring_clq r l4 nC sC cC
    have s := col_few (s := (l.length - 1) / 2) nl col fun B nB sB st => by
      have := ring_stb r nl l4 nB sB st
      omega
    rcases lm with e | e | e <;> rw [e] at s <;> omega
  | false =>
    rw [if_neg (by decide)] at r
    have op : ∀ u ∈ l, ∀ v ∈ l, u ≠ v → adjB (flipE n es) u v = !adjB es u v := fun u hu v hv ne => by
      rw [comp_adj g (lo.lt u hu) (lo.lt v hv)]
      unfold compF
      rw [decide_eq_true ne, Bool.true_and]
    have w := ring_stb r nl l4 nC sC fun u hu v hv ne => by rw [op u (sC u hu) v (sC v hv) ne, cC u hu v hv ne]; rfl
    have s := col_few (s := 2) nl col fun B nB sB st => ring_clq r l4 nB sB fun u hu v hv ne => by rw [op u (sB u hu) v (sB v hv) ne, st u hu v hv ne]; rfl
    omega
end My

set_option maxHeartbeats 8000000
namespace My
open PySem PySem.Spec PyProof.Rows L2
abbrev sLackM : Stmt := top 40
abbrev sIsPerf : Stmt := top 39
theorem scLackM : FnScope ["graph", "neighbours", "cliques", "colours", "mask"] ["graph"] (defScope sLackM) := ⟨rfl, rfl, rfl, by decide +kernel, rfl, by decide +kernel, by decide +kernel⟩
theorem scIsPerf : FnScope ["graph"] ["graph"] (defScope sIsPerf) := ⟨rfl, rfl, rfl, by decide +kernel, rfl, by decide +kernel, by decide +kernel⟩
/-- the masks that lack colours -/
def Lacks (n : Nat) (es : List E2) (ms : List Nat) : Prop := ∃ cn ch : Nat → Nat, (∀ k, k < 2 ^ n → CnOk es k (cn k) ∧ ChOk es k (ch k)) ∧ ms = (List.range (2 ^ n)).filter fun m => decide (cn m < ch m)
theorem lacks_perf {n : Nat} {es : List E2} {ms : List Nat} (g : Good n es) (h : Lacks n es ms) : ms.isEmpty = true ↔ Perf n es := by
  obtain ⟨cn, ch, ok, rfl⟩ := h
  rw [List.isEmpty_iff, List.filter_eq_nil_iff]
  constructor
  · intro h l lo
    apply Classical.byContradiction
    intro ne
    have lt : maskN l < 2 ^ n := Nat.lt_pow_two_of_testBit _ fun v hv => by
      rw [mask_bit lo.up]
      exact decide_eq_false fun z => by have := lo.lt v z; omega
    obtain ⟨a, b⟩ := ok _ lt
    have z := perf_no g lo ne a b
    exact h _ (List.mem_range.mpr lt) (decide_eq_true z)
  · intro p m hm y
    obtain ⟨a, b⟩ := ok m (List.mem_range.mp hm)
    have z := perf_all g p (List.mem_range.mp hm) a b
    have y := of_decide_eq_true y
    omega
noncomputable def perfB (n : Nat) (es : List E2) : Bool := @decide (Perf n es) (Classical.propDecidable _)
def spLackM (K : PySem.W.Frag) : Sp := fun vs H Q _ => ∃ (x : V) (n : Nat) (es : List E2), vs = [x] ∧ GraphAt K H x n es ∧ Good n es ∧ ∀ (F : Addr) (ms : List Nat) H', Same H H' → H' F = some (.lst (numsN ms)) → Lacks n es ms → Q (.ref F) H'
def spIsPerf (K : PySem.W.Frag) : Sp := fun vs H Q _ => ∃ (x : V) (n : Nat) (es : List E2), vs = [x] ∧ GraphAt K H x n es ∧ Good n es ∧ ∀ H', Same H H' → Q (.bl (perfB n es)) H'
theorem perfB_iff {n : Nat} {es : List E2} : perfB n es = true ↔ Perf n es := ⟨fun h => @of_decide_eq_true _ (Classical.propDecidable _) h, fun h => @decide_eq_true _ (Classical.propDecidable _) h⟩
section
variable {P : Program} {w : World} {K : PySem.W.Frag} {mg : Str → Option Value} {base : Heap} {f fC fN fA fB fL : Addr} {fd dC dN dA dB dL : FuncData}
theorem ok_lackm (F : L2.Fun K "_lacking_masks" "_lacking_masks" sLackM f fd)
    (GC : FnOk P w K mg base CX0 5 fC dC ["graph"] (spCheckGraph K)) (bC : L2.Binds K dC ["graph"] []) (kC : PySem.W.keepIn K (.ref fC) = true) (mC : mg "check_graph" = some (.ref fC))
    (GN : FnOk P w K mg base CX0 1 fN dN ["graph"] (spMasks K)) (bN : L2.Binds K dN ["graph"] []) (kN : PySem.W.keepIn K (.ref fN) = true) (mN : mg "neighbour_masks" = some (.ref fN))
    (GA : FnOk P w K mg base CX0 1 fA dA ["neighbours"] (spCNums K)) (bA : L2.Binds K dA ["neighbours"] []) (kA : PySem.W.keepIn K (.ref fA) = true) (mA : mg "clique_numbers" = some (.ref fA))
    (GB : FnOk P w K mg base CX0 2 fB dB ["neighbours"] (spChNums K)) (bB : L2.Binds K dB ["neighbours"] []) (kB : PySem.W.keepIn K (.ref fB) = true) (mB : mg "chromatic_numbers" = some (.ref fB))
    (mr : mg "range" = none) (ml : mg "len" = none) : FnOk P w K mg base CX0 6 f fd ["graph"] (spLackM K) := by
  refine F.ok scLackM (fun vs H Q E h => ?_) (fun cdv A outer s H vs Q E hr h => ?_)
  · obtain ⟨x, n, es, rfl, _⟩ := h
    rfl
  obtain ⟨x, n, es, rfl, hx, g, q⟩ := h
  have h1 := hr.mono (show 1 ≤ 5 by decide)
  have h2 := hr.mono (show 2 ≤ 5 by decide)
  refine ⟨_, pss_cons (ps_expr (pe_call GC hr (by rfl) mC kC bC .nil pass0 (pa_cons (pv 0) pa_nil)))
    (pss_cons (ps_set (i := 1) scLackM.nd rfl (.inl rfl) (pe_call GN h1 (by rfl) mN kN bN .nil pass0 (pa_cons (pv 0) pa_nil)))
    (pss_cons (ps_set (i := 2) scLackM.nd rfl (.inr rfl) (pe_call GA h1 (by rfl) mA kA bA .nil pass0 (pa_cons (pv 1) pa_nil)))
    (pss_cons (ps_set (i := 3) scLackM.nd rfl (.inr rfl) (pe_call GB h2 (by rfl) mB kB bB .nil pass0 (pa_cons (pv 1) pa_nil)))
    (pss_one (ps_ret (pe_lc (own := [("mask", 4)]) (g := gName 4) rfl scLackM.nd (pi_range1 rfl mr (pa_cons (pe_callB call_len_seq (by rfl) ml PySem.boot_len (pa_cons (pv 2) pa_nil)) pa_nil))
        (blkOk_by (N := ["graph", "neighbours", "cliques", "colours", "mask"]) (sc := defScope sLackM) (by decide +kernel)) (fun _ _ _ _ _ => pg_name (i := 4) scLackM.nd rfl (Or.inl rfl))
        (fun _ _ _ _ _ => pts_one (pt_cmpR op_gt (pe_ix (r := rIxL K) ix_list (pv 3) (pv 4) (fun _ _ => rfl)) (pe_ix (r := rIxL K) ix_list (pv 2) (pv 4) (fun _ _ => rfl)) (nomark _)))
        (fun _ _ _ _ _ => pv 4))))))), ?_⟩
  have n9 := g.n9
  have p9 : 2 ^ n ≤ 2 ^ 9 := Nat.pow_le_pow_right (by decide) n9
  refine ⟨_, rfl, x, n, es, rfl, hx, g, fun H1 s1 => ?_⟩
  refine ⟨_, rfl, x, n, es, rfl, hx.same s1, g, fun D nb H2 nD s2 hD ok => ?_⟩
  refine ⟨_, rfl, D, nb, n, es, rfl, SqL.of hD, ok, g, fun F1 ns H3 s3 hF lF okF => ?_⟩
  refine ⟨_, rfl, D, nb, n, es, rfl, SqL.of (s3 _ _ hD), ok, g, fun F2 ms H4 s4 hM lM okM => ?_⟩
  have hF4 := s4 _ _ hF
  have s04 := s1.trans (s2.trans (s3.trans s4))
  refine ⟨_, rfl, F1, _, rfl, .inl (SqL.of hF4), _, rfl, by rw [numsN_len, lF]; omega, by rw [numsN_len, lF]; omega, fun B nB => lc_range (lo := 0) (n := (((numsN ns).length : Nat) : Int).toNat) (fun i H5 => Same H4 H5 ∧ H5 B = some (.lst (numsN ((List.range i).filter fun m => decide (ns.getD m 0 < ms.getD m 0))))) ⟨same_new nB _, upd_same⟩ ?_ ?_⟩
  · rintro i H5 li ⟨s5, hB⟩
    rw [Int.zero_add]
    rw [Int.toNat_natCast, numsN_len, lF] at li
    have fl : ((List.range i).filter fun m => decide (ns.getD m 0 < ms.getD m 0)).length ≤ 512 := by
      refine Nat.le_trans (List.length_filter_le _ _) ?_
      rw [List.length_range]
      omega
    refine ⟨rfl, ?_⟩
    refine ⟨_, rfl, _, rfl, F2, _, _, _, rfl, rfl, SqL.of (s5 _ _ hM), atI_nat (numsN_getD (by omega)), _, rfl, _, rfl, F1, _, _, _, rfl, rfl, SqL.of (s5 _ _ hF4), atI_nat (numsN_getD (by omega)), _, _, rfl, rfl, _, rfl, ?_⟩
    have ed : decide (((ns.getD i 0 : Nat) : Int) < ((ms.getD i 0 : Nat) : Int)) = decide (ns.getD i 0 < ms.getD i 0) := decide_eq_decide.mpr Int.ofNat_lt
    rw [ed]
    refine iteB (fun c => ?_) (fun c => ?_)
    · refine ⟨_, rfl, _, hB, small1000 (by rw [numsN_len]; omega), same_put s5 nB, ?_⟩
      rw [upd_same, List.range_succ, List.filter_append, List.filter_cons_of_pos (p := fun m => decide (ns.getD m 0 < ms.getD m 0)) c, List.filter_nil, numsN_app]
      rfl
    · refine ⟨s5, ?_⟩
      rw [hB, List.range_succ, List.filter_append, List.filter_cons_of_neg (p := fun m => decide (ns.getD m 0 < ms.getD m 0)) (by rw [c]; decide), List.filter_nil, List.append_nil]
  · rintro H5 ⟨s5, hB⟩
    rw [Int.toNat_natCast, numsN_len, lF] at hB
    exact q B _ H5 (s04.trans s5) hB ⟨fun m => ns.getD m 0, fun m => ms.getD m 0, fun k hk => ⟨okF k hk, okM k hk⟩, rfl⟩
theorem ok_is_perf (F : L2.Fun K "is_perfect" "is_perfect" sIsPerf f fd)
    (GL : FnOk P w K mg base CX0 6 fL dL ["graph"] (spLackM K)) (bL : L2.Binds K dL ["graph"] []) (kL : PySem.W.keepIn K (.ref fL) = true) (mL : mg "_lacking_masks" = some (.ref fL)) : FnOk P w K mg base CX0 7 f fd ["graph"] (spIsPerf K) := by
  refine F.ok scIsPerf (fun vs H Q E h => ?_) (fun cdv A outer s H vs Q E hr h => ?_)
  · obtain ⟨x, n, es, rfl, _⟩ := h
    rfl
  obtain ⟨x, n, es, rfl, hx, g, q⟩ := h
  refine ⟨_, pss_one (ps_ret (pe_notT (pe_call GL hr (by rfl) mL kL bL .nil pass0 (pa_cons (pv 0) pa_nil)))), ?_⟩
  refine ⟨_, rfl, x, n, es, rfl, hx, g, fun F ms H1 s1 hF lk => ⟨!(numsN ms).isEmpty, .inl ⟨_, SqL.of hF, rfl⟩, ?_⟩⟩
  have e : (!(!(numsN ms).isEmpty)) = perfB n es := by
    rw [Bool.not_not, Bool.eq_iff_iff, perfB_iff, ← lacks_perf g lk]
    cases ms with
    | nil => exact Iff.rfl
    | cons a r => exact Iff.rfl
  rw [e]
  exact q H1 s1
end
end My

set_option maxHeartbeats 4000000
/-! set(t), t a tuple of ints; what a chromatic number and a clique number say of one another. -/
namespace My
open PySem PySem.Spec PyProof.Rows L2
section
variable {X : Cx}
/-- set(t) -/
def rSetTI (K : PySem.W.Frag) (w : World) : List V → Hp → VK → Prop := fun xs H Q => ∃ (l : Addr) (ns : List Int), xs = [V.ref l] ∧ SqT K H l (ns.map V.int) ∧ ns.length ≤ 1000 ∧
  ∀ (p : Addr) (c : Nat) (H' : Hp), Same H H' → H' p = some (SetO w p (fun j => decide (j ∈ ns)) c) → c ≤ ns.length → Q (.ref p) H'
theorem cr_setTI (hc : X.calm = true) : CallR X (.type "set") (rSetTI X.K X.w) := by
  intro pins s σ H xs us Q I r h
  obtain ⟨l, ns, rfl, hl, hb, q⟩ := h
  rw [Vals.ref1 r]
  obtain ⟨its, rv, pt, hz⟩ := I.tuple hl
  have hi : IntsAre its.toArray.toList ns := ints_of_vals rv
  have hn : H s.heap.objs.size = none := I.hok.fresh (Nat.le_refl _)
  refine call_set_tupI ns (I.ok.hd hc) (show s.heap.IsTuple l its.toArray from pt) hi (by unfold scanBound; omega) fun h' tk c R1 hcn k => ?_
  exact ⟨.ref s.heap.objs.size, upd H s.heap.objs.size (SetO X.w s.heap.objs.size (fun j => decide (j ∈ ns)) c), I.laid (t' := tk) k (Nat.le_refl _) (setO_new R1), rfl, q _ c _ (fun b u e => by rw [upd_ne (ne_of_none e hn)]; exact e) upd_same hcn⟩
end
theorem ch_uniq {es : List E2} {m v w : Nat} (h : ChOk es m v) (h' : ChOk es m w) : v = w := Nat.le_antisymm (h.2 _ h'.1) (h'.2 _ h.1)
theorem cn_col {es : List E2} {n v k : Nat} (n9 : n ≤ 9) (h : CnOk es (2 ^ n - 1) v) (hk : ColB es (2 ^ n - 1) k) : v ≤ k := by
  obtain ⟨⟨c, sub, cl, rfl⟩, _⟩ := h
  obtain ⟨f, hf, hp⟩ := hk
  have nd : ((bitsN 9 c).map f).Nodup := by
    show List.Pairwise _ _
    rw [List.pairwise_map]
    have nd0 : (bitsN 9 c).Nodup := (List.nodup_range).filter _
    refine List.Pairwise.imp_of_mem ?_ nd0
    intro a b ha hb ne
    have ta := (mem_bits.mp ha).2
    have tb := (mem_bits.mp hb).2
    exact hp a b (sub a ta) (sub b tb) (cl a b ta tb ne)
  have z := sub_few nd (m := List.range k) fun x hx => by
    obtain ⟨a, ha, rfl⟩ := List.mem_map.mp hx
    exact List.mem_range.mpr (hf a (sub a (mem_bits.mp ha).2))
  rw [List.length_map, List.length_range] at z
  exact z
/-- ascending numbers that are just those below k -/
theorem up_range {k : Nat} {ns : List Int} (up : ns.Pairwise (· < ·)) (h : ∀ i : Int, i ∈ ns ↔ 0 ≤ i ∧ i < (k : Int)) : ns = (List.range k).map fun i => ((i : Nat) : Int) := by
  have up2 : ((List.range k).map fun i => ((i : Nat) : Int)).Pairwise (· < ·) := by
    rw [List.pairwise_map]
    exact List.pairwise_lt_range.imp fun z => Int.ofNat_lt.mpr z
  have nd1 : ns.Nodup := up.imp fun z e => by omega
  have nd2 : ((List.range k).map fun i => ((i : Nat) : Int)).Nodup := up2.imp fun z e => by omega
  have pm : ns.Perm ((List.range k).map fun i => ((i : Nat) : Int)) := by
    rw [List.perm_ext_iff_of_nodup nd1 nd2]
    intro i
    rw [h, List.mem_map]
    constructor
    · rintro ⟨a, b⟩
      exact ⟨i.toNat, List.mem_range.mpr (by omega), by omega⟩
    · rintro ⟨j, hj, rfl⟩
      have := List.mem_range.mp hj
      omega
  exact pm.eq_of_pairwise (le := (· < ·)) (fun a b _ _ x y => by omega) up up2
theorem rg_nat (k : Nat) : rgV 0 (k : Int) = ((List.range k).map fun i => ((i : Nat) : Int)).map V.int := by
  unfold rgV
  rw [List.map_map]
  have : ((k : Int) - 0).toNat = k := by omega
  rw [this]
  refine List.map_congr_left fun i _ => ?_
  show V.int (0 + (i : Int)) = V.int (i : Int)
  rw [Int.zero_add]
end My

set_option maxHeartbeats 4000000
/-! The line graph of a bipartite multigraph is perfect, with as many colours as the greatest degree. -/
namespace My
open PySem PySem.Spec PyProof.Rows L2
/-- no odd round goes along two ways of being alike by turns -/
theorem no_turns {m : Nat} (X Y : Nat → Nat) (odd : m % 2 = 1) (pX : ∀ i, X (i + m) = X i) (pY : ∀ i, Y (i + m) = Y i) (step : ∀ i, X i = X (i + 1) ∨ Y i = Y (i + 1)) (nX : ∀ i, X i ≠ X (i + 2)) (nY : ∀ i, Y i ≠ Y (i + 2)) : False := by
  have go : ∀ (X Y : Nat → Nat), (∀ i, X (i + m) = X i) → (∀ i, X i = X (i + 1) ∨ Y i = Y (i + 1)) → (∀ i, X i ≠ X (i + 2)) → (∀ i, Y i ≠ Y (i + 2)) → X 0 = X 1 → False := fun X Y pX step nX nY h0 => by
    have ev : ∀ k, X (2 * k) = X (2 * k + 1) := fun k => by
      induction k with
      | zero => exact h0
      | succ k ih =>
        have y : Y (2 * k + 1) = Y (2 * k + 2) := (step (2 * k + 1)).resolve_left fun z => nX (2 * k) (ih.trans z)
        exact (step (2 * k + 2)).resolve_right fun z => nY (2 * k + 1) (y.trans z)
    obtain ⟨k, rfl⟩ : ∃ k, m = 2 * k + 1 := ⟨m / 2, by omega⟩
    have a := ev k
    have b := pX 0
    have c := pX 1
    rw [Nat.zero_add] at b
    rw [show 1 + (2 * k + 1) = 2 * k + 2 by omega] at c
    exact nX (2 * k) (a.trans (b.trans (h0.trans c.symm)))
  rcases step 0 with z | z
  · exact go X Y pX step nX nY z
  · exact go Y X pY (fun i => (step i).symm) nY nX z
def meets (X Y : Nat → Nat) (i j : Nat) : Prop := X i = X j ∨ Y i = Y j
/-- three of which each two meet meet in one -/
theorem three_meet {X Y : Nat → Nat} {a b c : Nat} (h1 : meets X Y a b) (h2 : meets X Y a c) (h3 : meets X Y b c) : (X a = X b ∧ X a = X c) ∨ (Y a = Y b ∧ Y a = Y c) := by
  unfold meets at h1 h2 h3
  omega
theorem no_anti {X Y : Nat → Nat} (h02 : meets X Y 0 2) (h04 : meets X Y 0 4) (h24 : meets X Y 2 4) (h25 : meets X Y 2 5) (h05 : meets X Y 0 5) (h03 : meets X Y 0 3) (h35 : meets X Y 3 5) (n45 : ¬ meets X Y 4 5) (n23 : ¬ meets X Y 2 3) (n34 : ¬ meets X Y 3 4) : False := by
  have a := three_meet h02 h04 h24
  have b := three_meet h02 h05 h25
  have c := three_meet h03 h05 h35
  unfold meets at n45 n23 n34
  omega
theorem meet_iff {es : List E2} {u v : Nat} : meetB es u v = true ↔ (eAt es u).1 = (eAt es v).1 ∨ (eAt es u).2 = (eAt es v).2 := by
  unfold meetB
  rw [Bool.or_eq_true, beq_iff_eq, beq_iff_eq]
theorem line_adj {es : List E2} {u v : Nat} (hu : u < es.length) (hv : v < es.length) (ne : u ≠ v) : adjB (lineP es) u v = meetB es u v :=
  tab_adj (ff := meetB es) (fun a b => by rw [Bool.eq_iff_iff, meet_iff, meet_iff]; exact ⟨fun h => h.imp Eq.symm Eq.symm, fun h => h.imp Eq.symm Eq.symm⟩) hu hv ne
theorem line_perf {es : List E2} (e9 : es.length ≤ 9) : Perf es.length (lineP es) := by
  have g : Good es.length (lineP es) := tab_good e9 _
  intro l lo
  apply Classical.byContradiction
  intro ne
  obtain ⟨q, hq⟩ : ∃ q, q ∈ oddOf (lineP es) (flipE es.length (lineP es)) l := by
    cases e : oddOf (lineP es) (flipE es.length (lineP es)) l with
    | nil => exact absurd e ne
    | cons a _ => exact ⟨a, List.mem_cons_self ..⟩
  obtain ⟨lm, r⟩ := odd_ring g (lo.up.imp fun z => Nat.ne_of_lt z) hq
  obtain ⟨b, c⟩ := q
  dsimp only at r
  have len := r.len
  generalize hm : c.length = m at len
  have pos : 0 < m := by omega
  let X : Nat → Nat := fun i => (eAt es (c.getD (i % m) 0)).1
  let Y : Nat → Nat := fun i => (eAt es (c.getD (i % m) 0)).2
  have pX : ∀ i, X (i + m) = X i := fun i => by show (eAt es (c.getD ((i + m) % m) 0)).1 = _; rw [Nat.add_mod_right]
  have pY : ∀ i, Y (i + m) = Y i := fun i => by show (eAt es (c.getD ((i + m) % m) 0)).2 = _; rw [Nat.add_mod_right]
  have inl : ∀ i, i < m → c.getD i 0 < es.length := fun i hi => lo.lt _ ((r.mem _).mp (gD_mem (by omega)))
  have adj : ∀ i j, i < m → j < m → i ≠ j → (meetB es (c.getD i 0) (c.getD j 0) = true ↔ if b = true then Beside m i j else ¬ Beside m i j) := fun i j hi hj ij => by
    have nij : c.getD i 0 ≠ c.getD j 0 := fun e => ij (gD_inj r.nd (by omega) (by omega) e)
    have z := r.adj i j (by omega) (by omega)
    rw [hm] at z
    rw [← line_adj (inl i hi) (inl j hj) nij]
    cases b with
    | true =>
      rw [if_pos rfl] at z ⊢
      exact z
    | false =>
      rw [if_neg (by decide)] at z ⊢
      rw [comp_adj g (inl i hi) (inl j hj)] at z
      unfold compF at z
      rw [decide_eq_true nij, Bool.true_and] at z
      rw [← z]
      cases adjB (lineP es) (c.getD i 0) (c.getD j 0) <;> simp
  have mt : ∀ i j, i % m ≠ j % m → (meets X Y i j ↔ if b = true then Beside m (i % m) (j % m) else ¬ Beside m (i % m) (j % m)) := fun i j ij => by
    rw [← adj _ _ (Nat.mod_lt _ pos) (Nat.mod_lt _ pos) ij, meet_iff]
    exact Iff.rfl
  have nextM : ∀ i, (i + 1) % m = if i % m + 1 = m then 0 else i % m + 1 := fun i => by
    have h := Nat.mod_lt i pos
    have h2 : (i + 1) % m = (i % m + 1) % m := by rw [Nat.mod_add_mod]
    rw [h2]
    split
    · rename_i e; rw [e, Nat.mod_self]
    · exact Nat.mod_eq_of_lt (by omega)
  cases b with
  | true =>
    have two : ∀ i, i % m ≠ (i + 2) % m ∧ ¬ Beside m (i % m) ((i + 2) % m) := fun i => by
      have h := Nat.mod_lt i pos
      have e2 : (i + 2) % m = if i % m + 1 = m then 1 else if i % m + 2 = m then 0 else i % m + 2 := by
        rw [show i + 2 = i + 1 + 1 by omega, nextM (i + 1), nextM i]
        by_cases a : i % m + 1 = m
        · rw [if_pos a, if_pos a, if_neg (by omega)]
        · rw [if_neg a, if_neg a]
      rw [e2]
      generalize i % m = k at h ⊢
      unfold Beside
      split <;> (try split) <;> omega
    have one : ∀ i, i % m ≠ (i + 1) % m ∧ Beside m (i % m) ((i + 1) % m) := fun i => by
      have h := Nat.mod_lt i pos
      rw [nextM i]
      unfold Beside
      split <;> omega
    refine no_turns X Y (m := m) (by omega) pX pY (fun i => ?_) (fun i z => ?_) (fun i z => ?_)
    · exact (mt i (i + 1) (one i).1).mpr (by rw [if_pos rfl]; exact (one i).2)
    · have y := (mt i (i + 2) (two i).1).mp (.inl z)
      rw [if_pos rfl] at y
      exact (two i).2 y
    · have y := (mt i (i + 2) (two i).1).mp (.inr z)
      rw [if_pos rfl] at y
      exact (two i).2 y
  | false =>
    have yes : ∀ i j, i < m → j < m → i ≠ j → ¬ Beside m i j → meets X Y i j := fun i j hi hj ij nb => by
      refine (mt i j ?_).mpr ?_
      · rw [Nat.mod_eq_of_lt hi, Nat.mod_eq_of_lt hj]; exact ij
      · rw [if_neg (by decide), Nat.mod_eq_of_lt hi, Nat.mod_eq_of_lt hj]; exact nb
    have no : ∀ i j, i < m → j < m → i ≠ j → Beside m i j → ¬ meets X Y i j := fun i j hi hj ij nb z => by
      have y := (mt i j (by rw [Nat.mod_eq_of_lt hi, Nat.mod_eq_of_lt hj]; exact ij)).mp z
      rw [if_neg (by decide), Nat.mod_eq_of_lt hi, Nat.mod_eq_of_lt hj] at y
      exact y nb
    by_cases m5 : m = 5
    · subst m5
      have t2 : ∀ i, (2 * i) % 5 ≠ (2 * (i + 1)) % 5 ∧ ¬ Beside 5 ((2 * i) % 5) ((2 * (i + 1)) % 5) := fun i => by unfold Beside; omega
      have t4 : ∀ i, (2 * i) % 5 ≠ (2 * (i + 2)) % 5 ∧ Beside 5 ((2 * i) % 5) ((2 * (i + 2)) % 5) := fun i => by unfold Beside; omega
      have p2 : ∀ (Z : Nat → Nat), (∀ i, Z (i + 5) = Z i) → ∀ i, Z (2 * (i + 5)) = Z (2 * i) := fun Z h i => by
        rw [show 2 * (i + 5) = 2 * i + 5 + 5 by omega, h, h]
      refine no_turns (fun i => X (2 * i)) (fun i => Y (2 * i)) (m := 5) (by decide) (p2 X pX) (p2 Y pY) (fun i => ?_) (fun i z => ?_) (fun i z => ?_)
      · exact (mt _ _ (t2 i).1).mpr (by rw [if_neg (by decide)]; exact (t2 i).2)
      · have y := (mt _ _ (t4 i).1).mp (.inl z)
        rw [if_neg (by decide)] at y
        exact y (t4 i).2
      · have y := (mt _ _ (t4 i).1).mp (.inr z)
        rw [if_neg (by decide)] at y
        exact y (t4 i).2
    · have m7 : 7 ≤ m := by omega
      refine no_anti (X := X) (Y := Y) (yes 0 2 ?_ ?_ ?_ ?_) (yes 0 4 ?_ ?_ ?_ ?_) (yes 2 4 ?_ ?_ ?_ ?_) (yes 2 5 ?_ ?_ ?_ ?_) (yes 0 5 ?_ ?_ ?_ ?_) (yes 0 3 ?_ ?_ ?_ ?_) (yes 3 5 ?_ ?_ ?_ ?_) (no 4 5 ?_ ?_ ?_ ?_) (no 2 3 ?_ ?_ ?_ ?_) (no 3 4 ?_ ?_ ?_ ?_) <;> (try unfold Beside) <;> omega
/-- the greatest clique of a line graph -/
theorem line_best {l r m : Nat} {es : List E2} (g : MulG l r es) (e9 : es.length ≤ 9) (hm : IsMax (degL l r es) m) : BestOk es.length (lineP es) true m := by
  have pr : ∀ k : List Nat, LotOk es.length k → (PairB (lineP es) true k ↔ ∀ u ∈ k, ∀ v ∈ k, u ≠ v → meetB es u v = true) := fun k lo => by
    rw [pairB_mem (lo.up.imp fun z => Nat.ne_of_lt z)]
    exact ⟨fun h u hu v hv ne => by rw [← line_adj (lo.lt u hu) (lo.lt v hv) ne]; exact h u hu v hv ne, fun h u hu v hv ne => by rw [line_adj (lo.lt u hu) (lo.lt v hv) ne]; exact h u hu v hv ne⟩
  have atO : ∀ i v, LotOk es.length (atL es i v) := fun i v => ⟨fun k hk => List.mem_range.mp (List.mem_filter.mp hk).1, List.pairwise_lt_range.filter _⟩
  have at0 : ∀ v k, k ∈ atL es 0 v ↔ k < es.length ∧ (eAt es k).1 = v := fun v k => by
    unfold atL
    rw [List.mem_filter, List.mem_range, beq_iff_eq]
    exact Iff.rfl
  have at1 : ∀ v k, k ∈ atL es 1 v ↔ k < es.length ∧ (eAt es k).2 = v := fun v k => by
    unfold atL
    rw [List.mem_filter, List.mem_range, beq_iff_eq]
    exact Iff.rfl
  have eIn : ∀ k, k < es.length → (eAt es k).1 < l ∧ (eAt es k).2 < r := fun k hk => by
    have z : eAt es k ∈ es := by
      unfold eAt
      rw [List.getD_eq_getElem?_getD, List.getElem?_eq_getElem hk]
      exact List.getElem_mem _
    exact g.lt _ z
  constructor
  · have h := hm.1
    unfold degL at h
    rw [List.mem_append, List.mem_append, List.mem_singleton, List.mem_map, List.mem_map] at h
    rcases h with (h | ⟨v, _, h⟩) | ⟨v, _, h⟩
    · exact ⟨[], ⟨fun k hk => (nomatch hk), .nil⟩, (pr [] ⟨fun k hk => (nomatch hk), .nil⟩).mpr fun u hu => (nomatch hu), h.symm⟩
    · refine ⟨atL es 0 v, atO 0 v, (pr _ (atO 0 v)).mpr fun a ha b hb _ => meet_iff.mpr (.inl ?_), h⟩
      rw [((at0 v a).mp ha).2, ((at0 v b).mp hb).2]
    · refine ⟨atL es 1 v, atO 1 v, (pr _ (atO 1 v)).mpr fun a ha b hb _ => meet_iff.mpr (.inr ?_), h⟩
      rw [((at1 v a).mp ha).2, ((at1 v b).mp hb).2]
  · intro k lo pb
    have mk := (pr k lo).mp pb
    have nk : k.Nodup := lo.up.imp fun z => Nat.ne_of_lt z
    cases k with
    | nil => exact Nat.zero_le _
    | cons a k =>
      have ha : a ∈ a :: k := List.mem_cons_self ..
      have mt : ∀ u ∈ a :: k, ∀ v ∈ a :: k, (eAt es u).1 = (eAt es v).1 ∨ (eAt es u).2 = (eAt es v).2 := fun u hu v hv => by
        by_cases e : u = v
        · subst e; exact .inl rfl
        · exact meet_iff.mp (mk u hu v hv e)
      have one : (∀ b ∈ a :: k, (eAt es b).1 = (eAt es a).1) ∨ ∀ b ∈ a :: k, (eAt es b).2 = (eAt es a).2 := by
        apply Classical.byContradiction
        intro no
        obtain ⟨n1, n2⟩ := not_or.mp no
        obtain ⟨b, hb, nb⟩ : ∃ b ∈ a :: k, (eAt es b).1 ≠ (eAt es a).1 := Classical.byContradiction fun z => n1 fun b hb => Classical.byContradiction fun y => z ⟨b, hb, y⟩
        obtain ⟨d, hd, nd⟩ : ∃ d ∈ a :: k, (eAt es d).2 ≠ (eAt es a).2 := Classical.byContradiction fun z => n2 fun b hb => Classical.byContradiction fun y => z ⟨b, hb, y⟩
        have h1 := mt b hb a ha
        have h2 := mt d hd a ha
        have h3 := mt b hb d hd
        omega
      have al := eIn a (lo.lt a ha)
      rcases one with h | h
      · have z := sub_few nk (m := atL es 0 (eAt es a).1) fun b hb => (at0 _ b).mpr ⟨lo.lt b hb, h b hb⟩
        have y := hm.2 (atL es 0 (eAt es a).1).length (by
          unfold degL
          rw [List.mem_append, List.mem_append]
          exact .inl (.inr (List.mem_map.mpr ⟨_, List.mem_range.mpr al.1, rfl⟩)))
        omega
      · have z := sub_few nk (m := atL es 1 (eAt es a).2) fun b hb => (at1 _ b).mpr ⟨lo.lt b hb, h b hb⟩
        have y := hm.2 (atL es 1 (eAt es a).2).length (by
          unfold degL
          rw [List.mem_append]
          exact .inr (List.mem_map.mpr ⟨_, List.mem_range.mpr al.2, rfl⟩))
        omega
/-- of a perfect graph the two numbers are one -/
theorem perf_num {n : Nat} {es : List E2} {v k : Nat} (g : Good n es) (p : Perf n es) (hb : BestOk n es true v) (hk : ChOk es (2 ^ n - 1) k) : k = v := by
  have pos := Nat.two_pow_pos n
  obtain ⟨c, ⟨cc, h1, h2, h3⟩, hc⟩ := max_ex (p := fun c => ∃ cc, SubN cc (2 ^ n - 1) ∧ Clq es cc ∧ sizeN cc = c) ⟨sizeN 0, 0, fun u h => by simp at h, fun u v h => by simp at h, rfl⟩ (b := 9) fun c ⟨cc, _, _, e⟩ => by
    rw [← e]
    unfold sizeN bitsN
    refine Nat.le_trans (List.length_filter_le _ _) ?_
    rw [List.length_range]
    exact Nat.le_refl _
  have ok : CnOk es (2 ^ n - 1) c := ⟨⟨cc, h1, h2, h3⟩, fun dd s q => hc _ ⟨dd, s, q, rfl⟩⟩
  have e := best_uniq (cn_best g.n9 ok) hb
  subst e
  exact Nat.le_antisymm (perf_all g p (by omega) ok hk) (cn_col g.n9 ok hk.1)
end My

set_option maxHeartbeats 8000000
namespace My
open PySem PySem.Spec PyProof.Rows L2
abbrev sIec : Stmt := top 36
abbrev sEco : Stmt := top 37
theorem scIec : FnScope ["multigraph", "value", "most", "colour"] ["multigraph", "value"] (defScope sIec) := ⟨rfl, rfl, rfl, by decide +kernel, rfl, by decide +kernel, by decide +kernel⟩
theorem scEco : FnScope ["multigraph"] ["multigraph"] (defScope sEco) := ⟨rfl, rfl, rfl, by decide +kernel, rfl, by decide +kernel, by decide +kernel⟩
def spIec (K : PySem.W.Frag) : Sp := fun vs H Q _ => ∃ (x v : V) (l r : Nat) (es : List E2) (s : Sh) (m : Nat), vs = [x, v] ∧ MulAt K H x l r es ∧ MulG l r es ∧ es.length ≤ 9 ∧ ShAt K H v s ∧ IsMax (degL l r es) m ∧ ∀ H', Same H H' → Q (.bl (propB (m : Int) es s)) H'
def spEco (K : PySem.W.Frag) : Sp := fun vs H Q _ => ∃ (x : V) (l r : Nat) (es : List E2) (m : Nat), vs = [x] ∧ MulAt K H x l r es ∧ MulG l r es ∧ es.length ≤ 9 ∧ IsMax (degL l r es) m ∧ ∀ (t : Addr) (cs : List Nat) H', Same H H' → H' t = some (.tup (numsN cs)) → TellsCol (lineP es) es.length m cs → Q (.ref t) H'
/-- the colours below m -/
def belowS (m : Int) : Sh → Bool
  | .int i => decide (i < m)
  | _ => false
def allBelow (m : Int) : Sh → Bool
  | .tup ss => ss.all (belowS m)
  | _ => false
theorem prop_same {es : List E2} {s : Sh} {m : Int} : propB m es s = (isCol es.length (lineP es) s && allBelow m s) := by
  cases s with
  | tup ss =>
    show (decide (ss.length = es.length) && (ss.all (wholeR 0 (m - 1)) && (List.range ss.length).all fun one => ((List.range one).filter (hitB es ss one)).isEmpty)) =
      ((decide (ss.length = es.length) && (ss.all (wholeF 0) && (lineP es).all fun p => !(intS (ss.getD p.1 (.int 0)) == intS (ss.getD p.2 (.int 0))))) && ss.all (belowS m))
    by_cases len : ss.length = es.length
    · rw [decide_eq_true len, Bool.true_and, Bool.true_and]
      have split : ss.all (wholeR 0 (m - 1)) = (ss.all (wholeF 0) && ss.all (belowS m)) := by
        rw [Bool.eq_iff_iff, Bool.and_eq_true, List.all_eq_true, List.all_eq_true, List.all_eq_true]
        have one : ∀ z, wholeR 0 (m - 1) z = true ↔ wholeF 0 z = true ∧ belowS m z = true := fun z => by
          cases z with
          | int k =>
            show (decide (k ≥ 0) && decide (k ≤ m - 1)) = true ↔ decide (k ≥ 0) = true ∧ decide (k < m) = true
            rw [Bool.and_eq_true, decide_eq_true_eq, decide_eq_true_eq, decide_eq_true_eq]
            omega
          | _ => simp [wholeR, wholeF, belowS]
        exact ⟨fun h => ⟨fun z hz => ((one z).mp (h z hz)).1, fun z hz => ((one z).mp (h z hz)).2⟩, fun h z hz => (one z).mpr ⟨h.1 z hz, h.2 z hz⟩⟩
      have rest : ((List.range ss.length).all fun one => ((List.range one).filter (hitB es ss one)).isEmpty) = (lineP es).all fun p => !(intS (ss.getD p.1 (.int 0)) == intS (ss.getD p.2 (.int 0))) := by
        rw [Bool.eq_iff_iff, List.all_eq_true, List.all_eq_true, len]
        have meet_comm : ∀ a b, meetB es a b = meetB es b a := fun a b => by
          unfold meetB
          rw [Bool.eq_iff_iff, Bool.or_eq_true, Bool.or_eq_true, beq_iff_eq, beq_iff_eq, beq_iff_eq, beq_iff_eq]
          exact ⟨fun h => h.imp Eq.symm Eq.symm, fun h => h.imp Eq.symm Eq.symm⟩
        constructor
        · rintro h ⟨a, b⟩ hp
          obtain ⟨ab, bn, me⟩ := mem_lineP.mp hp
          have z := h b (List.mem_range.mpr bn)
          cases e : (intS (ss.getD a (.int 0)) == intS (ss.getD b (.int 0))) with
          | false => rfl
          | true =>
            exfalso
            have hit : hitB es ss b a = true := by
              unfold hitB nthZ
              rw [beq_iff_eq.mp e, meet_comm, me, decide_eq_true (by omega : b ≠ a)]
              simp
            have mm : a ∈ (List.range b).filter (hitB es ss b) := List.mem_filter.mpr ⟨List.mem_range.mpr ab, hit⟩
            rw [List.isEmpty_iff] at z
            rw [z] at mm
            cases mm
        · intro h b hb
          rw [List.isEmpty_iff, List.filter_eq_nil_iff]
          intro a ha hit
          unfold hitB nthZ at hit
          rw [Bool.and_eq_true, Bool.and_eq_true, beq_iff_eq] at hit
          have z := h (a, b) (mem_lineP.mpr ⟨List.mem_range.mp ha, List.mem_range.mp hb, by rw [meet_comm]; exact hit.2.2⟩)
          dsimp only at z
          rw [hit.1] at z
          simp at z
      rw [split, rest]
      cases ss.all (wholeF 0) <;> cases ss.all (belowS m) <;> simp
    · rw [decide_eq_false len]
      rfl
  | _ => rfl
section
variable {P : Program} {w : World} {K : PySem.W.Frag} {mg : Str → Option Value} {base : Heap} {f fD fI fL fC : Addr} {fd dD dI dL dC : FuncData}
theorem ok_iec (F : L2.Fun K "is_edge_colouring" "is_edge_colouring" sIec f fd)
    (GD : FnOk P w K mg base CX0 6 fD dD ["multigraph"] (spPDeg K)) (bD : L2.Binds K dD ["multigraph"] []) (kD : PySem.W.keepIn K (.ref fD) = true) (mD : mg "greatest_degree" = some (.ref fD))
    (GI : FnOk P w K mg base CX0 6 fI dI ["graph", "value"] (spIsCol K)) (bI : L2.Binds K dI ["graph", "value"] []) (kI : PySem.W.keepIn K (.ref fI) = true) (mI : mg "is_colouring" = some (.ref fI))
    (GL : FnOk P w K mg base CX0 6 fL dL ["multigraph"] (spPLine K)) (bL : L2.Binds K dL ["multigraph"] []) (kL : PySem.W.keepIn K (.ref fL) = true) (mL : mg "line_graph" = some (.ref fL)) (ma : mg "all" = none) : FnOk P w K mg base CX0 7 f fd ["multigraph", "value"] (spIec K) := by
  refine F.ok scIec (fun vs H Q E h => ?_) (fun cdv A outer s0 H vs Q E hr h => ?_)
  · obtain ⟨x, v, l, r, es, s, m, rfl, _⟩ := h
    rfl
  obtain ⟨x, v, l, r, es, s, m, rfl, hx, g, e9, hv, hm, q⟩ := h
  refine ⟨_, pss_cons (ps_set (i := 2) scIec.nd rfl (.inr rfl) (pe_call GD hr (by rfl) mD kD bD .nil pass0 (pa_cons (pv 0) pa_nil)))
    (pss_one (ps_ret (pe_and (pe_call GI hr (by rfl) mI kI bI .nil pass0 (pa_cons (pe_call GL hr (by rfl) mL kL bL .nil pass0 (pa_cons (pv 0) pa_nil)) (pa_cons (pv 1) pa_nil))) (pe_one (pe_callB (cr_all rfl) (by rfl) ma (by decide +kernel) (pa_cons (pe_lc (own := [("colour", 3)]) (g := gName 3) (tt := tYes) rfl scIec.nd (pi_tup (pv 1))
        (blkOk_by (N := ["multigraph", "value", "most", "colour"]) (sc := defScope sIec) (by decide +kernel)) (fun _ _ _ _ _ => pg_name (i := 3) scIec.nd rfl (Or.inl rfl)) (fun _ _ _ _ _ => pts_nil)
        (fun _ _ _ _ _ => pe_cmpR op_lt (pv 3) (pv 2) (nomark _))) pa_nil)))))), ?_⟩
  rw [prop_same] at q
  refine ⟨_, rfl, x, l, r, es, rfl, hx, g, e9, fun m' H1 s1 hm' => ?_⟩
  obtain rfl := hm'.uniq hm
  refine ⟨_, rfl, x, l, r, es, rfl, hx.same s1, g, e9, fun y H2 s2 hy => ?_⟩
  have s02 := s1.trans s2
  refine ⟨_, rfl, y, es.length, lineP es, v, s, rfl, hy, line_good e9, hv.same s02, fun H3 s3 => ⟨_, rfl, iteB (fun c => ?_) (fun c => ?_)⟩⟩
  rotate_left 1
  · have z := q H3 (s02.trans s3)
    rw [c] at z
    exact z
  rw [c, Bool.true_and] at q
  obtain ⟨ss, rfl⟩ : ∃ ss, s = .tup ss := by
    cases s with
    | tup ss => exact ⟨ss, rfl⟩
    | _ => cases c
  have c' : (decide (ss.length = es.length) && (ss.all (wholeF 0) && (lineP es).all fun p => !(intS (ss.getD p.1 (.int 0)) == intS (ss.getD p.2 (.int 0))))) = true := c
  rw [Bool.and_eq_true, decide_eq_true_eq, Bool.and_eq_true] at c'
  have s03 := s02.trans s3
  have hv3 := hv.same s03
  cases hv3 with
  | @tup t xs _ ht rr =>
  have lx := rr.len
  have q' : ∀ H', Same H H' → Q (.bl (ss.all (belowS (m' : Int)))) H' := q
  refine ⟨_, rfl, t, rfl, ⟨_, ht⟩, fun B nB => lo_it (walk_tup (xs := xs)) (fun i H4 => Same H3 H4 ∧ H4 B = some (.lst (((ss.take i).map (belowS (m' : Int))).map V.bl))) ⟨same_new nB _, upd_same⟩ (fun i H4 _ ⟨s4, _⟩ => Same.tup s4 ht) ?_ ?_⟩
  · rintro i z _ H4 li ⟨s4, hB⟩ ⟨rfl, hz⟩
    obtain ⟨u, hu, su⟩ := (rr.same s4).get hz
    have wu := List.all_eq_true.mp c'.2.1 u (List.mem_of_getElem? hu)
    obtain ⟨k, rfl⟩ : ∃ k, u = .int k := by
      cases u with
      | int k => exact ⟨k, rfl⟩
      | _ => cases wu
    cases su
    refine ⟨rfl, ?_⟩
    refine ⟨_, rfl, _, rfl, _, _, rfl, rfl, _, hB, small1000 (by rw [List.length_map, List.length_map, List.length_take]; omega), same_put s4 nB, ?_⟩
    rw [upd_same, take_succ hu, List.map_append, List.map_append]
    rfl
  · rintro H4 ⟨s4, hB⟩
    rw [lx, List.take_length] at hB
    refine ⟨B, _, rfl, SqL.of hB, ?_⟩
    have e : (ss.map (belowS (m' : Int))).all id = ss.all (belowS (m' : Int)) := by rw [List.all_map]; rfl
    rw [e]
    exact q' H4 (s03.trans s4)
theorem ok_eco (F : L2.Fun K "edge_colouring" "edge_colouring" sEco f fd)
    (GC : FnOk P w K mg base CX0 6 fC dC ["graph"] (spColg K)) (bC : L2.Binds K dC ["graph"] []) (kC : PySem.W.keepIn K (.ref fC) = true) (mC : mg "colouring" = some (.ref fC))
    (GL : FnOk P w K mg base CX0 6 fL dL ["multigraph"] (spPLine K)) (bL : L2.Binds K dL ["multigraph"] []) (kL : PySem.W.keepIn K (.ref fL) = true) (mL : mg "line_graph" = some (.ref fL)) : FnOk P w K mg base CX0 7 f fd ["multigraph"] (spEco K) := by
  refine F.ok scEco (fun vs H Q E h => ?_) (fun cdv A outer s0 H vs Q E hr h => ?_)
  · obtain ⟨x, l, r, es, m, rfl, _⟩ := h
    rfl
  obtain ⟨x, l, r, es, m, rfl, hx, g, e9, hm, q⟩ := h
  refine ⟨_, pss_one (ps_ret (pe_call GC hr (by rfl) mC kC bC .nil pass0 (pa_cons (pe_call GL hr (by rfl) mL kL bL .nil pass0 (pa_cons (pv 0) pa_nil)) pa_nil))), ?_⟩
  have gl := line_good e9
  refine ⟨_, rfl, x, l, r, es, rfl, hx, g, e9, fun y H1 s1 hy => ⟨y, es.length, lineP es, rfl, hy, gl, fun t cs v H2 s2 ht hk tc => ?_⟩⟩
  obtain rfl := perf_num gl (line_perf e9) (line_best g e9 hm) hk
  exact q t cs H2 (s1.trans s2) ht tc
end
end My

set_option maxHeartbeats 4000000
/-! f(name=e) of a def that may raise; isinstance(e, C) in an except suite, e with an own dict. -/
namespace My
open PySem PySem.Spec PyProof.Rows L2
section
variable {X : Cx} {CX : CXT} {k : Nat} {f : Addr} {fd : FuncData} {sp : Sp} {E : L2.St → XK} {x fld : Str} {p pos : Pos} {tk : TA}
theorem pe_kw1 (F : FnOk X.prog X.w X.K X.mg X.base CX k f fd [fld] sp) (hr : Room k X.A) (hg : Gl X x) (hm : X.mg x = some (.ref f)) (hk : PySem.W.keepIn X.K (.ref f) = true) (hb : ∀ (s : Shared) (u : Value), BindsTo s fd ⟨[], [(fld, u)]⟩ ([fld].zip [u])) (hx : ∀ σ, PassesAt CX X σ (E σ))
    {kws : List Keyword} (hkw : PK X kws tk) (hall : (backToKw pos (keywordEach kws X.env)).all (·.1.isSome) = true := by rfl) (hks : (backToKw pos (keywordEach kws X.env)).filterMap (·.1) = [fld] := by rfl)
    (hdb : (x == ("__debug__" : Str)) = false := by decide) (hpl : ((backTo pos (starEach [] X.env)).any (·.1) || (backToKw pos (keywordEach kws X.env)).any (·.1.isNone)) = false := by rfl) :
    PE X (.Call (.Name x p) [] kws pos) (tCallS sp E tk) := by
  refine ⟨?_⟩
  intro pins s σ H Q I h
  refine wpAny_Call_Name_kw (ld_glob I hg hm ?_ hdb)
  refine PySem.W.callWith_KW0 (h₀ := X.base) I.ok.mod.kin hk hall (thn (hkw.run pos pins s σ H _ I h) ?_) hpl
  rintro us s1 ⟨vs, H1, I1, r, q1⟩
  refine ⟨I1.kIn, ?_⟩
  rw [hks]
  have hl : us.length = 1 := by rw [← r.length]; exact F.len _ _ _ _ q1
  obtain ⟨u, rfl⟩ : ∃ u, us = [u] := by
    match us, hl with
    | [u], _ => exact ⟨u, rfl⟩
  refine wpAny_call (codeAny_mono (F.run X.A X.stack s1 H1 ⟨[], [(fld, u)]⟩ [u] vs Q (E σ) hr I1.env0 (hb _ _) r q1) fun r s' hq => ?_)
  cases r with
  | error e => exact hx σ pins H1 s1 e s' I1 hq
  | ok fl =>
    cases fl with
    | ret u => exact I1.after hq
    | next => exact False.elim hq
    | brk => exact False.elim hq
    | cont => exact False.elim hq
theorem passAt0 {X : Cx} {σ : L2.St} {E : XK} : PassesAt CX0 X σ E := fun _ _ _ _ _ _ h => h.elim
end
def rIsF (K : PySem.W.Frag) (a : Addr) (cls : Value) (d : Option Addr) : List V → Hp → VK → Prop := fun xs H Q => ∃ (C dd : Addr) (c : V) (u : Value) (b : Bool) (fs : List (Str × V)), xs = [.ref a, c] ∧ ClsV c u ∧ cls = .ref C ∧ d = some dd ∧ H dd = some (.xd fs) ∧ XIs K C ∧ PySem.W.kitOne K (.ref C) u = some b ∧ Q (.bl b) H
theorem call_isF {X : Cx} {a : Addr} {oe : Obj} {cls : Value} {d : Option Addr} {pn : List (Addr × Obj)} (hz : Zc cls d oe) (hf : ∃ vs, oe.data = .fields vs) : CallR (X.suite a ((a, oe) :: pn)) (.builtin "isinstance") (rIsF X.K a cls d) := by
  rintro pins s σ H xs us Q I r ⟨C, dd, c, u, b, fs, rfl, cv, rfl, rfl, ea, T, kit, q⟩
  obtain ⟨u1, u2, rfl, r1, r2⟩ := vals2 r
  obtain rfl : u2 = u := cv.eq r2
  obtain rfl : u1 = Value.ref a := r1
  obtain ⟨ha, _⟩ := I.pin (a, oe) (List.mem_append_left _ List.mem_cons_self)
  obtain ⟨vs, hd⟩ := hf
  have hx : ObjOk X.prog X.w H s.heap dd (.xd fs) := I.hok dd _ ea
  obtain ⟨mA, hns, hr⟩ := hx
  obtain ⟨od, ho, hl⟩ := lookIn_ns hns
  have J : PySem.W.InstAt s.heap a oe C (some od) := by
    refine ⟨ha, hz.1, ?_, ?_⟩
    · unfold PySem.W.notCls
      rw [hd]
    · rw [hz.2]
      exact ho
  exact PySem.W.kia_one (PySem.W.kitx_exc T.cl T.xf.ga T.xf.gg T.xf.exC T.ha T.hn T.ht T.hm) I.kIn J kit (fun z => nomatch z) fun tk => ⟨.bl b, H, I.tok tk, rfl, q⟩
end My

set_option maxHeartbeats 4000000
namespace My
open PySem PySem.Spec PyProof.Rows L2
/-- f(a=.., b=..), the other way round than f's parameters -/
def tKw2 (sp : Sp) (E : L2.St → XK) (t : TA) : TE := fun σ H Q => t σ H fun vs H1 => ∃ a b, vs = [a, b] ∧ sp [b, a] H1 Q (E σ)
section
variable {X : Cx} {CX : CXT} {k : Nat} {f : Addr} {fd : FuncData} {sp : Sp} {E : L2.St → XK} {x f1 f2 : Str} {p pos : Pos} {tk : TA}
theorem pe_kw2 (F : FnOk X.prog X.w X.K X.mg X.base CX k f fd [f1, f2] sp) (hr : Room k X.A) (hg : Gl X x) (hm : X.mg x = some (.ref f)) (hk : PySem.W.keepIn X.K (.ref f) = true) (hb : ∀ (s : Shared) (u v : Value), BindsTo s fd ⟨[], [(f2, u), (f1, v)]⟩ ([f1, f2].zip [v, u])) (hx : ∀ σ, PassesAt CX X σ (E σ))
    {kws : List Keyword} (hkw : PK X kws tk) (hall : (backToKw pos (keywordEach kws X.env)).all (·.1.isSome) = true := by rfl) (hks : (backToKw pos (keywordEach kws X.env)).filterMap (·.1) = [f2, f1] := by rfl)
    (hdb : (x == ("__debug__" : Str)) = false := by decide) (hpl : ((backTo pos (starEach [] X.env)).any (·.1) || (backToKw pos (keywordEach kws X.env)).any (·.1.isNone)) = false := by rfl) :
    PE X (.Call (.Name x p) [] kws pos) (tKw2 sp E tk) := by
  refine ⟨?_⟩
  intro pins s σ H Q I h
  refine wpAny_Call_Name_kw (ld_glob I hg hm ?_ hdb)
  refine PySem.W.callWith_KW0 (h₀ := X.base) I.ok.mod.kin hk hall (thn (hkw.run pos pins s σ H _ I h) ?_) hpl
  rintro us s1 ⟨vs, H1, I1, r, a, b, rfl, q1⟩
  refine ⟨I1.kIn, ?_⟩
  rw [hks]
  obtain ⟨u, v, rfl, ru, rv⟩ := vals2 r
  refine wpAny_call (codeAny_mono (F.run X.A X.stack s1 H1 ⟨[], [(f2, u), (f1, v)]⟩ [v, u] [b, a] Q (E σ) hr I1.env0 (hb _ _ _) (.cons rv (.cons ru .nil)) q1) fun r s' hq => ?_)
  cases r with
  | error e => exact hx σ pins H1 s1 e s' I1 hq
  | ok fl =>
    cases fl with
    | ret u => exact I1.after hq
    | next => exact False.elim hq
    | brk => exact False.elim hq
    | cont => exact False.elim hq
end
end My

set_option maxHeartbeats 16000000
namespace My
open PySem PySem.Spec PyProof.Rows L2
abbrev sRight : Stmt := top 60
theorem scRight : FnScope ["pot", "multi", "most", "line", "told", "drawn", "edge", "other", "things", "thing", "due", "each"] ["pot"] (defScope sRight) := ⟨rfl, rfl, rfl, by decide +kernel, rfl, by decide +kernel, by decide +kernel⟩
def spRight : Sp := fun vs H Q _ => ∃ p : Addr, vs = [.ref p] ∧ Wl H p ∧ ∀ H', But p H H' → Q (.bl true) H'
def twoD (a b : Bool) : PyData := .list [.bool a, .bool b]
theorem two_fine : ∀ a b : Bool, Fine (twoD a b) ∧ (twoD a b).hasDict = false := by decide +kernel
theorem two_dd {K : PySem.W.Frag} {H : Hp} {F : Addr} {a b : Bool} (hF : H F = some (.lst [.bl a, .bl b])) : Dd K H (.ref F) (twoD a b) :=
  .dat (.lst (SqL.of hF) (.cons (.bl _) (.cons (.bl _) .nil))) (two_fine a b).2
def lastD (v : Nat) : PyData := .list [.int (v : Int), .int (v : Int), .bool true]
theorem last_fine : ∀ v : Nat, v ≤ 9 → Fine (lastD v) ∧ (lastD v).hasDict = false := by decide +kernel
theorem pairs_nodict : ∀ es : List E2, PyData.hasDictAll (es.map pairD) = false
  | [] => by rw [List.map_nil]; simp [PyData.hasDictAll]
  | p :: r => by rw [List.map_cons]; simp [PyData.hasDictAll, pairD, PyData.hasDict, pairs_nodict r]
theorem gr_fine {n : Nat} {es : List E2} (g : Good n es) : Fine (graphD n es) ∧ (graphD n es).hasDict = false := by
  obtain ⟨h1, h2, h3⟩ := graph_fine g
  refine ⟨⟨h2, by omega, Nat.le_trans h1 (small (by omega))⟩, ?_⟩
  simp [graphD, PyData.hasDict, PyData.hasDictAll, pairs_nodict es]
theorem ints_va {K : PySem.W.Frag} {H : Hp} {t : Addr} {zs : List Int} (h : SqT K H t (zs.map V.int)) (l : zs.length ≤ 400) : Va K H (.ref t) :=
  .tup h (by rw [List.length_map]; omega) fun x hx => by
    obtain ⟨z, _, rfl⟩ := List.mem_map.mp hx
    exact .int _
theorem nums_ints (cs : List Nat) : numsN cs = (cs.map fun k => ((k : Nat) : Int)).map V.int := by unfold numsN; rw [List.map_map]; rfl
theorem tells_prop {es : List E2} {m : Nat} {cs : List Nat} (tc : TellsCol (lineP es) es.length m cs) : propB (m : Int) es (.tup (cs.map fun k => Sh.int ((k : Nat) : Int))) = true := by
  have len := tc.len
  have gt : ∀ k, k < es.length → (cs.map fun k => Sh.int ((k : Nat) : Int)).getD k (.int 0) = .int ((cs.getD k 0 : Nat) : Int) := fun k hk => by
    rw [List.getD_eq_getElem?_getD, List.getElem?_map, List.getElem?_eq_getElem (by omega), List.getD_eq_getElem?_getD, List.getElem?_eq_getElem (by omega)]
    rfl
  have mem : ∀ z ∈ cs.map (fun k => Sh.int ((k : Nat) : Int)), ∃ k, k < m ∧ z = .int ((k : Nat) : Int) := fun z hz => by
    obtain ⟨k, hk, rfl⟩ := List.mem_map.mp hz
    obtain ⟨i, hi, e⟩ := List.getElem_of_mem hk
    have y := tc.few i (by omega)
    rw [List.getD_eq_getElem?_getD, List.getElem?_eq_getElem hi] at y
    have y : cs[i] < m := y
    exact ⟨k, by omega, rfl⟩
  rw [prop_same]
  show ((decide ((cs.map fun k => Sh.int ((k : Nat) : Int)).length = es.length) && ((cs.map fun k => Sh.int ((k : Nat) : Int)).all (wholeF 0) && (lineP es).all fun p => !(intS ((cs.map fun k => Sh.int ((k : Nat) : Int)).getD p.1 (.int 0)) == intS ((cs.map fun k => Sh.int ((k : Nat) : Int)).getD p.2 (.int 0))))) && (cs.map fun k => Sh.int ((k : Nat) : Int)).all (belowS (m : Int))) = true
  rw [Bool.and_eq_true, Bool.and_eq_true, Bool.and_eq_true, decide_eq_true_eq, List.all_eq_true, List.all_eq_true, List.all_eq_true]
  refine ⟨⟨by rw [List.length_map]; exact len, fun z hz => ?_, ?_⟩, fun z hz => ?_⟩
  · obtain ⟨k, _, rfl⟩ := mem z hz
    show decide ((k : Int) ≥ 0) = true
    exact decide_eq_true (by omega)
  · rintro ⟨a, b⟩ hp
    obtain ⟨ab, bn, me⟩ := mem_lineP.mp hp
    have y := tc.ok a b (by omega) bn (by
      unfold adjB
      rw [Nat.min_eq_left (by omega), Nat.max_eq_right (by omega)]
      exact decide_eq_true hp)
    show (!(intS ((cs.map fun k => Sh.int ((k : Nat) : Int)).getD a (.int 0)) == intS ((cs.map fun k => Sh.int ((k : Nat) : Int)).getD b (.int 0)))) = true
    rw [gt a (by omega), gt b bn]
    show (!(((cs.getD a 0 : Nat) : Int) == ((cs.getD b 0 : Nat) : Int))) = true
    rw [Bool.not_eq_true', beq_eq_false_iff_ne]
    intro z
    exact y (by omega)
  · obtain ⟨k, hk, rfl⟩ := mem z hz
    show decide ((k : Int) < (m : Int)) = true
    exact decide_eq_true (by omega)
section
variable {P : Program} {w : World} {K : PySem.W.Frag} {mg : Str → Option Value} {base : Heap} {f fD fMu fDg fLn fE fP fB fO fI fR fLg fCh fCl fIp : Addr} {fd dD dMu dDg dLn dE dP dB dO dI dR dLg dCh dCl dIp : FuncData}
theorem ok_right (F : L2.Fun K "_law_right" "_law_right" sRight f fd)
    (GD : FnOk P w K mg base CX0 1 fD dD ["pot", "few"] spDraw) (bD : L2.Binds K dD ["pot", "few"] []) (kD : PySem.W.keepIn K (.ref fD) = true) (mD : mg "_law_draw" = some (.ref fD))
    (GMu : FnOk P w K mg base CX0 3 fMu dMu ["pot", "most"] spMulti) (bMu : L2.Binds K dMu ["pot", "most"] []) (kMu : PySem.W.keepIn K (.ref fMu) = true) (mMu : mg "_law_multi" = some (.ref fMu))
    (GDg : FnOk P w K mg base CX0 2 fDg dDg ["multi"] (spDeg K)) (bDg : L2.Binds K dDg ["multi"] []) (kDg : PySem.W.keepIn K (.ref fDg) = true) (mDg : mg "_law_degree" = some (.ref fDg))
    (GLn : FnOk P w K mg base CX0 2 fLn dLn ["multi"] (spLine K)) (bLn : L2.Binds K dLn ["multi"] []) (kLn : PySem.W.keepIn K (.ref fLn) = true) (mLn : mg "_law_line" = some (.ref fLn))
    (GE : FnOk P w K mg base CX0 7 fE dE ["multigraph"] (spEco K)) (bE : L2.Binds K dE ["multigraph"] []) (bEk : ∀ (s : Shared) (u : Value), BindsTo s dE ⟨[], [(("multigraph" : Str), u)]⟩ ([("multigraph" : Str)].zip [u])) (kE : PySem.W.keepIn K (.ref fE) = true) (mE : mg "edge_colouring" = some (.ref fE))
    (GP : FnOk P w K mg base CX0 2 fP dP ["multi", "value", "most"] (spLProp K)) (bP : L2.Binds K dP ["multi", "value", "most"] []) (kP : PySem.W.keepIn K (.ref fP) = true) (mP : mg "_law_is_proper" = some (.ref fP))
    (GB : FnOk P w K mg base CX0 7 fB dB ["pot", "value", "deep"] (spBent K 3)) (bB : L2.Binds K dB ["pot", "value", "deep"] []) (kB : PySem.W.keepIn K (.ref fB) = true) (mB : mg "_law_bent" = some (.ref fB))
    (GO : FnOk P w K mg base CX0 3 fO dO ["pot"] (spOdd K)) (bO : L2.Binds K dO ["pot"] []) (kO : PySem.W.keepIn K (.ref fO) = true) (mO : mg "_law_odd" = some (.ref fO))
    (GI : FnOk P w K mg base CX0 7 fI dI ["multigraph", "value"] (spIec K)) (bI : L2.Binds K dI ["multigraph", "value"] []) (bIk : ∀ (s : Shared) (u v : Value), BindsTo s dI ⟨[], [(("value" : Str), u), (("multigraph" : Str), v)]⟩ ([("multigraph" : Str), ("value" : Str)].zip [v, u])) (kI : PySem.W.keepIn K (.ref fI) = true) (mI : mg "is_edge_colouring" = some (.ref fI))
    (GR : FnOk P w K mg base CX0 3 fR dR ["graph"] (spRod K)) (bR : L2.Binds K dR ["graph"] []) (kR : PySem.W.keepIn K (.ref fR) = true) (mR : mg "_law_odd_rounds" = some (.ref fR))
    (GLg : FnOk P w K mg base CX0 6 fLg dLg ["multigraph"] (spPLine K)) (bLg : L2.Binds K dLg ["multigraph"] []) (kLg : PySem.W.keepIn K (.ref fLg) = true) (mLg : mg "line_graph" = some (.ref fLg))
    (GCh : FnOk P w K mg base CX0 6 fCh dCh ["graph"] (spChNum K)) (bCh : L2.Binds K dCh ["graph"] []) (kCh : PySem.W.keepIn K (.ref fCh) = true) (mCh : mg "chromatic_number" = some (.ref fCh))
    (GCl : FnOk P w K mg base CX0 6 fCl dCl ["graph"] (spNum K true)) (bCl : L2.Binds K dCl ["graph"] []) (kCl : PySem.W.keepIn K (.ref fCl) = true) (mCl : mg "clique_number" = some (.ref fCl))
    (GIp : FnOk P w K mg base CX0 7 fIp dIp ["graph"] (spIsPerf K)) (bIp : L2.Binds K dIp ["graph"] []) (kIp : PySem.W.keepIn K (.ref fIp) = true) (mIp : mg "is_perfect" = some (.ref fIp))
    (mt : mg "tuple" = none) (mre : mg "repr" = none) : FnG P w K mg base CX0 8 f fd ["pot"] spRight := by
  refine okG F scRight (fun vs H Q E h => ?_) (fun cdv A outer s0 H vs Q E gd hr h => ?_)
  · obtain ⟨p, rfl, _⟩ := h
    rfl
  obtain ⟨p, rfl, hW, q⟩ := h
  have gd' : (A.deeper (envOfC "_law_right" (defScope sRight) s0.heap.objs.size f cdv)).guards = some [] := gd
  have h1 := hr.mono (show 1 ≤ 7 by decide)
  have h2 := hr.mono (show 2 ≤ 7 by decide)
  have h3 := hr.mono (show 3 ≤ 7 by decide)
  have h6 := hr.mono (show 6 ≤ 7 by decide)
  refine ⟨_, pss_cons (ps_set (i := 1) scRight.nd rfl (.inl rfl) (pe_call GMu h3 (by rfl) mMu kMu bMu .nil pass0 (pa_cons (pv 0) (pa_cons (pe_ifExp (pt_cmpR op_eq (pe_call GD h1 (by rfl) mD kD bD .nil pass0 (pa_cons (pv 0) (pa_cons pe_int pa_nil))) pe_int (nomark _)) pe_int pe_int) pa_nil))))
    (pss_cons (ps_asg (pe_tup (pa_cons (pe_call GDg h2 (by rfl) mDg kDg bDg .nil pass0 (pa_cons (pv 1) pa_nil)) (pa_cons (pe_call GLn h2 (by rfl) mLn kLn bLn .nil pass0 (pa_cons (pv 1) pa_nil)) pa_nil))) (pg_tup (by rfl) (pgs_cons (pg_name (i := 2) scRight.nd rfl (.inr rfl)) (pgs_cons (pg_name (i := 3) scRight.nd rfl (.inl rfl)) pgs_nil))))
    (pss_cons (ps_set (i := 4) scRight.nd rfl (.inl rfl) (pe_call GE hr (by rfl) mE kE bE .nil pass0 (pa_cons (pv 1) pa_nil)))
    (pss_cons (ps_if (PW.pt (pw_or (pt_not (pt_val (pe_call GP h2 (by rfl) mP kP bP .nil pass0 (pa_cons (pv 1) (pa_cons (pv 4) (pa_cons (pv 2) pa_nil)))))) (pw_or1 (pt_not (pt_val (pe_call GP h2 (by rfl) mP kP bP .nil pass0 (pa_cons (pv 1) (pa_cons (pe_kw1 (E := fun _ => E0) GE hr (by rfl) mE kE bEk (fun _ => passAt0) (pk_cons (pv 1) pk_nil)) (pa_cons (pv 2) pa_nil))))))))) (pss_one (ps_ret pe_bl)) pss_nil)
    (pss_cons (ps_set (i := 5) scRight.nd rfl (.inl rfl) (pe_lst pa_nil))
    (pss_cons (ps_for PassesOwn.never rfl (pi_tup (pe_ix (r := rIxT K) ix_tup (pv 1) pe_int (fun _ _ => rfl))) (pg_name (i := 6) scRight.nd rfl (.inl rfl))
      (pss_one (ps_expr (pe_bm PySem.F.plainAttrs_list PySem.F.slot_list_append PySem.F.type_list_append mt_append (pv 5) (pa_cons (pe_call GD h1 (by rfl) mD kD bD .nil pass0 (pa_cons (pv 0) (pa_cons (pe_op op_add (pv 2) pe_int) pa_nil))) pa_nil)))))
    (pss_cons (ps_set (i := 7) scRight.nd rfl (.inl rfl) (pe_callTy call_tuple_of (by rfl) mt (by decide +kernel) (pa_cons (pe_lc (own := [("each", 11)]) (g := gName 11) (tt := tYes) rfl scRight.nd (pi_tup (pv 4))
        (blkOk_by (N := ["pot", "multi", "most", "line", "told", "drawn", "edge", "other", "things", "thing", "due", "each"]) (sc := defScope sRight) (by decide +kernel)) (fun _ _ _ _ _ => pg_name (i := 11) scRight.nd rfl (Or.inl rfl)) (fun _ _ _ _ _ => pts_nil)
        (fun _ _ _ _ _ => pe_op op_sub (pe_op op_sub (pv 2) pe_int) (pv 11))) pa_nil)))
    (pss_cons (ps_set (i := 8) scRight.nd rfl (.inl rfl) (pe_lst (pa_cons (pv 4) (pa_cons (pv 7) (pa_cons (pe_callTy call_tuple_of (by rfl) mt (by decide +kernel) (pa_cons (pv 5) pa_nil))
        (pa_cons (pe_call GB hr (by rfl) mB kB bB .nil pass0 (pa_cons (pv 0) (pa_cons (pv 4) (pa_cons pe_int pa_nil)))) (pa_cons (pe_call GB hr (by rfl) mB kB bB .nil pass0 (pa_cons (pv 0) (pa_cons (pv 7) (pa_cons pe_int pa_nil)))) (pa_cons (pe_revK (K := K) (pv 4)) (pa_cons (pe_call GO h3 (by rfl) mO kO bO .nil pass0 (pa_cons (pv 0) pa_nil)) pa_nil)))))))))
    (pss_cons (ps_for PassesOwn.never rfl (pi_list (pv 8)) (pg_name (i := 9) scRight.nd rfl (.inl rfl))
      (pss_cons (ps_set (i := 10) scRight.nd rfl (.inl rfl) (pe_call GP h2 (by rfl) mP kP bP .nil pass0 (pa_cons (pv 1) (pa_cons (pv 9) (pa_cons (pv 2) pa_nil)))))
      (pss_one (ps_if (pt_cmpR op_ne (pe_callB (call_repr gd' hr.units) (by rfl) mre (by decide +kernel) (pa_cons (pe_lst (pa_cons (pe_call GI hr (by rfl) mI kI bI .nil pass0 (pa_cons (pv 1) (pa_cons (pv 9) pa_nil))) (pa_cons (pe_kw2 (E := fun _ => E0) GI hr (by rfl) mI kI bIk (fun _ => passAt0) (pk_cons (pv 9) (pk_cons (pv 1) pk_nil))) pa_nil))) pa_nil)) (pe_callB (call_repr gd' hr.units) (by rfl) mre (by decide +kernel) (pa_cons (pe_lst (pa_cons (pv 10) (pa_cons (pv 10) pa_nil))) pa_nil)) (nomark _)) (pss_one (ps_ret pe_bl)) pss_nil))))
    (pss_cons (ps_if (PW.pt (pw_or (pt_cmpR (op_neD hr.units) (pe_call GR h3 (by rfl) mR kR bR .nil pass0 (pa_cons (pv 3) pa_nil)) (pe_lst pa_nil) (nomark _)) (pw_or1 (pt_cmpR op_ne (pe_callB (call_repr gd' hr.units) (by rfl) mre (by decide +kernel) (pa_cons (pe_call GLg h6 (by rfl) mLg kLg bLg .nil pass0 (pa_cons (pv 1) pa_nil)) pa_nil)) (pe_callB (call_repr gd' hr.units) (by rfl) mre (by decide +kernel) (pa_cons (pv 3) pa_nil)) (nomark _))))) (pss_one (ps_ret pe_bl)) pss_nil)
    (pss_one (ps_ret (pe_cmpR op_eq (pe_callB (call_repr gd' hr.units) (by rfl) mre (by decide +kernel) (pa_cons (pe_lst (pa_cons (pe_call GCh h6 (by rfl) mCh kCh bCh .nil pass0 (pa_cons (pv 3) pa_nil)) (pa_cons (pe_call GCl h6 (by rfl) mCl kCl bCl .nil pass0 (pa_cons (pv 3) pa_nil)) (pa_cons (pe_call GIp hr (by rfl) mIp kIp bIp .nil pass0 (pa_cons (pv 3) pa_nil)) pa_nil)))) pa_nil)) (pe_callB (call_repr gd' hr.units) (by rfl) mre (by decide +kernel) (pa_cons (pe_lst (pa_cons (pv 2) (pa_cons (pv 2) (pa_cons pe_bl pa_nil)))) pa_nil)) (nomark _))))))))))))), ?_⟩
  have line : ∀ k, k ≤ 1000 → k ≤ sizeLine := fun k hk => small hk
  have yes : ∀ d : PyData, (!decide (V.str d.shown = V.str d.shown)) = false := fun d => by rw [decide_eq_true rfl]; rfl
  refine' joinS (i := 1) (R := fun v H' => ∃ (l r : Nat) (es : List E2), But p H H' ∧ Wl H' p ∧ MulT H' v l r es ∧ MulG l r es ∧ es.length ≤ 9) (fun go => ?_) ?_
  rotate_left 2
  · refine ⟨_, rfl, _, rfl, p, 3, rfl, hW, by decide, by decide, fun d H1 _ _ b1 w1 => ?_⟩
    refine ⟨rfl, _, rfl, iteB (fun _ => ?_) (fun _ => ?_)⟩
    · exact ⟨p, 9, rfl, w1, by decide, fun x l r es H2 b2 w2 hx g _ _ le => go x H2 ⟨l, r, es, b1.trans b2, w2, hx, g, le⟩⟩
    · exact ⟨p, 8, rfl, w1, by decide, fun x l r es H2 b2 w2 hx g _ _ le => go x H2 ⟨l, r, es, b1.trans b2, w2, hx, g, by omega⟩⟩
  rintro x H1 ⟨l, r, es, b1, w1, hx1, g, e9⟩
  have gl := line_good e9
  have hxa := hx1.at (K := K)
  refine ⟨_, rfl, x, l, r, es, rfl, hxa, g, by omega, fun m H2 s2 hm => ?_⟩
  have m9 : m ≤ 9 := Nat.le_trans (degL_few m hm.1) e9
  refine ⟨_, rfl, x, l, r, es, rfl, hxa.same s2, e9, fun y H3 s3 hy => ?_⟩
  refine ⟨line 2 (by decide), fun T0 nT0 => ?_⟩
  have sT := same_new nT0 (.tup [.int (m : Int), y])
  refine ⟨T0, _, rfl, SqT.of upd_same, rfl, _, _, rfl, _, _, rfl, rfl, ?_⟩
  have s14 := s2.trans (s3.trans sT)
  have hy4 := hy.same sT
  generalize upd H3 T0 (.tup [.int (m : Int), y]) = H4 at sT s14 hy4 ⊢
  have hx4 := hx1.same s14
  have w4 := w1.same s14
  clear hy s2 s3 sT nT0
  -- the told colouring
  refine ⟨_, rfl, x, l, r, es, m, rfl, hx4.at, g, e9, hm, fun t cs H5 s5 ht tc => ?_⟩
  have hx5 := hx4.same s5
  refine ⟨_, rfl, _, rfl, _, rfl, x, .ref t, l, r, es, _, (m : Int), rfl, hx5.at, e9, .tup (SqT.of ht) (ints_sh cs), fun H6 s6 => ?_⟩
  rw [tells_prop tc]
  refine ⟨_, rfl, iteF ?_⟩
  refine ⟨_, rfl, _, rfl, x, l, r, es, m, rfl, (hx5.same s6).at, g, e9, hm, fun t2 cs2 H7 s7 ht2 tc2 => ?_⟩
  refine ⟨_, rfl, x, .ref t2, l, r, es, _, (m : Int), rfl, ((hx5.same s6).same s7).at, e9, .tup (SqT.of ht2) (ints_sh cs2), fun H8 s8 => ?_⟩
  rw [tells_prop tc2]
  refine ⟨_, rfl, iteF ?_⟩
  have s58 := s6.trans (s7.trans s8)
  have s48 := s5.trans s58
  have hx8 := hx4.same s48
  have w8 := w4.same s48
  have ht8 := s58 _ _ ht
  have B8 : But p H H8 := b1.trans (But.of (s14.trans s48))
  have hy8 := hy4.same s48
  have lcs : cs.length ≤ 9 := by rw [tc.len]; exact e9
  have cm : ∀ c ∈ cs, c < m := fun c hc => by
    obtain ⟨i, hi, e⟩ := List.getElem_of_mem hc
    have y := tc.few i (by have := tc.len; omega)
    rw [List.getD_eq_getElem?_getD, List.getElem?_eq_getElem hi] at y
    have y : cs[i] < m := y
    omega
  clear s5 s6 s7 s8 s58 s48 ht ht2 tc2 hx5 hx4 hy4 w4 s14
  -- drawn
  obtain ⟨t0, e0, xs, rfl, ht0, he0, hp0⟩ := id hx8
  refine ⟨line 0 (by decide), fun R nR => ?_⟩
  have sR := same_new nR (.lst [])
  have Rp := w8.ne nR
  have lxs := hp0.len
  refine ⟨_, rfl, t0, _, 2, _, rfl, rfl, SqT.of (sR _ _ ht0), len_vec _ _ _, e0, rfl, ⟨_, SqT.of (sR _ _ he0)⟩, for_it (walk_tup (xs := xs)) (fun i σ H' => ∃ (zs : List Int) (s6 : Option V), σ = [some (.ref p), some (.ref t0), some (.int (m : Int)), some y, some (.ref t), some (.ref R), s6, none, none, none, none, none] ∧ But p H8 H' ∧ Wl H' p ∧ H' R = some (.lst (zs.map V.int)) ∧ zs.length = i) ⟨[], none, rfl, But.of sR, w8.same sR, upd_same, rfl⟩ (fun i σ H' _ ⟨_, _, _, b, _⟩ => SqT.of (b _ _ (wl_tup w8 he0) he0)) ?_ ?_⟩
  · rintro i z σ H9' H9 li ⟨zs, s6', rfl, b9, w9, hR, lz⟩ ⟨rfl, hz⟩
    refine ⟨_, rfl, .inl ⟨rfl, _, SqL.of hR⟩, ?_⟩
    refine ⟨_, rfl, _, rfl, _, _, rfl, rfl, p, _, rfl, w9, by omega, by omega, fun d HA d0 d1 bA wA => ?_⟩
    refine ⟨R, _, _, rfl, rfl, bA _ _ Rp hR, small1000 (by rw [List.length_map]; omega), ?_⟩
    exact ⟨zs ++ [d], _, rfl, but_put (b9.trans bA) nR, wA.put Rp, by rw [upd_same, List.map_append]; rfl, by rw [List.length_append, lz]; rfl⟩
  rintro σ H9 ⟨ds, s6', rfl, b89, w9, hR9, lds⟩
  have ht9 := b89 _ _ (wl_tup w8 ht8) ht8
  have hx9 := hx8.but b89 w8
  -- the other one
  refine ⟨_, rfl, t, rfl, ⟨_, SqT.of ht9⟩, fun D nD => lo_it (walk_tup (xs := numsN cs)) (fun i H' => Same H9 H' ∧ H' D = some (.lst (((cs.take i).map fun c => (m : Int) - 1 - ((c : Nat) : Int)).map V.int))) ⟨same_new nD _, upd_same⟩ (fun i H' _ ⟨s, _⟩ => SqT.of (s _ _ ht9)) ?_ ?_⟩
  · rintro i z _ HA li ⟨sA, hD⟩ ⟨rfl, hz⟩
    obtain ⟨c, hc, rfl⟩ := numsN_get hz
    rw [numsN_len] at li
    refine ⟨rfl, ?_⟩
    refine ⟨_, rfl, _, _, rfl, rfl, _, rfl, _, _, rfl, rfl, _, hD, small1000 (by rw [List.length_map, List.length_map, List.length_take]; omega), same_put sA nD, ?_⟩
    rw [upd_same, take_succ hc, List.map_append, List.map_append]
    rfl
  rintro HA ⟨sA, hD⟩
  rw [numsN_len, List.take_length] at hD
  refine ⟨D, _, rfl, .inl ⟨SqL.of hD, fun O nO => ?_⟩⟩
  have sO := same_new nO (.tup ((cs.map fun c => (m : Int) - 1 - ((c : Nat) : Int)).map V.int))
  have hO := upd_same (H := HA) (a := O) (o := .tup ((cs.map fun c => (m : Int) - 1 - ((c : Nat) : Int)).map V.int))
  have los : (cs.map fun c => (m : Int) - 1 - ((c : Nat) : Int)).length ≤ 9 := by rw [List.length_map]; exact lcs
  have osm : ∀ z ∈ cs.map fun c => (m : Int) - 1 - ((c : Nat) : Int), z.natAbs ≤ 1000000 := fun z hz => by
    obtain ⟨c, hc, rfl⟩ := List.mem_map.mp hz
    have := cm c hc
    omega
  generalize cs.map (fun c => (m : Int) - 1 - ((c : Nat) : Int)) = os at hO los osm sO ⊢
  generalize upd HA O (.tup (os.map V.int)) = HB at sO hO ⊢
  have s9B := sA.trans sO
  have wB := w9.same s9B
  have htB := s9B _ _ ht9
  have hRB := s9B _ _ hR9
  have bB : But p H8 HB := b89.trans (But.of s9B)
  clear hD nO nD sA sO hR9 hx9 ht9
  -- things
  refine ⟨_, rfl, _, rfl, _, rfl, R, _, rfl, .inl ⟨SqL.of hRB, fun U nU => ?_⟩⟩
  have sU := same_new nU (.tup (ds.map V.int))
  have hU := upd_same (H := HB) (a := U) (o := .tup (ds.map V.int))
  generalize upd HB U (.tup (ds.map V.int)) = HC at sU hU ⊢
  have wC := wB.same sU
  have htC := sU _ _ htB
  have hOC := sU _ _ hO
  have clT : Cl 1 (.tup (cs.map fun k => Sh.int ((k : Nat) : Int))) := .tup (by rw [List.length_map]; omega) fun z hz => by
    obtain ⟨c, hc, rfl⟩ := List.mem_map.mp hz
    have := cm c hc
    exact .int _ (by omega)
  have shI : ∀ (zs : List Int) {H' : Hp}, ShsAt K H' (zs.map V.int) (zs.map Sh.int) := fun zs => by
    induction zs with
    | nil => exact .nil
    | cons z zs ih => exact .cons (.int _) ih
  have clO : Cl 1 (.tup (os.map Sh.int)) := .tup (by rw [List.length_map]; omega) fun z hz => by
    obtain ⟨c, hc, rfl⟩ := List.mem_map.mp hz
    exact .int _ (osm c hc)
  refine ⟨_, rfl, _, rfl, p, .ref t, _, 1, 1, rfl, wC, .tup (SqT.of htC) (ints_sh cs), clT, by decide, by decide, fun v1 HD bD' wD hv1 => ?_⟩
  have htD := bD' _ _ (wl_tup wC htC) htC
  have hOD := bD' _ _ (wl_tup wC hOC) hOC
  have hUD := bD' _ _ (wl_tup wC hU) hU
  refine ⟨_, rfl, _, rfl, p, .ref O, _, 2, 1, rfl, wD, .tup (SqT.of hOD) (shI os), clO, by decide, by decide, fun v2 HE bE' wE hv2 => ?_⟩
  have htE := bE' _ _ (wl_tup wD htD) htD
  have hOE := bE' _ _ (wl_tup wD hOD) hOD
  have hUE := bE' _ _ (wl_tup wD hUD) hUD
  refine ⟨_, rfl, t, _, rfl, SqT.of htE, fun V1 nV1 => ?_⟩
  have sV := same_new nV1 (.tup (numsN cs).reverse)
  have hV := upd_same (H := HE) (a := V1) (o := .tup (numsN cs).reverse)
  generalize upd HE V1 (.tup (numsN cs).reverse) = HF at sV hV ⊢
  have wF := wE.same sV
  refine ⟨_, rfl, p, rfl, wF, fun v3 HG bG' wG hv3 => ?_⟩
  have bEG : But p HE HG := (But.of sV).trans bG'
  have bDG := bE'.trans bEG
  have bCG := bD'.trans bDG
  refine ⟨line 7 (by decide), fun T nT => ?_⟩
  have sT := same_new nT (.lst [.ref t, .ref O, .ref U, v1, v2, .ref V1, v3])
  have hT := upd_same (H := HG) (a := T) (o := .lst [.ref t, .ref O, .ref U, v1, v2, .ref V1, v3])
  have wH := wG.same sT
  have lc : (numsN cs).length ≤ 9 := by rw [numsN_len]; exact lcs
  have vaN : ∀ x ∈ numsN cs, Va K HG x := fun x hx => by
    obtain ⟨k, _, rfl⟩ := List.mem_map.mp hx
    exact .int _
  have VG : ∀ v ∈ [V.ref t, .ref O, .ref U, v1, v2, .ref V1, v3], Va K HG v :=
    va_cons (.tup (SqT.of (bCG _ _ (wl_tup wC htC) htC)) (by omega) vaN)
      (va_cons (ints_va (SqT.of (bCG _ _ (wl_tup wC hOC) hOC)) (by omega))
      (va_cons (ints_va (SqT.of (bCG _ _ (wl_tup wC hU) hU)) (by omega))
      (va_cons (hv1.but bDG wD wG) (va_cons (hv2.but bEG wE wG)
      (va_cons (.tup (SqT.of (bG' _ _ (wl_tup wF hV) hV)) (by rw [List.length_reverse]; omega) fun x hx => vaN x (List.mem_reverse.mp hx))
      (va_cons hv3 va_nil))))))
  have VH : ∀ v ∈ [V.ref t, .ref O, .ref U, v1, v2, .ref V1, v3], Va K (upd HG T (.lst [.ref t, .ref O, .ref U, v1, v2, .ref V1, v3])) v := fun v hv => (VG v hv).same sT
  have bH : But p H8 (upd HG T (.lst [.ref t, .ref O, .ref U, v1, v2, .ref V1, v3])) := bB.trans ((But.of sU).trans (bCG.trans (But.of sT)))
  clear VG hv1 hv2 hv3 bDG bEG bCG sT vaN hV sV htE hOE hUE htD hOD hUD clT clO htC hOC hU nT nV1 nU
  generalize [V.ref t, .ref O, .ref U, v1, v2, .ref V1, v3] = vs at VH hT wH bH ⊢
  generalize upd HG T (.lst vs) = HH at VH hT wH bH ⊢
  have hxH := hx8.but bH w8
  have hyH : GraphAt K HH y es.length (lineP es) := hy8.ts (TS.but bH w8)
  refine ⟨_, rfl, T, rfl, ⟨_, SqL.of hT⟩, for_it (walk_list (xs := vs)) (fun i σ H' => ∃ (s9 s10 : Option V), σ = [some (.ref p), some (.ref t0), some (.int (m : Int)), some y, some (.ref t), some (.ref R), s6', some (.ref O), some (.ref T), s9, s10, none] ∧ Same HH H') ⟨none, none, rfl, Same.refl _⟩ (fun i σ H' _ ⟨_, _, _, s⟩ => SqL.of (s _ _ hT)) ?_ ?_⟩
  · rintro i v σ _ HI li ⟨s9', s10', rfl, sI⟩ ⟨rfl, hi⟩
    obtain ⟨s, hs, _⟩ := (VH v (List.mem_of_getElem? hi)).same sI
    have hxI := (hxH.same sI).at (K := K)
    have hm2 : MulT HI (.ref t0) l r es := hxH.same sI
    refine ⟨_, rfl, _, rfl, _, rfl, .ref t0, v, l, r, es, s, (m : Int), rfl, hm2.at, e9, hs, fun HJ sJ => ?_⟩
    have hm3 := hm2.same sJ
    refine ⟨_, rfl, _, rfl, .ref t0, v, l, r, es, s, m, rfl, hm3.at, g, e9, hs.same sJ, hm, fun HK sK => ?_⟩
    refine ⟨_, rfl, _, rfl, _, _, rfl, .ref t0, v, l, r, es, s, m, rfl, (hm3.same sK).at, g, e9, hs.same (sJ.trans sK), hm, fun HL sL => ⟨line 2 (by decide), fun F nF => ?_⟩⟩
    have sF := same_new nF (.lst [.bl (propB (m : Int) es s), .bl (propB (m : Int) es s)])
    have hF := upd_same (H := HL) (a := F) (o := .lst [.bl (propB (m : Int) es s), .bl (propB (m : Int) es s)])
    obtain ⟨⟨f1, f2, f3⟩, pd⟩ := two_fine (propB (m : Int) es s) (propB (m : Int) es s)
    have d1 := two_dd (K := K) hF
    generalize upd HL F (.lst [.bl (propB (m : Int) es s), .bl (propB (m : Int) es s)]) = HM at sF hF d1 ⊢
    refine ⟨.ref F, _, rfl, d1, f1, f2, f3, ?_⟩
    refine ⟨_, rfl, _, rfl, line 2 (by decide), fun F2 nF2 => ?_⟩
    have sF2 := same_new nF2 (.lst [.bl (propB (m : Int) es s), .bl (propB (m : Int) es s)])
    have hF2 := upd_same (H := HM) (a := F2) (o := .lst [.bl (propB (m : Int) es s), .bl (propB (m : Int) es s)])
    have d2 := two_dd (K := K) hF2
    generalize upd HM F2 (.lst [.bl (propB (m : Int) es s), .bl (propB (m : Int) es s)]) = HN at sF2 hF2 d2 ⊢
    refine ⟨.ref F2, _, rfl, d2, f1, f2, f3, rfl, _, rfl, ?_⟩
    rw [yes]
    exact iteF ⟨_, _, rfl, sI.trans (sJ.trans (sK.trans (sL.trans (sF.trans sF2))))⟩
  rintro σ HI ⟨s9', s10', rfl, sI⟩
  have hm2 : MulT HI (.ref t0) l r es := hxH.same sI
  have hyI := hyH.same sI
  have perf := line_perf e9
  have best := line_best g e9 hm
  refine ⟨_, rfl, y, es.length, lineP es, rfl, hyI, gl, fun F zs L HJ sJ al hF pF => ?_⟩
  have e0 : L.flatMap (oddOf (lineP es) (flipE es.length (lineP es))) = [] := List.flatMap_eq_nil_iff.mpr fun k hk => perf k ((al.2 k).mp hk)
  rw [e0] at pF
  cases pF
  refine ⟨line 0 (by decide), fun e1 ne1 => ?_⟩
  have se1 := same_new ne1 (.lst [])
  refine ⟨.list (numsD []), .list (numsD []), .lst (SqL.of (se1 _ _ hF)) .nil, .lst (SqL.of upd_same) .nil, numsD_shL [], numsD_shL [], _, rfl, ?_⟩
  rw [show (!PyData.eqv (.list (numsD [])) (.list (numsD []))) = false by simp [numsD, PyData.eqv, PyData.eqvAll]]
  refine iteF ?_
  have sIK := sJ.trans se1
  generalize upd HJ e1 (.lst []) = HK at sIK ⊢
  obtain ⟨⟨f1, f2, f3⟩, pd⟩ := gr_fine gl
  refine ⟨_, rfl, .ref t0, l, r, es, rfl, (hm2.same sIK).at, g, e9, fun y2 HL sL hy2 => ?_⟩
  refine ⟨y2, _, rfl, .dat hy2.dp pd, f1, f2, f3, ?_⟩
  have sIL := sIK.trans sL
  have hyL := hyI.same sIL
  refine ⟨_, rfl, y, _, rfl, .dat hyL.dp pd, f1, f2, f3, rfl, _, rfl, ?_⟩
  rw [yes]
  refine iteF ?_
  refine ⟨_, rfl, y, es.length, lineP es, rfl, hyL, gl, fun v1 HM sM ch => ?_⟩
  obtain rfl := perf_num gl perf best ch
  refine ⟨_, rfl, y, es.length, lineP es, rfl, hyL.same sM, gl, fun v2 HN sN cn => ?_⟩
  obtain rfl := best_uniq cn best
  refine ⟨_, rfl, y, es.length, lineP es, rfl, (hyL.same sM).same sN, gl, fun HO' sO => ?_⟩
  rw [perfB_iff.mpr perf]
  obtain ⟨⟨k1, k2, k3⟩, kd⟩ := last_fine v2 m9
  refine ⟨line 3 (by decide), fun G1 nG1 => ?_⟩
  have sG := same_new nG1 (.lst [.int (v2 : Int), .int (v2 : Int), .bl true])
  have hG := upd_same (H := HO') (a := G1) (o := .lst [.int (v2 : Int), .int (v2 : Int), .bl true])
  generalize upd HO' G1 (.lst [.int (v2 : Int), .int (v2 : Int), .bl true]) = HP at sG hG ⊢
  refine ⟨.ref G1, _, rfl, .dat (.lst (SqL.of hG) (.cons (.int _) (.cons (.int _) (.cons (.bl _) .nil)))) kd, k1, k2, k3, ?_⟩
  refine ⟨_, rfl, _, rfl, line 3 (by decide), fun G2 nG2 => ?_⟩
  have sG2 := same_new nG2 (.lst [.int (v2 : Int), .int (v2 : Int), .bl true])
  refine ⟨.ref G2, _, rfl, .dat (.lst (SqL.of upd_same) (.cons (.int _) (.cons (.int _) (.cons (.bl _) .nil)))) kd, k1, k2, k3, rfl, ?_⟩
  rw [decide_eq_true rfl]
  exact q _ (B8.trans (bH.trans (But.of (sI.trans (sIL.trans (sM.trans (sN.trans (sO.trans (sG.trans sG2)))))))))
end
end My

set_option maxHeartbeats 4000000
/-! law, of the second family: a few turns, each right. -/
namespace My
open PySem PySem.Spec PyProof.Rows L2
abbrev sLaw : Stmt := top 61
theorem scLaw : FnScope ["script", "turn"] ["script"] (defScope sLaw) := ⟨rfl, rfl, rfl, by decide +kernel, rfl, by decide +kernel, by decide +kernel⟩
def spLaw (K : PySem.W.Frag) : Sp := fun vs H Q _ => ∃ (a : Addr) (ns : List Int), vs = [.ref a] ∧ SqL K H a (ns.map V.int) ∧ ns.length ≤ 63 ∧ ∀ H', Q (.bl true) H'
section
variable {P : Program} {w : World} {K : PySem.W.Frag} {mg : Str → Option Value} {base : Heap} {f fW fR : Addr} {fd dW dR : FuncData} {n : Nat}
theorem ok_law (F : L2.Fun K "law" "law" sLaw f fd) (GW : FnOk P w K mg base CX0 1 fW dW ["script", "turn"] (spPot K)) (bW : L2.Binds K dW ["script", "turn"] []) (kW : PySem.W.keepIn K (.ref fW) = true) (mW : mg "_law_pot" = some (.ref fW))
    (GR : FnG P w K mg base CX0 (n + 1) fR dR ["pot"] spRight) (bR : L2.Binds K dR ["pot"] []) (kR : PySem.W.keepIn K (.ref fR) = true) (mR : mg "_law_right" = some (.ref fR))
    (mr : mg "range" = none) (ml : mg "len" = none) (ma : mg "all" = none) (mx : mg "max" = none) (mn : mg "min" = none) : FnG P w K mg base CX0 (n + 2) f fd ["script"] (spLaw K) := by
  refine okG F scLaw (fun vs H Q E h => ?_) (fun cdv A outer s H vs Q E gd hr h => ?_)
  · obtain ⟨a, ns, rfl, _⟩ := h
    rfl
  obtain ⟨a, ns, rfl, hS, h63, q⟩ := h
  have gd' : (A.deeper (envOfC "law" (defScope sLaw) s.heap.objs.size f cdv)).guards = some [] := gd
  refine ⟨_, pss_one (ps_ret (pe_callB (cr_all rfl) (by rfl) ma (by decide +kernel) (pa_cons (pe_lc (own := [("turn", 1)]) (g := gName 1) (tt := tYes) rfl scLaw.nd
      (pi_range1 rfl mr (pa_cons (pe_callB (call_max2 rfl) (by rfl) mx (by decide +kernel) (pa_cons pe_int (pa_cons (pe_callB (call_min2 rfl) (by rfl) mn (by decide +kernel) (pa_cons (pe_callB call_len_seq (by rfl) ml PySem.boot_len (pa_cons (pv 0) pa_nil)) (pa_cons pe_int pa_nil))) pa_nil))) pa_nil))
      (blkOk_by (N := ["script", "turn"]) (sc := defScope sLaw) (by decide +kernel)) (fun _ _ _ _ _ => pg_name (i := 1) scLaw.nd rfl (Or.inl rfl)) (fun _ _ _ _ _ => pts_nil)
      (fun _ _ _ _ _ => pe_callG GR gd' hr (by rfl) mR kR bR pass0 (pa_cons (pe_call GW (hr.mono (Nat.le_add_left 1 n)) (by rfl) mW kW bW .nil pass0 (pa_cons (pv 0) (pa_cons (pv 1) pa_nil))) pa_nil))) pa_nil))), ?_⟩
  have hl : (ns.map V.int).length = ns.length := List.length_map _
  refine ⟨_, rfl, a, _, rfl, .inl hS, _, _, rfl, _, _, rfl, ?_⟩
  rw [hl]
  obtain ⟨j, hj, j0, j3⟩ : ∃ j : Int, (if (if (4 : Int) < ((ns.length : Nat) : Int) then (4 : Int) else ((ns.length : Nat) : Int)) > 1 then (if (4 : Int) < ((ns.length : Nat) : Int) then (4 : Int) else ((ns.length : Nat) : Int)) else 1) = j ∧ 0 ≤ j ∧ j ≤ 4 := by
    refine ⟨_, rfl, ?_, ?_⟩
    · split <;> (try split) <;> omega
    · split <;> (try split) <;> omega
  rw [hj]
  refine ⟨j, rfl, by omega, by omega, fun D nD => lc_range (lo := 0) (n := j.toNat) (fun k H' => Same H H' ∧ H' D = some (.lst ((List.replicate k true).map V.bl))) ⟨same_new nD _, upd_same⟩ ?_ ?_⟩
  · rintro k H1 lk ⟨s1, hD⟩
    rw [Int.zero_add]
    refine ⟨rfl, ?_⟩
    refine ⟨_, rfl, _, rfl, a, ns, k, rfl, L2.Same.seq s1 hS, h63, by omega, fun H2 p s2 np wl => ⟨p, rfl, wl, fun H3 bt => ?_⟩⟩
    have s3 : Same H1 H3 := fun b o e => bt b o (ne_of_none e np) (s2 b o e)
    refine ⟨_, s3 _ _ hD, ?_, same_put (s1.trans s3) nD, ?_⟩
    · rw [List.length_map, List.length_replicate]
      exact small1000 (by omega)
    · rw [upd_same, List.replicate_succ', List.map_append]
      rfl
  · rintro H1 ⟨s1, hD⟩
    refine ⟨D, List.replicate j.toNat true, rfl, SqL.of hD, ?_⟩
    have e : (List.replicate j.toNat true).all id = true := by simp
    rw [e]
    exact q H1
end
end My

set_option maxHeartbeats 16000000
namespace My
open PySem PySem.Spec PyProof.Rows L2
theorem all_mk {l : PySem.W.OpenLaw} {w : World} {K : PySem.W.Frag} {h : Heap} {mg : Str → Option Value} {fa f_is_whole f_is_whole_from f_is_tuple_of_two f_is_ascending f_is_graph f_is_vertex_pair f_check_graph f_neighbour_masks f_lot_of f_clique_number f_chromatic_number f_is_colouring f_colouring f_clique_numbers f_chromatic_numbers f__stable_masks_by_greatest f_is_multigraph f__is_edge f__is_never_falling f_check_multigraph f_edges_at_left f_edges_at_right f__edges_at f_greatest_degree f_line_graph f__do_meet f_is_edge_colouring f_edge_colouring f_is_perfect f__lacking_masks f__law_pot f__law_draw f__law_pick f__law_odd f__law_bent f__law_is_whole f__law_table f__law_of_table f__law_flipped f__law_lots f__law_round f__law_odd_rounds f__law_multi f__law_at f__law_near f__law_degree f__law_line f__law_is_proper f__law_right f_law : Addr} {tkV tkS tkE : Tok} (X : K.In h) (GN : h.Ns mainGlobals mg) (hfa : mg "law" = some (.ref fa))
    {fo_is_whole fk_is_whole fe_is_whole fm_is_whole fc_is_whole ft_is_whole : Value} {fD_is_whole fN_is_whole : Option Addr} {fS_is_whole : Array (Option Value)}
    (fa_is_whole : PySem.W.nsIn K mainGlobals "is_whole" = some (some (.ref f_is_whole)))
    (fl_is_whole : K.lookup f_is_whole = some ⟨fo_is_whole, fD_is_whole, .func (PySem.W.fnOf "is_whole" "is_whole" (defArgs (top 6)) (defBody (top 6)) (defScope (top 6)) .none fk_is_whole fe_is_whole fm_is_whole fN_is_whole fc_is_whole ft_is_whole), fS_is_whole⟩)
    (fcc_is_whole : PySem.W.codeIn K fc_is_whole "is_whole" = true)
    (fq_is_whole : PySem.W.keepIn K (.ref f_is_whole) = true)
    {fo_is_whole_from fk_is_whole_from fe_is_whole_from fm_is_whole_from fc_is_whole_from ft_is_whole_from : Value} {fD_is_whole_from fN_is_whole_from : Option Addr} {fS_is_whole_from : Array (Option Value)}
    (fa_is_whole_from : PySem.W.nsIn K mainGlobals "is_whole_from" = some (some (.ref f_is_whole_from)))
    (fl_is_whole_from : K.lookup f_is_whole_from = some ⟨fo_is_whole_from, fD_is_whole_from, .func (PySem.W.fnOf "is_whole_from" "is_whole_from" (defArgs (top 7)) (defBody (top 7)) (defScope (top 7)) .none fk_is_whole_from fe_is_whole_from fm_is_whole_from fN_is_whole_from fc_is_whole_from ft_is_whole_from), fS_is_whole_from⟩)
    (fcc_is_whole_from : PySem.W.codeIn K fc_is_whole_from "is_whole_from" = true)
    (fq_is_whole_from : PySem.W.keepIn K (.ref f_is_whole_from) = true)
    {fo_is_tuple_of_two fk_is_tuple_of_two fe_is_tuple_of_two fm_is_tuple_of_two fc_is_tuple_of_two ft_is_tuple_of_two : Value} {fD_is_tuple_of_two fN_is_tuple_of_two : Option Addr} {fS_is_tuple_of_two : Array (Option Value)}
    (fa_is_tuple_of_two : PySem.W.nsIn K mainGlobals "is_tuple_of_two" = some (some (.ref f_is_tuple_of_two)))
    (fl_is_tuple_of_two : K.lookup f_is_tuple_of_two = some ⟨fo_is_tuple_of_two, fD_is_tuple_of_two, .func (PySem.W.fnOf "is_tuple_of_two" "is_tuple_of_two" (defArgs (top 8)) (defBody (top 8)) (defScope (top 8)) .none fk_is_tuple_of_two fe_is_tuple_of_two fm_is_tuple_of_two fN_is_tuple_of_two fc_is_tuple_of_two ft_is_tuple_of_two), fS_is_tuple_of_two⟩)
    (fcc_is_tuple_of_two : PySem.W.codeIn K fc_is_tuple_of_two "is_tuple_of_two" = true)
    (fq_is_tuple_of_two : PySem.W.keepIn K (.ref f_is_tuple_of_two) = true)
    {fo_is_ascending fk_is_ascending fe_is_ascending fm_is_ascending fc_is_ascending ft_is_ascending : Value} {fD_is_ascending fN_is_ascending : Option Addr} {fS_is_ascending : Array (Option Value)}
    (fa_is_ascending : PySem.W.nsIn K mainGlobals "is_ascending" = some (some (.ref f_is_ascending)))
    (fl_is_ascending : K.lookup f_is_ascending = some ⟨fo_is_ascending, fD_is_ascending, .func (PySem.W.fnOf "is_ascending" "is_ascending" (defArgs (top 9)) (defBody (top 9)) (defScope (top 9)) .none fk_is_ascending fe_is_ascending fm_is_ascending fN_is_ascending fc_is_ascending ft_is_ascending), fS_is_ascending⟩)
    (fcc_is_ascending : PySem.W.codeIn K fc_is_ascending "is_ascending" = true)
    (fq_is_ascending : PySem.W.keepIn K (.ref f_is_ascending) = true)
    {fo_is_graph fk_is_graph fe_is_graph fm_is_graph fc_is_graph ft_is_graph : Value} {fD_is_graph fN_is_graph : Option Addr} {fS_is_graph : Array (Option Value)}
    (fa_is_graph : PySem.W.nsIn K mainGlobals "is_graph" = some (some (.ref f_is_graph)))
    (fl_is_graph : K.lookup f_is_graph = some ⟨fo_is_graph, fD_is_graph, .func (PySem.W.fnOf "is_graph" "is_graph" (defArgs (top 10)) (defBody (top 10)) (defScope (top 10)) .none fk_is_graph fe_is_graph fm_is_graph fN_is_graph fc_is_graph ft_is_graph), fS_is_graph⟩)
    (fcc_is_graph : PySem.W.codeIn K fc_is_graph "is_graph" = true)
    (fq_is_graph : PySem.W.keepIn K (.ref f_is_graph) = true)
    {fo_is_vertex_pair fk_is_vertex_pair fe_is_vertex_pair fm_is_vertex_pair fc_is_vertex_pair ft_is_vertex_pair : Value} {fD_is_vertex_pair fN_is_vertex_pair : Option Addr} {fS_is_vertex_pair : Array (Option Value)}
    (fa_is_vertex_pair : PySem.W.nsIn K mainGlobals "is_vertex_pair" = some (some (.ref f_is_vertex_pair)))
    (fl_is_vertex_pair : K.lookup f_is_vertex_pair = some ⟨fo_is_vertex_pair, fD_is_vertex_pair, .func (PySem.W.fnOf "is_vertex_pair" "is_vertex_pair" (defArgs (top 11)) (defBody (top 11)) (defScope (top 11)) .none fk_is_vertex_pair fe_is_vertex_pair fm_is_vertex_pair fN_is_vertex_pair fc_is_vertex_pair ft_is_vertex_pair), fS_is_vertex_pair⟩)
    (fcc_is_vertex_pair : PySem.W.codeIn K fc_is_vertex_pair "is_vertex_pair" = true)
    (fq_is_vertex_pair : PySem.W.keepIn K (.ref f_is_vertex_pair) = true)
    {fo_check_graph fk_check_graph fe_check_graph fm_check_graph fc_check_graph ft_check_graph : Value} {fD_check_graph fN_check_graph : Option Addr} {fS_check_graph : Array (Option Value)}
    (fa_check_graph : PySem.W.nsIn K mainGlobals "check_graph" = some (some (.ref f_check_graph)))
    (fl_check_graph : K.lookup f_check_graph = some ⟨fo_check_graph, fD_check_graph, .func (PySem.W.fnOf "check_graph" "check_graph" (defArgs (top 12)) (defBody (top 12)) (defScope (top 12)) .none fk_check_graph fe_check_graph fm_check_graph fN_check_graph fc_check_graph ft_check_graph), fS_check_graph⟩)
    (fcc_check_graph : PySem.W.codeIn K fc_check_graph "check_graph" = true)
    (fq_check_graph : PySem.W.keepIn K (.ref f_check_graph) = true)
    {fo_neighbour_masks fk_neighbour_masks fe_neighbour_masks fm_neighbour_masks fc_neighbour_masks ft_neighbour_masks : Value} {fD_neighbour_masks fN_neighbour_masks : Option Addr} {fS_neighbour_masks : Array (Option Value)}
    (fa_neighbour_masks : PySem.W.nsIn K mainGlobals "neighbour_masks" = some (some (.ref f_neighbour_masks)))
    (fl_neighbour_masks : K.lookup f_neighbour_masks = some ⟨fo_neighbour_masks, fD_neighbour_masks, .func (PySem.W.fnOf "neighbour_masks" "neighbour_masks" (defArgs (top 13)) (defBody (top 13)) (defScope (top 13)) .none fk_neighbour_masks fe_neighbour_masks fm_neighbour_masks fN_neighbour_masks fc_neighbour_masks ft_neighbour_masks), fS_neighbour_masks⟩)
    (fcc_neighbour_masks : PySem.W.codeIn K fc_neighbour_masks "neighbour_masks" = true)
    (fq_neighbour_masks : PySem.W.keepIn K (.ref f_neighbour_masks) = true)
    {fo_lot_of fk_lot_of fe_lot_of fm_lot_of fc_lot_of ft_lot_of : Value} {fD_lot_of fN_lot_of : Option Addr} {fS_lot_of : Array (Option Value)}
    (fa_lot_of : PySem.W.nsIn K mainGlobals "lot_of" = some (some (.ref f_lot_of)))
    (fl_lot_of : K.lookup f_lot_of = some ⟨fo_lot_of, fD_lot_of, .func (PySem.W.fnOf "lot_of" "lot_of" (defArgs (top 14)) (defBody (top 14)) (defScope (top 14)) .none fk_lot_of fe_lot_of fm_lot_of fN_lot_of fc_lot_of ft_lot_of), fS_lot_of⟩)
    (fcc_lot_of : PySem.W.codeIn K fc_lot_of "lot_of" = true)
    (fq_lot_of : PySem.W.keepIn K (.ref f_lot_of) = true)
    {fo_clique_number fk_clique_number fe_clique_number fm_clique_number fc_clique_number ft_clique_number : Value} {fD_clique_number fN_clique_number : Option Addr} {fS_clique_number : Array (Option Value)}
    (fa_clique_number : PySem.W.nsIn K mainGlobals "clique_number" = some (some (.ref f_clique_number)))
    (fl_clique_number : K.lookup f_clique_number = some ⟨fo_clique_number, fD_clique_number, .func (PySem.W.fnOf "clique_number" "clique_number" (defArgs (top 16)) (defBody (top 16)) (defScope (top 16)) .none fk_clique_number fe_clique_number fm_clique_number fN_clique_number fc_clique_number ft_clique_number), fS_clique_number⟩)
    (fcc_clique_number : PySem.W.codeIn K fc_clique_number "clique_number" = true)
    (fq_clique_number : PySem.W.keepIn K (.ref f_clique_number) = true)
    {fo_chromatic_number fk_chromatic_number fe_chromatic_number fm_chromatic_number fc_chromatic_number ft_chromatic_number : Value} {fD_chromatic_number fN_chromatic_number : Option Addr} {fS_chromatic_number : Array (Option Value)}
    (fa_chromatic_number : PySem.W.nsIn K mainGlobals "chromatic_number" = some (some (.ref f_chromatic_number)))
    (fl_chromatic_number : K.lookup f_chromatic_number = some ⟨fo_chromatic_number, fD_chromatic_number, .func (PySem.W.fnOf "chromatic_number" "chromatic_number" (defArgs (top 17)) (defBody (top 17)) (defScope (top 17)) .none fk_chromatic_number fe_chromatic_number fm_chromatic_number fN_chromatic_number fc_chromatic_number ft_chromatic_number), fS_chromatic_number⟩)
    (fcc_chromatic_number : PySem.W.codeIn K fc_chromatic_number "chromatic_number" = true)
    (fq_chromatic_number : PySem.W.keepIn K (.ref f_chromatic_number) = true)
    {fo_is_colouring fk_is_colouring fe_is_colouring fm_is_colouring fc_is_colouring ft_is_colouring : Value} {fD_is_colouring fN_is_colouring : Option Addr} {fS_is_colouring : Array (Option Value)}
    (fa_is_colouring : PySem.W.nsIn K mainGlobals "is_colouring" = some (some (.ref f_is_colouring)))
    (fl_is_colouring : K.lookup f_is_colouring = some ⟨fo_is_colouring, fD_is_colouring, .func (PySem.W.fnOf "is_colouring" "is_colouring" (defArgs (top 18)) (defBody (top 18)) (defScope (top 18)) .none fk_is_colouring fe_is_colouring fm_is_colouring fN_is_colouring fc_is_colouring ft_is_colouring), fS_is_colouring⟩)
    (fcc_is_colouring : PySem.W.codeIn K fc_is_colouring "is_colouring" = true)
    (fq_is_colouring : PySem.W.keepIn K (.ref f_is_colouring) = true)
    {fo_colouring fk_colouring fe_colouring fm_colouring fc_colouring ft_colouring : Value} {fD_colouring fN_colouring : Option Addr} {fS_colouring : Array (Option Value)}
    (fa_colouring : PySem.W.nsIn K mainGlobals "colouring" = some (some (.ref f_colouring)))
    (fl_colouring : K.lookup f_colouring = some ⟨fo_colouring, fD_colouring, .func (PySem.W.fnOf "colouring" "colouring" (defArgs (top 19)) (defBody (top 19)) (defScope (top 19)) .none fk_colouring fe_colouring fm_colouring fN_colouring fc_colouring ft_colouring), fS_colouring⟩)
    (fcc_colouring : PySem.W.codeIn K fc_colouring "colouring" = true)
    (fq_colouring : PySem.W.keepIn K (.ref f_colouring) = true)
    {fo_clique_numbers fk_clique_numbers fe_clique_numbers fm_clique_numbers fc_clique_numbers ft_clique_numbers : Value} {fD_clique_numbers fN_clique_numbers : Option Addr} {fS_clique_numbers : Array (Option Value)}
    (fa_clique_numbers : PySem.W.nsIn K mainGlobals "clique_numbers" = some (some (.ref f_clique_numbers)))
    (fl_clique_numbers : K.lookup f_clique_numbers = some ⟨fo_clique_numbers, fD_clique_numbers, .func (PySem.W.fnOf "clique_numbers" "clique_numbers" (defArgs (top 20)) (defBody (top 20)) (defScope (top 20)) .none fk_clique_numbers fe_clique_numbers fm_clique_numbers fN_clique_numbers fc_clique_numbers ft_clique_numbers), fS_clique_numbers⟩)
    (fcc_clique_numbers : PySem.W.codeIn K fc_clique_numbers "clique_numbers" = true)
    (fq_clique_numbers : PySem.W.keepIn K (.ref f_clique_numbers) = true)
    {fo_chromatic_numbers fk_chromatic_numbers fe_chromatic_numbers fm_chromatic_numbers fc_chromatic_numbers ft_chromatic_numbers : Value} {fD_chromatic_numbers fN_chromatic_numbers : Option Addr} {fS_chromatic_numbers : Array (Option Value)}
    (fa_chromatic_numbers : PySem.W.nsIn K mainGlobals "chromatic_numbers" = some (some (.ref f_chromatic_numbers)))
    (fl_chromatic_numbers : K.lookup f_chromatic_numbers = some ⟨fo_chromatic_numbers, fD_chromatic_numbers, .func (PySem.W.fnOf "chromatic_numbers" "chromatic_numbers" (defArgs (top 21)) (defBody (top 21)) (defScope (top 21)) .none fk_chromatic_numbers fe_chromatic_numbers fm_chromatic_numbers fN_chromatic_numbers fc_chromatic_numbers ft_chromatic_numbers), fS_chromatic_numbers⟩)
    (fcc_chromatic_numbers : PySem.W.codeIn K fc_chromatic_numbers "chromatic_numbers" = true)
    (fq_chromatic_numbers : PySem.W.keepIn K (.ref f_chromatic_numbers) = true)
    {fo__stable_masks_by_greatest fk__stable_masks_by_greatest fe__stable_masks_by_greatest fm__stable_masks_by_greatest fc__stable_masks_by_greatest ft__stable_masks_by_greatest : Value} {fD__stable_masks_by_greatest fN__stable_masks_by_greatest : Option Addr} {fS__stable_masks_by_greatest : Array (Option Value)}
    (fa__stable_masks_by_greatest : PySem.W.nsIn K mainGlobals "_stable_masks_by_greatest" = some (some (.ref f__stable_masks_by_greatest)))
    (fl__stable_masks_by_greatest : K.lookup f__stable_masks_by_greatest = some ⟨fo__stable_masks_by_greatest, fD__stable_masks_by_greatest, .func (PySem.W.fnOf "_stable_masks_by_greatest" "_stable_masks_by_greatest" (defArgs (top 22)) (defBody (top 22)) (defScope (top 22)) .none fk__stable_masks_by_greatest fe__stable_masks_by_greatest fm__stable_masks_by_greatest fN__stable_masks_by_greatest fc__stable_masks_by_greatest ft__stable_masks_by_greatest), fS__stable_masks_by_greatest⟩)
    (fcc__stable_masks_by_greatest : PySem.W.codeIn K fc__stable_masks_by_greatest "_stable_masks_by_greatest" = true)
    (fq__stable_masks_by_greatest : PySem.W.keepIn K (.ref f__stable_masks_by_greatest) = true)
    {fo_is_multigraph fk_is_multigraph fe_is_multigraph fm_is_multigraph fc_is_multigraph ft_is_multigraph : Value} {fD_is_multigraph fN_is_multigraph : Option Addr} {fS_is_multigraph : Array (Option Value)}
    (fa_is_multigraph : PySem.W.nsIn K mainGlobals "is_multigraph" = some (some (.ref f_is_multigraph)))
    (fl_is_multigraph : K.lookup f_is_multigraph = some ⟨fo_is_multigraph, fD_is_multigraph, .func (PySem.W.fnOf "is_multigraph" "is_multigraph" (defArgs (top 26)) (defBody (top 26)) (defScope (top 26)) .none fk_is_multigraph fe_is_multigraph fm_is_multigraph fN_is_multigraph fc_is_multigraph ft_is_multigraph), fS_is_multigraph⟩)
    (fcc_is_multigraph : PySem.W.codeIn K fc_is_multigraph "is_multigraph" = true)
    (fq_is_multigraph : PySem.W.keepIn K (.ref f_is_multigraph) = true)
    {fo__is_edge fk__is_edge fe__is_edge fm__is_edge fc__is_edge ft__is_edge : Value} {fD__is_edge fN__is_edge : Option Addr} {fS__is_edge : Array (Option Value)}
    (fa__is_edge : PySem.W.nsIn K mainGlobals "_is_edge" = some (some (.ref f__is_edge)))
    (fl__is_edge : K.lookup f__is_edge = some ⟨fo__is_edge, fD__is_edge, .func (PySem.W.fnOf "_is_edge" "_is_edge" (defArgs (top 27)) (defBody (top 27)) (defScope (top 27)) .none fk__is_edge fe__is_edge fm__is_edge fN__is_edge fc__is_edge ft__is_edge), fS__is_edge⟩)
    (fcc__is_edge : PySem.W.codeIn K fc__is_edge "_is_edge" = true)
    (fq__is_edge : PySem.W.keepIn K (.ref f__is_edge) = true)
    {fo__is_never_falling fk__is_never_falling fe__is_never_falling fm__is_never_falling fc__is_never_falling ft__is_never_falling : Value} {fD__is_never_falling fN__is_never_falling : Option Addr} {fS__is_never_falling : Array (Option Value)}
    (fa__is_never_falling : PySem.W.nsIn K mainGlobals "_is_never_falling" = some (some (.ref f__is_never_falling)))
    (fl__is_never_falling : K.lookup f__is_never_falling = some ⟨fo__is_never_falling, fD__is_never_falling, .func (PySem.W.fnOf "_is_never_falling" "_is_never_falling" (defArgs (top 28)) (defBody (top 28)) (defScope (top 28)) .none fk__is_never_falling fe__is_never_falling fm__is_never_falling fN__is_never_falling fc__is_never_falling ft__is_never_falling), fS__is_never_falling⟩)
    (fcc__is_never_falling : PySem.W.codeIn K fc__is_never_falling "_is_never_falling" = true)
    (fq__is_never_falling : PySem.W.keepIn K (.ref f__is_never_falling) = true)
    {fo_check_multigraph fk_check_multigraph fe_check_multigraph fm_check_multigraph fc_check_multigraph ft_check_multigraph : Value} {fD_check_multigraph fN_check_multigraph : Option Addr} {fS_check_multigraph : Array (Option Value)}
    (fa_check_multigraph : PySem.W.nsIn K mainGlobals "check_multigraph" = some (some (.ref f_check_multigraph)))
    (fl_check_multigraph : K.lookup f_check_multigraph = some ⟨fo_check_multigraph, fD_check_multigraph, .func (PySem.W.fnOf "check_multigraph" "check_multigraph" (defArgs (top 29)) (defBody (top 29)) (defScope (top 29)) .none fk_check_multigraph fe_check_multigraph fm_check_multigraph fN_check_multigraph fc_check_multigraph ft_check_multigraph), fS_check_multigraph⟩)
    (fcc_check_multigraph : PySem.W.codeIn K fc_check_multigraph "check_multigraph" = true)
    (fq_check_multigraph : PySem.W.keepIn K (.ref f_check_multigraph) = true)
    {fo_edges_at_left fk_edges_at_left fe_edges_at_left fm_edges_at_left fc_edges_at_left ft_edges_at_left : Value} {fD_edges_at_left fN_edges_at_left : Option Addr} {fS_edges_at_left : Array (Option Value)}
    (fa_edges_at_left : PySem.W.nsIn K mainGlobals "edges_at_left" = some (some (.ref f_edges_at_left)))
    (fl_edges_at_left : K.lookup f_edges_at_left = some ⟨fo_edges_at_left, fD_edges_at_left, .func (PySem.W.fnOf "edges_at_left" "edges_at_left" (defArgs (top 30)) (defBody (top 30)) (defScope (top 30)) .none fk_edges_at_left fe_edges_at_left fm_edges_at_left fN_edges_at_left fc_edges_at_left ft_edges_at_left), fS_edges_at_left⟩)
    (fcc_edges_at_left : PySem.W.codeIn K fc_edges_at_left "edges_at_left" = true)
    (fq_edges_at_left : PySem.W.keepIn K (.ref f_edges_at_left) = true)
    {fo_edges_at_right fk_edges_at_right fe_edges_at_right fm_edges_at_right fc_edges_at_right ft_edges_at_right : Value} {fD_edges_at_right fN_edges_at_right : Option Addr} {fS_edges_at_right : Array (Option Value)}
    (fa_edges_at_right : PySem.W.nsIn K mainGlobals "edges_at_right" = some (some (.ref f_edges_at_right)))
    (fl_edges_at_right : K.lookup f_edges_at_right = some ⟨fo_edges_at_right, fD_edges_at_right, .func (PySem.W.fnOf "edges_at_right" "edges_at_right" (defArgs (top 31)) (defBody (top 31)) (defScope (top 31)) .none fk_edges_at_right fe_edges_at_right fm_edges_at_right fN_edges_at_right fc_edges_at_right ft_edges_at_right), fS_edges_at_right⟩)
    (fcc_edges_at_right : PySem.W.codeIn K fc_edges_at_right "edges_at_right" = true)
    (fq_edges_at_right : PySem.W.keepIn K (.ref f_edges_at_right) = true)
    {fo__edges_at fk__edges_at fe__edges_at fm__edges_at fc__edges_at ft__edges_at : Value} {fD__edges_at fN__edges_at : Option Addr} {fS__edges_at : Array (Option Value)}
    (fa__edges_at : PySem.W.nsIn K mainGlobals "_edges_at" = some (some (.ref f__edges_at)))
    (fl__edges_at : K.lookup f__edges_at = some ⟨fo__edges_at, fD__edges_at, .func (PySem.W.fnOf "_edges_at" "_edges_at" (defArgs (top 32)) (defBody (top 32)) (defScope (top 32)) .none fk__edges_at fe__edges_at fm__edges_at fN__edges_at fc__edges_at ft__edges_at), fS__edges_at⟩)
    (fcc__edges_at : PySem.W.codeIn K fc__edges_at "_edges_at" = true)
    (fq__edges_at : PySem.W.keepIn K (.ref f__edges_at) = true)
    {fo_greatest_degree fk_greatest_degree fe_greatest_degree fm_greatest_degree fc_greatest_degree ft_greatest_degree : Value} {fD_greatest_degree fN_greatest_degree : Option Addr} {fS_greatest_degree : Array (Option Value)}
    (fa_greatest_degree : PySem.W.nsIn K mainGlobals "greatest_degree" = some (some (.ref f_greatest_degree)))
    (fl_greatest_degree : K.lookup f_greatest_degree = some ⟨fo_greatest_degree, fD_greatest_degree, .func (PySem.W.fnOf "greatest_degree" "greatest_degree" (defArgs (top 33)) (defBody (top 33)) (defScope (top 33)) .none fk_greatest_degree fe_greatest_degree fm_greatest_degree fN_greatest_degree fc_greatest_degree ft_greatest_degree), fS_greatest_degree⟩)
    (fcc_greatest_degree : PySem.W.codeIn K fc_greatest_degree "greatest_degree" = true)
    (fq_greatest_degree : PySem.W.keepIn K (.ref f_greatest_degree) = true)
    {fo_line_graph fk_line_graph fe_line_graph fm_line_graph fc_line_graph ft_line_graph : Value} {fD_line_graph fN_line_graph : Option Addr} {fS_line_graph : Array (Option Value)}
    (fa_line_graph : PySem.W.nsIn K mainGlobals "line_graph" = some (some (.ref f_line_graph)))
    (fl_line_graph : K.lookup f_line_graph = some ⟨fo_line_graph, fD_line_graph, .func (PySem.W.fnOf "line_graph" "line_graph" (defArgs (top 34)) (defBody (top 34)) (defScope (top 34)) .none fk_line_graph fe_line_graph fm_line_graph fN_line_graph fc_line_graph ft_line_graph), fS_line_graph⟩)
    (fcc_line_graph : PySem.W.codeIn K fc_line_graph "line_graph" = true)
    (fq_line_graph : PySem.W.keepIn K (.ref f_line_graph) = true)
    {fo__do_meet fk__do_meet fe__do_meet fm__do_meet fc__do_meet ft__do_meet : Value} {fD__do_meet fN__do_meet : Option Addr} {fS__do_meet : Array (Option Value)}
    (fa__do_meet : PySem.W.nsIn K mainGlobals "_do_meet" = some (some (.ref f__do_meet)))
    (fl__do_meet : K.lookup f__do_meet = some ⟨fo__do_meet, fD__do_meet, .func (PySem.W.fnOf "_do_meet" "_do_meet" (defArgs (top 35)) (defBody (top 35)) (defScope (top 35)) .none fk__do_meet fe__do_meet fm__do_meet fN__do_meet fc__do_meet ft__do_meet), fS__do_meet⟩)
    (fcc__do_meet : PySem.W.codeIn K fc__do_meet "_do_meet" = true)
    (fq__do_meet : PySem.W.keepIn K (.ref f__do_meet) = true)
    {fo_is_edge_colouring fk_is_edge_colouring fe_is_edge_colouring fm_is_edge_colouring fc_is_edge_colouring ft_is_edge_colouring : Value} {fD_is_edge_colouring fN_is_edge_colouring : Option Addr} {fS_is_edge_colouring : Array (Option Value)}
    (fa_is_edge_colouring : PySem.W.nsIn K mainGlobals "is_edge_colouring" = some (some (.ref f_is_edge_colouring)))
    (fl_is_edge_colouring : K.lookup f_is_edge_colouring = some ⟨fo_is_edge_colouring, fD_is_edge_colouring, .func (PySem.W.fnOf "is_edge_colouring" "is_edge_colouring" (defArgs (top 36)) (defBody (top 36)) (defScope (top 36)) .none fk_is_edge_colouring fe_is_edge_colouring fm_is_edge_colouring fN_is_edge_colouring fc_is_edge_colouring ft_is_edge_colouring), fS_is_edge_colouring⟩)
    (fcc_is_edge_colouring : PySem.W.codeIn K fc_is_edge_colouring "is_edge_colouring" = true)
    (fq_is_edge_colouring : PySem.W.keepIn K (.ref f_is_edge_colouring) = true)
    {fo_edge_colouring fk_edge_colouring fe_edge_colouring fm_edge_colouring fc_edge_colouring ft_edge_colouring : Value} {fD_edge_colouring fN_edge_colouring : Option Addr} {fS_edge_colouring : Array (Option Value)}
    (fa_edge_colouring : PySem.W.nsIn K mainGlobals "edge_colouring" = some (some (.ref f_edge_colouring)))
    (fl_edge_colouring : K.lookup f_edge_colouring = some ⟨fo_edge_colouring, fD_edge_colouring, .func (PySem.W.fnOf "edge_colouring" "edge_colouring" (defArgs (top 37)) (defBody (top 37)) (defScope (top 37)) .none fk_edge_colouring fe_edge_colouring fm_edge_colouring fN_edge_colouring fc_edge_colouring ft_edge_colouring), fS_edge_colouring⟩)
    (fcc_edge_colouring : PySem.W.codeIn K fc_edge_colouring "edge_colouring" = true)
    (fq_edge_colouring : PySem.W.keepIn K (.ref f_edge_colouring) = true)
    {fo_is_perfect fk_is_perfect fe_is_perfect fm_is_perfect fc_is_perfect ft_is_perfect : Value} {fD_is_perfect fN_is_perfect : Option Addr} {fS_is_perfect : Array (Option Value)}
    (fa_is_perfect : PySem.W.nsIn K mainGlobals "is_perfect" = some (some (.ref f_is_perfect)))
    (fl_is_perfect : K.lookup f_is_perfect = some ⟨fo_is_perfect, fD_is_perfect, .func (PySem.W.fnOf "is_perfect" "is_perfect" (defArgs (top 39)) (defBody (top 39)) (defScope (top 39)) .none fk_is_perfect fe_is_perfect fm_is_perfect fN_is_perfect fc_is_perfect ft_is_perfect), fS_is_perfect⟩)
    (fcc_is_perfect : PySem.W.codeIn K fc_is_perfect "is_perfect" = true)
    (fq_is_perfect : PySem.W.keepIn K (.ref f_is_perfect) = true)
    {fo__lacking_masks fk__lacking_masks fe__lacking_masks fm__lacking_masks fc__lacking_masks ft__lacking_masks : Value} {fD__lacking_masks fN__lacking_masks : Option Addr} {fS__lacking_masks : Array (Option Value)}
    (fa__lacking_masks : PySem.W.nsIn K mainGlobals "_lacking_masks" = some (some (.ref f__lacking_masks)))
    (fl__lacking_masks : K.lookup f__lacking_masks = some ⟨fo__lacking_masks, fD__lacking_masks, .func (PySem.W.fnOf "_lacking_masks" "_lacking_masks" (defArgs (top 40)) (defBody (top 40)) (defScope (top 40)) .none fk__lacking_masks fe__lacking_masks fm__lacking_masks fN__lacking_masks fc__lacking_masks ft__lacking_masks), fS__lacking_masks⟩)
    (fcc__lacking_masks : PySem.W.codeIn K fc__lacking_masks "_lacking_masks" = true)
    (fq__lacking_masks : PySem.W.keepIn K (.ref f__lacking_masks) = true)
    {fo__law_pot fk__law_pot fe__law_pot fm__law_pot fc__law_pot ft__law_pot : Value} {fD__law_pot fN__law_pot : Option Addr} {fS__law_pot : Array (Option Value)}
    (fa__law_pot : PySem.W.nsIn K mainGlobals "_law_pot" = some (some (.ref f__law_pot)))
    (fl__law_pot : K.lookup f__law_pot = some ⟨fo__law_pot, fD__law_pot, .func (PySem.W.fnOf "_law_pot" "_law_pot" (defArgs (top 42)) (defBody (top 42)) (defScope (top 42)) .none fk__law_pot fe__law_pot fm__law_pot fN__law_pot fc__law_pot ft__law_pot), fS__law_pot⟩)
    (fcc__law_pot : PySem.W.codeIn K fc__law_pot "_law_pot" = true)
    (fq__law_pot : PySem.W.keepIn K (.ref f__law_pot) = true)
    {fo__law_draw fk__law_draw fe__law_draw fm__law_draw fc__law_draw ft__law_draw : Value} {fD__law_draw fN__law_draw : Option Addr} {fS__law_draw : Array (Option Value)}
    (fa__law_draw : PySem.W.nsIn K mainGlobals "_law_draw" = some (some (.ref f__law_draw)))
    (fl__law_draw : K.lookup f__law_draw = some ⟨fo__law_draw, fD__law_draw, .func (PySem.W.fnOf "_law_draw" "_law_draw" (defArgs (top 43)) (defBody (top 43)) (defScope (top 43)) .none fk__law_draw fe__law_draw fm__law_draw fN__law_draw fc__law_draw ft__law_draw), fS__law_draw⟩)
    (fcc__law_draw : PySem.W.codeIn K fc__law_draw "_law_draw" = true)
    (fq__law_draw : PySem.W.keepIn K (.ref f__law_draw) = true)
    {fo__law_pick fk__law_pick fe__law_pick fm__law_pick fc__law_pick ft__law_pick : Value} {fD__law_pick fN__law_pick : Option Addr} {fS__law_pick : Array (Option Value)}
    (fa__law_pick : PySem.W.nsIn K mainGlobals "_law_pick" = some (some (.ref f__law_pick)))
    (fl__law_pick : K.lookup f__law_pick = some ⟨fo__law_pick, fD__law_pick, .func (PySem.W.fnOf "_law_pick" "_law_pick" (defArgs (top 44)) (defBody (top 44)) (defScope (top 44)) .none fk__law_pick fe__law_pick fm__law_pick fN__law_pick fc__law_pick ft__law_pick), fS__law_pick⟩)
    (fcc__law_pick : PySem.W.codeIn K fc__law_pick "_law_pick" = true)
    (fq__law_pick : PySem.W.keepIn K (.ref f__law_pick) = true)
    {fo__law_odd fk__law_odd fe__law_odd fm__law_odd fc__law_odd ft__law_odd : Value} {fD__law_odd fN__law_odd : Option Addr} {fS__law_odd : Array (Option Value)}
    (fa__law_odd : PySem.W.nsIn K mainGlobals "_law_odd" = some (some (.ref f__law_odd)))
    (fl__law_odd : K.lookup f__law_odd = some ⟨fo__law_odd, fD__law_odd, .func (PySem.W.fnOf "_law_odd" "_law_odd" (defArgs (top 45)) (defBody (top 45)) (defScope (top 45)) .none fk__law_odd fe__law_odd fm__law_odd fN__law_odd fc__law_odd ft__law_odd), fS__law_odd⟩)
    (fcc__law_odd : PySem.W.codeIn K fc__law_odd "_law_odd" = true)
    (fq__law_odd : PySem.W.keepIn K (.ref f__law_odd) = true)
    {fo__law_bent fk__law_bent fe__law_bent fm__law_bent fc__law_bent ft__law_bent : Value} {fD__law_bent fN__law_bent : Option Addr} {fS__law_bent : Array (Option Value)}
    (fa__law_bent : PySem.W.nsIn K mainGlobals "_law_bent" = some (some (.ref f__law_bent)))
    (fl__law_bent : K.lookup f__law_bent = some ⟨fo__law_bent, fD__law_bent, .func (PySem.W.fnOf "_law_bent" "_law_bent" (defArgs (top 46)) (defBody (top 46)) (defScope (top 46)) .none fk__law_bent fe__law_bent fm__law_bent fN__law_bent fc__law_bent ft__law_bent), fS__law_bent⟩)
    (fcc__law_bent : PySem.W.codeIn K fc__law_bent "_law_bent" = true)
    (fq__law_bent : PySem.W.keepIn K (.ref f__law_bent) = true)
    {fo__law_is_whole fk__law_is_whole fe__law_is_whole fm__law_is_whole fc__law_is_whole ft__law_is_whole : Value} {fD__law_is_whole fN__law_is_whole : Option Addr} {fS__law_is_whole : Array (Option Value)}
    (fa__law_is_whole : PySem.W.nsIn K mainGlobals "_law_is_whole" = some (some (.ref f__law_is_whole)))
    (fl__law_is_whole : K.lookup f__law_is_whole = some ⟨fo__law_is_whole, fD__law_is_whole, .func (PySem.W.fnOf "_law_is_whole" "_law_is_whole" (defArgs (top 47)) (defBody (top 47)) (defScope (top 47)) .none fk__law_is_whole fe__law_is_whole fm__law_is_whole fN__law_is_whole fc__law_is_whole ft__law_is_whole), fS__law_is_whole⟩)
    (fcc__law_is_whole : PySem.W.codeIn K fc__law_is_whole "_law_is_whole" = true)
    (fq__law_is_whole : PySem.W.keepIn K (.ref f__law_is_whole) = true)
    {fo__law_table fk__law_table fe__law_table fm__law_table fc__law_table ft__law_table : Value} {fD__law_table fN__law_table : Option Addr} {fS__law_table : Array (Option Value)}
    (fa__law_table : PySem.W.nsIn K mainGlobals "_law_table" = some (some (.ref f__law_table)))
    (fl__law_table : K.lookup f__law_table = some ⟨fo__law_table, fD__law_table, .func (PySem.W.fnOf "_law_table" "_law_table" (defArgs (top 48)) (defBody (top 48)) (defScope (top 48)) .none fk__law_table fe__law_table fm__law_table fN__law_table fc__law_table ft__law_table), fS__law_table⟩)
    (fcc__law_table : PySem.W.codeIn K fc__law_table "_law_table" = true)
    (fq__law_table : PySem.W.keepIn K (.ref f__law_table) = true)
    {fo__law_of_table fk__law_of_table fe__law_of_table fm__law_of_table fc__law_of_table ft__law_of_table : Value} {fD__law_of_table fN__law_of_table : Option Addr} {fS__law_of_table : Array (Option Value)}
    (fa__law_of_table : PySem.W.nsIn K mainGlobals "_law_of_table" = some (some (.ref f__law_of_table)))
    (fl__law_of_table : K.lookup f__law_of_table = some ⟨fo__law_of_table, fD__law_of_table, .func (PySem.W.fnOf "_law_of_table" "_law_of_table" (defArgs (top 49)) (defBody (top 49)) (defScope (top 49)) .none fk__law_of_table fe__law_of_table fm__law_of_table fN__law_of_table fc__law_of_table ft__law_of_table), fS__law_of_table⟩)
    (fcc__law_of_table : PySem.W.codeIn K fc__law_of_table "_law_of_table" = true)
    (fq__law_of_table : PySem.W.keepIn K (.ref f__law_of_table) = true)
    {fo__law_flipped fk__law_flipped fe__law_flipped fm__law_flipped fc__law_flipped ft__law_flipped : Value} {fD__law_flipped fN__law_flipped : Option Addr} {fS__law_flipped : Array (Option Value)}
    (fa__law_flipped : PySem.W.nsIn K mainGlobals "_law_flipped" = some (some (.ref f__law_flipped)))
    (fl__law_flipped : K.lookup f__law_flipped = some ⟨fo__law_flipped, fD__law_flipped, .func (PySem.W.fnOf "_law_flipped" "_law_flipped" (defArgs (top 50)) (defBody (top 50)) (defScope (top 50)) .none fk__law_flipped fe__law_flipped fm__law_flipped fN__law_flipped fc__law_flipped ft__law_flipped), fS__law_flipped⟩)
    (fcc__law_flipped : PySem.W.codeIn K fc__law_flipped "_law_flipped" = true)
    (fq__law_flipped : PySem.W.keepIn K (.ref f__law_flipped) = true)
    {fo__law_lots fk__law_lots fe__law_lots fm__law_lots fc__law_lots ft__law_lots : Value} {fD__law_lots fN__law_lots : Option Addr} {fS__law_lots : Array (Option Value)}
    (fa__law_lots : PySem.W.nsIn K mainGlobals "_law_lots" = some (some (.ref f__law_lots)))
    (fl__law_lots : K.lookup f__law_lots = some ⟨fo__law_lots, fD__law_lots, .func (PySem.W.fnOf "_law_lots" "_law_lots" (defArgs (top 51)) (defBody (top 51)) (defScope (top 51)) .none fk__law_lots fe__law_lots fm__law_lots fN__law_lots fc__law_lots ft__law_lots), fS__law_lots⟩)
    (fcc__law_lots : PySem.W.codeIn K fc__law_lots "_law_lots" = true)
    (fq__law_lots : PySem.W.keepIn K (.ref f__law_lots) = true)
    {fo__law_round fk__law_round fe__law_round fm__law_round fc__law_round ft__law_round : Value} {fD__law_round fN__law_round : Option Addr} {fS__law_round : Array (Option Value)}
    (fa__law_round : PySem.W.nsIn K mainGlobals "_law_round" = some (some (.ref f__law_round)))
    (fl__law_round : K.lookup f__law_round = some ⟨fo__law_round, fD__law_round, .func (PySem.W.fnOf "_law_round" "_law_round" (defArgs (top 52)) (defBody (top 52)) (defScope (top 52)) .none fk__law_round fe__law_round fm__law_round fN__law_round fc__law_round ft__law_round), fS__law_round⟩)
    (fcc__law_round : PySem.W.codeIn K fc__law_round "_law_round" = true)
    (fq__law_round : PySem.W.keepIn K (.ref f__law_round) = true)
    {fo__law_odd_rounds fk__law_odd_rounds fe__law_odd_rounds fm__law_odd_rounds fc__law_odd_rounds ft__law_odd_rounds : Value} {fD__law_odd_rounds fN__law_odd_rounds : Option Addr} {fS__law_odd_rounds : Array (Option Value)}
    (fa__law_odd_rounds : PySem.W.nsIn K mainGlobals "_law_odd_rounds" = some (some (.ref f__law_odd_rounds)))
    (fl__law_odd_rounds : K.lookup f__law_odd_rounds = some ⟨fo__law_odd_rounds, fD__law_odd_rounds, .func (PySem.W.fnOf "_law_odd_rounds" "_law_odd_rounds" (defArgs (top 53)) (defBody (top 53)) (defScope (top 53)) .none fk__law_odd_rounds fe__law_odd_rounds fm__law_odd_rounds fN__law_odd_rounds fc__law_odd_rounds ft__law_odd_rounds), fS__law_odd_rounds⟩)
    (fcc__law_odd_rounds : PySem.W.codeIn K fc__law_odd_rounds "_law_odd_rounds" = true)
    (fq__law_odd_rounds : PySem.W.keepIn K (.ref f__law_odd_rounds) = true)
    {fo__law_multi fk__law_multi fe__law_multi fm__law_multi fc__law_multi ft__law_multi : Value} {fD__law_multi fN__law_multi : Option Addr} {fS__law_multi : Array (Option Value)}
    (fa__law_multi : PySem.W.nsIn K mainGlobals "_law_multi" = some (some (.ref f__law_multi)))
    (fl__law_multi : K.lookup f__law_multi = some ⟨fo__law_multi, fD__law_multi, .func (PySem.W.fnOf "_law_multi" "_law_multi" (defArgs (top 54)) (defBody (top 54)) (defScope (top 54)) .none fk__law_multi fe__law_multi fm__law_multi fN__law_multi fc__law_multi ft__law_multi), fS__law_multi⟩)
    (fcc__law_multi : PySem.W.codeIn K fc__law_multi "_law_multi" = true)
    (fq__law_multi : PySem.W.keepIn K (.ref f__law_multi) = true)
    {fo__law_at fk__law_at fe__law_at fm__law_at fc__law_at ft__law_at : Value} {fD__law_at fN__law_at : Option Addr} {fS__law_at : Array (Option Value)}
    (fa__law_at : PySem.W.nsIn K mainGlobals "_law_at" = some (some (.ref f__law_at)))
    (fl__law_at : K.lookup f__law_at = some ⟨fo__law_at, fD__law_at, .func (PySem.W.fnOf "_law_at" "_law_at" (defArgs (top 55)) (defBody (top 55)) (defScope (top 55)) .none fk__law_at fe__law_at fm__law_at fN__law_at fc__law_at ft__law_at), fS__law_at⟩)
    (fcc__law_at : PySem.W.codeIn K fc__law_at "_law_at" = true)
    (fq__law_at : PySem.W.keepIn K (.ref f__law_at) = true)
    {fo__law_near fk__law_near fe__law_near fm__law_near fc__law_near ft__law_near : Value} {fD__law_near fN__law_near : Option Addr} {fS__law_near : Array (Option Value)}
    (fa__law_near : PySem.W.nsIn K mainGlobals "_law_near" = some (some (.ref f__law_near)))
    (fl__law_near : K.lookup f__law_near = some ⟨fo__law_near, fD__law_near, .func (PySem.W.fnOf "_law_near" "_law_near" (defArgs (top 56)) (defBody (top 56)) (defScope (top 56)) .none fk__law_near fe__law_near fm__law_near fN__law_near fc__law_near ft__law_near), fS__law_near⟩)
    (fcc__law_near : PySem.W.codeIn K fc__law_near "_law_near" = true)
    (fq__law_near : PySem.W.keepIn K (.ref f__law_near) = true)
    {fo__law_degree fk__law_degree fe__law_degree fm__law_degree fc__law_degree ft__law_degree : Value} {fD__law_degree fN__law_degree : Option Addr} {fS__law_degree : Array (Option Value)}
    (fa__law_degree : PySem.W.nsIn K mainGlobals "_law_degree" = some (some (.ref f__law_degree)))
    (fl__law_degree : K.lookup f__law_degree = some ⟨fo__law_degree, fD__law_degree, .func (PySem.W.fnOf "_law_degree" "_law_degree" (defArgs (top 57)) (defBody (top 57)) (defScope (top 57)) .none fk__law_degree fe__law_degree fm__law_degree fN__law_degree fc__law_degree ft__law_degree), fS__law_degree⟩)
    (fcc__law_degree : PySem.W.codeIn K fc__law_degree "_law_degree" = true)
    (fq__law_degree : PySem.W.keepIn K (.ref f__law_degree) = true)
    {fo__law_line fk__law_line fe__law_line fm__law_line fc__law_line ft__law_line : Value} {fD__law_line fN__law_line : Option Addr} {fS__law_line : Array (Option Value)}
    (fa__law_line : PySem.W.nsIn K mainGlobals "_law_line" = some (some (.ref f__law_line)))
    (fl__law_line : K.lookup f__law_line = some ⟨fo__law_line, fD__law_line, .func (PySem.W.fnOf "_law_line" "_law_line" (defArgs (top 58)) (defBody (top 58)) (defScope (top 58)) .none fk__law_line fe__law_line fm__law_line fN__law_line fc__law_line ft__law_line), fS__law_line⟩)
    (fcc__law_line : PySem.W.codeIn K fc__law_line "_law_line" = true)
    (fq__law_line : PySem.W.keepIn K (.ref f__law_line) = true)
    {fo__law_is_proper fk__law_is_proper fe__law_is_proper fm__law_is_proper fc__law_is_proper ft__law_is_proper : Value} {fD__law_is_proper fN__law_is_proper : Option Addr} {fS__law_is_proper : Array (Option Value)}
    (fa__law_is_proper : PySem.W.nsIn K mainGlobals "_law_is_proper" = some (some (.ref f__law_is_proper)))
    (fl__law_is_proper : K.lookup f__law_is_proper = some ⟨fo__law_is_proper, fD__law_is_proper, .func (PySem.W.fnOf "_law_is_proper" "_law_is_proper" (defArgs (top 59)) (defBody (top 59)) (defScope (top 59)) .none fk__law_is_proper fe__law_is_proper fm__law_is_proper fN__law_is_proper fc__law_is_proper ft__law_is_proper), fS__law_is_proper⟩)
    (fcc__law_is_proper : PySem.W.codeIn K fc__law_is_proper "_law_is_proper" = true)
    (fq__law_is_proper : PySem.W.keepIn K (.ref f__law_is_proper) = true)
    {fo__law_right fk__law_right fe__law_right fm__law_right fc__law_right ft__law_right : Value} {fD__law_right fN__law_right : Option Addr} {fS__law_right : Array (Option Value)}
    (fa__law_right : PySem.W.nsIn K mainGlobals "_law_right" = some (some (.ref f__law_right)))
    (fl__law_right : K.lookup f__law_right = some ⟨fo__law_right, fD__law_right, .func (PySem.W.fnOf "_law_right" "_law_right" (defArgs (top 60)) (defBody (top 60)) (defScope (top 60)) .none fk__law_right fe__law_right fm__law_right fN__law_right fc__law_right ft__law_right), fS__law_right⟩)
    (fcc__law_right : PySem.W.codeIn K fc__law_right "_law_right" = true)
    (fq__law_right : PySem.W.keepIn K (.ref f__law_right) = true)
    {fo_law fk_law fe_law fm_law fc_law ft_law : Value} {fD_law fN_law : Option Addr} {fS_law : Array (Option Value)}
    (fa_law : PySem.W.nsIn K mainGlobals "law" = some (some (.ref f_law)))
    (fl_law : K.lookup f_law = some ⟨fo_law, fD_law, .func (PySem.W.fnOf "law" "law" (defArgs (top 61)) (defBody (top 61)) (defScope (top 61)) .none fk_law fe_law fm_law fN_law fc_law ft_law), fS_law⟩)
    (fcc_law : PySem.W.codeIn K fc_law "law" = true)
    (fq_law : PySem.W.keepIn K (.ref f_law) = true)
    (gV : PySem.W.nsIn K mainGlobals "MOST_VERTICES" = some (some (.int 9 tkV)))
    (gS : PySem.W.nsIn K mainGlobals "MOST_ON_A_SIDE" = some (some (.int 9 tkS)))
    (gE : PySem.W.nsIn K mainGlobals "MOST_EDGES" = some (some (.int 9 tkE)))
    (z_len : PySem.W.nsIn K mainGlobals "len" = some none)
    (z_int : PySem.W.nsIn K mainGlobals "int" = some none)
    (z_abs : PySem.W.nsIn K mainGlobals "abs" = some none)
    (z_divmod : PySem.W.nsIn K mainGlobals "divmod" = some none)
    (z_repr : PySem.W.nsIn K mainGlobals "repr" = some none)
    (z_range : PySem.W.nsIn K mainGlobals "range" = some none)
    (z_all : PySem.W.nsIn K mainGlobals "all" = some none)
    (z_any : PySem.W.nsIn K mainGlobals "any" = some none)
    (z_max : PySem.W.nsIn K mainGlobals "max" = some none)
    (z_min : PySem.W.nsIn K mainGlobals "min" = some none)
    (z_list : PySem.W.nsIn K mainGlobals "list" = some none)
    (z_tuple : PySem.W.nsIn K mainGlobals "tuple" = some none)
    (z_sorted : PySem.W.nsIn K mainGlobals "sorted" = some none)
    (z_type : PySem.W.nsIn K mainGlobals "type" = some none)
    (z_set : PySem.W.nsIn K mainGlobals "set" = some none)
    (z_zip : PySem.W.nsIn K mainGlobals "zip" = some none)
    (z_sum : PySem.W.nsIn K mainGlobals "sum" = some none)
    (z_enumerate : PySem.W.nsIn K mainGlobals "enumerate" = some none)
    (z_isinstance : PySem.W.nsIn K mainGlobals "isinstance" = some none)
    (z_bool : PySem.W.nsIn K mainGlobals "bool" = some none)
    (z_str : PySem.W.nsIn K mainGlobals "str" = some none)
    : ∃ fd : FuncData, (∀ (s : Shared) (v : Value), BindsTo s fd ⟨[v], []⟩ [("script", v)]) ∧ ∀ base : Heap, K.In base → base.Ns mainGlobals mg → FnG l.prog w K mg base CX0 9 fa fd ["script"] (spLaw K) := by
  have e := hfa.symm.trans (PySem.W.mg_of X GN fa_law)
  cases e
  have F_is_whole := fun_mk (st := top 6) fl_is_whole fcc_is_whole fq_is_whole
  have B_is_whole := F_is_whole.binds (ps := ["value", "low", "high"]) fun _ _ _ _ _ _ us hl => match us, hl with | [_, _, _], _ => rfl
  have F_is_whole_from := fun_mk (st := top 7) fl_is_whole_from fcc_is_whole_from fq_is_whole_from
  have B_is_whole_from := F_is_whole_from.binds (ps := ["value", "low"]) fun _ _ _ _ _ _ us hl => match us, hl with | [_, _], _ => rfl
  have F_is_tuple_of_two := fun_mk (st := top 8) fl_is_tuple_of_two fcc_is_tuple_of_two fq_is_tuple_of_two
  have B_is_tuple_of_two := F_is_tuple_of_two.binds (ps := ["value"]) fun _ _ _ _ _ _ us hl => match us, hl with | [_], _ => rfl
  have F_is_ascending := fun_mk (st := top 9) fl_is_ascending fcc_is_ascending fq_is_ascending
  have B_is_ascending := F_is_ascending.binds (ps := ["row"]) fun _ _ _ _ _ _ us hl => match us, hl with | [_], _ => rfl
  have F_is_graph := fun_mk (st := top 10) fl_is_graph fcc_is_graph fq_is_graph
  have B_is_graph := F_is_graph.binds (ps := ["value"]) fun _ _ _ _ _ _ us hl => match us, hl with | [_], _ => rfl
  have F_is_vertex_pair := fun_mk (st := top 11) fl_is_vertex_pair fcc_is_vertex_pair fq_is_vertex_pair
  have B_is_vertex_pair := F_is_vertex_pair.binds (ps := ["value", "many"]) fun _ _ _ _ _ _ us hl => match us, hl with | [_, _], _ => rfl
  have F_check_graph := fun_mk (st := top 12) fl_check_graph fcc_check_graph fq_check_graph
  have B_check_graph := F_check_graph.binds (ps := ["graph"]) fun _ _ _ _ _ _ us hl => match us, hl with | [_], _ => rfl
  have F_neighbour_masks := fun_mk (st := top 13) fl_neighbour_masks fcc_neighbour_masks fq_neighbour_masks
  have B_neighbour_masks := F_neighbour_masks.binds (ps := ["graph"]) fun _ _ _ _ _ _ us hl => match us, hl with | [_], _ => rfl
  have F_lot_of := fun_mk (st := top 14) fl_lot_of fcc_lot_of fq_lot_of
  have B_lot_of := F_lot_of.binds (ps := ["mask"]) fun _ _ _ _ _ _ us hl => match us, hl with | [_], _ => rfl
  have F_clique_number := fun_mk (st := top 16) fl_clique_number fcc_clique_number fq_clique_number
  have B_clique_number := F_clique_number.binds (ps := ["graph"]) fun _ _ _ _ _ _ us hl => match us, hl with | [_], _ => rfl
  have F_chromatic_number := fun_mk (st := top 17) fl_chromatic_number fcc_chromatic_number fq_chromatic_number
  have B_chromatic_number := F_chromatic_number.binds (ps := ["graph"]) fun _ _ _ _ _ _ us hl => match us, hl with | [_], _ => rfl
  have F_is_colouring := fun_mk (st := top 18) fl_is_colouring fcc_is_colouring fq_is_colouring
  have B_is_colouring := F_is_colouring.binds (ps := ["graph", "value"]) fun _ _ _ _ _ _ us hl => match us, hl with | [_, _], _ => rfl
  have F_colouring := fun_mk (st := top 19) fl_colouring fcc_colouring fq_colouring
  have B_colouring := F_colouring.binds (ps := ["graph"]) fun _ _ _ _ _ _ us hl => match us, hl with | [_], _ => rfl
  have F_clique_numbers := fun_mk (st := top 20) fl_clique_numbers fcc_clique_numbers fq_clique_numbers
  have B_clique_numbers := F_clique_numbers.binds (ps := ["neighbours"]) fun _ _ _ _ _ _ us hl => match us, hl with | [_], _ => rfl
  have F_chromatic_numbers := fun_mk (st := top 21) fl_chromatic_numbers fcc_chromatic_numbers fq_chromatic_numbers
  have B_chromatic_numbers := F_chromatic_numbers.binds (ps := ["neighbours"]) fun _ _ _ _ _ _ us hl => match us, hl with | [_], _ => rfl
  have F__stable_masks_by_greatest := fun_mk (st := top 22) fl__stable_masks_by_greatest fcc__stable_masks_by_greatest fq__stable_masks_by_greatest
  have B__stable_masks_by_greatest := F__stable_masks_by_greatest.binds (ps := ["neighbours"]) fun _ _ _ _ _ _ us hl => match us, hl with | [_], _ => rfl
  have F_is_multigraph := fun_mk (st := top 26) fl_is_multigraph fcc_is_multigraph fq_is_multigraph
  have B_is_multigraph := F_is_multigraph.binds (ps := ["value"]) fun _ _ _ _ _ _ us hl => match us, hl with | [_], _ => rfl
  have F__is_edge := fun_mk (st := top 27) fl__is_edge fcc__is_edge fq__is_edge
  have B__is_edge := F__is_edge.binds (ps := ["value", "left", "right"]) fun _ _ _ _ _ _ us hl => match us, hl with | [_, _, _], _ => rfl
  have F__is_never_falling := fun_mk (st := top 28) fl__is_never_falling fcc__is_never_falling fq__is_never_falling
  have B__is_never_falling := F__is_never_falling.binds (ps := ["edges"]) fun _ _ _ _ _ _ us hl => match us, hl with | [_], _ => rfl
  have F_check_multigraph := fun_mk (st := top 29) fl_check_multigraph fcc_check_multigraph fq_check_multigraph
  have B_check_multigraph := F_check_multigraph.binds (ps := ["multigraph"]) fun _ _ _ _ _ _ us hl => match us, hl with | [_], _ => rfl
  have F_edges_at_left := fun_mk (st := top 30) fl_edges_at_left fcc_edges_at_left fq_edges_at_left
  have B_edges_at_left := F_edges_at_left.binds (ps := ["multigraph"]) fun _ _ _ _ _ _ us hl => match us, hl with | [_], _ => rfl
  have F_edges_at_right := fun_mk (st := top 31) fl_edges_at_right fcc_edges_at_right fq_edges_at_right
  have B_edges_at_right := F_edges_at_right.binds (ps := ["multigraph"]) fun _ _ _ _ _ _ us hl => match us, hl with | [_], _ => rfl
  have F__edges_at := fun_mk (st := top 32) fl__edges_at fcc__edges_at fq__edges_at
  have B__edges_at := F__edges_at.binds (ps := ["multigraph", "side"]) fun _ _ _ _ _ _ us hl => match us, hl with | [_, _], _ => rfl
  have F_greatest_degree := fun_mk (st := top 33) fl_greatest_degree fcc_greatest_degree fq_greatest_degree
  have B_greatest_degree := F_greatest_degree.binds (ps := ["multigraph"]) fun _ _ _ _ _ _ us hl => match us, hl with | [_], _ => rfl
  have F_line_graph := fun_mk (st := top 34) fl_line_graph fcc_line_graph fq_line_graph
  have B_line_graph := F_line_graph.binds (ps := ["multigraph"]) fun _ _ _ _ _ _ us hl => match us, hl with | [_], _ => rfl
  have F__do_meet := fun_mk (st := top 35) fl__do_meet fcc__do_meet fq__do_meet
  have B__do_meet := F__do_meet.binds (ps := ["edge", "other"]) fun _ _ _ _ _ _ us hl => match us, hl with | [_, _], _ => rfl
  have F_is_edge_colouring := fun_mk (st := top 36) fl_is_edge_colouring fcc_is_edge_colouring fq_is_edge_colouring
  have B_is_edge_colouring := F_is_edge_colouring.binds (ps := ["multigraph", "value"]) fun _ _ _ _ _ _ us hl => match us, hl with | [_, _], _ => rfl
  have F_edge_colouring := fun_mk (st := top 37) fl_edge_colouring fcc_edge_colouring fq_edge_colouring
  have B_edge_colouring := F_edge_colouring.binds (ps := ["multigraph"]) fun _ _ _ _ _ _ us hl => match us, hl with | [_], _ => rfl
  have F_is_perfect := fun_mk (st := top 39) fl_is_perfect fcc_is_perfect fq_is_perfect
  have B_is_perfect := F_is_perfect.binds (ps := ["graph"]) fun _ _ _ _ _ _ us hl => match us, hl with | [_], _ => rfl
  have F__lacking_masks := fun_mk (st := top 40) fl__lacking_masks fcc__lacking_masks fq__lacking_masks
  have B__lacking_masks := F__lacking_masks.binds (ps := ["graph"]) fun _ _ _ _ _ _ us hl => match us, hl with | [_], _ => rfl
  have F__law_pot := fun_mk (st := top 42) fl__law_pot fcc__law_pot fq__law_pot
  have B__law_pot := F__law_pot.binds (ps := ["script", "turn"]) fun _ _ _ _ _ _ us hl => match us, hl with | [_, _], _ => rfl
  have F__law_draw := fun_mk (st := top 43) fl__law_draw fcc__law_draw fq__law_draw
  have B__law_draw := F__law_draw.binds (ps := ["pot", "few"]) fun _ _ _ _ _ _ us hl => match us, hl with | [_, _], _ => rfl
  have F__law_pick := fun_mk (st := top 44) fl__law_pick fcc__law_pick fq__law_pick
  have B__law_pick := F__law_pick.binds (ps := ["pot", "some"]) fun _ _ _ _ _ _ us hl => match us, hl with | [_, _], _ => rfl
  have F__law_odd := fun_mk (st := top 45) fl__law_odd fcc__law_odd fq__law_odd
  have B__law_odd := F__law_odd.binds (ps := ["pot"]) fun _ _ _ _ _ _ us hl => match us, hl with | [_], _ => rfl
  have F__law_bent := fun_mk (st := top 46) fl__law_bent fcc__law_bent fq__law_bent
  have B__law_bent := F__law_bent.binds (ps := ["pot", "value", "deep"]) fun _ _ _ _ _ _ us hl => match us, hl with | [_, _, _], _ => rfl
  have F__law_is_whole := fun_mk (st := top 47) fl__law_is_whole fcc__law_is_whole fq__law_is_whole
  have B__law_is_whole := F__law_is_whole.binds (ps := ["value"]) fun _ _ _ _ _ _ us hl => match us, hl with | [_], _ => rfl
  have F__law_table := fun_mk (st := top 48) fl__law_table fcc__law_table fq__law_table
  have B__law_table := F__law_table.binds (ps := ["graph"]) fun _ _ _ _ _ _ us hl => match us, hl with | [_], _ => rfl
  have F__law_of_table := fun_mk (st := top 49) fl__law_of_table fcc__law_of_table fq__law_of_table
  have B__law_of_table := F__law_of_table.binds (ps := ["rows"]) fun _ _ _ _ _ _ us hl => match us, hl with | [_], _ => rfl
  have F__law_flipped := fun_mk (st := top 50) fl__law_flipped fcc__law_flipped fq__law_flipped
  have B__law_flipped := F__law_flipped.binds (ps := ["graph"]) fun _ _ _ _ _ _ us hl => match us, hl with | [_], _ => rfl
  have F__law_lots := fun_mk (st := top 51) fl__law_lots fcc__law_lots fq__law_lots
  have B__law_lots := F__law_lots.binds (ps := ["many"]) fun _ _ _ _ _ _ us hl => match us, hl with | [_], _ => rfl
  have F__law_round := fun_mk (st := top 52) fl__law_round fcc__law_round fq__law_round
  have B__law_round := F__law_round.binds (ps := ["rows", "lot"]) fun _ _ _ _ _ _ us hl => match us, hl with | [_, _], _ => rfl
  have F__law_odd_rounds := fun_mk (st := top 53) fl__law_odd_rounds fcc__law_odd_rounds fq__law_odd_rounds
  have B__law_odd_rounds := F__law_odd_rounds.binds (ps := ["graph"]) fun _ _ _ _ _ _ us hl => match us, hl with | [_], _ => rfl
  have F__law_multi := fun_mk (st := top 54) fl__law_multi fcc__law_multi fq__law_multi
  have B__law_multi := F__law_multi.binds (ps := ["pot", "most"]) fun _ _ _ _ _ _ us hl => match us, hl with | [_, _], _ => rfl
  have F__law_at := fun_mk (st := top 55) fl__law_at fcc__law_at fq__law_at
  have B__law_at := F__law_at.binds (ps := ["multi", "side", "vertex"]) fun _ _ _ _ _ _ us hl => match us, hl with | [_, _, _], _ => rfl
  have F__law_near := fun_mk (st := top 56) fl__law_near fcc__law_near fq__law_near
  have B__law_near := F__law_near.binds (ps := ["multi", "one", "two"]) fun _ _ _ _ _ _ us hl => match us, hl with | [_, _, _], _ => rfl
  have F__law_degree := fun_mk (st := top 57) fl__law_degree fcc__law_degree fq__law_degree
  have B__law_degree := F__law_degree.binds (ps := ["multi"]) fun _ _ _ _ _ _ us hl => match us, hl with | [_], _ => rfl
  have F__law_line := fun_mk (st := top 58) fl__law_line fcc__law_line fq__law_line
  have B__law_line := F__law_line.binds (ps := ["multi"]) fun _ _ _ _ _ _ us hl => match us, hl with | [_], _ => rfl
  have F__law_is_proper := fun_mk (st := top 59) fl__law_is_proper fcc__law_is_proper fq__law_is_proper
  have B__law_is_proper := F__law_is_proper.binds (ps := ["multi", "value", "most"]) fun _ _ _ _ _ _ us hl => match us, hl with | [_, _, _], _ => rfl
  have F__law_right := fun_mk (st := top 60) fl__law_right fcc__law_right fq__law_right
  have B__law_right := F__law_right.binds (ps := ["pot"]) fun _ _ _ _ _ _ us hl => match us, hl with | [_], _ => rfl
  have F_law := fun_mk (st := top 61) fl_law fcc_law fq_law
  have B_law := F_law.binds (ps := ["script"]) fun _ _ _ _ _ _ us hl => match us, hl with | [_], _ => rfl
  have m_len := PySem.W.mg_none_of X GN z_len
  have m_int := PySem.W.mg_none_of X GN z_int
  have m_abs := PySem.W.mg_none_of X GN z_abs
  have m_divmod := PySem.W.mg_none_of X GN z_divmod
  have m_repr := PySem.W.mg_none_of X GN z_repr
  have m_range := PySem.W.mg_none_of X GN z_range
  have m_all := PySem.W.mg_none_of X GN z_all
  have m_any := PySem.W.mg_none_of X GN z_any
  have m_max := PySem.W.mg_none_of X GN z_max
  have m_min := PySem.W.mg_none_of X GN z_min
  have m_list := PySem.W.mg_none_of X GN z_list
  have m_tuple := PySem.W.mg_none_of X GN z_tuple
  have m_sorted := PySem.W.mg_none_of X GN z_sorted
  have m_type := PySem.W.mg_none_of X GN z_type
  have m_set := PySem.W.mg_none_of X GN z_set
  have m_zip := PySem.W.mg_none_of X GN z_zip
  have m_sum := PySem.W.mg_none_of X GN z_sum
  have m_enumerate := PySem.W.mg_none_of X GN z_enumerate
  have m_isinstance := PySem.W.mg_none_of X GN z_isinstance
  have m_bool := PySem.W.mg_none_of X GN z_bool
  have m_str := PySem.W.mg_none_of X GN z_str
  have mV := PySem.W.mg_of X GN gV
  have mS := PySem.W.mg_of X GN gS
  have mE := PySem.W.mg_of X GN gE
  refine ⟨PySem.W.fnOf "law" "law" (defArgs (top 61)) (defBody (top 61)) (defScope (top 61)) .none fk_law fe_law fm_law fN_law fc_law ft_law, fun s v => .of_eq rfl, fun base _ _ => ?_⟩
  have O__law_pot := ok_pot (P := l.prog) (w := w) (K := K) (mg := mg) (base := base) F__law_pot m_len m_int m_abs
  have O__law_draw := ok_draw (P := l.prog) (w := w) (K := K) (mg := mg) (base := base) F__law_draw m_divmod m_int
  have O__law_pick := ok_pickL (P := l.prog) (w := w) (K := K) (mg := mg) (base := base) F__law_pick O__law_draw B__law_draw fq__law_draw (PySem.W.mg_of X GN fa__law_draw) m_len
  have O__law_odd := ok_odd (P := l.prog) (w := w) (K := K) (mg := mg) (base := base) F__law_odd O__law_pick B__law_pick fq__law_pick (PySem.W.mg_of X GN fa__law_pick)
  have O__law_bent := ok_bent (P := l.prog) (w := w) (K := K) (mg := mg) (base := base) F__law_bent B__law_bent fq__law_bent (PySem.W.mg_of X GN fa__law_bent) O__law_draw B__law_draw fq__law_draw (PySem.W.mg_of X GN fa__law_draw) O__law_pick B__law_pick fq__law_pick (PySem.W.mg_of X GN fa__law_pick) O__law_odd B__law_odd fq__law_odd (PySem.W.mg_of X GN fa__law_odd) m_isinstance m_tuple m_len m_list m_int m_str 3
  have O_is_whole_from := ok_whole_from (P := l.prog) (w := w) (K := K) (mg := mg) (base := base) F_is_whole_from m_type m_int
  have O_is_whole := ok_is_whole (P := l.prog) (w := w) (K := K) (mg := mg) (base := base) F_is_whole O_is_whole_from B_is_whole_from fq_is_whole_from (PySem.W.mg_of X GN fa_is_whole_from)
  have O_is_tuple_of_two := ok_is_two (P := l.prog) (w := w) (K := K) (mg := mg) (base := base) F_is_tuple_of_two m_type m_tuple m_len
  have O_is_ascending := ok_asc (P := l.prog) (w := w) (K := K) (mg := mg) (base := base) F_is_ascending m_all m_zip
  have O_is_vertex_pair := ok_vp (P := l.prog) (w := w) (K := K) (mg := mg) (base := base) F_is_vertex_pair O_is_tuple_of_two B_is_tuple_of_two fq_is_tuple_of_two (PySem.W.mg_of X GN fa_is_tuple_of_two) O_is_whole B_is_whole fq_is_whole (PySem.W.mg_of X GN fa_is_whole) m_all
  have O_is_graph := ok_is_graph (P := l.prog) (w := w) (K := K) (mg := mg) (base := base) F_is_graph O_is_tuple_of_two B_is_tuple_of_two fq_is_tuple_of_two (PySem.W.mg_of X GN fa_is_tuple_of_two) O_is_whole B_is_whole fq_is_whole (PySem.W.mg_of X GN fa_is_whole) O_is_vertex_pair B_is_vertex_pair fq_is_vertex_pair (PySem.W.mg_of X GN fa_is_vertex_pair) O_is_ascending B_is_ascending fq_is_ascending (PySem.W.mg_of X GN fa_is_ascending) tkV mV m_type m_tuple m_all
  have O_check_graph := ok_check_graph (P := l.prog) (w := w) (K := K) (mg := mg) (base := base) F_check_graph O_is_graph B_is_graph fq_is_graph (PySem.W.mg_of X GN fa_is_graph)
  have O__law_is_whole := ok_lwh (P := l.prog) (w := w) (K := K) (mg := mg) (base := base) F__law_is_whole m_isinstance m_int m_bool
  have O__law_multi := ok_multi (P := l.prog) (w := w) (K := K) (mg := mg) (base := base) F__law_multi O__law_draw B__law_draw fq__law_draw (PySem.W.mg_of X GN fa__law_draw) O__law_pick B__law_pick fq__law_pick (PySem.W.mg_of X GN fa__law_pick) m_range m_tuple m_sorted
  have O__law_at := ok_at (P := l.prog) (w := w) (K := K) (mg := mg) (base := base) F__law_at m_range m_len m_tuple
  have O__law_near := ok_near (P := l.prog) (w := w) (K := K) (mg := mg) (base := base) F__law_near 
  have O__law_degree := ok_deg (P := l.prog) (w := w) (K := K) (mg := mg) (base := base) F__law_degree O__law_at B__law_at fq__law_at (PySem.W.mg_of X GN fa__law_at) m_range m_len m_max
  have O__law_line := ok_line (P := l.prog) (w := w) (K := K) (mg := mg) (base := base) F__law_line O__law_near B__law_near fq__law_near (PySem.W.mg_of X GN fa__law_near) m_range m_len m_tuple
  have O__is_edge := ok_pedge (P := l.prog) (w := w) (K := K) (mg := mg) (base := base) F__is_edge O_is_tuple_of_two B_is_tuple_of_two fq_is_tuple_of_two (PySem.W.mg_of X GN fa_is_tuple_of_two) O_is_whole B_is_whole fq_is_whole (PySem.W.mg_of X GN fa_is_whole)
  have O__is_never_falling := ok_pnev (P := l.prog) (w := w) (K := K) (mg := mg) (base := base) F__is_never_falling m_all m_zip
  have O_is_multigraph := ok_pismul (P := l.prog) (w := w) (K := K) (mg := mg) (base := base) F_is_multigraph O_is_whole B_is_whole fq_is_whole (PySem.W.mg_of X GN fa_is_whole) O__is_edge B__is_edge fq__is_edge (PySem.W.mg_of X GN fa__is_edge) O__is_never_falling B__is_never_falling fq__is_never_falling (PySem.W.mg_of X GN fa__is_never_falling) tkS mS tkE mE m_type m_tuple m_all m_len
  have O_check_multigraph := ok_pcheck (P := l.prog) (w := w) (K := K) (mg := mg) (base := base) F_check_multigraph O_is_multigraph B_is_multigraph fq_is_multigraph (PySem.W.mg_of X GN fa_is_multigraph)
  have O__edges_at := ok_peat (P := l.prog) (w := w) (K := K) (mg := mg) (base := base) F__edges_at m_range m_enumerate
  have O_edges_at_left := ok_pleft (P := l.prog) (w := w) (K := K) (mg := mg) (base := base) F_edges_at_left O__edges_at B__edges_at fq__edges_at (PySem.W.mg_of X GN fa__edges_at)
  have O_edges_at_right := ok_pright (P := l.prog) (w := w) (K := K) (mg := mg) (base := base) F_edges_at_right O__edges_at B__edges_at fq__edges_at (PySem.W.mg_of X GN fa__edges_at)
  have O_greatest_degree := ok_pdeg (P := l.prog) (w := w) (K := K) (mg := mg) (base := base) F_greatest_degree O_check_multigraph B_check_multigraph fq_check_multigraph (PySem.W.mg_of X GN fa_check_multigraph) O_edges_at_left B_edges_at_left fq_edges_at_left (PySem.W.mg_of X GN fa_edges_at_left) O_edges_at_right B_edges_at_right fq_edges_at_right (PySem.W.mg_of X GN fa_edges_at_right) m_len m_max
  have O__do_meet := ok_pmeet (P := l.prog) (w := w) (K := K) (mg := mg) (base := base) F__do_meet 
  have O_line_graph := ok_pline (P := l.prog) (w := w) (K := K) (mg := mg) (base := base) F_line_graph O_check_multigraph B_check_multigraph fq_check_multigraph (PySem.W.mg_of X GN fa_check_multigraph) O__do_meet B__do_meet fq__do_meet (PySem.W.mg_of X GN fa__do_meet) m_len m_range m_tuple
  have O_is_colouring := ok_is_col (P := l.prog) (w := w) (K := K) (mg := mg) (base := base) F_is_colouring O_check_graph B_check_graph fq_check_graph (PySem.W.mg_of X GN fa_check_graph) O_is_whole_from B_is_whole_from fq_is_whole_from (PySem.W.mg_of X GN fa_is_whole_from) m_type m_tuple m_all m_len
  have O__law_is_proper := ok_lprop (P := l.prog) (w := w) (K := K) (mg := mg) (base := base) F__law_is_proper O__law_is_whole B__law_is_whole fq__law_is_whole (PySem.W.mg_of X GN fa__law_is_whole) O__law_near B__law_near fq__law_near (PySem.W.mg_of X GN fa__law_near) m_isinstance m_tuple m_len m_range m_all
  have O__law_table := ok_table (P := l.prog) (w := w) (K := K) (mg := mg) (base := base) F__law_table m_range
  have O__law_of_table := ok_oft (P := l.prog) (w := w) (K := K) (mg := mg) (base := base) F__law_of_table m_range m_len m_tuple
  have O__law_flipped := ok_flip (P := l.prog) (w := w) (K := K) (mg := mg) (base := base) F__law_flipped O__law_table B__law_table fq__law_table (PySem.W.mg_of X GN fa__law_table) O__law_of_table B__law_of_table fq__law_of_table (PySem.W.mg_of X GN fa__law_of_table)
  have O_neighbour_masks := ok_masks (P := l.prog) (w := w) (K := K) (mg := mg) (base := base) F_neighbour_masks 
  have O_lot_of := ok_lot_of (P := l.prog) (w := w) (K := K) (mg := mg) (base := base) F_lot_of m_range m_tuple
  have O__law_lots := ok_lots (P := l.prog) (w := w) (K := K) (mg := mg) (base := base) F__law_lots m_range m_sorted
  have O__law_round := ok_round (P := l.prog) (w := w) (K := K) (mg := mg) (base := base) F__law_round m_range m_len m_all m_tuple
  have O__law_odd_rounds := ok_odd_rounds (P := l.prog) (w := w) (K := K) (mg := mg) (base := base) F__law_odd_rounds O__law_table B__law_table fq__law_table (PySem.W.mg_of X GN fa__law_table) O__law_flipped B__law_flipped fq__law_flipped (PySem.W.mg_of X GN fa__law_flipped) O__law_lots B__law_lots fq__law_lots (PySem.W.mg_of X GN fa__law_lots) O__law_round B__law_round fq__law_round (PySem.W.mg_of X GN fa__law_round) m_len
  have O_clique_numbers := ok_clique_numbers (P := l.prog) (w := w) (K := K) (mg := mg) (base := base) F_clique_numbers m_range m_len m_max
  have O__stable_masks_by_greatest := ok_stb_rows (P := l.prog) (w := w) (K := K) (mg := mg) (base := base) F__stable_masks_by_greatest m_enumerate
  have O_chromatic_numbers := ok_chrom_numbers (P := l.prog) (w := w) (K := K) (mg := mg) (base := base) F_chromatic_numbers O__stable_masks_by_greatest B__stable_masks_by_greatest fq__stable_masks_by_greatest (PySem.W.mg_of X GN fa__stable_masks_by_greatest) m_range m_len m_min
  have O_clique_number := ok_clique_number (P := l.prog) (w := w) (K := K) (mg := mg) (base := base) F_clique_number O_check_graph B_check_graph fq_check_graph (PySem.W.mg_of X GN fa_check_graph) O_neighbour_masks B_neighbour_masks fq_neighbour_masks (PySem.W.mg_of X GN fa_neighbour_masks) O_clique_numbers B_clique_numbers fq_clique_numbers (PySem.W.mg_of X GN fa_clique_numbers)
  have O_chromatic_number := ok_chrom_number (P := l.prog) (w := w) (K := K) (mg := mg) (base := base) F_chromatic_number O_check_graph B_check_graph fq_check_graph (PySem.W.mg_of X GN fa_check_graph) O_neighbour_masks B_neighbour_masks fq_neighbour_masks (PySem.W.mg_of X GN fa_neighbour_masks) O_chromatic_numbers B_chromatic_numbers fq_chromatic_numbers (PySem.W.mg_of X GN fa_chromatic_numbers)
  have O_colouring := ok_colouring (P := l.prog) (w := w) (K := K) (mg := mg) (base := base) F_colouring O_check_graph B_check_graph fq_check_graph (PySem.W.mg_of X GN fa_check_graph) O_neighbour_masks B_neighbour_masks fq_neighbour_masks (PySem.W.mg_of X GN fa_neighbour_masks) O_chromatic_numbers B_chromatic_numbers fq_chromatic_numbers (PySem.W.mg_of X GN fa_chromatic_numbers) O__stable_masks_by_greatest B__stable_masks_by_greatest fq__stable_masks_by_greatest (PySem.W.mg_of X GN fa__stable_masks_by_greatest) O_lot_of B_lot_of fq_lot_of (PySem.W.mg_of X GN fa_lot_of) m_len m_tuple
  have O__lacking_masks := ok_lackm (P := l.prog) (w := w) (K := K) (mg := mg) (base := base) F__lacking_masks O_check_graph B_check_graph fq_check_graph (PySem.W.mg_of X GN fa_check_graph) O_neighbour_masks B_neighbour_masks fq_neighbour_masks (PySem.W.mg_of X GN fa_neighbour_masks) O_clique_numbers B_clique_numbers fq_clique_numbers (PySem.W.mg_of X GN fa_clique_numbers) O_chromatic_numbers B_chromatic_numbers fq_chromatic_numbers (PySem.W.mg_of X GN fa_chromatic_numbers) m_range m_len
  have O_is_perfect := ok_is_perf (P := l.prog) (w := w) (K := K) (mg := mg) (base := base) F_is_perfect O__lacking_masks B__lacking_masks fq__lacking_masks (PySem.W.mg_of X GN fa__lacking_masks)
  have O_is_edge_colouring := ok_iec (P := l.prog) (w := w) (K := K) (mg := mg) (base := base) F_is_edge_colouring O_greatest_degree B_greatest_degree fq_greatest_degree (PySem.W.mg_of X GN fa_greatest_degree) O_is_colouring B_is_colouring fq_is_colouring (PySem.W.mg_of X GN fa_is_colouring) O_line_graph B_line_graph fq_line_graph (PySem.W.mg_of X GN fa_line_graph) m_all
  have O_edge_colouring := ok_eco (P := l.prog) (w := w) (K := K) (mg := mg) (base := base) F_edge_colouring O_colouring B_colouring fq_colouring (PySem.W.mg_of X GN fa_colouring) O_line_graph B_line_graph fq_line_graph (PySem.W.mg_of X GN fa_line_graph)
  have O__law_right := ok_right (P := l.prog) (w := w) (K := K) (mg := mg) (base := base) F__law_right O__law_draw B__law_draw fq__law_draw (PySem.W.mg_of X GN fa__law_draw) O__law_multi B__law_multi fq__law_multi (PySem.W.mg_of X GN fa__law_multi) O__law_degree B__law_degree fq__law_degree (PySem.W.mg_of X GN fa__law_degree) O__law_line B__law_line fq__law_line (PySem.W.mg_of X GN fa__law_line) O_edge_colouring B_edge_colouring (fun s u0 => .of_eq rfl) fq_edge_colouring (PySem.W.mg_of X GN fa_edge_colouring) O__law_is_proper B__law_is_proper fq__law_is_proper (PySem.W.mg_of X GN fa__law_is_proper) O__law_bent B__law_bent fq__law_bent (PySem.W.mg_of X GN fa__law_bent) O__law_odd B__law_odd fq__law_odd (PySem.W.mg_of X GN fa__law_odd) O_is_edge_colouring B_is_edge_colouring (fun s u0 u1 => .of_eq rfl) fq_is_edge_colouring (PySem.W.mg_of X GN fa_is_edge_colouring) O__law_odd_rounds B__law_odd_rounds fq__law_odd_rounds (PySem.W.mg_of X GN fa__law_odd_rounds) O_line_graph B_line_graph fq_line_graph (PySem.W.mg_of X GN fa_line_graph) O_chromatic_number B_chromatic_number fq_chromatic_number (PySem.W.mg_of X GN fa_chromatic_number) O_clique_number B_clique_number fq_clique_number (PySem.W.mg_of X GN fa_clique_number) O_is_perfect B_is_perfect fq_is_perfect (PySem.W.mg_of X GN fa_is_perfect) m_tuple m_repr
  exact ok_law (n := 7) F_law O__law_pot B__law_pot fq__law_pot (PySem.W.mg_of X GN fa__law_pot) O__law_right B__law_right fq__law_right (PySem.W.mg_of X GN fa__law_right) m_range m_len m_all m_max m_min
end My

open PySem PySem.W PyProof.Rows
set_option maxRecDepth 100000 in
set_option maxHeartbeats 0 in
theorem PySem.Challenge.cw_perfectgraphs_k49_whole_konigs_theorem_e_holds : PySem.Challenge.rw_perfectgraphs_k49_whole_konigs_theorem_e.Holds := by
  w_on; o_law; k_head; (case hw => w_witness2)
  k_fill
  refine My.walkG (l := PySem.Challenge.rw_perfectgraphs_k49_whole_konigs_theorem_e) (m := 63) (n := 9) (x := "script") (sp := fun K => My.spLaw K) rfl (by decide) rfl ⟨rfl, by decide, by decide⟩ (fun w h Y => PySem.W.kIn_of Y) ?F (fun K H a ns hl _ hS => ⟨a, ns, rfl, hS, hl, fun _ => rfl⟩)
  case F =>
    intro w mg fa h KX G hmg
    refine' My.all_mk KX G hmg ?fa_is_whole ?fl_is_whole ?fcc_is_whole ?fq_is_whole ?fa_is_whole_from ?fl_is_whole_from ?fcc_is_whole_from ?fq_is_whole_from ?fa_is_tuple_of_two ?fl_is_tuple_of_two ?fcc_is_tuple_of_two ?fq_is_tuple_of_two ?fa_is_ascending ?fl_is_ascending ?fcc_is_ascending ?fq_is_ascending ?fa_is_graph ?fl_is_graph ?fcc_is_graph ?fq_is_graph ?fa_is_vertex_pair ?fl_is_vertex_pair ?fcc_is_vertex_pair ?fq_is_vertex_pair ?fa_check_graph ?fl_check_graph ?fcc_check_graph ?fq_check_graph ?fa_neighbour_masks ?fl_neighbour_masks ?fcc_neighbour_masks ?fq_neighbour_masks ?fa_lot_of ?fl_lot_of ?fcc_lot_of ?fq_lot_of ?fa_clique_number ?fl_clique_number ?fcc_clique_number ?fq_clique_number ?fa_chromatic_number ?fl_chromatic_number ?fcc_chromatic_number ?fq_chromatic_number ?fa_is_colouring ?fl_is_colouring ?fcc_is_colouring ?fq_is_colouring ?fa_colouring ?fl_colouring ?fcc_colouring ?fq_colouring ?fa_clique_numbers ?fl_clique_numbers ?fcc_clique_numbers ?fq_clique_numbers ?fa_chromatic_numbers ?fl_chromatic_numbers ?fcc_chromatic_numbers ?fq_chromatic_numbers ?fa__stable_masks_by_greatest ?fl__stable_masks_by_greatest ?fcc__stable_masks_by_greatest ?fq__stable_masks_by_greatest ?fa_is_multigraph ?fl_is_multigraph ?fcc_is_multigraph ?fq_is_multigraph ?fa__is_edge ?fl__is_edge ?fcc__is_edge ?fq__is_edge ?fa__is_never_falling ?fl__is_never_falling ?fcc__is_never_falling ?fq__is_never_falling ?fa_check_multigraph ?fl_check_multigraph ?fcc_check_multigraph ?fq_check_multigraph ?fa_edges_at_left ?fl_edges_at_left ?fcc_edges_at_left ?fq_edges_at_left ?fa_edges_at_right ?fl_edges_at_right ?fcc_edges_at_right ?fq_edges_at_right ?fa__edges_at ?fl__edges_at ?fcc__edges_at ?fq__edges_at ?fa_greatest_degree ?fl_greatest_degree ?fcc_greatest_degree ?fq_greatest_degree ?fa_line_graph ?fl_line_graph ?fcc_line_graph ?fq_line_graph ?fa__do_meet ?fl__do_meet ?fcc__do_meet ?fq__do_meet ?fa_is_edge_colouring ?fl_is_edge_colouring ?fcc_is_edge_colouring ?fq_is_edge_colouring ?fa_edge_colouring ?fl_edge_colouring ?fcc_edge_colouring ?fq_edge_colouring ?fa_is_perfect ?fl_is_perfect ?fcc_is_perfect ?fq_is_perfect ?fa__lacking_masks ?fl__lacking_masks ?fcc__lacking_masks ?fq__lacking_masks ?fa__law_pot ?fl__law_pot ?fcc__law_pot ?fq__law_pot ?fa__law_draw ?fl__law_draw ?fcc__law_draw ?fq__law_draw ?fa__law_pick ?fl__law_pick ?fcc__law_pick ?fq__law_pick ?fa__law_odd ?fl__law_odd ?fcc__law_odd ?fq__law_odd ?fa__law_bent ?fl__law_bent ?fcc__law_bent ?fq__law_bent ?fa__law_is_whole ?fl__law_is_whole ?fcc__law_is_whole ?fq__law_is_whole ?fa__law_table ?fl__law_table ?fcc__law_table ?fq__law_table ?fa__law_of_table ?fl__law_of_table ?fcc__law_of_table ?fq__law_of_table ?fa__law_flipped ?fl__law_flipped ?fcc__law_flipped ?fq__law_flipped ?fa__law_lots ?fl__law_lots ?fcc__law_lots ?fq__law_lots ?fa__law_round ?fl__law_round ?fcc__law_round ?fq__law_round ?fa__law_odd_rounds ?fl__law_odd_rounds ?fcc__law_odd_rounds ?fq__law_odd_rounds ?fa__law_multi ?fl__law_multi ?fcc__law_multi ?fq__law_multi ?fa__law_at ?fl__law_at ?fcc__law_at ?fq__law_at ?fa__law_near ?fl__law_near ?fcc__law_near ?fq__law_near ?fa__law_degree ?fl__law_degree ?fcc__law_degree ?fq__law_degree ?fa__law_line ?fl__law_line ?fcc__law_line ?fq__law_line ?fa__law_is_proper ?fl__law_is_proper ?fcc__law_is_proper ?fq__law_is_proper ?fa__law_right ?fl__law_right ?fcc__law_right ?fq__law_right ?fa_law ?fl_law ?fcc_law ?fq_law ?gV ?gS ?gE ?z_len ?z_int ?z_abs ?z_divmod ?z_repr ?z_range ?z_all ?z_any ?z_max ?z_min ?z_list ?z_tuple ?z_sorted ?z_type ?z_set ?z_zip ?z_sum ?z_enumerate ?z_isinstance ?z_bool ?z_str
    (case fa_is_whole => k_is)
    (case fl_is_whole => k_is)
    (case fcc_is_whole => k_is)
    (case fq_is_whole => k_is)
    (case fa_is_whole_from => k_is)
    (case fl_is_whole_from => k_is)
    (case fcc_is_whole_from => k_is)
    (case fq_is_whole_from => k_is)
    (case fa_is_tuple_of_two => k_is)
    (case fl_is_tuple_of_two => k_is)
    (case fcc_is_tuple_of_two => k_is)
    (case fq_is_tuple_of_two => k_is)
    (case fa_is_ascending => k_is)
    (case fl_is_ascending => k_is)
    (case fcc_is_ascending => k_is)
    (case fq_is_ascending => k_is)
    (case fa_is_graph => k_is)
    (case fl_is_graph => k_is)
    (case fcc_is_graph => k_is)
    (case fq_is_graph => k_is)
    (case fa_is_vertex_pair => k_is)
    (case fl_is_vertex_pair => k_is)
    (case fcc_is_vertex_pair => k_is)
    (case fq_is_vertex_pair => k_is)
    (case fa_check_graph => k_is)
    (case fl_check_graph => k_is)
    (case fcc_check_graph => k_is)
    (case fq_check_graph => k_is)
    (case fa_neighbour_masks => k_is)
    (case fl_neighbour_masks => k_is)
    (case fcc_neighbour_masks => k_is)
    (case fq_neighbour_masks => k_is)
    (case fa_lot_of => k_is)
    (case fl_lot_of => k_is)
    (case fcc_lot_of => k_is)
    (case fq_lot_of => k_is)
    (case fa_clique_number => k_is)
    (case fl_clique_number => k_is)
    (case fcc_clique_number => k_is)
    (case fq_clique_number => k_is)
    (case fa_chromatic_number => k_is)
    (case fl_chromatic_number => k_is)
    (case fcc_chromatic_number => k_is)
    (case fq_chromatic_number => k_is)
    (case fa_is_colouring => k_is)
    (case fl_is_colouring => k_is)
    (case fcc_is_colouring => k_is)
    (case fq_is_colouring => k_is)
    (case fa_colouring => k_is)
    (case fl_colouring => k_is)
    (case fcc_colouring => k_is)
    (case fq_colouring => k_is)
    (case fa_clique_numbers => k_is)
    (case fl_clique_numbers => k_is)
    (case fcc_clique_numbers => k_is)
    (case fq_clique_numbers => k_is)
    (case fa_chromatic_numbers => k_is)
    (case fl_chromatic_numbers => k_is)
    (case fcc_chromatic_numbers => k_is)
    (case fq_chromatic_numbers => k_is)
    (case fa__stable_masks_by_greatest => k_is)
    (case fl__stable_masks_by_greatest => k_is)
    (case fcc__stable_masks_by_greatest => k_is)
    (case fq__stable_masks_by_greatest => k_is)
    (case fa_is_multigraph => k_is)
    (case fl_is_multigraph => k_is)
    (case fcc_is_multigraph => k_is)
    (case fq_is_multigraph => k_is)
    (case fa__is_edge => k_is)
    (case fl__is_edge => k_is)
    (case fcc__is_edge => k_is)
    (case fq__is_edge => k_is)
    (case fa__is_never_falling => k_is)
    (case fl__is_never_falling => k_is)
    (case fcc__is_never_falling => k_is)
    (case fq__is_never_falling => k_is)
    (case fa_check_multigraph => k_is)
    (case fl_check_multigraph => k_is)
    (case fcc_check_multigraph => k_is)
    (case fq_check_multigraph => k_is)
    (case fa_edges_at_left => k_is)
    (case fl_edges_at_left => k_is)
    (case fcc_edges_at_left => k_is)
    (case fq_edges_at_left => k_is)
    (case fa_edges_at_right => k_is)
    (case fl_edges_at_right => k_is)
    (case fcc_edges_at_right => k_is)
    (case fq_edges_at_right => k_is)
    (case fa__edges_at => k_is)
    (case fl__edges_at => k_is)
    (case fcc__edges_at => k_is)
    (case fq__edges_at => k_is)
    (case fa_greatest_degree => k_is)
    (case fl_greatest_degree => k_is)
    (case fcc_greatest_degree => k_is)
    (case fq_greatest_degree => k_is)
    (case fa_line_graph => k_is)
    (case fl_line_graph => k_is)
    (case fcc_line_graph => k_is)
    (case fq_line_graph => k_is)
    (case fa__do_meet => k_is)
    (case fl__do_meet => k_is)
    (case fcc__do_meet => k_is)
    (case fq__do_meet => k_is)
    (case fa_is_edge_colouring => k_is)
    (case fl_is_edge_colouring => k_is)
    (case fcc_is_edge_colouring => k_is)
    (case fq_is_edge_colouring => k_is)
    (case fa_edge_colouring => k_is)
    (case fl_edge_colouring => k_is)
    (case fcc_edge_colouring => k_is)
    (case fq_edge_colouring => k_is)
    (case fa_is_perfect => k_is)
    (case fl_is_perfect => k_is)
    (case fcc_is_perfect => k_is)
    (case fq_is_perfect => k_is)
    (case fa__lacking_masks => k_is)
    (case fl__lacking_masks => k_is)
    (case fcc__lacking_masks => k_is)
    (case fq__lacking_masks => k_is)
    (case fa__law_pot => k_is)
    (case fl__law_pot => k_is)
    (case fcc__law_pot => k_is)
    (case fq__law_pot => k_is)
    (case fa__law_draw => k_is)
    (case fl__law_draw => k_is)
    (case fcc__law_draw => k_is)
    (case fq__law_draw => k_is)
    (case fa__law_pick => k_is)
    (case fl__law_pick => k_is)
    (case fcc__law_pick => k_is)
    (case fq__law_pick => k_is)
    (case fa__law_odd => k_is)
    (case fl__law_odd => k_is)
    (case fcc__law_odd => k_is)
    (case fq__law_odd => k_is)
    (case fa__law_bent => k_is)
    (case fl__law_bent => k_is)
    (case fcc__law_bent => k_is)
    (case fq__law_bent => k_is)
    (case fa__law_is_whole => k_is)
    (case fl__law_is_whole => k_is)
    (case fcc__law_is_whole => k_is)
    (case fq__law_is_whole => k_is)
    (case fa__law_table => k_is)
    (case fl__law_table => k_is)
    (case fcc__law_table => k_is)
    (case fq__law_table => k_is)
    (case fa__law_of_table => k_is)
    (case fl__law_of_table => k_is)
    (case fcc__law_of_table => k_is)
    (case fq__law_of_table => k_is)
    (case fa__law_flipped => k_is)
    (case fl__law_flipped => k_is)
    (case fcc__law_flipped => k_is)
    (case fq__law_flipped => k_is)
    (case fa__law_lots => k_is)
    (case fl__law_lots => k_is)
    (case fcc__law_lots => k_is)
    (case fq__law_lots => k_is)
    (case fa__law_round => k_is)
    (case fl__law_round => k_is)
    (case fcc__law_round => k_is)
    (case fq__law_round => k_is)
    (case fa__law_odd_rounds => k_is)
    (case fl__law_odd_rounds => k_is)
    (case fcc__law_odd_rounds => k_is)
    (case fq__law_odd_rounds => k_is)
    (case fa__law_multi => k_is)
    (case fl__law_multi => k_is)
    (case fcc__law_multi => k_is)
    (case fq__law_multi => k_is)
    (case fa__law_at => k_is)
    (case fl__law_at => k_is)
    (case fcc__law_at => k_is)
    (case fq__law_at => k_is)
    (case fa__law_near => k_is)
    (case fl__law_near => k_is)
    (case fcc__law_near => k_is)
    (case fq__law_near => k_is)
    (case fa__law_degree => k_is)
    (case fl__law_degree => k_is)
    (case fcc__law_degree => k_is)
    (case fq__law_degree => k_is)
    (case fa__law_line => k_is)
    (case fl__law_line => k_is)
    (case fcc__law_line => k_is)
    (case fq__law_line => k_is)
    (case fa__law_is_proper => k_is)
    (case fl__law_is_proper => k_is)
    (case fcc__law_is_proper => k_is)
    (case fq__law_is_proper => k_is)
    (case fa__law_right => k_is)
    (case fl__law_right => k_is)
    (case fcc__law_right => k_is)
    (case fq__law_right => k_is)
    (case fa_law => k_is)
    (case fl_law => k_is)
    (case fcc_law => k_is)
    (case fq_law => k_is)
    (case gV => k_is)
    (case gS => k_is)
    (case gE => k_is)
    (case z_len => k_is)
    (case z_int => k_is)
    (case z_abs => k_is)
    (case z_divmod => k_is)
    (case z_repr => k_is)
    (case z_range => k_is)
    (case z_all => k_is)
    (case z_any => k_is)
    (case z_max => k_is)
    (case z_min => k_is)
    (case z_list => k_is)
    (case z_tuple => k_is)
    (case z_sorted => k_is)
    (case z_type => k_is)
    (case z_set => k_is)
    (case z_zip => k_is)
    (case z_sum => k_is)
    (case z_enumerate => k_is)
    (case z_isinstance => k_is)
    (case z_bool => k_is)
    (case z_str => k_is)
#print axioms PySem.Challenge.cw_perfectgraphs_k49_whole_konigs_theorem_e_holds

