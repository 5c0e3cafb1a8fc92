import PyProof.Rows.All
import Wide.All
import OpenK.AllK
import Wide.FinOn
import HandS.ForMost
import HandS.ForExc
import HandS.ExcInit
import HandS.ExcValue
import HandS.IsInst
import KE.KExcIs
import HandS.ExcField
import HandS.TupSets
import HandS.Deep
import HandS.Conv
import HandS.Style
import KE.DatumOrd
import HandS.Walk
import HandS.Iter
import HandS.Text
import HandS.StrMore
import HandS.SortRule
import PyProof.StrLawsRepr
import HandS.TupAny
import HandS.Zip
import HandS.TupLe
import PyProof.Rows.BitMore
import HandS.Sort
import PyProof.ListRange
import HandS.WideBits
import PyProof.ListStr
import PyProof.CollectIter
import PyProof.Walks
import PyProof.WalksMore
import PyProof.TupleIter
import HandS.More
import HandS.Dict
import HandS.SortInts
import HandS.SetFor
import HandS.Strs
import KE.GoesEnum
import HandS.TupMul
import HandS.ListItems
import HandS.ExcOwn
import PySem.Challenge.RW_perfectgraphs_k56_whole_list_colourings
set_option Elab.async false
set_option linter.all false
set_option maxRecDepth 100000
set_option maxHeartbeats 2000000
/-! Defs that are asked where nothing is being displayed: repr of data, whatever it holds. -/
namespace My
open PySem PySem.Spec PyProof.Rows L2

/-- like FnOk, for calls outside of any display -/
structure FnG (P : Program) (w : World) (K : PySem.W.Frag) (mg : Str → Option Value) (base : Heap) (C : CXT) (n : Nat) (f : Addr) (fd : FuncData) (ps : List Str) (sp : Sp) : Prop where
  arity : ∀ xs H Q E, sp xs H Q E → xs.length = ps.length
  goes : ∀ (A : Around) (out : List Env) (s : Shared) (H : Hp) (args : Args) (us : List Value) (xs : List V) (Q : VK) (E : XK), A.guards = some [] → Room n A → Env0 P w K mg base A out s H →
    BindsTo s fd args (ps.zip us) → Vals xs us → sp xs H Q E → codeAny (model P w) A (.call (.ref f) args) (CR C out P w H s Q E) s
section
variable {P : Program} {w : World} {K : PySem.W.Frag} {mg : Str → Option Value} {base : Heap} {C : CXT} {n : Nat} {f : Addr} {fd : FuncData} {ps : List Str} {sp : Sp}
theorem FnG.of (F : FnOk P w K mg base C n f fd ps sp) : FnG P w K mg base C n f fd ps sp :=
  { arity := F.len, goes := fun A out s H args us xs Q E _ r e b v h => F.run A out s H args us xs Q E r e b v h }
end

section
variable {X : Cx} {C : CXT} {n : Nat} {f : Addr} {fd : FuncData} {ps : List Str} {sp : Sp} {E : XK} {nm : Str} {p pos : Pos} {a : Expr} {as : List Expr} {t : TA}
theorem FnG.call_at {pins : List (Addr × Obj)} {σ : L2.St} {H : Hp} {s : Shared} {Q : VK} {us : List Value} {xs : List V} (F : FnG X.prog X.w X.K X.mg X.base C n f fd ps sp) (gd : X.A.guards = some []) (r : Room n X.A) (b : Binds X.K fd ps []) (x : Passes C X E)
    (I : Inv X pins σ H s) (v : Vals xs us) (h : sp xs H Q E) : wpAny (model X.prog X.w) X.A (call (.ref f) us) (EP X pins σ Q) X.xe s := by
  have len : (us ++ []).length = ps.length := by
    rw [List.append_nil, ← v.length]
    exact F.arity _ _ _ _ h
  have bd := b s us I.kIn len
  rw [List.append_nil] at bd
  refine wpAny_call (codeAny_mono (F.goes X.A X.stack s H ⟨us, []⟩ us xs Q E gd r I.env0 bd v h) ?_)
  rintro (er | fl) s' hq
  · exact x pins σ H s er s' I hq
  · cases fl <;> first | exact hq.elim | exact I.after hq
/-- f(a, ..), f such a def -/
theorem pe_callG (F : FnG X.prog X.w X.K X.mg X.base C n f fd ps sp) (gd : X.A.guards = some []) (r : Room n X.A) (g : Gl X nm) (m : X.mg nm = some (.ref f)) (kp : PySem.W.keepIn X.K (.ref f) = true) (b : Binds X.K fd ps []) (x : Passes C X E)
    (ha : PA X (a :: as) t) (nd : (nm == ("__debug__" : Str)) = false := by decide) (st : starEach (a :: as) X.env = (false, eval a X.env) :: starEach as X.env := by rfl) (pl : (backTo pos (starEach as X.env)).any (·.1) = false := by rfl) :
    PE X (.Call (.Name nm p) (a :: as) [] pos) (tCall sp [] E t) := by
  constructor
  intro pins s σ H Q I h
  refine wpAny_Call_Name_kw (ld_glob I g m ?_ nd)
  refine PySem.W.callWith_K (h₀ := X.base) I.ok.mod.kin kp (thn (ha.run pos pins s σ H _ I h) ?_) st pl
  rintro us s1 ⟨xs, H1, I1, v, q⟩
  rw [List.append_nil] at q
  exact ⟨I1.kIn, F.call_at gd r b x I1 v q⟩
end

section
variable {P : Program} {w : World} {K : PySem.W.Frag} {mg : Str → Option Value} {base : Heap} {C : CXT} {n : Nat} {f : Addr} {ps N : List Str} {sp : Sp}
/-- such a def by its body -/
theorem fnG_of {name qual : Str} {pm : Arguments} {body : List Stmt} {sc : Scope} {dV kV doc md cdv ct oc : Value} {an od : Option Addr} {sl : Array (Option Value)}
    (lk : K.lookup f = some ⟨oc, od, .func (PySem.W.fnOf name qual pm body sc dV kV doc md an cdv ct), sl⟩) (cd : PySem.W.codeIn K cdv qual = true) (S : FnScope N ps sc) (ar : ∀ xs H Q E, sp xs H Q E → xs.length = ps.length)
    (hb : ∀ (A : Around) (out : List Env) (s : Shared) (H : Hp) (xs : List V) (Q : VK) (E : XK), A.guards = some [] → Room n (A.deeper (envOfC qual sc s.heap.objs.size f cdv)) → sp xs H Q E →
      ∃ t, PSs (cxOf C P w K mg base N qual sc f cdv A out s H E) body t ∧ t { nx := fun _ H' => Q .non H', rt := Q } (start N xs) H) :
    FnG P w K mg base C (n + 1) f (PySem.W.fnOf name qual pm body sc dV kV doc md an cdv ct) ps sp := by
  refine { arity := ar, goes := ?_ }
  intro A out s H args us xs Q E gd r e bd v h
  have all : K.In s.heap := e.mod.kin.keeps fun b o z => (e.bs b o z).1
  have nolim : s.heap.NoLimit := e.mod.nolimit.keeps fun b o z => (e.bs b o z).1
  have kinds : ∀ y ∈ ps.zip us, sc.names.lookup y.1 = some .local ∨ (sc.names.lookup y.1 = some .cell ∧ ((cellsFrom (s.heap.objs.size + 1) sc.names []).lookup y.1).isSome = true) := by
    rintro ⟨y, u⟩ hy
    exact (S.par y (List.of_mem_zip hy).1).imp id fun z => ⟨z, PySem.W.cellsFrom_some _ _ _ (.inl z)⟩
  refine codeAny_call_function r.depth (all _ _ lk) rfl S.co S.gen rfl (PySem.W.codeRec_of all cd) (bd _ _ _ _ (wpAny_newFunctionEnv_cells S.kind kinds ?_))
  intro env he s1 x
  cases he
  obtain ⟨t, ht, hq⟩ := hb A out s H xs Q E gd (r.deeper _) h
  refine ⟨nolim.keeps x.toInCall.keep, codeAny_func (wpAny_mono (ht.run [] s1 (start N xs) H _ (inv_start S r.hd e (ar _ _ _ _ h) v x) hq) ?_ fun _ _ z => z)⟩
  rintro fl s' hs
  cases fl with
  | ret u =>
    obtain ⟨y, σ', H', J, ry, q⟩ := hs
    exact ⟨y, H', J.os, J.bare, J.base, J.hok, ry, q⟩
  | next =>
    obtain ⟨σ', H', J, q⟩ := hs
    exact ⟨.non, H', J.os, J.bare, J.base, J.hok, rfl, q⟩
  | brk => exact hs.choose_spec.choose_spec.2.elim
  | cont => exact hs.choose_spec.choose_spec.2.elim
theorem okG {name qual : Str} {st : Stmt} {fd : FuncData} (F : L2.Fun K name qual st f fd) (S : FnScope N ps (defScope st)) (ar : ∀ xs H Q E, sp xs H Q E → xs.length = ps.length)
    (hb : ∀ (cdv : Value) (A : Around) (out : List Env) (s : Shared) (H : Hp) (xs : List V) (Q : VK) (E : XK), A.guards = some [] → Room n (A.deeper (envOfC qual (defScope st) s.heap.objs.size f cdv)) → sp xs H Q E →
      ∃ t, PSs (cxOf CX0 P w K mg base N qual (defScope st) f cdv A out s H E).nox (defBody st) t ∧ t { nx := fun _ H' => Q .non H', rt := Q } (start N xs) H) : FnG P w K mg base CX0 (n + 1) f fd ps sp := by
  obtain ⟨_, _, _, _, _, _, cdv, _, _, rfl, lk, cd⟩ := F.ex
  refine fnG_of lk cd S ar ?_
  intro A out s H xs Q E gd r h
  obtain ⟨t, ht, q⟩ := hb cdv A out s H xs Q E gd r h
  exact ⟨t, ht.nox, q⟩
end

/-! ### the end of a law's row -/
/-- the call of the law itself, over one abstract heap -/
theorem law_at {P : Program} {w : World} {K : PySem.W.Frag} {mg mb : Str → Option Value} {n : Nat} {fa a : Addr} {fd : FuncData} {x : Str} {sp : Sp} {s : Shared} {vs : List Value} {H : Hp}
    (KX : K.In s.heap) (hns : s.heap.Ns mainGlobals mg) (hb : s.heap.Ns builtinsNs mb) (hbb : ∀ x : Str, x ≠ "__name__" → mb x = bootBuiltins x) (lim : s.heap.NoLimit) (ng : s.gens = #[])
    (ha : s.heap.get? a = some { cls := .type "list", data := .seq vs.toArray }) (hr : Room n callerA)
    (F : ∀ base : Heap, K.In base → base.Ns mainGlobals mg → FnG P w K mg base CX0 n fa fd [x] sp) (bd : BindsTo s fd ⟨[.ref a], []⟩ [(x, .ref a)])
    (hsp : sp [.ref a] H (fun v _ => v = .bl true) E0) (hO : Only H) (hok : HOk P w H s.heap) (one : ∀ b, H b ≠ none → b = a) (apart : H a ≠ none → K.lookup a = none) :
    codeAny (model P w) callerA (.call (.ref fa) ⟨[.ref a], []⟩) (fun r s' => r = .ok (.ret (.bool true)) ∧ OldK s.heap s'.heap ∧ s'.os = s.os ∧ AllBare s'.gens) s := by
  have no : ∀ {b : Addr} {o : Obj}, s.heap.get? b = some o → (∀ its m, o.data ≠ .seq its m) → H b = none := by
    intro b o e d
    refine Classical.byContradiction fun z => ?_
    cases one b z
    rw [ha] at e
    cases e
    exact d _ _ rfl
  have keep : ∀ {b : Addr} {m : Str → Option Value}, s.heap.Ns b m → (hidT s.heap H).Ns b m := by
    rintro b m ⟨o, es, ep, e, d, r⟩
    exact ⟨o, es, ep, hidT_get e (no e fun its m z => by rw [d] at z; cases z), d, r⟩
  have inb : K.In (hidT s.heap H) := by
    intro b o e
    refine hidT_get (KX b o e) (Classical.byContradiction fun z => ?_)
    have eb := one b z
    rw [eb] at z e
    rw [apart z] at e
    cases e
  obtain ⟨mc, l1, l2⟩ := lim
  have M : Mod K mg (hidT s.heap H) := ⟨inb, keep hns, ⟨mb, keep hb, hbb⟩, ⟨mc, keep l1, l2⟩⟩
  have e0 : Env0 P w K mg (hidT s.heap H) callerA [] s H :=
    { frames := rfl, mod := M, bs := fun b o e => of_hidT e, bsz := Nat.le_of_eq (hidT_size _ _), funs := trivial, frf := fun b z => absurd (show b ∈ ([] : List Addr) from z) List.not_mem_nil, hok := hok, bare := .of_eq ng }
  refine codeAny_mono ((F _ inb (keep hns)).goes callerA [] s H ⟨[.ref a], []⟩ [.ref a] [.ref a] _ _ rfl hr e0 bd (.cons rfl .nil) hsp) ?_
  rintro (er | fl) s' h
  · exact False.elim h
  · cases fl with
    | ret u =>
      obtain ⟨v, H', os, bare, un, hok', rv, q⟩ := h
      cases (show v = .bl true from q)
      cases (show u = Value.bool true from rv)
      refine ⟨rfl, OldK.of_keep ?_, os, bare⟩
      intro b o e
      rcases hO b with z | ⟨ob, xs, z⟩
      · exact un.keep b o e z (fun y => absurd (show b ∈ ([] : List Addr) from y) List.not_mem_nil) List.not_mem_nil
      · have i1 := (hok b _ z).1
        rw [e] at i1
        rw [i1]
        exact (hok' b _ (un.frzs b ob _ z)).1
    | next => exact False.elim h
    | brk => exact False.elim h
    | cont => exact False.elim h
theorem walkG {l : PySem.W.OpenLaw} {m n : Nat} {q : Program} {loose : List Str} {XP : (Str → Option Value) → Heap → Prop} {YP : World → Heap → Prop} {d : DefRec} {K : Params → PySem.W.Frag} {sp : PySem.W.Frag → Sp} {x : Str}
    (hm : l.most = some m) (hm2 : m ≤ sizeLine) (hdf : d.params.defaults = []) (hr : Room n callerA) (hY : ∀ (w : World) (h : Heap), YP w h → (K w.params).In h)
    (F : ∀ (w : World) (mg : Str → Option Value) (fa : Addr) (h : Heap), (K w.params).In h → h.Ns mainGlobals mg → mg d.name = some (.ref fa) →
      ∃ fd : FuncData, (∀ (s : Shared) (u : Value), BindsTo s fd ⟨[u], []⟩ [(x, u)]) ∧
        ∀ base : Heap, (K w.params).In base → base.Ns mainGlobals mg → FnG l.prog w (K w.params) mg base CX0 n fa fd [x] (sp (K w.params)))
    (hsp : ∀ (K : PySem.W.Frag) (H : Hp) (a : Addr) (ns : List Int), ns.length ≤ m → Only H → SqL K H a (ns.map V.int) → sp K [.ref a] H (fun v _ => v = .bl true) E0) :
    PySem.W.WalkO q loose XP YP l.row.toRowW d [] (fun f vs => PySem.call f vs) := by
  refine Att.attach_call hm hdf ?_
  intro w s₀ s mg mb fa o pm cd doc a vs ns G Y ho hd hcd hmg hobj hints hlen hg
  have KX := hY w _ Y
  obtain ⟨fd, hb, hF⟩ := F w mg fa _ KX G.T.g hmg
  have rv := vals_ints hints
  have hl : (ns.map V.int).length ≤ sizeLine := by
    rw [List.length_map]
    exact Nat.le_trans hlen hm2
  cases hk : (K w.params).lookup a with
  | some ob =>
    have e := KX a ob hk
    rw [hobj] at e
    cases e
    refine law_at KX G.T.g G.T.b G.T.builtins G.T.nolimit hg hobj hr hF (hb s _) (H := fun _ => none) (hsp _ _ a ns hlen (fun _ => .inl rfl) (.inr ?_)) (fun _ => .inl rfl) (fun b u z => nomatch (show (none : Option HO) = some u from z)) (fun b z => absurd rfl z) fun z => absurd rfl z
    exact ⟨_, vs.toArray, _, hk, rfl, rfl, rfl, by rw [List.size_toArray, ← rv.length]; exact hl, by simpa using rv⟩
  | none =>
    let T : HO := .frz { cls := .type "list", data := .seq vs.toArray } (.lst (ns.map V.int))
    let H0 : Hp := fun _ => none
    have at_a : upd H0 a T a = some T := upd_same
    have off : ∀ b, b ≠ a → upd H0 a T b = none := fun b z => upd_ne z
    refine law_at KX G.T.g G.T.b G.T.builtins G.T.nolimit hg hobj hr hF (hb s _) (H := upd H0 a T) (hsp _ _ a ns hlen ?_ (.inl (.inr ⟨_, at_a⟩))) ?_ ?_ ?_ fun _ => hk
    · intro b
      by_cases z : b = a
      · cases z
        exact .inr ⟨_, _, at_a⟩
      · exact .inl (off b z)
    · intro b
      by_cases z : b = a
      · cases z
        exact .inr ⟨_, _, at_a⟩
      · exact .inl (off b z)
    · intro b u e
      by_cases z : b = a
      · cases z
        cases at_a.symm.trans e
        exact ⟨hobj, hl, vs, _, rv, hobj⟩
      · rw [off b z] at e
        cases e
    · intro b z
      exact Classical.byContradiction fun y => z (off b y)
end My

set_option maxHeartbeats 2000000
/-! repr of data: flat things, lists, tuples at any depth, and dicts of flat things. -/
namespace My
open PySem PySem.Spec PyProof.Rows L2

def flatD : V → Option PyData
  | .non => some .none
  | .bl b => some (.bool b)
  | .int i => some (.int i)
  | .str x => some (.str x)
  | _ => none
def keyD : Key → PyData
  | .inl i => .int i
  | .inr x => .str x
/-- the value v is the datum d -/
inductive Dd (K : PySem.W.Frag) (H : Hp) : V → PyData → Prop
  | dat {v : V} {d : PyData} : Dp K H v d → d.hasDict = false → Dd K H v d
  | dct {a : Addr} {kvs : List (Key × V)} {ds : List PyData} : H a = some (.dK kvs) → kvs.map (fun p => flatD p.2) = ds.map some → Dd K H (.ref a) (.dict ((kvs.map fun p => keyD p.1).zip ds))
theorem flat_reads {h : Heap} {v : V} {u : Value} {d : PyData} (e : flatD v = some d) (r : RelV v u) : Reads h u d [] := by
  cases v with
  | non => cases e; cases (show u = Value.none from r); exact .none
  | bl b => cases e; cases (show u = Value.bool b from r); exact .bool b
  | int i => cases e; obtain ⟨t, rfl⟩ := (show ∃ t, u = Value.int i t from r); exact .int i t
  | str x => cases e; obtain ⟨t, rfl⟩ := (show ∃ t, u = Value.str x t from r); exact .str x t
  | byt b => cases e
  | flt b => cases e
  | ref a => cases e
  | ty n => cases e
theorem key_reads {h : Heap} {k : Key} {u : Value} (e : keyIs k u = true) : Reads h u (keyD k) [] := by
  rcases keyIs_shape e with ⟨i, t, rfl, rfl⟩ | ⟨x, t, rfl, rfl⟩
  · exact .int i t
  · exact .str x t
theorem pairs_reads {P : Program} {w : World} {h : Heap} : ∀ {kvs : List (Key × V)} {vs : List (Key × Value)} {es : List DictEntry} {ds : List PyData}, KV kvs vs → Pairs (mixKind P w) es vs → kvs.map (fun p => flatD p.2) = ds.map some →
    ReadsAll h (es.map (·.key)) (((kvs.map fun p => keyD p.1).zip ds).map (·.1)) [] ∧ ReadsAll h (es.map (·.val)) (((kvs.map fun p => keyD p.1).zip ds).map (·.2)) []
  | [], _, _, [], .nil, .nil, _ => ⟨.nil, .nil⟩
  | [], _, _, _ :: _, _, _, e => by cases e
  | _ :: _, _, _, [], _, _, e => by cases e
  | p :: kvs, _, _, d :: ds, .cons r rs, .cons k v ps, e => by
    obtain ⟨e1, e2⟩ := List.cons.inj e
    obtain ⟨i1, i2⟩ := pairs_reads (h := h) rs ps e2
    rw [← r.1] at k
    rw [← v] at r
    exact ⟨ReadsAll.cons (as := []) (bs := []) (key_reads k) i1, ReadsAll.cons (as := []) (bs := []) (flat_reads e1 r.2) i2⟩
section
variable {X : Cx} {pins : List (Addr × Obj)} {σ : L2.St} {H : Hp} {s : Shared}
theorem Dd.reads (I : Inv X pins σ H s) {v : V} {u : Value} {d : PyData} (h : Dd X.K H v d) (r : RelV v u) : ∃ as, Reads s.heap u d as ∧ (d.hasDict = true → sysModules ∉ as) := by
  cases h with
  | dat hd n =>
    obtain ⟨as, q⟩ := Dp.reads I d v u hd r
    exact ⟨as, q, fun z => by rw [n] at z; cases z⟩
  | @dct a kvs ds ha e =>
    cases (show u = Value.ref a from r)
    obtain ⟨_, ns, vs, kv, o, es, ep, ho, ex, hd, _, ps, _⟩ := (show ObjOk X.prog X.w H s.heap a (.dK kvs) from I.hok a _ ha)
    obtain ⟨q1, q2⟩ := pairs_reads (h := s.heap) kv ps e
    refine ⟨_, Reads.dict (as := []) (bs := []) ho ex.1 hd q1 q2, fun _ z => ?_⟩
    have z' : sysModules = a := by simpa using z
    rw [z'] at ns
    simp at ns
/-- repr(v), v a datum -/
def rRepr (K : PySem.W.Frag) : List V → Hp → VK → Prop := fun xs H Q => ∃ v d, xs = [v] ∧ Dd K H v d ∧ d.showable = true ∧ d.depth ≤ 60 ∧ d.shown.length ≤ sizeLine ∧ Q (.str d.shown) H
theorem call_repr (gd : X.A.guards = some []) (hu : X.A.units + 64 < cLine) : CallR X (.builtin "repr") (rRepr X.K) := by
  rintro pins s σ H xs us Q I r ⟨v, d, rfl, hd, sh, dp, sz, q⟩
  obtain ⟨u, rfl, ru⟩ := vals1 r
  obtain ⟨as, rd, ns⟩ := hd.reads I ru
  cases rd with
  | none =>
    refine PySem.P.repr_of_none ⟨.str "None", H, I.tok _, ⟨_, rfl⟩, ?_⟩
    simpa only [PyData.shown] using q
  | bool b =>
    refine PySem.P.repr_of_bool ⟨.str (if b then "True" else "False"), H, I.tok _, ⟨_, rfl⟩, ?_⟩
    simpa only [PyData.shown] using q
  | int i t =>
    refine PySem.P.repr_of_int (by simpa [PyData.showable] using sh) ⟨.str (toString i), H, I.tok _, ⟨_, rfl⟩, ?_⟩
    simpa only [PyData.shown] using q
  | str x t =>
    refine PySem.P.repr_of_str ⟨.str (reprText x), H, I.tok _, ⟨_, rfl⟩, ?_⟩ (by simpa only [PyData.shown] using sz)
    simpa only [PyData.shown] using q
  | list h1 h2 h3 h4 => exact repr_of_reads' (.list h1 h2 h3 h4) sh ns gd (by omega) (fun _ _ e => e) (fun h1 u tk hk => ⟨.str _, H, I.kept hk, ⟨u, rfl⟩, q⟩) sz
  | tuple h1 h2 h3 h4 => exact repr_of_reads' (.tuple h1 h2 h3 h4) sh ns gd (by omega) (fun _ _ e => e) (fun h1 u tk hk => ⟨.str _, H, I.kept hk, ⟨u, rfl⟩, q⟩) sz
  | dict h1 h2 h3 h4 h5 => exact repr_of_reads' (.dict h1 h2 h3 h4 h5) sh ns gd (by omega) (fun _ _ e => e) (fun h1 u tk hk => ⟨.str _, H, I.kept hk, ⟨u, rfl⟩, q⟩) sz
end
theorem Same.tup {K : PySem.W.Frag} {H H' : Hp} {a : Addr} {xs : List V} (e : Same H H') (h : SqT K H a xs) : SqT K H' a xs := by
  rcases h with (h | ⟨o, h⟩) | h
  · exact .inl (.inl (e _ _ h))
  · exact .inl (.inr ⟨o, e _ _ h⟩)
  · exact .inr h
mutual
theorem Dp.same {K : PySem.W.Frag} {H H' : Hp} (e : Same H H') : ∀ (d : PyData) (v : V), Dp K H v d → Dp K H' v d
  | .none, _, h => by cases h; exact .non
  | .bool _, _, h => by cases h; exact .bl _
  | .int _, _, h => by cases h; exact .int _
  | .str _, _, h => by cases h; exact .str _
  | .list ds, _, h => by
    cases h with
    | lst s a => exact .lst (L2.Same.seq e s) (DpAll.same e ds _ a)
  | .tuple ds, _, h => by
    cases h with
    | tup s a => exact .tup (Same.tup e s) (DpAll.same e ds _ a)
  | .dict _, _, h => by cases h
theorem DpAll.same {K : PySem.W.Frag} {H H' : Hp} (e : Same H H') : ∀ (ds : List PyData) (vs : List V), DpAll K H vs ds → DpAll K H' vs ds
  | [], _, h => by cases h; exact .nil
  | d :: ds, _, h => by
    cases h with
    | cons a b => exact .cons (Dp.same e d _ a) (DpAll.same e ds _ b)
end
theorem Dd.same {K : PySem.W.Frag} {H H' : Hp} (e : Same H H') {v : V} {d : PyData} (h : Dd K H v d) : Dd K H' v d := by
  cases h with
  | dat a n => exact .dat (Dp.same e _ _ a) n
  | dct a n => exact .dct (e _ _ a) n
end My

set_option maxHeartbeats 4000000
/-! Exceptions of own classes over ValueError as values: made by position and by name, their fields, isinstance. -/
namespace MyX
open PySem PySem.W PySem.Calls PyProof.Rows PySem.HandSPX
open Builtin Builtin.ObjectAttr
section
variable {M : Model} {prog : Program} {w : World} {A : Around} {E : Value → Shared → Prop} {R : Result → Shared → Prop} {h : Heap} {g : Array GenState} {d : Drawn} {t : Nat} {os : OsState}
variable {nm q : Str} {C N : Addr} {bs bm bmB : List Value} {hdct : Bool} {sn : List Str} {sub : List Value} {ab : Bool} {col : Option Bool} {dd : Option Addr} {k0 k1 k2 k3 k5 : Option Value} {B newId initId : String} {key : Str} {val : Value}
theorem check_type_kw {Q : Unit → Shared → Prop} (hC : h.get? C = some (excClassObj nm q C N bs bm hdct sn sub ab col dd k0 k1 k2 k3 k5 newId)) (z : Q () ⟨h, g, d, t, os⟩) :
    wpAny M A (checkBuiltinCall "type.__call__" ⟨[.ref C], [(key, val)]⟩) Q E ⟨h, g, d, t, os⟩ := by
  have e3 := tc_sub
  have ty : (⟨h, g, d, t, os⟩ : Shared).TypeIs (.ref C) "type" := ⟨_, hC, rfl⟩
  simp only [checkBuiltinCall, tc_kind, tc_split]
  repeat (any_goals (first
    | assumption
    | with_reducible refine wpAny_loadPart_at hC ?_
    | with_reducible refine wpAny_onRaise ?_
    | with_reducible refine wpAny_map ?_
    | wp_step))
theorem check_new_kw (F : ExcBaseFacts B newId initId bmB) (hT : ∀ X : String, bm.contains (.type X) = bmB.contains (.type X)) {Q : Unit → Shared → Prop}
    (hC : h.get? C = some (excClassObj nm q C N bs bm hdct sn sub ab col dd k0 k1 k2 k3 k5 newId)) (z : Q () ⟨h, g, d, t, os⟩) : wpAny M A (checkBuiltinCall newId ⟨[.ref C], [(key, val)]⟩) Q E ⟨h, g, d, t, os⟩ := by
  have hc : (Value.ref C :: bm).contains (.type B) = true := by rw [List.contains_cons, hT, F.hasB, Bool.or_true]
  have ns := F.noStar
  simp only [checkBuiltinCall, F.newKind, F.newSplit, F.newRow]
  repeat (first
    | refine wpAny_loadPart_at hC ?_
    | (refine wpAny_isSubtype_exc hC ?_; rw [hc])
    | refine wpAny_staticBase_exc hC ?_
    | refine wpAny_madeBy_exc hC ?_
    | simp only [bne_self_eq_false, Bool.false_eq_true, if_false]
    | wp_step)
  exact z
theorem new_kw (F : ExcBaseFacts B newId initId bmB) (hT : ∀ X : String, bm.contains (.type X) = bmB.contains (.type X))
    (hC : h.get? C = some (excClassObj nm q C N bs bm hdct sn sub ab col dd k0 k1 k2 k3 k5 newId))
    (z : R (.ok (.ret (.ref (h.objs.size + 1)))) ⟨(h.push (kdv_tup [])).push (excO C h.objs.size), g, d, t, os⟩) :
    codeAny (model prog w) A (.builtin newId ⟨[.ref C], [(key, val)]⟩) R ⟨h, g, d, t, os⟩ := by
  have he := F.ends
  have c1 : (Value.ref C :: bm).contains (.type B) = true := by rw [List.contains_cons, hT, F.hasB, Bool.or_true]
  have c2 : (Value.ref C :: bm).contains (.type "AttributeError") = false := by
    rw [List.contains_cons, hT, F.noAttr]
    rfl
  have c3 : (Value.ref C :: bm).contains (.type "NameError") = false := by
    rw [List.contains_cons, hT, F.noName]
    rfl
  refine codeAny_builtinAt F.entry ?_
  unfold Builtin.«BaseException.__new__»
  refine PySem.wpAt_bind ?_
  show PySem.wpAt _ _ _ (stack >>= _) _ _ _
  refine PySem.wpAt_bind (PySem.wpAt_stack fun p below => PySem.wpAt_of_wpAny ?_)
  wp_walk
  refine PySem.wpAt_of_wpAny ?_
  rw [F.owner]
  repeat (first
    | with_reducible refine wpAny_madeHere_exc F.canon hC ?_
    | with_reducible refine wpAny_loadPart_at hC ?_
    | (with_reducible refine wpAny_isSubtype_exc hC ?_; first | rw [c1] | rw [c2] | rw [c3])
    | wp_step)
  show R _ _
  rw [Heap.size_push]
  exact z
theorem type_call_kw (F : ExcBaseFacts B newId initId bmB) (hT : ∀ X : String, bm.contains (.type X) = bmB.contains (.type X)) {fI : Addr} {Q : Fin → Shared → Prop}
    (hC : h.get? C = some (excClassObj nm q C N bs bm hdct sn sub ab col dd k0 k1 k2 k3 k5 newId))
    (hi : Looks (model prog w) h (typeLookup (.ref C) "__init__") (some (.ref fI))) (hb : ∀ self, Looks (model prog w) h (bindSpecial (.ref fI) self) (.ref fI, [self]))
    (z : codeAny (model prog w) A (.call (.ref fI) ⟨[.ref (h.objs.size + 1)], [(key, val)]⟩)
      (fun r s' => match r with | .ok (.ret v) => v = .none ∧ Q (.done (.ret (.ref (h.objs.size + 1)))) s' | .ok _ => False | .error e => E e s')
      ⟨(h.push (kdv_tup [])).push (excO C h.objs.size), g, d, t, os⟩) :
    wpAny (model prog w) A (Builtin.«type.__call__» ⟨[.ref C], [(key, val)]⟩) Q E ⟨h, g, d, t, os⟩ := by
  repeat (first
    | with_reducible refine wpAny_loadPart_at hC ?_
    | with_reducible refine wpAny_madeBy_exc hC ?_
    | wp_step)
  refine codeAny_call_builtin_code (Code.quiet_builtin _ F.quiet) (check_new_kw F hT hC ?_)
  refine new_kw F hT hC ?_
  show wpAny _ _ _ _ _ _
  have k : ∀ b o, h.get? b = some o → ((h.push (kdv_tup [])).push (excO C h.objs.size)).get? b = some o := fun b o e => Heap.get?_push_of_some _ (Heap.get?_push_of_some _ e)
  have hC2 := k _ _ hC
  have at1 : ((h.push (kdv_tup [])).push (excO C h.objs.size)).get? (h.objs.size + 1) = some (excO C h.objs.size) := by heap_get
  have cc : (Value.ref C :: bm).contains (.ref C) = true := by simp
  have i1 := hi.keeps k
  have b1 := (hb (.ref (h.objs.size + 1))).keeps k
  unfold isInstance
  repeat (first
    | with_reducible refine wpAny_loadPart_at at1 ?_
    | (with_reducible refine wpAny_isSubtype_exc hC2 ?_; rw [cc])
    | wp_step)
  show wpAny _ _ (typeLookup (.ref C) _) _ _ _
  refine i1.at ?_
  refine wpAny_holding (wpAny_bind (b1.at ?_))
  refine wpAny_bind (wpAny_call (codeAny_mono z ?_))
  rintro (e | (v | _ | _ | _)) s' y <;> first | exact y | exact y.elim | skip
  all_goals first
    | (obtain ⟨rfl, y⟩ := y; first | exact wpAny_pure (wpAny_pure y) | (wp_walk; exact y))
    | exact y
theorem call_kw (F : ExcBaseFacts B newId initId bmB) (hT : ∀ X : String, bm.contains (.type X) = bmB.contains (.type X)) {fI : Addr}
    (hC : h.get? C = some (excClassObj nm q C N bs bm hdct sn sub ab col dd k0 k1 k2 k3 k5 newId))
    (hi : Looks (model prog w) h (typeLookup (.ref C) "__init__") (some (.ref fI))) (hb : ∀ self, Looks (model prog w) h (bindSpecial (.ref fI) self) (.ref fI, [self]))
    (z : codeAny (model prog w) (A.under (.builtin "type.__call__" ⟨[.ref C], [(key, val)]⟩)) (.call (.ref fI) ⟨[.ref (h.objs.size + 1)], [(key, val)]⟩) (InitBack (h.objs.size + 1) R)
      ⟨(h.push (kdv_tup [])).push (excO C h.objs.size), g, d, t, os⟩) :
    codeAny (model prog w) A (.call (.ref C) ⟨[], [(key, val)]⟩) R ⟨h, g, d, t, os⟩ := by
  have e1 := tc_lookup
  have e2 := tc_bind (.ref C)
  have ty : (⟨h, g, d, t, os⟩ : Shared).TypeIs (.ref C) "type" := ⟨_, hC, rfl⟩
  refine codeAny_of_tree ?_
  show wpAny _ _ (callAny (.ref C) _) _ _ _
  repeat (any_goals (first
    | assumption
    | with_reducible refine wpAny_loadPart_at hC ?_
    | wp_step))
  refine ⟨rfl, ?_⟩
  refine codeAny_call_builtin_at (Code.quiet_builtin _ (by decide +kernel)) entry_typeCall (check_type_kw hC (type_call_kw F hT hC hi hb ?_))
  refine codeAny_mono z ?_
  rintro (e | (v | _ | _ | _)) s' y <;> exact y
end
end MyX

set_option maxHeartbeats 4000000
/-! The layer's rules for exceptions as values. -/
namespace My
open PySem PySem.Spec PyProof.Rows L2

/-- an exception's own __init__: one field -/
def spInit (C : Addr) (fld : Str) : Sp := fun xs H Q _ => ∃ (a : Addr) (v : V), xs = [.ref a, v] ∧ H a = some (exo a C none) ∧
  ∀ d, H d = none → d ≠ a → Q .non (upd (upd H d (exd d [(fld, v)])) a (exo a C (some d)))
/-- what the class at C, its __init__ at fI must be -/
structure XCls (K : PySem.W.Frag) (C fI : Addr) (fld : Str) : Prop where
  ox : OexC K C
  iC : PySem.W.findIn K (.ref C) "__init__" = some (some (.ref fI))
  tI : PySem.W.typeIn K (.ref fI) = some (.type "function")
  xf : XfC K C
  no : PySem.W.findIn K (.ref C) fld = some none
/-- a new exception of the class at C, its dict with the one field -/
def NewX (C : Addr) (fld : Str) (v : V) (H : Hp) (Q : VK) : Prop := ∀ a d, H a = none → H d = none → d ≠ a → Q (.ref a) (upd (upd (upd H a (exo a C none)) d (exd d [(fld, v)])) a (exo a C (some d)))
def tMkX (C : Addr) (fld : Str) (ta : TA) : TE := fun σ H Q => ta σ H fun vs H1 => ∃ v, vs = [v] ∧ NewX C fld v H1 Q
section
variable {X : Cx} {nm : Str} {C fI : Addr} {k : Nat} {fd : FuncData} {fld : Str} {e : Expr} {te : TE} {ta : TA} {p pos kpos : Pos} {pins : List (Addr × Obj)} {σ : L2.St} {H : Hp}
theorem mkx_start {hp : Heap} {g : Array GenState} {dr : Drawn} {tk : Nat} {os : OsState} {us : List Value} {v : V} {Q : VK} (I : Inv X pins σ H ⟨hp, g, dr, tk, os⟩) (q : NewX C fld v H Q) :
    Inv X pins σ (upd H (hp.objs.size + 1) (exo (hp.objs.size + 1) C none)) ⟨(hp.push (PySem.W.kdv_tup us)).push (PySem.HandSPX.excO C hp.objs.size), g, dr, tk, os⟩ ∧
    spInit C fld [.ref (hp.objs.size + 1), v] (upd H (hp.objs.size + 1) (exo (hp.objs.size + 1) C none)) (fun r H2 => r = .non ∧ Q (.ref (hp.objs.size + 1)) H2) E0 := by
  have big : hp.objs.size ≤ hp.objs.size + 1 := Nat.le_succ _
  have none1 : H (hp.objs.size + 1) = none := I.hok.fresh big
  have here : ((hp.push (PySem.W.kdv_tup us)).push (PySem.HandSPX.excO C hp.objs.size)).get? (hp.objs.size + 1) = some (PySem.HandSPX.excO C hp.objs.size) := by heap_get
  refine ⟨I.laid (fun b o e => Heap.get?_push_of_some _ (Heap.get?_push_of_some _ e)) big (exo_ok here), _, v, rfl, upd_same, ?_⟩
  intro d hd hne
  rw [upd_ne hne] at hd
  exact ⟨rfl, q _ d none1 hd hne⟩
/-- behind __init__ -/
theorem mkx_end {s : Shared} {n : Addr} {Q : VK} (I : Inv X pins σ H s) {r : Result} {s' : Shared} (h : CR CX0 X.stack X.prog X.w H s (fun r H2 => r = .non ∧ Q (.ref n) H2) E0 r s') :
    PySem.W.InitBack n (fun r s' => match r with | .ok (.ret v) => EP X pins σ Q v s' | .ok _ => False | .error e => X.xe e s') r s' := by
  rcases r with er | fl
  · exact False.elim h
  · cases fl with
    | ret u =>
      obtain ⟨v, H', J, rv, ev, q⟩ := I.after h
      subst ev
      exact ⟨rv, .ref n, H', J, rfl, q⟩
    | next => exact False.elim h
    | brk => exact False.elim h
    | cont => exact False.elim h
theorem pe_mkX (T : XCls X.K C fI fld) (G : FnOk X.prog X.w X.K X.mg X.base CX0 k fI fd ["self", fld] (spInit C fld)) (hr : Room (k + 1) X.A) (hb : Binds X.K fd ["self", fld] []) (hg : Gl X nm) (hm : X.mg nm = some (.ref C)) (ha : PA X [e] ta)
    (hdb : (nm == ("__debug__" : Str)) = false := by decide) (hs : starEach [e] X.env = (false, eval e X.env) :: starEach [] X.env := by rfl) (hpl : (backTo pos (starEach [] X.env)).any (·.1) = false := by rfl) :
    PE X (.Call (.Name nm p) [e] [] pos) (tMkX C fld ta) := by
  refine ⟨?_⟩
  intro pins s σ H Q I h
  obtain ⟨cn, q, N, bs, bm, sn, sub, ab, col, dd, k0, k1, k2, k3, k5, hC, hbm⟩ := T.ox.cls
  refine wpAny_Call_Name_kw (ld_glob I hg hm ?_ hdb)
  refine PySem.W.callWith_K (h₀ := X.base) I.ok.mod.kin T.ox.kC (thn (ha.run pos pins s σ H _ I h) ?_) hs hpl
  rintro us s1 ⟨vs, H1, I1, r, v, rfl, q1⟩
  refine ⟨I1.kIn, ?_⟩
  obtain ⟨u, rfl, ru⟩ := vals1 r
  obtain ⟨hp, g, dr, tk, os⟩ := s1
  obtain ⟨I2, h2⟩ := mkx_start (us := [u]) I1 q1
  show wpAny _ _ (call (.ref C) [u]) _ _ _
  have bd := hb _ [.ref (hp.objs.size + 1), u] I2.kIn rfl
  refine wpAny_call (PySem.HandSPX.call_own PySem.F.excBase_ValueError (fun Y => PySem.HandSPX.refsVE_contains Y bm hbm) (I1.kIn _ _ hC) (PySem.W.looks_findIn I1.kIn T.iC) (fun self => PySem.W.bind_fn I1.kIn self T.tI) (by show 1 ≤ sizeLine; decide) ?_)
  refine codeAny_mono (G.run _ X.stack _ _ ⟨[.ref (hp.objs.size + 1), u], []⟩ [.ref (hp.objs.size + 1), u] [.ref (hp.objs.size + 1), v] _ E0 (hr.make C [u] []) (I2.env0.make C [u] []) bd (.cons rfl (.cons ru .nil)) h2) ?_
  intro r s' hq
  exact mkx_end I2 hq
/-- the same by the field's name -/
theorem pe_mkXK {tk : TA} (T : XCls X.K C fI fld) (G : FnOk X.prog X.w X.K X.mg X.base CX0 k fI fd ["self", fld] (spInit C fld)) (hr : Room (k + 1) X.A) (hb : ∀ (s : Shared) (a u : Value), BindsTo s fd ⟨[a], [(fld, u)]⟩ ([("self" : Str), fld].zip [a, u])) (hg : Gl X nm) (hm : X.mg nm = some (.ref C))
    {kws : List Keyword} (hk : PK X kws tk) (hall : (backToKw pos (keywordEach kws X.env)).all (·.1.isSome) = true := by rfl) (hks : (backToKw pos (keywordEach kws X.env)).filterMap (·.1) = [fld] := by rfl)
    (hdb : (nm == ("__debug__" : Str)) = false := by decide) (hpl : ((backTo pos (starEach [] X.env)).any (·.1) || (backToKw pos (keywordEach kws X.env)).any (·.1.isNone)) = false := by rfl) :
    PE X (.Call (.Name nm p) [] kws pos) (tMkX C fld tk) := by
  refine ⟨?_⟩
  intro pins s σ H Q I h
  obtain ⟨cn, q, N, bs, bm, sn, sub, ab, col, dd, k0, k1, k2, k3, k5, hC, hbm⟩ := T.ox.cls
  refine wpAny_Call_Name_kw (ld_glob I hg hm ?_ hdb)
  refine PySem.W.callWith_KW0 (h₀ := X.base) I.ok.mod.kin T.ox.kC hall (thn (hk.run pos pins s σ H _ I h) ?_) hpl
  rintro us s1 ⟨vs, H1, I1, r, v, rfl, q1⟩
  refine ⟨I1.kIn, ?_⟩
  obtain ⟨u, rfl, ru⟩ := vals1 r
  rw [hks]
  obtain ⟨hp, g, dr, tk, os⟩ := s1
  obtain ⟨I2, h2⟩ := mkx_start (us := []) I1 q1
  show wpAny _ _ (call (.ref C) [] [(fld, u)]) _ _ _
  refine wpAny_call (MyX.call_kw PySem.F.excBase_ValueError (fun Y => PySem.HandSPX.refsVE_contains Y bm hbm) (I1.kIn _ _ hC) (PySem.W.looks_findIn I1.kIn T.iC) (fun self => PySem.W.bind_fn I1.kIn self T.tI) ?_)
  refine codeAny_mono (G.run _ X.stack _ _ ⟨[.ref (hp.objs.size + 1)], [(fld, u)]⟩ [.ref (hp.objs.size + 1), u] [.ref (hp.objs.size + 1), v] _ E0 (hr.make C [] [(fld, u)]) (I2.env0.make C [] [(fld, u)]) (hb _ _ _) (.cons rfl (.cons ru .nil)) h2) ?_
  intro r s' hq
  exact mkx_end I2 hq
/-- C(), an own exception class without an __init__ -/
theorem pe_mkX0 {bmB : List Value} {B newId initId : String} (F : ExcBaseFacts B newId initId bmB) (q : PySem.W.excIn X.K C bmB newId = true) (gC : X.mg nm = some (.ref C)) (kC : PySem.W.keepIn X.K (.ref C) = true) (hg : Gl X nm) (hdb : (nm == ("__debug__" : Str)) = false := by decide) :
    PE X (.Call (.Name nm p) [] [] pos) (fun _ H Q => ∀ a, H a = none → Q (.ref a) (upd H a (ExO (.ref C) a))) := by
  refine ⟨?_⟩
  intro pins s σ H Q I h
  refine wpAny_Call_Name_kw (ld_glob I hg gC ?_ hdb)
  refine PySem.W.callWith_K0 I.kIn kC ?_
  show wpAny _ _ (call (.ref C) []) _ _ _
  obtain ⟨bm, N, nm, qn, bs, hdct, sn, sub, ab, col, dd, k0, k1, k2, k3, k5, mN, hC, hN, hni, T⟩ := exc_obj I.kIn q
  refine wpAny_call_exc_subT F T hC hN hni ?_ (by show 0 ≤ sizeLine; decide)
  intro h' a hm
  have hn : H a = none := I.hok.gone hm.new
  obtain ⟨t, ht, _, _⟩ := hm.there
  exact ⟨.ref a, _, I.laidN hm.keeps hm.new hn (exO_ok ht ⟨rfl, rfl⟩ rfl rfl rfl (show 4 < 6 by decide)), rfl, h a hn⟩

/-- e.f, e such an exception -/
def tXget (K : PySem.W.Frag) (f : Str) (te : TE) : TE := fun σ H Q => te σ H fun x H1 => ∃ (a C d : Addr) (fs : List (Str × V)) (v : V), x = .ref a ∧ H1 a = some (exo a C (some d)) ∧ H1 d = some (exd d fs) ∧ XfC K C ∧
  PySem.W.findIn K (.ref C) f = some none ∧ fs.lookup f = some v ∧ Q v H1
theorem pe_xget {f : Str} (he : PE X e te) (hb : attributeBase e f X.env (eval e X.env) = eval e X.env := by rfl) : PE X (.Attribute e f pos) (tXget X.K f te) := by
  refine ⟨?_⟩
  intro pins s σ H Q I h
  refine attr_of hb (thn (he.run pins s σ H _ I h) ?_)
  rintro u s1 ⟨x, H1, I1, rx, a, C, d, fs, v, rfl, ha, hd, T, no, l, q⟩
  obtain rfl : u = Value.ref a := rx
  obtain ⟨t1, oa⟩ := exo_at I1.hok ha
  obtain ⟨mA, ns, rel⟩ := exd_at I1.hok hd
  obtain ⟨od, hod, hl⟩ := lookIn_ns ns
  obtain ⟨u, hu, ru⟩ := RelO.some_of (v := v) (o := mA f) (by rw [← l]; exact rel f)
  have J : PySem.W.InstAt s1.heap a { cls := .ref C, dict := some d, data := .fields #[.ref t1, .none, .none, .none, .bool false, .none] } C (some od) := ⟨oa, rfl, rfl, hod⟩
  exact HandSPX.exc_get I1.kIn J T.ga T.gg T.exC (PySem.W.findObj_own T.hdC no rfl (by rw [hl, hu])) (handed_of ru) ⟨v, H1, I1.tok _, ru, q⟩

/-- at a: an exception of the class at C -/
def IsX (H : Hp) (a C : Addr) : Prop := (∃ d fs, H a = some (exo a C (some d)) ∧ H d = some (exd d fs)) ∨ H a = some (ExO (.ref C) a)
/-- what isinstance asks of such a class -/
structure XIs (K : PySem.W.Frag) (C : Addr) : Prop where
  cl : (PySem.W.clsIn K C).isSome = true
  xf : XfC K C
  ha : PySem.W.findIn K (.ref C) "__class__" = some (some (.builtin "object.__class__"))
  hn : PySem.W.specialIn K (.builtin "object.__class__") "__get__" = some (some (.builtin "getset_descriptor.__get__"))
  ht : PySem.W.takesIn K (.builtin "object.__class__") = some true
  hm : PySem.W.mroIn K C (.type "object") = some true
def rIsX (K : PySem.W.Frag) : List V → Hp → VK → Prop := fun xs H Q => ∃ (a C : Addr) (c : V) (u : Value) (b : Bool), xs = [.ref a, c] ∧ ClsV c u ∧ IsX H a C ∧ XIs K C ∧ PySem.W.kitOne K (.ref C) u = some b ∧ Q (.bl b) H
theorem call_isX : CallR X (.builtin "isinstance") (rIsX X.K) := by
  rintro pins s σ H xs us Q I r ⟨a, C, c, u, b, rfl, cv, hx, T, kit, q⟩
  obtain ⟨u1, u2, rfl, r1, r2⟩ := vals2 r
  obtain rfl : u2 = u := cv.eq r2
  obtain rfl : u1 = Value.ref a := r1
  have go : ∀ (ox : Obj) (od : Option Obj), PySem.W.InstAt s.heap a ox C od → wpAny (model X.prog X.w) X.A (call (.builtin "isinstance") [.ref a, u2]) (EP X pins σ Q) X.xe s := fun ox od J =>
    PySem.W.kia_one (PySem.W.kitx_exc T.cl T.xf.ga T.xf.gg T.xf.exC T.ha T.hn T.ht T.hm) I.kIn J kit (fun z => nomatch z) fun tk => ⟨.bl b, H, I.tok tk, rfl, q⟩
  rcases hx with ⟨d, fs, ha, hd⟩ | ha
  · obtain ⟨t1, oa⟩ := exo_at I.hok ha
    obtain ⟨mA, ⟨od, es, ep, hod, _⟩, _⟩ := exd_at I.hok hd
    exact go _ (some od) ⟨oa, rfl, rfl, hod⟩
  · have z : ObjOk X.prog X.w H s.heap a (ExO (.ref C) a) := I.hok a _ ha
    obtain ⟨⟨oe, vs, ho, ⟨z1, z2⟩, hd, _⟩, _⟩ := z
    refine go oe none ⟨ho, z1, ?_, ?_⟩
    · unfold PySem.W.notCls
      rw [hd]
    · rw [z2]
      trivial
end
end My

set_option maxHeartbeats 2000000
/-! Graphs as pairs of numbers: what a GRAPH is, in plain Lean. -/
namespace My
open PySem PySem.Spec PyProof.Rows L2
abbrev E2 := Nat × Nat
theorem same_put {H H1 : Hp} {D : Addr} {o : HO} (s : Same H H1) (n : H D = none) : Same H (upd H1 D o) := fun b u e => by
  rw [upd_ne (ne_of_none e n)]
  exact s b u e
/-- a stands ahead of b, as tuples -/
def ahead (a b : E2) : Prop := a.1 < b.1 ∨ (a.1 = b.1 ∧ a.2 < b.2)
instance (a b : E2) : Decidable (ahead a b) := inferInstanceAs (Decidable (_ ∨ _))
structure Good (n : Nat) (es : List E2) : Prop where
  n9 : n ≤ 9
  lt : ∀ p ∈ es, p.1 < p.2 ∧ p.2 < n
  up : es.Pairwise ahead
/-- the pairs with u ahead, below n; all pairs below n, ascending -/
def rowP (n u : Nat) : List E2 := (List.range (n - (u + 1))).map fun j => (u, u + 1 + j)
def allP (n : Nat) : List E2 := (List.range n).flatMap (rowP n)
theorem mem_rowP {n u : Nat} {p : E2} : p ∈ rowP n u ↔ p.1 = u ∧ u < p.2 ∧ p.2 < n := by
  unfold rowP
  rw [List.mem_map]
  constructor
  · rintro ⟨j, hj, rfl⟩
    have := List.mem_range.mp hj
    refine ⟨rfl, ?_, ?_⟩ <;> show _ < _ <;> omega
  · rintro ⟨h1, h2, h3⟩
    refine ⟨p.2 - (u + 1), List.mem_range.mpr (by omega), ?_⟩
    obtain ⟨a, b⟩ := p
    simp only at h1 h2 h3 ⊢
    rw [h1, show u + 1 + (b - (u + 1)) = b by omega]
theorem mem_allP {n : Nat} {p : E2} : p ∈ allP n ↔ p.1 < p.2 ∧ p.2 < n := by
  unfold allP
  rw [List.mem_flatMap]
  constructor
  · rintro ⟨u, hu, h⟩
    obtain ⟨h1, h2, h3⟩ := mem_rowP.mp h
    omega
  · rintro ⟨h1, h2⟩
    exact ⟨p.1, List.mem_range.mpr (by omega), mem_rowP.mpr ⟨rfl, h1, h2⟩⟩
theorem allP_up : ∀ n, n ≤ 9 → (allP n).Pairwise ahead := by decide +kernel
theorem allP_few : ∀ n, n ≤ 9 → (allP n).length ≤ 36 := by decide +kernel
theorem ahead_ne {a b : E2} (h : ahead a b) : a ≠ b := by
  rintro rfl
  rcases h with h | h <;> omega
theorem sub_few {α : Type} [DecidableEq α] : ∀ {l m : List α}, l.Nodup → (∀ x ∈ l, x ∈ m) → l.length ≤ m.length
  | [], _, _, _ => Nat.zero_le _
  | a :: l, m, nd, sub => by
    obtain ⟨na, nl⟩ := List.nodup_cons.mp nd
    have ma : a ∈ m := sub a (List.mem_cons_self ..)
    have ih := sub_few (l := l) (m := m.erase a) nl fun x hx => by
      have hne : x ≠ a := fun e => na (e ▸ hx)
      exact (List.mem_erase_of_ne hne).mpr (sub x (List.mem_cons_of_mem _ hx))
    have le := List.length_erase_of_mem ma
    have pos : 0 < m.length := List.length_pos_of_mem ma
    rw [List.length_cons]
    omega
theorem Good.nodup {n : Nat} {es : List E2} (g : Good n es) : es.Nodup := g.up.imp fun h => ahead_ne h
theorem Good.few {n : Nat} {es : List E2} (g : Good n es) : es.length ≤ 36 := Nat.le_trans (sub_few g.nodup fun p hp => mem_allP.mpr (g.lt p hp)) (allP_few n g.n9)
theorem Good.filter {n : Nat} (h : n ≤ 9) (f : E2 → Bool) : Good n ((allP n).filter f) := ⟨h, fun p hp => mem_allP.mp (List.mem_filter.mp hp).1, (allP_up n h).filter _⟩
theorem Good.nil {n : Nat} (h : n ≤ 9) : Good n [] := ⟨h, fun _ z => (nomatch z), .nil⟩
theorem Good.more {n m : Nat} {es : List E2} (g : Good n es) (h : n ≤ m) (h9 : m ≤ 9) : Good m es := ⟨h9, fun p hp => ⟨(g.lt p hp).1, by have := (g.lt p hp).2; omega⟩, g.up⟩

/-! ### on the heap -/
/-- the pair p as a tuple -/
def PairAt (K : PySem.W.Frag) (H : Hp) (x : V) (p : E2) : Prop := ∃ t, x = .ref t ∧ SqT K H t [.int (p.1 : Int), .int (p.2 : Int)]
abbrev PairsAt (K : PySem.W.Frag) (H : Hp) : List V → List E2 → Prop := Paired (PairAt K H)
theorem PairAt.same {K : PySem.W.Frag} {H H' : Hp} (e : Same H H') {x : V} {p : E2} (h : PairAt K H x p) : PairAt K H' x p := by
  obtain ⟨t, rfl, h⟩ := h
  exact ⟨t, rfl, Same.tup e h⟩
theorem PairsAt.same {K : PySem.W.Frag} {H H' : Hp} (e : Same H H') : ∀ {xs : List V} {ps : List E2}, PairsAt K H xs ps → PairsAt K H' xs ps
  | _, _, .nil => .nil
  | _, _, .cons a b => .cons (a.same e) (PairsAt.same e b)
theorem PairsAt.append {K : PySem.W.Frag} {H : Hp} : ∀ {xs ys : List V} {ps qs : List E2}, PairsAt K H xs ps → PairsAt K H ys qs → PairsAt K H (xs ++ ys) (ps ++ qs)
  | _, _, _, _, .nil, h => h
  | _, _, _, _, .cons a b, h => .cons a (PairsAt.append b h)
/-- a graph -/
def GraphAt (K : PySem.W.Frag) (H : Hp) (x : V) (n : Nat) (es : List E2) : Prop := ∃ (t e : Addr) (xs : List V), x = .ref t ∧ SqT K H t [.int (n : Int), .ref e] ∧ SqT K H e xs ∧ PairsAt K H xs es
theorem GraphAt.same {K : PySem.W.Frag} {H H' : Hp} (s : Same H H') {x : V} {n : Nat} {es : List E2} (h : GraphAt K H x n es) : GraphAt K H' x n es := by
  obtain ⟨t, e, xs, rfl, h1, h2, h3⟩ := h
  exact ⟨t, e, xs, rfl, Same.tup s h1, Same.tup s h2, h3.same s⟩
def pairD (p : E2) : PyData := .tuple [.int (p.1 : Int), .int (p.2 : Int)]
def graphD (n : Nat) (es : List E2) : PyData := .tuple [.int (n : Int), .tuple (es.map pairD)]
theorem PairAt.dp {K : PySem.W.Frag} {H : Hp} {x : V} {p : E2} (h : PairAt K H x p) : Dp K H x (pairD p) := by
  obtain ⟨t, rfl, h⟩ := h
  exact .tup h (.cons (.int _) (.cons (.int _) .nil))
theorem PairsAt.dp {K : PySem.W.Frag} {H : Hp} : ∀ {xs : List V} {ps : List E2}, PairsAt K H xs ps → DpAll K H xs (ps.map pairD)
  | _, _, .nil => .nil
  | _, _, .cons a b => .cons a.dp (PairsAt.dp b)
theorem GraphAt.dp {K : PySem.W.Frag} {H : Hp} {x : V} {n : Nat} {es : List E2} (h : GraphAt K H x n es) : Dp K H x (graphD n es) := by
  obtain ⟨t, e, xs, rfl, h1, h2, h3⟩ := h
  exact .tup h1 (.cons (.int _) (.cons (.tup h2 h3.dp) .nil))
theorem PairsAt.get {K : PySem.W.Frag} {H : Hp} {xs : List V} {ps : List E2} {i : Nat} {x : V} (h : PairsAt K H xs ps) (e : xs[i]? = some x) : ∃ p, ps[i]? = some p ∧ PairAt K H x p := by
  have go : ∀ {xs : List V} {ps : List E2} {i : Nat} {x : V}, PairsAt K H xs ps → xs[i]? = some x → ∃ p, ps[i]? = some p ∧ PairAt K H x p := by
    intro xs
    induction xs with
    | nil => intro ps i x _ e; simp at e
    | cons a l ih =>
      intro ps i x h e
      cases h with
      | cons r t =>
        cases i with
        | zero => simp at e; subst e; exact ⟨_, rfl, r⟩
        | succ i => obtain ⟨p, h1, h2⟩ := ih t (by simpa using e); exact ⟨p, by simpa using h1, h2⟩
  exact go h e
end My

set_option maxHeartbeats 2000000
/-! Rules that pairs want: the lesser and the greater number of one; a list of pairs made a set, sorted, made a tuple. -/
namespace My
open PySem PySem.Spec PyProof.Rows L2
section
variable {X : Cx}
def rOfPair (f : Int → Int → Int) (K : PySem.W.Frag) : List V → Hp → VK → Prop := fun xs H Q => ∃ (t : Addr) (u v : Int), xs = [.ref t] ∧ SqT K H t [.int u, .int v] ∧ Q (.int (f u v)) H
theorem pair_reads {pins : List (Addr × Obj)} {σ : L2.St} {H : Hp} {s : Shared} {t : Addr} {u v : Int} (I : Inv X pins σ H s) (h : SqT X.K H t [.int u, .int v]) : ∃ vs : Array Value, s.heap.IsTuple t vs ∧ ∃ as, ReadsAll s.heap vs.toList [.int u, .int v] as := by
  obtain ⟨its, r, p, _⟩ := I.tuple h
  obtain ⟨as, q⟩ := Dp.readsAll I [.int u, .int v] [.int u, .int v] its (.cons (.int _) (.cons (.int _) .nil)) r
  obtain ⟨o, ho, hc, n, hd⟩ := p
  exact ⟨its.toArray, ⟨o, ho, hc, n, hd⟩, as, by simpa using q⟩
theorem call_minPair (hc : X.calm = true) (hu : X.A.units + 64 < cLine) : CallR X (.builtin "min") (rOfPair min X.K) := by
  rintro pins s σ H xs us Q I r ⟨t, u, v, rfl, h, q⟩
  rw [Vals.ref1 r]
  obtain ⟨vs, ht, as, rs⟩ := pair_reads I h
  refine PySem.W.min_tuple_data (I.ok.hd hc) ht rs (PySem.W.alikeAll_datum [u, v]) (by simp only [PyData.depthAll, PyData.depth]; omega) ?_
  intro i x h' tk bs hi rd hk
  have e := PySem.W.minD_ints u [v]
  have e' : PySem.W.minD (.int u) [.int v] = .int (min u v) := e
  rw [e'] at rd
  cases rd
  exact ⟨.int _, H, I.kept hk, ⟨_, rfl⟩, q⟩
theorem call_maxPair (hc : X.calm = true) (hu : X.A.units + 64 < cLine) : CallR X (.builtin "max") (rOfPair max X.K) := by
  rintro pins s σ H xs us Q I r ⟨t, u, v, rfl, h, q⟩
  rw [Vals.ref1 r]
  obtain ⟨vs, ht, as, rs⟩ := pair_reads I h
  refine PySem.W.max_tuple_data (I.ok.hd hc) ht rs (PySem.W.alikeAll_datum [u, v]) (by simp only [PyData.depthAll, PyData.depth]; omega) ?_
  intro i x h' tk bs hi rd hk
  have e := PySem.W.maxD_ints u [v]
  have e' : PySem.W.maxD (.int u) [.int v] = .int (max u v) := e
  rw [e'] at rd
  cases rd
  exact ⟨.int _, H, I.kept hk, ⟨_, rfl⟩, q⟩
end
/-! ### a pair among the pairs of a tuple -/
theorem pairD_lay (p : E2) : (pairD p).canLay0 = true := by simp [pairD, PyData.canLay0, PyData.canLayAll0]
theorem pairD_depth (p : E2) : (pairD p).depth = 1 := by simp [pairD, PyData.depth, PyData.depthAll]
theorem pairsD_lay : ∀ ps : List E2, PyData.canLayAll0 (ps.map pairD) = true
  | [] => by rw [List.map_nil]; simp [PyData.canLayAll0]
  | p :: ps => by simp [PyData.canLayAll0, pairD_lay p, pairsD_lay ps]
theorem pairsD_depth : ∀ ps : List E2, PyData.depthAll (ps.map pairD) ≤ 1
  | [] => by rw [List.map_nil]; simp [PyData.depthAll]
  | p :: ps => by
    have a := pairsD_depth ps
    have b := pairD_depth p
    rw [List.map_cons]
    simp only [PyData.depthAll]
    omega
theorem pairD_eqv (p q : E2) : PyData.eqv (pairD p) (pairD q) = decide (p = q) := by
  obtain ⟨a, b⟩ := p
  obtain ⟨c, d⟩ := q
  simp only [pairD, PyData.eqv, PyData.eqvAll, Bool.and_true]
  by_cases h1 : a = c
  · subst h1
    by_cases h2 : b = d
    · subst h2
      simp
    · have z : ((b : Int) == (d : Int)) = false := beq_eq_false_iff_ne.mpr fun e => h2 (by omega)
      simp [z, h2]
  · have z : ((a : Int) == (c : Int)) = false := beq_eq_false_iff_ne.mpr fun e => h1 (by omega)
    simp [z, h1]
theorem any_pairs (p : E2) : ∀ es : List E2, ((es.map pairD).any fun z => PyData.eqv z (pairD p)) = decide (p ∈ es)
  | [] => rfl
  | q :: es => by
    rw [List.map_cons, List.any_cons, any_pairs p es, pairD_eqv]
    by_cases h : q = p
    · subst h
      simp
    · have h' : p ≠ q := fun e => h e.symm
      simp [h, h']
section
variable {X : Cx}
def rInP (k : Bool → Bool) (K : PySem.W.Frag) : R2 := fun x y H Q => ∃ (p : E2) (t : Addr) (xs : List V) (es : List E2), PairAt K H x p ∧ y = .ref t ∧ SqT K H t xs ∧ PairsAt K H xs es ∧ Q (.bl (k (decide (p ∈ es)))) H
theorem op_inP (hu : X.A.units + 64 < cLine) : OpR X (compareOp .In) (rInP id X.K) := by
  rintro pins s σ H x y v u Q I rx ry ⟨p, t, xs, es, hp, rfl, ht, hes, q⟩
  obtain ⟨as, r1⟩ := Dp.reads I _ x v hp.dp rx
  obtain ⟨bs, r2⟩ := Dp.reads I (.tuple (es.map pairD)) (.ref t) u (.tup ht hes.dp) ry
  refine SeqAt.in_tuple_reads r2 r1 (pairsD_lay es) (pairD_lay p) ?_ ?_
  · have := pairD_depth p
    have := Nat.min_le_right (PyData.depthAll (es.map pairD)) (pairD p).depth
    omega
  · rw [any_pairs]
    exact ⟨.bl _, H, I, rfl, q⟩
theorem op_notInP (hu : X.A.units + 64 < cLine) : OpR X (compareOp .NotIn) (rInP not X.K) := by
  rintro pins s σ H x y v u Q I rx ry ⟨p, t, xs, es, hp, rfl, ht, hes, q⟩
  obtain ⟨as, r1⟩ := Dp.reads I _ x v hp.dp rx
  obtain ⟨bs, r2⟩ := Dp.reads I (.tuple (es.map pairD)) (.ref t) u (.tup ht hes.dp) ry
  refine SeqAt.notIn_tuple_reads r2 r1 (pairsD_lay es) (pairD_lay p) ?_ ?_
  · have := pairD_depth p
    have := Nat.min_le_right (PyData.depthAll (es.map pairD)) (pairD p).depth
    omega
  · rw [any_pairs]
    exact ⟨.bl _, H, I, rfl, q⟩
end
end My

set_option maxHeartbeats 2000000
/-! graph6 in plain Lean. -/
namespace My
open PySem PySem.Spec PyProof.Rows L2
/-- a walk from any heap on: S says a turn, by what follows it -/
theorem lo_it {J : It} {n : Nat} {G : Hp → Prop} {Y : Nat → Hp → V → Hp → Prop} (w : Walk J n G Y) {S : V → Hp → (Hp → Prop) → Prop} {Qd : Hp → Prop} {H0 : Hp} (Pv : Nat → Hp → Prop) (h0 : Pv 0 H0) (hG : ∀ i H, i ≤ n → Pv i H → G H)
    (hs : ∀ i x H H', i < n → Pv i H → Y i H x H' → S x H' (Pv (i + 1))) (hd : ∀ H, Pv n H → Qd H) :
    ∃ W : Nat → Nat → Hp → Prop, (∃ m, W 0 m H0) ∧ ∀ i m H, W i m H → (J.stop i H ∧ Qd H) ∨ (J.go i H ∧ ∃ Nx : Hp → Prop, (∀ H', Nx H' → ∃ m', m' < m ∧ W (i + 1) m' H') ∧ ∀ x H', J.yld i H x H' → S x H' Nx) := by
  refine ⟨fun i m H => i + m = n ∧ Pv i H, ⟨n, Nat.zero_add n, h0⟩, fun i m H hw => ?_⟩
  obtain ⟨e, pv⟩ := hw
  have g := hG i H (by omega) pv
  rcases Nat.eq_zero_or_pos m with z | z
  · have en : i = n := by omega
    subst en
    exact .inl ⟨w.stops H g, hd H pv⟩
  · refine .inr ⟨w.goes i H (by omega) g, Pv (i + 1), fun H' pv' => ⟨m - 1, by omega, by omega, pv'⟩, fun x H' y => ?_⟩
    exact hs i x H H' (by omega) pv (w.yields i H x H' (by omega) g y)
/-- the pairs by their greater number, then by the lesser -/
def pairsG (n : Nat) : List E2 := (List.range n).flatMap fun v => (List.range v).map fun u => (u, v)
def bit1 (es : List E2) (p : E2) : Nat := if p ∈ es then 1 else 0
def bitsOf (n : Nat) (es : List E2) : List Nat := (pairsG n).map (bit1 es)
def pad (b : List Nat) : List Nat := b ++ List.replicate ((b.length + 5) / 6 * 6 - b.length) 0
def numOf (b : List Nat) : Nat := b.foldl (fun a x => 2 * a + x) 0
def chunk (b : List Nat) (i : Nat) : List Nat := (b.drop (6 * i)).take 6
def groups (b : List Nat) : Nat := (b.length + 5) / 6
/-- the text of signs told by numbers -/
def tx (ks : List Nat) : Str := ⟨(ks.map (63 + ·)).toArray⟩
/-- the 64 signs -/
def SG : Str := tx (List.range 64)
def codeL (n : Nat) (es : List E2) : List Nat := n :: (List.range (groups (bitsOf n es))).map fun i => numOf (chunk (pad (bitsOf n es)) i)
theorem tx_len (ks : List Nat) : (tx ks).length = ks.length := by
  show ((ks.map (63 + ·)).toArray).size = _
  rw [List.size_toArray, List.length_map]
theorem tx_append (ks ls : List Nat) : tx ks ++ tx ls = tx (ks ++ ls) := by
  show Str.append _ _ = _
  unfold Str.append tx
  rw [List.map_append]
  simp
theorem join_tx : ∀ ks : List Nat, Str.join "" (ks.map fun k => tx [k]) = tx ks
  | [] => rfl
  | [k] => rfl
  | k :: l :: ks => by
    show tx [k] ++ (("" : String) : Str) ++ Str.join "" ((l :: ks).map fun k => tx [k]) = _
    rw [join_tx (l :: ks)]
    have e : tx [k] ++ (("" : String) : Str) = tx [k] := by
      show Str.append _ _ = _
      unfold Str.append
      have z : ((("" : String) : Str)).cps = #[] := by decide +kernel
      rw [z, Array.append_empty]
    rw [e, tx_append]
    rfl
theorem pairsG_succ (n : Nat) : pairsG (n + 1) = pairsG n ++ (List.range n).map fun u => (u, n) := by
  unfold pairsG
  rw [List.range_succ, List.flatMap_append, List.flatMap_cons, List.flatMap_nil, List.append_nil]
theorem pairsG_few : ∀ n, n ≤ 9 → (pairsG n).length ≤ 36 := by decide +kernel
theorem mem_pairsG {n : Nat} {p : E2} : p ∈ pairsG n ↔ p.1 < p.2 ∧ p.2 < n := by
  unfold pairsG
  rw [List.mem_flatMap]
  constructor
  · rintro ⟨v, hv, h⟩
    obtain ⟨u, hu, rfl⟩ := List.mem_map.mp h
    exact ⟨List.mem_range.mp hu, List.mem_range.mp hv⟩
  · rintro ⟨h1, h2⟩
    exact ⟨p.2, List.mem_range.mpr h2, List.mem_map.mpr ⟨p.1, List.mem_range.mpr h1, rfl⟩⟩
theorem bits_len (n : Nat) (es : List E2) : (bitsOf n es).length = (pairsG n).length := List.length_map _
theorem bits_few {n : Nat} (h : n ≤ 9) (es : List E2) : (bitsOf n es).length ≤ 36 := by rw [bits_len]; exact pairsG_few n h
theorem bits_le (n : Nat) (es : List E2) : ∀ b ∈ bitsOf n es, b ≤ 1 := by
  intro b hb
  obtain ⟨p, _, rfl⟩ := List.mem_map.mp hb
  unfold bit1
  split <;> omega
theorem pad_len (b : List Nat) : (pad b).length = 6 * groups b := by
  unfold pad groups
  rw [List.length_append, List.length_replicate]
  omega
theorem pad_le {b : List Nat} (h : ∀ x ∈ b, x ≤ 1) : ∀ x ∈ pad b, x ≤ 1 := by
  intro x hx
  rcases List.mem_append.mp hx with hx | hx
  · exact h x hx
  · rw [(List.mem_replicate.mp hx).2]
    exact Nat.zero_le _
theorem foldl_lt : ∀ (b : List Nat) (a k : Nat), (∀ x ∈ b, x ≤ 1) → a < 2 ^ k → b.foldl (fun a x => 2 * a + x) a < 2 ^ (k + b.length)
  | [], a, k, _, h => h
  | x :: b, a, k, hb, h => by
    have hx := hb x (List.mem_cons_self ..)
    have z := foldl_lt b (2 * a + x) (k + 1) (fun y hy => hb y (List.mem_cons_of_mem _ hy)) (by rw [Nat.pow_succ]; omega)
    rw [List.foldl_cons, List.length_cons, show k + (b.length + 1) = k + 1 + b.length by omega]
    exact z
theorem numOf_lt {b : List Nat} (h : ∀ x ∈ b, x ≤ 1) : numOf b < 2 ^ b.length := by
  have z := foldl_lt b 0 0 h (by decide)
  rw [Nat.zero_add] at z
  exact z
theorem numOf_snoc (b : List Nat) (x : Nat) : numOf (b ++ [x]) = 2 * numOf b + x := by
  unfold numOf
  rw [List.foldl_append]
  rfl
theorem chunk_sub (b : List Nat) (i : Nat) : ∀ x ∈ chunk b i, x ∈ b := fun x hx => List.mem_of_mem_drop (List.mem_of_mem_take hx)
theorem chunk_len {b : List Nat} {i : Nat} (h : 6 * i + 6 ≤ b.length) : (chunk b i).length = 6 := by
  unfold chunk
  rw [List.length_take, List.length_drop]
  omega
theorem chunk_lt {b : List Nat} {i : Nat} (hb : ∀ x ∈ b, x ≤ 1) : numOf (chunk b i) < 64 := by
  have z := numOf_lt (b := chunk b i) fun x hx => hb x (chunk_sub b i x hx)
  have l : (chunk b i).length ≤ 6 := by
    unfold chunk
    rw [List.length_take]
    omega
  exact Nat.lt_of_lt_of_le z (Nat.pow_le_pow_right (by decide) l)
theorem SG_at : ∀ k : Nat, k < 64 → atI SG.cps.toList (k : Int) = some (63 + k) := by
  intro k hk
  refine atI_nat ?_
  show ((List.range 64).map (63 + ·))[k]? = _
  rw [List.getElem?_map, List.getElem?_range hk]
  rfl
theorem six : ∀ k : Nat, k ≤ 42 → RgC 0 (k : Int) 6 ((k + 5) / 6) := by
  have h : ∀ k : Nat, k ≤ 42 → Builtin.Range.small 0 (k : Int) 6 = true ∧ Builtin.Range.rangeSize 0 (k : Int) 6 = (((k + 5) / 6 : Nat) : Int) := by decide +kernel
  exact fun k hk => ⟨by decide, by decide, (h k hk).1, (h k hk).2⟩
end My

set_option maxHeartbeats 2000000
/-! Reading graph6, in plain Lean: by the signs' codes. -/
namespace My
open PySem PySem.Spec PyProof.Rows L2
/-- the sign c can stand at place a behind the first one, with L pairs to tell -/
def goodS (L a c : Nat) : Bool := decide (63 ≤ c ∧ c < 127) && decide (6 * a < L) && decide ((c - 63) % 2 ^ (6 - (L - 6 * a)) = 0)
/-- where it is wrong, by how many signs are right -/
def scan (L : Nat) : Nat → List Nat → Option Nat
  | a, [] => if 6 * a < L then some (a + 1) else none
  | a, c :: cs => if goodS L a c = true then scan L (a + 1) cs else some (a + 1)
def bits6 (c : Nat) : List Nat := [5, 4, 3, 2, 1, 0].map fun p => (c - 63) / 2 ^ p % 2
def bitsC (cs : List Nat) : List Nat := cs.flatMap bits6
def tellP (ps : List E2) (bs : List Nat) : List E2 := ((ps.zip bs).filter fun q => q.2 != 0).map (·.1)
inductive RdG where
  | bad (k : Nat)
  | told (n : Nat) (ps : List E2)
def readG : List Nat → RdG
  | [] => .bad 0
  | c :: cs => if 63 ≤ c ∧ c ≤ 72 then match scan (pairsG (c - 63)).length 0 cs with
    | some k => .bad k
    | none => .told (c - 63) (tellP (pairsG (c - 63)) (bitsC cs))
    else .bad 0
theorem bitsC_len (cs : List Nat) : (bitsC cs).length = 6 * cs.length := by
  unfold bitsC
  induction cs with
  | nil => rfl
  | cons c cs ih => rw [List.flatMap_cons, List.length_append, ih, List.length_cons]; show 6 + _ = _; omega
theorem eq_of_up : ∀ {es fs : List E2}, es.Pairwise ahead → fs.Pairwise ahead → (∀ q, q ∈ es ↔ q ∈ fs) → es = fs
  | [], [], _, _, _ => rfl
  | [], f :: fs, _, _, h => absurd ((h f).mpr (List.mem_cons_self ..)) (fun z => nomatch z)
  | e :: es, [], _, _, h => absurd ((h e).mp (List.mem_cons_self ..)) (fun z => nomatch z)
  | e :: es, f :: fs, he, hf, h => by
    obtain ⟨e1, e2⟩ := List.pairwise_cons.mp he
    obtain ⟨f1, f2⟩ := List.pairwise_cons.mp hf
    have ef : e = f := by
      rcases List.mem_cons.mp ((h e).mp (List.mem_cons_self ..)) with z | z
      · exact z
      · rcases List.mem_cons.mp ((h f).mpr (List.mem_cons_self ..)) with y | y
        · exact y.symm
        · have a1 := f1 e z
          have a2 := e1 f y
          unfold ahead at a1 a2
          omega
    subst ef
    refine congrArg (e :: ·) (eq_of_up e2 f2 fun q => ⟨fun z => ?_, fun z => ?_⟩)
    · rcases List.mem_cons.mp ((h q).mp (List.mem_cons_of_mem _ z)) with y | y
      · exact absurd (e1 q z) (fun w => ahead_ne w y.symm)
      · exact y
    · rcases List.mem_cons.mp ((h q).mpr (List.mem_cons_of_mem _ z)) with y | y
      · exact absurd (f1 q z) (fun w => ahead_ne w y.symm)
      · exact y
theorem tellP_snoc {ps : List E2} {bs : List Nat} {p : E2} {b : Nat} (h : ps.length = bs.length) : tellP (ps ++ [p]) (bs ++ [b]) = tellP ps bs ++ (if b != 0 then [p] else []) := by
  unfold tellP
  rw [List.zip_append h, List.filter_append, List.map_append]
  congr 1
  show (([(p, b)] : List (E2 × Nat)).filter _).map _ = _
  cases e : (b != 0)
  · rw [List.filter_cons_of_neg (by simpa using e)]
    rfl
  · rw [List.filter_cons_of_pos (by simpa using e)]
    rfl
theorem tellP_sub (ps : List E2) (bs : List Nat) : ∀ q ∈ tellP ps bs, q ∈ ps := by
  intro q hq
  obtain ⟨r, hr, rfl⟩ := List.mem_map.mp hq
  exact (List.of_mem_zip (List.mem_filter.mp hr).1).1
/-! ### there and back -/
theorem bits6_of : ∀ a b c d e f : Nat, a ≤ 1 → b ≤ 1 → c ≤ 1 → d ≤ 1 → e ≤ 1 → f ≤ 1 → bits6 (63 + numOf [a, b, c, d, e, f]) = [a, b, c, d, e, f] := by
  have h : ∀ a b c d e f : Fin 2, bits6 (63 + numOf [a.val, b.val, c.val, d.val, e.val, f.val]) = [a.val, b.val, c.val, d.val, e.val, f.val] := by decide +kernel
  exact fun a b c d e f h1 h2 h3 h4 h5 h6 => h ⟨a, by omega⟩ ⟨b, by omega⟩ ⟨c, by omega⟩ ⟨d, by omega⟩ ⟨e, by omega⟩ ⟨f, by omega⟩
theorem bits6_chunk {b : List Nat} (l : b.length = 6) (h : ∀ x ∈ b, x ≤ 1) : bits6 (63 + numOf b) = b := by
  match b, l, h with
  | [a, b, c, d, e, f], _, h => exact bits6_of a b c d e f (h a (by simp)) (h b (by simp)) (h c (by simp)) (h d (by simp)) (h e (by simp)) (h f (by simp))
theorem chunks_all {b : List Nat} : ∀ m, b.length = 6 * m → (List.range m).flatMap (chunk b) = b
  | 0, h => by
    rw [List.range_zero, List.flatMap_nil]
    exact (List.eq_nil_of_length_eq_zero (by omega)).symm
  | m + 1, h => by
    have ih := chunks_all (b := b.drop 6) m (by rw [List.length_drop]; omega)
    rw [List.range_succ_eq_map, List.flatMap_cons, List.flatMap_map]
    have e : (List.range m).flatMap (fun i => chunk b (Nat.succ i)) = (List.range m).flatMap (chunk (b.drop 6)) := by
      congr 1
      funext i
      unfold chunk
      rw [List.drop_drop]
      congr 2
      omega
    rw [e, ih]
    unfold chunk
    rw [Nat.mul_zero, List.drop_zero, List.take_append_drop]
theorem bitsC_code {b : List Nat} {m : Nat} (l : b.length = 6 * m) (h : ∀ x ∈ b, x ≤ 1) : bitsC ((List.range m).map fun i => 63 + numOf (chunk b i)) = b := by
  unfold bitsC
  rw [List.flatMap_map]
  have e : ∀ i ∈ List.range m, bits6 (63 + numOf (chunk b i)) = chunk b i := fun i hi => by
    have im := List.mem_range.mp hi
    exact bits6_chunk (chunk_len (by omega)) fun x hx => h x (chunk_sub b i x hx)
  have e2 : (List.range m).flatMap (fun i => bits6 (63 + numOf (chunk b i))) = (List.range m).flatMap (chunk b) := by
    rw [List.flatMap_def, List.flatMap_def, List.map_congr_left e]
  rw [e2, chunks_all m l]
theorem numOf_zeros (b : List Nat) : ∀ k, numOf (b ++ List.replicate k 0) = numOf b * 2 ^ k
  | 0 => by rw [List.replicate_zero, List.append_nil, Nat.pow_zero, Nat.mul_one]
  | k + 1 => by
    rw [List.replicate_succ', ← List.append_assoc, numOf_snoc, numOf_zeros b k, Nat.pow_succ, Nat.add_zero, Nat.mul_comm 2, Nat.mul_assoc]
theorem goodS_code {bs : List Nat} {i : Nat} (h : ∀ x ∈ bs, x ≤ 1) (hi : i < groups bs) : goodS bs.length i (63 + numOf (chunk (pad bs) i)) = true := by
  have lt := chunk_lt (i := i) (pad_le h)
  unfold groups at hi
  unfold goodS
  rw [Bool.and_eq_true, Bool.and_eq_true]
  refine ⟨⟨decide_eq_true (by omega), decide_eq_true (by omega)⟩, decide_eq_true ?_⟩
  rw [Nat.add_sub_cancel_left]
  by_cases f : 6 * i + 6 ≤ bs.length
  · rw [show 6 - (bs.length - 6 * i) = 0 by omega, Nat.pow_zero, Nat.mod_one]
  · have e : chunk (pad bs) i = bs.drop (6 * i) ++ List.replicate (6 - (bs.length - 6 * i)) 0 := by
      unfold chunk pad
      rw [List.drop_append_of_le_length (by omega)]
      rw [List.take_of_length_le (by rw [List.length_append, List.length_drop, List.length_replicate]; omega)]
      congr 2
      omega
    rw [e, numOf_zeros, Nat.mul_mod_left]
theorem scan_code {L m : Nat} (f : Nat → Nat) (hm : m = (L + 5) / 6) (h : ∀ i, i < m → goodS L i (f i) = true) : ∀ k, k ≤ m → scan L k (((List.range m).drop k).map f) = none := by
  intro k hk
  induction e : m - k generalizing k with
  | zero =>
    have : k = m := by omega
    subst this
    rw [List.drop_eq_nil_of_le (by rw [List.length_range]; exact Nat.le_refl _)]
    show (if 6 * k < L then some (k + 1) else none) = none
    rw [if_neg (by omega)]
  | succ d ih =>
    have lk : k < (List.range m).length := by rw [List.length_range]; omega
    rw [List.drop_eq_getElem_cons lk, List.getElem_range, List.map_cons]
    show (if goodS L k (f k) = true then scan L (k + 1) _ else some (k + 1)) = none
    rw [if_pos (h k (by omega))]
    exact ih (k + 1) (by omega) (by omega)
theorem tellP_bits (es : List E2) : ∀ (ps : List E2) (k : Nat), tellP ps (ps.map (bit1 es) ++ List.replicate k 0) = ps.filter fun p => decide (p ∈ es)
  | [], k => by
    unfold tellP
    rw [List.zip_nil_left]
    rfl
  | p :: ps, k => by
    have ih := tellP_bits es ps k
    unfold tellP at ih ⊢
    rw [List.map_cons, List.cons_append, List.zip_cons_cons]
    unfold bit1 at *
    by_cases h : p ∈ es
    · rw [List.filter_cons_of_pos (by simp [h]), List.map_cons, List.filter_cons_of_pos (by simpa using h), ih]
    · rw [List.filter_cons_of_neg (by simp [h]), List.filter_cons_of_neg (by simpa using h), ih]
/-- the text of a graph, read -/
theorem read_code {n : Nat} {es : List E2} (g : Good n es) : readG ((codeL n es).map (63 + ·)) = .told n ((pairsG n).filter fun p => decide (p ∈ es)) := by
  unfold codeL
  rw [List.map_cons, List.map_map]
  have n9 := g.n9
  have hb := bits_le n es
  show (if 63 ≤ 63 + n ∧ 63 + n ≤ 72 then _ else _) = _
  rw [if_pos (by omega), Nat.add_sub_cancel_left]
  have e1 : ((fun x => 63 + x) ∘ fun i => numOf (chunk (pad (bitsOf n es)) i)) = fun i => 63 + numOf (chunk (pad (bitsOf n es)) i) := rfl
  rw [e1]
  have s := scan_code (L := (pairsG n).length) (m := groups (bitsOf n es)) (fun i => 63 + numOf (chunk (pad (bitsOf n es)) i)) (by unfold groups; rw [bits_len]) (fun i hi => by rw [← bits_len n es]; exact goodS_code hb hi) 0 (Nat.zero_le _)
  rw [List.drop_zero] at s
  rw [s, bitsC_code (pad_len _) (pad_le hb)]
  show RdG.told n (tellP (pairsG n) (pad (bitsOf n es))) = _
  unfold pad
  rw [show bitsOf n es = (pairsG n).map (bit1 es) from rfl, tellP_bits]
end My

set_option maxHeartbeats 2000000
/-! Pairs that stand in the heap by themselves; sorted lists of them. -/
namespace My
open PySem PySem.Spec PyProof.Rows L2
def PairT (H : Hp) (x : V) (p : E2) : Prop := ∃ t, x = .ref t ∧ H t = some (.tup [.int (p.1 : Int), .int (p.2 : Int)])
abbrev PairsT (H : Hp) : List V → List E2 → Prop := Paired (PairT H)
theorem PairT.at {K : PySem.W.Frag} {H : Hp} {x : V} {p : E2} (h : PairT H x p) : PairAt K H x p := by
  obtain ⟨t, e, h⟩ := h
  exact ⟨t, e, SqT.of h⟩
theorem PairsT.at {K : PySem.W.Frag} {H : Hp} : ∀ {xs : List V} {ps : List E2}, PairsT H xs ps → PairsAt K H xs ps
  | _, _, .nil => .nil
  | _, _, .cons a b => .cons a.at (PairsT.at b)
theorem PairsT.same {H H' : Hp} (s : Same H H') : ∀ {xs : List V} {ps : List E2}, PairsT H xs ps → PairsT H' xs ps
  | _, _, .nil => .nil
  | _, _, .cons ⟨t, e, h⟩ b => .cons ⟨t, e, s _ _ h⟩ (PairsT.same s b)
theorem PairsT.put {H : Hp} {D : Addr} {o : HO} {zs : List V} (hD : H D = some (.lst zs)) : ∀ {xs : List V} {ps : List E2}, PairsT H xs ps → PairsT (upd H D o) xs ps
  | _, _, .nil => .nil
  | _, _, .cons ⟨t, e, h⟩ b => .cons ⟨t, e, by rw [upd_ne (fun z => by rw [z, hD] at h; cases h)]; exact h⟩ (PairsT.put hD b)
theorem PairsT.append {H : Hp} : ∀ {xs ys : List V} {ps qs : List E2}, PairsT H xs ps → PairsT H ys qs → PairsT H (xs ++ ys) (ps ++ qs)
  | _, _, _, _, .nil, h => h
  | _, _, _, _, .cons a b, h => .cons a (PairsT.append b h)
theorem PairsT.len {H : Hp} : ∀ {xs : List V} {ps : List E2}, PairsT H xs ps → xs.length = ps.length
  | _, _, .nil => rfl
  | _, _, .cons _ b => congrArg (· + 1) (PairsT.len b)
theorem push_pairT {H : Hp} {D r : Addr} {zs : List V} {ps : List E2} (p : E2) (hD : H D = some (.lst zs)) (nr : H r = none) (h : PairsT H zs ps) :
    PairsT (upd (upd H r (.tup [.int (p.1 : Int), .int (p.2 : Int)])) D (.lst (zs ++ [.ref r]))) (zs ++ [.ref r]) (ps ++ [p]) := by
  have s1 : Same H (upd H r (.tup [.int (p.1 : Int), .int (p.2 : Int)])) := fun b u q => by rw [upd_ne (ne_of_none q nr)]; exact q
  have h2 : PairsT (upd H r (.tup [.int (p.1 : Int), .int (p.2 : Int)])) (zs ++ [.ref r]) (ps ++ [p]) := (h.same s1).append (.cons ⟨r, rfl, upd_same⟩ .nil)
  exact h2.put (s1 _ _ hD)
/-- the numbers of a pair at a value -/
def kOf (H : Hp) (x : V) : Int × Int := match x with
  | .ref t => match H t with
    | some (.tup [.int i, .int j]) => (i, j)
    | _ => (0, 0)
  | _ => (0, 0)
def gOf (H : Hp) (x : V) : E2 := ((kOf H x).1.toNat, (kOf H x).2.toNat)
theorem kOf_at {H : Hp} {x : V} {p : E2} (h : PairT H x p) : kOf H x = ((p.1 : Int), (p.2 : Int)) := by
  obtain ⟨t, rfl, h⟩ := h
  show (match H t with
    | some (.tup [.int i, .int j]) => (i, j)
    | _ => ((0 : Int), (0 : Int))) = _
  rw [h]
theorem gOf_at {H : Hp} {x : V} {p : E2} (h : PairT H x p) : gOf H x = p := by
  unfold gOf
  rw [kOf_at h]
  rfl
theorem map_gOf {H : Hp} : ∀ {xs : List V} {ps : List E2}, PairsT H xs ps → xs.map (gOf H) = ps
  | _, _, .nil => rfl
  | _, _, .cons a b => by rw [List.map_cons, gOf_at a, map_gOf b]
theorem PairsT.mem {H : Hp} : ∀ {xs : List V} {ps : List E2}, PairsT H xs ps → ∀ x ∈ xs, PairT H x (gOf H x)
  | _, _, .nil => fun _ z => nomatch z
  | _, _, .cons a b => fun x hx => by
    rcases List.mem_cons.mp hx with rfl | hx
    · rw [gOf_at a]; exact a
    · exact PairsT.mem b x hx
theorem PairsT.of_mem {H : Hp} : ∀ {ys : List V}, (∀ y ∈ ys, PairT H y (gOf H y)) → PairsT H ys (ys.map (gOf H))
  | [], _ => .nil
  | y :: ys, h => .cons (h y (List.mem_cons_self ..)) (PairsT.of_mem fun z hz => h z (List.mem_cons_of_mem _ hz))
/-- sorted pairs, none twice, ascend -/
theorem sorted_pairs {H : Hp} {xs ys : List V} {ps : List E2} (h : PairsT H xs ps) (nd : ps.Nodup) (so : SrtO.Srtd (ltP (kOf H)) ys) (st : SrtO.Stb (ltP (kOf H)) ys xs) :
    PairsT H ys (ys.map (gOf H)) ∧ (ys.map (gOf H)).Pairwise ahead ∧ ∀ q, q ∈ ys.map (gOf H) ↔ q ∈ ps := by
  have pm : (ys.map (gOf H)).Perm ps := by
    have z := st.perm.map (gOf H)
    rw [map_gOf h] at z
    exact z
  have hy : ∀ y ∈ ys, PairT H y (gOf H y) := fun y hy => h.mem y (st.perm.mem_iff.mp hy)
  refine ⟨PairsT.of_mem hy, ?_, fun q => pm.mem_iff⟩
  have nd2 : (ys.map (gOf H)).Nodup := pm.nodup_iff.mpr nd
  rw [List.pairwise_map]
  refine (so.and (List.pairwise_map.mp nd2)).imp_of_mem ?_
  intro a b ha hb ⟨le, ne⟩
  have ka := kOf_at (hy a ha)
  have kb := kOf_at (hy b hb)
  have le2 : SrtO.lexB (kOf H b) (kOf H a) = false := le
  rw [ka, kb] at le2
  have le3 := mt (SrtO.lexB_iff (p := (((gOf H b).1 : Int), ((gOf H b).2 : Int))) (q := (((gOf H a).1 : Int), ((gOf H a).2 : Int)))).mpr (by rw [le2]; decide)
  dsimp only at le3
  have ne2 : ¬ ((gOf H a).1 = (gOf H b).1 ∧ (gOf H a).2 = (gOf H b).2) := fun ⟨x, y⟩ => ne (Prod.ext x y)
  unfold ahead
  omega
theorem find_sg : ∀ c : Nat, c < 128 → Txt.find SG ⟨#[c]⟩ = if 63 ≤ c ∧ c < 127 then (c : Int) - 63 else -1 := by decide +kernel
theorem and_one : ∀ x : Nat, x < 64 → Builtin.bitAnd (x : Int) 1 = ((x % 2 : Nat) : Int) := by decide +kernel
/-- the number that a sign tells -/
def nm (c : Nat) : Int := if 63 ≤ c ∧ c < 127 then (c : Int) - 63 else -1
def numsZ (cs : List Nat) : List V := cs.map fun c => V.int (nm c)
theorem scan_good {L : Nat} : ∀ (cs : List Nat) (a : Nat), scan L a cs = none → ∀ i c, cs[i]? = some c → goodS L (a + i) c = true
  | [], _, _, i, c, h => by simp at h
  | d :: cs, a, h, i, c, hi => by
    have h' : (if goodS L a d = true then scan L (a + 1) cs else some (a + 1)) = none := h
    by_cases g : goodS L a d = true
    · rw [if_pos g] at h'
      cases i with
      | zero =>
        have e : d = c := by simpa using hi
        rw [← e]
        exact g
      | succ i =>
        have z := scan_good cs (a + 1) h' i c (by simpa using hi)
        rw [show a + (i + 1) = a + 1 + i by omega]
        exact z
    · rw [if_neg g] at h'
      cases h'
theorem scan_enough {L : Nat} : ∀ (cs : List Nat) (a : Nat), scan L a cs = none → L ≤ 6 * (a + cs.length)
  | [], a, h => by
    have h' : (if 6 * a < L then some (a + 1) else none) = none := h
    by_cases l : 6 * a < L
    · rw [if_pos l] at h'
      cases h'
    · rw [List.length_nil]
      omega
  | d :: cs, a, h => by
    have h' : (if goodS L a d = true then scan L (a + 1) cs else some (a + 1)) = none := h
    by_cases g : goodS L a d = true
    · rw [if_pos g] at h'
      have := scan_enough cs (a + 1) h'
      rw [List.length_cons]
      omega
    · rw [if_neg g] at h'
      cases h'
theorem bits6_at (c : Nat) : ∀ j, j < 6 → (bits6 c)[j]? = some ((c - 63) / 2 ^ (5 - j) % 2) := by
  intro j hj
  unfold bits6
  match j, hj with
  | 0, _ => rfl
  | 1, _ => rfl
  | 2, _ => rfl
  | 3, _ => rfl
  | 4, _ => rfl
  | 5, _ => rfl
theorem places_at {x : V} {j : Nat} (h : ([.int 5, .int 4, .int 3, .int 2, .int 1, .int 0] : List V)[j]? = some x) : j < 6 ∧ x = .int ((5 - j : Nat) : Int) := by
  match j, h with
  | 0, h => exact ⟨by decide, (Option.some.inj h).symm⟩
  | 1, h => exact ⟨by decide, (Option.some.inj h).symm⟩
  | 2, h => exact ⟨by decide, (Option.some.inj h).symm⟩
  | 3, h => exact ⟨by decide, (Option.some.inj h).symm⟩
  | 4, h => exact ⟨by decide, (Option.some.inj h).symm⟩
  | 5, h => exact ⟨by decide, (Option.some.inj h).symm⟩
  | j + 6, h => exact absurd h (by simp)
theorem bitsC_succ {cs : List Nat} {i c : Nat} (h : cs[i]? = some c) : bitsC (cs.take (i + 1)) = bitsC (cs.take i) ++ bits6 c := by
  unfold bitsC
  rw [List.take_succ, h, List.flatMap_append]
  show _ ++ ([c].flatMap bits6) = _
  rw [List.flatMap_cons, List.flatMap_nil, List.append_nil]
theorem pairsG_nodup : ∀ n, n ≤ 9 → (pairsG n).Nodup := by decide +kernel
theorem tellP_sublist : ∀ (ps : List E2) (bs : List Nat), (tellP ps bs).Sublist ps
  | [], bs => by unfold tellP; rw [List.zip_nil_left]; exact List.Sublist.refl _
  | p :: ps, [] => by unfold tellP; rw [List.zip_nil_right]; exact List.nil_sublist _
  | p :: ps, b :: bs => by
    have ih := tellP_sublist ps bs
    unfold tellP at ih ⊢
    rw [List.zip_cons_cons, List.filter_cons]
    split
    · rw [List.map_cons]
      exact ih.cons_cons p
    · exact ih.cons p
theorem tellP_nodup {ps : List E2} {bs : List Nat} (h : ps.Nodup) : (tellP ps bs).Nodup := h.sublist (tellP_sublist ps bs)
end My

set_option maxHeartbeats 4000000
/-! What is told is fit to be shown. -/
namespace My
open PySem PySem.Spec PyProof.Rows L2
theorem app_len (a b : Str) : (a ++ b).length = a.length + b.length := by
  show (a.cps ++ b.cps).size = _
  rw [Array.size_append]
  rfl
theorem tup_len (ts : List Str) : (tupleText ts).length ≤ (ts.map (·.length)).sum + 2 * ts.length + 3 := by
  have h := StrLaws.join_length_le ", " ts
  have c : ((", " : String) : Str).length = 2 := by decide +kernel
  have o : (("(" : String) : Str).length = 1 := by decide +kernel
  have e1 : ((",)" : String) : Str).length = 2 := by decide +kernel
  have e2 : ((")" : String) : Str).length = 1 := by decide +kernel
  unfold tupleText
  rw [app_len, app_len, o]
  rw [c] at h
  split
  · rw [e1]; omega
  · rw [e2]; omega
theorem from_len : ∀ (ts : List Str) (k : Nat) (acc : Str), (textFrom k acc ts).length ≤ acc.length + (ts.map (·.length)).sum + 2 * ts.length
  | [], k, acc => by show acc.length ≤ acc.length + 0 + 0; omega
  | t :: ts, k, acc => by
    have h := from_len ts (k + 1) (acc ++ (((if k > 0 then ", " else "" : String)) : Str) ++ t)
    have c : ((", " : String) : Str).length = 2 := by decide +kernel
    have c0 : (("" : String) : Str).length = 0 := by decide +kernel
    have e : (acc ++ (((if k > 0 then ", " else "" : String)) : Str) ++ t : Str).length ≤ acc.length + 2 + t.length := by
      rw [app_len, app_len]
      split
      · rw [c]; omega
      · rw [c0]; omega
    show (textFrom (k + 1) (acc ++ (((if k > 0 then ", " else "" : String)) : Str) ++ t) ts).length ≤ _
    rw [List.map_cons, List.sum_cons, List.length_cons]
    omega
theorem lst_len (ts : List Str) : (listText ts).length ≤ (ts.map (·.length)).sum + 2 * ts.length + 2 := by
  have h := from_len ts 0 "["
  have o : (("[" : String) : Str).length = 1 := by decide +kernel
  have e2 : (("]" : String) : Str).length = 1 := by decide +kernel
  unfold listText
  rw [app_len, e2]
  rw [o] at h
  omega
theorem pair_fine : ∀ a, a ≤ 9 → ∀ b, b ≤ 9 → (pairD (a, b)).shown.length ≤ 6 ∧ (pairD (a, b)).showable = true := by decide +kernel
theorem pairs_fine : ∀ {es : List E2}, (∀ p ∈ es, p.1 ≤ 9 ∧ p.2 ≤ 9) → ((PyData.shownAll (es.map pairD)).map (·.length)).sum ≤ 6 * es.length ∧ (PyData.shownAll (es.map pairD)).length = es.length ∧ PyData.showableAll (es.map pairD) = true
  | [], _ => ⟨Nat.le_refl _, rfl, by rw [List.map_nil]; simp [PyData.showableAll]⟩
  | p :: es, h => by
    obtain ⟨h1, h2, h3⟩ := pairs_fine (es := es) fun q hq => h q (List.mem_cons_of_mem _ hq)
    obtain ⟨a, b⟩ := h p (List.mem_cons_self ..)
    obtain ⟨f1, f2⟩ := pair_fine p.1 a p.2 b
    rw [List.map_cons]
    simp only [PyData.shownAll, PyData.showableAll, List.map_cons, List.sum_cons, List.length_cons]
    refine ⟨?_, by omega, ?_⟩
    · have f1' : (pairD p).shown.length ≤ 6 := f1
      omega
    · have f2' : (pairD p).showable = true := f2
      rw [f2', h3]
      rfl
theorem num_fine : ∀ n : Nat, n ≤ 9 → (PyData.int (n : Int)).shown.length ≤ 1 ∧ (PyData.int (n : Int)).showable = true := by decide +kernel
theorem graph_fine {n : Nat} {es : List E2} (g : Good n es) : (graphD n es).shown.length ≤ 400 ∧ (graphD n es).showable = true ∧ (graphD n es).depth ≤ 3 := by
  have n9 := g.n9
  obtain ⟨h1, h2, h3⟩ := pairs_fine (es := es) fun p hp => by have := g.lt p hp; omega
  obtain ⟨f1, f2⟩ := num_fine n n9
  have few := g.few
  have t1 := tup_len (PyData.shownAll (es.map pairD))
  have t2 := tup_len [(PyData.int (n : Int)).shown, tupleText (PyData.shownAll (es.map pairD))]
  have pd := pairsD_depth es
  unfold graphD
  refine ⟨?_, ?_, ?_⟩
  · have e : (PyData.tuple [.int (n : Int), .tuple (es.map pairD)]).shown = tupleText [(PyData.int (n : Int)).shown, tupleText (PyData.shownAll (es.map pairD))] := by simp [PyData.shown, PyData.shownAll]
    rw [e]
    simp only [List.map_cons, List.map_nil, List.sum_cons, List.sum_nil, List.length_cons, List.length_nil] at t2
    omega
  · simp [PyData.showable, PyData.showableAll, h3]
    simpa [PyData.showable] using f2
  · simp only [PyData.depth, PyData.depthAll]
    omega
def FineD (d : PyData) : Prop := d.showable = true ∧ d.depth ≤ 60 ∧ d.shown.length ≤ sizeLine
instance (d : PyData) : Decidable (FineD d) := inferInstanceAs (Decidable (_ ∧ _ ∧ _))
theorem bad_fine : ∀ k : Nat, k ≤ 950 → FineD (.list [.str "wrong", .int (k : Int)]) := by decide +kernel
theorem told_fine {n : Nat} {es : List E2} (g : Good n es) : FineD (.list [.str "told", graphD n es]) := by
  obtain ⟨h1, h2, h3⟩ := graph_fine g
  have c : (reprText "told").length = 6 := by decide +kernel
  have t := lst_len [reprText "told", (graphD n es).shown]
  refine ⟨?_, ?_, ?_⟩
  · simp [PyData.showable, PyData.showableAll, h2]
  · simp only [PyData.depth, PyData.depthAll]
    omega
  · have e : (PyData.list [.str "told", graphD n es]).shown = listText [reprText "told", (graphD n es).shown] := by simp [PyData.shown, PyData.shownAll]
    rw [e]
    simp only [List.map_cons, List.map_nil, List.sum_cons, List.sum_nil, List.length_cons, List.length_nil] at t
    exact Nat.le_trans t (Nat.le_of_lt (small1000 (by omega)))
theorem three_fine {n : Nat} {es : List E2} (g : Good n es) {z : Str} (hz : ∀ c ∈ z.cps.toList, c < 128) (zl : z.length ≤ 30) : FineD (.list [.str z, .str z, .list [.str "told", graphD n es]]) := by
  obtain ⟨h1, h2, h3⟩ := told_fine g
  obtain ⟨k1, k2, k3⟩ := graph_fine g
  have r := StrLaws.reprText_len z fun c hc => Nat.lt_trans (hz c hc) (by decide)
  have c : (reprText "told").length = 6 := by decide +kernel
  have t0 := lst_len [reprText "told", (graphD n es).shown]
  have t := lst_len [reprText z, reprText z, listText [reprText "told", (graphD n es).shown]]
  refine ⟨?_, ?_, ?_⟩
  · simp [PyData.showable, PyData.showableAll, k2]
  · simp only [PyData.depth, PyData.depthAll]
    omega
  · have e : (PyData.list [.str z, .str z, .list [.str "told", graphD n es]]).shown = listText [reprText z, reprText z, listText [reprText "told", (graphD n es).shown]] := by simp [PyData.shown, PyData.shownAll]
    rw [e]
    simp only [List.map_cons, List.map_nil, List.sum_cons, List.sum_nil, List.length_cons, List.length_nil] at t t0
    exact Nat.le_of_lt (Nat.lt_of_le_of_lt t (by
      refine Nat.lt_of_lt_of_le (show _ < 5000 by omega) ?_
      rw [sizeLine_eq]
      decide))
end My

set_option maxHeartbeats 2000000
/-! Values of any kind, by their shape; what is a graph, a lot. -/
namespace My
open PySem PySem.Spec PyProof.Rows L2
inductive Sh where
  | int (i : Int)
  | bool (b : Bool)
  | str (x : Str)
  | tup (ss : List Sh)
  | oth
mutual
inductive ShAt (K : PySem.W.Frag) (H : Hp) : V → Sh → Prop
  | int (i : Int) : ShAt K H (.int i) (.int i)
  | bool (b : Bool) : ShAt K H (.bl b) (.bool b)
  | tup {t : Addr} {xs : List V} {ss : List Sh} (h : SqT K H t xs) (r : ShsAt K H xs ss) : ShAt K H (.ref t) (.tup ss)
  | non : ShAt K H .non .oth
  | str (x : Str) : ShAt K H (.str x) (.str x)
  | lst {a : Addr} {xs : List V} (h : SqL K H a xs) : ShAt K H (.ref a) .oth
  | dct {a : Addr} {kvs : List (Key × V)} (h : H a = some (.dK kvs)) : ShAt K H (.ref a) .oth
inductive ShsAt (K : PySem.W.Frag) (H : Hp) : List V → List Sh → Prop
  | nil : ShsAt K H [] []
  | cons {x : V} {s : Sh} {xs : List V} {ss : List Sh} (a : ShAt K H x s) (r : ShsAt K H xs ss) : ShsAt K H (x :: xs) (s :: ss)
end
/-- tuples and dicts stay, lists stay lists -/
structure Kp (K : PySem.W.Frag) (H H' : Hp) : Prop where
  tup : ∀ t xs, SqT K H t xs → SqT K H' t xs
  lst : ∀ a xs, SqL K H a xs → ∃ ys, SqL K H' a ys
  dct : ∀ a kvs, H a = some (.dK kvs) → H' a = some (.dK kvs)
theorem Kp.of {K : PySem.W.Frag} {H H' : Hp} (s : Same H H') : Kp K H H' := ⟨fun t xs h => Same.tup s h, fun a xs h => ⟨xs, L2.Same.seq s h⟩, fun a kvs h => s _ _ h⟩
theorem Kp.trans {K : PySem.W.Frag} {H1 H2 H3 : Hp} (a : Kp K H1 H2) (b : Kp K H2 H3) : Kp K H1 H3 := ⟨fun t xs h => b.tup t xs (a.tup t xs h), fun c xs h => by
    obtain ⟨ys, h2⟩ := a.lst c xs h
    exact b.lst c ys h2, fun c kvs h => b.dct c kvs (a.dct c kvs h)⟩
mutual
theorem ShAt.kp {K : PySem.W.Frag} {H H' : Hp} (e : Kp K H H') : ∀ {v : V} {s : Sh}, ShAt K H v s → ShAt K H' v s
  | _, _, .int i => .int i
  | _, _, .bool b => .bool b
  | _, _, .tup h r => .tup (e.tup _ _ h) (ShsAt.kp e r)
  | _, _, .non => .non
  | _, _, .str x => .str x
  | _, _, .lst h => by
    obtain ⟨ys, h2⟩ := e.lst _ _ h
    exact .lst h2
  | _, _, .dct h => .dct (e.dct _ _ h)
theorem ShsAt.kp {K : PySem.W.Frag} {H H' : Hp} (e : Kp K H H') : ∀ {xs : List V} {ss : List Sh}, ShsAt K H xs ss → ShsAt K H' xs ss
  | _, _, .nil => .nil
  | _, _, .cons a r => .cons (a.kp e) (ShsAt.kp e r)
end
theorem ShAt.same {K : PySem.W.Frag} {H H' : Hp} (e : Same H H') {v : V} {s : Sh} (h : ShAt K H v s) : ShAt K H' v s := h.kp (Kp.of e)
theorem ShsAt.same {K : PySem.W.Frag} {H H' : Hp} (e : Same H H') {xs : List V} {ss : List Sh} (h : ShsAt K H xs ss) : ShsAt K H' xs ss := h.kp (Kp.of e)
theorem ShsAt.len {K : PySem.W.Frag} {H : Hp} : ∀ {xs : List V} {ss : List Sh}, ShsAt K H xs ss → xs.length = ss.length
  | _, _, .nil => rfl
  | _, _, .cons _ r => congrArg (· + 1) (ShsAt.len r)
theorem ShsAt.get {K : PySem.W.Frag} {H : Hp} : ∀ {xs : List V} {ss : List Sh}, ShsAt K H xs ss → ∀ {i : Nat} {x : V}, xs[i]? = some x → ∃ s, ss[i]? = some s ∧ ShAt K H x s
  | _, _, .nil, i, x, e => by simp at e
  | _, _, .cons a r, 0, x, e => by simp at e; subst e; exact ⟨_, rfl, a⟩
  | _, _, .cons a r, i + 1, x, e => by
    obtain ⟨s, h1, h2⟩ := ShsAt.get r (i := i) (x := x) (by simpa using e)
    exact ⟨s, by simpa using h1, h2⟩
theorem ShsAt.app {K : PySem.W.Frag} {H : Hp} : ∀ {xs ys : List V} {ss ts : List Sh}, ShsAt K H xs ss → ShsAt K H ys ts → ShsAt K H (xs ++ ys) (ss ++ ts)
  | _, _, _, _, .nil, h => h
  | _, _, _, _, .cons a r, h => .cons a (ShsAt.app r h)
/-- the type's name -/
def tyOk (T : String) : Sh → Prop
  | .int _ => T = "int"
  | .bool _ => T = "bool"
  | .tup _ => T = "tuple"
  | .str _ => T = "str"
  | .oth => T ≠ "int" ∧ T ≠ "bool" ∧ T ≠ "tuple" ∧ T ≠ "str"
theorem ShAt.ty {K : PySem.W.Frag} {H : Hp} {v : V} {s : Sh} (h : ShAt K H v s) : ∃ T, TyB K H v T ∧ tyOk T s := by
  cases h with
  | int i => exact ⟨_, .int i, rfl⟩
  | bool b => exact ⟨_, .bl b, rfl⟩
  | tup h r => exact ⟨_, .tup h, rfl⟩
  | non => exact ⟨_, .non, (by decide : ("NoneType" : String) ≠ "int" ∧ ("NoneType" : String) ≠ "bool" ∧ ("NoneType" : String) ≠ "tuple" ∧ ("NoneType" : String) ≠ "str")⟩
  | str x => exact ⟨_, .str x, rfl⟩
  | lst h => exact ⟨_, .lst h, (by decide : ("list" : String) ≠ "int" ∧ ("list" : String) ≠ "bool" ∧ ("list" : String) ≠ "tuple" ∧ ("list" : String) ≠ "str")⟩
  | dct h => exact ⟨_, .dK h, (by decide : ("dict" : String) ≠ "int" ∧ ("dict" : String) ≠ "bool" ∧ ("dict" : String) ≠ "tuple" ∧ ("dict" : String) ≠ "str")⟩
def wholeF (lo : Int) : Sh → Bool
  | .int i => decide (i ≥ lo)
  | _ => false
def wholeR (lo hi : Int) : Sh → Bool
  | .int i => decide (i ≥ lo) && decide (i ≤ hi)
  | _ => false
def isTwo : Sh → Bool
  | .tup [_, _] => true
  | _ => false
def vpB (n : Int) : Sh → Bool
  | .tup [a, b] => wholeR 0 (n - 1) a && wholeR 0 (n - 1) b
  | _ => false
def lt2 : Sh → Bool
  | .tup [.int a, .int b] => decide (a < b)
  | _ => false
def edgeB (n : Int) (s : Sh) : Bool := vpB n s && lt2 s
/-- one stands ahead of the other, as numbers or as pairs of numbers -/
def ltS : Sh → Sh → Bool
  | .int a, .int b => decide (a < b)
  | .tup [.int a, .int b], .tup [.int c, .int d] => HT.lexLt [a, b] [c, d]
  | _, _ => false
def ascB : List Sh → Bool
  | s :: t :: r => ltS s t && ascB (t :: r)
  | _ => true
def isGr : Sh → Bool
  | .tup [.int n, .tup es] => (decide (n ≥ 0) && decide (n ≤ 9)) && (es.all (edgeB n) && ascB es)
  | _ => false
def isLot (n : Nat) : Sh → Bool
  | .tup ss => ss.all (wholeR 0 ((n : Int) - 1)) && ascB ss
  | _ => false
end My

set_option maxHeartbeats 4000000
/-! What the second family of laws draws from: the pot; values of any kind made from written ones. -/
namespace My
open PySem PySem.Spec PyProof.Rows L2
theorem same_new {H : Hp} {p : Addr} (h : H p = none) (o : HO) : Same H (upd H p o) := fun b u q => by rw [upd_ne (ne_of_none q h)]; exact q
theorem small {n : Nat} (h : n ≤ 1000) : n ≤ sizeLine := Nat.le_of_lt (small1000 h)
theorem iteB {c : Bool} {A B : Prop} (h1 : c = true → A) (h2 : c = false → B) : if c = true then A else B := by
  cases c with
  | true => exact iteT (h1 rfl)
  | false => exact iteF (h2 rfl)
theorem join {i : Nat} {σ : L2.St} {N : L2.St → Hp → Prop} {H : Hp} {G : Prop} {R : V → Prop} (h : (∀ v, R v → gName i v σ H N) → G) (g : ∀ v, R v → gName i v σ H N) : G := h g
theorem joinS {i : Nat} {σ : L2.St} {N : L2.St → Hp → Prop} {G : Prop} {R : V → Hp → Prop} (h : (∀ v H, R v H → gName i v σ H N) → G) (g : ∀ v H, R v H → gName i v σ H N) : G := h g
theorem joinT {N : L2.St → Hp → Prop} {G : Prop} {R : L2.St → Hp → Prop} (h : (∀ σ H, R σ H → N σ H) → G) (g : ∀ σ H, R σ H → N σ H) : G := h g
/-- a pot at p -/
def Wl (H : Hp) (p : Addr) : Prop := ∃ (a : Int) (b : Fin 2147483249) (c : Int), H p = some (.lst [.int a, .int ((b.val : Nat) : Int), .int c])
theorem wl_mk {H : Hp} {p : Addr} {a x c : Int} (h : H p = some (.lst [.int a, .int x, .int c])) (h0 : 0 ≤ x) (h1 : x < 2147483249) : Wl H p := by
  refine ⟨a, ⟨x.toNat, by omega⟩, c, ?_⟩
  rw [h]
  have : ((x.toNat : Nat) : Int) = x := by omega
  show _ = some (HO.lst [.int a, .int ((x.toNat : Nat) : Int), .int c])
  rw [this]
/-- all but p is as it was -/
def But (p : Addr) (H H' : Hp) : Prop := ∀ q o, q ≠ p → H q = some o → H' q = some o
theorem But.refl (p : Addr) (H : Hp) : But p H H := fun _ _ _ e => e
theorem But.trans {p : Addr} {H1 H2 H3 : Hp} (x : But p H1 H2) (y : But p H2 H3) : But p H1 H3 := fun q o n e => y q o n (x q o n e)
theorem But.new {p q : Addr} {H : Hp} {o : HO} (n : H q = none) : But p H (upd H q o) := fun b u _ e => by rw [upd_ne (ne_of_none e n)]; exact e
theorem But.put {p : Addr} {H : Hp} {o : HO} : But p H (upd H p o) := fun b u n e => by rw [upd_ne n]; exact e
theorem But.of {p : Addr} {H H' : Hp} (s : Same H H') : But p H H' := fun b u _ e => s b u e
/-- the heap without p -/
def hide (p : Addr) (H : Hp) : Hp := fun q => if q = p then none else H q
theorem hide_ne {p q : Addr} {H : Hp} (h : q ≠ p) : hide p H q = H q := if_neg h
theorem hide_at {p : Addr} {H : Hp} : hide p H p = none := if_pos rfl
theorem hide_some {p q : Addr} {H : Hp} {o : HO} (h : hide p H q = some o) : q ≠ p ∧ H q = some o := by
  by_cases e : q = p
  · rw [e, hide_at] at h
    cases h
  · rw [hide_ne e] at h
    exact ⟨e, h⟩
theorem hide_sub (p : Addr) (H : Hp) : Same (hide p H) H := fun q o h => (hide_some h).2
theorem But.hide {p : Addr} {H H' : Hp} (h : But p H H') : Same (hide p H) (hide p H') := fun q o e => by
  obtain ⟨n, e⟩ := hide_some e
  rw [hide_ne n]
  exact h q o n e
def Fine (d : PyData) : Prop := d.showable = true ∧ d.depth ≤ 60 ∧ d.shown.length ≤ sizeLine
instance (d : PyData) : Decidable (Fine d) := inferInstanceAs (Decidable (_ ∧ _ ∧ _))
theorem take_succ {α : Type} {l : List α} {i : Nat} {x : α} (h : l[i]? = some x) : l.take (i + 1) = l.take i ++ [x] := by
  rw [List.take_succ, h]
  rfl
/-- every tuple stays -/
def TS (H H' : Hp) : Prop := ∀ q xs, Rd H q (.tup xs) → Rd H' q (.tup xs)
theorem TS.refl (H : Hp) : TS H H := fun _ _ h => h
theorem TS.trans {H1 H2 H3 : Hp} (a : TS H1 H2) (b : TS H2 H3) : TS H1 H3 := fun q xs h => b q xs (a q xs h)
theorem TS.of {H H' : Hp} (s : Same H H') : TS H H' := fun q xs h => by
  rcases h with h | ⟨o, h⟩
  · exact .inl (s _ _ h)
  · exact .inr ⟨o, s _ _ h⟩
theorem TS.put {H : Hp} {D : Addr} {zs : List V} {o : HO} (h : H D = some (.lst zs)) : TS H (upd H D o) := fun q xs r => by
  have ne : q ≠ D := fun z => by
    rw [z] at r
    rcases r with r | ⟨_, r⟩ <;> (rw [h] at r; cases r)
  unfold Rd
  rw [upd_ne ne]
  exact r
theorem TS.but {p : Addr} {H H' : Hp} (b : But p H H') (w : Wl H p) : TS H H' := fun q xs r => by
  obtain ⟨x, y, z, hp⟩ := w
  have ne : q ≠ p := fun e => by
    rw [e] at r
    rcases r with r | ⟨_, r⟩ <;> (rw [hp] at r; cases r)
  rcases r with r | ⟨o, r⟩
  · exact .inl (b _ _ ne r)
  · exact .inr ⟨o, b _ _ ne r⟩
theorem TS.tup {K : PySem.W.Frag} {H H' : Hp} (s : TS H H') {t : Addr} {xs : List V} (h : SqT K H t xs) : SqT K H' t xs := by
  rcases h with h | h
  · exact .inl (s _ _ h)
  · exact .inr h
theorem PairsAt.ts {K : PySem.W.Frag} {H H' : Hp} (e : TS H H') : ∀ {xs : List V} {ps : List E2}, PairsAt K H xs ps → PairsAt K H' xs ps
  | _, _, .nil => .nil
  | _, _, .cons ⟨t, h1, h2⟩ b => .cons ⟨t, h1, e.tup h2⟩ (PairsAt.ts e b)
theorem PairsAt.len {K : PySem.W.Frag} {H : Hp} : ∀ {xs : List V} {ps : List E2}, PairsAt K H xs ps → xs.length = ps.length
  | _, _, .nil => rfl
  | _, _, .cons _ b => congrArg (· + 1) (PairsAt.len b)
theorem GraphAt.ts {K : PySem.W.Frag} {H H' : Hp} (s : TS H H') {x : V} {n : Nat} {es : List E2} (h : GraphAt K H x n es) : GraphAt K H' x n es := by
  obtain ⟨t, e, xs, rfl, h1, h2, h3⟩ := h
  exact ⟨t, e, xs, rfl, s.tup h1, s.tup h2, h3.ts s⟩
theorem Wl.same {H H' : Hp} {p : Addr} (s : Same H H') (w : Wl H p) : Wl H' p := by
  obtain ⟨a, b, c, h⟩ := w
  exact ⟨a, b, c, s _ _ h⟩
theorem Wl.put {H : Hp} {p D : Addr} {o : HO} (w : Wl H p) (ne : D ≠ p) : Wl (upd H D o) p := by
  obtain ⟨a, b, c, h⟩ := w
  exact ⟨a, b, c, by rw [upd_ne (Ne.symm ne)]; exact h⟩
theorem Wl.ne {H : Hp} {p D : Addr} (w : Wl H p) (n : H D = none) : D ≠ p := by
  obtain ⟨a, b, c, h⟩ := w
  rintro rfl
  rw [h] at n
  cases n
theorem Wl.off {K : PySem.W.Frag} {H : Hp} {p t : Addr} {xs : List V} (w : Wl H p) (h : SqT K H t xs) : SqT K (hide p H) t xs := by
  obtain ⟨a, b, c, hp⟩ := w
  rcases h with h | h
  · left
    have ne : t ≠ p := fun e => by
      rw [e] at h
      rcases h with r | ⟨_, r⟩ <;> (rw [hp] at r; cases r)
    unfold Rd
    rw [hide_ne ne]
    exact h
  · exact .inr h
theorem Wl.ts {K : PySem.W.Frag} {H H' : Hp} {p t : Addr} {xs : List V} (w : Wl H p) (b : But p H H') (h : SqT K H t xs) : SqT K H' t xs := (TS.but b w).tup h
theorem Kp.but {K : PySem.W.Frag} {p : Addr} {H H' : Hp} (b : But p H H') (w : Wl H p) (w' : Wl H' p) : Kp K H H' := by
  refine ⟨fun t xs h => (TS.but b w).tup h, fun a xs h => ?_, fun a kvs h => ?_⟩
  · obtain ⟨x, y, z, hp⟩ := w
    obtain ⟨x', y', z', hp'⟩ := w'
    rcases h with (h | ⟨o, h⟩) | h
    · by_cases e : a = p
      · subst e
        exact ⟨_, SqL.of hp'⟩
      · exact ⟨xs, SqL.of (b _ _ e h)⟩
    · by_cases e : a = p
      · subst e
        rw [hp] at h
        cases h
      · exact ⟨xs, .inl (.inr ⟨o, b _ _ e h⟩)⟩
    · exact ⟨xs, .inr h⟩
  · obtain ⟨x, y, z, hp⟩ := w
    have e : a ≠ p := fun e => by
      subst e
      rw [hp] at h
      cases h
    exact b _ _ e h
theorem ShAt.but {K : PySem.W.Frag} {p : Addr} {H H' : Hp} (b : But p H H') (w : Wl H p) (w' : Wl H' p) {v : V} {s : Sh} (h : ShAt K H v s) : ShAt K H' v s := h.kp (Kp.but b w w')
theorem ShsAt.but {K : PySem.W.Frag} {p : Addr} {H H' : Hp} (b : But p H H') (w : Wl H p) (w' : Wl H' p) {v : List V} {s : List Sh} (h : ShsAt K H v s) : ShsAt K H' v s := h.kp (Kp.but b w w')
/-! ### rules -/
/-- t + u, whatever of them is () -/
def rCatW (K : PySem.W.Frag) : R2 := fun x y H Q => ∃ a b xs ys, x = .ref a ∧ y = .ref b ∧ SqT K H a xs ∧ SqT K H b ys ∧ xs.length + ys.length ≤ sizeLine ∧ ∀ p H', Same H H' → SqT K H' p (xs ++ ys) → Q (.ref p) H'
theorem op_catW {X : Cx} : OpR X (binaryOp .Add) (rCatW X.K) := by
  intro pins s σ H x y v u Q I rx ry h
  obtain ⟨a, b, xs, ys, rfl, rfl, ha, hb, hz, q⟩ := h
  refine op_catA pins s σ H _ _ v u Q I rx ry ⟨a, b, xs, ys, rfl, rfl, ha, hb, hz, fun e => ?_, fun _ e => ?_, fun _ _ p np => q p _ (same_new np _) (SqT.of upd_same)⟩
  · subst e
    exact q b H (Same.refl H) hb
  · subst e
    exact q a H (Same.refl H) (by rw [List.append_nil]; exact ha)
/-- t[lo:hi], the whole of it too -/
def rSlW (K : PySem.W.Frag) : V → Option Int → Option Int → Hp → VK → Prop := fun x lo hi H Q => ∃ a xs, x = .ref a ∧ SqT K H a xs ∧ ∀ p H', Same H H' → SqT K H' p (cutV xs lo hi) → Q (.ref p) H'
theorem sl_tupW {X : Cx} : SlR X (rSlW X.K) := by
  intro pins s σ H x v vl vu lo hi sl Q I rx hs pl pu h
  obtain ⟨a, xs, rfl, hx, q⟩ := h
  refine sl_tupA pins s σ H _ v vl vu lo hi sl Q I rx hs pl pu ⟨a, xs, rfl, hx, fun w => q a H (Same.refl H) ?_, fun _ p np => q p _ (same_new np _) (SqT.of upd_same)⟩
  have e : cutV xs lo hi = xs := by
    unfold cutV
    rw [w.1, w.2, List.drop_zero, Nat.sub_zero, List.take_length]
  rw [e]
  exact hx
theorem ShsAt.drop {K : PySem.W.Frag} {H : Hp} : ∀ {xs : List V} {ss : List Sh} (k : Nat), ShsAt K H xs ss → ShsAt K H (xs.drop k) (ss.drop k)
  | _, _, 0, h => h
  | _, _, k + 1, .nil => .nil
  | _, _, k + 1, .cons _ r => ShsAt.drop k r
theorem ShsAt.take {K : PySem.W.Frag} {H : Hp} : ∀ {xs : List V} {ss : List Sh} (k : Nat), ShsAt K H xs ss → ShsAt K H (xs.take k) (ss.take k)
  | _, _, 0, _ => .nil
  | _, _, k + 1, .nil => .nil
  | _, _, k + 1, .cons a r => .cons a (ShsAt.take k r)
theorem ShsAt.cut {K : PySem.W.Frag} {H : Hp} {xs : List V} {ss : List Sh} (h : ShsAt K H xs ss) (lo hi : Option Int) : ∃ ts, ShsAt K H (cutV xs lo hi) ts := ⟨_, (h.drop _).take _⟩
theorem ShsAt.rev {K : PySem.W.Frag} {H : Hp} : ∀ {xs : List V} {ss : List Sh}, ShsAt K H xs ss → ShsAt K H xs.reverse ss.reverse
  | _, _, .nil => .nil
  | _, _, .cons a r => by
    rw [List.reverse_cons, List.reverse_cons]
    exact (ShsAt.rev r).app (.cons a .nil)
theorem ShsAt.mem {K : PySem.W.Frag} {H : Hp} {xs : List V} {ss : List Sh} (h : ShsAt K H xs ss) {x : V} (m : x ∈ xs) : ∃ s, s ∈ ss ∧ ShAt K H x s := by
  obtain ⟨i, hi, e⟩ := List.getElem_of_mem m
  obtain ⟨s, h1, h2⟩ := h.get (i := i) (x := x) (by rw [List.getElem?_eq_getElem hi, e])
  exact ⟨s, List.mem_of_getElem? h1, h2⟩
/-- t[::-1], t a tuple -/
theorem getItem_tuple_rev {prog : Program} {w : World} {A : Around} {E : Value → Shared → Prop} {s : Shared} {t sl : Addr} {items : Array Value} {k : Tok} {Q : Value → Shared → Prop} (ht : IsTup s.heap t items) (hs : s.heap.IsSliceOf sl .none .none (.int (-1) k))
    (h : Q (.ref s.heap.objs.size) { s with heap := s.heap.push { cls := .type "tuple", data := .seq items.toList.reverse.toArray } }) (hsz : items.size ≤ sizeLine) : wpAny (model prog w) A (getItem (.ref t) (.ref sl)) Q E s := by
  have htake : sizeOk (.seq items.toList.reverse.toArray) := by
    show items.toList.reverse.toArray.size ≤ sizeLine
    rw [List.size_toArray, List.length_reverse, Array.length_toList]
    exact hsz
  obtain ⟨os, hos, hcs, hds⟩ := id hs
  have hTs : s.TypeIs (.ref sl) "slice" := ⟨os, hos, hcs⟩
  unfold getItem
  try with_reducible refine wpAny_holding ?_
  first | refine wpAny_bind (wpAny_pure ?_) | skip
  refine wpAny_bind (wpAny_sequenceKey ht.typeIs (by decide) ?_)
  refine wpAny_bind (wpAny_callSpecial?_slot (name := Str.ofString "__getitem__") ht.typeIs PyProof.Rows.slot_tuple_getitem
    (wpAny_call_entry PyProof.Rows.slot_tuple_getitem ht.typeIs entry_tuple_getitem ?_ (args_tuple_getitem _ _)))
  show wpAny _ _ (Builtin.Tuple.tupleItemsOf (.ref t) >>= _) _ _ s
  refine wpAny_bind (tupleItemsOf_ ht ?_)
  refine wpAny_bind (wpAny_typeOf hTs ?_)
  rw [if_pos (by decide)]
  have ap : Builtin.Slice.sliceAdjust none none (-1) (items.size : Int) = ((items.size : Int) - 1, -1) := rfl
  have pl : Builtin.Slice.slicePlaces ((items.size : Int) - 1) (-1) (-1) = items.size := by
    unfold Builtin.Slice.slicePlaces
    rw [if_neg (by decide)]
    by_cases z : items.size = 0
    · rw [z]
      rfl
    · rw [if_pos (by omega)]
      have : ((items.size : Int) - 1 - -1 - 1) / (- -1) + 1 = (items.size : Int) := by
        rw [show - (-1 : Int) = 1 by decide, Int.ediv_one]
        omega
      rw [this, Int.toNat_natCast]
  have pk : ((List.range items.size).filterMap fun (m : Nat) => items[(((items.size : Int) - 1) + (m : Int) * -1).toNat]?).toArray = items.toList.reverse.toArray := by
    congr 1
    refine List.ext_getElem? fun j => ?_
    have e : ∀ n, n ≤ items.size → (List.range n).filterMap (fun (m : Nat) => items[(((items.size : Int) - 1) + (m : Int) * -1).toNat]?) = (items.toList.reverse).take n := fun n => by
      induction n with
      | zero => intro _; rfl
      | succ n ih =>
        intro h
        have hn : n < items.toList.reverse.length := by rw [List.length_reverse, Array.length_toList]; omega
        rw [List.range_succ, List.filterMap_append, ih (by omega), List.take_add_one, List.getElem?_eq_getElem hn]
        congr 1
        have i1 : (((items.size : Int) - 1) + (n : Int) * -1).toNat = items.size - 1 - n := by omega
        have lt : items.size - 1 - n < items.size := by omega
        rw [List.getElem_reverse]
        simp only [List.filterMap_cons, List.filterMap_nil, i1, Array.getElem?_eq_getElem lt, Option.toList_some]
        simp
    rw [e _ (Nat.le_refl _), List.take_of_length_le (by rw [List.length_reverse, Array.length_toList]; exact Nat.le_refl _)]
  refine wpAny_bind ?_
  unfold Builtin.Slice.sliceApplied Builtin.Slice.sliceFields
  refine wpAny_bind (wpAny_bind (wpAny_field hos hds (x := .none) rfl (wpAny_bind (wpAny_field hos hds (x := .none) rfl (wpAny_bind (wpAny_field hos hds (x := .int (-1) k) rfl (wpAny_pure ?_)))))))
  refine wpAny_bind (HT.slicePart_ (.int (-1) k) ?_)
  show wpAny _ _ (if ((-1 : Int) == 0) = true then _ else _) _ _ s
  rw [if_neg (by decide)]
  refine wpAny_bind (HT.slicePart_ .none (wpAny_bind (HT.slicePart_ .none (wpAny_bind (wpAny_pure ?_)))))
  show wpAny _ _ (match Builtin.Slice.sliceAdjust none none (-1) (items.size : Int) with | (lo, hi) => pure (lo, (-1 : Int), Builtin.Slice.slicePlaces lo hi (-1))) _ _ s
  rw [ap]
  show wpAny _ _ (pure ((items.size : Int) - 1, (-1 : Int), Builtin.Slice.slicePlaces ((items.size : Int) - 1) (-1) (-1))) _ _ s
  rw [pl]
  refine wpAny_pure ?_
  have hno : ¬ (((items.size : Int) - 1 == 0 && (-1 : Int) == 1 && items.size == items.size) = true) := by simp
  show wpAny _ _ (if ((items.size : Int) - 1 == 0 && (-1 : Int) == 1 && items.size == items.size) = true then _ else _) _ _ s
  rw [if_neg hno, pk]
  first
    | exact wpAny_bind (m := Builtin.Tuple.tupleExact _) (wpAny_newObj_type (wpAny_pure ⟨_, rfl, wpAny_pure h⟩) htake)
    | exact wpAny_bind (m := Builtin.Tuple.tupleExact _) (wpAny_newObj_type (wpAny_bind (wpAny_pure (wpAny_pure ⟨_, rfl, wpAny_pure h⟩))) htake)
    | exact wpAny_bind (wpAny_bind (m := Builtin.Tuple.tupleExact _) (wpAny_newObj_type (wpAny_pure (wpAny_pure ⟨_, rfl, wpAny_pure h⟩)) htake))
    | exact wpAny_bind (wpAny_bind (m := Builtin.Tuple.tupleExact _) (wpAny_newObj_type (wpAny_pure ⟨_, rfl, wpAny_pure h⟩) htake))
section
variable {X : Cx}
def tRevT (K : PySem.W.Frag) (te : TE) : TE := fun σ H Q => te σ H fun x H1 => ∃ a xs, x = .ref a ∧ SqT K H1 a xs ∧ ∀ p, H1 p = none → Q (.ref p) (upd H1 p (.tup xs.reverse))
theorem pe_revT {e : Expr} {te : TE} {k : Nat} {p1 p2 p3 pos : Pos} (he : PE X e te) : PE X (.Subscript e (.Slice none none (some (.UnaryOp .USub (.Constant (.int 1) k p1) p2)) p3) pos) (tRevT X.K te) := by
  refine ⟨fun pins s σ H Q I h => ?_⟩
  refine Subscript_ (thn (he.run pins s σ H _ I h) fun v s1 ⟨x, H1, I1, r1, q1⟩ => ?_)
  obtain ⟨a, xs, ex, hx, q⟩ := q1
  subst ex
  cases r1
  have hst : PO X (some (.UnaryOp .USub (.Constant (.int 1) k p1) p2)) (tPart (tUn (rU fun i => .int (-i)) (tC (.int 1)))) := po_some (pe_un un_neg pe_int)
  refine wpAny_Slice (thn (po_none.run pins s1 σ H1 (fun o H2 => o = none ∧ H2 = H1) I1 ⟨rfl, rfl⟩) fun vl s2 ⟨l, H2, I2, pl, el, e2⟩ => ?_)
  subst el e2
  refine thn (po_none.run pins s2 σ H2 (fun o H3 => o = none ∧ H3 = H2) I2 ⟨rfl, rfl⟩) fun vu s3 ⟨u, H3, I3, pu, eu, e3⟩ => ?_
  subst eu e3
  refine thn (hst.run pins s3 σ H3 (fun o H4 => o = some (-1) ∧ H4 = H3) I3 ⟨1, rfl, -1, rfl, rfl, rfl⟩) fun vs s4 ⟨o, H4, I4, ps, eo, e4⟩ => ?_
  subst eo e4
  cases pl
  cases pu
  obtain ⟨tk, rfl⟩ : ∃ tk, vs = Value.int (-1) tk := by
    cases ps
    exact ⟨_, rfl⟩
  have I5 : L2.Inv X pins σ H4 { s4 with heap := s4.heap.push { cls := .type "slice", data := .fields #[.none, .none, .int (-1) tk] } } := I4.kept (t' := s4.toks) fun b ob q => Heap.get?_push_of_some _ q
  obtain ⟨its, r, ht, hz⟩ := I5.tuple hx
  have hlen := r.length
  show wpAny (model X.prog X.w) X.A (subscriptTail e (.Slice none none (some (.UnaryOp .USub (.Constant (.int 1) k p1) p2)) p3) (.ref a) (.ref s4.heap.objs.size)) (EP X pins σ Q) X.xe { s4 with heap := s4.heap.push { cls := .type "slice", data := .fields #[.none, .none, .int (-1) tk] } }
  refine tail_any (ops := [.ref a, .ref s4.heap.objs.size]) ht.typeIs (PyProof.Rows.slot_tuple_getitem.lookup) ?_ (by with_unfolding_all rfl)
  refine getItem_tuple_rev ht (Heap.IsSliceOf.new _ .none .none (.int (-1) tk)) ?_ (by rw [List.size_toArray]; omega)
  refine ⟨.ref _, _, I5.laid (t' := s4.toks) (o := .tup xs.reverse) (fun b ob q => Heap.get?_push_of_some _ q) (Nat.le_refl _) ?_, rfl, q _ (I5.hok.fresh (Nat.le_refl _))⟩
  exact ⟨by rw [List.length_reverse]; exact hz, _, r.reverse, IsTup.new _ _⟩
end
theorem but_put {p l : Addr} {H H1 : Hp} {o : HO} (b : But p H H1) (n : H l = none) : But p H (upd H1 l o) := fun q u ne e => by
  rw [upd_ne (ne_of_none e n)]
  exact b q u ne e
theorem cut_to {xs : List V} {k : Nat} (h : k ≤ xs.length) : cutV xs none (some (k : Int)) = xs.take k := by
  unfold cutV
  rw [HT.sIx_none, HT.sIx_nat, List.drop_zero, Nat.sub_zero, Nat.min_eq_left h]
theorem cut_from {xs : List V} {k : Nat} (h : k ≤ xs.length) : cutV xs (some (k : Int)) none = xs.drop k := by
  unfold cutV
  rw [HT.sIx_none, HT.sIx_nat, Nat.min_eq_left h, List.take_of_length_le (by rw [List.length_drop]; exact Nat.le_refl _)]
/-! ### what is asked of a value's kind -/
def isTup : Sh → Bool
  | .tup _ => true
  | _ => false
def isInt : Sh → Bool
  | .int _ => true
  | .bool _ => true
  | _ => false
def isBool : Sh → Bool
  | .bool _ => true
  | _ => false
theorem tyx_tup {K : PySem.W.Frag} {H : Hp} {t : Addr} {xs : List V} (h : SqT K H t xs) : TyX K H (.ref t) (.type "tuple") := by
  rcases h with (h | ⟨o, h⟩) | ⟨o, its, n, h, c, _⟩
  · exact .base (.tup h)
  · exact .fTuple h
  · exact .kTuple h c
theorem tyx_lst {K : PySem.W.Frag} {H : Hp} {t : Addr} {xs : List V} (h : SqL K H t xs) : TyX K H (.ref t) (.type "list") := by
  rcases h with (h | ⟨o, h⟩) | ⟨o, its, n, h, c, _⟩
  · exact .base (.lst h)
  · exact .base (.frz h)
  · exact .kList h c
theorem isi_of {K : PySem.W.Frag} {H : Hp} {v : V} {s : Sh} (h : ShAt K H v s) : ∃ t, TyX K H v t ∧ PySem.W.kitOne K t (.type "tuple") = some (isTup s) ∧ PySem.W.kitOne K t (.type "int") = some (isInt s) ∧ PySem.W.kitOne K t (.type "bool") = some (isBool s) := by
  cases h with
  | int i => exact ⟨_, .base (.int i), rfl, rfl, rfl⟩
  | bool b => exact ⟨_, .base (.bl b), rfl, rfl, rfl⟩
  | tup h r => exact ⟨_, tyx_tup h, rfl, rfl, rfl⟩
  | non => exact ⟨_, .base .non, rfl, rfl, rfl⟩
  | str x => exact ⟨_, .base (.str x), rfl, rfl, rfl⟩
  | lst h => exact ⟨_, tyx_lst h, rfl, rfl, rfl⟩
  | dct h => exact ⟨_, .base (.dK h), rfl, rfl, rfl⟩
/-! ### shapes of pairs -/
def pairS (p : E2) : Sh := .tup [.int (p.1 : Int), .int (p.2 : Int)]
theorem PairsAt.sh {K : PySem.W.Frag} {H : Hp} : ∀ {xs : List V} {ps : List E2}, PairsAt K H xs ps → ShsAt K H xs (ps.map pairS)
  | _, _, .nil => .nil
  | _, _, .cons ⟨t, h1, h2⟩ b => by
    subst h1
    exact .cons (.tup h2 (.cons (.int _) (.cons (.int _) .nil))) (PairsAt.sh b)
theorem sh_pairs {K : PySem.W.Frag} {H : Hp} : ∀ {xs : List V} {ps : List E2}, ShsAt K H xs (ps.map pairS) → PairsAt K H xs ps
  | _, [], h => by cases h; exact .nil
  | _, p :: ps, h => by
    cases h with
    | cons a r =>
      refine .cons ?_ (sh_pairs r)
      cases a with
      | tup ht ra =>
        cases ra with
        | cons r1 ra =>
          cases ra with
          | cons r2 ra =>
            cases ra
            cases r1
            cases r2
            exact ⟨_, rfl, ht⟩
theorem PairsT.but {p : Addr} {H H' : Hp} (b : But p H H') (w : Wl H p) : ∀ {xs : List V} {ps : List E2}, PairsT H xs ps → PairsT H' xs ps
  | _, _, .nil => .nil
  | _, _, .cons ⟨t, e, h⟩ r => .cons ⟨t, e, b _ _ (fun z => by
      obtain ⟨x, y, c, hp⟩ := w
      rw [z, hp] at h
      cases h) h⟩ (PairsT.but b w r)
/-- sorted pairs, some of them maybe alike -/
theorem sorted_pairsD {H : Hp} {xs ys : List V} {ps : List E2} (h : PairsT H xs ps) (so : SrtO.Srtd (ltP (kOf H)) ys) (st : SrtO.Stb (ltP (kOf H)) ys xs) :
    PairsT H ys (ys.map (gOf H)) ∧ ((ys.map (gOf H)).Pairwise fun a b => ¬ ahead b a) ∧ (ys.map (gOf H)).Perm ps := by
  have pm : (ys.map (gOf H)).Perm ps := by
    have z := st.perm.map (gOf H)
    rw [map_gOf h] at z
    exact z
  have hy : ∀ y ∈ ys, PairT H y (gOf H y) := fun y hy => h.mem y (st.perm.mem_iff.mp hy)
  refine ⟨PairsT.of_mem hy, ?_, pm⟩
  rw [List.pairwise_map]
  refine List.Pairwise.imp_of_mem ?_ so
  intro a b ha hb le
  have ka := kOf_at (hy a ha)
  have kb := kOf_at (hy b hb)
  have le2 : SrtO.lexB (kOf H b) (kOf H a) = false := le
  rw [ka, kb] at le2
  have le3 := mt (SrtO.lexB_iff (p := (((gOf H b).1 : Int), ((gOf H b).2 : Int))) (q := (((gOf H a).1 : Int), ((gOf H a).2 : Int)))).mpr (by rw [le2]; decide)
  dsimp only at le3
  unfold ahead
  omega
theorem PairsT.ks {H : Hp} {xs : List V} {ps : List E2} (h : PairsT H xs ps) : ∀ x ∈ xs, ∃ t, x = V.ref t ∧ H t = some (.tup [.int (kOf H x).1, .int (kOf H x).2]) := fun x hx => by
  have z := h.mem x hx
  have k := kOf_at z
  obtain ⟨t, e, ht⟩ := z
  exact ⟨t, e, by rw [k]; exact ht⟩
theorem wl_tup {p t : Addr} {H : Hp} {xs : List V} (w : Wl H p) (h : H t = some (.tup xs)) : t ≠ p := fun z => by
  obtain ⟨x, y, c, hp⟩ := w
  rw [z, hp] at h
  cases h
theorem rows_few : ∀ u, u ≤ 9 → ∀ n, n ≤ 9 → ((List.range u).flatMap (rowP n)).length ≤ 81 := by decide +kernel
/-- lists of numbers -/
def numsN (l : List Nat) : List V := l.map fun k => V.int ((k : Nat) : Int)
theorem numsN_len (l : List Nat) : (numsN l).length = l.length := List.length_map _
theorem numsN_app (l m : List Nat) : numsN (l ++ m) = numsN l ++ numsN m := List.map_append
theorem numsN_get {l : List Nat} {i : Nat} {x : V} (h : (numsN l)[i]? = some x) : ∃ k, l[i]? = some k ∧ x = .int ((k : Nat) : Int) := by
  unfold numsN at h
  rw [List.getElem?_map] at h
  cases e : l[i]? with
  | none => rw [e] at h; cases h
  | some k => rw [e] at h; cases h; exact ⟨k, rfl, rfl⟩
/-! ### values of some kind, not too long -/
inductive Lb : Sh → Prop
  | int (i : Int) : Lb (.int i)
  | bool (b : Bool) : Lb (.bool b)
  | str (x : Str) : Lb (.str x)
  | oth : Lb .oth
  | tup {ss : List Sh} (l : ss.length ≤ 900) (h : ∀ z ∈ ss, Lb z) : Lb (.tup ss)
def Va (K : PySem.W.Frag) (H : Hp) (v : V) : Prop := ∃ s, ShAt K H v s ∧ Lb s
section
variable {K : PySem.W.Frag} {H : Hp}
theorem Va.int (i : Int) : Va K H (.int i) := ⟨_, .int i, .int i⟩
theorem Va.bl (b : Bool) : Va K H (.bl b) := ⟨_, .bool b, .bool b⟩
theorem Va.str (x : Str) : Va K H (.str x) := ⟨_, .str x, .str x⟩
theorem Va.non : Va K H .non := ⟨_, .non, .oth⟩
theorem Va.lst {a : Addr} {xs : List V} (h : SqL K H a xs) : Va K H (.ref a) := ⟨_, .lst h, .oth⟩
theorem Va.dct {a : Addr} {kvs : List (Key × V)} (h : H a = some (.dK kvs)) : Va K H (.ref a) := ⟨_, .dct h, .oth⟩
theorem va_all : ∀ {xs : List V}, (∀ x ∈ xs, Va K H x) → ∃ ss, ShsAt K H xs ss ∧ ∀ z ∈ ss, Lb z
  | [], _ => ⟨[], .nil, fun _ z => nomatch z⟩
  | x :: xs, h => by
    obtain ⟨s, h1, h2⟩ := h x (List.mem_cons_self ..)
    obtain ⟨ss, h3, h4⟩ := va_all (xs := xs) fun y hy => h y (List.mem_cons_of_mem _ hy)
    refine ⟨s :: ss, .cons h1 h3, fun z hz => ?_⟩
    rcases List.mem_cons.mp hz with rfl | hz
    · exact h2
    · exact h4 z hz
theorem Va.tup {t : Addr} {xs : List V} (h : SqT K H t xs) (l : xs.length ≤ 900) (a : ∀ x ∈ xs, Va K H x) : Va K H (.ref t) := by
  obtain ⟨ss, h1, h2⟩ := va_all a
  exact ⟨.tup ss, .tup h h1, .tup (by rw [← h1.len]; exact l) h2⟩
theorem Va.kp {H' : Hp} (e : Kp K H H') {v : V} (h : Va K H v) : Va K H' v := by
  obtain ⟨s, h1, h2⟩ := h
  exact ⟨s, h1.kp e, h2⟩
theorem Va.same {H' : Hp} (e : Same H H') {v : V} (h : Va K H v) : Va K H' v := h.kp (Kp.of e)
theorem Va.but {p : Addr} {H' : Hp} (b : But p H H') (w : Wl H p) (w' : Wl H' p) {v : V} (h : Va K H v) : Va K H' v := h.kp (Kp.but b w w')
theorem va_cut {xs : List V} (lo hi : Option Int) (h : ∀ x ∈ xs, Va K H x) : ∀ x ∈ cutV xs lo hi, Va K H x := fun x hx => h x (List.mem_of_mem_drop (List.mem_of_mem_take hx))
theorem va_app {xs ys : List V} (h : ∀ x ∈ xs, Va K H x) (g : ∀ x ∈ ys, Va K H x) : ∀ x ∈ xs ++ ys, Va K H x := fun x hx => (List.mem_append.mp hx).elim (h x) (g x)
theorem va_nil : ∀ x ∈ ([] : List V), Va K H x := fun _ z => nomatch z
theorem va_cons {x : V} {xs : List V} (a : Va K H x) (h : ∀ x ∈ xs, Va K H x) : ∀ y ∈ x :: xs, Va K H y := fun y hy => by
  rcases List.mem_cons.mp hy with rfl | hy
  · exact a
  · exact h y hy
end
/-! ### values made from written ones -/
def Mk (K : PySem.W.Frag) (t : TE) : Prop := ∀ (σ : L2.St) (H : Hp) (Q : VK), (∀ v H', Same H H' → Va K H' v → Q v H') → t σ H Q
def MkA (K : PySem.W.Frag) (n : Nat) (t : TA) : Prop := ∀ (σ : L2.St) (H : Hp) (Q : List V → Hp → Prop), (∀ vs H', Same H H' → vs.length = n → (∀ v ∈ vs, Va K H' v) → Q vs H') → t σ H Q
section
variable {K : PySem.W.Frag}
theorem mk_int (i : Int) : Mk K (tC (.int i)) := fun σ H Q h => h _ H (Same.refl H) (.int i)
theorem mk_bl (b : Bool) : Mk K (tC (.bl b)) := fun σ H Q h => h _ H (Same.refl H) (.bl b)
theorem mk_str (x : Str) : Mk K (tC (.str x)) := fun σ H Q h => h _ H (Same.refl H) (.str x)
theorem mk_non : Mk K (tC .non) := fun σ H Q h => h _ H (Same.refl H) .non
theorem mk_nil : MkA K 0 tNil := fun σ H Q h => h _ H (Same.refl H) rfl va_nil
theorem mk_cons {t : TE} {ts : TA} {n : Nat} (a : Mk K t) (b : MkA K n ts) : MkA K (n + 1) (tCons t ts) := fun σ H Q h =>
  a σ H _ fun v H1 s1 hv => b σ H1 _ fun vs H2 s2 l hs => h _ H2 (s1.trans s2) (congrArg (· + 1) l) (va_cons (hv.same s2) hs)
theorem mk_tup {ts : TA} {n : Nat} (hn : n ≤ 900) (b : MkA K n ts) : Mk K (tTup ts) := fun σ H Q h =>
  b σ H _ fun vs H1 s1 l hs => ⟨by rw [l]; exact small (by omega), fun p np => h _ _ (s1.trans (same_new np _)) (.tup (SqT.of upd_same) (by omega) fun x hx => (hs x hx).same (same_new np _))⟩
theorem mk_lst {ts : TA} {n : Nat} (hn : n ≤ 1000) (b : MkA K n ts) : Mk K (tLst ts) := fun σ H Q h =>
  b σ H _ fun vs H1 s1 l hs => ⟨by rw [l]; exact small hn, fun p np => h _ _ (s1.trans (same_new np _)) (.lst (SqL.of upd_same))⟩
theorem mk_dct : Mk K tDNewK := fun σ H Q h => fun p np => h _ _ (same_new np _) (.dct upd_same)
theorem mk_pow (i j : Int) (h : CPow i j) : Mk K (tOp (rI CPow fun i j => .int (i ^ j.toNat)) (tC (.int i)) (tC (.int j))) := fun σ H Q q => ⟨_, _, rfl, rfl, h, q _ H (Same.refl H) (.int _)⟩
theorem mk_neg (i : Int) : Mk K (tUn (rU fun i => .int (-i)) (tC (.int i))) := fun σ H Q q => ⟨i, rfl, q _ H (Same.refl H) (.int _)⟩
theorem set_mk {n i : Nat} {ts : TA} {rest : L2.TS} {D : Ends} {σ : L2.St} {H : Hp} (m : MkA K n ts) (hn : n ≤ 1000) (go : ∀ vs F H1, Same H H1 → vs.length = n → (∀ v ∈ vs, Va K H1 v) → H F = none → H1 F = some (.lst vs) → rest D (σ.set i (some (.ref F))) H1) : tSeq (tAsg (tLst ts) (gName i)) rest D σ H :=
  m σ H _ fun vs H1 s1 l h1 => ⟨by rw [l]; exact small hn, fun F nF => go vs F _ (s1.trans (same_new nF _)) l (fun x hx => (h1 x hx).same (same_new nF _)) (s1.free nF) upd_same⟩
end
end My

set_option maxHeartbeats 4000000
/-! The law's draws: the pot, a draw, a pick, a mixing. -/
namespace My
open PySem PySem.Spec PyProof.Rows L2
def top (i : Nat) : Stmt := PySem.Challenge.pw_perfectgraphs_k56_whole_list_colourings.main.body.getD i (.Pass ⟨0, 0, 0, 0⟩)
abbrev sPot : Stmt := top 41
abbrev sDraw : Stmt := top (41 + 1)
theorem scPot : FnScope ["script", "turn", "stirred", "each", "cell", "digits"] ["script", "turn"] (defScope sPot) := ⟨rfl, rfl, rfl, by decide +kernel, rfl, by decide +kernel, by decide +kernel⟩
theorem scDraw : FnScope ["pot", "few", "digit"] ["pot", "few"] (defScope sDraw) := ⟨rfl, rfl, rfl, by decide +kernel, rfl, by decide +kernel, by decide +kernel⟩
def spPot (K : PySem.W.Frag) : Sp := fun vs H Q _ => ∃ (a : Addr) (ns : List Int) (t : Nat), vs = [.ref a, .int (t : Int)] ∧ SqL K H a (ns.map V.int) ∧ ns.length ≤ 63 ∧ t ≤ 9 ∧
  ∀ (H' : Hp) (p : Addr), Same H H' → H p = none → Wl H' p → Q (.ref p) H'
def spDraw : Sp := fun vs H Q _ => ∃ (p : Addr) (m : Int), vs = [.ref p, .int m] ∧ Wl H p ∧ 0 < m ∧ m < 1000000 ∧
  ∀ (r : Int) (H' : Hp), 0 ≤ r → r < m → But p H H' → Wl H' p → Q (.int r) H'
section
variable {P : Program} {w : World} {K : PySem.W.Frag} {mg : Str → Option Value} {base : Heap} {f fD : Addr} {fd dD : FuncData}
theorem ok_pot (F : L2.Fun K "_law_pot" "_law_pot" sPot f fd) (ml : mg "len" = none) (mi : mg "int" = none) (ma : mg "abs" = none) : FnOk P w K mg base CX0 1 f fd ["script", "turn"] (spPot K) := by
  refine F.ok scPot (fun vs H Q E h => ?_) (fun cdv A outer s H vs Q E hr h => ?_)
  · obtain ⟨a, ns, t, rfl, _⟩ := h
    rfl
  obtain ⟨a, ns, t, rfl, hS, h63, h2, q⟩ := h
  refine ⟨_, pss_cons (ps_set (i := 2) scPot.nd rfl (.inl rfl) (pe_op op_add pe_int (pe_op op_mul pe_int (pv 1))))
    (pss_cons (ps_for PassesOwn.never rfl (pi_list (pe_slice sl_list (pv 0) po_none (po_some pe_int))) (pg_name (i := 3) scPot.nd rfl (.inl rfl))
      (pss_one (ps_set (i := 2) scPot.nd rfl (.inl rfl) (pe_op op_mod (pe_callTy call_int1 (by rfl) mi (by decide +kernel) (pa_cons (pe_op op_add (pe_op op_add (pe_op op_mul (pv 2) pe_int)
        (pe_op op_mul (pe_op op_mod (pe_callTy call_int1 (by rfl) mi (by decide +kernel) (pa_cons (pv 3) pa_nil)) pe_int) pe_int)) pe_int) pa_nil)) pe_int))))
    (pss_cons (ps_set (i := 4) scPot.nd rfl (.inl rfl) (pe_ifExp (pt_cmpR op_lt (pv 1) (pe_callB call_len_seq (by rfl) ml PySem.boot_len (pa_cons (pv 0) pa_nil)) (nomark _))
        (pe_callTy call_int1 (by rfl) mi (by decide +kernel) (pa_cons (pe_ix ix_list (pv 0) (pv 1) (fun _ _ => rfl)) pa_nil)) pe_int))
    (pss_cons (ps_set (i := 5) scPot.nd rfl (.inl rfl) (pe_ifExp (pt_cmpR op_ge (pe_callB call_abs (by rfl) ma (by decide +kernel) (pa_cons (pv 4) pa_nil)) (pe_op op_pow pe_int pe_int) (nomark _))
        (pe_callB call_abs (by rfl) ma (by decide +kernel) (pa_cons (pv 4) pa_nil)) pe_int))
    (pss_one (ps_ret (pe_lst (pa_cons (pv 5) (pa_cons (pe_op op_mod (pe_callTy call_int1 (by rfl) mi (by decide +kernel) (pa_cons (pe_op op_add (pe_op op_add (pe_op op_mul (pv 2) pe_int)
        (pe_op op_mod (pe_callTy call_int1 (by rfl) mi (by decide +kernel) (pa_cons (pv 4) pa_nil)) pe_int)) pe_int) pa_nil)) pe_int) (pa_cons pe_int pa_nil))))))))), ?_⟩
  have hl : (ns.map V.int).length = ns.length := List.length_map _
  refine ⟨_, rfl, _, _, rfl, rfl, .inl ⟨by decide, by decide⟩, _, _, rfl, rfl, ?_⟩
  refine ⟨_, rfl, 10, rfl, a, _, rfl, hS, fun p np => ?_⟩
  refine ⟨p, rfl, ⟨_, SqL.of upd_same⟩, for_list (K := K) (a := p) (xs := cutV (ns.map V.int) none (some 10)) (fun i σ H' => ∃ (m : Int) (e : Option V), σ = [some (.ref a), some (.int (t : Int)), some (.int m), e, none, none] ∧ H' = upd H p (.lst (cutV (ns.map V.int) none (some 10)))) ⟨_, none, rfl, rfl⟩ ?_ ?_ ?_⟩
  · rintro i σ H' _ ⟨m, e, rfl, rfl⟩
    exact SqL.of upd_same
  · rintro i x σ H' hi ⟨m, e, rfl, rfl⟩
    obtain ⟨z, rfl⟩ : ∃ z, x = V.int z := by
      have mem := List.mem_of_getElem? hi
      unfold cutV at mem
      have mem2 := List.mem_of_mem_drop (List.mem_of_mem_take mem)
      obtain ⟨z, _, e⟩ := List.mem_map.mp mem2
      exact ⟨z, e.symm⟩
    refine ⟨_, rfl, _, _, rfl, rfl, .inr ⟨by decide, by decide⟩, _, rfl, .inl ⟨_, rfl, _, _, rfl, rfl, (show (0 : Int) < 1999999943 by decide), _, _, rfl, rfl, .inr ⟨by decide, by decide⟩, _, _, rfl, rfl, _, _, rfl, rfl, .inl ⟨_, rfl, _, _, rfl, rfl, (show (0 : Int) < 2147483249 by decide), ?_⟩⟩⟩
    exact ⟨_, _, rfl, rfl⟩
  rintro σ H' ⟨m, e, rfl, rfl⟩
  have s1 := same_new np (.lst (cutV (ns.map V.int) none (some 10)))
  have hS1 := L2.Same.seq s1 hS
  generalize upd H p (.lst (cutV (ns.map V.int) none (some 10))) = H1 at s1 hS1 ⊢
  refine ⟨_, rfl, _, rfl, a, _, rfl, .inl hS1, _, _, rfl, rfl, _, rfl, ?_⟩
  refine' join (i := 4) (R := fun v => ∃ n : Int, v = V.int n) (fun go => ?_) ?_
  rotate_left 3
  · refine iteB (fun c => ?_) (fun c => ?_)
    · have c1 : ((t : Nat) : Int) < (((ns.map V.int).length : Nat) : Int) := of_decide_eq_true c
      have c2 : t < ns.length := by rw [hl] at c1; omega
      have at1 : atI (ns.map V.int) ((t : Nat) : Int) = some (.int ns[t]) := atI_nat (by rw [List.getElem?_map, List.getElem?_eq_getElem c2] <;> rfl)
      exact ⟨_, rfl, _, rfl, a, _, _, _, rfl, rfl, hS1, at1, .inl ⟨_, rfl, go _ ⟨_, rfl⟩⟩⟩
    · exact go _ ⟨_, rfl⟩
  rintro _ ⟨cell, rfl⟩
  refine ⟨_, rfl, _, rfl, _, _, rfl, rfl, (by show (0 : Int) ≤ 16 ∧ (16 : Int) ≤ 1000000 ∧ (10 : Int).natAbs < 2 ^ 64; decide), _, _, rfl, rfl, _, rfl, ?_⟩
  refine' join (i := 5) (R := fun v => ∃ n : Int, v = V.int n) (fun go => ?_) ?_
  rotate_left 3
  · refine iteB (fun c => ?_) (fun c => ?_)
    · exact ⟨_, rfl, _, rfl, go _ ⟨_, rfl⟩⟩
    · exact go _ ⟨_, rfl⟩
  rintro _ ⟨dg, rfl⟩
  refine ⟨_, rfl, _, rfl, _, _, rfl, rfl, .inr ⟨by decide, by decide⟩, _, rfl, .inl ⟨_, rfl, _, _, rfl, rfl, (show (0 : Int) < 1999999943 by decide), _, _, rfl, rfl, _, _, rfl, rfl, .inl ⟨_, rfl, _, _, rfl, rfl, (show (0 : Int) < 2147483249 by decide), ?_⟩⟩⟩
  refine ⟨(by show 3 ≤ sizeLine; decide), fun r nr => ?_⟩
  exact q _ r (s1.trans (same_new nr _)) (s1.free nr) (wl_mk upd_same (Int.emod_nonneg _ (by decide)) (Int.emod_lt_of_pos _ (by decide)))
theorem ok_draw (F : L2.Fun K "_law_draw" "_law_draw" sDraw f fd) (md : mg "divmod" = none) (mi : mg "int" = none) : FnOk P w K mg base CX0 1 f fd ["pot", "few"] spDraw := by
  refine F.ok scDraw (fun vs H Q E h => ?_) (fun cdv A outer s H vs Q E hr h => ?_)
  · obtain ⟨p, m, rfl, _⟩ := h
    rfl
  obtain ⟨p, m, rfl, ⟨a, b, c, hp⟩, m0, m1, q⟩ := h
  refine ⟨_, pss_cons (ps_if (pt_cmpR op_gt (pe_ix ix_list (pv 0) pe_int (fun _ _ => rfl)) pe_int (nomark _))
      (pss_cons (ps_asg (pe_callB call_divmod (by rfl) md (by decide +kernel) (pa_cons (pe_ix ix_list (pv 0) pe_int (fun _ _ => rfl)) (pa_cons (pv 1) pa_nil))) (pg_tup (by rfl) (pgs_cons (pg_sub (pv 0) pe_int set_list) (pgs_cons (pg_name (i := 2) scDraw.nd rfl (.inl rfl)) pgs_nil))))
        (pss_one (ps_ret (pv 2)))) pss_nil)
    (pss_cons (ps_asg (pe_op op_add (pe_ix ix_list (pv 0) pe_int (fun _ _ => rfl)) pe_int) (pg_sub (pv 0) pe_int set_list))
    (pss_cons (ps_asg (pe_op op_mod (pe_callTy call_int1 (by rfl) mi (by decide +kernel) (pa_cons (pe_op op_add (pe_op op_add (pe_op op_mul (pe_ix ix_list (pv 0) pe_int (fun _ _ => rfl)) (pe_op op_add pe_int
        (pe_op op_mul pe_int (pe_ix ix_list (pv 0) pe_int (fun _ _ => rfl))))) pe_int) (pe_ix ix_list (pv 0) pe_int (fun _ _ => rfl))) pa_nil)) pe_int) (pg_sub (pv 0) pe_int set_list))
    (pss_one (ps_ret (pe_op op_mod (pe_callTy call_int1 (by rfl) mi (by decide +kernel) (pa_cons (pe_op op_fdiv (pe_ix ix_list (pv 0) pe_int (fun _ _ => rfl)) pe_int) pa_nil)) (pv 1)))))), ?_⟩
  refine ⟨_, rfl, p, _, _, _, rfl, rfl, SqL.of hp, rfl, _, _, rfl, rfl, _, rfl, iteB (fun c1 => ?_) (fun _ => ?_)⟩
  · have a0 : a > 0 := of_decide_eq_true c1
    refine ⟨_, rfl, p, _, _, _, rfl, rfl, SqL.of hp, rfl, _, rfl, a, m, rfl, ⟨m0, by omega⟩, fun t nt => ?_⟩
    refine ⟨t, _, rfl, SqT.of upd_same, rfl, _, _, rfl, _, rfl, p, [.int a, .int ((b.val : Nat) : Int), .int c], _, 0, rfl, rfl, ?_, rfl, ?_⟩
    · rw [upd_ne (ne_of_none hp nt)]
      exact hp
    refine ⟨_, _, rfl, ⟨rfl, _, rfl, ?_⟩⟩
    exact q (a % m) _ (Int.emod_nonneg _ (by omega)) (Int.emod_lt_of_pos _ m0) ((But.new nt).trans But.put) ⟨_, b, _, upd_same⟩
  · have b1 : ((b.val : Nat) : Int) < 2147483249 := by have := b.isLt; omega
    refine ⟨_, rfl, p, _, _, _, rfl, rfl, SqL.of hp, rfl, _, _, rfl, rfl, _, rfl, p, [.int a, .int ((b.val : Nat) : Int), .int c], _, 2, rfl, rfl, hp, rfl, ?_⟩
    have h1 : upd H p (.lst [.int a, .int ((b.val : Nat) : Int), .int (c + 1)]) p = some (.lst [.int a, .int ((b.val : Nat) : Int), .int (c + 1)]) := upd_same
    refine ⟨_, rfl, p, _, _, _, rfl, rfl, SqL.of h1, rfl, _, rfl, p, _, _, _, rfl, rfl, SqL.of h1, rfl, _, _, rfl, rfl, .inl ⟨by decide, by decide⟩, _, _, rfl, rfl, _, _, rfl, rfl, .inl ⟨by omega, by omega⟩, _, _, rfl, rfl, _, rfl, p, _, _, _, rfl, rfl, SqL.of h1, rfl, _, _, rfl, rfl,
      .inl ⟨_, rfl, _, _, rfl, rfl, (show (0 : Int) < 2147483249 by decide), _, rfl, p, [.int a, .int ((b.val : Nat) : Int), .int (c + 1)], _, 1, rfl, rfl, h1, rfl, ?_⟩⟩
    refine ⟨_, rfl, p, _, _, _, rfl, rfl, SqL.of upd_same, rfl, _, _, rfl, rfl, ⟨by decide, by decide⟩, .inl ⟨_, rfl, _, rfl, _, _, rfl, rfl, m0, ?_⟩⟩
    exact q _ _ (Int.emod_nonneg _ (by omega)) (Int.emod_lt_of_pos _ m0) (But.put.trans But.put) (wl_mk upd_same (Int.emod_nonneg _ (by decide)) (Int.emod_lt_of_pos _ (by decide)))
end
end My

set_option maxHeartbeats 4000000
namespace My
open PySem PySem.Spec PyProof.Rows L2
abbrev sPick : Stmt := top 43
theorem scPick : FnScope ["pot", "some"] ["pot", "some"] (defScope sPick) := ⟨rfl, rfl, rfl, by decide +kernel, rfl, by decide +kernel, by decide +kernel⟩
/-- from a tuple that stands beside the pot -/
def spPickW (K : PySem.W.Frag) : Sp := fun vs H Q _ => ∃ (p t : Addr) (xs : List V), vs = [.ref p, .ref t] ∧ Wl H p ∧ SqT K (hide p H) t xs ∧ 0 < xs.length ∧ xs.length < 5000 ∧
  ∀ (i : Nat) (v : V) (H' : Hp), xs[i]? = some v → But p H H' → Wl H' p → Q v H'
def spPickL (K : PySem.W.Frag) : Sp := fun vs H Q _ => ∃ (p t : Addr) (xs : List V), vs = [.ref p, .ref t] ∧ Wl H p ∧ H t = some (.lst xs) ∧ t ≠ p ∧ 0 < xs.length ∧ xs.length < 5000 ∧
  ∀ (i : Nat) (v : V) (H' : Hp), xs[i]? = some v → But p H H' → Wl H' p → Q v H'
section
variable {P : Program} {w : World} {K : PySem.W.Frag} {mg : Str → Option Value} {base : Heap} {f fD : Addr} {fd dD : FuncData}
theorem ok_pickW (F : L2.Fun K "_law_pick" "_law_pick" sPick f fd) (GD : FnOk P w K mg base CX0 1 fD dD ["pot", "few"] spDraw) (bD : L2.Binds K dD ["pot", "few"] []) (kD : PySem.W.keepIn K (.ref fD) = true) (mD : mg "_law_draw" = some (.ref fD)) (ml : mg "len" = none) :
    FnOk P w K mg base CX0 2 f fd ["pot", "some"] (spPickW K) := by
  refine F.ok scPick (fun vs H Q E h => ?_) (fun cdv A outer s H vs Q E hr h => ?_)
  · obtain ⟨p, t, xs, rfl, _⟩ := h
    rfl
  obtain ⟨p, t, xs, rfl, hW, hT, l0, l1, q⟩ := h
  refine ⟨_, pss_one (ps_ret (pe_ix ix_tup (pv 1) (pe_call GD hr (by rfl) mD kD bD .nil pass0 (pa_cons (pv 0) (pa_cons (pe_callB call_len_seq (by rfl) ml PySem.boot_len (pa_cons (pv 1) pa_nil)) pa_nil))) (fun _ _ => rfl))), ?_⟩
  have hT0 : SqT K H t xs := Same.tup (hide_sub p H) hT
  refine ⟨_, rfl, _, rfl, _, rfl, t, xs, rfl, .inr hT0, p, _, rfl, hW, by omega, by omega, fun r H' r0 r1 bt hW' => ?_⟩
  obtain ⟨i, rfl⟩ : ∃ i : Nat, r = (i : Int) := ⟨r.toNat, by omega⟩
  have hi : i < xs.length := by omega
  exact ⟨t, xs, _, xs[i], rfl, rfl, Same.tup (hide_sub p H') (Same.tup bt.hide hT), atI_nat (List.getElem?_eq_getElem hi), q i _ H' (List.getElem?_eq_getElem hi) bt hW'⟩
theorem ok_pickL (F : L2.Fun K "_law_pick" "_law_pick" sPick f fd) (GD : FnOk P w K mg base CX0 1 fD dD ["pot", "few"] spDraw) (bD : L2.Binds K dD ["pot", "few"] []) (kD : PySem.W.keepIn K (.ref fD) = true) (mD : mg "_law_draw" = some (.ref fD)) (ml : mg "len" = none) :
    FnOk P w K mg base CX0 2 f fd ["pot", "some"] (spPickL K) := by
  refine F.ok scPick (fun vs H Q E h => ?_) (fun cdv A outer s H vs Q E hr h => ?_)
  · obtain ⟨p, t, xs, rfl, _⟩ := h
    rfl
  obtain ⟨p, t, xs, rfl, hW, hT, tp, l0, l1, q⟩ := h
  refine ⟨_, pss_one (ps_ret (pe_ix (r := rIxL K) ix_list (pv 1) (pe_call GD hr (by rfl) mD kD bD .nil pass0 (pa_cons (pv 0) (pa_cons (pe_callB call_len_seq (by rfl) ml PySem.boot_len (pa_cons (pv 1) pa_nil)) pa_nil))) (fun _ _ => rfl))), ?_⟩
  refine ⟨_, rfl, _, rfl, _, rfl, t, xs, rfl, .inl (SqL.of hT), p, _, rfl, hW, by omega, by omega, fun r H' r0 r1 bt hW' => ?_⟩
  obtain ⟨i, rfl⟩ : ∃ i : Nat, r = (i : Int) := ⟨r.toNat, by omega⟩
  have hi : i < xs.length := by omega
  exact ⟨t, xs, _, xs[i], rfl, rfl, SqL.of (bt _ _ tp hT), atI_nat (List.getElem?_eq_getElem hi), q i _ H' (List.getElem?_eq_getElem hi) bt hW'⟩
end
end My

set_option maxHeartbeats 4000000
namespace My
open PySem PySem.Spec PyProof.Rows L2
abbrev sMixed : Stmt := top 44
theorem scMixed : FnScope ["pot", "some", "left", "found", "turn", "at"] ["pot", "some"] (defScope sMixed) := ⟨rfl, rfl, rfl, by decide +kernel, rfl, by decide +kernel, by decide +kernel⟩
/-- all of them, in a drawn order -/
def spMixed (K : PySem.W.Frag) : Sp := fun vs H Q _ => ∃ (p t : Addr) (xs : List V), vs = [.ref p, .ref t] ∧ Wl H p ∧ (SqL K H t xs ∨ SqT K H t xs) ∧ xs.length ≤ 900 ∧
  ∀ (F : Addr) (ys : List V) (H' : Hp), ys.Perm xs → H' F = some (.lst ys) → F ≠ p → But p H H' → Wl H' p → Q (.ref F) H'
theorem perm_cut {α : Type} {ys : List α} {i : Nat} {x : α} (h : ys[i]? = some x) : ys.Perm (x :: (ys.take i ++ ys.drop (i + 1))) := by
  have hi : i < ys.length := by
    by_cases c : i < ys.length
    · exact c
    · rw [List.getElem?_eq_none (by omega)] at h
      cases h
  have e : ys = ys.take i ++ (x :: ys.drop (i + 1)) := by
    have z := List.getElem?_eq_some_iff.mp h
    obtain ⟨_, z⟩ := z
    rw [← z]
    simp
  have p := @List.perm_middle α x (ys.take i) (ys.drop (i + 1))
  rw [← e] at p
  exact p
section
variable {P : Program} {w : World} {K : PySem.W.Frag} {mg : Str → Option Value} {base : Heap} {f fD : Addr} {fd dD : FuncData}
theorem ok_mixed (F : L2.Fun K "_law_mixed" "_law_mixed" sMixed f fd) (GD : FnOk P w K mg base CX0 1 fD dD ["pot", "few"] spDraw) (bD : L2.Binds K dD ["pot", "few"] []) (kD : PySem.W.keepIn K (.ref fD) = true) (mD : mg "_law_draw" = some (.ref fD)) (ml : mg "len" = none) (mr : mg "range" = none) (mli : mg "list" = none) :
    FnOk P w K mg base CX0 2 f fd ["pot", "some"] (spMixed K) := by
  refine F.ok scMixed (fun vs H Q E h => ?_) (fun cdv A outer s H vs Q E hr h => ?_)
  · obtain ⟨p, t, xs, rfl, _⟩ := h
    rfl
  obtain ⟨p, t, xs, rfl, hW, hT, l1, q⟩ := h
  refine ⟨_, pss_cons (ps_par (by rfl) scMixed.nd (i := 2) (j := 3) rfl rfl (by decide) rfl rfl (pa_cons (pe_callTy call_list_of (by rfl) mli (by decide +kernel) (pa_cons (pv 1) pa_nil)) (pa_cons (pe_lst pa_nil) pa_nil)) (by rfl))
    (pss_cons (ps_for PassesOwn.never rfl (pi_range1 rfl mr (pa_cons (pe_callB call_len_seq (by rfl) ml PySem.boot_len (pa_cons (pv 1) pa_nil)) pa_nil)) (pg_name (i := 4) scMixed.nd rfl (.inl rfl))
      (pss_cons (ps_set (i := 5) scMixed.nd rfl (.inl rfl) (pe_call GD hr (by rfl) mD kD bD .nil pass0 (pa_cons (pv 0) (pa_cons (pe_callB call_len_seq (by rfl) ml PySem.boot_len (pa_cons (pv 2) pa_nil)) pa_nil))))
      (pss_cons (ps_expr (pe_bm PySem.F.plainAttrs_list PySem.F.slot_list_append PySem.F.type_list_append mt_append (pv 3) (pa_cons (pe_ix (r := rIxL K) ix_list (pv 2) (pv 5) (fun _ _ => rfl)) pa_nil)))
      (pss_one (ps_set (i := 2) scMixed.nd rfl (.inl rfl) (pe_op op_cat (pe_slice sl_list (pv 2) po_none (po_some (pv 5))) (pe_slice sl_list (pv 2) (po_some (pe_op op_add (pv 5) pe_int)) po_none)))))))
    (pss_one (ps_ret (pv 3)))), ?_⟩
  refine ⟨_, rfl, t, xs, rfl, hT, fun l nl => ?_⟩
  have sl := same_new nl (.lst xs)
  refine ⟨(by show 0 ≤ sizeLine; decide), fun b nb => ?_⟩
  have s1 := sl.trans (same_new nb (.lst []))
  have lp : l ≠ p := hW.ne nl
  have nb0 : H b = none := sl.free nb
  have bp : b ≠ p := hW.ne nb0
  have bl : b ≠ l := fun e => by
    rw [e, upd_same] at nb
    cases nb
  refine ⟨_, _, rfl, ?_⟩
  refine ⟨_, rfl, t, xs, rfl, hT.imp (L2.Same.seq s1) (Same.tup s1), ((xs.length : Nat) : Int), rfl, by omega, by omega, for_range (lo := 0) (n := ((xs.length : Nat) : Int).toNat) (fun i σ H' => ∃ (l : Addr) (ls fs : List V) (s4 s5 : Option V), σ = [some (.ref p), some (.ref t), some (.ref l), some (.ref b), s4, s5] ∧ But p H H' ∧ Wl H' p ∧ H' l = some (.lst ls) ∧ l ≠ p ∧ l ≠ b ∧ H' b = some (.lst fs) ∧
      fs.length = i ∧ List.Perm (fs ++ ls) xs) ⟨l, xs, [], none, none, rfl, But.of s1, hW.same s1, (same_new nb _) _ _ upd_same, lp, Ne.symm bl, upd_same, rfl, .refl _⟩ ?_ ?_⟩
  · rintro i σ H1 li ⟨l, ls, fs, s4, s5, rfl, b1, w1, hl, lp, lb, hb, lf, pm⟩
    have ll : fs.length + ls.length = xs.length := by
      have := pm.length_eq
      rw [List.length_append] at this
      exact this
    have li' : i < xs.length := by omega
    refine ⟨_, rfl, _, rfl, l, _, rfl, .inl (SqL.of hl), p, _, rfl, w1, by omega, by omega, fun r H2 r0 r1 b2 w2 => ?_⟩
    obtain ⟨k, rfl⟩ : ∃ k : Nat, r = (k : Int) := ⟨r.toNat, by omega⟩
    have hk : k < ls.length := by omega
    have hl2 := b2 _ _ lp hl
    have hb2 := b2 _ _ bp hb
    refine ⟨_, rfl, .inl ⟨rfl, _, SqL.of hb2⟩, ?_⟩
    refine ⟨_, rfl, _, rfl, l, ls, _, ls[k], rfl, rfl, SqL.of hl2, atI_nat (List.getElem?_eq_getElem hk), b, fs, _, rfl, rfl, hb2, small1000 (by omega), ?_⟩
    have hl3 : upd H2 b (.lst (fs ++ [ls[k]])) l = some (.lst ls) := by rw [upd_ne lb]; exact hl2
    have hb3 := upd_same (H := H2) (a := b) (o := .lst (fs ++ [ls[k]]))
    have b3 := but_put (o := .lst (fs ++ [ls[k]])) (b1.trans b2) nb0
    have w3 := w2.put (o := .lst (fs ++ [ls[k]])) bp
    generalize upd H2 b (.lst (fs ++ [ls[k]])) = H3 at hl3 hb3 b3 w3 ⊢
    refine ⟨_, rfl, _, rfl, _, rfl, l, ls, rfl, SqL.of hl3, fun u nu => ?_⟩
    have su := same_new nu (.lst (cutV ls none (some (k : Int))))
    refine ⟨_, rfl, _, rfl, _, _, rfl, rfl, _, rfl, l, ls, rfl, SqL.of (su _ _ hl3), fun v nv => ?_⟩
    have sv := same_new nv (.lst (cutV ls (some ((k : Int) + 1)) none))
    have eu := sv _ _ (upd_same (H := H3) (a := u) (o := .lst (cutV ls none (some (k : Int)))))
    refine ⟨u, v, _, _, rfl, rfl, eu, upd_same, ?_, fun z nz => ?_⟩
    · have := cutV_length ls none (some (k : Int))
      have := cutV_length ls (some ((k : Int) + 1)) none
      exact Nat.le_trans (Nat.add_le_add (cutV_length ls none (some (k : Int))) (cutV_length ls (some ((k : Int) + 1)) none)) (Nat.le_trans (by omega : ls.length + ls.length ≤ 1800) (by rw [sizeLine_eq]; decide))
    have sz := same_new nz (.lst (cutV ls none (some (k : Int)) ++ cutV ls (some ((k : Int) + 1)) none))
    have s36 := su.trans (sv.trans sz)
    have zb : z ≠ b := fun e => by
      have := (su.trans sv) _ _ hb3
      rw [e, this] at nz
      cases nz
    have e1 : cutV ls none (some (k : Int)) = ls.take k := cut_to (by omega)
    have e2 : cutV ls (some ((k : Int) + 1)) none = ls.drop (k + 1) := cut_from (k := k + 1) (by omega)
    refine ⟨z, _, fs ++ [ls[k]], _, _, rfl, b3.trans (But.of s36), w3.same s36, upd_same, (w3.same (su.trans sv)).ne nz, zb, s36 _ _ hb3, by rw [List.length_append]; show fs.length + 1 = i + 1; omega, ?_⟩
    rw [e1, e2, List.append_assoc]
    refine List.Perm.trans ?_ pm
    exact List.Perm.append_left fs (perm_cut (List.getElem?_eq_getElem hk)).symm
  · rintro σ H1 ⟨l, ls, fs, s4, s5, rfl, b1, w1, hl, lp, lb, hb, lf, pm⟩
    have ll : fs.length + ls.length = xs.length := by
      have := pm.length_eq
      rw [List.length_append] at this
      exact this
    have l0 : ls = [] := List.eq_nil_of_length_eq_zero (by omega)
    rw [l0, List.append_nil] at pm
    exact ⟨_, rfl, q b fs _ pm hb bp b1 w1⟩
end
end My

set_option maxHeartbeats 4000000
namespace My
open PySem PySem.Spec PyProof.Rows L2 RZ
abbrev sIsWhole : Stmt := top 7
abbrev sWholeFrom : Stmt := top (7 + 1)
abbrev sIsTwo : Stmt := top (7 + 2)
abbrev sAsc : Stmt := top (7 + 3)
abbrev sIsGraph : Stmt := top (7 + 4)
abbrev sIsVP : Stmt := top (7 + 5)
abbrev sCheckGraph : Stmt := top (7 + 6)
theorem scIsWhole : FnScope ["value", "low", "high"] ["value", "low", "high"] (defScope sIsWhole) := ⟨rfl, rfl, rfl, by decide +kernel, rfl, by decide +kernel, by decide +kernel⟩
theorem scWholeFrom : FnScope ["value", "low"] ["value", "low"] (defScope sWholeFrom) := ⟨rfl, rfl, rfl, by decide +kernel, rfl, by decide +kernel, by decide +kernel⟩
theorem scIsTwo : FnScope ["value"] ["value"] (defScope sIsTwo) := ⟨rfl, rfl, rfl, by decide +kernel, rfl, by decide +kernel, by decide +kernel⟩
theorem scAsc : FnScope ["row", "value", "following"] ["row"] (defScope sAsc) := ⟨rfl, rfl, rfl, by decide +kernel, rfl, by decide +kernel, by decide +kernel⟩
theorem scIsGraph : FnScope ["value", "many", "edges", "edge"] ["value"] (defScope sIsGraph) := ⟨rfl, rfl, rfl, by decide +kernel, rfl, by decide +kernel, by decide +kernel⟩
theorem scIsVP : FnScope ["value", "many", "vertex"] ["value", "many"] (defScope sIsVP) := ⟨rfl, rfl, rfl, by decide +kernel, rfl, by decide +kernel, by decide +kernel⟩
theorem scCheckGraph : FnScope ["graph"] ["graph"] (defScope sCheckGraph) := ⟨rfl, rfl, rfl, by decide +kernel, rfl, by decide +kernel, by decide +kernel⟩
theorem opOr {X : Cx} {op : Value → Value → Sem Value} {r r' : R2} (a : OpR X op r) (b : OpR X op r') : OpR X op (fun x y H Q => r x y H Q ∨ r' x y H Q) := by
  intro pins s σ H x y v u Q I rx ry h
  rcases h with h | h
  · exact a pins s σ H x y v u Q I rx ry h
  · exact b pins s σ H x y v u Q I rx ry h
theorem walk_zipT {K : PySem.W.Frag} {a b : Addr} {xs ys : List V} {n : Nat} (hn : n = min xs.length ys.length) : Walk (ItzT K a b) n (fun H => SqT K H a xs ∧ SqT K H b ys) (YPair (fun i => xs[i]?) (fun i => ys[i]?)) := by
  subst hn
  refine ⟨fun i _ hi q => ?_, fun _ q => ⟨xs, ys, q.1, q.2, by omega⟩, fun i H v H' _ q y => ?_⟩
  · have h1 : i < xs.length := by omega
    have h2 : i < ys.length := by omega
    exact ⟨xs, ys, xs[i], ys[i], q.1, q.2, by simp [h1], by simp [h2]⟩
  · obtain ⟨T, x, z, h1, h2, h3, h4, h5⟩ := y
    exact ⟨T, x, z, h1, h2, h3, h4 xs q.1, h5 ys q.2⟩
/-- what may be compared: numbers alone, or pairs of numbers alone -/
def Cmp (ss : List Sh) : Prop := (∀ s ∈ ss, ∃ i, s = .int i) ∨ (∀ s ∈ ss, ∃ i j, s = .tup [.int i, .int j])
theorem asc_zip : ∀ ss : List Sh, (List.zipWith ltS ss (ss.drop 1)).all id = ascB ss
  | [] => rfl
  | [s] => rfl
  | s :: t :: r => by
    have ih := asc_zip (t :: r)
    show (ltS s t && (List.zipWith ltS (t :: r) ((t :: r).drop 1)).all id) = (ltS s t && ascB (t :: r))
    rw [ih]
def spWholeFromA (K : PySem.W.Frag) : Sp := fun vs H Q _ => ∃ (v : V) (s : Sh) (lo : Int), vs = [v, .int lo] ∧ ShAt K H v s ∧ Q (.bl (wholeF lo s)) H
def spIsWholeA (K : PySem.W.Frag) : Sp := fun vs H Q _ => ∃ (v : V) (s : Sh) (lo hi : Int), vs = [v, .int lo, .int hi] ∧ ShAt K H v s ∧ Q (.bl (wholeR lo hi s)) H
def spIsTwoA (K : PySem.W.Frag) : Sp := fun vs H Q _ => ∃ (v : V) (s : Sh), vs = [v] ∧ ShAt K H v s ∧ Q (.bl (isTwo s)) H
def spAscA (K : PySem.W.Frag) : Sp := fun vs H Q _ => ∃ (e : Addr) (xs : List V) (ss : List Sh), vs = [.ref e] ∧ SqT K H e xs ∧ ShsAt K H xs ss ∧ Cmp ss ∧ ss.length ≤ 900 ∧ ∀ H', Same H H' → Q (.bl (ascB ss)) H'
def spVPA (K : PySem.W.Frag) : Sp := fun vs H Q _ => ∃ (v : V) (s : Sh) (n : Int), vs = [v, .int n] ∧ ShAt K H v s ∧ ∀ H', Same H H' → Q (.bl (vpB n s)) H'
/-- no tuple in it is too long -/
def shortS : Sh → Prop
  | .tup [_, .tup es] => es.length ≤ 900
  | _ => True
def spIsGraphA (K : PySem.W.Frag) : Sp := fun vs H Q _ => ∃ (v : V) (s : Sh), vs = [v] ∧ ShAt K H v s ∧ shortS s ∧ ∀ H', Same H H' → Q (.bl (isGr s)) H'
section
variable {P : Program} {w : World} {K : PySem.W.Frag} {mg : Str → Option Value} {base : Heap} {f fW fI fE fG : Addr} {fd dW dI dE dG : FuncData}
theorem ok_whole_from (F : L2.Fun K "is_whole_from" "is_whole_from" sWholeFrom f fd) (mty : mg "type" = none) (mi : mg "int" = none) : FnOk P w K mg base CX0 1 f fd ["value", "low"] (spWholeFromA K) := by
  refine F.ok scWholeFrom (fun vs H Q E h => ?_) (fun cdv A outer s H vs Q E hr h => ?_)
  · obtain ⟨v, s, lo, rfl, _⟩ := h
    rfl
  obtain ⟨v, s, lo, rfl, hv, q⟩ := h
  refine ⟨_, pss_one (ps_ret (pe_and (pe_cmpR op_isTy (pe_callTy call_type1 (by rfl) mty (by decide +kernel) (pa_cons (pv 0) pa_nil)) (pe_bltn (v := .ty "int") (by rfl) mi (by decide +kernel) rfl) (nomark _)) (pe_one (pe_cmpR op_ge (pv 0) (pv 1) (nomark _))))), ?_⟩
  obtain ⟨T, ty, ok⟩ := hv.ty
  refine ⟨_, rfl, v, T, rfl, ty, T, "int", rfl, rfl, _, rfl, iteB (fun c => ?_) (fun c => ?_)⟩
  · have c' : T = "int" := of_decide_eq_true c
    cases hv with
    | int i => exact ⟨_, rfl, _, rfl, _, _, rfl, rfl, q⟩
    | bool b => cases ty; exact absurd c' (by decide)
    | tup h r => rw [show T = "tuple" from ok] at c'; exact absurd c' (by decide)
    | non => exact absurd c' ok.1
    | str x => rw [show T = "str" from ok] at c'; exact absurd c' (by decide)
    | lst h => exact absurd c' ok.1
    | dct h => exact absurd c' ok.1
  · show Q (.bl false) H
    have nc : T ≠ "int" := of_decide_eq_false c
    have e : wholeF lo s = false := by
      cases s with
      | int i => exact absurd ok nc
      | _ => rfl
    rw [e] at q
    exact q
theorem ok_is_whole (F : L2.Fun K "is_whole" "is_whole" sIsWhole f fd) (GW : FnOk P w K mg base CX0 1 fW dW ["value", "low"] (spWholeFromA K)) (bW : L2.Binds K dW ["value", "low"] []) (kW : PySem.W.keepIn K (.ref fW) = true) (mW : mg "is_whole_from" = some (.ref fW)) : FnOk P w K mg base CX0 2 f fd ["value", "low", "high"] (spIsWholeA K) := by
  refine F.ok scIsWhole (fun vs H Q E h => ?_) (fun cdv A outer s H vs Q E hr h => ?_)
  · obtain ⟨v, s, lo, hi, rfl, _⟩ := h
    rfl
  obtain ⟨v, s, lo, hi, rfl, hv, q⟩ := h
  refine ⟨_, pss_one (ps_ret (pe_and (pe_call GW hr (by rfl) mW kW bW .nil pass0 (pa_cons (pv 0) (pa_cons (pv 1) pa_nil))) (pe_one (pe_cmpR op_le (pv 0) (pv 2) (nomark _))))), ?_⟩
  refine ⟨_, rfl, _, rfl, v, s, lo, rfl, hv, _, rfl, iteB (fun c => ?_) (fun c => ?_)⟩
  · cases s with
    | int i =>
      cases hv
      refine ⟨_, rfl, _, rfl, _, _, rfl, rfl, ?_⟩
      have e : wholeR lo hi (.int i) = decide (i ≤ hi) := by
        show (decide (i ≥ lo) && decide (i ≤ hi)) = _
        rw [show decide (i ≥ lo) = true from c]
        rfl
      rw [e] at q
      exact q
    | bool b => cases c
    | tup ss => cases c
    | str x => cases c
    | oth => cases c
  · show Q (.bl false) H
    have c' : wholeF lo s = false := c
    have e : wholeR lo hi s = false := by
      cases s with
      | int i =>
        show (decide (i ≥ lo) && decide (i ≤ hi)) = false
        rw [show decide (i ≥ lo) = false from c']
        rfl
      | _ => rfl
    rw [e] at q
    exact q
theorem ok_is_two (F : L2.Fun K "is_tuple_of_two" "is_tuple_of_two" sIsTwo f fd) (mty : mg "type" = none) (mt : mg "tuple" = none) (ml : mg "len" = none) : FnOk P w K mg base CX0 1 f fd ["value"] (spIsTwoA K) := by
  refine F.ok scIsTwo (fun vs H Q E h => ?_) (fun cdv A outer s H vs Q E hr h => ?_)
  · obtain ⟨v, s, rfl, _⟩ := h
    rfl
  obtain ⟨v, s, rfl, hv, q⟩ := h
  refine ⟨_, pss_one (ps_ret (pe_and (pe_cmpR op_isTy (pe_callTy call_type1 (by rfl) mty (by decide +kernel) (pa_cons (pv 0) pa_nil)) (pe_bltn (v := .ty "tuple") (by rfl) mt (by decide +kernel) rfl) (nomark _)) (pe_one (pe_cmpR op_eq (pe_callB call_len_seq (by rfl) ml PySem.boot_len (pa_cons (pv 0) pa_nil)) pe_int (nomark _))))), ?_⟩
  obtain ⟨T, ty, ok⟩ := hv.ty
  refine ⟨_, rfl, v, T, rfl, ty, T, "tuple", rfl, rfl, _, rfl, iteB (fun c => ?_) (fun c => ?_)⟩
  · have c' : T = "tuple" := of_decide_eq_true c
    cases hv with
    | int i => rw [show T = "int" from ok] at c'; exact absurd c' (by decide)
    | bool b => rw [show T = "bool" from ok] at c'; exact absurd c' (by decide)
    | @tup t xs ss h r =>
      refine ⟨_, rfl, t, xs, rfl, .inr h, rfl, ?_⟩
      have le := r.len
      show Q (.bl (decide (V.int ((xs.length : Nat) : Int) = V.int 2))) H
      have e : isTwo (.tup ss) = decide (V.int ((xs.length : Nat) : Int) = V.int 2) := by
        rw [le]
        rcases ss with _ | ⟨a, _ | ⟨b, _ | ⟨c, r⟩⟩⟩
        · rfl
        · rfl
        · rfl
        · symm
          show decide _ = false
          refine decide_eq_false fun z => ?_
          injection z with z
          simp at z
          omega
      rw [e] at q
      exact q
    | non => exact absurd c' ok.2.2.1
    | str x => rw [show T = "str" from ok] at c'; exact absurd c' (by decide)
    | lst h => exact absurd c' ok.2.2.1
    | dct h => exact absurd c' ok.2.2.1
  · show Q (.bl false) H
    have nc : T ≠ "tuple" := of_decide_eq_false c
    have e : isTwo s = false := by
      cases s with
      | tup ss => exact absurd ok nc
      | _ => rfl
    rw [e] at q
    exact q
theorem ok_asc (F : L2.Fun K "is_ascending" "is_ascending" sAsc f fd) (ma : mg "all" = none) (mz : mg "zip" = none) : FnOk P w K mg base CX0 1 f fd ["row"] (spAscA K) := by
  refine F.ok scAsc (fun vs H Q E h => ?_) (fun cdv A outer s H vs Q E hr h => ?_)
  · obtain ⟨e, xs, ss, rfl, _⟩ := h
    rfl
  obtain ⟨e, xs, ss, rfl, he, hs, cmp, few, q⟩ := h
  refine ⟨_, pss_one (ps_ret (pe_callB (cr_all rfl) (by rfl) ma (by decide +kernel) (pa_cons (pe_lc (own := [("value", 1), ("following", 2)]) (g := gTup K 2 (gCons (gName 1) (gCons (gName 2) gNil))) (tt := tYes) rfl scAsc.nd (pi_zipA (by rfl) mz (pa_cons (pv 0) (pa_cons (pe_slice sl_tupA (pv 0) (po_some pe_int) po_none) pa_nil)))
        (blkOk_by (N := ["row", "value", "following"]) (sc := defScope sAsc) (by decide +kernel)) (fun _ _ _ _ _ => pg_tup (by rfl) (pgs_cons (pg_name (i := 1) scAsc.nd rfl (Or.inl rfl)) (pgs_cons (pg_name (i := 2) scAsc.nd rfl (Or.inl rfl)) pgs_nil))) (fun _ _ _ _ _ => pts_nil)
        (fun _ _ _ _ _ => pe_cmpR (r := fun x y H Q => rI0 (fun i j => .bl (decide (i < j))) x y H Q ∨ rLtT K x y H Q) (opOr op_lt (op_ltT hr.units0)) (pv 1) (pv 2) (nomark _))) pa_nil))), ?_⟩
  have lxs := hs.len
  have lz : (List.zipWith ltS ss (ss.drop 1)).length = ss.length - 1 := by rw [List.length_zipWith, List.length_drop]; omega
  cases xs with
  | nil =>
    cases hs
    refine ⟨_, rfl, _, rfl, 1, rfl, e, [], rfl, he, fun _ => ?_, fun z => absurd ⟨rfl, rfl⟩ z⟩
    refine ⟨e, e, [], [], rfl, .inr ⟨he, he, fun B nB => lc_it (walk_zipT (n := 0) rfl) (fun i H3 => i = 0 ∧ Same H H3 ∧ H3 B = some (.lst [])) ⟨rfl, same_new nB _, upd_same⟩ (fun i H3 _ ⟨_, s3, _⟩ => ⟨Same.tup s3 he, Same.tup s3 he⟩) (fun i x H3 H4 hi => absurd hi (Nat.not_lt_zero _)) ?_⟩⟩
    rintro H3 ⟨_, s3, hB⟩
    exact ⟨B, [], rfl, SqL.of hB, q H3 s3⟩
  | cons x0 xs =>
    have hs3 : ShsAt K H xs (ss.drop 1) := by cases hs; assumption
    have cut : cutV (x0 :: xs) (some 1) none = xs := by
      unfold cutV
      rw [HT.sIx_none, show ((1 : Int)) = ((1 : Nat) : Int) from rfl, HT.sIx_nat, List.length_cons, show min 1 (xs.length + 1) = 1 by omega, List.drop_one, List.tail_cons, Nat.add_sub_cancel, List.take_length]
    refine ⟨_, rfl, _, rfl, 1, rfl, e, x0 :: xs, rfl, he, fun z => ?_, fun _ c nc => ?_⟩
    · exfalso
      have z1 := z.1
      rw [show ((1 : Int)) = ((1 : Nat) : Int) from rfl, HT.sIx_nat, List.length_cons] at z1
      omega
    rw [cut]
    have s3 := same_new nc (.tup xs)
    have l1 : xs.length + 1 = ss.length := by rw [← lxs, List.length_cons]
    refine ⟨e, c, x0 :: xs, xs, rfl, .inr ⟨Same.tup s3 he, SqT.of upd_same, fun B nB => lc_it (walk_zipT (n := xs.length) (by rw [List.length_cons]; omega)) (fun i H3 => Same (upd H c (.tup xs)) H3 ∧ H3 B = some (.lst (((List.zipWith ltS ss (ss.drop 1)).take i).map V.bl))) ⟨same_new nB _, upd_same⟩ (fun i H3 _ ⟨s4, _⟩ => ⟨Same.tup (s3.trans s4) he, Same.tup s4 (SqT.of upd_same)⟩) (fun i x H3 H4 hi ⟨s4, hB⟩ ⟨T, y, z, e1, nT, e2, hy, hz⟩ => ?_) ?_⟩⟩
    · subst e1
      subst e2
      have s5 := same_new nT (.tup [y, z])
      have sA := s3.trans (s4.trans s5)
      obtain ⟨a, ha, sa⟩ := (hs.same sA).get hy
      obtain ⟨b, hb, sb⟩ := (hs3.same sA).get hz
      have hz' : (List.zipWith ltS ss (ss.drop 1))[i]? = some (ltS a b) := by rw [List.getElem?_zipWith, ha, hb]
      have fin : Same (upd H c (.tup xs)) (upd (upd H3 T (.tup [y, z])) B (.lst (((List.zipWith ltS ss (ss.drop 1)).take i).map V.bl ++ [V.bl (ltS a b)]))) ∧ upd (upd H3 T (.tup [y, z])) B (.lst (((List.zipWith ltS ss (ss.drop 1)).take i).map V.bl ++ [V.bl (ltS a b)])) B = some (.lst (((List.zipWith ltS ss (ss.drop 1)).take (i + 1)).map V.bl)) := by
        refine ⟨same_put (s4.trans s5) nB, ?_⟩
        rw [upd_same, take_succ hz', List.map_append]
        rfl
      have ln : (((List.zipWith ltS ss (ss.drop 1)).take i).map V.bl).length < sizeLine := small1000 (by rw [List.length_map, List.length_take]; omega)
      have hB5 := s5 _ _ hB
      refine ⟨T, _, rfl, SqT.of upd_same, rfl, _, _, rfl, _, _, rfl, rfl, rfl, ?_⟩
      refine ⟨_, rfl, _, rfl, ?_⟩
      have ma := List.mem_of_getElem? ha
      have mb := List.mem_of_mem_drop (List.mem_of_getElem? hb)
      rcases cmp with cm | cm
      · obtain ⟨k, rfl⟩ := cm a ma
        obtain ⟨l, rfl⟩ := cm b mb
        cases sa
        cases sb
        exact .inl ⟨_, _, rfl, rfl, _, hB5, ln, fin⟩
      · obtain ⟨k, k2, rfl⟩ := cm a ma
        obtain ⟨l, l2, rfl⟩ := cm b mb
        cases sa with
        | @tup t1 ys1 _ h1 r1 =>
          cases sb with
          | @tup t2 ys2 _ h2 r2 =>
            cases r1 with
            | cons p1 r1 =>
              cases r1 with
              | cons p2 r1 =>
                cases r1
                cases p1
                cases p2
                cases r2 with
                | cons p3 r2 =>
                  cases r2 with
                  | cons p4 r2 =>
                    cases r2
                    cases p3
                    cases p4
                    exact .inr ⟨t1, t2, [k, k2], [l, l2], rfl, rfl, h1, h2, _, hB5, ln, fin⟩
    · rintro H3 ⟨s4, hB⟩
      refine ⟨B, _, rfl, SqL.of hB, ?_⟩
      rw [List.take_of_length_le (by omega), asc_zip]
      exact q H3 (s3.trans s4)
theorem ok_vp (F : L2.Fun K "is_vertex_pair" "is_vertex_pair" sIsVP f fd) (GI : FnOk P w K mg base CX0 1 fI dI ["value"] (spIsTwoA K)) (bI : L2.Binds K dI ["value"] []) (kI : PySem.W.keepIn K (.ref fI) = true) (mI : mg "is_tuple_of_two" = some (.ref fI))
    (GW : FnOk P w K mg base CX0 2 fW dW ["value", "low", "high"] (spIsWholeA K)) (bW : L2.Binds K dW ["value", "low", "high"] []) (kW : PySem.W.keepIn K (.ref fW) = true) (mW : mg "is_whole" = some (.ref fW)) (ma : mg "all" = none) : FnOk P w K mg base CX0 3 f fd ["value", "many"] (spVPA K) := by
  refine F.ok scIsVP (fun vs H Q E h => ?_) (fun cdv A outer s H vs Q E hr h => ?_)
  · obtain ⟨v, s, n, rfl, _⟩ := h
    rfl
  obtain ⟨v, s, n, rfl, hv, q⟩ := h
  refine ⟨_, pss_one (ps_ret (pe_and (pe_call GI (hr.mono (by decide)) (by rfl) mI kI bI .nil pass0 (pa_cons (pv 0) pa_nil)) (pe_one (pe_callB (cr_all rfl) (by rfl) ma (by decide +kernel) (pa_cons (pe_lc (own := [("vertex", 2)]) (g := gName 2) (tt := tYes) rfl scIsVP.nd (pi_tup (pv 0))
        (blkOk_by (N := ["value", "many", "vertex"]) (sc := defScope sIsVP) (by decide +kernel)) (fun _ _ _ _ _ => pg_name (i := 2) scIsVP.nd rfl (Or.inl rfl)) (fun _ _ _ _ _ => pts_nil)
        (fun _ _ _ _ _ => pe_call GW hr (by rfl) mW kW bW .nil pass0 (pa_cons (pv 2) (pa_cons pe_int (pa_cons (pe_op op_sub (pv 1) pe_int) pa_nil))))) pa_nil))))), ?_⟩
  refine ⟨_, rfl, v, s, rfl, hv, _, rfl, iteB (fun c => ?_) (fun c => ?_)⟩
  · obtain ⟨a, b, rfl⟩ : ∃ a b, s = .tup [a, b] := by
      unfold isTwo at c
      split at c
      · exact ⟨_, _, rfl⟩
      · cases c
    cases hv with
    | @tup t xs _ h r =>
      have lx := r.len
      refine ⟨_, rfl, t, rfl, ⟨_, h⟩, fun D nD => lc_tup (K := K) (a := t) (xs := xs) (fun i H2 => Same H H2 ∧ H2 D = some (.lst ((([a, b].take i).map (wholeR 0 (n - 1))).map V.bl))) ⟨same_new nD _, upd_same⟩ (fun i H1 _ ⟨s1, _⟩ => Same.tup s1 h) ?_ ?_⟩
      · rintro i x H2 hi ⟨s2, hD⟩
        obtain ⟨z, hz, sz⟩ := (r.same s2).get hi
        refine ⟨rfl, ?_⟩
        refine ⟨_, rfl, _, rfl, _, _, rfl, rfl, x, z, 0, n - 1, rfl, sz, _, hD, small1000 (by rw [List.length_map, List.length_map, List.length_take]; exact Nat.le_trans (Nat.min_le_right _ _) (by show 2 ≤ 1000; decide)), same_put s2 nD, ?_⟩
        rw [upd_same, take_succ hz, List.map_append, List.map_append]
        rfl
      · rintro H2 ⟨s2, hD⟩
        rw [lx, List.take_length] at hD
        refine ⟨D, _, rfl, SqL.of hD, ?_⟩
        have e : ([a, b].map (wholeR 0 (n - 1))).all id = vpB n (.tup [a, b]) := by
          show (wholeR 0 (n - 1) a && (wholeR 0 (n - 1) b && true)) = _
          rw [Bool.and_true]
          rfl
        rw [e]
        exact q H2 s2
  · have e : vpB n s = false := by
      unfold vpB
      split
      · cases c
      · rfl
    rw [e] at q
    exact q H (L2.Same.refl H)
theorem ok_is_graph (F : L2.Fun K "is_graph" "is_graph" sIsGraph f fd) (GI : FnOk P w K mg base CX0 1 fI dI ["value"] (spIsTwoA K)) (bI : L2.Binds K dI ["value"] []) (kI : PySem.W.keepIn K (.ref fI) = true) (mI : mg "is_tuple_of_two" = some (.ref fI))
    (GW : FnOk P w K mg base CX0 2 fW dW ["value", "low", "high"] (spIsWholeA K)) (bW : L2.Binds K dW ["value", "low", "high"] []) (kW : PySem.W.keepIn K (.ref fW) = true) (mW : mg "is_whole" = some (.ref fW))
    (GE : FnOk P w K mg base CX0 3 fE dE ["value", "many"] (spVPA K)) (bE : L2.Binds K dE ["value", "many"] []) (kE : PySem.W.keepIn K (.ref fE) = true) (mE : mg "is_vertex_pair" = some (.ref fE))
    (GA : FnOk P w K mg base CX0 1 fG dG ["row"] (spAscA K)) (bA : L2.Binds K dG ["row"] []) (kA : PySem.W.keepIn K (.ref fG) = true) (mA : mg "is_ascending" = some (.ref fG))
    (tk : Tok) (mM : mg "MOST_VERTICES" = some (.int 9 tk)) (mty : mg "type" = none) (mt : mg "tuple" = none) (ma : mg "all" = none) : FnOk P w K mg base CX0 4 f fd ["value"] (spIsGraphA K) := by
  refine F.ok scIsGraph (fun vs H Q E h => ?_) (fun cdv A outer s H vs Q E hr h => ?_)
  · obtain ⟨v, s, rfl, _⟩ := h
    rfl
  obtain ⟨v, s, rfl, hv, sh, q⟩ := h
  refine ⟨_, pss_cons (ps_if (pt_not (pt_val (pe_call GI (hr.mono (by decide)) (by rfl) mI kI bI .nil pass0 (pa_cons (pv 0) pa_nil)))) (pss_one (ps_ret pe_bl)) pss_nil)
    (pss_cons (ps_asg (pv 0) (pg_tup (by rfl) (pgs_cons (pg_name (i := 1) scIsGraph.nd rfl (.inr rfl)) (pgs_cons (pg_name (i := 2) scIsGraph.nd rfl (.inl rfl)) pgs_nil))))
    (pss_cons (ps_if (PW.pt (pw_or (pt_not (pt_val (pe_call GW (hr.mono (by decide)) (by rfl) mW kW bW .nil pass0 (pa_cons (pv 1) (pa_cons pe_int (pa_cons (pe_glob (v := .int 9) (by rfl) mM ⟨_, rfl⟩) pa_nil))))))
        (pw_or1 (pt_cmpR op_isNotTy (pe_callTy call_type1 (by rfl) mty (by decide +kernel) (pa_cons (pv 2) pa_nil)) (pe_bltn (v := .ty "tuple") (by rfl) mt (by decide +kernel) rfl) (nomark _))))) (pss_one (ps_ret pe_bl)) pss_nil)
    (pss_one (ps_ret (pe_and (pe_callB (cr_all rfl) (by rfl) ma (by decide +kernel) (pa_cons (pe_lc (own := [("edge", 3)]) (g := gName 3) (tt := tYes) rfl scIsGraph.nd (pi_tup (pv 2))
        (blkOk_by (N := ["value", "many", "edges", "edge"]) (sc := defScope sIsGraph) (by decide +kernel)) (fun _ _ _ _ _ => pg_name (i := 3) scIsGraph.nd rfl (Or.inl rfl)) (fun _ _ _ _ _ => pts_nil)
        (fun _ _ _ _ _ => pe_and (pe_call GE (hr.mono (by decide)) (by rfl) mE kE bE .nil pass0 (pa_cons (pv 3) (pa_cons (pv 1) pa_nil))) (pe_one (pe_cmpR op_lt (pe_ix (r := rIxT K) ix_tup (pv 3) pe_int (fun _ _ => rfl)) (pe_ix (r := rIxT K) ix_tup (pv 3) pe_int (fun _ _ => rfl)) (nomark _))))) pa_nil))
      (pe_one (pe_call GA (hr.mono (by decide)) (by rfl) mA kA bA .nil pass0 (pa_cons (pv 2) pa_nil)))))))), ?_⟩
  have q0 := q H (L2.Same.refl H)
  refine ⟨_, rfl, v, s, rfl, hv, _, rfl, iteB (fun c => ?_) (fun c => ?_)⟩
  · have e : isGr s = false := by
      unfold isGr
      split
      · cases c
      · rfl
    rw [e] at q0
    exact q0
  obtain ⟨m, es, rfl⟩ : ∃ a b, s = .tup [a, b] := by
    unfold isTwo at c
    split at c
    · exact ⟨_, _, rfl⟩
    · cases c
  cases hv with
  | @tup t xs _ ht r =>
  cases r with
  | @cons x _ xs _ hm r =>
  cases r with
  | @cons y _ xs _ hy r =>
  cases r
  refine ⟨_, rfl, t, _, rfl, ht, rfl, _, _, rfl, _, _, rfl, rfl, ?_⟩
  refine ⟨_, rfl, x, m, 0, 9, rfl, hm, _, rfl, iteB (fun c1 => ?_) (fun c1 => ?_)⟩
  · have e : isGr (.tup [m, es]) = false := by
      unfold isGr
      split
      · rename_i n es' e
        injection e with e
        injection e with e1 e2
        subst e1
        have c2 : (decide (n ≥ 0) && decide (n ≤ 9)) = false := (Bool.not_eq_true' _).mp c1
        rw [c2, Bool.false_and]
      · rfl
    rw [e] at q0
    exact q0
  obtain ⟨n, rfl, c2⟩ : ∃ n, m = .int n ∧ (decide (n ≥ 0) && decide (n ≤ 9)) = true := by
    cases m with
    | int n => exact ⟨n, rfl, (Bool.not_eq_false' _).mp c1⟩
    | _ => cases c1
  cases hm
  obtain ⟨T, ty, ok⟩ := hy.ty
  refine ⟨_, rfl, y, T, rfl, ty, T, "tuple", rfl, rfl, _, rfl, iteB (fun c3 => ?_) (fun c3 => ?_)⟩
  · have nt : T ≠ "tuple" := by simpa using c3
    have e : isGr (.tup [.int n, es]) = false := by
      cases es with
      | tup es => exact absurd ok nt
      | _ => rfl
    rw [e] at q0
    exact q0
  have et : T = "tuple" := by simpa using c3
  obtain ⟨es, rfl⟩ : ∃ ss, es = .tup ss := by
    cases es with
    | tup ss => exact ⟨ss, rfl⟩
    | int i => rw [show T = "int" from ok] at et; exact absurd et (by decide)
    | bool b => rw [show T = "bool" from ok] at et; exact absurd et (by decide)
    | str x => rw [show T = "str" from ok] at et; exact absurd et (by decide)
    | oth => exact absurd et ok.2.2.1
  have few : es.length ≤ 900 := sh
  cases hy with
  | @tup e xs _ he r =>
  have lx := r.len
  have eq : isGr (.tup [.int n, .tup es]) = (es.all (edgeB n) && ascB es) := by
    show ((decide (n ≥ 0) && decide (n ≤ 9)) && (es.all (edgeB n) && ascB es)) = _
    rw [c2, Bool.true_and]
  refine ⟨_, rfl, e, rfl, ⟨_, he⟩, fun D nD => lc_tup (K := K) (a := e) (xs := xs) (fun i H2 => Same H H2 ∧ H2 D = some (.lst (((es.take i).map (edgeB n)).map V.bl))) ⟨same_new nD _, upd_same⟩ (fun i H1 _ ⟨s1, _⟩ => Same.tup s1 he) ?_ ?_⟩
  · rintro i x H2 hi ⟨s2, hD⟩
    obtain ⟨z, hz, sz⟩ := (r.same s2).get hi
    have ln : (((es.take i).map (edgeB n)).map V.bl).length < sizeLine := small1000 (by rw [List.length_map, List.length_map, List.length_take]; omega)
    have fin : ∀ H3, Same H2 H3 → ∃ acc, H3 D = some (.lst acc) ∧ acc.length < sizeLine ∧ Same H (upd H3 D (.lst (acc ++ [V.bl (edgeB n z)]))) ∧ upd H3 D (.lst (acc ++ [V.bl (edgeB n z)])) D = some (.lst (((es.take (i + 1)).map (edgeB n)).map V.bl)) := fun H3 s3 => by
      refine ⟨_, s3 _ _ hD, ln, same_put (s2.trans s3) nD, ?_⟩
      rw [upd_same, take_succ hz, List.map_append, List.map_append]
      rfl
    refine ⟨rfl, ?_⟩
    refine ⟨_, rfl, _, rfl, x, z, n, rfl, sz, fun H3 s3 => ⟨_, rfl, iteB (fun c4 => ?_) (fun c4 => ?_)⟩⟩
    · obtain ⟨a, b, rfl⟩ : ∃ a b, z = .tup [.int a, .int b] := by
        unfold vpB at c4
        split at c4
        · rename_i a b
          cases a with
          | int a =>
            cases b with
            | int b => exact ⟨a, b, rfl⟩
            | _ => simp [wholeR] at c4
          | _ => simp [wholeR] at c4
        · cases c4
      have e1 : edgeB n (.tup [.int a, .int b]) = decide (a < b) := by
        show (vpB n (.tup [.int a, .int b]) && decide (a < b)) = _
        rw [show vpB n (.tup [.int a, .int b]) = true from c4, Bool.true_and]
      cases sz with
      | @tup u us _ hu ru =>
      cases ru with
      | cons p1 ru =>
      cases ru with
      | cons p2 ru =>
      cases ru
      cases p1
      cases p2
      have hu3 := Same.tup s3 hu
      refine ⟨_, rfl, u, _, 0, _, rfl, rfl, hu3, rfl, _, rfl, u, _, 1, _, rfl, rfl, hu3, rfl, _, _, rfl, rfl, ?_⟩
      have f := fin H3 s3
      rw [e1] at f
      exact f
    · have e1 : edgeB n z = false := by
        show (vpB n z && lt2 z) = false
        rw [show vpB n z = false from c4, Bool.false_and]
      have f := fin H3 s3
      rw [e1] at f
      exact f
  rintro H2 ⟨s2, hD⟩
  rw [lx, List.take_length] at hD
  refine ⟨D, _, rfl, SqL.of hD, _, rfl, ?_⟩
  have ea : (es.map (edgeB n)).all id = es.all (edgeB n) := by rw [List.all_map]; rfl
  rw [ea]
  refine iteB (fun c4 => ?_) (fun c4 => ?_)
  · refine ⟨_, rfl, e, xs, es, rfl, Same.tup s2 he, r.same s2, .inr fun s hs => ?_, few, fun H3 s3 => ?_⟩
    · have h1 := List.all_eq_true.mp c4 s hs
      unfold edgeB at h1
      rw [Bool.and_eq_true] at h1
      have h2 := h1.2
      unfold lt2 at h2
      split at h2
      · exact ⟨_, _, rfl⟩
      · cases h2
    · have q1 := q H3 (s2.trans s3)
      rw [eq, c4, Bool.true_and] at q1
      exact q1
  · have q1 := q H2 s2
    rw [eq, c4, Bool.false_and] at q1
    exact q1
end
end My

set_option maxHeartbeats 4000000
namespace My
open PySem PySem.Spec PyProof.Rows L2
def graphS (n : Nat) (es : List E2) : Sh := .tup [.int (n : Int), .tup (es.map pairS)]
theorem GraphAt.sh {K : PySem.W.Frag} {H : Hp} {x : V} {n : Nat} {es : List E2} (h : GraphAt K H x n es) : ShAt K H x (graphS n es) := by
  obtain ⟨t, e, xs, rfl, h1, h2, h3⟩ := h
  exact .tup h1 (.cons (.int _) (.cons (.tup h2 h3.sh) .nil))
theorem asc_pairs : ∀ {es : List E2}, es.Pairwise ahead → ascB (es.map pairS) = true
  | [], _ => rfl
  | [_], _ => rfl
  | p :: q :: r, h => by
    have h1 := (List.pairwise_cons.mp h).1 q (List.mem_cons_self ..)
    have ih := asc_pairs (es := q :: r) (List.pairwise_cons.mp h).2
    show (HT.lexLt [(p.1 : Int), (p.2 : Int)] [(q.1 : Int), (q.2 : Int)] && ascB ((q :: r).map pairS)) = true
    rw [ih, Bool.and_true]
    unfold HT.lexLt
    split
    · unfold HT.lexLt
      rcases h1 with h1 | ⟨_, h1⟩
      · omega
      · rw [if_neg (by omega)]
        exact decide_eq_true (by omega)
    · rename_i e
      rcases h1 with h1 | ⟨h1, _⟩
      · exact decide_eq_true (by omega)
      · exact absurd (by omega) e
theorem isGr_good {n : Nat} {es : List E2} (g : Good n es) : isGr (graphS n es) = true := by
  have n9 := g.n9
  show ((decide ((n : Int) ≥ 0) && decide ((n : Int) ≤ 9)) && ((es.map pairS).all (edgeB (n : Int)) && ascB (es.map pairS))) = true
  rw [asc_pairs g.up, decide_eq_true (show (n : Int) ≥ 0 by omega), decide_eq_true (show (n : Int) ≤ 9 by omega)]
  simp only [Bool.and_true, Bool.true_and]
  rw [List.all_eq_true]
  intro s hs
  obtain ⟨p, hp, rfl⟩ := List.mem_map.mp hs
  obtain ⟨l1, l2⟩ := g.lt p hp
  show (((decide ((p.1 : Int) ≥ 0) && decide ((p.1 : Int) ≤ (n : Int) - 1)) && (decide ((p.2 : Int) ≥ 0) && decide ((p.2 : Int) ≤ (n : Int) - 1))) && decide ((p.1 : Int) < (p.2 : Int))) = true
  simp
  omega
/-- a lot -/
def LotAt (K : PySem.W.Frag) (H : Hp) (x : V) (l : List Nat) : Prop := ∃ t, x = .ref t ∧ SqT K H t (l.map fun k => V.int ((k : Nat) : Int))
structure LotOk (n : Nat) (l : List Nat) : Prop where
  lt : ∀ k ∈ l, k < n
  up : l.Pairwise (· < ·)
def lotS (l : List Nat) : Sh := .tup (l.map fun k => Sh.int ((k : Nat) : Int))
theorem LotAt.same {K : PySem.W.Frag} {H H' : Hp} (s : Same H H') {x : V} {l : List Nat} (h : LotAt K H x l) : LotAt K H' x l := by
  obtain ⟨t, rfl, h⟩ := h
  exact ⟨t, rfl, Same.tup s h⟩
theorem ints_sh {K : PySem.W.Frag} {H : Hp} : ∀ l : List Nat, ShsAt K H (l.map fun k => V.int ((k : Nat) : Int)) (l.map fun k => Sh.int ((k : Nat) : Int))
  | [] => .nil
  | _ :: r => .cons (.int _) (ints_sh r)
theorem LotAt.sh {K : PySem.W.Frag} {H : Hp} {x : V} {l : List Nat} (h : LotAt K H x l) : ShAt K H x (lotS l) := by
  obtain ⟨t, rfl, h⟩ := h
  exact .tup h (ints_sh l)
theorem asc_lot : ∀ {l : List Nat}, l.Pairwise (· < ·) → ascB (l.map fun k => Sh.int ((k : Nat) : Int)) = true
  | [], _ => rfl
  | [_], _ => rfl
  | p :: q :: r, h => by
    have h1 := (List.pairwise_cons.mp h).1 q (List.mem_cons_self ..)
    have ih := asc_lot (l := q :: r) (List.pairwise_cons.mp h).2
    show (decide ((p : Int) < (q : Int)) && ascB ((q :: r).map fun k => Sh.int ((k : Nat) : Int))) = true
    rw [ih, Bool.and_true]
    exact decide_eq_true (by omega)
theorem isLot_ok {n : Nat} {l : List Nat} (g : LotOk n l) : isLot n (lotS l) = true := by
  show ((l.map fun k => Sh.int ((k : Nat) : Int)).all (wholeR 0 ((n : Int) - 1)) && ascB (l.map fun k => Sh.int ((k : Nat) : Int))) = true
  rw [asc_lot g.up, Bool.and_true, List.all_eq_true]
  intro s hs
  obtain ⟨k, hk, rfl⟩ := List.mem_map.mp hs
  have l1 := g.lt k hk
  show (decide ((k : Int) ≥ 0) && decide ((k : Int) ≤ (n : Int) - 1)) = true
  simp
  omega
theorem LotOk.few {n : Nat} {l : List Nat} (g : LotOk n l) : l.length ≤ n := by
  have nd : l.Nodup := g.up.imp fun h => Nat.ne_of_lt h
  have z := sub_few nd (m := List.range n) fun k hk => List.mem_range.mpr (g.lt k hk)
  rw [List.length_range] at z
  exact z
def shortL : Sh → Prop
  | .tup ss => ss.length ≤ 900
  | _ => True
def spCheckGraph (K : PySem.W.Frag) : Sp := fun vs H Q _ => ∃ (x : V) (n : Nat) (es : List E2), vs = [x] ∧ GraphAt K H x n es ∧ Good n es ∧ ∀ H', Same H H' → Q .non H'
section
variable {P : Program} {w : World} {K : PySem.W.Frag} {mg : Str → Option Value} {base : Heap} {f fW fA fG fC fL fO : Addr} {fd dW dA dG dC dL dO : FuncData}
theorem ok_check_graph (F : L2.Fun K "check_graph" "check_graph" sCheckGraph f fd) (GG : FnOk P w K mg base CX0 4 fG dG ["value"] (spIsGraphA K)) (bG : L2.Binds K dG ["value"] []) (kG : PySem.W.keepIn K (.ref fG) = true) (mG : mg "is_graph" = some (.ref fG)) : FnOk P w K mg base CX0 5 f fd ["graph"] (spCheckGraph K) := by
  refine F.ok scCheckGraph (fun vs H Q E h => ?_) (fun cdv A outer s H vs Q E hr h => ?_)
  · obtain ⟨x, n, es, rfl, _⟩ := h
    rfl
  obtain ⟨x, n, es, rfl, hx, g, q⟩ := h
  refine ⟨_, pss_one (ps_if (pt_not (pt_val (pe_call GG (hr.mono (by decide)) (by rfl) mG kG bG .nil pass0 (pa_cons (pv 0) pa_nil)))) (pss_one ps_never) pss_nil), ?_⟩
  have few := g.few
  refine ⟨_, rfl, x, graphS n es, rfl, hx.sh, (by show (es.map pairS).length ≤ 900; rw [List.length_map]; omega), fun H' s' => ?_⟩
  rw [isGr_good g]
  exact ⟨_, rfl, iteF (q H' s')⟩
end
end My

set_option maxHeartbeats 4000000
/-! Bipartite multigraphs, in plain Lean and in the heap. -/
namespace My
open PySem PySem.Spec PyProof.Rows L2
structure MulG (l r : Nat) (es : List E2) : Prop where
  l9 : l ≤ 9
  r9 : r ≤ 9
  lt : ∀ p ∈ es, p.1 < l ∧ p.2 < r
  up : es.Pairwise fun a b => ¬ ahead b a
def MulAt (K : PySem.W.Frag) (H : Hp) (x : V) (l r : Nat) (es : List E2) : Prop := ∃ (t e : Addr) (xs : List V), x = .ref t ∧ SqT K H t [.int (l : Int), .int (r : Int), .ref e] ∧ SqT K H e xs ∧ PairsAt K H xs es
def MulT (H : Hp) (x : V) (l r : Nat) (es : List E2) : Prop := ∃ (t e : Addr) (xs : List V), x = .ref t ∧ H t = some (.tup [.int (l : Int), .int (r : Int), .ref e]) ∧ H e = some (.tup xs) ∧ PairsT H xs es
theorem MulT.at {K : PySem.W.Frag} {H : Hp} {x : V} {l r : Nat} {es : List E2} (h : MulT H x l r es) : MulAt K H x l r es := by
  obtain ⟨t, e, xs, h1, h2, h3, h4⟩ := h
  exact ⟨t, e, xs, h1, SqT.of h2, SqT.of h3, h4.at⟩
theorem MulAt.ts {K : PySem.W.Frag} {H H' : Hp} (s : TS H H') {x : V} {l r : Nat} {es : List E2} (h : MulAt K H x l r es) : MulAt K H' x l r es := by
  obtain ⟨t, e, xs, h1, h2, h3, h4⟩ := h
  exact ⟨t, e, xs, h1, s.tup h2, s.tup h3, h4.ts s⟩
theorem MulAt.same {K : PySem.W.Frag} {H H' : Hp} (s : Same H H') {x : V} {l r : Nat} {es : List E2} (h : MulAt K H x l r es) : MulAt K H' x l r es := h.ts (TS.of s)
theorem MulT.but {p : Addr} {H H' : Hp} (b : But p H H') (w : Wl H p) {x : V} {l r : Nat} {es : List E2} (h : MulT H x l r es) : MulT H' x l r es := by
  obtain ⟨t, e, xs, h1, h2, h3, h4⟩ := h
  exact ⟨t, e, xs, h1, b _ _ (wl_tup w h2) h2, b _ _ (wl_tup w h3) h3, h4.but b w⟩
theorem MulT.same {H H' : Hp} (s : Same H H') {x : V} {l r : Nat} {es : List E2} (h : MulT H x l r es) : MulT H' x l r es := by
  obtain ⟨t, e, xs, h1, h2, h3, h4⟩ := h
  exact ⟨t, e, xs, h1, s _ _ h2, s _ _ h3, h4.same s⟩
/-! ### what is a multigraph -/
def intS : Sh → Int
  | .int i => i
  | _ => 0
def mulS (l r : Nat) (es : List E2) : Sh := .tup [.int (l : Int), .int (r : Int), .tup (es.map pairS)]
def leS : Sh → Sh → Bool
  | .tup [.int a, .int b], .tup [.int c, .int d] => if a = c then (if b = d then true else decide (b ≤ d)) else decide (a ≤ c)
  | _, _ => false
def nevB : List Sh → Bool
  | s :: t :: r => leS s t && nevB (t :: r)
  | _ => true
def edgeM (l r : Int) : Sh → Bool
  | .tup [a, b] => wholeR 0 (l - 1) a && wholeR 0 (r - 1) b
  | _ => false
def isMul : Sh → Bool
  | .tup [a, b, .tup es] => (wholeR 0 9 a && wholeR 0 9 b) && (decide (es.length ≤ 9) && (es.all (edgeM (intS a) (intS b)) && nevB es))
  | _ => false
theorem MulAt.sh {K : PySem.W.Frag} {H : Hp} {x : V} {l r : Nat} {es : List E2} (h : MulAt K H x l r es) : ShAt K H x (mulS l r es) := by
  obtain ⟨t, e, xs, rfl, h2, h3, h4⟩ := h
  exact .tup h2 (.cons (.int _) (.cons (.int _) (.cons (.tup h3 h4.sh) .nil)))
theorem sh_mul {K : PySem.W.Frag} {H : Hp} {x : V} {l r : Nat} {es : List E2} (h : ShAt K H x (mulS l r es)) : MulAt K H x l r es := by
  cases h with
  | tup ht r =>
    cases r with
    | cons a r =>
      cases r with
      | cons b r =>
        cases r with
        | cons c r =>
          cases r
          cases a
          cases b
          cases c with
          | tup he re => exact ⟨_, _, _, rfl, ht, he, sh_pairs re⟩
theorem leS_pair (p q : E2) : leS (pairS p) (pairS q) = true ↔ ¬ ahead q p := by
  show (if (p.1 : Int) = (q.1 : Int) then (if (p.2 : Int) = (q.2 : Int) then true else decide ((p.2 : Int) ≤ (q.2 : Int))) else decide ((p.1 : Int) ≤ (q.1 : Int))) = true ↔ _
  unfold ahead
  split
  · split
    · simp; omega
    · rw [decide_eq_true_eq]; omega
  · rw [decide_eq_true_eq]; omega
theorem nev_pairs : ∀ ps : List E2, nevB (ps.map pairS) = true ↔ ps.Pairwise fun a b => ¬ ahead b a
  | [] => ⟨fun _ => .nil, fun _ => rfl⟩
  | [p] => ⟨fun _ => List.pairwise_singleton _ _, fun _ => rfl⟩
  | p :: q :: r => by
    have ih := nev_pairs (q :: r)
    show (leS (pairS p) (pairS q) && nevB ((q :: r).map pairS)) = true ↔ _
    rw [Bool.and_eq_true, leS_pair, ih, List.pairwise_cons (a := p)]
    constructor
    · rintro ⟨h1, h2⟩
      refine ⟨fun z hz => ?_, h2⟩
      rcases List.mem_cons.mp hz with rfl | hz
      · exact h1
      · have h3 := (List.pairwise_cons.mp h2).1 z hz
        unfold ahead at h1 h3 ⊢
        omega
    · rintro ⟨h1, h2⟩
      exact ⟨h1 q (List.mem_cons_self ..), h2⟩
theorem edgeM_pair {l r : Int} {s : Sh} (h : edgeM l r s = true) : ∃ p : E2, s = pairS p ∧ (p.1 : Int) < l ∧ (p.2 : Int) < r := by
  unfold edgeM at h
  split at h
  · rename_i a b
    rw [Bool.and_eq_true] at h
    obtain ⟨h1, h2⟩ := h
    cases a with
    | int i =>
      cases b with
      | int j =>
        have h1' : (decide (i ≥ 0) && decide (i ≤ l - 1)) = true := h1
        have h2' : (decide (j ≥ 0) && decide (j ≤ r - 1)) = true := h2
        simp at h1' h2'
        refine ⟨(i.toNat, j.toNat), ?_, ?_, ?_⟩
        · show Sh.tup [.int i, .int j] = .tup [.int ((i.toNat : Nat) : Int), .int ((j.toNat : Nat) : Int)]
          rw [show ((i.toNat : Nat) : Int) = i by omega, show ((j.toNat : Nat) : Int) = j by omega]
        · show ((i.toNat : Nat) : Int) < l
          omega
        · show ((j.toNat : Nat) : Int) < r
          omega
      | _ => cases h2
    | _ => cases h1
  · cases h
theorem edgesM_pairs {l r : Int} : ∀ {es : List Sh}, es.all (edgeM l r) = true → ∃ ps : List E2, es = ps.map pairS ∧ ∀ p ∈ ps, (p.1 : Int) < l ∧ (p.2 : Int) < r
  | [], _ => ⟨[], rfl, fun _ z => nomatch z⟩
  | s :: es, h => by
    rw [List.all_cons, Bool.and_eq_true] at h
    obtain ⟨p, e, lt⟩ := edgeM_pair h.1
    obtain ⟨ps, e2, lts⟩ := edgesM_pairs h.2
    refine ⟨p :: ps, by rw [e, e2]; rfl, fun q hq => ?_⟩
    rcases List.mem_cons.mp hq with rfl | hq
    · exact lt
    · exact lts q hq
theorem whole9 {s : Sh} (h : wholeR 0 9 s = true) : ∃ n : Nat, s = .int (n : Int) ∧ n ≤ 9 := by
  cases s with
  | int i =>
    have h' : (decide (i ≥ 0) && decide (i ≤ 9)) = true := h
    simp at h'
    refine ⟨i.toNat, by rw [show ((i.toNat : Nat) : Int) = i by omega], by omega⟩
  | _ => cases h
theorem isMul_spec {s : Sh} (h : isMul s = true) : ∃ l r es, s = mulS l r es ∧ MulG l r es ∧ es.length ≤ 9 := by
  unfold isMul at h
  split at h
  · rename_i a b es
    rw [Bool.and_eq_true, Bool.and_eq_true, Bool.and_eq_true, Bool.and_eq_true, decide_eq_true_eq] at h
    obtain ⟨⟨h1, h2⟩, h3, h4, h5⟩ := h
    obtain ⟨l, rfl, l9⟩ := whole9 h1
    obtain ⟨r, rfl, r9⟩ := whole9 h2
    obtain ⟨ps, rfl, lt⟩ := edgesM_pairs h4
    have lt' : ∀ p ∈ ps, (p.1 : Int) < (l : Int) ∧ (p.2 : Int) < (r : Int) := lt
    exact ⟨l, r, ps, rfl, ⟨l9, r9, fun p hp => by have := lt' p hp; omega, (nev_pairs ps).mp h5⟩, by rw [List.length_map] at h3; exact h3⟩
  · cases h
theorem isMul_good {l r : Nat} {es : List E2} (g : MulG l r es) (e9 : es.length ≤ 9) : isMul (mulS l r es) = true := by
  have l9 := g.l9
  have r9 := g.r9
  show ((wholeR 0 9 (.int (l : Int)) && wholeR 0 9 (.int (r : Int))) && (decide ((es.map pairS).length ≤ 9) && ((es.map pairS).all (edgeM (l : Int) (r : Int)) && nevB (es.map pairS)))) = true
  have w : ∀ n : Nat, n ≤ 9 → wholeR 0 9 (.int (n : Int)) = true := fun n h => by
    show (decide ((n : Int) ≥ 0) && decide ((n : Int) ≤ 9)) = true
    simp
    omega
  rw [w l l9, w r r9, (nev_pairs es).mpr g.up, decide_eq_true (by rw [List.length_map]; exact e9)]
  simp only [Bool.and_true, Bool.true_and]
  rw [List.all_eq_true]
  intro s hs
  obtain ⟨p, hp, rfl⟩ := List.mem_map.mp hs
  obtain ⟨a, b⟩ := g.lt p hp
  show ((decide ((p.1 : Int) ≥ 0) && decide ((p.1 : Int) ≤ (l : Int) - 1)) && (decide ((p.2 : Int) ≥ 0) && decide ((p.2 : Int) ≤ (r : Int) - 1))) = true
  simp
  omega
/-! ### edges at a vertex, degrees, the line graph -/
def sd (i : Nat) (p : E2) : Nat := if i = 0 then p.1 else p.2
def eAt (es : List E2) (k : Nat) : E2 := es.getD k (0, 0)
theorem eAt_get {es : List E2} {k : Nat} (h : k < es.length) : es[k]? = some (eAt es k) := by
  unfold eAt
  rw [List.getD_eq_getElem?_getD, List.getElem?_eq_getElem h]
  rfl
def atL (es : List E2) (i v : Nat) : List Nat := (List.range es.length).filter fun k => sd i (eAt es k) == v
def degL (l r : Nat) (es : List E2) : List Nat := [0] ++ (List.range l).map (fun v => (atL es 0 v).length) ++ (List.range r).map fun v => (atL es 1 v).length
def meetB (es : List E2) (u v : Nat) : Bool := (eAt es u).1 == (eAt es v).1 || (eAt es u).2 == (eAt es v).2
def lineP (es : List E2) : List E2 := (allP es.length).filter fun p => meetB es p.1 p.2
theorem atL_few (es : List E2) (i v : Nat) : (atL es i v).length ≤ es.length := by
  unfold atL
  refine Nat.le_trans (List.length_filter_le _ _) ?_
  rw [List.length_range]
  exact Nat.le_refl _
theorem degL_few {l r : Nat} {es : List E2} : ∀ d ∈ degL l r es, d ≤ es.length := fun d hd => by
  unfold degL at hd
  rcases List.mem_append.mp hd with hd | hd
  · rcases List.mem_append.mp hd with hd | hd
    · rw [List.mem_singleton.mp hd]; exact Nat.zero_le _
    · obtain ⟨v, _, rfl⟩ := List.mem_map.mp hd
      exact atL_few es 0 v
  · obtain ⟨v, _, rfl⟩ := List.mem_map.mp hd
    exact atL_few es 1 v
def IsMax (ns : List Nat) (m : Nat) : Prop := m ∈ ns ∧ ∀ y ∈ ns, y ≤ m
theorem IsMax.uniq {ns : List Nat} {m m' : Nat} (h : IsMax ns m) (h' : IsMax ns m') : m = m' := Nat.le_antisymm (h'.2 _ h.1) (h.2 _ h'.1)
theorem line_good {es : List E2} (h : es.length ≤ 9) : Good es.length (lineP es) := by
  refine ⟨h, fun p hp => mem_allP.mp (List.mem_filter.mp hp).1, (allP_up es.length h).filter _⟩
theorem mem_lineP {es : List E2} {u v : Nat} : (u, v) ∈ lineP es ↔ u < v ∧ v < es.length ∧ meetB es u v = true := by
  unfold lineP
  rw [List.mem_filter, mem_allP]
  exact and_assoc
end My

set_option maxHeartbeats 8000000
namespace My
open PySem PySem.Spec PyProof.Rows L2
abbrev sLWh : Stmt := top 45
abbrev sMulti : Stmt := top 46
theorem scLWh : FnScope ["value"] ["value"] (defScope sLWh) := ⟨rfl, rfl, rfl, by decide +kernel, rfl, by decide +kernel, by decide +kernel⟩
theorem scMulti : FnScope ["pot", "most", "left", "right", "found", "turn", "again"] ["pot", "most"] (defScope sMulti) := ⟨rfl, rfl, rfl, by decide +kernel, rfl, by decide +kernel, by decide +kernel⟩
def isWh : Sh → Bool
  | .int _ => true
  | _ => false
def spLWh (K : PySem.W.Frag) : Sp := fun vs H Q _ => ∃ (v : V) (s : Sh), vs = [v] ∧ ShAt K H v s ∧ Q (.bl (isWh s)) H
def spMulti : Sp := fun vs H Q _ => ∃ (p : Addr) (most : Nat), vs = [.ref p, .int (most : Int)] ∧ Wl H p ∧ most ≤ 10 ∧ ∀ (x : V) (l r : Nat) (es : List E2) (H' : Hp), But p H H' → Wl H' p → MulT H' x l r es → MulG l r es → 1 ≤ l → 1 ≤ r → es.length ≤ most → Q x H'
section
variable {P : Program} {w : World} {K : PySem.W.Frag} {mg : Str → Option Value} {base : Heap} {f fD fK : Addr} {fd dD dK : FuncData}
theorem ok_lwh (F : L2.Fun K "_law_is_whole" "_law_is_whole" sLWh f fd) (mi : mg "isinstance" = none) (mn : mg "int" = none) (mb : mg "bool" = none) : FnOk P w K mg base CX0 1 f fd ["value"] (spLWh K) := by
  refine F.ok scLWh (fun vs H Q E h => ?_) (fun cdv A outer s H vs Q E hr h => ?_)
  · obtain ⟨v, s, rfl, _⟩ := h
    rfl
  obtain ⟨v, s, rfl, hv, q⟩ := h
  refine ⟨_, pss_one (ps_ret (pe_and (pe_callB call_isi (by rfl) mi (by decide +kernel) (pa_cons (pv 0) (pa_cons (pe_bltn (v := .ty "int") (by rfl) mn (by decide +kernel) rfl) pa_nil))) (pe_one (pe_not (pe_callB call_isi (by rfl) mi (by decide +kernel) (pa_cons (pv 0) (pa_cons (pe_bltn (v := .ty "bool") (by rfl) mb (by decide +kernel) rfl) pa_nil))))))), ?_⟩
  obtain ⟨tt, tx, k1, k2, k3⟩ := isi_of hv
  refine ⟨_, rfl, v, .ty "int", tt, .type "int", isInt s, rfl, .ty _, tx, k2, _, rfl, ?_⟩
  refine iteB (fun c => ?_) (fun c => ?_)
  · refine ⟨_, rfl, v, .ty "bool", tt, .type "bool", isBool s, rfl, .ty _, tx, k3, _, rfl, ?_⟩
    cases s with
    | int i => exact q
    | bool b => exact q
    | _ => cases c
  · cases s with
    | int i => cases c
    | bool b => cases c
    | _ => exact q
theorem pairs_shapedL (es : List E2) : SeqAt.shaped (.list (es.map pairD)) = true := by
  have pd := pairsD_depth es
  unfold SeqAt.shaped
  rw [Bool.and_eq_true, decide_eq_true_eq]
  refine ⟨?_, ?_⟩
  · simp only [PyData.canLay0, pairsD_lay es]
  · simp only [PyData.depth]
    omega
theorem one_five {i : Nat} {v : V} (h : ([.int 1, .int 2, .int 2, .int 3, .int 3, .int 4, .int 5] : List V)[i]? = some v) : ∃ n : Nat, v = .int (n : Int) ∧ 1 ≤ n ∧ n ≤ 5 := by
  have m := List.mem_of_getElem? h
  simp only [List.mem_cons, List.mem_nil_iff, or_false] at m
  rcases m with rfl | rfl | rfl | rfl | rfl | rfl | rfl
  · exact ⟨1, rfl, by decide, by decide⟩
  · exact ⟨2, rfl, by decide, by decide⟩
  · exact ⟨2, rfl, by decide, by decide⟩
  · exact ⟨3, rfl, by decide, by decide⟩
  · exact ⟨3, rfl, by decide, by decide⟩
  · exact ⟨4, rfl, by decide, by decide⟩
  · exact ⟨5, rfl, by decide, by decide⟩
theorem ok_multi (F : L2.Fun K "_law_multi" "_law_multi" sMulti f fd)
    (GD : FnOk P w K mg base CX0 1 fD dD ["pot", "few"] spDraw) (bD : L2.Binds K dD ["pot", "few"] []) (kD : PySem.W.keepIn K (.ref fD) = true) (mD : mg "_law_draw" = some (.ref fD))
    (GK : FnOk P w K mg base CX0 2 fK dK ["pot", "some"] (spPickL K)) (bK : L2.Binds K dK ["pot", "some"] []) (kK : PySem.W.keepIn K (.ref fK) = true) (mK : mg "_law_pick" = some (.ref fK))
    (mr : mg "range" = none) (mt : mg "tuple" = none) (mso : mg "sorted" = none) : FnOk P w K mg base CX0 3 f fd ["pot", "most"] spMulti := by
  refine F.ok scMulti (fun vs H Q E h => ?_) (fun cdv A outer s H vs Q E hr h => ?_)
  · obtain ⟨p, most, rfl, _⟩ := h
    rfl
  obtain ⟨p, most, rfl, hW, m10, q⟩ := h
  have h1 := hr.mono (show 1 ≤ 2 by decide)
  refine ⟨_, pss_cons (ps_par3 rfl scMulti.nd (i := 2) (j := 3) (l := 4) rfl rfl rfl (by decide) (by decide) (by decide) rfl rfl rfl (pa_cons (pe_call GK hr (by rfl) mK kK bK .nil pass0 (pa_cons (pv 0) (pa_cons (pe_lst (pa_cons pe_int (pa_cons pe_int (pa_cons pe_int (pa_cons pe_int (pa_cons pe_int (pa_cons pe_int (pa_cons pe_int pa_nil)))))))) pa_nil))) (pa_cons (pe_call GK hr (by rfl) mK kK bK .nil pass0 (pa_cons (pv 0) (pa_cons (pe_lst (pa_cons pe_int (pa_cons pe_int (pa_cons pe_int (pa_cons pe_int (pa_cons pe_int (pa_cons pe_int (pa_cons pe_int pa_nil)))))))) pa_nil))) (pa_cons (pe_lst pa_nil) pa_nil))) (by rfl))
    (pss_cons (ps_for PassesOwn.never rfl (pi_range1 rfl mr (pa_cons (pe_call GD h1 (by rfl) mD kD bD .nil pass0 (pa_cons (pv 0) (pa_cons (pe_op op_add (pv 1) pe_int) pa_nil))) pa_nil)) (pg_name (i := 5) scMulti.nd rfl (.inl rfl))
      (pss_cons (ps_set (i := 6) scMulti.nd rfl (.inl rfl) (pe_and (pe_cmpR (op_neD hr.units) (pv 4) (pe_lst pa_nil) (nomark _)) (pe_one (pe_cmpR op_eq (pe_call GD h1 (by rfl) mD kD bD .nil pass0 (pa_cons (pv 0) (pa_cons pe_int pa_nil))) pe_int (nomark _)))))
      (pss_one (ps_expr (pe_bm PySem.F.plainAttrs_list PySem.F.slot_list_append PySem.F.type_list_append mt_append (pv 4) (pa_cons (pe_ifExp (pt_val (pv 6)) (pe_call GK hr (by rfl) mK kK bK .nil pass0 (pa_cons (pv 0) (pa_cons (pv 4) pa_nil))) (pe_tup (pa_cons (pe_call GD h1 (by rfl) mD kD bD .nil pass0 (pa_cons (pv 0) (pa_cons (pv 2) pa_nil))) (pa_cons (pe_call GD h1 (by rfl) mD kD bD .nil pass0 (pa_cons (pv 0) (pa_cons (pv 3) pa_nil))) pa_nil)))) pa_nil))))))
    (pss_one (ps_ret (pe_tup (pa_cons (pv 2) (pa_cons (pv 3) (pa_cons (pe_callTy call_tuple_of (by rfl) mt (by decide +kernel) (pa_cons (pe_callB cr_sortedPO (by rfl) mso (by decide +kernel) (pa_cons (pv 4) pa_nil)) pa_nil)) pa_nil))))))), ?_⟩
  have line : ∀ k, k ≤ 1000 → k ≤ sizeLine := fun k hk => small hk
  refine ⟨_, rfl, line 7 (by decide), fun F1 n1 => ?_⟩
  have s1 := same_new n1 (.lst [.int 1, .int 2, .int 2, .int 3, .int 3, .int 4, .int 5])
  refine ⟨p, F1, _, rfl, hW.same s1, upd_same, hW.ne n1, by simp, by simp, fun i v H1 hi b1 w1 => ?_⟩
  obtain ⟨l, rfl, l1, l5⟩ := one_five hi
  refine ⟨_, rfl, line 7 (by decide), fun F2 n2 => ?_⟩
  have s2 := same_new n2 (.lst [.int 1, .int 2, .int 2, .int 3, .int 3, .int 4, .int 5])
  refine ⟨p, F2, _, rfl, w1.same s2, upd_same, w1.ne n2, by simp, by simp, fun i2 v2 H2 hi2 b2 w2 => ?_⟩
  obtain ⟨r, rfl, r1, r5⟩ := one_five hi2
  have b02 := (But.of s1).trans (b1.trans ((But.of s2).trans b2))
  refine ⟨line 0 (by decide), fun D nD => ⟨_, _, _, rfl, ?_⟩⟩
  have sD := same_new nD (.lst [])
  have hD := upd_same (H := H2) (a := D) (o := .lst [])
  have Dp := w2.ne nD
  have nD2 : H2 D = none := nD
  have w3 := w2.same sD
  have b3 := But.of (p := p) sD
  clear s1 s2 hi hi2
  generalize upd H2 D (.lst []) = H3 at sD hD w3 b3 ⊢
  refine ⟨_, rfl, _, rfl, _, _, rfl, rfl, p, _, rfl, w3, by omega, by omega, fun n H4 n0 n1 b4 w4 => ?_⟩
  have hD4 := b4 _ _ Dp hD
  have b24 := b3.trans b4
  refine ⟨n, rfl, by omega, by omega, for_range (lo := 0) (n := n.toNat) (fun i σ H' => ∃ (zs : List V) (ps : List E2) (s5 s6 : Option V), σ = [some (.ref p), some (.int (most : Int)), some (.int (l : Int)), some (.int (r : Int)), some (.ref D), s5, s6] ∧ But p H2 H' ∧ Wl H' p ∧ H' D = some (.lst zs) ∧ PairsT H' zs ps ∧ ps.length = i ∧ ∀ q ∈ ps, q.1 < l ∧ q.2 < r) ⟨[], [], none, none, rfl, b24, w4, hD4, .nil, rfl, fun _ z => nomatch z⟩ ?_ ?_⟩
  · rintro i σ H5 li ⟨zs, ps, s5, s6, rfl, b5, w5, hD5, hz, lp, lt⟩
    have lz := PairsT.len hz
    have i9 : i ≤ 10 := by omega
    refine' joinS (i := 6) (R := fun v H' => ∃ b : Bool, v = .bl b ∧ But p H5 H' ∧ Wl H' p ∧ (b = true → 0 < ps.length)) (fun go => ?_) ?_
    rotate_left 2
    · refine ⟨_, rfl, line 0 (by decide), fun Z nZ => ?_⟩
      have sZ := same_new nZ (.lst [])
      have hZ := upd_same (H := H5) (a := Z) (o := .lst [])
      generalize upd H5 Z (.lst []) = H6 at sZ hZ ⊢
      have hz6 := hz.same sZ
      refine ⟨.list (ps.map pairD), .list [], .lst (SqL.of (sZ _ _ hD5)) hz6.at.dp, .lst (SqL.of hZ) .nil, pairs_shapedL ps, pairs_shapedL [], _, rfl, ?_⟩
      refine iteB (fun c => ?_) (fun c => go _ _ ⟨false, rfl, But.of sZ, w5.same sZ, fun z => by cases z⟩)
      have l0 : 0 < ps.length := by
        cases ps with
        | nil => simp [PyData.eqv, PyData.eqvAll] at c
        | cons a r => simp
      refine ⟨_, rfl, p, 6, rfl, w5.same sZ, by decide, by decide, fun d H7 _ _ b7 w7 => ?_⟩
      exact ⟨rfl, go _ _ ⟨_, rfl, (But.of sZ).trans b7, w7, fun _ => l0⟩⟩
    rintro _ H6 ⟨b, rfl, b6, w6, hb⟩
    have hD6 := b6 _ _ Dp hD5
    have hz6 := hz.but b6 w5
    refine ⟨_, rfl, .inl ⟨rfl, _, SqL.of hD6⟩, _, rfl, _, rfl, iteB (fun c => ?_) (fun _ => ?_)⟩
    · have l0 := hb c
      refine ⟨_, rfl, _, rfl, p, D, zs, rfl, w6, hD6, Dp, by omega, by omega, fun j v H7 hj b7 w7 => ?_⟩
      have hD7 := b7 _ _ Dp hD6
      have hz7 := hz6.but b7 w6
      refine ⟨D, zs, _, rfl, rfl, hD7, small1000 (by omega), ?_⟩
      have m := hz7.mem v (List.mem_of_getElem? hj)
      have mp : gOf H7 v ∈ ps := by
        rw [← map_gOf hz7]
        exact List.mem_map.mpr ⟨v, List.mem_of_getElem? hj, rfl⟩
      refine ⟨zs ++ [v], ps ++ [gOf H7 v], _, _, rfl, but_put (b5.trans (b6.trans b7)) nD2, w7.put Dp, upd_same, (hz7.append (.cons m .nil)).put hD7, by rw [List.length_append]; show ps.length + 1 = i + 1; omega, fun q hq => ?_⟩
      rcases List.mem_append.mp hq with hq | hq
      · exact lt q hq
      · rw [List.mem_singleton.mp hq]; exact lt _ mp
    · refine ⟨_, rfl, _, rfl, p, _, rfl, w6, by omega, by omega, fun a H7 a0 a1 b7 w7 => ?_⟩
      refine ⟨_, rfl, _, rfl, p, _, rfl, w7, by omega, by omega, fun c H8 c0 c1 b8 w8 => ?_⟩
      obtain ⟨a, rfl⟩ : ∃ k : Nat, a = (k : Int) := ⟨a.toNat, by omega⟩
      obtain ⟨c, rfl⟩ : ∃ k : Nat, c = (k : Int) := ⟨c.toNat, by omega⟩
      refine ⟨line 2 (by decide), fun u nu => ?_⟩
      have su := same_new nu (.tup [.int (a : Int), .int (c : Int)])
      have hD8 := b8 _ _ Dp (b7 _ _ Dp hD6)
      have hz8 := (hz6.but b7 w6).but b8 w7
      refine ⟨D, zs, _, rfl, rfl, su _ _ hD8, small1000 (by omega), ?_⟩
      have hp := push_pairT (a, c) hD8 nu hz8
      refine ⟨zs ++ [.ref u], ps ++ [(a, c)], _, _, rfl, but_put (b5.trans (b6.trans (b7.trans (b8.trans (But.of su))))) nD2, (w8.same su).put Dp, upd_same, hp, by rw [List.length_append]; show ps.length + 1 = i + 1; omega, fun q hq => ?_⟩
      rcases List.mem_append.mp hq with hq | hq
      · exact lt q hq
      · rw [List.mem_singleton.mp hq]; exact ⟨by show a < l; omega, by show c < r; omega⟩
  · rintro σ H5 ⟨zs, ps, s5, s6, rfl, b5, w5, hD5, hz, lp, lt⟩
    refine ⟨_, rfl, _, rfl, _, rfl, D, zs, kOf H5, rfl, SqL.of hD5, hz.ks, fun ys S so st nS => ?_⟩
    have sS := same_new nS (.lst ys)
    have hS := upd_same (H := H5) (a := S) (o := .lst ys)
    obtain ⟨g1, g2, g3⟩ := sorted_pairsD hz so st
    generalize hg : ys.map (gOf H5) = qs at g1 g2 g3
    generalize upd H5 S (.lst ys) = H6 at sS hS ⊢
    refine ⟨S, _, rfl, .inl ⟨SqL.of hS, fun e ne => ?_⟩⟩
    have se := same_new ne (.tup ys)
    have he := upd_same (H := H6) (a := e) (o := .tup ys)
    generalize upd H6 e (.tup ys) = H7 at se he ⊢
    refine ⟨line 3 (by decide), fun t nt => ?_⟩
    have st := same_new nt (.tup [.int (l : Int), .int (r : Int), .ref e])
    have s57 := sS.trans (se.trans st)
    refine q (.ref t) l r qs _ (b02.trans (b5.trans (But.of s57))) (w5.same s57) ⟨t, e, ys, rfl, upd_same, st _ _ he, g1.same s57⟩ ⟨by omega, by omega, fun q hq => lt q (g3.mem_iff.mp hq), g2⟩ l1 r1 ?_
    rw [g3.length_eq, lp]
    omega
end
end My

set_option maxHeartbeats 8000000
namespace My
open PySem PySem.Spec PyProof.Rows L2
abbrev sNear : Stmt := top 47
theorem scNear : FnScope ["multi", "one", "two"] ["multi", "one", "two"] (defScope sNear) := ⟨rfl, rfl, rfl, by decide +kernel, rfl, by decide +kernel, by decide +kernel⟩
def spAt (K : PySem.W.Frag) : Sp := fun vs H Q _ => ∃ (x : V) (l r : Nat) (es : List E2) (i v : Nat), vs = [x, .int (i : Int), .int (v : Int)] ∧ MulAt K H x l r es ∧ es.length ≤ 10 ∧ i ≤ 1 ∧ ∀ (t : Addr) H', Same H H' → H' t = some (.tup (numsN (atL es i v))) → Q (.ref t) H'
def spNear (K : PySem.W.Frag) : Sp := fun vs H Q _ => ∃ (x : V) (l r : Nat) (es : List E2) (u v : Nat), vs = [x, .int (u : Int), .int (v : Int)] ∧ MulAt K H x l r es ∧ u < es.length ∧ v < es.length ∧ Q (.bl (decide (u ≠ v) && meetB es u v)) H
def spDeg (K : PySem.W.Frag) : Sp := fun vs H Q _ => ∃ (x : V) (l r : Nat) (es : List E2), vs = [x] ∧ MulAt K H x l r es ∧ MulG l r es ∧ es.length ≤ 10 ∧ ∀ (m : Nat) H', Same H H' → IsMax (degL l r es) m → Q (.int (m : Int)) H'
def spLine (K : PySem.W.Frag) : Sp := fun vs H Q _ => ∃ (x : V) (l r : Nat) (es : List E2), vs = [x] ∧ MulAt K H x l r es ∧ es.length ≤ 9 ∧ ∀ (y : V) H', Same H H' → GraphAt K H' y es.length (lineP es) → Q y H'
theorem pairV_at {K : PySem.W.Frag} {i : Nat} (h : i ≤ 1) (p : E2) : atI [V.int (p.1 : Int), V.int (p.2 : Int)] ((i : Nat) : Int) = some (.int ((sd i p : Nat) : Int)) := by
  rcases (show i = 0 ∨ i = 1 by omega) with rfl | rfl
  · rfl
  · rfl
theorem mul_at {K : PySem.W.Frag} {H : Hp} {x : V} {l r : Nat} {es : List E2} (h : MulAt K H x l r es) : ∃ (t e : Addr) (xs : List V), x = .ref t ∧ SqT K H t [.int (l : Int), .int (r : Int), .ref e] ∧ SqT K H e xs ∧ xs.length = es.length ∧ ∀ k, k < es.length → ∃ u, xs[k]? = some (.ref u) ∧ SqT K H u [.int ((eAt es k).1 : Int), .int ((eAt es k).2 : Int)] := by
  obtain ⟨t, e, xs, rfl, h2, h3, h4⟩ := h
  have le := PairsAt.len h4
  refine ⟨t, e, xs, rfl, h2, h3, le, fun k hk => ?_⟩
  obtain ⟨p, hp, u, hu, su⟩ := PairsAt.get h4 (List.getElem?_eq_getElem (by omega : k < xs.length))
  rw [eAt_get hk] at hp
  cases hp
  exact ⟨u, by rw [List.getElem?_eq_getElem (by omega : k < xs.length), hu], su⟩
theorem dec_nat (a b : Nat) : decide (V.int (a : Int) = V.int (b : Int)) = (a == b) := by
  by_cases h : a = b
  · subst h; simp
  · rw [decide_eq_false (fun z => h (by injection z with z; exact Int.ofNat.inj z))]
    exact (beq_eq_false_iff_ne.mpr h).symm
theorem len_vec (a b c : V) : atI [a, b, c] 2 = some c := atI_nat (j := 2) rfl
section
variable {P : Program} {w : World} {K : PySem.W.Frag} {mg : Str → Option Value} {base : Heap} {f fA fN fW : Addr} {fd dA dN dW : FuncData}
theorem ok_near (F : L2.Fun K "_law_near" "_law_near" sNear f fd) : FnOk P w K mg base CX0 1 f fd ["multi", "one", "two"] (spNear K) := by
  refine F.ok scNear (fun vs H Q E h => ?_) (fun cdv A outer s H vs Q E hr h => ?_)
  · obtain ⟨x, l, r, es, u, v, rfl, _⟩ := h
    rfl
  obtain ⟨x, l, r, es, u, v, rfl, hx, hu, hv, q⟩ := h
  refine ⟨_, pss_one (ps_ret (pe_and (pe_cmpR op_ne (pv 1) (pv 2) (nomark _)) (pe_one (pe_or (pe_cmpR op_eq (pe_ix (r := rIxT K) ix_tup (pe_ix (r := rIxT K) ix_tup (pe_ix (r := rIxT K) ix_tup (pv 0) pe_int (fun _ _ => rfl)) (pv 1) (fun _ _ => rfl)) pe_int (fun _ _ => rfl)) (pe_ix (r := rIxT K) ix_tup (pe_ix (r := rIxT K) ix_tup (pe_ix (r := rIxT K) ix_tup (pv 0) pe_int (fun _ _ => rfl)) (pv 2) (fun _ _ => rfl)) pe_int (fun _ _ => rfl)) (nomark _))
      (pe_one (pe_cmpR op_eq (pe_ix (r := rIxT K) ix_tup (pe_ix (r := rIxT K) ix_tup (pe_ix (r := rIxT K) ix_tup (pv 0) pe_int (fun _ _ => rfl)) (pv 1) (fun _ _ => rfl)) pe_int (fun _ _ => rfl)) (pe_ix (r := rIxT K) ix_tup (pe_ix (r := rIxT K) ix_tup (pe_ix (r := rIxT K) ix_tup (pv 0) pe_int (fun _ _ => rfl)) (pv 2) (fun _ _ => rfl)) pe_int (fun _ _ => rfl)) (nomark _))))))), ?_⟩
  obtain ⟨t, e, xs, rfl, ht, he, le, get⟩ := mul_at hx
  obtain ⟨a, ha, sa⟩ := get u hu
  obtain ⟨b, hb, sb⟩ := get v hv
  refine ⟨_, rfl, _, rfl, rfl, _, rfl, ?_⟩
  rw [dec_nat]
  refine iteB (fun c => ?_) (fun c => ?_)
  · have ne : u ≠ v := fun z => by subst z; simp at c
    rw [decide_eq_true ne, Bool.true_and] at q
    refine ⟨_, rfl, t, _, 2, _, rfl, rfl, ht, len_vec _ _ _, _, rfl, e, xs, _, _, rfl, rfl, he, atI_nat ha, a, _, 0, _, rfl, rfl, sa, atI_nat (j := 0) rfl, _, rfl, t, _, 2, _, rfl, rfl, ht, len_vec _ _ _, _, rfl, e, xs, _, _, rfl, rfl, he, atI_nat hb, b, _, 0, _, rfl, rfl, sb, atI_nat (j := 0) rfl, rfl, _, rfl, ?_⟩
    rw [dec_nat]
    unfold meetB at q
    refine iteB (fun c1 => ?_) (fun c1 => ?_)
    · rw [c1, Bool.true_or] at q
      exact q
    · rw [c1, Bool.false_or] at q
      refine ⟨_, rfl, t, _, 2, _, rfl, rfl, ht, len_vec _ _ _, _, rfl, e, xs, _, _, rfl, rfl, he, atI_nat ha, a, _, 1, _, rfl, rfl, sa, atI_nat (j := 1) rfl, _, rfl, t, _, 2, _, rfl, rfl, ht, len_vec _ _ _, _, rfl, e, xs, _, _, rfl, rfl, he, atI_nat hb, b, _, 1, _, rfl, rfl, sb, atI_nat (j := 1) rfl, rfl, ?_⟩
      rw [dec_nat]
      exact q
  · have e : u = v := by
      by_cases z : u = v
      · exact z
      · rw [beq_eq_false_iff_ne.mpr z] at c
        cases c
    rw [decide_eq_false (fun z => z e), Bool.false_and] at q
    exact q
end
end My

set_option maxHeartbeats 4000000
namespace My
open PySem PySem.Spec PyProof.Rows L2
theorem le_pairs (a b c d : Int) : Ob.lexAt (fun j => decide (([a, b] : List Int).getD j 0 = ([c, d] : List Int).getD j 0)) (fun j => decide (([a, b] : List Int).getD j 0 ≤ ([c, d] : List Int).getD j 0)) (decide (([a, b] : List Int).length ≤ ([c, d] : List Int).length)) 0 (min ([a, b] : List Int).length ([c, d] : List Int).length) = leS (.tup [.int a, .int b]) (.tup [.int c, .int d]) := by
  show Ob.lexAt _ _ (decide ((2 : Nat) ≤ 2)) 0 2 = (if a = c then (if b = d then true else decide (b ≤ d)) else decide (a ≤ c))
  simp only [Ob.lexAt]
  by_cases h : a = c
  · subst h
    by_cases h2 : b = d
    · subst h2
      simp
    · simp [h2]
  · simp [h]
theorem two_of {l r : Int} {s : Sh} (h : edgeM l r s = true) : ∃ a b : Int, s = .tup [.int a, .int b] := by
  obtain ⟨p, e, _⟩ := edgeM_pair h
  exact ⟨_, _, e⟩
theorem nev_zip : ∀ ss : List Sh, (List.zipWith leS ss (ss.drop 1)).all id = nevB ss
  | [] => rfl
  | [s] => rfl
  | s :: t :: r => by
    have ih := nev_zip (t :: r)
    show (leS s t && (List.zipWith leS (t :: r) ((t :: r).drop 1)).all id) = (leS s t && nevB (t :: r))
    rw [ih]
theorem isMul_no {a b c : Sh} (h : wholeR 0 9 a = false ∨ wholeR 0 9 b = false ∨ isTup c = false) : isMul (.tup [a, b, c]) = false := by
  cases c with
  | tup es =>
    show ((wholeR 0 9 a && wholeR 0 9 b) && _) = false
    rcases h with h | h | h
    · rw [h]; rfl
    · rw [h, Bool.and_false]; rfl
    · cases h
  | _ => rfl
theorem edgeM_no {l r : Int} {a b : Sh} (h : wholeR 0 (l - 1) a = false ∨ wholeR 0 (r - 1) b = false) : edgeM l r (.tup [a, b]) = false := by
  show (wholeR 0 (l - 1) a && wholeR 0 (r - 1) b) = false
  rcases h with h | h
  · rw [h]; rfl
  · rw [h, Bool.and_false]
theorem wholeR_lt (n i : Int) : wholeR 0 (n - 1) (.int i) = (decide (0 ≤ i) && decide (i < n)) := by
  show (decide (i ≥ 0) && decide (i ≤ n - 1)) = _
  congr 1
  exact decide_eq_decide.mpr (by omega)
/-- [f(xs[k], xs[k + 1]) for k ..] -/
theorem zip_take {f : Sh → Sh → Bool} {ss : List Sh} {k : Nat} {a b : Sh} (ha : ss[k]? = some a) (hb : ss[k + 1]? = some b) : (List.zipWith f ss (ss.drop 1))[k]? = some (f a b) := by
  rw [List.getElem?_zipWith, ha, List.getElem?_drop, Nat.add_comm, hb]
theorem lineP_eq (es : List E2) : lineP es = (List.range es.length).flatMap fun u => (rowP es.length u).filter fun p => meetB es p.1 p.2 := List.filter_flatMap
end My

set_option maxHeartbeats 8000000
namespace My
open PySem PySem.Spec PyProof.Rows L2 RZ
abbrev sPIsMul : Stmt := top 24
abbrev sPEdge : Stmt := top 25
abbrev sPNev : Stmt := top 26
abbrev sPCheck : Stmt := top 27
theorem scPIsMul : FnScope ["value", "left", "right", "edges", "edge"] ["value"] (defScope sPIsMul) := ⟨rfl, rfl, rfl, by decide +kernel, rfl, by decide +kernel, by decide +kernel⟩
theorem scPEdge : FnScope ["value", "left", "right"] ["value", "left", "right"] (defScope sPEdge) := ⟨rfl, rfl, rfl, by decide +kernel, rfl, by decide +kernel, by decide +kernel⟩
theorem scPNev : FnScope ["edges", "edge", "following"] ["edges"] (defScope sPNev) := ⟨rfl, rfl, rfl, by decide +kernel, rfl, by decide +kernel, by decide +kernel⟩
theorem scPCheck : FnScope ["multigraph"] ["multigraph"] (defScope sPCheck) := ⟨rfl, rfl, rfl, by decide +kernel, rfl, by decide +kernel, by decide +kernel⟩
def spPEdge (K : PySem.W.Frag) : Sp := fun vs H Q _ => ∃ (v : V) (s : Sh) (l r : Int), vs = [v, .int l, .int r] ∧ ShAt K H v s ∧ Q (.bl (edgeM l r s)) H
def spPNev (K : PySem.W.Frag) : Sp := fun vs H Q _ => ∃ (e : Addr) (xs : List V) (ss : List Sh), vs = [.ref e] ∧ SqT K H e xs ∧ ShsAt K H xs ss ∧ (∀ s ∈ ss, ∃ i j, s = .tup [.int i, .int j]) ∧ ss.length ≤ 900 ∧ ∀ H', Same H H' → Q (.bl (nevB ss)) H'
def spPCheck (K : PySem.W.Frag) : Sp := fun vs H Q _ => ∃ (x : V) (l r : Nat) (es : List E2), vs = [x] ∧ MulAt K H x l r es ∧ MulG l r es ∧ es.length ≤ 9 ∧ ∀ H', Same H H' → Q .non H'
section
variable {P : Program} {w : World} {K : PySem.W.Frag} {mg : Str → Option Value} {base : Heap} {f fI fW fE fN fM : Addr} {fd dI dW dE dN dM : FuncData}
theorem ok_pedge (F : L2.Fun K "_is_edge" "_is_edge" sPEdge f fd) (GI : FnOk P w K mg base CX0 1 fI dI ["value"] (spIsTwoA K)) (bI : L2.Binds K dI ["value"] []) (kI : PySem.W.keepIn K (.ref fI) = true) (mI : mg "is_tuple_of_two" = some (.ref fI))
    (GW : FnOk P w K mg base CX0 2 fW dW ["value", "low", "high"] (spIsWholeA K)) (bW : L2.Binds K dW ["value", "low", "high"] []) (kW : PySem.W.keepIn K (.ref fW) = true) (mW : mg "is_whole" = some (.ref fW)) : FnOk P w K mg base CX0 3 f fd ["value", "left", "right"] (spPEdge K) := by
  refine F.ok scPEdge (fun vs H Q E h => ?_) (fun cdv A outer s0 H vs Q E hr h => ?_)
  · obtain ⟨v, s, l, r, rfl, _⟩ := h
    rfl
  obtain ⟨v, s, l, r, rfl, hv, q⟩ := h
  refine ⟨_, pss_one (ps_ret (pe_and (pe_call GI (hr.mono (by decide)) (by rfl) mI kI bI .nil pass0 (pa_cons (pv 0) pa_nil)) (pe_and (pe_call GW hr (by rfl) mW kW bW .nil pass0 (pa_cons (pe_ix (r := rIxT K) ix_tup (pv 0) pe_int (fun _ _ => rfl)) (pa_cons pe_int (pa_cons (pe_op op_sub (pv 1) pe_int) pa_nil))))
    (pe_one (pe_call GW hr (by rfl) mW kW bW .nil pass0 (pa_cons (pe_ix (r := rIxT K) ix_tup (pv 0) pe_int (fun _ _ => rfl)) (pa_cons pe_int (pa_cons (pe_op op_sub (pv 2) pe_int) pa_nil)))))))), ?_⟩
  refine ⟨_, rfl, v, s, rfl, hv, _, rfl, iteB (fun c => ?_) (fun c => ?_)⟩
  · obtain ⟨a, b, rfl⟩ : ∃ a b, s = .tup [a, b] := by
      unfold isTwo at c
      split at c
      · exact ⟨_, _, rfl⟩
      · cases c
    cases hv with
    | @tup t xs _ h r =>
    cases r with
    | @cons x1 _ _ _ ha r =>
    cases r with
    | @cons x2 _ _ _ hb r =>
    cases r
    have e : edgeM l r (.tup [a, b]) = (wholeR 0 (l - 1) a && wholeR 0 (r - 1) b) := rfl
    rw [e] at q
    refine ⟨_, rfl, t, _, 0, _, rfl, rfl, h, rfl, _, rfl, _, _, rfl, rfl, x1, a, 0, l - 1, rfl, ha, _, rfl, iteB (fun c1 => ?_) (fun c1 => ?_)⟩
    · refine ⟨_, rfl, t, _, 1, _, rfl, rfl, h, rfl, _, rfl, _, _, rfl, rfl, x2, b, 0, r - 1, rfl, hb, ?_⟩
      rw [c1, Bool.true_and] at q
      exact q
    · rw [c1, Bool.false_and] at q
      exact q
  · have e : edgeM l r s = false := by
      unfold edgeM
      split
      · cases c
      · rfl
    rw [e] at q
    exact q
theorem ok_pnev (F : L2.Fun K "_is_never_falling" "_is_never_falling" sPNev f fd) (ma : mg "all" = none) (mz : mg "zip" = none) : FnOk P w K mg base CX0 1 f fd ["edges"] (spPNev K) := by
  refine F.ok scPNev (fun vs H Q E h => ?_) (fun cdv A outer s H vs Q E hr h => ?_)
  · obtain ⟨e, xs, ss, rfl, _⟩ := h
    rfl
  obtain ⟨e, xs, ss, rfl, he, hs, cmp, few, q⟩ := h
  refine ⟨_, pss_one (ps_ret (pe_callB (cr_all rfl) (by rfl) ma (by decide +kernel) (pa_cons (pe_lc (own := [("edge", 1), ("following", 2)]) (g := gTup K 2 (gCons (gName 1) (gCons (gName 2) gNil))) (tt := tYes) rfl scPNev.nd (pi_zipA (by rfl) mz (pa_cons (pv 0) (pa_cons (pe_slice sl_tupA (pv 0) (po_some pe_int) po_none) pa_nil)))
        (blkOk_by (N := ["edges", "edge", "following"]) (sc := defScope sPNev) (by decide +kernel)) (fun _ _ _ _ _ => pg_tup (by rfl) (pgs_cons (pg_name (i := 1) scPNev.nd rfl (Or.inl rfl)) (pgs_cons (pg_name (i := 2) scPNev.nd rfl (Or.inl rfl)) pgs_nil))) (fun _ _ _ _ _ => pts_nil)
        (fun _ _ _ _ _ => pe_cmpR (r := rLeT K) (op_leT hr.units0) (pv 1) (pv 2) (nomark _))) pa_nil))), ?_⟩
  have lxs := hs.len
  have lz : (List.zipWith leS ss (ss.drop 1)).length = ss.length - 1 := by rw [List.length_zipWith, List.length_drop]; omega
  cases xs with
  | nil =>
    cases hs
    refine ⟨_, rfl, _, rfl, 1, rfl, e, [], rfl, he, fun _ => ?_, fun z => absurd ⟨rfl, rfl⟩ z⟩
    refine ⟨e, e, [], [], rfl, .inr ⟨he, he, fun B nB => lc_it (walk_zipT (n := 0) rfl) (fun i H3 => i = 0 ∧ Same H H3 ∧ H3 B = some (.lst [])) ⟨rfl, same_new nB _, upd_same⟩ (fun i H3 _ ⟨_, s3, _⟩ => ⟨Same.tup s3 he, Same.tup s3 he⟩) (fun _ _ _ _ l => absurd l (by omega)) ?_⟩⟩
    rintro H3 ⟨_, s3, hB⟩
    exact ⟨B, [], rfl, SqL.of hB, q H3 s3⟩
  | cons x0 xs =>
    have hs3 : ShsAt K H xs (ss.drop 1) := by cases hs; assumption
    have cut : cutV (x0 :: xs) (some 1) none = xs := by
      unfold cutV
      rw [HT.sIx_none, show ((1 : Int)) = ((1 : Nat) : Int) from rfl, HT.sIx_nat, List.length_cons, show min 1 (xs.length + 1) = 1 by omega, List.drop_one, List.tail_cons, Nat.add_sub_cancel, List.take_length]
    refine ⟨_, rfl, _, rfl, 1, rfl, e, x0 :: xs, rfl, he, fun z => ?_, fun _ c nc => ?_⟩
    · exfalso
      have z1 := z.1
      rw [show ((1 : Int)) = ((1 : Nat) : Int) from rfl, HT.sIx_nat, List.length_cons] at z1
      omega
    rw [cut]
    have s3 := same_new nc (.tup xs)
    have l1 : xs.length + 1 = ss.length := by rw [← lxs, List.length_cons]
    refine ⟨e, c, x0 :: xs, xs, rfl, .inr ⟨Same.tup s3 he, SqT.of upd_same, fun B nB => lc_it (walk_zipT (n := xs.length) (by rw [List.length_cons]; omega)) (fun i H3 => Same (upd H c (.tup xs)) H3 ∧ H3 B = some (.lst (((List.zipWith leS ss (ss.drop 1)).take i).map V.bl))) ⟨same_new nB _, upd_same⟩ (fun i H3 _ ⟨s4, _⟩ => ⟨Same.tup (s3.trans s4) he, Same.tup s4 (SqT.of upd_same)⟩) ?_ ?_⟩⟩
    · rintro i x H3 H4 li ⟨s4, hB⟩ ⟨T, y, z, e1, nT, e2, hy, hz⟩
      subst e1
      subst e2
      have s5 := same_new nT (.tup [y, z])
      have sA := s3.trans (s4.trans s5)
      obtain ⟨a, ha, sa⟩ := (hs.same sA).get hy
      obtain ⟨b, hb, sb⟩ := (hs3.same sA).get hz
      have hz' : (List.zipWith leS ss (ss.drop 1))[i]? = some (leS a b) := by rw [List.getElem?_zipWith, ha, hb]
      have fin : Same (upd H c (.tup xs)) (upd (upd H3 T (.tup [y, z])) B (.lst (((List.zipWith leS ss (ss.drop 1)).take i).map V.bl ++ [V.bl (leS a b)]))) ∧ upd (upd H3 T (.tup [y, z])) B (.lst (((List.zipWith leS ss (ss.drop 1)).take i).map V.bl ++ [V.bl (leS a b)])) B = some (.lst (((List.zipWith leS ss (ss.drop 1)).take (i + 1)).map V.bl)) := by
        refine ⟨same_put (s4.trans s5) nB, ?_⟩
        rw [upd_same, take_succ hz', List.map_append]
        rfl
      have ln : (((List.zipWith leS ss (ss.drop 1)).take i).map V.bl).length < sizeLine := small1000 (by rw [List.length_map, List.length_take]; omega)
      have hB5 := s5 _ _ hB
      refine ⟨T, _, rfl, SqT.of upd_same, rfl, _, _, rfl, _, _, rfl, rfl, rfl, ?_⟩
      refine ⟨_, rfl, _, rfl, ?_⟩
      obtain ⟨k, k2, rfl⟩ := cmp a (List.mem_of_getElem? ha)
      obtain ⟨l, l2, rfl⟩ := cmp b (List.mem_of_mem_drop (List.mem_of_getElem? hb))
      cases sa with
      | @tup t1 ys1 _ h1 r1 =>
        cases sb with
        | @tup t2 ys2 _ h2 r2 =>
          cases r1 with
          | cons p1 r1 =>
            cases r1 with
            | cons p2 r1 =>
              cases r1
              cases p1
              cases p2
              cases r2 with
              | cons p3 r2 =>
                cases r2 with
                | cons p4 r2 =>
                  cases r2
                  cases p3
                  cases p4
                  rw [← le_pairs] at fin
                  exact ⟨t1, t2, [k, k2], [l, l2], rfl, rfl, h1, h2, _, hB5, ln, fin⟩
    · rintro H3 ⟨s4, hB⟩
      refine ⟨B, _, rfl, SqL.of hB, ?_⟩
      rw [List.take_of_length_le (by omega), nev_zip]
      exact q H3 (s3.trans s4)
end
end My

set_option maxHeartbeats 8000000
namespace My
open PySem PySem.Spec PyProof.Rows L2 RZ
abbrev sPLine : Stmt := top 28
abbrev sPMeet : Stmt := top 29
theorem scPLine : FnScope ["multigraph", "edges", "many", "pairs", "one", "other"] ["multigraph"] (defScope sPLine) := ⟨rfl, rfl, rfl, by decide +kernel, rfl, by decide +kernel, by decide +kernel⟩
theorem scPMeet : FnScope ["edge", "other"] ["edge", "other"] (defScope sPMeet) := ⟨rfl, rfl, rfl, by decide +kernel, rfl, by decide +kernel, by decide +kernel⟩
/-- lists of numbers -/
inductive RowsN (H : Hp) : List V → List (List Nat) → Prop
  | nil : RowsN H [] []
  | cons {r : Addr} {l : List Nat} {xs : List V} {ls : List (List Nat)} (h : H r = some (.lst (numsN l))) (t : RowsN H xs ls) : RowsN H (.ref r :: xs) (l :: ls)
theorem RowsN.same {H H' : Hp} (s : Same H H') : ∀ {xs : List V} {ls : List (List Nat)}, RowsN H xs ls → RowsN H' xs ls
  | _, _, .nil => .nil
  | _, _, .cons h t => .cons (s _ _ h) (RowsN.same s t)
theorem RowsN.app {H : Hp} : ∀ {xs ys : List V} {ls ms : List (List Nat)}, RowsN H xs ls → RowsN H ys ms → RowsN H (xs ++ ys) (ls ++ ms)
  | _, _, _, _, .nil, h => h
  | _, _, _, _, .cons a t, h => .cons a (RowsN.app t h)
theorem RowsN.len {H : Hp} : ∀ {xs : List V} {ls : List (List Nat)}, RowsN H xs ls → xs.length = ls.length
  | _, _, .nil => rfl
  | _, _, .cons _ t => congrArg (· + 1) (RowsN.len t)
theorem RowsN.get {H : Hp} : ∀ {xs : List V} {ls : List (List Nat)}, RowsN H xs ls → ∀ {i : Nat} {x : V}, xs[i]? = some x → ∃ r l, x = .ref r ∧ ls[i]? = some l ∧ H r = some (.lst (numsN l))
  | _, _, .nil, i, x, e => by simp at e
  | _, _, .cons h t, 0, x, e => by simp at e; subst e; exact ⟨_, _, rfl, rfl, h⟩
  | _, _, .cons h t, i + 1, x, e => by
    obtain ⟨r, l, h1, h2, h3⟩ := RowsN.get t (i := i) (x := x) (by simpa using e)
    exact ⟨r, l, h1, by simpa using h2, h3⟩
theorem RowsN.put {H : Hp} {D : Addr} {o : HO} {zs : List V} {ls : List (List Nat)} (h : RowsN (hide D H) zs ls) : RowsN (upd H D o) zs ls := h.same fun q u e => by
  obtain ⟨n, e⟩ := hide_some e
  rw [upd_ne n]
  exact e
def spPIsMul (K : PySem.W.Frag) : Sp := fun vs H Q _ => ∃ (v : V) (s : Sh), vs = [v] ∧ ShAt K H v s ∧ ∀ H', Same H H' → Q (.bl (isMul s)) H'
def spPEAt (K : PySem.W.Frag) : Sp := fun vs H Q _ => ∃ (x : V) (l r : Nat) (es : List E2) (i : Nat), vs = [x, .int (i : Int)] ∧ MulAt K H x l r es ∧ MulG l r es ∧ es.length ≤ 9 ∧ i ≤ 1 ∧ ∀ (F : Addr) (rs : List V) H', Same H H' → H' F = some (.lst rs) → RowsN H' rs ((List.range (if i = 0 then l else r)).map (atL es i)) → Q (.ref F) H'
def spPSide (K : PySem.W.Frag) (i : Nat) : Sp := fun vs H Q _ => ∃ (x : V) (l r : Nat) (es : List E2), vs = [x] ∧ MulAt K H x l r es ∧ MulG l r es ∧ es.length ≤ 9 ∧ ∀ (F : Addr) (rs : List V) H', Same H H' → H' F = some (.lst rs) → RowsN H' rs ((List.range (if i = 0 then l else r)).map (atL es i)) → Q (.ref F) H'
def spPDeg (K : PySem.W.Frag) : Sp := fun vs H Q _ => ∃ (x : V) (l r : Nat) (es : List E2), vs = [x] ∧ MulAt K H x l r es ∧ MulG l r es ∧ es.length ≤ 9 ∧ ∀ (m : Nat) H', Same H H' → IsMax (degL l r es) m → Q (.int (m : Int)) H'
def spPLine (K : PySem.W.Frag) : Sp := fun vs H Q _ => ∃ (x : V) (l r : Nat) (es : List E2), vs = [x] ∧ MulAt K H x l r es ∧ MulG l r es ∧ es.length ≤ 9 ∧ ∀ (y : V) H', Same H H' → GraphAt K H' y es.length (lineP es) → Q y H'
def spPMeet (K : PySem.W.Frag) : Sp := fun vs H Q _ => ∃ (a b : Addr) (p q : E2), vs = [.ref a, .ref b] ∧ SqT K H a [.int (p.1 : Int), .int (p.2 : Int)] ∧ SqT K H b [.int (q.1 : Int), .int (q.2 : Int)] ∧ Q (.bl (p.1 == q.1 || p.2 == q.2)) H
theorem enum_at (es : List E2) (i v j : Nat) (h : j < es.length) : ((List.range (j + 1)).filter fun k => sd i (eAt es k) == v) = ((List.range j).filter fun k => sd i (eAt es k) == v) ++ (if (sd i (eAt es j) == v) = true then [j] else []) := by
  rw [List.range_succ, List.filter_append]
  congr 1
  by_cases c : (sd i (eAt es j) == v) = true
  · rw [if_pos c, List.filter_cons_of_pos (by exact c), List.filter_nil]
  · rw [if_neg c, List.filter_cons_of_neg (by exact c), List.filter_nil]
section
variable {P : Program} {w : World} {K : PySem.W.Frag} {mg : Str → Option Value} {base : Heap} {f fI fW fE fN fM fC fL fR : Addr} {fd dI dW dE dN dM dC dL dR : FuncData}
theorem ok_pismul (F : L2.Fun K "is_multigraph" "is_multigraph" sPIsMul f fd) (GW : FnOk P w K mg base CX0 2 fW dW ["value", "low", "high"] (spIsWholeA K)) (bW : L2.Binds K dW ["value", "low", "high"] []) (kW : PySem.W.keepIn K (.ref fW) = true) (mW : mg "is_whole" = some (.ref fW))
    (GE : FnOk P w K mg base CX0 3 fE dE ["value", "left", "right"] (spPEdge K)) (bE : L2.Binds K dE ["value", "left", "right"] []) (kE : PySem.W.keepIn K (.ref fE) = true) (mE : mg "_is_edge" = some (.ref fE))
    (GN : FnOk P w K mg base CX0 1 fN dN ["edges"] (spPNev K)) (bN : L2.Binds K dN ["edges"] []) (kN : PySem.W.keepIn K (.ref fN) = true) (mN : mg "_is_never_falling" = some (.ref fN))
    (tk : Tok) (mS : mg "MOST_ON_A_SIDE" = some (.int 9 tk)) (tk2 : Tok) (mX : mg "MOST_EDGES" = some (.int 9 tk2)) (mty : mg "type" = none) (mt : mg "tuple" = none) (ma : mg "all" = none) (ml : mg "len" = none) : FnOk P w K mg base CX0 4 f fd ["value"] (spPIsMul K) := by
  refine F.ok scPIsMul (fun vs H Q E h => ?_) (fun cdv A outer s0 H vs Q E hr h => ?_)
  · obtain ⟨v, s, rfl, _⟩ := h
    rfl
  obtain ⟨v, s, rfl, hv, q⟩ := h
  refine ⟨_, pss_cons (ps_if (PW.pt (pw_or (pt_cmpR op_isNotTy (pe_callTy call_type1 (by rfl) mty (by decide +kernel) (pa_cons (pv 0) pa_nil)) (pe_bltn (v := .ty "tuple") (by rfl) mt (by decide +kernel) rfl) (nomark _)) (pw_or1 (pt_cmpR op_ne (pe_callB call_len_seq (by rfl) ml PySem.boot_len (pa_cons (pv 0) pa_nil)) pe_int (nomark _))))) (pss_one (ps_ret pe_bl)) pss_nil)
    (pss_cons (ps_asg (pv 0) (pg_tup (by rfl) (pgs_cons (pg_name (i := 1) scPIsMul.nd rfl (.inr rfl)) (pgs_cons (pg_name (i := 2) scPIsMul.nd rfl (.inr rfl)) (pgs_cons (pg_name (i := 3) scPIsMul.nd rfl (.inl rfl)) pgs_nil)))))
    (pss_cons (ps_if (PW.pt (pw_or (pt_not (pt_val (pe_call GW (hr.mono (by decide)) (by rfl) mW kW bW .nil pass0 (pa_cons (pv 1) (pa_cons pe_int (pa_cons (pe_glob (v := .int 9) (by rfl) mS ⟨_, rfl⟩) pa_nil))))))
        (pw_or1 (pt_not (pt_val (pe_call GW (hr.mono (by decide)) (by rfl) mW kW bW .nil pass0 (pa_cons (pv 2) (pa_cons pe_int (pa_cons (pe_glob (v := .int 9) (by rfl) mS ⟨_, rfl⟩) pa_nil))))))))) (pss_one (ps_ret pe_bl)) pss_nil)
    (pss_cons (ps_if (PW.pt (pw_or (pt_cmpR op_isNotTy (pe_callTy call_type1 (by rfl) mty (by decide +kernel) (pa_cons (pv 3) pa_nil)) (pe_bltn (v := .ty "tuple") (by rfl) mt (by decide +kernel) rfl) (nomark _))
        (pw_or1 (pt_cmpR op_gt (pe_callB call_len_seq (by rfl) ml PySem.boot_len (pa_cons (pv 3) pa_nil)) (pe_glob (v := .int 9) (by rfl) mX ⟨_, rfl⟩) (nomark _))))) (pss_one (ps_ret pe_bl)) pss_nil)
    (pss_one (ps_ret (pe_and (pe_callB (cr_all rfl) (by rfl) ma (by decide +kernel) (pa_cons (pe_lc (own := [("edge", 4)]) (g := gName 4) (tt := tYes) rfl scPIsMul.nd (pi_tup (pv 3))
        (blkOk_by (N := ["value", "left", "right", "edges", "edge"]) (sc := defScope sPIsMul) (by decide +kernel)) (fun _ _ _ _ _ => pg_name (i := 4) scPIsMul.nd rfl (Or.inl rfl)) (fun _ _ _ _ _ => pts_nil)
        (fun _ _ _ _ _ => pe_call GE hr (by rfl) mE kE bE .nil pass0 (pa_cons (pv 4) (pa_cons (pv 1) (pa_cons (pv 2) pa_nil))))) pa_nil))
      (pe_one (pe_call GN (hr.mono (by decide)) (by rfl) mN kN bN .nil pass0 (pa_cons (pv 3) pa_nil))))))))), ?_⟩
  have q0 := q H (Same.refl H)
  have qf : isMul s = false → Q (.bl false) H := fun e => by
    rw [e] at q0
    exact q0
  obtain ⟨T, ty, ok⟩ := hv.ty
  refine ⟨_, rfl, v, T, rfl, ty, T, "tuple", rfl, rfl, _, rfl, ?_⟩
  refine iteB (fun c3 => iteT (qf ?_)) (fun c3 => ?_)
  · have nt : T ≠ "tuple" := by simpa using c3
    cases s with
    | tup es => exact absurd ok nt
    | _ => rfl
  have et : T = "tuple" := by simpa using c3
  obtain ⟨ss, rfl⟩ : ∃ ss, s = .tup ss := by
    cases s with
    | tup ss => exact ⟨ss, rfl⟩
    | int i => rw [show T = "int" from ok] at et; exact absurd et (by decide)
    | bool b => rw [show T = "bool" from ok] at et; exact absurd et (by decide)
    | str x => rw [show T = "str" from ok] at et; exact absurd et (by decide)
    | oth => exact absurd et ok.2.2.1
  cases hv with
  | @tup u xs _ hu r =>
  have lx := r.len
  refine ⟨_, rfl, u, _, rfl, .inr hu, rfl, _, rfl, ?_⟩
  refine iteB (fun c1 => qf ?_) (fun c1 => ?_)
  · rcases ss with _ | ⟨a, _ | ⟨b, _ | ⟨c, _ | ⟨d, t⟩⟩⟩⟩
    · rfl
    · rfl
    · rfl
    · rw [lx] at c1
      cases c1
    · cases c <;> rfl
  obtain ⟨a, b, c, rfl⟩ : ∃ a b c, ss = [a, b, c] := by
    rw [lx] at c1
    rcases ss with _ | ⟨a, _ | ⟨b, _ | ⟨c, _ | ⟨d, t⟩⟩⟩⟩
    · cases c1
    · cases c1
    · cases c1
    · exact ⟨a, b, c, rfl⟩
    · exfalso
      have z : (!decide (V.int (((a :: b :: c :: d :: t).length : Nat) : Int) = V.int 3)) = false := c1
      rw [decide_eq_false (fun z => by
        injection z with z
        simp at z
        omega)] at z
      cases z
  cases r with
  | @cons x _ _ _ ha r =>
  cases r with
  | @cons y _ _ _ hb r =>
  cases r with
  | @cons z _ _ _ hc r =>
  cases r
  refine ⟨_, rfl, u, _, rfl, hu, rfl, _, _, rfl, _, _, rfl, _, _, rfl, rfl, ?_⟩
  refine ⟨_, rfl, x, a, 0, 9, rfl, ha, _, rfl, iteB (fun c2 => iteT (qf (isMul_no (.inl ?_)))) (fun c2 => ?_)⟩
  · simpa using c2
  have wa : wholeR 0 9 a = true := by simpa using c2
  refine ⟨_, rfl, y, b, 0, 9, rfl, hb, _, rfl, iteB (fun c4 => qf (isMul_no (.inr (.inl ?_)))) (fun c4 => ?_)⟩
  · simpa using c4
  have wb : wholeR 0 9 b = true := by simpa using c4
  obtain ⟨l, rfl, l9⟩ := whole9 wa
  obtain ⟨m, rfl, m9⟩ := whole9 wb
  cases ha
  cases hb
  obtain ⟨T2, ty2, ok2⟩ := hc.ty
  refine ⟨_, rfl, z, T2, rfl, ty2, T2, "tuple", rfl, rfl, _, rfl, ?_⟩
  refine iteB (fun c5 => iteT (qf (isMul_no (.inr (.inr ?_))))) (fun c5 => ?_)
  · have nt : T2 ≠ "tuple" := by simpa using c5
    cases c with
    | tup es => exact absurd ok2 nt
    | _ => rfl
  have et2 : T2 = "tuple" := by simpa using c5
  obtain ⟨es, rfl⟩ : ∃ ss, c = .tup ss := by
    cases c with
    | tup ss => exact ⟨ss, rfl⟩
    | int i => rw [show T2 = "int" from ok2] at et2; exact absurd et2 (by decide)
    | bool b => rw [show T2 = "bool" from ok2] at et2; exact absurd et2 (by decide)
    | str x => rw [show T2 = "str" from ok2] at et2; exact absurd et2 (by decide)
    | oth => exact absurd et2 ok2.2.2.1
  cases hc with
  | @tup e ys _ he re =>
  have ly := re.len
  have eq0 : isMul (.tup [.int (l : Int), .int (m : Int), .tup es]) = (decide (es.length ≤ 9) && (es.all (edgeM (l : Int) (m : Int)) && nevB es)) := by
    show ((wholeR 0 9 (.int (l : Int)) && wholeR 0 9 (.int (m : Int))) && (decide (es.length ≤ 9) && (es.all (edgeM (l : Int) (m : Int)) && nevB es))) = _
    rw [wa, wb]
    rfl
  refine ⟨_, rfl, e, ys, rfl, .inr he, _, _, rfl, rfl, _, rfl, iteB (fun d6 => qf ?_) (fun d6 => ?_)⟩
  · have := of_decide_eq_true d6
    rw [eq0, decide_eq_false (by omega), Bool.false_and]
  have e9 : es.length ≤ 9 := by
    have := of_decide_eq_false d6
    omega
  rw [decide_eq_true e9, Bool.true_and] at eq0
  rw [eq0] at q
  refine ⟨_, rfl, e, rfl, ⟨_, he⟩, fun D nD => lc_tup (K := K) (a := e) (xs := ys) (fun i H2 => Same H H2 ∧ H2 D = some (.lst (((es.take i).map (edgeM (l : Int) (m : Int))).map V.bl))) ⟨same_new nD _, upd_same⟩ (fun i H1 _ ⟨s1, _⟩ => Same.tup s1 he) ?_ ?_⟩
  · rintro i x H2 hi ⟨s2, hD⟩
    obtain ⟨t, ht, st⟩ := (re.same s2).get hi
    refine ⟨rfl, ?_⟩
    refine ⟨_, rfl, _, rfl, _, rfl, x, t, (l : Int), (m : Int), rfl, st, _, hD, small1000 (by rw [List.length_map, List.length_map, List.length_take]; omega), same_put s2 nD, ?_⟩
    rw [upd_same, take_succ ht, List.map_append, List.map_append]
    rfl
  rintro H2 ⟨s2, hD⟩
  rw [ly, List.take_length] at hD
  refine ⟨D, _, rfl, SqL.of hD, _, rfl, ?_⟩
  have ea : (es.map (edgeM (l : Int) (m : Int))).all id = es.all (edgeM (l : Int) (m : Int)) := by rw [List.all_map]; rfl
  rw [ea]
  refine iteB (fun c4 => ?_) (fun c4 => ?_)
  · refine ⟨_, rfl, e, ys, es, rfl, Same.tup s2 he, re.same s2, fun s hs => two_of (List.all_eq_true.mp c4 s hs), by omega, fun H3 s3 => ?_⟩
    have q1 := q H3 (s2.trans s3)
    rw [c4, Bool.true_and] at q1
    exact q1
  · have q1 := q H2 s2
    rw [c4, Bool.false_and] at q1
    exact q1
theorem ok_pmeet (F : L2.Fun K "_do_meet" "_do_meet" sPMeet f fd) : FnOk P w K mg base CX0 1 f fd ["edge", "other"] (spPMeet K) := by
  refine F.ok scPMeet (fun vs H Q E h => ?_) (fun cdv A outer s0 H vs Q E hr h => ?_)
  · obtain ⟨a, b, p, q, rfl, _⟩ := h
    rfl
  obtain ⟨a, b, p, o, rfl, ha, hb, q⟩ := h
  refine ⟨_, pss_one (ps_ret (pe_or (pe_cmpR op_eq (pe_ix (r := rIxT K) ix_tup (pv 0) pe_int (fun _ _ => rfl)) (pe_ix (r := rIxT K) ix_tup (pv 1) pe_int (fun _ _ => rfl)) (nomark _)) (pe_one (pe_cmpR op_eq (pe_ix (r := rIxT K) ix_tup (pv 0) pe_int (fun _ _ => rfl)) (pe_ix (r := rIxT K) ix_tup (pv 1) pe_int (fun _ _ => rfl)) (nomark _))))), ?_⟩
  refine ⟨_, rfl, a, _, 0, _, rfl, rfl, ha, rfl, _, rfl, b, _, 0, _, rfl, rfl, hb, rfl, rfl, _, rfl, ?_⟩
  rw [dec_nat]
  refine iteB (fun c1 => ?_) (fun c1 => ?_)
  · rw [c1, Bool.true_or] at q
    exact q
  · rw [c1, Bool.false_or] at q
    refine ⟨_, rfl, a, _, 1, _, rfl, rfl, ha, rfl, _, rfl, b, _, 1, _, rfl, rfl, hb, rfl, rfl, ?_⟩
    rw [dec_nat]
    exact q
theorem ok_pcheck (F : L2.Fun K "check_multigraph" "check_multigraph" sPCheck f fd) (GG : FnOk P w K mg base CX0 4 fI dI ["value"] (spPIsMul K)) (bG : L2.Binds K dI ["value"] []) (kG : PySem.W.keepIn K (.ref fI) = true) (mG : mg "is_multigraph" = some (.ref fI)) : FnOk P w K mg base CX0 5 f fd ["multigraph"] (spPCheck K) := by
  refine F.ok scPCheck (fun vs H Q E h => ?_) (fun cdv A outer s0 H vs Q E hr h => ?_)
  · obtain ⟨x, l, r, es, rfl, _⟩ := h
    rfl
  obtain ⟨x, l, r, es, rfl, hx, g, e9, q⟩ := h
  refine ⟨_, pss_one (ps_if (pt_not (pt_val (pe_call GG (hr.mono (by decide)) (by rfl) mG kG bG .nil pass0 (pa_cons (pv 0) pa_nil)))) (pss_one ps_never) pss_nil), ?_⟩
  refine ⟨_, rfl, x, mulS l r es, rfl, hx.sh, fun H' s' => ?_⟩
  rw [isMul_good g e9]
  exact ⟨_, rfl, iteF (q H' s')⟩
theorem ok_pline (F : L2.Fun K "line_graph" "line_graph" sPLine f fd) (GC : FnOk P w K mg base CX0 5 fC dC ["multigraph"] (spPCheck K)) (bC : L2.Binds K dC ["multigraph"] []) (kC : PySem.W.keepIn K (.ref fC) = true) (mC : mg "check_multigraph" = some (.ref fC))
    (GM : FnOk P w K mg base CX0 1 fM dM ["edge", "other"] (spPMeet K)) (bM : L2.Binds K dM ["edge", "other"] []) (kM : PySem.W.keepIn K (.ref fM) = true) (mM : mg "_do_meet" = some (.ref fM))
    (ml : mg "len" = none) (mr : mg "range" = none) (mt : mg "tuple" = none) : FnOk P w K mg base CX0 6 f fd ["multigraph"] (spPLine K) := by
  refine F.ok scPLine (fun vs H Q E h => ?_) (fun cdv A outer s0 H vs Q E hr h => ?_)
  · obtain ⟨x, l, r, es, rfl, _⟩ := h
    rfl
  obtain ⟨x, l, r, es, rfl, hx, g, e9, q⟩ := h
  have h1 := hr.mono (show 1 ≤ 5 by decide)
  refine ⟨_, pss_cons (ps_expr (pe_call GC hr (by rfl) mC kC bC .nil pass0 (pa_cons (pv 0) pa_nil)))
    (pss_cons (ps_set (i := 1) scPLine.nd rfl (.inr rfl) (pe_ix (r := rIxT K) ix_tup (pv 0) pe_int (fun _ _ => rfl)))
    (pss_cons (ps_set (i := 2) scPLine.nd rfl (.inr rfl) (pe_callB call_len_seq (by rfl) ml PySem.boot_len (pa_cons (pv 1) pa_nil)))
    (pss_cons (ps_setLc2 (i := 3) (own := [("one", 4), ("other", 5)]) (vs1 := [5]) (g := gName 4) (g1 := gName 5) (tt := tYes) (tt1 := tYes) rfl scPLine.nd rfl rfl (sw_true rfl rfl rfl (by decide +kernel)) (pi_range1 rfl mr (pa_cons (pv 2) pa_nil)) (blkOk_by (N := ["multigraph", "edges", "many", "pairs", "one", "other"]) (sc := defScope sPLine) (by decide +kernel)) (by decide)
        (fun _ _ _ _ _ => pg_name (i := 4) scPLine.nd rfl (Or.inl rfl)) (fun _ _ _ _ _ => pts_nil) (fun _ _ _ _ _ => pi_range2 (by rfl) mr (pa_cons (pe_op op_add (pv 4) pe_int) (pa_cons (pv 2) pa_nil))) (fun _ _ _ _ _ => pg_name (i := 5) scPLine.nd rfl (Or.inl rfl)) (fun _ _ _ _ _ => pts_nil)
        (fun _ _ _ _ _ => pe_tup (pa_cons (pv 4) (pa_cons (pv 5) pa_nil))))
    (pss_one (ps_ret (pe_tup (pa_cons (pv 2) (pa_cons (pe_callTy call_tuple_of (by rfl) mt (by decide +kernel) (pa_cons (pe_lc (own := [("one", 4), ("other", 5)]) (g := gTup K 2 (gCons (gName 4) (gCons (gName 5) gNil))) (tt := tB (tCall (spPMeet K) [] E0 (tCons (tOp (rIxT K) (tVar 1) (tVar 4)) (tCons (tOp (rIxT K) (tVar 1) (tVar 5)) tNil)))) rfl scPLine.nd (pi_list (pv 3))
        (blkOk_by (N := ["multigraph", "edges", "many", "pairs", "one", "other"]) (sc := defScope sPLine) (by decide +kernel)) (fun _ _ _ _ _ => pg_tup (by rfl) (pgs_cons (pg_name (i := 4) scPLine.nd rfl (Or.inl rfl)) (pgs_cons (pg_name (i := 5) scPLine.nd rfl (Or.inl rfl)) pgs_nil)))
        (fun _ _ _ _ _ => pts_one (pt_val (pe_call GM h1 (by rfl) mM kM bM .nil pass0 (pa_cons (pe_ix (r := rIxT K) ix_tup (pv 1) (pv 4) (fun _ _ => rfl)) (pa_cons (pe_ix (r := rIxT K) ix_tup (pv 1) (pv 5) (fun _ _ => rfl)) pa_nil)))))
        (fun _ _ _ _ _ => pe_tup (pa_cons (pv 4) (pa_cons (pv 5) pa_nil)))) pa_nil)) pa_nil)))))))), ?_⟩
  refine ⟨_, rfl, x, l, r, es, rfl, hx, g, e9, fun H1 s1 => ?_⟩
  obtain ⟨t, e, xs, rfl, ht, he, le, get⟩ := mul_at (hx.same s1)
  refine ⟨_, rfl, t, _, 2, _, rfl, rfl, ht, len_vec _ _ _, ?_⟩
  refine ⟨_, rfl, e, xs, rfl, .inr he, ?_⟩
  rw [le]
  refine ⟨_, rfl, ((es.length : Nat) : Int), rfl, by omega, by omega, fun D nD => lo_it (walk_range (lo := 0) (n := ((es.length : Nat) : Int).toNat)) (fun i H2 => Same H1 H2 ∧ ∃ zs, H2 D = some (.lst zs) ∧ PairsT H2 zs ((List.range i).flatMap (rowP es.length))) ⟨same_new nD _, [], upd_same, .nil⟩ (fun _ _ _ _ => trivial) ?_ ?_⟩
  · rintro i x H2 _ li ⟨s2, zs, hD, pz⟩ ⟨rfl, ex⟩
    obtain rfl : x = V.int ((i : Nat) : Int) := ex.trans (congrArg V.int (Int.zero_add _))
    have l9 : zs.length ≤ 81 := by rw [PairsT.len pz]; exact rows_few i (by omega) es.length e9
    refine ⟨rfl, ?_⟩
    refine ⟨_, rfl, _, _, rfl, rfl, _, rfl, _, _, rfl, ⟨by omega, by omega, by omega, by omega⟩, lo_it (walk_range (lo := (i : Int) + 1) (n := (((es.length : Nat) : Int) - ((i : Int) + 1)).toNat)) (fun j H3 => Same H1 H3 ∧ ∃ zs, H3 D = some (.lst zs) ∧ PairsT H3 zs ((List.range i).flatMap (rowP es.length) ++ (List.range j).map fun j => (i, i + 1 + j))) ⟨s2, zs, hD, by rw [List.range_zero, List.map_nil, List.append_nil]; exact pz⟩ (fun _ _ _ _ => trivial) ?_ ?_⟩
    · rintro j x H3 _ lj ⟨s3, zs, hD, pz⟩ ⟨rfl, ex⟩
      obtain rfl : x = V.int ((i + 1 + j : Nat) : Int) := ex.trans (congrArg V.int (by omega))
      refine ⟨rfl, ?_⟩
      refine ⟨_, rfl, _, rfl, (by show 2 ≤ sizeLine; exact small (by decide)), fun u nu => ?_⟩
      have p1 := push_pairT (i, i + 1 + j) hD nu pz
      have l1 : zs.length ≤ 81 + 9 := by
        rw [PairsT.len pz, List.length_append, List.length_map, List.length_range]
        have := rows_few i (by omega) es.length e9
        omega
      refine ⟨zs, (same_new nu _) _ _ hD, small1000 (by omega), same_put (s3.trans (same_new nu _)) nD, _, upd_same, ?_⟩
      rw [List.range_succ, List.map_append, ← List.append_assoc]
      exact p1
    · rintro H3 ⟨s3, zs, hD, pz⟩
      refine ⟨s3, zs, hD, ?_⟩
      rw [List.range_succ, List.flatMap_append, List.flatMap_cons, List.flatMap_nil, List.append_nil]
      rw [show (((es.length : Nat) : Int) - ((i : Int) + 1)).toNat = es.length - (i + 1) by omega] at pz
      exact pz
  rintro H2 ⟨s2, zs, hD, pz⟩
  rw [show ((es.length : Nat) : Int).toNat = es.length by omega] at pz
  have ap : (List.range es.length).flatMap (rowP es.length) = allP es.length := rfl
  rw [ap] at pz
  have lz := PairsT.len pz
  have few := allP_few es.length e9
  refine ⟨_, rfl, _, rfl, D, rfl, ⟨_, SqL.of hD⟩, fun D2 nD2 => lo_it (walk_list (xs := zs)) (fun j H3 => Same H2 H3 ∧ ∃ ys, H3 D2 = some (.lst ys) ∧ PairsT H3 ys (((allP es.length).take j).filter fun p => meetB es p.1 p.2)) ⟨same_new nD2 _, [], upd_same, .nil⟩ (fun j H3 _ ⟨s3, _⟩ => SqL.of (s3 _ _ hD)) ?_ ?_⟩
  · rintro j y _ H3 lj ⟨s3, ys, hD2, py⟩ ⟨rfl, hj⟩
    have pz3 := pz.same s3
    have m := pz3.mem y (List.mem_of_getElem? hj)
    have em := map_gOf pz3
    have hp : (allP es.length)[j]? = some (gOf H3 y) := by
      rw [← em, List.getElem?_map, hj]
      rfl
    generalize gOf H3 y = p at m hp
    obtain ⟨u, rfl, hu⟩ := m
    obtain ⟨p1, p2⟩ := mem_allP.mp (List.mem_of_getElem? hp)
    obtain ⟨a, ha, sa⟩ := get p.1 (by omega)
    obtain ⟨b, hb, sb⟩ := get p.2 p2
    have s13 := s2.trans s3
    refine ⟨u, _, rfl, SqT.of hu, rfl, _, _, rfl, _, _, rfl, rfl, rfl, ?_⟩
    refine ⟨_, rfl, _, rfl, e, xs, _, _, rfl, rfl, Same.tup s13 he, atI_nat ha, _, rfl, _, rfl, e, xs, _, _, rfl, rfl, Same.tup s13 he, atI_nat hb, a, b, eAt es p.1, eAt es p.2, rfl, Same.tup s13 sa, Same.tup s13 sb, _, rfl, ?_⟩
    have tk := take_succ hp
    refine iteB (fun c => ?_) (fun c => ?_)
    · refine ⟨_, rfl, _, rfl, (by show 2 ≤ sizeLine; exact small (by decide)), fun u2 nu2 => ?_⟩
      have pp := push_pairT p hD2 nu2 py
      refine ⟨ys, (same_new nu2 _) _ _ hD2, small1000 ?_, same_put (s3.trans (same_new nu2 _)) nD2, _, upd_same, ?_⟩
      · rw [PairsT.len py]
        refine Nat.le_trans (List.length_filter_le _ _) ?_
        rw [List.length_take]
        omega
      · rw [tk, List.filter_append, List.filter_cons_of_pos (by exact c), List.filter_nil]
        exact pp
    · refine ⟨s3, ys, hD2, ?_⟩
      rw [tk, List.filter_append, List.filter_cons_of_neg (by show ¬ meetB es p.1 p.2 = true; unfold meetB; rw [c]; decide), List.filter_nil, List.append_nil]
      exact py
  · rintro H3 ⟨s3, ys, hD2, py⟩
    rw [lz, List.take_length] at py
    refine ⟨D2, _, rfl, .inl ⟨SqL.of hD2, fun l' nl => ⟨(by show 2 ≤ sizeLine; exact small (by decide)), fun r' nr => ?_⟩⟩⟩
    have t2 := same_new nl (.tup ys)
    have t3 := same_new nr (.tup [.int (es.length : Int), .ref l'])
    exact q (.ref r') _ (s1.trans (s2.trans (s3.trans (t2.trans t3)))) ⟨r', l', ys, rfl, SqT.of upd_same, SqT.of (t3 _ _ upd_same), ((py.same t2).same t3).at⟩
end
end My

set_option maxHeartbeats 2000000
/-! Sets of vertices as masks, in plain Lean. -/
namespace My
open PySem PySem.Spec PyProof.Rows L2
theorem and_nn (a b : Nat) : Builtin.bitAnd (a : Int) (b : Int) = ((a &&& b : Nat) : Int) := by
  rw [bitAnd_pp (by omega) (by omega), Int.toNat_natCast, Int.toNat_natCast]
theorem or_nn (a b : Nat) : Builtin.bitOr (a : Int) (b : Int) = ((a ||| b : Nat) : Int) := by
  have n1 : ∀ k : Nat, Builtin.bitNot (Builtin.bitNot (k : Int)) = (k : Int) := fun k => by unfold Builtin.bitNot; omega
  have n2 : ∀ k : Nat, ¬ 0 ≤ Builtin.bitNot (k : Int) := fun k => by unfold Builtin.bitNot; omega
  unfold Builtin.bitOr Builtin.bitAnd
  simp only [n2, decide_false]
  rw [n1, n1, n1, Int.toNat_natCast, Int.toNat_natCast]
def adjB (es : List E2) (u v : Nat) : Bool := decide ((min u v, max u v) ∈ es)
theorem adj_comm (es : List E2) (u v : Nat) : adjB es u v = adjB es v u := by
  unfold adjB
  rw [Nat.min_comm, Nat.max_comm]
theorem adj_ne {n : Nat} {es : List E2} (g : Good n es) {u v : Nat} (h : adjB es u v = true) : u ≠ v ∧ u < n ∧ v < n := by
  have z := g.lt _ (of_decide_eq_true h)
  dsimp only at z
  omega
def NbOk (n : Nat) (es : List E2) (nb : List Nat) : Prop := nb.length = n ∧ ∀ u, u < n → ∀ v, (nb.getD u 0).testBit v = adjB es u v
theorem nb_nil (n : Nat) : NbOk n [] (List.replicate n 0) := by
  refine ⟨List.length_replicate .., fun u hu v => ?_⟩
  rw [List.getD_eq_getElem?_getD, List.getElem?_replicate, if_pos hu]
  simp [adjB]
theorem bit_pow (a v : Nat) : (2 ^ a).testBit v = decide (a = v) := by
  rw [Nat.testBit_two_pow]
theorem nb_step {n : Nat} {l : List E2} {nb : List Nat} {a b : Nat} (h : NbOk n l nb) (ab : a < b) (bn : b < n) :
    NbOk n (l ++ [(a, b)]) ((nb.set a (nb.getD a 0 ||| 2 ^ b)).set b ((nb.set a (nb.getD a 0 ||| 2 ^ b)).getD b 0 ||| 2 ^ a)) := by
  obtain ⟨hl, hb⟩ := h
  refine ⟨by rw [List.length_set, List.length_set, hl], fun u hu v => ?_⟩
  have eb : (nb.set a (nb.getD a 0 ||| 2 ^ b)).getD b 0 = nb.getD b 0 := by
    rw [List.getD_eq_getElem?_getD, List.getElem?_set_ne (by omega), ← List.getD_eq_getElem?_getD]
  rw [eb]
  have ad : adjB (l ++ [(a, b)]) u v = (adjB l u v || (decide (u = a ∧ v = b) || decide (u = b ∧ v = a))) := by
    unfold adjB
    rw [Bool.eq_iff_iff]
    simp only [decide_eq_true_eq, Bool.or_eq_true, List.mem_append, List.mem_singleton, Prod.mk.injEq]
    constructor
    · rintro (z | ⟨z1, z2⟩)
      · exact .inl z
      · right
        omega
    · rintro (z | z | z)
      · exact .inl z
      · right; omega
      · right; omega
  rw [ad]
  by_cases c1 : u = b
  · subst c1
    rw [List.getD_eq_getElem?_getD, List.getElem?_set_self (by rw [List.length_set, hl]; exact hu)]
    show (nb.getD u 0 ||| 2 ^ a).testBit v = _
    rw [Nat.testBit_or, hb u hu, bit_pow]
    congr 1
    rw [Bool.eq_iff_iff, Bool.or_eq_true, decide_eq_true_eq, decide_eq_true_eq, decide_eq_true_eq]
    constructor
    · intro z
      exact .inr ⟨rfl, z.symm⟩
    · rintro (z | z)
      · exact absurd z.1 (by omega)
      · exact z.2.symm
  · rw [List.getD_eq_getElem?_getD, List.getElem?_set_ne (by omega)]
    by_cases c2 : u = a
    · subst c2
      rw [List.getElem?_set_self (by rw [hl]; exact hu)]
      show (nb.getD u 0 ||| 2 ^ b).testBit v = _
      rw [Nat.testBit_or, hb u hu, bit_pow]
      congr 1
      rw [Bool.eq_iff_iff, Bool.or_eq_true, decide_eq_true_eq, decide_eq_true_eq, decide_eq_true_eq]
      constructor
      · intro z
        exact .inl ⟨rfl, z.symm⟩
      · rintro (z | z)
        · exact z.2.symm
        · exact absurd z.1 c1
    · rw [List.getElem?_set_ne (by omega), ← List.getD_eq_getElem?_getD, hb u hu]
      have z : (decide (u = a ∧ v = b) || decide (u = b ∧ v = a)) = false := by
        rw [Bool.or_eq_false_iff]
        exact ⟨decide_eq_false (fun z => c2 z.1), decide_eq_false (fun z => c1 z.1)⟩
      rw [z, Bool.or_false]
/-! cliques -/
def Clq (es : List E2) (m : Nat) : Prop := ∀ u v, m.testBit u = true → m.testBit v = true → u ≠ v → adjB es u v = true
theorem sub_and (a b : Nat) : a &&& b = a ↔ ∀ v, a.testBit v = true → b.testBit v = true := by
  constructor
  · intro h v hv
    have z := congrArg (Nat.testBit · v) h
    simp only [Nat.testBit_and, hv, Bool.true_and] at z
    exact z
  · intro h
    refine Nat.eq_of_testBit_eq fun v => ?_
    rw [Nat.testBit_and]
    cases e : a.testBit v with
    | false => rfl
    | true => rw [h v e]; rfl
def FoundOk (es : List E2) (k : Nat) (found : List Nat) : Prop := found.Nodup ∧ ∀ m, m ∈ found ↔ m < 2 ^ k ∧ Clq es m
theorem found_nil (es : List E2) : FoundOk es 0 [0] := by
  refine ⟨by simp, fun m => ?_⟩
  rw [List.mem_singleton]
  constructor
  · rintro rfl
    exact ⟨by decide, fun u v h => by simp at h⟩
  · intro h
    have := h.1
    omega
def goOn (found : List Nat) (k near : Nat) : List Nat := found ++ (found.filter fun m => m &&& near == m).map (· ||| 2 ^ k)
theorem or_pow_bit {c k v : Nat} : (c ||| 2 ^ k).testBit v = (c.testBit v || decide (k = v)) := by rw [Nat.testBit_or, bit_pow]
theorem high_out {c k v : Nat} (h : c < 2 ^ k) (hv : k ≤ v) : c.testBit v = false := Nat.testBit_lt_two_pow (Nat.lt_of_lt_of_le h (Nat.pow_le_pow_right (by decide) hv))
theorem found_step {n : Nat} {es : List E2} {nb : List Nat} {found : List Nat} {k : Nat} (h : FoundOk es k found) (nk : NbOk n es nb) (kn : k < n) : FoundOk es (k + 1) (goOn found k (nb.getD k 0)) := by
  obtain ⟨nd, mem⟩ := h
  have low : ∀ m ∈ found, m < 2 ^ k := fun m hm => ((mem m).mp hm).1
  constructor
  · unfold goOn
    rw [List.nodup_append]
    refine ⟨nd, ?_, ?_⟩
    · show List.Pairwise _ _
      rw [List.pairwise_map]
      refine List.Pairwise.imp_of_mem ?_ (nd.filter _)
      intro x y hx hy ne e
      refine ne (?_ : x = y)
      refine Nat.eq_of_testBit_eq fun v => ?_
      have lx := low x (List.mem_filter.mp hx).1
      have ly := low y (List.mem_filter.mp hy).1
      have z := congrArg (Nat.testBit · v) e
      simp only [or_pow_bit] at z
      by_cases c : k = v
      · subst c
        rw [high_out lx (Nat.le_refl _), high_out ly (Nat.le_refl _)]
      · rw [decide_eq_false c, Bool.or_false, Bool.or_false] at z
        exact z
    · intro a ha b hb e
      subst e
      obtain ⟨c, hc, e⟩ := List.mem_map.mp hb
      have z := high_out (low a ha) (Nat.le_refl k)
      rw [← e, or_pow_bit, decide_eq_true rfl, Bool.or_true] at z
      cases z
  · intro m
    unfold goOn
    rw [List.mem_append, mem m, List.mem_map]
    constructor
    · rintro (⟨h1, h2⟩ | ⟨c, hc, rfl⟩)
      · exact ⟨Nat.lt_of_lt_of_le h1 (Nat.pow_le_pow_right (by decide) (Nat.le_succ k)), h2⟩
      · obtain ⟨hc, near⟩ := List.mem_filter.mp hc
        obtain ⟨lc, cl⟩ := (mem c).mp hc
        have sub := (sub_and c _).mp (by simpa using near)
        refine ⟨Nat.or_lt_two_pow (Nat.lt_of_lt_of_le lc (Nat.pow_le_pow_right (by decide) (Nat.le_succ k))) (Nat.pow_lt_pow_right (by decide) (Nat.lt_succ_self k)), fun u v hu hv ne => ?_⟩
        rw [or_pow_bit] at hu hv
        simp only [Bool.or_eq_true, decide_eq_true_eq] at hu hv
        rcases hu with hu | rfl
        · rcases hv with hv | rfl
          · exact cl u v hu hv ne
          · rw [adj_comm, ← nk.2 k kn]
            exact sub u hu
        · rcases hv with hv | rfl
          · rw [← nk.2 k kn]
            exact sub v hv
          · exact absurd rfl ne
    · rintro ⟨h1, h2⟩
      by_cases c : m.testBit k = true
      · right
        have le : m % 2 ^ k < 2 ^ k := Nat.mod_lt _ (Nat.two_pow_pos k)
        have bits : ∀ v, (m % 2 ^ k).testBit v = (decide (v < k) && m.testBit v) := fun v => Nat.testBit_mod_two_pow m k v
        refine ⟨m % 2 ^ k, List.mem_filter.mpr ⟨(mem _).mpr ⟨le, fun u v hu hv ne => ?_⟩, ?_⟩, ?_⟩
        · rw [bits, Bool.and_eq_true] at hu hv
          exact h2 u v hu.2 hv.2 ne
        · have s : m % 2 ^ k &&& nb.getD k 0 = m % 2 ^ k := (sub_and _ _).mpr fun v hv => by
            rw [bits, Bool.and_eq_true] at hv
            have lt := of_decide_eq_true hv.1
            rw [nk.2 k kn]
            exact h2 k v c hv.2 (by omega)
          simpa using s
        · refine Nat.eq_of_testBit_eq fun v => ?_
          rw [or_pow_bit, bits]
          by_cases e : k = v
          · subst e; simp [c]
          · by_cases l : v < k
            · simp [l, e]
            · have z : m.testBit v = false := high_out h1 (by omega)
              simp [l, e, z]
      · left
        refine ⟨?_, h2⟩
        refine Nat.lt_pow_two_of_testBit m fun v hv => ?_
        by_cases e : v = k
        · subst e; simpa using c
        · exact high_out h1 (by omega)
/-! lots as masks -/
def maskN (l : List Nat) : Nat := (l.map fun k => 2 ^ k).sum
theorem desc_lt : ∀ {l : List Nat} {k : Nat}, l.Pairwise (· > ·) → (∀ a ∈ l, a < k) → maskN l < 2 ^ k
  | [], k, _, _ => Nat.two_pow_pos k
  | a :: r, k, h, lt => by
    have ak := lt a (List.mem_cons_self ..)
    have ih := desc_lt (l := r) (k := a) (List.pairwise_cons.mp h).2 fun b hb => (List.pairwise_cons.mp h).1 b hb
    have e : maskN (a :: r) = 2 ^ a + maskN r := by unfold maskN; rw [List.map_cons, List.sum_cons]
    have z : 2 ^ (a + 1) ≤ 2 ^ k := Nat.pow_le_pow_right (by decide) ak
    rw [Nat.pow_succ] at z
    omega
theorem desc_bit : ∀ {l : List Nat}, l.Pairwise (· > ·) → ∀ v, (maskN l).testBit v = decide (v ∈ l)
  | [], _, v => by simp [maskN]
  | a :: r, h, v => by
    have lt := desc_lt (l := r) (k := a) (List.pairwise_cons.mp h).2 fun b hb => (List.pairwise_cons.mp h).1 b hb
    have ih := desc_bit (l := r) (List.pairwise_cons.mp h).2 v
    have e : maskN (a :: r) = 2 ^ a + maskN r := by unfold maskN; rw [List.map_cons, List.sum_cons]
    rw [e]
    rcases Nat.lt_trichotomy v a with c | c | c
    · rw [Nat.testBit_two_pow_add_gt c, ih]
      have ne : v ≠ a := by omega
      simp [ne]
    · subst c
      rw [Nat.testBit_two_pow_add_eq, high_out lt (Nat.le_refl _)]
      simp
    · have z : 2 ^ a + maskN r < 2 ^ (a + 1) := by rw [Nat.pow_succ]; omega
      rw [high_out z c]
      have n1 : v ≠ a := by omega
      have n2 : v ∉ r := fun hv => by have := (List.pairwise_cons.mp h).1 v hv; omega
      simp [n1, n2]
theorem mask_rev (l : List Nat) : maskN l.reverse = maskN l := by
  unfold maskN
  rw [List.map_reverse]
  exact List.sum_reverse _
theorem mask_bit {l : List Nat} (h : l.Pairwise (· < ·)) (v : Nat) : (maskN l).testBit v = decide (v ∈ l) := by
  rw [← mask_rev, desc_bit (List.pairwise_reverse.mpr h)]
  simp
/-- the lot of a mask's bits below n -/
def bitsN (n m : Nat) : List Nat := (List.range n).filter fun v => m.testBit v
theorem bits_up (n m : Nat) : (bitsN n m).Pairwise (· < ·) := (List.pairwise_lt_range).filter _
theorem mem_bits {n m v : Nat} : v ∈ bitsN n m ↔ v < n ∧ m.testBit v = true := by
  unfold bitsN
  rw [List.mem_filter, List.mem_range]
theorem mask_bits {n m : Nat} (h : m < 2 ^ n) : maskN (bitsN n m) = m := by
  refine Nat.eq_of_testBit_eq fun v => ?_
  rw [mask_bit (bits_up n m)]
  by_cases c : v < n
  · cases e : m.testBit v with
    | true => exact decide_eq_true (mem_bits.mpr ⟨c, e⟩)
    | false => exact decide_eq_false fun z => by rw [(mem_bits.mp z).2] at e; cases e
  · rw [high_out h (by omega)]
    exact decide_eq_false fun z => c (mem_bits.mp z).1
/-- two ascending lists with the same members -/
theorem eq_of_lt : ∀ {l m : List Nat}, l.Pairwise (· < ·) → m.Pairwise (· < ·) → (∀ k, k ∈ l ↔ k ∈ m) → l = m
  | [], [], _, _, _ => rfl
  | [], b :: m, _, _, h => absurd ((h b).mpr (List.mem_cons_self ..)) (by simp)
  | a :: l, [], _, _, h => absurd ((h a).mp (List.mem_cons_self ..)) (by simp)
  | a :: l, b :: m, hl, hm, h => by
    have l1 := (List.pairwise_cons.mp hl).1
    have m1 := (List.pairwise_cons.mp hm).1
    have e : a = b := by
      rcases List.mem_cons.mp ((h a).mp (List.mem_cons_self ..)) with e | e
      · exact e
      · rcases List.mem_cons.mp ((h b).mpr (List.mem_cons_self ..)) with e2 | e2
        · exact e2.symm
        · have := l1 b e2
          have := m1 a e
          omega
    subst e
    rw [eq_of_lt (List.pairwise_cons.mp hl).2 (List.pairwise_cons.mp hm).2 fun k => ?_]
    constructor
    · intro hk
      have := l1 k hk
      rcases List.mem_cons.mp ((h k).mp (List.mem_cons_of_mem _ hk)) with e | e
      · omega
      · exact e
    · intro hk
      have := m1 k hk
      rcases List.mem_cons.mp ((h k).mpr (List.mem_cons_of_mem _ hk)) with e | e
      · omega
      · exact e
theorem bits_mask {n : Nat} {l : List Nat} (h : l.Pairwise (· < ·)) (lt : ∀ k ∈ l, k < n) : bitsN n (maskN l) = l := by
  refine eq_of_lt (bits_up n _) h fun k => ?_
  rw [mem_bits, mask_bit h, decide_eq_true_eq]
  exact ⟨fun z => z.2, fun z => ⟨lt k z, z⟩⟩
/-- all of a list are adjacent two by two, or no two are -/
def PairB (es : List E2) (tied : Bool) (l : List Nat) : Prop := l.Pairwise fun u v => adjB es u v = tied
instance (es : List E2) (tied : Bool) (l : List Nat) : Decidable (PairB es tied l) := inferInstanceAs (Decidable (List.Pairwise _ l))
theorem pairB_mem {es : List E2} {tied : Bool} {l : List Nat} (nd : l.Nodup) : PairB es tied l ↔ ∀ u ∈ l, ∀ v ∈ l, u ≠ v → adjB es u v = tied := by
  unfold PairB
  constructor
  · intro h
    induction l with
    | nil => intro u hu; cases hu
    | cons a r ih =>
      obtain ⟨h1, h2⟩ := List.pairwise_cons.mp h
      have ih := ih (List.nodup_cons.mp nd).2 h2
      intro u hu v hv ne
      rcases List.mem_cons.mp hu with e1 | hu2
      · rcases List.mem_cons.mp hv with e2 | hv2
        · exact absurd (e1.trans e2.symm) ne
        · rw [e1]; exact h1 v hv2
      · rcases List.mem_cons.mp hv with e2 | hv2
        · rw [adj_comm, e2]; exact h1 u hu2
        · exact ih u hu2 v hv2 ne
  · intro h
    refine List.Pairwise.imp_of_mem (R := fun u v => u ≠ v) ?_ nd
    intro u v hu hv ne
    exact h u hu v hv ne
theorem clq_mask {es : List E2} {l : List Nat} (h : l.Pairwise (· < ·)) : Clq es (maskN l) ↔ PairB es true l := by
  rw [pairB_mem (h.imp fun z => Nat.ne_of_lt z)]
  constructor
  · intro c u hu v hv ne
    exact c u v (by rw [mask_bit h]; exact decide_eq_true hu) (by rw [mask_bit h]; exact decide_eq_true hv) ne
  · intro c u v hu hv ne
    rw [mask_bit h] at hu hv
    exact c u (of_decide_eq_true hu) v (of_decide_eq_true hv) ne
end My

set_option maxHeartbeats 4000000
/-! Tables of who is adjacent to whom: lists of lists of bools. -/
namespace My
open PySem PySem.Spec PyProof.Rows L2
def tabP (n : Nat) (f : Nat → Nat → Bool) : List E2 := (allP n).filter fun p => f p.1 p.2
theorem tab_good {n : Nat} (h : n ≤ 9) (f : Nat → Nat → Bool) : Good n (tabP n f) :=
  ⟨h, fun p hp => mem_allP.mp (List.mem_filter.mp hp).1, (allP_up n h).filter _⟩
theorem tabP_eq (n : Nat) (f : Nat → Nat → Bool) : tabP n f = (List.range n).flatMap fun u => (rowP n u).filter fun p => f p.1 p.2 := List.filter_flatMap
def rowV (n : Nat) (f : Nat → Bool) : List V := (List.range n).map fun j => V.bl (f j)
theorem rowV_len (n : Nat) (f : Nat → Bool) : (rowV n f).length = n := by unfold rowV; rw [List.length_map, List.length_range]
theorem rowV_get {n j : Nat} (f : Nat → Bool) (h : j < n) : (rowV n f)[j]? = some (.bl (f j)) := by
  unfold rowV
  rw [List.getElem?_map, List.getElem?_range h]
  rfl
theorem rowV_set {n : Nat} (f : Nat → Bool) (j : Nat) (b : Bool) : (rowV n f).set j (.bl b) = rowV n fun k => if k = j then b else f k := by
  refine List.ext_getElem? fun k => ?_
  by_cases hk : k < n
  · rw [rowV_get _ hk]
    by_cases e : k = j
    · subst e
      rw [List.getElem?_set_self (by rw [rowV_len]; exact hk), if_pos rfl]
    · rw [List.getElem?_set_ne (Ne.symm e), rowV_get f hk, if_neg e]
  · rw [List.getElem?_eq_none (by rw [List.length_set, rowV_len]; omega), List.getElem?_eq_none (by rw [rowV_len]; omega)]
theorem rowV_succ (n : Nat) (f : Nat → Bool) : rowV (n + 1) f = rowV n f ++ [.bl (f n)] := by
  unfold rowV
  rw [List.range_succ, List.map_append]
  rfl
theorem rowV_congr {n : Nat} {f g : Nat → Bool} (h : ∀ j, j < n → f j = g j) : rowV n f = rowV n g := by
  unfold rowV
  exact List.map_congr_left fun j hj => by rw [h j (List.mem_range.mp hj)]
structure TabR (H : Hp) (D : Addr) (n : Nat) (f : Nat → Nat → Bool) (rs : List Addr) : Prop where
  hd : H D = some (.lst (rs.map V.ref))
  len : rs.length = n
  row : ∀ i r, rs[i]? = some r → H r = some (.lst (rowV n (f i)))
theorem TabR.same {H H' : Hp} (s : Same H H') {D : Addr} {n : Nat} {f : Nat → Nat → Bool} {rs : List Addr} (h : TabR H D n f rs) : TabR H' D n f rs := ⟨s _ _ h.hd, h.len, fun i r hi => s _ _ (h.row i r hi)⟩
theorem TabR.get {H : Hp} {D : Addr} {n : Nat} {f : Nat → Nat → Bool} {rs : List Addr} (h : TabR H D n f rs) {i : Nat} (hi : i < n) : ∃ r, rs[i]? = some r ∧ (rs.map V.ref)[i]? = some (.ref r) ∧ H r = some (.lst (rowV n (f i))) := by
  have l : i < rs.length := by rw [h.len]; exact hi
  refine ⟨rs[i], List.getElem?_eq_getElem l, by rw [List.getElem?_map, List.getElem?_eq_getElem l]; rfl, h.row i _ (List.getElem?_eq_getElem l)⟩
theorem TabR.congr {H : Hp} {D : Addr} {n : Nat} {f g : Nat → Nat → Bool} {rs : List Addr} (h : TabR H D n f rs) (e : ∀ i j, i < n → j < n → f i j = g i j) : TabR H D n g rs :=
  ⟨h.hd, h.len, fun i r hi => by
    rw [h.row i r hi, rowV_congr fun j hj => e i j (by have := (List.getElem?_eq_some_iff.mp hi).1; rw [h.len] at this; exact this) hj]⟩
theorem ixN_of {n j : Nat} (h : j < n) : ixN n (j : Int) = some j := by
  unfold ixN
  rw [if_pos (by omega), if_pos (by omega), Int.toNat_natCast]
def GraphT (H : Hp) (x : V) (n : Nat) (es : List E2) : Prop := ∃ (t e : Addr) (xs : List V), x = .ref t ∧ H t = some (.tup [.int (n : Int), .ref e]) ∧ H e = some (.tup xs) ∧ PairsT H xs es
theorem GraphT.at {K : PySem.W.Frag} {H : Hp} {x : V} {n : Nat} {es : List E2} (h : GraphT H x n es) : GraphAt K H x n es := by
  obtain ⟨t, e, xs, h1, h2, h3, h4⟩ := h
  exact ⟨t, e, xs, h1, SqT.of h2, SqT.of h3, h4.at⟩
theorem GraphT.same {H H' : Hp} (s : Same H H') {x : V} {n : Nat} {es : List E2} (h : GraphT H x n es) : GraphT H' x n es := by
  obtain ⟨t, e, xs, h1, h2, h3, h4⟩ := h
  exact ⟨t, e, xs, h1, s _ _ h2, s _ _ h3, h4.same s⟩
theorem GraphT.but {p : Addr} {H H' : Hp} (b : But p H H') (w : Wl H p) {x : V} {n : Nat} {es : List E2} (h : GraphT H x n es) : GraphT H' x n es := by
  obtain ⟨t, e, xs, h1, h2, h3, h4⟩ := h
  exact ⟨t, e, xs, h1, b _ _ (wl_tup w h2) h2, b _ _ (wl_tup w h3) h3, h4.but b w⟩
theorem GraphAt.same' {K : PySem.W.Frag} {H H' : Hp} (s : Same H H') {x : V} {n : Nat} {es : List E2} (h : GraphAt K H x n es) : GraphAt K H' x n es := h.ts (TS.of s)
theorem pair_at {K : PySem.W.Frag} {H : Hp} {xs : List V} {es : List E2} (h : PairsAt K H xs es) {i : Nat} {p : E2} (hp : es[i]? = some p) : ∃ u, xs[i]? = some (.ref u) ∧ SqT K H u [.int (p.1 : Int), .int (p.2 : Int)] := by
  have le := PairsAt.len h
  have hi : i < xs.length := by rw [le]; exact (List.getElem?_eq_some_iff.mp hp).1
  obtain ⟨q, hq, u, hu, su⟩ := PairsAt.get h (List.getElem?_eq_getElem hi)
  rw [hp] at hq
  cases hq
  exact ⟨u, by rw [List.getElem?_eq_getElem hi, hu], su⟩
theorem adj_nil (u v : Nat) : adjB [] u v = false := by simp [adjB]
theorem adj_snoc {l : List E2} {a b : Nat} (ab : a < b) (u v : Nat) : adjB (l ++ [(a, b)]) u v = (adjB l u v || (decide (u = a ∧ v = b) || decide (u = b ∧ v = a))) := by
  unfold adjB
  have e : decide ((min u v, max u v) ∈ l ++ [(a, b)]) = (decide ((min u v, max u v) ∈ l) || decide ((min u v, max u v) = (a, b))) := by
    rw [Bool.eq_iff_iff]
    simp
  rw [e]
  congr 1
  rw [Bool.eq_iff_iff]
  simp only [Bool.or_eq_true, decide_eq_true_eq, Prod.mk.injEq]
  omega
end My

set_option maxHeartbeats 4000000
/-! range(n) as a value; list(range(n)). -/
namespace My
open PySem PySem.Spec PyProof.Rows L2
section
variable {X : Cx}
def rRng1 : List V → Hp → VK → Prop := fun vs H Q => ∃ j : Int, vs = [V.int j] ∧ ∀ p, H p = none → Q (.ref p) (upd H p (.rng 0 j))
theorem cr_range1 : CallR X (.type "range") rRng1 := by
  intro pins s σ H vs us Q I r h
  obtain ⟨j, rfl, q⟩ := h
  obtain ⟨u1, rfl, t, rfl⟩ := vals1 r
  refine call_range_1 ⟨.ref s.heap.objs.size, upd H s.heap.objs.size (.rng 0 j), I.laid (t' := s.toks + 2) (fun b o e => Heap.get?_push_of_some _ e) (Nat.le_refl _) ?_, rfl, q _ (I.hok.fresh (Nat.le_refl _))⟩
  exact ⟨_, _, _, Heap.get?_push_size _ rfl⟩
def rListRng : List V → Hp → VK → Prop := fun vs H Q => ∃ (a : Addr) (n : Nat), vs = [V.ref a] ∧ H a = some (.rng 0 (n : Int)) ∧ n ≤ 1000 ∧ ∀ p, H p = none → Q (.ref p) (upd H p (.lst (numsN (List.range n))))
theorem call_listRng (hc : X.calm = true) : CallR X (.type "list") rListRng := by
  intro pins s σ H vs us Q I r h
  obtain ⟨a, n, rfl, ha, hn, q⟩ := h
  obtain ⟨u1, rfl, ru⟩ := vals1 r
  obtain rfl : u1 = Value.ref a := ru
  obtain ⟨t1, t2, t3, ho⟩ := I.hok a _ ha
  refine call_list_range (I.ok.hd hc) (n := n) ho (small_one (by decide) (by decide) (by omega) (by omega)) (by rw [rangeSize_one]; split <;> omega) (by omega) fun h' tk acc c' hk e' hi => ?_
  refine ⟨.ref s.heap.objs.size, upd H s.heap.objs.size (.lst (numsN (List.range n))), I.laid hk (Nat.le_refl _) (show ObjOk X.prog X.w _ _ _ (.lst (numsN (List.range n))) from ⟨?_, acc.toList, c', ?_, ?_⟩), rfl, q _ (I.hok.fresh (Nat.le_refl _))⟩
  · rw [numsN_len, List.length_range]; exact small hn
  · have la : acc.toList.length = n := by rw [Array.length_toList]; exact hi.1
    have es : numsN (List.range n) = (List.range acc.toList.length).map fun i => V.int ((i : Nat) : Int) := by
      rw [la]
      rfl
    rw [es]
    refine vals_of_get acc.toList _ fun j u hj => ?_
    obtain ⟨t, rfl⟩ := hi.2 j u (by rw [← hj, Array.getElem?_toList])
    exact ⟨t, by rw [Int.mul_one, Int.zero_add]⟩
  · rw [Array.toArray_toList]
    exact e'
end
end My

set_option maxHeartbeats 4000000
/-! Orientations: lists of pairs of numbers of any kind. -/
namespace My
open PySem PySem.Spec PyProof.Rows L2
abbrev Z2 := Int × Int
def zS (p : Z2) : Sh := .tup [.int p.1, .int p.2]
def zE (p : E2) : Z2 := ((p.1 : Int), (p.2 : Int))
def zw (p : Z2) : Z2 := (p.2, p.1)
def zD (p : Z2) : PyData := .tuple [.int p.1, .int p.2]
/-- s is an orientation of es -/
def Ori (es : List E2) (s : Sh) : Prop := ∃ ps : List Z2, s = .tup (ps.map zS) ∧ ascB (ps.map zS) = true ∧ (∀ p ∈ ps, p ∈ es.map zE ∨ zw p ∈ es.map zE) ∧ ∀ e ∈ es.map zE, e ∈ ps ∨ zw e ∈ ps
open Classical in
noncomputable def oriB (es : List E2) (s : Sh) : Bool := decide (Ori es s)
theorem ori_yes {es : List E2} {s : Sh} (h : Ori es s) : oriB es s = true := @decide_eq_true _ (Classical.propDecidable _) h
theorem ori_no {es : List E2} {s : Sh} (h : ¬ Ori es s) : oriB es s = false := @decide_eq_false _ (Classical.propDecidable _) h
theorem zS_inj {p q : Z2} (h : zS p = zS q) : p = q := by
  unfold zS at h
  injection h with h
  injection h with h1 h
  injection h with h2 _
  injection h1 with h1
  injection h2 with h2
  exact Prod.ext h1 h2
theorem zSs_inj : ∀ {ps qs : List Z2}, ps.map zS = qs.map zS → ps = qs
  | [], [], _ => rfl
  | [], _ :: _, h => by cases h
  | _ :: _, [], h => by cases h
  | p :: ps, q :: qs, h => by
    rw [List.map_cons, List.map_cons] at h
    injection h with h1 h2
    rw [zS_inj h1, zSs_inj h2]
theorem ori_iff {es : List E2} {ps : List Z2} : Ori es (.tup (ps.map zS)) ↔ ascB (ps.map zS) = true ∧ (∀ p ∈ ps, p ∈ es.map zE ∨ zw p ∈ es.map zE) ∧ ∀ e ∈ es.map zE, e ∈ ps ∨ zw e ∈ ps := by
  constructor
  · rintro ⟨qs, e, h⟩
    injection e with e
    rw [zSs_inj e]
    exact h
  · exact fun h => ⟨ps, rfl, h⟩
def isZ : Sh → Bool
  | .tup [.int _, .int _] => true
  | _ => false
theorem isZ_of {s : Sh} (h : isZ s = true) : ∃ p, s = zS p := by
  unfold isZ at h
  split at h
  · exact ⟨(_, _), rfl⟩
  · cases h
theorem isZs : ∀ {ss : List Sh}, ss.all isZ = true → ∃ ps : List Z2, ss = ps.map zS
  | [], _ => ⟨[], rfl⟩
  | s :: ss, h => by
    rw [List.all_cons, Bool.and_eq_true] at h
    obtain ⟨p, rfl⟩ := isZ_of h.1
    obtain ⟨ps, rfl⟩ := isZs h.2
    exact ⟨p :: ps, rfl⟩
theorem isZ_zS (p : Z2) : isZ (zS p) = true := rfl
theorem all_isZ (ps : List Z2) : (ps.map zS).all isZ = true := by
  rw [List.all_eq_true]
  intro s hs
  obtain ⟨p, _, rfl⟩ := List.mem_map.mp hs
  rfl
theorem ori_not {es : List E2} {ss : List Sh} (h : ss.all isZ = false) : ¬ Ori es (.tup ss) := by
  rintro ⟨ps, e, _⟩
  injection e with e
  rw [e, all_isZ] at h
  cases h
theorem zS_at {K : PySem.W.Frag} {H : Hp} {x : V} {p : Z2} (h : ShAt K H x (zS p)) : ∃ t, x = .ref t ∧ SqT K H t [.int p.1, .int p.2] := by
  cases h with
  | tup h r =>
    cases r with
    | cons a r =>
      cases r with
      | cons b r =>
        cases r
        cases a
        cases b
        exact ⟨_, rfl, h⟩
theorem at_zS {K : PySem.W.Frag} {H : Hp} {t : Addr} {p : Z2} (h : SqT K H t [.int p.1, .int p.2]) : ShAt K H (.ref t) (zS p) := .tup h (.cons (.int _) (.cons (.int _) .nil))
theorem zS_dp {K : PySem.W.Frag} {H : Hp} {x : V} {p : Z2} (h : ShAt K H x (zS p)) : Dp K H x (zD p) := by
  obtain ⟨t, rfl, ht⟩ := zS_at h
  exact .tup ht (.cons (.int _) (.cons (.int _) .nil))
theorem zSs_dp {K : PySem.W.Frag} {H : Hp} : ∀ {xs : List V} {ps : List Z2}, ShsAt K H xs (ps.map zS) → DpAll K H xs (ps.map zD)
  | [], [], _ => .nil
  | _ :: _, [], h => by cases h
  | [], _ :: _, h => by cases h
  | x :: xs, p :: ps, h => by
    rw [List.map_cons] at h
    cases h with
    | cons a r => exact .cons (zS_dp a) (zSs_dp r)
theorem zSs_get {K : PySem.W.Frag} {H : Hp} {xs : List V} {ps : List Z2} (h : ShsAt K H xs (ps.map zS)) {i : Nat} {x : V} (hx : xs[i]? = some x) : ∃ p t, ps[i]? = some p ∧ x = .ref t ∧ SqT K H t [.int p.1, .int p.2] := by
  obtain ⟨s, h1, h2⟩ := h.get hx
  rw [List.getElem?_map] at h1
  cases e : ps[i]? with
  | none => rw [e] at h1; cases h1
  | some p =>
    rw [e] at h1
    cases h1
    obtain ⟨t, h3, h4⟩ := zS_at h2
    exact ⟨p, t, rfl, h3, h4⟩
theorem zD_eqv (p q : Z2) : PyData.eqv (zD p) (zD q) = decide (p = q) := by
  obtain ⟨a, b⟩ := p
  obtain ⟨c, d⟩ := q
  simp only [zD, PyData.eqv, PyData.eqvAll, Bool.and_true]
  by_cases h1 : a = c
  · subst h1
    by_cases h2 : b = d
    · subst h2
      simp
    · have z : (b == d) = false := beq_eq_false_iff_ne.mpr h2
      simp [z, h2]
  · have z : (a == c) = false := beq_eq_false_iff_ne.mpr h1
    simp [z, h1]
theorem any_zs (p : Z2) : ∀ es : List Z2, ((es.map zD).any fun z => PyData.eqv z (zD p)) = decide (p ∈ es)
  | [] => rfl
  | q :: es => by
    rw [List.map_cons, List.any_cons, any_zs p es, zD_eqv]
    by_cases h : q = p
    · subst h
      simp
    · have h' : p ≠ q := fun e => h e.symm
      simp [h, h']
theorem zD_depth (p : Z2) : (zD p).depth ≤ 3 := by simp [zD, PyData.depth, PyData.depthAll]
theorem zDs_depth : ∀ es : List Z2, PyData.depthAll (es.map zD) ≤ 3
  | [] => by simp [PyData.depthAll]
  | q :: es => by
    have h1 := zD_depth q
    have h2 := zDs_depth es
    simp only [List.map_cons, PyData.depthAll]
    omega
theorem zD_lay (p : Z2) : (zD p).canLay0 = true := by simp [zD, PyData.canLay0, PyData.canLayAll0]
theorem zDs_lay : ∀ es : List Z2, PyData.canLayAll0 (es.map zD) = true
  | [] => by simp [PyData.canLayAll0]
  | q :: es => by simp [PyData.canLayAll0, zD_lay q, zDs_lay es]
theorem pairs_zs {K : PySem.W.Frag} {H : Hp} {xs : List V} {es : List E2} (h : PairsAt K H xs es) : ShsAt K H xs ((es.map zE).map zS) := by
  have := h.sh
  rw [List.map_map]
  exact this
section
variable {X : Cx}
def rInZ (K : PySem.W.Frag) : R2 := fun x y H Q => ∃ (p : Z2) (t : Addr) (xs : List V) (es : List Z2), ShAt K H x (zS p) ∧ y = .ref t ∧ SqT K H t xs ∧ ShsAt K H xs (es.map zS) ∧ Q (.bl (decide (p ∈ es))) H
theorem op_inZ (hu : X.A.units + 64 < cLine) : OpR X (compareOp .In) (rInZ X.K) := by
  rintro pins s σ H x y v u Q I rx ry ⟨p, t, xs, es, hp, rfl, ht, hes, q⟩
  obtain ⟨as, r1⟩ := Dp.reads I _ x v (zS_dp hp) rx
  obtain ⟨bs, r2⟩ := Dp.reads I (.tuple (es.map zD)) (.ref t) u (.tup ht (zSs_dp hes)) ry
  refine SeqAt.in_tuple_reads r2 r1 (zDs_lay es) (zD_lay p) ?_ ?_
  · have := zD_depth p
    have := Nat.min_le_right (PyData.depthAll (es.map zD)) (zD p).depth
    omega
  · rw [any_zs]
    exact ⟨.bl _, H, I, rfl, q⟩
theorem pe_revK {K : PySem.W.Frag} {e : Expr} {te : TE} {k : Nat} {p1 p2 p3 pos : Pos} (he : PE X e te) (hK : X.K = K := by rfl) : PE X (.Subscript e (.Slice none none (some (.UnaryOp .USub (.Constant (.int 1) k p1) p2)) p3) pos) (tRevT K te) := by
  subst hK
  exact pe_revT he
/-- isinstance in a comprehension -/
theorem call_isiG {K : PySem.W.Frag} (hK : X.K = K := by rfl) : CallR X (.builtin "isinstance") (rIsi K) := by
  subst hK
  exact call_isi
end
theorem push_bl {f : Sh → Bool} {ss : List Sh} {i : Nat} {t : Sh} (ht : ss[i]? = some t) : ((ss.take (i + 1)).map f).map V.bl = ((ss.take i).map f).map V.bl ++ [.bl (f t)] := by
  rw [take_succ ht, List.map_append, List.map_append]
  rfl
theorem all_id {α : Type} (f : α → Bool) (l : List α) : (l.map f).all id = l.all f := by
  rw [List.all_map]
  rfl
/-- len, in a comprehension -/
def rLenZ (K : PySem.W.Frag) : List V → Hp → VK → Prop := fun xs H Q => ∃ p ys, xs = [V.ref p] ∧ (SqL K H p ys ∨ SqT K H p ys) ∧ Q (V.int ((ys.length : Nat) : Int)) H
/-! ### by what the program asks -/
theorem zE_inj {p q : E2} (h : zE p = zE q) : p = q := by
  have h1 := congrArg Prod.fst h
  have h2 := congrArg Prod.snd h
  exact Prod.ext (Int.ofNat.inj h1) (Int.ofNat.inj h2)
theorem mem_zE {p : E2} {es : List E2} : zE p ∈ es.map zE ↔ p ∈ es := by
  rw [List.mem_map]
  exact ⟨fun ⟨q, h, e⟩ => by rw [← zE_inj e]; exact h, fun h => ⟨p, h, rfl⟩⟩
def ordP (p : E2) : E2 := (min p.1 p.2, max p.1 p.2)
theorem ord_mem {n : Nat} {es : List E2} (g : Good n es) (p : E2) : ordP p ∈ es ↔ (p ∈ es ∨ (p.2, p.1) ∈ es) := by
  obtain ⟨a, b⟩ := p
  unfold ordP
  dsimp only
  by_cases h : a ≤ b
  · rw [Nat.min_eq_left h, Nat.max_eq_right h]
    constructor
    · exact .inl
    · rintro (z | z)
      · exact z
      · have := (g.lt _ z).1
        dsimp only at this
        omega
  · rw [Nat.min_eq_right (by omega), Nat.max_eq_left (by omega)]
    constructor
    · exact .inr
    · rintro (z | z)
      · have := (g.lt _ z).1
        dsimp only at this
        omega
      · exact z
theorem ord_is {n : Nat} {es : List E2} (g : Good n es) {p e : E2} (he : e ∈ es) : ordP p = e ↔ (p = e ∨ p = (e.2, e.1)) := by
  have l := (g.lt _ he).1
  obtain ⟨a, b⟩ := p
  obtain ⟨c, d⟩ := e
  dsimp only at l
  unfold ordP
  simp only [Prod.mk.injEq]
  omega
/-- the sides that lie in ps, in order, are all of es -/
theorem ori_pairs {n : Nat} {es : List E2} (g : Good n es) {ps ws : List E2} (up : ws.Pairwise ahead) (mw : ∀ q, q ∈ ws ↔ q ∈ ps.map ordP) : Ori es (.tup (ps.map pairS)) ↔ ascB (ps.map pairS) = true ∧ ws = es := by
  have e : ps.map pairS = (ps.map zE).map zS := by rw [List.map_map]; rfl
  rw [e, ori_iff]
  refine and_congr Iff.rfl ?_
  constructor
  · rintro ⟨h1, h2⟩
    refine eq_of_up up g.up fun q => ?_
    rw [mw, List.mem_map]
    constructor
    · rintro ⟨p, hp, rfl⟩
      rw [ord_mem g]
      rcases h1 (zE p) (mem_zE.mpr hp) with z | z
      · exact .inl (mem_zE.mp z)
      · exact .inr ((mem_zE (p := (p.2, p.1))).mp z)
    · intro hq
      rcases h2 (zE q) (mem_zE.mpr hq) with z | z
      · exact ⟨q, mem_zE.mp z, (ord_is g hq).mpr (.inl rfl)⟩
      · exact ⟨(q.2, q.1), (mem_zE (p := (q.2, q.1))).mp z, (ord_is g hq).mpr (.inr rfl)⟩
  · rintro rfl
    refine ⟨fun z hz => ?_, fun z hz => ?_⟩
    · obtain ⟨p, hp, rfl⟩ := List.mem_map.mp hz
      have := (mw (ordP p)).mpr (List.mem_map.mpr ⟨p, hp, rfl⟩)
      rw [ord_mem g] at this
      rcases this with h | h
      · exact .inl (mem_zE.mpr h)
      · exact .inr ((mem_zE (p := (p.2, p.1))).mpr h)
    · obtain ⟨q, hq, rfl⟩ := List.mem_map.mp hz
      obtain ⟨p, hp, e⟩ := List.mem_map.mp ((mw q).mp hq)
      rcases (ord_is g hq).mp e with rfl | rfl
      · exact .inl (mem_zE.mpr hp)
      · exact .inr (mem_zE.mpr hp)
def spLOr (K : PySem.W.Frag) : Sp := fun vs H Q _ => ∃ (x v : V) (n : Nat) (es : List E2) (s : Sh), vs = [x, v] ∧ GraphAt K H x n es ∧ Good n es ∧ ShAt K H v s ∧ Lb s ∧ ∀ H', Same H H' → Q (.bl (oriB es s)) H'
end My

set_option maxHeartbeats 8000000
namespace My
open PySem PySem.Spec PyProof.Rows L2
abbrev sPIsList : Stmt := top 34
abbrev sPIsLists : Stmt := top 33
abbrev sPChkLists : Stmt := top 35
theorem scPIsList : FnScope ["value", "colour"] ["value"] (defScope sPIsList) := ⟨rfl, rfl, rfl, by decide +kernel, rfl, by decide +kernel, by decide +kernel⟩
theorem scPIsLists : FnScope ["multigraph", "value", "row"] ["multigraph", "value"] (defScope sPIsLists) := ⟨rfl, rfl, rfl, by decide +kernel, rfl, by decide +kernel, by decide +kernel⟩
theorem scPChkLists : FnScope ["multigraph", "lists"] ["multigraph", "lists"] (defScope sPChkLists) := ⟨rfl, rfl, rfl, by decide +kernel, rfl, by decide +kernel, by decide +kernel⟩
def isList : Sh → Bool
  | .tup ss => decide (ss.length ≤ 9) && (ss.all (wholeR 0 99) && ascB ss)
  | _ => false
def isLists (m : Nat) : Sh → Bool
  | .tup ss => decide (ss.length = m) && ss.all isList
  | _ => false
def spPIsList (K : PySem.W.Frag) : Sp := fun vs H Q _ => ∃ (v : V) (s : Sh), vs = [v] ∧ ShAt K H v s ∧ ∀ H', Same H H' → Q (.bl (isList s)) H'
def spPIsLists (K : PySem.W.Frag) : Sp := fun vs H Q _ => ∃ (x v : V) (l r : Nat) (es : List E2) (s : Sh), vs = [x, v] ∧ MulAt K H x l r es ∧ MulG l r es ∧ es.length ≤ 9 ∧ ShAt K H v s ∧ ∀ H', Same H H' → Q (.bl (isLists es.length s)) H'
def spPChkLists (K : PySem.W.Frag) : Sp := fun vs H Q _ => ∃ (x v : V) (l r : Nat) (es : List E2) (s : Sh), vs = [x, v] ∧ MulAt K H x l r es ∧ MulG l r es ∧ es.length ≤ 9 ∧ ShAt K H v s ∧ isLists es.length s = true ∧ ∀ H', Same H H' → Q .non H'
section
variable {P : Program} {w : World} {K : PySem.W.Frag} {mg : Str → Option Value} {base : Heap} {f fW fA fC fL : Addr} {fd dW dA dC dL : FuncData}
theorem ok_pislist (F : L2.Fun K "_is_list" "_is_list" sPIsList f fd) (GW : FnOk P w K mg base CX0 2 fW dW ["value", "low", "high"] (spIsWholeA K)) (bW : L2.Binds K dW ["value", "low", "high"] []) (kW : PySem.W.keepIn K (.ref fW) = true) (mW : mg "is_whole" = some (.ref fW))
    (GA : FnOk P w K mg base CX0 1 fA dA ["row"] (spAscA K)) (bA : L2.Binds K dA ["row"] []) (kA : PySem.W.keepIn K (.ref fA) = true) (mA : mg "is_ascending" = some (.ref fA))
    (tk : Tok) (mS : mg "MOST_IN_A_LIST" = some (.int 9 tk)) (tk2 : Tok) (mX : mg "GREATEST_COLOUR" = some (.int 99 tk2)) (mty : mg "type" = none) (mt : mg "tuple" = none) (ma : mg "all" = none) (ml : mg "len" = none) : FnOk P w K mg base CX0 3 f fd ["value"] (spPIsList K) := by
  refine F.ok scPIsList (fun vs H Q E h => ?_) (fun cdv A outer s0 H vs Q E hr h => ?_)
  · obtain ⟨v, s, rfl, _⟩ := h
    rfl
  obtain ⟨v, s, rfl, hv, q⟩ := h
  have h1 := hr.mono (show 1 ≤ 2 by decide)
  refine ⟨_, pss_cons (ps_if (PW.pt (pw_or (pt_cmpR op_isNotTy (pe_callTy call_type1 (by rfl) mty (by decide +kernel) (pa_cons (pv 0) pa_nil)) (pe_bltn (v := .ty "tuple") (by rfl) mt (by decide +kernel) rfl) (nomark _)) (pw_or1 (pt_cmpR op_gt (pe_callB call_len_seq (by rfl) ml PySem.boot_len (pa_cons (pv 0) pa_nil)) (pe_glob (v := .int 9) (by rfl) mS ⟨_, rfl⟩) (nomark _))))) (pss_one (ps_ret pe_bl)) pss_nil)
    (pss_one (ps_ret (pe_and (pe_callB (cr_all rfl) (by rfl) ma (by decide +kernel) (pa_cons (pe_lc (own := [("colour", 1)]) (g := gName 1) (tt := tYes) rfl scPIsList.nd (pi_tup (pv 0))
        (blkOk_by (N := ["value", "colour"]) (sc := defScope sPIsList) (by decide +kernel)) (fun _ _ _ _ _ => pg_name (i := 1) scPIsList.nd rfl (Or.inl rfl)) (fun _ _ _ _ _ => pts_nil)
        (fun _ _ _ _ _ => pe_call GW hr (by rfl) mW kW bW .nil pass0 (pa_cons (pv 1) (pa_cons pe_int (pa_cons (pe_glob (v := .int 99) (by rfl) mX ⟨_, rfl⟩) pa_nil))))) pa_nil)) (pe_one (pe_call GA h1 (by rfl) mA kA bA .nil pass0 (pa_cons (pv 0) pa_nil)))))), ?_⟩
  have qn : isList s = false → Q (.bl false) H := fun c => by
    have := q H (Same.refl H)
    rw [c] at this
    exact this
  obtain ⟨T, ty, ok⟩ := hv.ty
  refine ⟨_, rfl, v, T, rfl, ty, T, "tuple", rfl, rfl, _, rfl, iteB (fun c0 => iteT (qn ?_)) (fun c0 => ?_)⟩
  · have nt : T ≠ "tuple" := by simpa using c0
    cases s with
    | tup ss => exact absurd ok nt
    | _ => rfl
  have et : T = "tuple" := by simpa using c0
  obtain ⟨ss, rfl⟩ : ∃ ss, s = .tup ss := by
    cases s with
    | tup ss => exact ⟨ss, rfl⟩
    | int i => rw [show T = "int" from ok] at et; exact absurd et (by decide)
    | bool b => rw [show T = "bool" from ok] at et; exact absurd et (by decide)
    | str x => rw [show T = "str" from ok] at et; exact absurd et (by decide)
    | oth => exact absurd et ok.2.2.1
  clear c0 et ok
  cases hv with
  | @tup u xs _ hu r =>
  have lx := r.len
  refine ⟨_, rfl, u, xs, rfl, .inr hu, _, _, rfl, rfl, _, rfl, iteB (fun c1 => qn ?_) (fun c1 => ?_)⟩
  · have := of_decide_eq_true c1
    show (decide (ss.length ≤ 9) && _) = false
    rw [decide_eq_false (by omega), Bool.false_and]
  have l9 : ss.length ≤ 9 := by
    have := of_decide_eq_false c1
    omega
  have eq0 : isList (.tup ss) = (ss.all (wholeR 0 99) && ascB ss) := by
    show (decide (ss.length ≤ 9) && _) = _
    rw [decide_eq_true l9, Bool.true_and]
  refine ⟨_, rfl, u, rfl, ⟨_, hu⟩, fun D nD => lo_it (walk_tup (xs := xs)) (fun i H2 => Same H H2 ∧ H2 D = some (.lst (((ss.take i).map (wholeR 0 99)).map V.bl))) ⟨same_new nD _, upd_same⟩ (fun i H2 _ ⟨s2, _⟩ => Same.tup s2 hu) ?_ ?_⟩
  · rintro i y _ H2 li ⟨s2, hD⟩ ⟨rfl, hy⟩
    obtain ⟨z, hz, st⟩ := (r.same s2).get hy
    refine ⟨rfl, ?_⟩
    refine ⟨_, rfl, y, z, 0, 99, rfl, st, _, hD, small1000 (by rw [List.length_map, List.length_map, List.length_take]; omega), same_put s2 nD, ?_⟩
    rw [upd_same, push_bl hz]
  rintro H2 ⟨s2, hD⟩
  rw [lx, List.take_length] at hD
  refine ⟨D, _, rfl, SqL.of hD, _, rfl, ?_⟩
  rw [all_id]
  refine iteB (fun c2 => ?_) (fun c2 => ?_)
  · refine ⟨_, rfl, u, xs, ss, rfl, Same.tup s2 hu, r.same s2, .inl fun s hs => ?_, by omega, fun H3 s3 => ?_⟩
    · have := List.all_eq_true.mp c2 s hs
      cases s with
      | int i => exact ⟨i, rfl⟩
      | _ => cases this
    · rw [eq0, c2, Bool.true_and] at q
      exact q H3 (s2.trans s3)
  · rw [eq0, c2, Bool.false_and] at q
    exact q H2 s2
theorem ok_pislists (F : L2.Fun K "is_lists" "is_lists" sPIsLists f fd) (GC : FnOk P w K mg base CX0 5 fC dC ["multigraph"] (spPCheck K)) (bC : L2.Binds K dC ["multigraph"] []) (kC : PySem.W.keepIn K (.ref fC) = true) (mC : mg "check_multigraph" = some (.ref fC))
    (GL : FnOk P w K mg base CX0 3 fL dL ["value"] (spPIsList K)) (bL : L2.Binds K dL ["value"] []) (kL : PySem.W.keepIn K (.ref fL) = true) (mL : mg "_is_list" = some (.ref fL))
    (mty : mg "type" = none) (mt : mg "tuple" = none) (ma : mg "all" = none) (ml : mg "len" = none) : FnOk P w K mg base CX0 6 f fd ["multigraph", "value"] (spPIsLists K) := by
  refine F.ok scPIsLists (fun vs H Q E h => ?_) (fun cdv A outer s0 H vs Q E hr h => ?_)
  · obtain ⟨x, v, l, r, es, s, rfl, _⟩ := h
    rfl
  obtain ⟨x, v, l, r, es, s, rfl, hx, g, e9, hv, q⟩ := h
  have h3 := hr.mono (show 3 ≤ 5 by decide)
  refine ⟨_, pss_cons (ps_expr (pe_call GC hr (by rfl) mC kC bC .nil pass0 (pa_cons (pv 0) pa_nil)))
    (pss_cons (ps_if (PW.pt (pw_or (pt_cmpR op_isNotTy (pe_callTy call_type1 (by rfl) mty (by decide +kernel) (pa_cons (pv 1) pa_nil)) (pe_bltn (v := .ty "tuple") (by rfl) mt (by decide +kernel) rfl) (nomark _)) (pw_or1 (pt_cmpR op_ne (pe_callB call_len_seq (by rfl) ml PySem.boot_len (pa_cons (pv 1) pa_nil)) (pe_callB call_len_seq (by rfl) ml PySem.boot_len (pa_cons (pe_ix (r := rIxT K) ix_tup (pv 0) pe_int (fun _ _ => rfl)) pa_nil)) (nomark _))))) (pss_one (ps_ret pe_bl)) pss_nil)
    (pss_one (ps_ret (pe_callB (cr_all rfl) (by rfl) ma (by decide +kernel) (pa_cons (pe_lc (own := [("row", 2)]) (g := gName 2) (tt := tYes) rfl scPIsLists.nd (pi_tup (pv 1))
        (blkOk_by (N := ["multigraph", "value", "row"]) (sc := defScope sPIsLists) (by decide +kernel)) (fun _ _ _ _ _ => pg_name (i := 2) scPIsLists.nd rfl (Or.inl rfl)) (fun _ _ _ _ _ => pts_nil)
        (fun _ _ _ _ _ => pe_call GL h3 (by rfl) mL kL bL .nil pass0 (pa_cons (pv 2) pa_nil))) pa_nil))))), ?_⟩
  refine ⟨_, rfl, x, l, r, es, rfl, hx, g, e9, fun H1 s1 => ?_⟩
  have hv1 := hv.same s1
  obtain ⟨t, e, ys, rfl, ht, he, hes⟩ := hx.same s1
  have le := PairsAt.len hes
  have a2 : atI [V.int (l : Int), V.int (r : Int), V.ref e] 2 = some (.ref e) := atI_nat (j := 2) rfl
  have qn : ∀ H', Same H1 H' → isLists es.length s = false → Q (.bl false) H' := fun H' s' c => by
    have := q H' (s1.trans s')
    rw [c] at this
    exact this
  obtain ⟨T, ty, ok⟩ := hv1.ty
  refine ⟨_, rfl, v, T, rfl, ty, T, "tuple", rfl, rfl, _, rfl, iteB (fun c0 => iteT (qn H1 (Same.refl H1) ?_)) (fun c0 => ?_)⟩
  · have nt : T ≠ "tuple" := by simpa using c0
    cases s with
    | tup ss => exact absurd ok nt
    | _ => rfl
  have et : T = "tuple" := by simpa using c0
  obtain ⟨ss, rfl⟩ : ∃ ss, s = .tup ss := by
    cases s with
    | tup ss => exact ⟨ss, rfl⟩
    | int i => rw [show T = "int" from ok] at et; exact absurd et (by decide)
    | bool b => rw [show T = "bool" from ok] at et; exact absurd et (by decide)
    | str x => rw [show T = "str" from ok] at et; exact absurd et (by decide)
    | oth => exact absurd et ok.2.2.1
  clear c0 et ok
  cases hv1 with
  | @tup u xs _ hu r' =>
  have lx := r'.len
  refine ⟨_, rfl, u, xs, rfl, .inr hu, _, rfl, t, _, 2, _, rfl, rfl, ht, a2, e, ys, rfl, .inr he, rfl, _, rfl, ?_⟩
  have ev : (!decide (V.int ((xs.length : Nat) : Int) = V.int ((ys.length : Nat) : Int))) = !decide (ss.length = es.length) := by
    rw [lx, le]
    congr 1
    by_cases h : ss.length = es.length
    · rw [h, decide_eq_true rfl, decide_eq_true rfl]
    · rw [decide_eq_false h, decide_eq_false (fun z => h (by injection z with z; exact Int.ofNat.inj z))]
  rw [ev]
  refine iteB (fun c1 => qn H1 (Same.refl H1) ?_) (fun c1 => ?_)
  · have c2 : decide (ss.length = es.length) = false := by simpa using c1
    show (decide (ss.length = es.length) && _) = false
    rw [c2, Bool.false_and]
  have c2 : ss.length = es.length := by simpa using c1
  have eq0 : isLists es.length (.tup ss) = ss.all isList := by
    show (decide (ss.length = es.length) && _) = _
    rw [decide_eq_true c2, Bool.true_and]
  refine ⟨_, rfl, u, rfl, ⟨_, hu⟩, fun D nD => lo_it (walk_tup (xs := xs)) (fun i H2 => Same H1 H2 ∧ H2 D = some (.lst (((ss.take i).map isList).map V.bl))) ⟨same_new nD _, upd_same⟩ (fun i H2 _ ⟨s2, _⟩ => Same.tup s2 hu) ?_ ?_⟩
  · rintro i y _ H2 li ⟨s2, hD⟩ ⟨rfl, hy⟩
    obtain ⟨z, hz, st⟩ := (r'.same s2).get hy
    refine ⟨rfl, ?_⟩
    refine ⟨_, rfl, y, z, rfl, st, fun H3 s3 => ⟨_, s3 _ _ hD, small1000 (by rw [List.length_map, List.length_map, List.length_take]; omega), same_put (s2.trans s3) nD, ?_⟩⟩
    rw [upd_same, push_bl hz]
  rintro H2 ⟨s2, hD⟩
  rw [lx, List.take_length] at hD
  refine ⟨D, _, rfl, SqL.of hD, ?_⟩
  rw [all_id]
  rw [eq0] at q
  exact q H2 (s1.trans s2)
theorem ok_pchklists (F : L2.Fun K "check_lists" "check_lists" sPChkLists f fd) (GL : FnOk P w K mg base CX0 6 fL dL ["multigraph", "value"] (spPIsLists K)) (bL : L2.Binds K dL ["multigraph", "value"] []) (kL : PySem.W.keepIn K (.ref fL) = true) (mL : mg "is_lists" = some (.ref fL)) : FnOk P w K mg base CX0 7 f fd ["multigraph", "lists"] (spPChkLists K) := by
  refine F.ok scPChkLists (fun vs H Q E h => ?_) (fun cdv A outer s0 H vs Q E hr h => ?_)
  · obtain ⟨x, v, l, r, es, s, rfl, _⟩ := h
    rfl
  obtain ⟨x, v, l, r, es, s, rfl, hx, g, e9, hv, yes, q⟩ := h
  refine ⟨_, pss_one (ps_if (pt_not (pt_val (pe_call GL hr (by rfl) mL kL bL .nil pass0 (pa_cons (pv 0) (pa_cons (pv 1) pa_nil))))) (pss_one ps_never) pss_nil), ?_⟩
  refine ⟨_, rfl, _, rfl, x, v, l, r, es, s, rfl, hx, g, e9, hv, fun H' s' => ?_⟩
  rw [yes]
  exact ⟨_, rfl, iteF (q H' s')⟩
end
end My

set_option maxHeartbeats 8000000
namespace My
open PySem PySem.Spec PyProof.Rows L2
abbrev sIsCol : Stmt := top 20
theorem scIsCol : FnScope ["graph", "value", "many", "edges", "colour", "one", "other"] ["graph", "value"] (defScope sIsCol) := ⟨rfl, rfl, rfl, by decide +kernel, rfl, by decide +kernel, by decide +kernel⟩
/-- a colouring, whatever its numbers -/
def isCol (n : Nat) (es : List E2) : Sh → Bool
  | .tup ss => decide (ss.length = n) && (ss.all (wholeF 0) && es.all fun p => !(intS (ss.getD p.1 (.int 0)) == intS (ss.getD p.2 (.int 0))))
  | _ => false
def spIsCol (K : PySem.W.Frag) : Sp := fun vs H Q _ => ∃ (x : V) (n : Nat) (es : List E2) (v : V) (s : Sh), vs = [x, v] ∧ GraphAt K H x n es ∧ Good n es ∧ ShAt K H v s ∧ ∀ H', Same H H' → Q (.bl (isCol n es s)) H'
section
variable {P : Program} {w : World} {K : PySem.W.Frag} {mg : Str → Option Value} {base : Heap} {f fC fW : Addr} {fd dC dW : FuncData}
theorem ok_is_col (F : L2.Fun K "is_colouring" "is_colouring" sIsCol f fd) (GC : FnOk P w K mg base CX0 5 fC dC ["graph"] (spCheckGraph K)) (bC : L2.Binds K dC ["graph"] []) (kC : PySem.W.keepIn K (.ref fC) = true) (mC : mg "check_graph" = some (.ref fC))
    (GW : FnOk P w K mg base CX0 1 fW dW ["value", "low"] (spWholeFromA K)) (bW : L2.Binds K dW ["value", "low"] []) (kW : PySem.W.keepIn K (.ref fW) = true) (mW : mg "is_whole_from" = some (.ref fW))
    (mty : mg "type" = none) (mt : mg "tuple" = none) (ma : mg "all" = none) (ml : mg "len" = none) : FnOk P w K mg base CX0 6 f fd ["graph", "value"] (spIsCol K) := by
  refine F.ok scIsCol (fun vs H Q E h => ?_) (fun cdv A outer s H vs Q E hr h => ?_)
  · obtain ⟨x, n, es, v, s, rfl, _⟩ := h
    rfl
  obtain ⟨x, n, es, v, s, rfl, hx, g, hv, q⟩ := h
  refine ⟨_, pss_cons (ps_expr (pe_call GC hr (by rfl) mC kC bC .nil pass0 (pa_cons (pv 0) pa_nil)))
    (pss_cons (ps_asg (pv 0) (pg_tup (by rfl) (pgs_cons (pg_name (i := 2) scIsCol.nd rfl (.inl rfl)) (pgs_cons (pg_name (i := 3) scIsCol.nd rfl (.inl rfl)) pgs_nil))))
    (pss_cons (ps_if (PW.pt (pw_or (pt_cmpR op_isNotTy (pe_callTy call_type1 (by rfl) mty (by decide +kernel) (pa_cons (pv 1) pa_nil)) (pe_bltn (v := .ty "tuple") (by rfl) mt (by decide +kernel) rfl) (nomark _)) (pw_or1 (pt_cmpR op_ne (pe_callB call_len_seq (by rfl) ml PySem.boot_len (pa_cons (pv 1) pa_nil)) (pv 2) (nomark _))))) (pss_one (ps_ret pe_bl)) pss_nil)
    (pss_cons (ps_if (pt_not (pt_val (pe_callB (cr_all rfl) (by rfl) ma (by decide +kernel) (pa_cons (pe_lc (own := [("colour", 4)]) (g := gName 4) (tt := tYes) rfl scIsCol.nd (pi_tup (pv 1))
        (blkOk_by (N := ["graph", "value", "many", "edges", "colour", "one", "other"]) (sc := defScope sIsCol) (by decide +kernel)) (fun _ _ _ _ _ => pg_name (i := 4) scIsCol.nd rfl (Or.inl rfl)) (fun _ _ _ _ _ => pts_nil)
        (fun _ _ _ _ _ => pe_call GW (hr.mono (by decide)) (by rfl) mW kW bW .nil pass0 (pa_cons (pv 4) (pa_cons pe_int pa_nil)))) pa_nil)))) (pss_one (ps_ret pe_bl)) pss_nil)
    (pss_one (ps_ret (pe_callB (cr_all rfl) (by rfl) ma (by decide +kernel) (pa_cons (pe_lc (own := [("one", 5), ("other", 6)]) (g := gTup K 2 (gCons (gName 5) (gCons (gName 6) gNil))) (tt := tYes) rfl scIsCol.nd (pi_tup (pv 3))
        (blkOk_by (N := ["graph", "value", "many", "edges", "colour", "one", "other"]) (sc := defScope sIsCol) (by decide +kernel)) (fun _ _ _ _ _ => pg_tup (by rfl) (pgs_cons (pg_name (i := 5) scIsCol.nd rfl (Or.inl rfl)) (pgs_cons (pg_name (i := 6) scIsCol.nd rfl (Or.inl rfl)) pgs_nil))) (fun _ _ _ _ _ => pts_nil)
        (fun _ _ _ _ _ => pe_cmpR (r := rNe) op_ne (pe_ix (r := rIxT K) ix_tup (pv 1) (pv 5) (fun _ _ => rfl)) (pe_ix (r := rIxT K) ix_tup (pv 1) (pv 6) (fun _ _ => rfl)) (nomark _))) pa_nil))))))), ?_⟩
  refine ⟨_, rfl, x, n, es, rfl, hx, g, fun H1 s1 => ?_⟩
  obtain ⟨t, e, ys, rfl, ht, he, hes⟩ := hx.same s1
  refine ⟨_, rfl, t, _, rfl, ht, rfl, _, _, rfl, _, _, rfl, rfl, ?_⟩
  have hv1 := hv.same s1
  obtain ⟨T, ty, ok⟩ := hv1.ty
  refine ⟨_, rfl, v, T, rfl, ty, T, "tuple", rfl, rfl, _, rfl, ?_⟩
  refine iteB (fun c3 => ?_) (fun c3 => ?_)
  · refine iteT ?_
    have nt : T ≠ "tuple" := by simpa using c3
    have e : isCol n es s = false := by
      cases s with
      | tup es => exact absurd ok nt
      | _ => rfl
    have q0 := q H1 s1
    rw [e] at q0
    exact q0
  have et : T = "tuple" := by simpa using c3
  obtain ⟨ss, rfl⟩ : ∃ ss, s = .tup ss := by
    cases s with
    | tup ss => exact ⟨ss, rfl⟩
    | int i => rw [show T = "int" from ok] at et; exact absurd et (by decide)
    | bool b => rw [show T = "bool" from ok] at et; exact absurd et (by decide)
    | str x => rw [show T = "str" from ok] at et; exact absurd et (by decide)
    | oth => exact absurd et ok.2.2.1
  have eq : isCol n es (.tup ss) = (decide (ss.length = n) && (ss.all (wholeF 0) && es.all fun p => !(intS (ss.getD p.1 (.int 0)) == intS (ss.getD p.2 (.int 0))))) := rfl
  have n9 := g.n9
  have few := g.few
  have le := PairsAt.len hes
  cases hv1 with
  | @tup u xs _ hu r =>
  have lx := r.len
  refine ⟨_, rfl, u, _, rfl, .inr hu, _, rfl, rfl, _, rfl, ?_⟩
  refine iteB (fun c4 => ?_) (fun c4 => ?_)
  · have ne : ss.length ≠ n := fun z => by
      have z2 : decide (V.int ((xs.length : Nat) : Int) = V.int (n : Int)) = true := decide_eq_true (by rw [lx, z])
      rw [z2] at c4
      cases c4
    have q0 := q H1 s1
    rw [eq, decide_eq_false ne, Bool.false_and] at q0
    exact q0
  have ln : ss.length = n := by
    by_cases z : ss.length = n
    · exact z
    · have z2 : decide (V.int ((xs.length : Nat) : Int) = V.int (n : Int)) = false := decide_eq_false fun w => z (by
        injection w with w
        rw [lx] at w
        exact Int.ofNat.inj w)
      rw [z2] at c4
      cases c4
  rw [eq, decide_eq_true ln, Bool.true_and] at q
  refine ⟨_, rfl, u, rfl, ⟨_, hu⟩, fun D nD => lo_it (walk_tup (xs := xs)) (fun i H2 => Same H1 H2 ∧ H2 D = some (.lst (((ss.take i).map (wholeF 0)).map V.bl))) ⟨same_new nD _, upd_same⟩ (fun i H2 _ ⟨s2, _⟩ => Same.tup s2 hu) ?_ ?_⟩
  · rintro i y _ H2 li ⟨s2, hD⟩ ⟨rfl, hi⟩
    obtain ⟨z, hz, sz⟩ := (r.same s2).get hi
    refine ⟨rfl, ?_⟩
    refine ⟨_, rfl, y, z, 0, rfl, sz, _, hD, small1000 (by rw [List.length_map, List.length_map, List.length_take]; omega), same_put s2 nD, ?_⟩
    rw [upd_same, take_succ hz, List.map_append, List.map_append]
    rfl
  rintro H2 ⟨s2, hD⟩
  rw [lx, List.take_length] at hD
  refine ⟨D, _, rfl, SqL.of hD, _, rfl, ?_⟩
  have ea : (ss.map (wholeF 0)).all id = ss.all (wholeF 0) := by rw [List.all_map]; rfl
  rw [ea]
  refine iteB (fun c5 => ?_) (fun c5 => ?_)
  · have c6 : ss.all (wholeF 0) = false := by
      cases z : ss.all (wholeF 0) with
      | false => rfl
      | true => rw [z] at c5; cases c5
    have q1 := q H2 (s1.trans s2)
    rw [c6, Bool.false_and] at q1
    exact q1
  have c6 : ss.all (wholeF 0) = true := by
    cases z : ss.all (wholeF 0) with
    | true => rfl
    | false => rw [z] at c5; cases c5
  rw [c6, Bool.true_and] at q
  have xint : ∀ k, k < n → xs[k]? = some (V.int (intS (ss.getD k (.int 0)))) := fun k hk => by
    have hkx : k < xs.length := by omega
    obtain ⟨z, hz, sz⟩ := r.get (List.getElem?_eq_getElem hkx)
    have wz := List.all_eq_true.mp c6 z (List.mem_of_getElem? hz)
    rw [List.getElem?_eq_getElem hkx, List.getD_eq_getElem?_getD, hz]
    generalize xs[k] = xv at sz ⊢
    cases z with
    | int i =>
      cases sz
      rfl
    | _ => cases wz
  refine ⟨_, rfl, e, rfl, ⟨_, Same.tup s2 he⟩, fun D2 nD2 => lo_it (walk_tup (xs := ys)) (fun i H3 => Same H2 H3 ∧ H3 D2 = some (.lst (((es.take i).map fun p => !(intS (ss.getD p.1 (.int 0)) == intS (ss.getD p.2 (.int 0)))).map V.bl))) ⟨same_new nD2 _, upd_same⟩ (fun i H3 _ ⟨s3, _⟩ => Same.tup s3 (Same.tup s2 he)) ?_ ?_⟩
  · rintro i y _ H3 li ⟨s3, hD2⟩ ⟨rfl, hi⟩
    have s23 := s2.trans s3
    obtain ⟨p, hp, w2, rfl, hw2⟩ := PairsAt.get (hes.same s23) hi
    obtain ⟨l1, l2⟩ := g.lt p (List.mem_of_getElem? hp)
    have hu3 := Same.tup s23 hu
    refine ⟨w2, _, rfl, hw2, rfl, _, _, rfl, _, _, rfl, rfl, ?_⟩
    refine ⟨rfl, ?_⟩
    refine ⟨_, rfl, _, rfl, u, _, _, _, rfl, rfl, hu3, atI_nat (xint p.1 (by omega)), _, rfl, _, rfl, u, _, _, _, rfl, rfl, hu3, atI_nat (xint p.2 l2), rfl, _, hD2, small1000 (by rw [List.length_map, List.length_map, List.length_take]; omega), same_put s3 nD2, ?_⟩
    rw [upd_same, take_succ hp, List.map_append, List.map_append, dec_int]
    rfl
  · rintro H3 ⟨s3, hD2⟩
    rw [le, List.take_length] at hD2
    refine ⟨D2, _, rfl, SqL.of hD2, ?_⟩
    have q1 := q H3 (s1.trans (s2.trans s3))
    have eb : (es.map fun p => !(intS (ss.getD p.1 (.int 0)) == intS (ss.getD p.2 (.int 0)))).all id = es.all fun p => !(intS (ss.getD p.1 (.int 0)) == intS (ss.getD p.2 (.int 0))) := by rw [List.all_map]; rfl
    rw [eb]
    exact q1
end
end My

set_option maxHeartbeats 8000000
namespace My
open PySem PySem.Spec PyProof.Rows L2 RZ
abbrev sPFrom : Stmt := top 36
theorem scPFrom : FnScope ["multigraph", "lists", "value", "colour", "row"] ["multigraph", "lists", "value"] (defScope sPFrom) := ⟨rfl, rfl, rfl, by decide +kernel, rfl, by decide +kernel, by decide +kernel⟩
def lotZ (l : List Nat) : Sh := .tup (l.map fun k => Sh.int ((k : Nat) : Int))
def listsZ (LL : List (List Nat)) : Sh := .tup (LL.map lotZ)
def inB (s : Sh) (l : List Nat) : Bool := match s with
  | .int i => l.any fun k => ((k : Nat) : Int) == i
  | _ => false
def fromB (ss : List Sh) (LL : List (List Nat)) : Bool := (List.zipWith inB ss LL).all id
def isFrom (es : List E2) (LL : List (List Nat)) (s : Sh) : Bool := isCol es.length (lineP es) s && match s with
  | .tup ss => fromB ss LL
  | _ => false
theorem nums_at {K : PySem.W.Frag} {H : Hp} : ∀ {l : List Nat} {xs : List V}, ShsAt K H xs (l.map fun k => Sh.int ((k : Nat) : Int)) → xs = numsN l
  | [], [], _ => rfl
  | [], _ :: _, h => by cases h
  | _ :: _, [], h => by cases h
  | k :: l, x :: xs, h => by
    rw [List.map_cons] at h
    cases h with
    | cons a r =>
      cases a
      rw [nums_at r]
      rfl
theorem lotZ_at {K : PySem.W.Frag} {H : Hp} {x : V} {l : List Nat} (h : ShAt K H x (lotZ l)) : ∃ u, x = .ref u ∧ SqT K H u (numsN l) := by
  unfold lotZ at h
  cases h with
  | @tup u xs _ hu r =>
    rw [nums_at r] at hu
    exact ⟨u, rfl, hu⟩
theorem listsZ_at {K : PySem.W.Frag} {H : Hp} {x : V} {LL : List (List Nat)} (h : ShAt K H x (listsZ LL)) : ∃ u xs, x = .ref u ∧ SqT K H u xs ∧ ShsAt K H xs (LL.map lotZ) := by
  unfold listsZ at h
  cases h with
  | tup hu r => exact ⟨_, _, rfl, hu, r⟩
theorem lotsZ_get {K : PySem.W.Frag} {H : Hp} {xs : List V} {LL : List (List Nat)} (h : ShsAt K H xs (LL.map lotZ)) {i : Nat} {x : V} (hx : xs[i]? = some x) : ∃ l u, LL[i]? = some l ∧ x = .ref u ∧ SqT K H u (numsN l) := by
  obtain ⟨s, h1, h2⟩ := h.get hx
  rw [List.getElem?_map] at h1
  cases e : LL[i]? with
  | none => rw [e] at h1; cases h1
  | some l =>
    rw [e] at h1
    cases h1
    obtain ⟨u, h3, h4⟩ := lotZ_at h2
    exact ⟨l, u, rfl, h3, h4⟩
theorem inV_num (i : Int) : ∀ l : List Nat, inV (V.int i) (numsN l) = l.any fun k => ((k : Nat) : Int) == i
  | [] => rfl
  | a :: l => by
    have ih := inV_num i l
    unfold inV numsN at ih ⊢
    rw [List.map_cons, List.any_cons, List.any_cons, ih]
    congr 1
theorem flat_nums (l : List Nat) : (numsN l).all flatV = true := by
  unfold numsN
  rw [List.all_map, List.all_eq_true]
  intro k _
  rfl
def spPFrom (K : PySem.W.Frag) : Sp := fun vs H Q _ => ∃ (x y v : V) (l r : Nat) (es : List E2) (LL : List (List Nat)) (s : Sh), vs = [x, y, v] ∧ MulAt K H x l r es ∧ MulG l r es ∧ es.length ≤ 9 ∧ ShAt K H y (listsZ LL) ∧ isLists es.length (listsZ LL) = true ∧ ShAt K H v s ∧ ∀ H', Same H H' → Q (.bl (isFrom es LL s)) H'
section
variable {P : Program} {w : World} {K : PySem.W.Frag} {mg : Str → Option Value} {base : Heap} {f fC fI fL : Addr} {fd dC dI dL : FuncData}
theorem ok_pfrom (F : L2.Fun K "is_from_lists" "is_from_lists" sPFrom f fd) (GC : FnOk P w K mg base CX0 7 fC dC ["multigraph", "lists"] (spPChkLists K)) (bC : L2.Binds K dC ["multigraph", "lists"] []) (kC : PySem.W.keepIn K (.ref fC) = true) (mC : mg "check_lists" = some (.ref fC))
    (GI : FnOk P w K mg base CX0 6 fI dI ["graph", "value"] (spIsCol K)) (bI : L2.Binds K dI ["graph", "value"] []) (kI : PySem.W.keepIn K (.ref fI) = true) (mI : mg "is_colouring" = some (.ref fI))
    (GL : FnOk P w K mg base CX0 6 fL dL ["multigraph"] (spPLine K)) (bL : L2.Binds K dL ["multigraph"] []) (kL : PySem.W.keepIn K (.ref fL) = true) (mL : mg "line_graph" = some (.ref fL))
    (ma : mg "all" = none) (mz : mg "zip" = none) : FnOk P w K mg base CX0 8 f fd ["multigraph", "lists", "value"] (spPFrom K) := by
  refine F.ok scPFrom (fun vs H Q E h => ?_) (fun cdv A outer s0 H vs Q E hr h => ?_)
  · obtain ⟨x, y, v, l, r, es, LL, s, rfl, _⟩ := h
    rfl
  obtain ⟨x, y, v, l, r, es, LL, s, rfl, hx, g, e9, hy, yl, hv, q⟩ := h
  have h6 := hr.mono (show 6 ≤ 7 by decide)
  refine ⟨_, pss_cons (ps_expr (pe_call GC hr (by rfl) mC kC bC .nil pass0 (pa_cons (pv 0) (pa_cons (pv 1) pa_nil))))
    (pss_cons (ps_if (pt_not (pt_val (pe_call GI h6 (by rfl) mI kI bI .nil pass0 (pa_cons (pe_call GL h6 (by rfl) mL kL bL .nil pass0 (pa_cons (pv 0) pa_nil)) (pa_cons (pv 2) pa_nil))))) (pss_one (ps_ret pe_bl)) pss_nil)
    (pss_one (ps_ret (pe_callB (cr_all rfl) (by rfl) ma (by decide +kernel) (pa_cons (pe_lc (own := [("colour", 3), ("row", 4)]) (g := gTup K 2 (gCons (gName 3) (gCons (gName 4) gNil))) (tt := tYes) rfl scPFrom.nd (pi_zipA (by rfl) mz (pa_cons (pv 2) (pa_cons (pv 1) pa_nil)))
        (blkOk_by (N := ["multigraph", "lists", "value", "colour", "row"]) (sc := defScope sPFrom) (by decide +kernel)) (fun _ _ _ _ _ => pg_tup (by rfl) (pgs_cons (pg_name (i := 3) scPFrom.nd rfl (Or.inl rfl)) (pgs_cons (pg_name (i := 4) scPFrom.nd rfl (Or.inl rfl)) pgs_nil))) (fun _ _ _ _ _ => pts_nil)
        (fun _ _ _ _ _ => pe_cmpR (r := rIn K false) op_in_seq (pv 3) (pv 4) (by rfl))) pa_nil))))), ?_⟩
  refine ⟨_, rfl, _, rfl, x, y, l, r, es, _, rfl, hx, g, e9, hy, yl, fun H1 s1 => ?_⟩
  have hx1 := hx.same s1
  refine ⟨_, rfl, x, l, r, es, rfl, hx1, g, e9, fun z H2 s2 hz => ?_⟩
  have s02 := s1.trans s2
  refine ⟨_, rfl, z, es.length, lineP es, v, s, rfl, hz, line_good e9, hv.same s02, fun H3 s3 => ⟨_, rfl, iteB (fun c => ?_) (fun c => ?_)⟩⟩
  · have q1 := q H3 (s02.trans s3)
    have c2 : isCol es.length (lineP es) s = false := by simpa using c
    unfold isFrom at q1
    rw [c2, Bool.false_and] at q1
    exact q1
  have c2 : isCol es.length (lineP es) s = true := by simpa using c
  obtain ⟨ss, rfl⟩ : ∃ ss, s = .tup ss := by
    cases s with
    | tup ss => exact ⟨ss, rfl⟩
    | _ => cases c2
  have c3 : (decide (ss.length = es.length) && (ss.all (wholeF 0) && (lineP es).all fun p => !(intS (ss.getD p.1 (.int 0)) == intS (ss.getD p.2 (.int 0))))) = true := c2
  rw [Bool.and_eq_true, Bool.and_eq_true, decide_eq_true_eq] at c3
  have num : ∀ t ∈ ss, ∃ k, t = .int k := fun t ht => by
    have := List.all_eq_true.mp c3.2.1 t ht
    cases t with
    | int k => exact ⟨k, rfl⟩
    | _ => cases this
  have s03 := s02.trans s3
  obtain ⟨u, ys, rfl, hu, hys⟩ := listsZ_at (hy.same s03)
  have hv3 := hv.same s03
  cases hv3 with
  | @tup t xs _ ht hxs =>
  have ll : LL.length = es.length := by
    have yl2 : (decide ((LL.map lotZ).length = es.length) && (LL.map lotZ).all isList) = true := yl
    rw [Bool.and_eq_true, decide_eq_true_eq, List.length_map] at yl2
    exact yl2.1
  have lx := hxs.len
  have ly := hys.len
  rw [List.length_map] at ly
  have lw : (List.zipWith inB ss LL).length = es.length := by rw [List.length_zipWith, c3.1, ll, Nat.min_self]
  refine ⟨_, rfl, _, rfl, t, u, xs, ys, rfl, .inr ⟨ht, hu, fun B nB => lc_it (walk_zipT (n := es.length) (by rw [lx, ly, c3.1, ll, Nat.min_self])) (fun i H4 => Same H3 H4 ∧ H4 B = some (.lst (((List.zipWith inB ss LL).take i).map V.bl))) ⟨same_new nB _, upd_same⟩ (fun i H4 _ ⟨s4, _⟩ => ⟨Same.tup s4 ht, Same.tup s4 hu⟩) ?_ ?_⟩⟩
  · rintro i x' H4 H5 li ⟨s4, hB⟩ ⟨T, y', z', e1, nT, e2, hy', hz'⟩
    subst e1
    subst e2
    have s5 := same_new nT (.tup [y', z'])
    have sA := s4.trans s5
    obtain ⟨a, ha, sa⟩ := (hxs.same sA).get hy'
    obtain ⟨k, rfl⟩ := num a (List.mem_of_getElem? ha)
    cases sa
    obtain ⟨m, w1, hm, rfl, hw1⟩ := lotsZ_get (hys.same sA) hz'
    have hz2 : (List.zipWith inB ss LL)[i]? = some (inB (.int k) m) := by rw [List.getElem?_zipWith, ha, hm]
    refine ⟨T, _, rfl, SqT.of upd_same, rfl, _, _, rfl, _, _, rfl, rfl, rfl, ?_⟩
    refine ⟨_, rfl, _, rfl, w1, _, rfl, .inr hw1, rfl, flat_nums m, _, s5 _ _ hB, small1000 (by rw [List.length_map, List.length_take]; omega), same_put (s4.trans s5) nB, ?_⟩
    rw [upd_same, take_succ hz2, List.map_append, if_neg (by decide), inV_num]
    rfl
  · rintro H4 ⟨s4, hB⟩
    rw [← lw, List.take_length] at hB
    refine ⟨B, _, rfl, SqL.of hB, ?_⟩
    have q1 := q H4 (s03.trans s4)
    unfold isFrom at q1
    rw [c2, Bool.true_and] at q1
    exact q1
end
end My

set_option maxHeartbeats 6400000
/-! set(xs), xs a list of tuples of ints of any length, at most 62 unlike ones. -/
namespace My
open PySem PySem.Spec PyProof.Rows L2
section
variable {P : Program} {w : World} {A : Around} {E : Value → Shared → Prop} {s : Shared}
theorem st_loop {I : Addr} {fp wr : List Addr} {G : Array GenState → Array GenState → Prop} {n : Nat} {Pv : Nat → Value → Prop} {St : Nat → Shared → Prop} {R : Result → Shared → Prop}
    (W : WalksS P w A.in1 I fp wr G n Pv St) (S : Addr) (offS : S ∉ fp) (ks : List (Addr × List Int)) (hn : n = ks.length) (hfew : ∀ M : List (Addr × List Int), (∀ p ∈ M, p ∈ ks) → (M.map (·.2)).Nodup → M.length ≤ 62) (hval : ∀ i v, Pv i v → ∃ p, ks[i]? = some p ∧ v = .ref p.1)
    (h0 : Heap) (hk : ∀ p ∈ ks, IsT P w h0 p.2 p.1) (hS0 : h0.get? S = none) (hw0 : ∀ b ∈ wr, h0.get? b = none) (hu : A.in1.units < cLine) :
    ∀ (k i : Nat) (s : Shared), n - i = k → i ≤ n → St i s → (∀ b o, h0.get? b = some o → s.heap.get? b = some o) → (∃ L es ep t, SetTR P w s.heap S L es ep t ∧ Got ks i L) →
      (∀ s' L es ep t, Moved (S :: wr) G s s' → SetTR P w s'.heap S L es ep t → Got ks n L → (∀ b o, h0.get? b = some o → s'.heap.get? b = some o) → R (.ok (.ret .none)) s') →
      codeAny (model P w) A (.builtin "set.update.loop" ⟨[.ref S, .ref I], []⟩) R s := by
  have offw : S ∉ wr := fun h => offS (W.sub _ h)
  have into : ∀ b ∈ wr, b ∈ S :: wr := fun b hb => List.mem_cons_of_mem _ hb
  have stays : ∀ {s s' : Shared}, Moved wr G s s' → (∀ b o, h0.get? b = some o → s.heap.get? b = some o) → ∀ b o, h0.get? b = some o → s'.heap.get? b = some o := fun hm kp b o e =>
    hm.heap b o (fun hb => by rw [hw0 b hb] at e; cases e) (kp b o e)
  intro k
  induction k with
  | zero =>
    intro i s hk' hi st0 kp ⟨L, es, ep, t, hS, g⟩ hR
    have hin : i = n := by omega
    subst hin
    refine codeAny_builtin PyProof.Rows.F.entry_set_update_loop ?_
    rw [Around.under_plainId PyProof.Rows.F.plain_set_update_loop _]
    show wpAny _ A.in1 (pyNext (.ref I) >>= _) _ _ s
    refine wpAny_bind (W.done s _ _ st0 fun s' hm => ?_)
    show wpAny _ A.in1 (ret Value.none) _ _ s'
    have kp' := stays hm kp
    have sub : ∀ p ∈ L, p ∈ ks := fun p hp => List.mem_of_mem_take (g.sub p hp)
    exact wpAny_pure (hR s' L es ep t (hm.mono into) (hS.keep (fun o e => hm.heap S o offw e) fun p hp => isT_keep (hk p (sub p hp)) kp') g kp')
  | succ k ih =>
    intro i s hk' hi st0 kp ⟨L, es, ep, t, hS, g⟩ hR
    have hlt : i < n := by omega
    refine codeAny_builtin PyProof.Rows.F.entry_set_update_loop ?_
    rw [Around.under_plainId PyProof.Rows.F.plain_set_update_loop _]
    show wpAny _ A.in1 (pyNext (.ref I) >>= _) _ _ s
    refine wpAny_bind (W.item i s _ _ hlt st0 fun v s' hP st' hm => ?_)
    obtain ⟨p, hp, rfl⟩ := hval i v hP
    have kp' := stays hm kp
    have sub : ∀ p ∈ L, p ∈ ks := fun p hp => List.mem_of_mem_take (g.sub p hp)
    have hS' : SetTR P w s'.heap S L es ep t := hS.keep (fun o e => hm.heap S o offw e) fun q hq => isT_keep (hk q (sub q hq)) kp'
    have hx : IsT P w s'.heap p.2 p.1 := isT_keep (hk p (List.mem_of_getElem? hp)) kp'
    show wpAny _ A.in1 (holding [Value.ref p.1] (setAdd S (.ref p.1)) >>= _) _ _ s'
    refine wpAny_bind (wpAny_holding ?_)
    unfold setAdd
    refine wpAny_holding ?_
    refine wpAny_bind (wpAny_pyHash_tuple hu hx ?_)
    refine add_at (s := { s' with toks := s'.toks + (p.2.length + 1) }) hS' hx hu (by have := hfew L sub hS.nd; omega) fun b h' L' es' ep' t' hsb hS2 c1 c2 => ?_
    have g' : Got ks (i + 1) L' := by
      rcases Classical.em (p.2 ∈ L.map (·.2)) with c | c
      · rw [c1 c]; exact g.same hp c
      · exact g.more hp (c2 c)
    have kp2 : ∀ b o, h0.get? b = some o → h'.get? b = some o := fun b o e => (hsb.2 b (fun z => by rw [z, hS0] at e; cases e)).trans (kp' b o e)
    refine wpAny_pure ⟨plainId_quiet PyProof.Rows.F.plain_set_update_loop _, ih (i + 1) _ (by omega) hlt (W.frame _ s' _ _ st' (Nat.le_add_right _ _) fun b hb o e => ?_) kp2 ⟨L', es', ep', t', hS2, g'⟩ fun s'' L2 es2 ep2 t2 hm'' hS'' g'' kp'' => ?_⟩
    · rw [hsb.2 b (fun h : b = S => offS (by rw [← h]; exact hb))]; exact e
    · refine hR s'' L2 es2 ep2 t2 (Moved.trans W.gtrans ((hm.mono into).then_heap (Nat.le_add_right _ _) fun b o hb e => ?_) hm'') hS'' g'' kp''
      rw [hsb.2 b (fun h : b = S => hb (by rw [h]; exact List.mem_cons_self))]; exact e

theorem st_call {l : Addr} {items : Array Value} (ks : List (Addr × List Int)) {Q : Value → Shared → Prop} (hh : A.handled = none) (hl : s.heap.IsList l items) (hit : items.toList = ks.map fun p => Value.ref p.1)
    (hk : ∀ p ∈ ks, IsT P w s.heap p.2 p.1) (hfew : ∀ M : List (Addr × List Int), (∀ p ∈ M, p ∈ ks) → (M.map (·.2)).Nodup → M.length ≤ 62) (hu : A.units + 3 < cLine)
    (h : ∀ (h' : Heap) (tk : Nat) L es ep t, SetTR P w h' s.heap.objs.size L es ep t → Got ks ks.length L → (∀ b o, s.heap.get? b = some o → h'.get? b = some o) → Q (.ref s.heap.objs.size) { s with heap := h', toks := tk }) :
    wpAny (model P w) A (call (.type "set") [.ref l]) Q E s := by
  have lenI : items.size = ks.length := by
    have q := congrArg List.length hit
    rw [Array.length_toList, List.length_map] at q
    exact q
  obtain ⟨c, tl, mr⟩ := F.called_set.mro
  have md := F.called_set.made
  have into := F.called_set.sub
  refine wpAny_call (codeAny_of_tree ?_)
  show wpAny _ _ (callAny (.type "set") _) _ _ _
  refine wpAny_pure ⟨Code.quiet_builtin _ (by decide +kernel), codeAny_builtin F.entry_type_call ?_⟩
  rw [Around.under_plain (weight_type_call_type "set" [.ref l] []) rfl]
  have h1 := F.called_set.notType
  have h2 := F.called_set.canCreate
  have ct := F.typeCall_set_1 (.ref l)
  repeat (any_goals (first | assumption | wp_step))

  refine codeAny_mono (code_set_led1 (.ref l) (E := E) (Q₁ := fun obj s₁ => obj = .ref s.heap.objs.size ∧ s₁ = { s with heap := s.heap.push { cls := .type "set", dict := none, data := .set #[] 0 (.fresh 0 0 (!w.params.followText "set-order")) } }) ⟨rfl, rfl⟩) fun r s₁ hr => ?_
  cases r with
  | error e => exact hr
  | ok fl =>
    cases fl with
    | ret obj =>
      obtain ⟨rfl, rfl⟩ := hr
      have hS : (s.heap.push { cls := .type "set", dict := none, data := .set #[] 0 (.fresh 0 0 (!w.params.followText "set-order")) }).get? s.heap.objs.size = some { cls := .type "set", dict := none, data := .set #[] 0 (.fresh 0 0 (!w.params.followText "set-order")) } := Heap.get?_push_size _ rfl
      have hT : Shared.TypeIs { s with heap := s.heap.push { cls := .type "set", dict := none, data := .set #[] 0 (.fresh 0 0 (!w.params.followText "set-order")) } } (.ref s.heap.objs.size) "set" := ⟨_, hS, rfl⟩
      have hli := F.called_set.init.lookup
      have hbi := F.called_set.init.bind (.ref s.heap.objs.size)
      repeat (any_goals (first | assumption | wp_step))

      refine codeAny_mono (codeAny_call_builtin (R := wants (fun r s₂ => r = .none ∧ ∃ h' tk L es ep t, s₂ = { s with heap := h', toks := tk } ∧ SetTR P w h' s.heap.objs.size L es ep t ∧ Got ks ks.length L ∧
          (∀ b o, s.heap.get? b = some o → h'.get? b = some o)) E) F.called_set.init.plain F.entry_set_init (check_set_init_1 hT ?_)) fun r₂ s₂ hr₂ => ?_
      · obtain ⟨ol, hol, hcl, nl, hdl⟩ := hl
        obtain ⟨ocls, odict, odata, oslots⟩ := ol
        simp only at hcl hdl
        subst hcl; subst hdl
        have hol' : (s.heap.push { cls := .type "set", dict := none, data := .set #[] 0 (.fresh 0 0 (!w.params.followText "set-order")) }).get? l = some { cls := .type "list", dict := odict, data := .seq items nl, slots := oslots } := Heap.get?_push_of_some _ hol
        have y1 := F.sub_list_set
        have y2 := F.sub_list_frozenset
        have hne : (Value.type "list" == Value.type "dict") = false := by decide
        have hl1 : (s.heap.push { cls := .type "set", dict := none, data := .set #[] 0 (.fresh 0 0 (!w.params.followText "set-order")) }).IsList l items := ⟨_, hol', rfl, nl, rfl⟩
        unfold Builtin.«set.__init__» noKeywords Builtin.Frozenset.updateFrom
        generalize hPI : pyIter = PI
        wp_walk
        subst hPI

        refine wpAny_pyIter_list hl1 ?_
        refine wpAny_bind (wpAny_runValue ?_)
        have lS : l < s.heap.objs.size := Heap.lt_size hol
        have hh3 : A.in1.in1.in1.handled = none := by simp [hh]
        have hz1 : (s.heap.push { cls := .type "set", dict := none, data := .set #[] 0 (.fresh 0 0 (!w.params.followText "set-order")) }).objs.size = s.heap.objs.size + 1 := Heap.size_push ..
        have nI : l ≠ (s.heap.push { cls := .type "set", dict := none, data := .set #[] 0 (.fresh 0 0 (!w.params.followText "set-order")) }).objs.size := by
          rw [Heap.size_push]; exact Nat.ne_of_lt (Nat.lt_succ_of_lt lS)
        have offS : s.heap.objs.size ∉ [(s.heap.push { cls := .type "set", dict := none, data := .set #[] 0 (.fresh 0 0 (!w.params.followText "set-order")) }).objs.size, l] := by
          rw [Heap.size_push]; simp only [List.mem_cons, List.mem_singleton, List.not_mem_nil, or_false, not_or]
          exact ⟨Nat.ne_of_lt (Nat.lt_succ_self _), Nat.ne_of_gt lS⟩
        have hval : ∀ (i : Nat) (v : Value), items[i]? = some v → ∃ p, ks[i]? = some p ∧ v = .ref p.1 := fun i v hv => by
          have q : items.toList[i]? = some v := by rw [Array.getElem?_toList]; exact hv
          rw [hit, List.getElem?_map] at q
          cases hq : ks[i]? with
          | none => rw [hq] at q; cases q
          | some p =>
            rw [hq] at q
            exact ⟨p, rfl, (Option.some.inj q).symm⟩
        have fresh : ∀ b, s.heap.objs.size ≤ b → s.heap.get? b = none := fun b hb => by
          cases q : s.heap.get? b with
          | none => rfl
          | some o => exact absurd (Nat.lt_of_lt_of_le (Heap.lt_size q) hb) (Nat.lt_irrefl _)
        refine st_loop ((Walks.list hh3 _ l nI items).toS) s.heap.objs.size
          offS ks lenI hfew hval s.heap hk (fresh _ (Nat.le_refl _)) (fun b hb => fresh b (by
            rw [List.mem_singleton.mp hb, Heap.size_push]
            exact Nat.le_succ _)) hu (items.size - 0) 0 _ (by omega) (Nat.zero_le _)
          ⟨⟨_, Heap.get?_push_size _ rfl, rfl, rfl⟩, (hl1.push _)⟩ (fun b o e => Heap.get?_push_of_some _ (Heap.get?_push_of_some _ e)) ?hS0 ?hR
        case hS0 =>
          have hget : ((s.heap.push { cls := .type "set", dict := none, data := .set #[] 0 (.fresh 0 0 (!w.params.followText "set-order")) }).push { cls := .type "list_iterator", data := .fields #[.ref l, .int 0 0] }).get? s.heap.objs.size
              = some { cls := .type "set", dict := none, data := .set #[] 0 (.fresh 0 0 (!w.params.followText "set-order")) } := Heap.get?_push_of_some _ hS
          exact ⟨[], #[], 0, _, setTR_fresh hget, Got.zero ks⟩
        case hR =>
          intro s' L es ep t hm hS' g' kp
          obtain ⟨h', g2, d', tk', os'⟩ := s'
          have eg : g2 = s.gens := hm.gens
          have ed : d' = s.drawn := hm.drawn
          have eo : os' = s.os := hm.os
          subst eg; subst ed; subst eo
          show wpAny _ _ _ _ _ _
          refine wpAny_pure ?_
          show wpAny _ _ (ret Value.none) _ _ _
          rw [lenI] at g'
          exact wpAny_pure ⟨rfl, h', tk', L, es, ep, t, rfl, hS', g', kp⟩

      · cases r₂ with
        | error e => exact hr₂
        | ok fl₂ =>
          cases fl₂ with
          | ret r =>
            obtain ⟨rfl, h', tk, L, es, ep, t, rfl, hS', g', hk'⟩ := hr₂
            repeat (any_goals (first | assumption | wp_step))
            exact h _ _ _ _ _ _ hS' g' hk'
          | _ => exact hr₂.elim
    | _ => exact hr.elim

end
section
variable {X : Cx}
def rSetM (K : PySem.W.Frag) (P : Program) (w : World) : List V → Hp → VK → Prop := fun xs H Q => ∃ (l : Addr) (ks : List (Addr × List Int)), xs = [V.ref l] ∧ SqL K H l (ks.map fun p => V.ref p.1) ∧ (∀ p ∈ ks, SqT K H p.1 (p.2.map V.int)) ∧ (∀ M : List (Addr × List Int), (∀ p ∈ M, p ∈ ks) → (M.map (·.2)).Nodup → M.length ≤ 62) ∧
  ∀ a L, H a = none → (∀ p ∈ L, p ∈ ks) → (∀ p ∈ ks, p.2 ∈ L.map (·.2)) → Q (.ref a) (upd H a (SetTO P w a L))
theorem cr_setM (hc : X.calm = true) (hu : X.A.units + 64 < cLine) : CallR X (.type "set") (rSetM X.K X.prog X.w) := by
  intro pins s σ H xs us Q I r h
  obtain ⟨l, ks, rfl, hl, hk, hf, q⟩ := h
  rw [Vals.ref1 r]
  obtain ⟨its, rv, pl, hz⟩ := I.list hl
  have hn : H s.heap.objs.size = none := I.hok.fresh (Nat.le_refl _)
  refine st_call (P := X.prog) (w := X.w) ks (I.ok.hd hc) pl.isList (by simpa using refs_of_vals rv) (fun p hp => L2.Inv.isT I (hk p hp)) hf (by omega) fun h' tk L es ep t R g k => ?_
  refine ⟨.ref s.heap.objs.size, upd H s.heap.objs.size (SetTO X.prog X.w s.heap.objs.size L), I.laid (t' := tk) k (Nat.le_refl _) (setTO_new R.t0), rfl, q _ L hn (fun p hp => ?_) fun p hp => ?_⟩
  · exact List.mem_of_mem_take (g.sub p hp)
  · exact g.all p (by rw [List.take_length]; exact hp)
end
end My

set_option maxHeartbeats 4000000
/-! Sets of sides; what the program's is_orientation answers. -/
namespace My
open PySem PySem.Spec PyProof.Rows L2
theorem pairs_ksO {K : PySem.W.Frag} {H : Hp} : ∀ {ys : List V} {qs : List E2}, PairsAt K H ys qs → ∃ ks : List (Addr × List Int), ys = ks.map (fun p => V.ref p.1) ∧ ks.map (·.2) = qs.map (fun q => [(q.1 : Int), (q.2 : Int)]) ∧ ∀ p ∈ ks, SqT K H p.1 (p.2.map V.int)
  | _, _, .nil => ⟨[], rfl, rfl, fun _ z => nomatch z⟩
  | _, _, .cons a b => by
    obtain ⟨t, rfl, h⟩ := a
    obtain ⟨ks, h1, h2, h3⟩ := pairs_ksO b
    refine ⟨(t, _) :: ks, by rw [h1]; rfl, by rw [List.map_cons, h2]; rfl, ?_⟩
    intro p hp
    rcases List.mem_cons.mp hp with rfl | hp
    · exact h
    · exact h3 p hp
def toEO (ns : List Int) : E2 := ((ns.getD 0 0).toNat, (ns.getD 1 0).toNat)
theorem toEO_of (q : E2) : toEO [(q.1 : Int), (q.2 : Int)] = q := by
  unfold toEO
  simp
theorem ks_pairsO {K : PySem.W.Frag} {H : Hp} : ∀ {L : List (Addr × List Int)}, (∀ p ∈ L, SqT K H p.1 (p.2.map V.int)) → (∀ p ∈ L, p.2 = [((toEO p.2).1 : Int), ((toEO p.2).2 : Int)]) → PairsAt K H (L.map fun q => V.ref q.1) (L.map fun p => toEO p.2)
  | [], _, _ => .nil
  | p :: L, h, b => by
    refine .cons ⟨p.1, rfl, ?_⟩ (ks_pairsO (fun r hr => h r (List.mem_cons_of_mem _ hr)) fun r hr => b r (List.mem_cons_of_mem _ hr))
    have z := h p (List.mem_cons_self ..)
    rw [b p (List.mem_cons_self ..)] at z
    exact z
def leP : List E2 := (List.range 9).flatMap fun a => ((List.range 9).filter fun b => decide (a ≤ b)).map fun b => (a, b)
theorem leP_len : leP.length = 45 := by decide +kernel
theorem mem_leP {q : E2} (h : q.1 ≤ q.2) (h9 : q.2 < 9) : q ∈ leP := by
  unfold leP
  rw [List.mem_flatMap]
  refine ⟨q.1, List.mem_range.mpr (by omega), List.mem_map.mpr ⟨q.2, List.mem_filter.mpr ⟨List.mem_range.mpr h9, by simpa using h⟩, rfl⟩⟩
theorem ks_few {M : List (Addr × List Int)} (nd : (M.map (·.2)).Nodup) (h : ∀ p ∈ M, ∃ q : E2, p.2 = [(q.1 : Int), (q.2 : Int)] ∧ q.1 ≤ q.2 ∧ q.2 < 9) : M.length ≤ 62 := by
  have e : M.map (·.2) = (M.map fun p => toEO p.2).map fun q => [(q.1 : Int), (q.2 : Int)] := by
    rw [List.map_map]
    refine List.map_congr_left fun p hp => ?_
    obtain ⟨q, e, _⟩ := h p hp
    show p.2 = [((toEO p.2).1 : Int), ((toEO p.2).2 : Int)]
    rw [e, toEO_of]
  rw [e] at nd
  have nd2 : (M.map fun p => toEO p.2).Nodup := by
    have z := List.pairwise_map.mp nd
    exact z.imp fun h e => h (by rw [e])
  have z := sub_few nd2 (m := leP) fun q hq => by
    obtain ⟨p, hp, rfl⟩ := List.mem_map.mp hq
    obtain ⟨q, e, h1, h2⟩ := h p hp
    rw [e, toEO_of]
    exact mem_leP h1 h2
  rw [List.length_map, leP_len] at z
  omega
theorem pairsD_eqv : ∀ ws es : List E2, PyData.eqvAll (ws.map pairD) (es.map pairD) = decide (ws = es)
  | [], [] => by simp [PyData.eqvAll]
  | [], _ :: _ => by simp [PyData.eqvAll]
  | _ :: _, [] => by simp [PyData.eqvAll]
  | w :: ws, e :: es => by
    rw [List.map_cons, List.map_cons]
    simp only [PyData.eqvAll]
    rw [pairD_eqv, pairsD_eqv ws es]
    by_cases h : w = e
    · subst h
      simp
    · simp [h]
theorem pairs_shapedO (es : List E2) : SeqAt.shaped (.list (es.map pairD)) = true := by
  have pd := pairsD_depth es
  unfold SeqAt.shaped
  rw [Bool.and_eq_true, decide_eq_true_eq]
  refine ⟨?_, ?_⟩
  · simp only [PyData.canLay0, pairsD_lay es]
  · simp only [PyData.depth]
    omega
theorem vp_edge (n : Int) (s : Sh) : vpB n s = edgeM n n s := by
  cases s with
  | tup ss => rcases ss with _ | ⟨a, _ | ⟨b, _ | ⟨c, t⟩⟩⟩ <;> rfl
  | _ => rfl
theorem vp_pairs {n : Nat} {ss : List Sh} (h : ss.all (vpB (n : Int)) = true) : ∃ ps : List E2, ss = ps.map pairS ∧ ∀ p ∈ ps, p.1 < n ∧ p.2 < n := by
  rw [show vpB (n : Int) = edgeM n n from funext (vp_edge n)] at h
  obtain ⟨ps, e, lt⟩ := edgesM_pairs h
  exact ⟨ps, e, fun p hp => by have := lt p hp; omega⟩
theorem ori_vp {n : Nat} {es : List E2} (g : Good n es) {ss : List Sh} (h : Ori es (.tup ss)) : ss.all (vpB (n : Int)) = true := by
  obtain ⟨ps, e, _, h1, _⟩ := h
  injection e with e
  subst e
  rw [List.all_eq_true]
  intro s hs
  obtain ⟨p, hp, rfl⟩ := List.mem_map.mp hs
  have small : ∀ q : Z2, q ∈ es.map zE → 0 ≤ q.1 ∧ q.1 < n ∧ 0 ≤ q.2 ∧ q.2 < n := fun q hq => by
    obtain ⟨r, hr, rfl⟩ := List.mem_map.mp hq
    have := g.lt r hr
    show (0 : Int) ≤ (r.1 : Int) ∧ (r.1 : Int) < n ∧ (0 : Int) ≤ (r.2 : Int) ∧ (r.2 : Int) < n
    omega
  have b : 0 ≤ p.1 ∧ p.1 < n ∧ 0 ≤ p.2 ∧ p.2 < n := by
    rcases h1 p hp with z | z
    · exact small p z
    · have := small _ z
      exact ⟨this.2.2.1, this.2.2.2, this.1, this.2.1⟩
  show ((decide (p.1 ≥ 0) && decide (p.1 ≤ (n : Int) - 1)) && (decide (p.2 ≥ 0) && decide (p.2 ≤ (n : Int) - 1))) = true
  simp
  omega
end My

set_option maxHeartbeats 4000000
/-! A pair in a list or a tuple of pairs; lots compared to the empty one. -/
namespace My
open PySem PySem.Spec PyProof.Rows L2
def numsD (l : List Nat) : List PyData := l.map fun k => PyData.int ((k : Nat) : Int)
theorem numsD_dp {K : PySem.W.Frag} {H : Hp} : ∀ l : List Nat, DpAll K H (numsN l) (numsD l)
  | [] => .nil
  | a :: r => .cons (.int _) (numsD_dp r)
theorem numsD_lay : ∀ l : List Nat, PyData.canLayAll0 (numsD l) = true ∧ PyData.depthAll (numsD l) ≤ 1
  | [] => by constructor <;> simp [numsD, PyData.canLayAll0, PyData.depthAll]
  | a :: r => by
    obtain ⟨h1, h2⟩ := numsD_lay r
    unfold numsD at h1 h2 ⊢
    rw [List.map_cons]
    constructor
    · simp only [PyData.canLayAll0, PyData.canLay0, h1, Bool.and_true]
    · simp only [PyData.depthAll, PyData.depth]
      omega
theorem numsD_shL (l : List Nat) : SeqAt.shaped (.list (numsD l)) = true := by
  obtain ⟨h1, h2⟩ := numsD_lay l
  unfold SeqAt.shaped
  rw [Bool.and_eq_true, decide_eq_true_eq]
  refine ⟨?_, ?_⟩
  · simp only [PyData.canLay0, h1]
  · simp only [PyData.depth]
    omega
theorem numsD_shT (l : List Nat) : SeqAt.shaped (.tuple (numsD l)) = true := by
  obtain ⟨h1, h2⟩ := numsD_lay l
  unfold SeqAt.shaped
  rw [Bool.and_eq_true, decide_eq_true_eq]
  refine ⟨?_, ?_⟩
  · simp only [PyData.canLay0, h1]
  · simp only [PyData.depth]
    omega
theorem numsD_nilL (l : List Nat) : PyData.eqv (.list (numsD l)) (.list (numsD [])) = l.isEmpty := by
  cases l with
  | nil => simp [numsD, PyData.eqv, PyData.eqvAll]
  | cons a r => simp [numsD, PyData.eqv, PyData.eqvAll]
theorem numsD_nilT (l : List Nat) : PyData.eqv (.tuple (numsD l)) (.tuple (numsD [])) = l.isEmpty := by
  cases l with
  | nil => simp [numsD, PyData.eqv, PyData.eqvAll]
  | cons a r => simp [numsD, PyData.eqv, PyData.eqvAll]
section
variable {X : Cx}
def rInPL (K : PySem.W.Frag) : R2 := fun x y H Q => ∃ (p : E2) (t : Addr) (xs : List V) (es : List E2), PairAt K H x p ∧ y = .ref t ∧ (SqL K H t xs ∨ SqT K H t xs) ∧ PairsAt K H xs es ∧ Q (.bl (decide (p ∈ es))) H
theorem op_inPL (hu : X.A.units + 64 < cLine) : OpR X (compareOp .In) (rInPL X.K) := by
  rintro pins s σ H x y v u Q I rx ry ⟨p, t, xs, es, hp, rfl, ht, hes, q⟩
  rcases ht with ht | ht
  · obtain ⟨as, r1⟩ := Dp.reads I _ x v hp.dp rx
    obtain ⟨bs, r2⟩ := Dp.reads I (.list (es.map pairD)) (.ref t) u (.lst ht hes.dp) ry
    refine SeqAt.in_list_reads r2 r1 (pairsD_lay es) (pairD_lay p) ?_ ?_
    · have := pairD_depth p
      have := Nat.min_le_right (PyData.depthAll (es.map pairD)) (pairD p).depth
      omega
    · rw [any_pairs]
      exact ⟨.bl _, H, I, rfl, q⟩
  · exact op_inP hu pins s σ H x _ v u Q I rx ry ⟨p, t, xs, es, hp, rfl, ht, hes, q⟩
end
end My
namespace My
open PySem PySem.Spec PyProof.Rows L2
theorem pairs_ksT {H : Hp} : ∀ {ys : List V} {qs : List E2}, PairsT H ys qs → ∃ ks : List (Addr × List Int), ys = ks.map (fun p => V.ref p.1) ∧ ks.map (·.2) = qs.map (fun q => [(q.1 : Int), (q.2 : Int)]) ∧ ∀ p ∈ ks, H p.1 = some (.tup (p.2.map V.int))
  | _, _, .nil => ⟨[], rfl, rfl, fun _ z => nomatch z⟩
  | _, _, .cons a b => by
    obtain ⟨t, rfl, h⟩ := a
    obtain ⟨ks, h1, h2, h3⟩ := pairs_ksT b
    refine ⟨(t, _) :: ks, by rw [h1]; rfl, by rw [List.map_cons, h2]; rfl, ?_⟩
    intro p hp
    rcases List.mem_cons.mp hp with rfl | hp
    · exact h
    · exact h3 p hp
theorem ks_pairsT {H : Hp} : ∀ {L : List (Addr × List Int)}, (∀ p ∈ L, H p.1 = some (.tup (p.2.map V.int))) → (∀ p ∈ L, p.2 = [((toEO p.2).1 : Int), ((toEO p.2).2 : Int)]) → PairsT H (L.map fun q => V.ref q.1) (L.map fun p => toEO p.2)
  | [], _, _ => .nil
  | p :: L, h, b => by
    refine .cons ⟨p.1, rfl, ?_⟩ (ks_pairsT (fun r hr => h r (List.mem_cons_of_mem _ hr)) fun r hr => b r (List.mem_cons_of_mem _ hr))
    have z := h p (List.mem_cons_self ..)
    rw [b p (List.mem_cons_self ..)] at z
    exact z
def lotsD (L : List (List Nat)) : List PyData := L.map fun l => .tuple (numsD l)
theorem lotsD_lay : ∀ L : List (List Nat), PyData.canLayAll0 (lotsD L) = true ∧ PyData.depthAll (lotsD L) ≤ 3
  | [] => by constructor <;> simp [lotsD, PyData.canLayAll0, PyData.depthAll]
  | l :: r => by
    obtain ⟨h1, h2⟩ := lotsD_lay r
    obtain ⟨g1, g2⟩ := numsD_lay l
    unfold lotsD at h1 h2 ⊢
    rw [List.map_cons]
    constructor
    · simp only [PyData.canLayAll0, PyData.canLay0, h1, g1, Bool.and_true]
    · simp only [PyData.depthAll, PyData.depth]
      omega
theorem lotsD_sh (L : List (List Nat)) : SeqAt.shaped (.list (lotsD L)) = true := by
  obtain ⟨h1, h2⟩ := lotsD_lay L
  unfold SeqAt.shaped
  rw [Bool.and_eq_true, decide_eq_true_eq]
  refine ⟨?_, ?_⟩
  · simp only [PyData.canLay0, h1]
  · simp only [PyData.depth]
    omega
theorem lotsD_nil (L : List (List Nat)) : PyData.eqv (.list (lotsD L)) (.list (lotsD [])) = L.isEmpty := by
  cases L with
  | nil => simp [lotsD, PyData.eqv, PyData.eqvAll]
  | cons a r => simp [lotsD, PyData.eqv, PyData.eqvAll]
end My
namespace My
open PySem PySem.Spec PyProof.Rows L2
section
variable {X : Cx}
def rListRng2 : List V → Hp → VK → Prop := fun vs H Q => ∃ (a : Addr) (lo n : Nat), vs = [V.ref a] ∧ H a = some (.rng (lo : Int) ((lo + n : Nat) : Int)) ∧ n ≤ 1000 ∧ lo ≤ 1000 ∧ ∀ p, H p = none → Q (.ref p) (upd H p (.lst (numsN ((List.range n).map (lo + ·)))))
theorem call_listRng2 (hc : X.calm = true) : CallR X (.type "list") rListRng2 := by
  intro pins s σ H vs us Q I r h
  obtain ⟨a, lo, n, rfl, ha, hn, hlo, q⟩ := h
  obtain ⟨u1, rfl, ru⟩ := vals1 r
  obtain rfl : u1 = Value.ref a := ru
  obtain ⟨t1, t2, t3, ho⟩ := I.hok a _ ha
  refine call_list_range (I.ok.hd hc) (n := n) ho (small_one (by omega) (by omega) (by omega) (by omega)) (by rw [rangeSize_one]; split <;> omega) (by omega) fun h' tk acc c' hk e' hi => ?_
  refine ⟨.ref s.heap.objs.size, upd H s.heap.objs.size (.lst (numsN ((List.range n).map (lo + ·)))), I.laid hk (Nat.le_refl _) (show ObjOk X.prog X.w _ _ _ (.lst (numsN ((List.range n).map (lo + ·)))) from ⟨?_, acc.toList, c', ?_, ?_⟩), rfl, q _ (I.hok.fresh (Nat.le_refl _))⟩
  · rw [numsN_len, List.length_map, List.length_range]; exact small hn
  · have la : acc.toList.length = n := by rw [Array.length_toList]; exact hi.1
    have es : numsN ((List.range n).map (lo + ·)) = (List.range acc.toList.length).map fun i => V.int (((lo + i : Nat)) : Int) := by
      rw [la]
      unfold numsN
      rw [List.map_map]
      rfl
    rw [es]
    refine vals_of_get acc.toList _ fun j u hj => ?_
    obtain ⟨t, rfl⟩ := hi.2 j u (by rw [← hj, Array.getElem?_toList])
    refine ⟨t, ?_⟩
    rw [Int.mul_one]
    congr 1
  · rw [Array.toArray_toList]
    exact e'
end
end My

set_option maxHeartbeats 8000000
namespace My
open PySem PySem.Spec PyProof.Rows L2 RZ
abbrev sLProp : Stmt := top 48
abbrev sLFrom : Stmt := top 50
theorem scLProp : FnScope ["multi", "value", "most", "one", "each", "two"] ["multi", "value", "most"] (defScope sLProp) := ⟨rfl, rfl, rfl, by decide +kernel, rfl, by decide +kernel, by decide +kernel⟩
theorem scLFrom : FnScope ["multi", "lists", "value", "colour", "each"] ["multi", "lists", "value"] (defScope sLFrom) := ⟨rfl, rfl, rfl, by decide +kernel, rfl, by decide +kernel, by decide +kernel⟩
def nthZ (ss : List Sh) (k : Nat) : Int := intS (ss.getD k (.int 0))
def hitB (es : List E2) (ss : List Sh) (one two : Nat) : Bool := (nthZ ss one == nthZ ss two) && (decide (one ≠ two) && meetB es one two)
def propB (m : Int) (es : List E2) : Sh → Bool
  | .tup ss => decide (ss.length = es.length) && (ss.all (wholeR 0 (m - 1)) && (List.range ss.length).all fun one => ((List.range one).filter (hitB es ss one)).isEmpty)
  | _ => false
def spLProp (K : PySem.W.Frag) : Sp := fun vs H Q _ => ∃ (x v : V) (l r : Nat) (es : List E2) (s : Sh) (m : Int), vs = [x, v, .int m] ∧ MulAt K H x l r es ∧ es.length ≤ 9 ∧ ShAt K H v s ∧ ∀ H', Same H H' → Q (.bl (propB m es s)) H'
section
variable {P : Program} {w : World} {K : PySem.W.Frag} {mg : Str → Option Value} {base : Heap} {f fW fN fP : Addr} {fd dW dN dP : FuncData}
theorem ok_lprop (F : L2.Fun K "_law_is_proper" "_law_is_proper" sLProp f fd) (GW : FnOk P w K mg base CX0 1 fW dW ["value"] (spLWh K)) (bW : L2.Binds K dW ["value"] []) (kW : PySem.W.keepIn K (.ref fW) = true) (mW : mg "_law_is_whole" = some (.ref fW))
    (GN : FnOk P w K mg base CX0 1 fN dN ["multi", "one", "two"] (spNear K)) (bN : L2.Binds K dN ["multi", "one", "two"] []) (kN : PySem.W.keepIn K (.ref fN) = true) (mN : mg "_law_near" = some (.ref fN))
    (mi : mg "isinstance" = none) (mt : mg "tuple" = none) (ml : mg "len" = none) (mr : mg "range" = none) (ma : mg "all" = none) : FnOk P w K mg base CX0 2 f fd ["multi", "value", "most"] (spLProp K) := by
  refine F.ok scLProp (fun vs H Q E h => ?_) (fun cdv A outer s0 H vs Q E hr h => ?_)
  · obtain ⟨x, v, l, r, es, s, m, rfl, _⟩ := h
    rfl
  obtain ⟨x, v, l, r, es, s, m, rfl, hx, e9, hv, q⟩ := h
  refine ⟨_, pss_cons (ps_if (PW.pt (pw_or (pt_not (pt_val (pe_callB call_isi (by rfl) mi (by decide +kernel) (pa_cons (pv 1) (pa_cons (pe_bltn (v := .ty "tuple") (by rfl) mt (by decide +kernel) rfl) pa_nil)))))
        (pw_or1 (pt_cmpR op_ne (pe_callB call_len_seq (by rfl) ml PySem.boot_len (pa_cons (pv 1) pa_nil)) (pe_callB call_len_seq (by rfl) ml PySem.boot_len (pa_cons (pe_ix (r := rIxT K) ix_tup (pv 0) pe_int (fun _ _ => rfl)) pa_nil)) (nomark _))))) (pss_one (ps_ret pe_bl)) pss_nil)
    (pss_cons (ps_if (pt_not (pt_val (pe_callB (cr_all rfl) (by rfl) ma (by decide +kernel) (pa_cons (pe_lc (own := [("each", 4)]) (g := gName 4) (tt := tYes) rfl scLProp.nd (pi_tup (pv 1))
          (blkOk_by (N := ["multi", "value", "most", "one", "each", "two"]) (sc := defScope sLProp) (by decide +kernel)) (fun _ _ _ _ _ => pg_name (i := 4) scLProp.nd rfl (Or.inl rfl)) (fun _ _ _ _ _ => pts_nil)
          (fun _ _ _ _ _ => pe_and (pe_call GW hr (by rfl) mW kW bW .nil pass0 (pa_cons (pv 4) pa_nil)) (pe_one (pe_chain op_le op_lt pe_int (pv 4) (pv 2))))) pa_nil)))) (pss_one (ps_ret pe_bl)) pss_nil)
    (pss_cons (ps_for PassesOwn.never rfl (pi_range1 rfl mr (pa_cons (pe_callB call_len_seq (by rfl) ml PySem.boot_len (pa_cons (pv 1) pa_nil)) pa_nil)) (pg_name (i := 3) scLProp.nd rfl (.inr rfl))
      (pss_one (ps_if (pt_cmpR (op_neD hr.units) (pe_lc (own := [("two", 5)]) (g := gName 5) (tt := tAnd (tTest (tOp rEq (tOp (rIxT K) (tVar 1) (tVar 3)) (tOp (rIxT K) (tVar 1) (tVar 5)))) (tB (tCall (spNear K) [] E0 (tCons (tVar 0) (tCons (tVar 3) (tCons (tVar 5) tNil)))))) rfl scLProp.nd (pi_range1 rfl mr (pa_cons (pv 3) pa_nil))
          (blkOk_by (N := ["multi", "value", "most", "one", "each", "two"]) (sc := defScope sLProp) (by decide +kernel)) (fun _ _ _ _ _ => pg_name (i := 5) scLProp.nd rfl (Or.inl rfl))
          (fun _ _ _ _ _ => pts_one (PW.pt (pw_and (pt_cmpR op_eq (pe_ix (r := rIxT K) ix_tup (pv 1) (pv 3) (fun _ _ => rfl)) (pe_ix (r := rIxT K) ix_tup (pv 1) (pv 5) (fun _ _ => rfl)) (nomark _)) (pw_and1 (pt_val (pe_call GN hr (by rfl) mN kN bN .nil pass0 (pa_cons (pv 0) (pa_cons (pv 3) (pa_cons (pv 5) pa_nil)))))))))
          (fun _ _ _ _ _ => pv 5)) (pe_lst pa_nil) (nomark _)) (pss_one (ps_ret pe_bl)) pss_nil)))
    (pss_one (ps_ret pe_bl)))), ?_⟩
  have hx0 := hx
  obtain ⟨t, e, ys, rfl, ht, he, hes⟩ := hx
  have le := PairsAt.len hes
  have a2 : atI [V.int (l : Int), V.int (r : Int), V.ref e] 2 = some (.ref e) := atI_nat (j := 2) rfl
  have qn : ∀ H', Same H H' → propB m es s = false → Q (.bl false) H' := fun H' s' c => by
    have := q H' s'
    rw [c] at this
    exact this
  obtain ⟨tt, tx, k1, _, _⟩ := isi_of hv
  refine ⟨_, rfl, v, .ty "tuple", tt, .type "tuple", isTup s, rfl, .ty _, tx, k1, _, rfl, ?_⟩
  refine iteB (fun c0 => iteT (qn H (Same.refl H) ?_)) (fun c0 => ?_)
  · cases s with
    | tup ss => cases c0
    | _ => rfl
  obtain ⟨ss, rfl⟩ : ∃ ss, s = .tup ss := by
    cases s with
    | tup ss => exact ⟨ss, rfl⟩
    | _ => cases c0
  clear c0
  cases hv with
  | @tup u xs _ hu r' =>
  have lx := r'.len
  refine ⟨_, rfl, u, xs, rfl, .inr hu, _, rfl, t, _, 2, _, rfl, rfl, ht, a2, e, ys, rfl, .inr he, rfl, _, rfl, ?_⟩
  have ev : (!decide (V.int ((xs.length : Nat) : Int) = V.int ((ys.length : Nat) : Int))) = !decide (ss.length = es.length) := by
    rw [lx, le]
    congr 1
    by_cases h : ss.length = es.length
    · rw [h, decide_eq_true rfl, decide_eq_true rfl]
    · rw [decide_eq_false h, decide_eq_false (fun z => h (by injection z with z; exact Int.ofNat.inj z))]
  rw [ev]
  refine iteB (fun c1 => qn H (Same.refl H) ?_) (fun c1 => ?_)
  · have c2 : decide (ss.length = es.length) = false := by simpa using c1
    show (decide (ss.length = es.length) && _) = false
    rw [c2, Bool.false_and]
  have c2 : ss.length = es.length := by simpa using c1
  have eq0 : propB m es (.tup ss) = (ss.all (wholeR 0 (m - 1)) && (List.range ss.length).all fun one => ((List.range one).filter (hitB es ss one)).isEmpty) := by
    show (decide (ss.length = es.length) && _) = _
    rw [decide_eq_true c2, Bool.true_and]
  refine ⟨_, rfl, u, rfl, ⟨_, hu⟩, fun D nD => lo_it (walk_tup (xs := xs)) (fun i H2 => Same H H2 ∧ H2 D = some (.lst (((ss.take i).map (wholeR 0 (m - 1))).map V.bl))) ⟨same_new nD _, upd_same⟩ (fun i H2 _ ⟨s2, _⟩ => Same.tup s2 hu) ?_ ?_⟩
  · rintro i y _ H2 li ⟨s2, hD⟩ ⟨rfl, hy⟩
    obtain ⟨z, hz, st⟩ := (r'.same s2).get hy
    have fin : ∀ b, b = wholeR 0 (m - 1) z → Same H (upd H2 D (.lst (((ss.take i).map (wholeR 0 (m - 1))).map V.bl ++ [.bl b]))) ∧ upd H2 D (.lst (((ss.take i).map (wholeR 0 (m - 1))).map V.bl ++ [.bl b])) D = some (.lst (((ss.take (i + 1)).map (wholeR 0 (m - 1))).map V.bl)) := fun b e => by
      refine ⟨same_put s2 nD, ?_⟩
      rw [upd_same, push_bl hz, e]
    have ln : (((ss.take i).map (wholeR 0 (m - 1))).map V.bl).length < sizeLine := small1000 (by rw [List.length_map, List.length_map, List.length_take]; omega)
    refine ⟨rfl, ?_⟩
    refine ⟨_, rfl, y, z, rfl, st, _, rfl, iteB (fun c1 => ?_) (fun c1 => ⟨_, hD, ln, fin _ ?_⟩)⟩
    rotate_left 1
    · cases z with
      | int i => cases c1
      | _ => rfl
    obtain ⟨k, rfl⟩ : ∃ k, z = .int k := by
      cases z with
      | int k => exact ⟨k, rfl⟩
      | _ => cases c1
    cases st
    have wl := wholeR_lt m k
    refine ⟨_, rfl, _, _, rfl, rfl, _, rfl, iteB (fun c2 => ?_) (fun c2 => ⟨_, hD, ln, fin _ ?_⟩)⟩
    rotate_left 1
    · rw [wl, c2]
      rfl
    refine ⟨_, rfl, _, _, rfl, rfl, _, hD, ln, fin _ ?_⟩
    rw [wl, c2, Bool.true_and]
  rintro H2 ⟨s2, hD⟩
  rw [lx, List.take_length] at hD
  refine ⟨D, _, rfl, SqL.of hD, _, rfl, ?_⟩
  rw [all_id]
  refine iteB (fun c1 => qn H2 s2 ?_) (fun c1 => ?_)
  · have c2 : ss.all (wholeR 0 (m - 1)) = false := by simpa using c1
    rw [eq0, c2, Bool.false_and]
  have al : ss.all (wholeR 0 (m - 1)) = true := by simpa using c1
  have num : ∀ t ∈ ss, ∃ k, t = .int k := fun t ht => by
    have := List.all_eq_true.mp al t ht
    cases t with
    | int k => exact ⟨k, rfl⟩
    | _ => cases this
  rw [eq0, al, Bool.true_and] at q
  rw [eq0, al, Bool.true_and] at qn
  clear hD nD D c1
  have hu2 := Same.tup s2 hu
  have r2 := r'.same s2
  have gx : ∀ k, k < ss.length → xs[k]? = some (.int (nthZ ss k)) := fun k hk => by
    have hk' : k < xs.length := by omega
    obtain ⟨t1, h1, r1⟩ := r2.get (List.getElem?_eq_getElem hk')
    obtain ⟨a, rfl⟩ := num t1 (List.mem_of_getElem? h1)
    have e1 : nthZ ss k = a := by
      unfold nthZ
      rw [List.getD_eq_getElem?_getD, h1]
      rfl
    rw [List.getElem?_eq_getElem hk', e1]
    generalize xs[k] = y1 at r1
    cases r1
    rfl
  refine ⟨_, rfl, u, xs, rfl, .inr hu2, _, rfl, by omega, by omega, for_range (lo := 0) (n := ((xs.length : Nat) : Int).toNat) (fun i σ H' => ∃ (s3 : Option V), σ = [some (.ref t), some (.ref u), some (.int m), s3, none, none] ∧ Same H2 H' ∧ ∀ k, k < i → ((List.range k).filter (hitB es ss k)).isEmpty = true) ⟨none, rfl, Same.refl _, fun _ z => absurd z (Nat.not_lt_zero _)⟩ ?_ ?_⟩
  · rintro k σ H3 lk ⟨s3', rfl, s3, no⟩
    rw [Int.zero_add]
    rw [Int.toNat_natCast] at lk
    have s03 := s2.trans s3
    have hu3 := Same.tup s03 hu
    refine ⟨_, rfl, (k : Int), rfl, by omega, by omega, fun D nD => lo_it (walk_range (lo := 0) (n := ((k : Nat) : Int).toNat)) (fun j H4 => Same H3 H4 ∧ H4 D = some (.lst (numsN ((List.range j).filter (hitB es ss k))))) ⟨same_new nD _, upd_same⟩ (fun _ _ _ _ => trivial) ?_ ?_⟩
    · rintro j y _ H4 lj ⟨s4, hD⟩ ⟨rfl, ex⟩
      obtain rfl : y = V.int ((j : Nat) : Int) := ex.trans (congrArg V.int (Int.zero_add _))
      rw [Int.toNat_natCast] at lj
      have s04 := s03.trans s4
      have hu4 := Same.tup s04 hu
      have few : ((List.range j).filter (hitB es ss k)).length ≤ 9 := by
        refine Nat.le_trans (List.length_filter_le _ _) ?_
        rw [List.length_range]
        omega
      have ev2 : decide (V.int (nthZ ss k) = V.int (nthZ ss j)) = (nthZ ss k == nthZ ss j) := by
        by_cases h : nthZ ss k = nthZ ss j
        · rw [h]
          simp
        · rw [decide_eq_false (fun z => h (by injection z))]
          exact (beq_eq_false_iff_ne.mpr h).symm
      have stop : hitB es ss k j = false → Same H3 H4 ∧ H4 D = some (.lst (numsN ((List.range (j + 1)).filter (hitB es ss k)))) := fun c => by
        refine ⟨s4, ?_⟩
        rw [hD, List.range_succ, List.filter_append, List.filter_cons_of_neg (by rw [c]; decide), List.filter_nil, List.append_nil]
      refine ⟨rfl, ?_⟩
      refine ⟨_, rfl, _, rfl, u, xs, _, _, rfl, rfl, hu4, atI_nat (gx k (by omega)), _, rfl, _, rfl, u, xs, _, _, rfl, rfl, hu4, atI_nat (gx j (by omega)), rfl, _, rfl, ?_⟩
      rw [ev2]
      refine iteB (fun c3 => ?_) (fun c3 => iteF (stop ?_))
      rotate_left 1
      · unfold hitB
        rw [c3, Bool.false_and]
      refine ⟨_, rfl, _, rfl, _, rfl, .ref t, l, r, es, k, j, rfl, hx0.same s04, by omega, by omega, _, rfl, iteB (fun c4 => ?_) (fun c4 => stop ?_)⟩
      rotate_left 1
      · unfold hitB
        rw [c4, Bool.and_false]
      refine ⟨_, rfl, _, hD, small1000 (by rw [numsN_len]; omega), same_put s4 nD, ?_⟩
      have hit : hitB es ss k j = true := by
        unfold hitB
        rw [c3, c4]
        rfl
      rw [upd_same, List.range_succ, List.filter_append, List.filter_cons_of_pos hit, numsN_app]
      rfl
    rintro H4 ⟨s4, hD⟩
    rw [Int.toNat_natCast] at hD
    refine ⟨small (by show 0 ≤ 1000; decide), fun e5 ne5 => ?_⟩
    have se := same_new ne5 (.lst [])
    refine ⟨.list (numsD ((List.range k).filter (hitB es ss k))), .list (numsD []), .lst (SqL.of (se _ _ hD)) (numsD_dp _), .lst (SqL.of upd_same) (numsD_dp []), numsD_shL _, numsD_shL [], _, rfl, ?_⟩
    rw [numsD_nilL]
    refine iteB (fun c3 => qn _ (s03.trans (s4.trans se)) ?_) (fun c3 => ⟨_, rfl, s3.trans (s4.trans se), fun k' hk' => ?_⟩)
    · cases e6 : ((List.range ss.length).all fun one => ((List.range one).filter (hitB es ss one)).isEmpty) with
      | false => rfl
      | true =>
        have := List.all_eq_true.mp e6 k (List.mem_range.mpr (by omega))
        rw [this] at c3
        cases c3
    · rcases Nat.lt_or_ge k' k with z | z
      · exact no k' z
      · have : k' = k := by omega
        subst this
        simpa using c3
  · rintro σ H3 ⟨s3', rfl, s3, no⟩
    rw [Int.toNat_natCast, lx] at no
    have yes : ((List.range ss.length).all fun one => ((List.range one).filter (hitB es ss one)).isEmpty) = true := by
      rw [List.all_eq_true]
      exact fun k hk => no k (List.mem_range.mp hk)
    rw [yes] at q
    exact q H3 (s2.trans s3)
/-- what the program and the law ask of a colouring is one thing -/
theorem from_same {es : List E2} {LL : List (List Nat)} {s : Sh} (e9 : es.length ≤ 9) (hl : isLists es.length (listsZ LL) = true) : (propB 100 es s && match s with | .tup ss => fromB ss LL | _ => false) = isFrom es LL s := by
  cases s with
  | tup ss =>
    have l1 : (decide ((LL.map lotZ).length = es.length) && (LL.map lotZ).all isList) = true := hl
    rw [Bool.and_eq_true, decide_eq_true_eq, List.length_map] at l1
    obtain ⟨ll, lall⟩ := l1
    show ((decide (ss.length = es.length) && (ss.all (wholeR 0 99) && (List.range ss.length).all fun one => ((List.range one).filter (hitB es ss one)).isEmpty)) && fromB ss LL) =
      ((decide (ss.length = es.length) && (ss.all (wholeF 0) && (lineP es).all fun p => !(intS (ss.getD p.1 (.int 0)) == intS (ss.getD p.2 (.int 0))))) && fromB ss LL)
    by_cases len : ss.length = es.length
    · rw [decide_eq_true len, Bool.true_and, Bool.true_and]
      by_cases fr : fromB ss LL = true
      · rw [fr, Bool.and_true, Bool.and_true]
        have small : ∀ z ∈ ss, wholeR 0 99 z = true := fun z hz => by
          obtain ⟨i, hi, e⟩ := List.getElem_of_mem hz
          have hi2 : i < LL.length := by omega
          have m : inB z LL[i] ∈ List.zipWith inB ss LL := by
            refine List.mem_iff_getElem?.mpr ⟨i, ?_⟩
            rw [List.getElem?_zipWith, List.getElem?_eq_getElem hi, List.getElem?_eq_getElem hi2, e]
          have yes : inB z LL[i] = true := List.all_eq_true.mp fr _ m
          have la := List.all_eq_true.mp lall (lotZ LL[i]) (List.mem_map.mpr ⟨_, List.getElem_mem hi2, rfl⟩)
          have la2 : (decide ((LL[i].map fun k => Sh.int ((k : Nat) : Int)).length ≤ 9) && ((LL[i].map fun k => Sh.int ((k : Nat) : Int)).all (wholeR 0 99) && ascB (LL[i].map fun k => Sh.int ((k : Nat) : Int)))) = true := la
          rw [Bool.and_eq_true, Bool.and_eq_true] at la2
          cases z with
          | int k =>
            obtain ⟨a, ha, ea⟩ := List.any_eq_true.mp (show (LL[i].any fun a => ((a : Nat) : Int) == k) = true from yes)
            have w := List.all_eq_true.mp la2.2.1 (.int (a : Int)) (List.mem_map.mpr ⟨a, ha, rfl⟩)
            rw [← beq_iff_eq.mp ea]
            exact w
          | _ => cases yes
        have w1 : ss.all (wholeR 0 99) = true := List.all_eq_true.mpr small
        have w2 : ss.all (wholeF 0) = true := List.all_eq_true.mpr fun z hz => by
          have := small z hz
          cases z with
          | int k =>
            have t : (decide (k ≥ 0) && decide (k ≤ 99)) = true := this
            rw [Bool.and_eq_true] at t
            exact t.1
          | _ => cases this
        rw [w1, w2, Bool.true_and, Bool.true_and, Bool.eq_iff_iff, List.all_eq_true, List.all_eq_true, len]
        have meet_comm : ∀ a b, meetB es a b = meetB es b a := fun a b => by
          unfold meetB
          rw [Bool.eq_iff_iff, Bool.or_eq_true, Bool.or_eq_true, beq_iff_eq, beq_iff_eq, beq_iff_eq, beq_iff_eq]
          exact ⟨fun h => h.imp Eq.symm Eq.symm, fun h => h.imp Eq.symm Eq.symm⟩
        constructor
        · rintro h ⟨a, b⟩ hp
          obtain ⟨ab, bn, me⟩ := mem_lineP.mp hp
          have z := h b (List.mem_range.mpr bn)
          cases e : (intS (ss.getD a (.int 0)) == intS (ss.getD b (.int 0))) with
          | false =>
            rfl
          | true =>
            exfalso
            have hit : hitB es ss b a = true := by
              unfold hitB nthZ
              rw [beq_iff_eq.mp e, meet_comm, me, decide_eq_true (by omega : b ≠ a)]
              simp
            have mm : a ∈ (List.range b).filter (hitB es ss b) := List.mem_filter.mpr ⟨List.mem_range.mpr ab, hit⟩
            rw [List.isEmpty_iff] at z
            rw [z] at mm
            cases mm
        · intro h b hb
          rw [List.isEmpty_iff]
          refine List.filter_eq_nil_iff.mpr fun a ha hit => ?_
          have ab := List.mem_range.mp ha
          have bn := List.mem_range.mp hb
          unfold hitB at hit
          rw [Bool.and_eq_true, Bool.and_eq_true] at hit
          have z := h (a, b) (mem_lineP.mpr ⟨ab, bn, by rw [meet_comm]; exact hit.2.2⟩)
          have e := beq_iff_eq.mp hit.1
          unfold nthZ at e
          simp only [e] at z
          simp at z
      · have fr2 : fromB ss LL = false := by simpa using fr
        rw [fr2, Bool.and_false, Bool.and_false]
    · rw [decide_eq_false len]
      simp only [Bool.false_and]
  | _ => rfl
end
section
variable {P : Program} {w : World} {K : PySem.W.Frag} {mg : Str → Option Value} {base : Heap} {f fW fN fP : Addr} {fd dW dN dP : FuncData}
def spLFrom (K : PySem.W.Frag) : Sp := fun vs H Q _ => ∃ (x y v : V) (l r : Nat) (es : List E2) (LL : List (List Nat)) (s : Sh), vs = [x, y, v] ∧ MulAt K H x l r es ∧ es.length ≤ 9 ∧ ShAt K H y (listsZ LL) ∧ isLists es.length (listsZ LL) = true ∧ ShAt K H v s ∧ ∀ H', Same H H' → Q (.bl (isFrom es LL s)) H'
theorem ok_lfrom (F : L2.Fun K "_law_is_from" "_law_is_from" sLFrom f fd) (GP : FnOk P w K mg base CX0 2 fP dP ["multi", "value", "most"] (spLProp K)) (bP : L2.Binds K dP ["multi", "value", "most"] []) (kP : PySem.W.keepIn K (.ref fP) = true) (mP : mg "_law_is_proper" = some (.ref fP))
    (ma : mg "all" = none) (mz : mg "zip" = none) : FnOk P w K mg base CX0 3 f fd ["multi", "lists", "value"] (spLFrom K) := by
  refine F.ok scLFrom (fun vs H Q E h => ?_) (fun cdv A outer s0 H vs Q E hr h => ?_)
  · obtain ⟨x, y, v, l, r, es, LL, s, rfl, _⟩ := h
    rfl
  obtain ⟨x, y, v, l, r, es, LL, s, rfl, hx, e9, hy, yl, hv, q⟩ := h
  refine ⟨_, pss_cons (ps_if (pt_not (pt_val (pe_call GP hr (by rfl) mP kP bP .nil pass0 (pa_cons (pv 0) (pa_cons (pv 2) (pa_cons pe_int pa_nil)))))) (pss_one (ps_ret pe_bl)) pss_nil)
    (pss_one (ps_ret (pe_callB (cr_all rfl) (by rfl) ma (by decide +kernel) (pa_cons (pe_lc (own := [("colour", 3), ("each", 4)]) (g := gTup K 2 (gCons (gName 3) (gCons (gName 4) gNil))) (tt := tYes) rfl scLFrom.nd (pi_zipA (by rfl) mz (pa_cons (pv 2) (pa_cons (pv 1) pa_nil)))
        (blkOk_by (N := ["multi", "lists", "value", "colour", "each"]) (sc := defScope sLFrom) (by decide +kernel)) (fun _ _ _ _ _ => pg_tup (by rfl) (pgs_cons (pg_name (i := 3) scLFrom.nd rfl (Or.inl rfl)) (pgs_cons (pg_name (i := 4) scLFrom.nd rfl (Or.inl rfl)) pgs_nil))) (fun _ _ _ _ _ => pts_nil)
        (fun _ _ _ _ _ => pe_cmpR (r := rIn K false) op_in_seq (pv 3) (pv 4) (by rfl))) pa_nil)))), ?_⟩
  have same := from_same (s := s) e9 yl
  refine ⟨_, rfl, _, rfl, x, v, l, r, es, s, 100, rfl, hx, e9, hv, fun H3 s03 => ⟨_, rfl, iteB (fun c => ?_) (fun c => ?_)⟩⟩
  · have q1 := q H3 s03
    have c2 : propB 100 es s = false := by simpa using c
    rw [← same, c2, Bool.false_and] at q1
    exact q1
  have c2 : propB 100 es s = true := by simpa using c
  obtain ⟨ss, rfl⟩ : ∃ ss, s = .tup ss := by
    cases s with
    | tup ss => exact ⟨ss, rfl⟩
    | _ => cases c2
  have c3 : (decide (ss.length = es.length) && (ss.all (wholeR 0 99) && (List.range ss.length).all fun one => ((List.range one).filter (hitB es ss one)).isEmpty)) = true := c2
  rw [Bool.and_eq_true, Bool.and_eq_true, decide_eq_true_eq] at c3
  have num : ∀ t ∈ ss, ∃ k, t = .int k := fun t ht => by
    have := List.all_eq_true.mp c3.2.1 t ht
    cases t with
    | int k => exact ⟨k, rfl⟩
    | _ => cases this
  obtain ⟨u, ys, rfl, hu, hys⟩ := listsZ_at (hy.same s03)
  have hv3 := hv.same s03
  cases hv3 with
  | @tup t xs _ ht hxs =>
  have ll : LL.length = es.length := by
    have yl2 : (decide ((LL.map lotZ).length = es.length) && (LL.map lotZ).all isList) = true := yl
    rw [Bool.and_eq_true, decide_eq_true_eq, List.length_map] at yl2
    exact yl2.1
  have lx := hxs.len
  have ly := hys.len
  rw [List.length_map] at ly
  have lw : (List.zipWith inB ss LL).length = es.length := by rw [List.length_zipWith, c3.1, ll, Nat.min_self]
  refine ⟨_, rfl, _, rfl, t, u, xs, ys, rfl, .inr ⟨ht, hu, fun B nB => lc_it (walk_zipT (n := es.length) (by rw [lx, ly, c3.1, ll, Nat.min_self])) (fun i H4 => Same H3 H4 ∧ H4 B = some (.lst (((List.zipWith inB ss LL).take i).map V.bl))) ⟨same_new nB _, upd_same⟩ (fun i H4 _ ⟨s4, _⟩ => ⟨Same.tup s4 ht, Same.tup s4 hu⟩) ?_ ?_⟩⟩
  · rintro i x' H4 H5 li ⟨s4, hB⟩ ⟨T, y', z', e1, nT, e2, hy', hz'⟩
    subst e1
    subst e2
    have s5 := same_new nT (.tup [y', z'])
    have sA := s4.trans s5
    obtain ⟨a, ha, sa⟩ := (hxs.same sA).get hy'
    obtain ⟨k, rfl⟩ := num a (List.mem_of_getElem? ha)
    cases sa
    obtain ⟨m, w1, hm, rfl, hw1⟩ := lotsZ_get (hys.same sA) hz'
    have hz2 : (List.zipWith inB ss LL)[i]? = some (inB (.int k) m) := by rw [List.getElem?_zipWith, ha, hm]
    refine ⟨T, _, rfl, SqT.of upd_same, rfl, _, _, rfl, _, _, rfl, rfl, rfl, ?_⟩
    refine ⟨_, rfl, _, rfl, w1, _, rfl, .inr hw1, rfl, flat_nums m, _, s5 _ _ hB, small1000 (by rw [List.length_map, List.length_take]; omega), same_put (s4.trans s5) nB, ?_⟩
    rw [upd_same, take_succ hz2, List.map_append, if_neg (by decide), inV_num]
    rfl
  · rintro H4 ⟨s4, hB⟩
    rw [← lw, List.take_length] at hB
    refine ⟨B, _, rfl, SqL.of hB, ?_⟩
    have q1 := q H4 (s03.trans s4)
    rw [← same, c2, Bool.true_and] at q1
    exact q1
end
end My

set_option maxHeartbeats 8000000
namespace My
open PySem PySem.Spec PyProof.Rows L2 RZ
abbrev sLts : Stmt := top 49
theorem scLts : FnScope ["pot", "multi", "low", "high", "wide", "found", "edge", "begin", "colours"] ["pot", "multi", "low", "high"] (defScope sLts) := ⟨rfl, rfl, rfl, by decide +kernel, rfl, by decide +kernel, by decide +kernel⟩
def LotQ (H : Hp) (x : V) (l : List Nat) : Prop := ∃ u, x = .ref u ∧ H u = some (.tup (numsN l))
abbrev LotsQ (H : Hp) : List V → List (List Nat) → Prop := Paired (LotQ H)
def ListsT (H : Hp) (y : V) (LL : List (List Nat)) : Prop := ∃ t xs, y = .ref t ∧ H t = some (.tup xs) ∧ LotsQ H xs LL
theorem LotsQ.same {H H' : Hp} (s : Same H H') : ∀ {xs : List V} {LL : List (List Nat)}, LotsQ H xs LL → LotsQ H' xs LL
  | _, _, .nil => .nil
  | _, _, .cons ⟨u, e, h⟩ r => .cons ⟨u, e, s _ _ h⟩ (LotsQ.same s r)
theorem LotsQ.but {p : Addr} {H H' : Hp} (b : But p H H') (w : Wl H p) : ∀ {xs : List V} {LL : List (List Nat)}, LotsQ H xs LL → LotsQ H' xs LL
  | _, _, .nil => .nil
  | _, _, .cons ⟨u, e, h⟩ r => .cons ⟨u, e, b _ _ (wl_tup w h) h⟩ (LotsQ.but b w r)
theorem LotsQ.put {H : Hp} {D : Addr} {o : HO} {zs : List V} (hD : H D = some (.lst zs)) : ∀ {xs : List V} {LL : List (List Nat)}, LotsQ H xs LL → LotsQ (upd H D o) xs LL
  | _, _, .nil => .nil
  | _, _, .cons ⟨t, e, h⟩ b => .cons ⟨t, e, by rw [upd_ne (fun z => by rw [z, hD] at h; cases h)]; exact h⟩ (LotsQ.put hD b)
theorem LotsQ.app {H : Hp} : ∀ {xs ys : List V} {ps qs : List (List Nat)}, LotsQ H xs ps → LotsQ H ys qs → LotsQ H (xs ++ ys) (ps ++ qs)
  | _, _, _, _, .nil, h => h
  | _, _, _, _, .cons a b, h => .cons a (LotsQ.app b h)
theorem LotsQ.len {H : Hp} : ∀ {xs : List V} {LL : List (List Nat)}, LotsQ H xs LL → xs.length = LL.length
  | _, _, .nil => rfl
  | _, _, .cons _ b => congrArg (· + 1) (LotsQ.len b)
/-- what the law's lists are made of -/
structure RowOk (l : List Nat) : Prop where
  few : l.length ≤ 9
  lt : ∀ k ∈ l, k ≤ 99
  up : l.Pairwise (· < ·)
theorem asc_nums : ∀ {l : List Nat}, l.Pairwise (· < ·) → ascB (l.map fun k => Sh.int ((k : Nat) : Int)) = true := fun h => asc_lot h
theorem RowOk.list {l : List Nat} (h : RowOk l) : isList (lotZ l) = true := by
  show (decide ((l.map fun k => Sh.int ((k : Nat) : Int)).length ≤ 9) && ((l.map fun k => Sh.int ((k : Nat) : Int)).all (wholeR 0 99) && ascB (l.map fun k => Sh.int ((k : Nat) : Int)))) = true
  rw [asc_nums h.up, Bool.and_true, Bool.and_eq_true, decide_eq_true_eq, List.length_map, List.all_eq_true]
  refine ⟨h.few, fun z hz => ?_⟩
  obtain ⟨k, hk, rfl⟩ := List.mem_map.mp hz
  have := h.lt k hk
  show (decide (((k : Nat) : Int) ≥ 0) && decide (((k : Nat) : Int) ≤ 99)) = true
  simp
  omega
def spLts : Sp := fun vs H Q _ => ∃ (p : Addr) (x : V) (l r lo hi : Nat) (es : List E2), vs = [.ref p, x, .int (lo : Int), .int (hi : Int)] ∧ lo ≤ hi ∧ Wl H p ∧ MulT H x l r es ∧ es.length ≤ 9 ∧ hi ≤ 9 ∧ ∀ y LL H', But p H H' → Wl H' p → ListsT H' y LL → LL.length = es.length → (∀ l ∈ LL, RowOk l ∧ l.length ≤ hi) → Q y H'
theorem perm_numsQ {ys : List V} {l : List Nat} (h : ys.Perm (numsN l)) : ∃ zs, ys = numsN zs ∧ zs.Perm l := by
  let g : V → Nat := fun v => match v with | .int i => i.toNat | _ => 0
  have e : ∀ m : List Nat, (numsN m).map g = m := fun m => by
    unfold numsN
    rw [List.map_map]
    exact List.map_id'' (fun k => by show ((k : Nat) : Int).toNat = k; omega) m
  refine ⟨ys.map g, ?_, ?_⟩
  · unfold numsN
    rw [List.map_map]
    refine Eq.symm (Eq.trans (List.map_congr_left fun v hv => ?_) (List.map_id ys))
    obtain ⟨k, _, rfl⟩ := List.mem_map.mp (h.mem_iff.mp hv)
    show V.int (((k : Nat) : Int).toNat : Int) = V.int (k : Int)
    rw [Int.toNat_natCast]
  · have := h.map g
    rw [e] at this
    exact this
section
variable {P : Program} {w : World} {K : PySem.W.Frag} {mg : Str → Option Value} {base : Heap} {f fD fK fX : Addr} {fd dD dK dX : FuncData}
theorem ok_lts (F : L2.Fun K "_law_lists" "_law_lists" sLts f fd)
    (GD : FnOk P w K mg base CX0 1 fD dD ["pot", "few"] spDraw) (bD : L2.Binds K dD ["pot", "few"] []) (kD : PySem.W.keepIn K (.ref fD) = true) (mD : mg "_law_draw" = some (.ref fD))
    (GK : FnOk P w K mg base CX0 2 fK dK ["pot", "some"] (spPickL K)) (bK : L2.Binds K dK ["pot", "some"] []) (kK : PySem.W.keepIn K (.ref fK) = true) (mK : mg "_law_pick" = some (.ref fK))
    (GX : FnOk P w K mg base CX0 2 fX dX ["pot", "some"] (spMixed K)) (bX : L2.Binds K dX ["pot", "some"] []) (kX : PySem.W.keepIn K (.ref fX) = true) (mX : mg "_law_mixed" = some (.ref fX))
    (mr : mg "range" = none) (mli : mg "list" = none) (mn : mg "min" = none) (mx : mg "max" = none) (mso : mg "sorted" = none) (mt : mg "tuple" = none) : FnOk P w K mg base CX0 3 f fd ["pot", "multi", "low", "high"] spLts := by
  refine F.ok scLts (fun vs H Q E h => ?_) (fun cdv A outer s0 H vs Q E hr h => ?_)
  · obtain ⟨p, x, l, r, lo, hi, es, rfl, _⟩ := h
    rfl
  obtain ⟨p, x, l, r, lo, hi, es, rfl, lohi, hW, ⟨t, e, ys, rfl, ht, he, hes⟩, e9, h9, q⟩ := h
  have h1 := hr.mono (show 1 ≤ 2 by decide)
  refine ⟨_, pss_cons (ps_par (by rfl) scLts.nd (i := 4) (j := 5) rfl rfl (by decide) rfl rfl (pa_cons (pe_call GK hr (by rfl) mK kK bK .nil pass0 (pa_cons (pv 0) (pa_cons (pe_lst (pa_cons pe_int (pa_cons pe_int (pa_cons pe_int (pa_cons pe_int pa_nil))))) pa_nil))) (pa_cons (pe_lst pa_nil) pa_nil)) (by rfl))
    (pss_cons (ps_set (i := 4) scLts.nd rfl (.inl rfl) (pe_callB (call_max2 rfl) (by rfl) mx (by decide +kernel) (pa_cons (pv 4) (pa_cons (pv 3) pa_nil))))
    (pss_cons (ps_for PassesOwn.never rfl (pi_tup (pe_ix (r := rIxT K) ix_tup (pv 1) pe_int (fun _ _ => rfl))) (pg_name (i := 6) scLts.nd rfl (.inl rfl))
      (pss_cons (ps_set (i := 7) scLts.nd rfl (.inl rfl) (pe_call GK hr (by rfl) mK kK bK .nil pass0 (pa_cons (pv 0) (pa_cons (pe_lst (pa_cons pe_int (pa_cons pe_int (pa_cons pe_int (pa_cons pe_int pa_nil))))) pa_nil))))
      (pss_cons (ps_set (i := 8) scLts.nd rfl (.inl rfl) (pe_call GX hr (by rfl) mX kX bX .nil pass0 (pa_cons (pv 0) (pa_cons (pe_callTy (call_listRng2 rfl) (by rfl) mli (by decide +kernel) (pa_cons (pe_callTy cr_range2 (by rfl) mr (by decide +kernel) (pa_cons (pv 7) (pa_cons (pe_callB (call_min2 rfl) (by rfl) mn (by decide +kernel) (pa_cons (pe_op op_add (pv 7) (pv 4)) (pa_cons pe_int pa_nil))) pa_nil))) pa_nil)) pa_nil))))
      (pss_one (ps_expr (pe_bm PySem.F.plainAttrs_list PySem.F.slot_list_append PySem.F.type_list_append mt_append (pv 5) (pa_cons (pe_callTy call_tuple_of (by rfl) mt (by decide +kernel) (pa_cons (pe_callB cr_sorted (by rfl) mso (by decide +kernel) (pa_cons (pe_slice sl_list (pv 8) po_none (po_some (pe_op op_add (pv 2) (pe_call GD h1 (by rfl) mD kD bD .nil pass0 (pa_cons (pv 0) (pa_cons (pe_op op_add (pe_op op_sub (pv 3) (pv 2)) pe_int) pa_nil)))))) pa_nil)) pa_nil)) pa_nil)))))))
    (pss_one (ps_ret (pe_callTy call_tuple_of (by rfl) mt (by decide +kernel) (pa_cons (pv 5) pa_nil)))))), ?_⟩
  have line : ∀ k, k ≤ 1000 → k ≤ sizeLine := fun k hk => small hk
  have le := PairsT.len hes
  have a2 : atI [V.int (l : Int), V.int (r : Int), V.ref e] 2 = some (.ref e) := atI_nat (j := 2) rfl
  have ht0 := wl_tup hW ht
  refine ⟨_, rfl, line 4 (by decide), fun F1 n1 => ?_⟩
  have sF1 := same_new n1 (.lst [V.int 3, V.int 4, V.int 6, V.int 9])
  refine ⟨p, F1, _, rfl, hW.same sF1, upd_same, hW.ne n1, by simp, by simp, fun i v H1 hi' b1 w1 => ?_⟩
  obtain ⟨wd, rfl, wd9⟩ : ∃ n : Nat, v = .int (n : Int) ∧ n ≤ 9 := by
    have m := List.mem_of_getElem? hi'
    simp only [List.mem_cons, List.mem_nil_iff, or_false] at m
    rcases m with rfl | rfl | rfl | rfl
    · exact ⟨3, rfl, by decide⟩
    · exact ⟨4, rfl, by decide⟩
    · exact ⟨6, rfl, by decide⟩
    · exact ⟨9, rfl, by decide⟩
  have B1 : But p H H1 := (But.of sF1).trans b1
  refine ⟨line 0 (by decide), fun D nD => ⟨_, _, rfl, ?_⟩⟩
  have sD := same_new nD (.lst [])
  have hD := upd_same (H := H1) (a := D) (o := .lst [])
  have Dp := w1.ne nD
  have w2 := w1.same sD
  have B2 := B1.trans (But.of sD)
  have he1 := B1 _ _ (wl_tup hW he) he
  generalize upd H1 D (.lst []) = H2 at sD hD w2 B2 ⊢
  refine ⟨_, rfl, _, rfl, _, _, rfl, ?_⟩
  obtain ⟨W, hWe, W9, Wh⟩ : ∃ W : Nat, (if ((hi : Nat) : Int) > ((wd : Nat) : Int) then ((hi : Nat) : Int) else ((wd : Nat) : Int)) = (W : Int) ∧ W ≤ 9 ∧ hi ≤ W := by
    split
    · exact ⟨hi, rfl, h9, Nat.le_refl _⟩
    · exact ⟨wd, rfl, wd9, by omega⟩
  rw [hWe]
  have ht2 := B2 _ _ ht0 ht
  have he2 := B2 _ _ (wl_tup hW he) he
  refine ⟨_, rfl, t, _, 2, _, rfl, rfl, SqT.of ht2, a2, e, rfl, ⟨_, SqT.of (K := K) he2⟩, for_it (walk_tup (xs := ys)) (fun i σ H' => ∃ (zs : List V) (LL : List (List Nat)) (s6 s7 s8 : Option V), σ = [some (.ref p), some (.ref t), some (.int (lo : Int)), some (.int (hi : Int)), some (.int (W : Int)), some (.ref D), s6, s7, s8] ∧ But p H1 H' ∧ Wl H' p ∧ H' D = some (.lst zs) ∧ LotsQ H' zs LL ∧ LL.length = i ∧ ∀ l ∈ LL, RowOk l ∧ l.length ≤ hi)
    ⟨[], [], none, none, none, rfl, But.of sD, w2, hD, .nil, rfl, fun _ z => nomatch z⟩ (fun i σ H' _ ⟨_, _, _, _, _, _, b, _⟩ => SqT.of (b _ _ (wl_tup w1 he1) he1)) ?_ ?_⟩
  · rintro i x σ _ H3 li ⟨zs, LL, s6, s7, s8, rfl, b3, w3, hD3, lq, ll, ok⟩ ⟨rfl, hi2⟩
    refine ⟨_, rfl, line 4 (by decide), fun F nF => ?_⟩
    have sF := same_new nF (.lst [V.int 0, V.int 0, V.int 0, V.int 91])
    refine ⟨p, F, _, rfl, w3.same sF, upd_same, w3.ne nF, by simp, by simp, fun j v H4 hj b4 w4 => ?_⟩
    obtain ⟨bg, rfl, bg0⟩ : ∃ n : Nat, v = .int (n : Int) ∧ (n = 0 ∨ n = 91) := by
      have m := List.mem_of_getElem? hj
      simp only [List.mem_cons, List.mem_nil_iff, or_false] at m
      rcases m with rfl | rfl | rfl | rfl
      · exact ⟨0, rfl, .inl rfl⟩
      · exact ⟨0, rfl, .inl rfl⟩
      · exact ⟨0, rfl, .inl rfl⟩
      · exact ⟨91, rfl, .inr rfl⟩
    have B34 : But p H3 H4 := (But.of sF).trans b4
    have hD4 := B34 _ _ Dp hD3
    have lq4 := lq.but B34 w3
    refine ⟨_, rfl, _, rfl, _, rfl, _, rfl, _, _, rfl, rfl, _, _, rfl, ?_⟩
    have mn' : (if (100 : Int) < ((bg : Nat) : Int) + ((W : Nat) : Int) then (100 : Int) else ((bg : Nat) : Int) + ((W : Nat) : Int)) = ((bg + W : Nat) : Int) := by
      rw [if_neg (by omega)]
      omega
    rw [mn']
    refine ⟨_, _, rfl, fun rg nrg => ?_⟩
    have srg := same_new nrg (.rng (bg : Int) ((bg + W : Nat) : Int))
    refine ⟨rg, bg, W, rfl, upd_same, by omega, by omega, fun lr nlr => ?_⟩
    have slr := same_new nlr (.lst (numsN ((List.range W).map (bg + ·))))
    have w5 := w4.same (srg.trans slr)
    refine ⟨p, lr, _, rfl, w5, .inl (SqL.of upd_same), by rw [numsN_len, List.length_map, List.length_range]; omega, fun L ys' H6 pm hL Lp b6 w6 => ?_⟩
    obtain ⟨os, rfl, pz⟩ := perm_numsQ pm
    have B36 : But p H3 H6 := B34.trans ((But.of (srg.trans slr)).trans b6)
    have los : os.length = W := by rw [pz.length_eq, List.length_map, List.length_range]
    have osl : ∀ k ∈ os, k ≤ 99 := fun k hk => by
      obtain ⟨a, ha, rfl⟩ := List.mem_map.mp (pz.mem_iff.mp hk)
      have := List.mem_range.mp ha
      show bg + a ≤ 99
      omega
    have osn : os.Nodup := pz.nodup_iff.mpr (by
      refine List.Pairwise.map _ (fun a b h => ?_) List.nodup_range
      intro e
      exact h (by omega))
    have hD6 := B36 _ _ Dp hD3
    have lq6 := lq.but B36 w3
    refine ⟨_, rfl, .inl ⟨rfl, _, SqL.of hD6⟩, ?_⟩
    refine ⟨_, rfl, _, rfl, _, rfl, _, rfl, _, rfl, _, _, rfl, rfl, _, _, rfl, rfl, p, _, rfl, w6, by omega, by omega, fun d H7 d0 d1 b7 w7 => ?_⟩
    obtain ⟨dn, edn, dh⟩ : ∃ dn : Nat, (lo : Int) + d = (dn : Int) ∧ dn ≤ hi := ⟨((lo : Int) + d).toNat, by omega, by omega⟩
    have hL7 := b7 _ _ Lp hL
    refine ⟨_, _, rfl, rfl, _, rfl, L, _, rfl, SqL.of hL7, ?_⟩
    rw [edn, cut_to (by rw [numsN_len]; omega)]
    intro c nc
    have sc := same_new nc (.lst ((numsN os).take dn))
    have hc := upd_same (H := H7) (a := c) (o := .lst ((numsN os).take dn))
    have B37 := B36.trans (b7.trans (But.of sc))
    have w8 := w7.same sc
    have e1 : (numsN os).take dn = ((os.take dn).map fun k => ((k : Nat) : Int)).map V.int := by
      unfold numsN
      rw [← List.map_take, List.map_map]
      rfl
    generalize upd H7 c (.lst ((numsN os).take dn)) = H8 at hc B37 w8 ⊢
    rw [e1] at hc
    refine ⟨c, _, rfl, SqL.of hc, by rw [List.length_map, List.length_take]; omega, fun ns S pn so nS => ?_⟩
    have sS := same_new nS (.lst (ns.map V.int))
    have hS := upd_same (H := H8) (a := S) (o := .lst (ns.map V.int))
    generalize upd H8 S (.lst (ns.map V.int)) = H9 at sS hS ⊢
    refine ⟨S, _, rfl, .inl ⟨SqL.of hS, fun z nz => ?_⟩⟩
    have sz := same_new nz (.tup (ns.map V.int))
    have hz := upd_same (H := H9) (a := z) (o := .tup (ns.map V.int))
    generalize upd H9 z (.tup (ns.map V.int)) = H10 at sz hz ⊢
    have nn : ∀ k ∈ ns, ∃ a ∈ os.take dn, k = ((a : Nat) : Int) := fun k hk => by
      obtain ⟨a, ha, e⟩ := List.mem_map.mp (pn.mem_iff.mp hk)
      exact ⟨a, ha, e.symm⟩
    have e2 : ns.map V.int = numsN (ns.map Int.toNat) := by
      unfold numsN
      rw [List.map_map]
      refine List.map_congr_left fun k hk => ?_
      obtain ⟨a, _, rfl⟩ := nn k hk
      show V.int ((a : Nat) : Int) = V.int (((((a : Nat) : Int).toNat : Nat)) : Int)
      rw [Int.toNat_natCast]
    have nd : ns.Nodup := pn.nodup_iff.mpr (by
      refine List.Pairwise.map _ (fun a b h e => h (Int.ofNat.inj e)) (osn.sublist (List.take_sublist dn os)))
    have row : RowOk (ns.map Int.toNat) := by
      refine ⟨?_, fun k hk => ?_, ?_⟩
      · rw [List.length_map, pn.length_eq, List.length_map, List.length_take]
        omega
      · obtain ⟨a, ha, rfl⟩ := List.mem_map.mp hk
        obtain ⟨b, hb, rfl⟩ := nn a ha
        rw [Int.toNat_natCast]
        exact osl b (List.mem_of_mem_take hb)
      · rw [List.pairwise_map]
        refine (so.and nd).imp_of_mem ?_
        intro a b ha hb ⟨le', ne⟩
        obtain ⟨a', _, rfl⟩ := nn a ha
        obtain ⟨b', _, rfl⟩ := nn b hb
        rw [Int.toNat_natCast, Int.toNat_natCast]
        omega
    rw [e2] at hz
    have B310 := B37.trans (But.of (sS.trans sz))
    have hD10 := B310 _ _ Dp hD3
    have w10 := w8.same (sS.trans sz)
    have lz := (lq.but B310 w3).len
    have le9 : ys.length ≤ 9 := by omega
    refine ⟨D, zs, _, rfl, rfl, hD10, small1000 (by omega), ?_⟩
    refine ⟨zs ++ [.ref z], LL ++ [ns.map Int.toNat], _, _, _, rfl, but_put (b3.trans B310) nD, w10.put Dp, upd_same, (((lq.but B310 w3).app (.cons ⟨z, rfl, hz⟩ .nil)).put hD10), by rw [List.length_append, ll]; rfl, fun k hk => ?_⟩
    · rcases List.mem_append.mp hk with y | y
      · exact ok k y
      · rw [List.mem_singleton.mp y]
        exact ⟨row, by rw [List.length_map, pn.length_eq, List.length_map, List.length_take]; omega⟩
  · rintro σ H3 ⟨zs, LL, s6, s7, s8, rfl, b3, w3, hD3, lq, ll, ok⟩
    refine ⟨_, rfl, D, zs, rfl, .inl ⟨SqL.of hD3, fun T nT => ?_⟩⟩
    have sT := same_new nT (.tup zs)
    exact q _ LL _ (B1.trans (b3.trans (But.of sT))) (w3.same sT) ⟨T, zs, rfl, upd_same, lq.same sT⟩ (by omega) ok
end
end My

set_option maxHeartbeats 4000000
/-! min of a list of pairs of numbers: one of them. -/
namespace My
open PySem PySem.Spec PyProof.Rows L2 PySem.W
section
variable {X : Cx}
def rMinZ (K : PySem.W.Frag) : List V → Hp → VK → Prop := fun vs H Q => ∃ (l : Addr) (xs : List V) (ps : List Z2), vs = [V.ref l] ∧ SqL K H l xs ∧ ShsAt K H xs (ps.map zS) ∧ ps ≠ [] ∧ ∀ (i : Nat) x, xs[i]? = some x → Q x H
theorem cr_minZ (hc : X.calm = true) (hu : X.A.units + 64 < cLine) : CallR X (.builtin "min") (rMinZ X.K) := by
  intro pins s σ H vs us Q I r h
  obtain ⟨l, xs, ps, rfl, hl, hz, ne, q⟩ := h
  rw [Vals.ref1 r]
  obtain ⟨its, rv, pl, _⟩ := I.list hl
  cases ps with
  | nil => exact absurd rfl ne
  | cons p ps =>
    have hd := zSs_dp hz
    obtain ⟨as, ra⟩ := Dp.readsAll I _ _ _ hd rv
    have HA : HoldAll s.heap its ((p :: ps : List (Int × Int))) := ⟨as, ra⟩
    have e : Datum.depth (Int × Int) ≤ 60 := by decide
    have hq : X.A.units + 1 + Datum.depth (Int × Int) < cLine := by omega
    refine min_list_datum (α := Int × Int) (I.ok.hd hc) pl.isList (x := p) (xs := ps) (by simpa using HA) hq fun i v h' tk hi _ hk => ?_
    have hi' : its[i]? = some v := by simpa using hi
    have lt : i < xs.length := by
      rw [rv.length]
      exact (List.getElem?_eq_some_iff.mp hi').1
    obtain ⟨u, hu', ru⟩ := rv.get (List.getElem?_eq_getElem lt)
    rw [hi'] at hu'
    cases hu'
    exact ⟨_, H, I.kept (t' := tk) hk, ru, q i _ (List.getElem?_eq_getElem lt)⟩
end
end My

set_option maxHeartbeats 16000000
namespace My
open PySem PySem.Spec PyProof.Rows L2 RZ
abbrev sFnd : Stmt := top 51
theorem scFnd : FnScope ["multi", "lists", "begun", "left", "edge", "near", "here", "colour", "found", "other"] ["multi", "lists", "begun"] (defScope sFnd) := ⟨rfl, rfl, rfl, by decide +kernel, rfl, by decide +kernel, by decide +kernel⟩
def ListsS (K : PySem.W.Frag) (H : Hp) (y : V) (LL : List (List Nat)) : Prop := ∃ (t : Addr) (xs : List V), y = .ref t ∧ SqT K H t xs ∧ LotsQ H xs LL
def optV : Option Nat → V
  | none => .non
  | some c => .int (c : Int)
def noneC (bg : List (Option Nat)) : Nat := (bg.filter Option.isNone).length
/-- a colouring from the lists, and one begun -/
structure ColP (es : List E2) (LL : List (List Nat)) (cs : List Nat) : Prop where
  len : cs.length = es.length
  lst : ∀ (e : Nat) (row : List Nat) (c : Nat), LL[e]? = some row → cs[e]? = some c → c ∈ row
  diff : ∀ (i j c d : Nat), i ≠ j → cs[i]? = some c → cs[j]? = some d → meetB es i j = true → c ≠ d
def Goes (bg : List (Option Nat)) (cs : List Nat) : Prop := ∀ (e c : Nat), bg[e]? = some (some c) → cs[e]? = some c
structure PreC (es : List E2) (LL : List (List Nat)) (bg : List (Option Nat)) : Prop where
  lst : ∀ (e : Nat) (row : List Nat) (c : Nat), LL[e]? = some row → bg[e]? = some (some c) → c ∈ row
  diff : ∀ (i j c d : Nat), i ≠ j → bg[i]? = some (some c) → bg[j]? = some (some d) → meetB es i j = true → c ≠ d
def Sure (es : List E2) (LL : List (List Nat)) (bg : List (Option Nat)) (res : List V) (K : PySem.W.Frag) (H : Hp) : Prop := (res = [] ∧ ∀ cs, ColP es LL cs → ¬ Goes bg cs) ∨ ∃ (t : Addr) (cs : List Nat), res = [.ref t] ∧ SqT K H t (numsN cs) ∧ (∀ c ∈ cs, c ≤ 99) ∧ ColP es LL cs ∧ Goes bg cs
theorem set_at {bg : List (Option Nat)} {e : Nat} (c : Nat) (h : e < bg.length) : bg.take e ++ [some c] ++ bg.drop (e + 1) = bg.set e (some c) := by
  rw [List.set_eq_take_append_cons_drop, if_pos h, List.append_assoc]
  rfl
theorem goes_set {bg : List (Option Nat)} {e c : Nat} {cs : List Nat} (h : e < bg.length) (g : Goes bg cs) (ce : cs[e]? = some c) : Goes (bg.set e (some c)) cs := fun k d hk => by
  rw [List.getElem?_set] at hk
  split at hk
  · rename_i q
    injection hk with hk
    injection hk with hk
    rw [← q, ← hk]
    exact ce
  · exact g k d hk
theorem goes_back {bg : List (Option Nat)} {e c : Nat} {cs : List Nat} (ho : bg[e]? = some none) (g : Goes (bg.set e (some c)) cs) : Goes bg cs := fun k d hk => by
  refine g k d ?_
  rw [List.getElem?_set]
  split
  · rename_i q
    rw [← q, ho] at hk
    cases hk
  · exact hk
theorem meet_comm (es : List E2) (i j : Nat) : meetB es i j = meetB es j i := by
  unfold meetB
  rw [show ((eAt es i).1 == (eAt es j).1) = ((eAt es j).1 == (eAt es i).1) from BEq.comm, show ((eAt es i).2 == (eAt es j).2) = ((eAt es j).2 == (eAt es i).2) from BEq.comm]
theorem pre_set {es : List E2} {LL : List (List Nat)} {bg : List (Option Nat)} {e c : Nat} {row : List Nat} (p : PreC es LL bg) (h : e < bg.length) (hr : LL[e]? = some row) (hc : c ∈ row) (no : ∀ j, e ≠ j → meetB es e j = true → bg[j]? ≠ some (some c)) : PreC es LL (bg.set e (some c)) := by
  have at' : ∀ k d, (bg.set e (some c))[k]? = some (some d) → (k = e ∧ d = c) ∨ (k ≠ e ∧ bg[k]? = some (some d)) := fun k d hk => by
    rw [List.getElem?_set] at hk
    split at hk
    · rename_i q
      injection hk with hk
      injection hk with hk
      exact .inl ⟨q.symm, hk.symm⟩
    · rename_i q
      exact .inr ⟨fun z => q z.symm, hk⟩
  refine ⟨fun k r d hr' hk => ?_, fun i j d d' ne hi hj m => ?_⟩
  · rcases at' k d hk with ⟨rfl, rfl⟩ | ⟨_, hk⟩
    · rw [hr] at hr'
      cases hr'
      exact hc
    · exact p.lst k r d hr' hk
  · rcases at' i d hi with ⟨rfl, rfl⟩ | ⟨_, hi⟩
    · rcases at' j d' hj with ⟨rfl, _⟩ | ⟨_, hj⟩
      · exact absurd rfl ne
      · intro z
        exact no j ne m (by rw [hj, z])
    · rcases at' j d' hj with ⟨ej, ed⟩ | ⟨_, hj⟩
      · intro z
        rw [meet_comm, ej] at m
        exact no i (fun q => ne (by rw [← q, ej])) m (by rw [hi, z, ed])
      · exact p.diff i j d d' ne hi hj m
theorem inV_opts (c : Nat) : ∀ os : List (Option Nat), inV (V.int (c : Int)) (os.map optV) = decide (some c ∈ os)
  | [] => rfl
  | a :: os => by
    have ih := inV_opts c os
    unfold inV at ih ⊢
    rw [List.map_cons, List.any_cons, ih]
    cases a with
    | none =>
      have e : eqV (V.int (c : Int)) V.non = false := rfl
      have e' : eqV V.non (V.int (c : Int)) = false := rfl
      show (_ || _) = _
      first
        | rw [show eqV (V.int (c : Int)) (optV none) = false from rfl]
        | rw [show eqV (optV none) (V.int (c : Int)) = false from rfl]
      simp
    | some a =>
      have e : eqV (V.int (c : Int)) (V.int (a : Int)) = decide (c = a) := by
        show ((c : Int) == (a : Int)) = _
        by_cases h : c = a
        · subst h; simp
        · rw [beq_eq_false_iff_ne.mpr (by omega), decide_eq_false h]
      have e' : eqV (V.int (a : Int)) (V.int (c : Int)) = decide (c = a) := by
        show ((a : Int) == (c : Int)) = _
        by_cases h : c = a
        · subst h; simp
        · rw [beq_eq_false_iff_ne.mpr (by omega), decide_eq_false h]
      first
        | rw [show eqV (V.int (c : Int)) (optV (some a)) = decide (c = a) from e]
        | rw [show eqV (optV (some a)) (V.int (c : Int)) = decide (c = a) from e']
      rw [Bool.eq_iff_iff]
      simp
theorem flat_opts (os : List (Option Nat)) : (os.map optV).all flatV = true := by
  rw [List.all_map]
  exact List.all_eq_true.mpr fun o _ => by cases o <;> rfl
def spFnd (K : PySem.W.Frag) (k : Nat) : Sp := fun vs H Q _ => ∃ (x y : V) (b : Addr) (l r : Nat) (es : List E2) (LL : List (List Nat)) (bg : List (Option Nat)), vs = [x, y, .ref b] ∧ MulAt K H x l r es ∧ es.length ≤ 9 ∧ ListsS K H y LL ∧ LL.length = es.length ∧ (∀ l ∈ LL, RowOk l) ∧ SqT K H b (bg.map optV) ∧ bg.length = es.length ∧ (∀ c, some c ∈ bg → c ≤ 99) ∧ noneC bg < k ∧ PreC es LL bg ∧
  ∀ (F : Addr) (res : List V) H', Same H H' → H' F = some (.lst res) → Sure es LL bg res K H' → Q (.ref F) H'
theorem Kp.put' {K : PySem.W.Frag} {H : Hp} {T : Addr} {zs ws : List V} (h : H T = some (.lst zs)) : Kp K H (upd H T (.lst ws)) := by
  refine ⟨fun t xs hx => (TS.put h).tup hx, fun a xs hx => ?_, fun a kvs hx => ?_⟩
  · rcases hx with (hx | ⟨o, hx⟩) | hx
    · by_cases e : a = T
      · subst e
        exact ⟨ws, SqL.of upd_same⟩
      · exact ⟨xs, SqL.of (by rw [upd_ne e]; exact hx)⟩
    · by_cases e : a = T
      · subst e
        rw [h] at hx
        cases hx
      · exact ⟨xs, .inl (.inr ⟨o, by rw [upd_ne e]; exact hx⟩)⟩
    · exact ⟨xs, .inr hx⟩
  · by_cases e : a = T
    · subst e
      rw [h] at hx
      cases hx
    · rw [upd_ne e]
      exact hx
theorem zDs_sh (ps : List Z2) : SeqAt.shaped (.list (ps.map zD)) = true := by
  have h1 := zDs_lay ps
  have h2 := zDs_depth ps
  unfold SeqAt.shaped
  rw [Bool.and_eq_true, decide_eq_true_eq]
  refine ⟨?_, ?_⟩
  · simp only [PyData.canLay0, h1]
  · simp only [PyData.depth]
    omega
theorem zDs_nil (ps : List Z2) : PyData.eqv (.list (ps.map zD)) (.list []) = ps.isEmpty := by
  cases ps with
  | nil => simp [PyData.eqv, PyData.eqvAll]
  | cons a r => simp [PyData.eqv, PyData.eqvAll]
theorem optV_flat (o : Option Nat) : flatV (optV o) = true := by cases o <;> rfl
theorem optV_non (o : Option Nat) : decide (optV o = V.non) = o.isNone := by cases o <;> rfl
theorem all_some : ∀ {bg : List (Option Nat)}, (∀ e, e < bg.length → bg[e]? ≠ some none) → ∃ cs : List Nat, bg = cs.map some
  | [], _ => ⟨[], rfl⟩
  | none :: bg, h => absurd rfl (h 0 (by simp))
  | some c :: bg, h => by
    obtain ⟨cs, e⟩ := all_some (bg := bg) fun e he => by
      have := h (e + 1) (by simpa using he)
      simpa using this
    exact ⟨c :: cs, by rw [e]; rfl⟩
theorem none_set {bg : List (Option Nat)} {e : Nat} (c : Nat) (h : bg[e]? = some none) : noneC (bg.take e ++ [some c] ++ bg.drop (e + 1)) + 1 = noneC bg := by
  have pm := perm_cut h
  have l1 : noneC bg = noneC (none :: (bg.take e ++ bg.drop (e + 1))) := (pm.filter _).length_eq
  rw [l1]
  unfold noneC
  simp [List.filter_append, List.filter_cons]
  try omega
section
variable {P : Program} {w : World} {K : PySem.W.Frag} {mg : Str → Option Value} {base : Heap} {f fN : Addr} {fd dN : FuncData}
theorem ok_fnd (F : L2.Fun K "_law_found" "_law_found" sFnd f fd) (B : L2.Binds K fd ["multi", "lists", "begun"] []) (kF : PySem.W.keepIn K (.ref f) = true) (mF : mg "_law_found" = some (.ref f))
    (GN : FnOk P w K mg base CX0 1 fN dN ["multi", "one", "two"] (spNear K)) (bN : L2.Binds K dN ["multi", "one", "two"] []) (kN : PySem.W.keepIn K (.ref fN) = true) (mN : mg "_law_near" = some (.ref fN))
    (ml : mg "len" = none) (mr : mg "range" = none) (mn : mg "min" = none) : ∀ k, FnOk P w K mg base CX0 (k + 2) f fd ["multi", "lists", "begun"] (spFnd K k)
  | 0 => by
    refine F.ok scFnd (fun vs H Q E h => ?_) (fun cdv A outer s H vs Q E hr h => ?_)
    · obtain ⟨x, y, b, l, r, es, LL, bg, rfl, _⟩ := h
      rfl
    obtain ⟨x, y, b, l, r, es, LL, bg, rfl, _, _, _, _, _, _, _, _, z, _, _⟩ := h
    omega
  | k + 1 => by
    have G := ok_fnd F B kF mF GN bN kN mN ml mr mn k
    refine F.ok scFnd (fun vs H Q E h => ?_) (fun cdv A outer s H vs Q E hr h => ?_)
    · obtain ⟨x, y, b, l, r, es, LL, bg, rfl, _⟩ := h
      rfl
    obtain ⟨x, y, b, l, r, es, LL, bg, rfl, hx, e9, hy, ll, rok, hb, lb, bok, nk, pre, q⟩ := h
    have h1 := hr.mono (show 1 ≤ k + 2 by omega)
    refine ⟨_, pss_cons (ps_set (i := 3) scFnd.nd rfl (.inl rfl) (pe_lst pa_nil))
      (pss_cons (ps_for PassesOwn.never rfl (pi_range1 rfl mr (pa_cons (pe_callB call_len_seq (by rfl) ml PySem.boot_len (pa_cons (pv 1) pa_nil)) pa_nil)) (pg_name (i := 4) scFnd.nd rfl (.inr rfl))
        (pss_one (ps_if (pt_cmpR op_isN (pe_ix (r := rIxT K) ix_tup (pv 2) (pv 4) (fun _ _ => rfl)) pe_non (nomark _))
          (pss_cons (ps_set (i := 5) scFnd.nd rfl (.inr rfl) (pe_lc (own := [("other", 9)]) (g := gName 9) (tt := tB (tCall (spNear K) [] E0 (tCons (tVar 0) (tCons (tVar 4) (tCons (tVar 9) tNil))))) rfl scFnd.nd (pi_range1 rfl mr (pa_cons (pe_callB call_len_seq (by rfl) ml PySem.boot_len (pa_cons (pv 1) pa_nil)) pa_nil))
              (blkOk_by (N := ["multi", "lists", "begun", "left", "edge", "near", "here", "colour", "found", "other"]) (sc := defScope sFnd) (by decide +kernel)) (fun _ _ _ _ _ => pg_name (i := 9) scFnd.nd rfl (Or.inl rfl))
              (fun _ _ _ _ _ => pts_one (pt_val (pe_call GN h1 (by rfl) mN kN bN .nil pass0 (pa_cons (pv 0) (pa_cons (pv 4) (pa_cons (pv 9) pa_nil))))))
              (fun _ _ _ _ _ => pe_ix (r := rIxT K) ix_tup (pv 2) (pv 9) (fun _ _ => rfl))))
          (pss_one (ps_expr (pe_bm PySem.F.plainAttrs_list PySem.F.slot_list_append PySem.F.type_list_append mt_append (pv 3) (pa_cons (pe_tup (pa_cons (pe_callB call_len_seq (by rfl) ml PySem.boot_len (pa_cons (pe_lc (own := [("colour", 7)]) (g := gName 7) (tt := tTest (tOp (rIn K true) (tVar 7) (tVar 5))) rfl scFnd.nd (pi_tup (pe_ix (r := rIxT K) ix_tup (pv 1) (pv 4) (fun _ _ => rfl)))
              (blkOk_by (N := ["multi", "lists", "begun", "left", "edge", "near", "here", "colour", "found", "other"]) (sc := defScope sFnd) (by decide +kernel)) (fun _ _ _ _ _ => pg_name (i := 7) scFnd.nd rfl (Or.inl rfl))
              (fun _ _ _ _ _ => pts_one (pt_cmpR (r := rIn K true) op_notIn_seq (pv 7) (pv 5) (by rfl)))
              (fun _ _ _ _ _ => pv 7)) pa_nil)) (pa_cons (pv 4) pa_nil))) pa_nil))))) pss_nil)))
      (pss_cons (ps_if (pt_cmpR (op_eqD hr.units) (pv 3) (pe_lst pa_nil) (nomark _)) (pss_one (ps_ret (pe_lst (pa_cons (pv 2) pa_nil)))) pss_nil)
      (pss_cons (ps_set (i := 6) scFnd.nd rfl (.inr rfl) (pe_ix (r := rIxT K) ix_tup (pe_callB (cr_minZ rfl hr.units) (by rfl) mn (by decide +kernel) (pa_cons (pv 3) pa_nil)) pe_int (fun _ _ => rfl)))
      (pss_cons (ps_set (i := 5) scFnd.nd rfl (.inr rfl) (pe_lc (own := [("other", 9)]) (g := gName 9) (tt := tB (tCall (spNear K) [] E0 (tCons (tVar 0) (tCons (tVar 6) (tCons (tVar 9) tNil))))) rfl scFnd.nd (pi_range1 rfl mr (pa_cons (pe_callB call_len_seq (by rfl) ml PySem.boot_len (pa_cons (pv 1) pa_nil)) pa_nil))
              (blkOk_by (N := ["multi", "lists", "begun", "left", "edge", "near", "here", "colour", "found", "other"]) (sc := defScope sFnd) (by decide +kernel)) (fun _ _ _ _ _ => pg_name (i := 9) scFnd.nd rfl (Or.inl rfl))
              (fun _ _ _ _ _ => pts_one (pt_val (pe_call GN h1 (by rfl) mN kN bN .nil pass0 (pa_cons (pv 0) (pa_cons (pv 6) (pa_cons (pv 9) pa_nil))))))
              (fun _ _ _ _ _ => pe_ix (r := rIxT K) ix_tup (pv 2) (pv 9) (fun _ _ => rfl))))
      (pss_cons (ps_for PassesOwn.never rfl (pi_tup (pe_ix (r := rIxT K) ix_tup (pv 1) (pv 6) (fun _ _ => rfl))) (pg_name (i := 7) scFnd.nd rfl (.inl rfl))
        (pss_one (ps_if (pt_cmpR op_notIn_seq (pv 7) (pv 5) (by rfl))
          (pss_cons (ps_set (i := 8) scFnd.nd rfl (.inl rfl) (pe_call G hr (by rfl) mF kF B .nil pass0 (pa_cons (pv 0) (pa_cons (pv 1) (pa_cons (pe_op op_catW (pe_op op_catW (pe_slice sl_tupW (pv 2) po_none (po_some (pv 6))) (pe_tup (pa_cons (pv 7) pa_nil))) (pe_slice sl_tupW (pv 2) (po_some (pe_op op_add (pv 6) pe_int)) po_none)) pa_nil)))))
          (pss_one (ps_if (pt_cmpR (op_neD hr.units) (pv 8) (pe_lst pa_nil) (nomark _)) (pss_one (ps_ret (pv 8))) pss_nil))) pss_nil)))
      (pss_one (ps_ret (pe_lst pa_nil)))))))), ?_⟩
    have line : ∀ k, k ≤ 1000 → k ≤ sizeLine := fun k hk => small hk
    obtain ⟨ty, xs, rfl, hty, lq⟩ := hy
    have lx := LotsQ.len lq
    have gB : ∀ j, j < es.length → ∃ o, bg[j]? = some o ∧ (bg.map optV)[j]? = some (optV o) := fun j hj => by
      have hj' : j < bg.length := by omega
      exact ⟨bg[j], List.getElem?_eq_getElem hj', by rw [List.getElem?_map, List.getElem?_eq_getElem hj']; rfl⟩
    have gX : ∀ j, j < es.length → ∀ H', Same H H' → ∃ u row, LL[j]? = some row ∧ xs[j]? = some (.ref u) ∧ H' u = some (.tup (numsN row)) := fun j hj H' s' => by
      have hj' : j < xs.length := by omega
      have z := lq.same s'
      clear lq
      have : ∀ {xs : List V} {LL : List (List Nat)}, LotsQ H' xs LL → ∀ {j : Nat} {v : V}, xs[j]? = some v → ∃ row, LL[j]? = some row ∧ LotQ H' v row := by
        intro xs LL h
        induction h with
        | nil => intro j v e; simp at e
        | cons a r ih =>
          intro j v e
          cases j with
          | zero => simp at e; subst e; exact ⟨_, rfl, a⟩
          | succ j =>
            obtain ⟨row, h1, h2⟩ := ih (j := j) (v := v) (by simpa using e)
            exact ⟨row, by simpa using h1, h2⟩
      obtain ⟨row, h1, u, h2, h3⟩ := this z (List.getElem?_eq_getElem hj')
      exact ⟨u, row, h1, by rw [List.getElem?_eq_getElem hj', h2], h3⟩
    refine ⟨line 0 (by decide), fun L nL => ?_⟩
    have sL := same_new nL (.lst [])
    have hL0 := upd_same (H := H) (a := L) (o := .lst [])
    generalize upd H L (.lst []) = H0 at sL hL0 ⊢
    refine ⟨_, rfl, ty, xs, rfl, .inr (Same.tup sL hty), _, rfl, by omega, by omega, for_range (lo := 0) (n := ((xs.length : Nat) : Int).toNat) (fun i σ H' => ∃ (zs : List V) (ps : List Z2) (s4 s5 : Option V), σ = [some x, some (.ref ty), some (.ref b), some (.ref L), s4, s5, none, none, none, none] ∧ Same H H' ∧ H' L = some (.lst zs) ∧ ShsAt K H' zs (ps.map zS) ∧ ps.length ≤ i ∧ (∀ p ∈ ps, ∃ e : Nat, p.2 = (e : Int) ∧ e < es.length ∧ bg[e]? = some none) ∧ ∀ e, e < i → bg[e]? = some none → ps ≠ [])
      ⟨[], [], none, none, rfl, sL, hL0, .nil, Nat.le_refl _, (fun _ z => nomatch z), fun _ z => absurd z (Nat.not_lt_zero _)⟩ ?_ ?_⟩
    · rintro e σ H1 le ⟨zs, ps, s4, s5, rfl, s1, hL, hz, lp, pp, pn⟩
      rw [Int.zero_add]
      rw [Int.toNat_natCast] at le
      have em : e < es.length := by omega
      obtain ⟨o, ho, hoV⟩ := gB e em
      refine ⟨_, rfl, _, rfl, b, _, _, _, rfl, rfl, Same.tup s1 hb, atI_nat hoV, rfl, _, rfl, ?_⟩
      rw [optV_non]
      refine iteB (fun c => ?_) (fun c => ⟨zs, ps, _, _, rfl, s1, hL, hz, by omega, pp, fun e' he' hn => ?_⟩)
      rotate_left 1
      · rcases Nat.lt_or_ge e' e with z | z
        · exact pn e' z hn
        · have : e' = e := by omega
          subst this
          rw [ho] at hn
          cases hn
          cases c
      have on : o = none := by
        cases o with
        | none => rfl
        | some _ => cases c
      subst on
      -- what stands beside
      refine ⟨_, rfl, ty, xs, rfl, .inr (Same.tup s1 hty), _, rfl, by omega, by omega, fun D nD => lo_it (walk_range (lo := 0) (n := ((xs.length : Nat) : Int).toNat)) (fun j H4 => Same H1 H4 ∧ ∃ ws, H4 D = some (.lst ws) ∧ ws.length ≤ j ∧ ws.all flatV = true) ⟨same_new nD _, [], upd_same, Nat.le_refl _, rfl⟩ (fun _ _ _ _ => trivial) ?_ ?_⟩
      · rintro j y _ H4 lj ⟨s4', ws, hD, lw, fw⟩ ⟨rfl, ex⟩
        obtain rfl : y = V.int ((j : Nat) : Int) := ex.trans (congrArg V.int (Int.zero_add _))
        rw [Int.toNat_natCast] at lj
        obtain ⟨o2, _, hoV2⟩ := gB j (by omega)
        have s04 := s1.trans s4'
        refine ⟨rfl, ?_⟩
        refine ⟨_, rfl, _, rfl, _, rfl, x, l, r, es, e, j, rfl, hx.same s04, em, by omega, _, rfl, iteB (fun _ => ?_) (fun _ => ⟨s4', ws, hD, by omega, fw⟩)⟩
        refine ⟨_, rfl, _, rfl, b, _, _, _, rfl, rfl, Same.tup s04 hb, atI_nat hoV2, _, hD, small1000 (by omega), same_put s4' nD, _, upd_same, by rw [List.length_append, List.length_singleton]; omega, ?_⟩
        rw [List.all_append, fw, List.all_cons, optV_flat]
        rfl
      rintro H4 ⟨s4', ws, hD, lw, fw⟩
      have s04 := s1.trans s4'
      have hL4 := s4' _ _ hL
      obtain ⟨u, row, hrow, hxu, hu⟩ := gX e em H4 s04
      have rk := rok row (List.mem_of_getElem? hrow)
      refine ⟨_, rfl, .inl ⟨rfl, _, SqL.of hL4⟩, ?_⟩
      refine ⟨_, rfl, _, rfl, ty, xs, _, _, rfl, rfl, Same.tup s04 hty, atI_nat hxu, u, rfl, ⟨_, SqT.of hu⟩, fun C nC => lo_it (walk_tup (xs := numsN row)) (fun j H5 => Same H4 H5 ∧ ∃ vs, H5 C = some (.lst vs) ∧ vs.length ≤ j) ⟨same_new nC _, [], upd_same, Nat.le_refl _⟩ (fun j H5 _ ⟨s5, _⟩ => SqT.of (s5 _ _ hu)) ?_ ?_⟩
      · rintro j y _ H5 lj ⟨s5', vs, hC, lv⟩ ⟨rfl, hy'⟩
        obtain ⟨c', _, rfl⟩ := numsN_get hy'
        rw [numsN_len] at lj
        have few := rk.few
        refine ⟨rfl, ?_⟩
        refine ⟨_, rfl, _, rfl, D, ws, rfl, .inl (SqL.of (s5' _ _ hD)), rfl, fw, _, rfl, iteB (fun _ => ?_) (fun _ => ⟨s5', vs, hC, by omega⟩)⟩
        exact ⟨_, rfl, _, hC, small1000 (by omega), same_put s5' nC, _, upd_same, by rw [List.length_append, List.length_singleton]; omega⟩
      rintro H5 ⟨s5', vs, hC, lv⟩
      refine ⟨C, vs, rfl, .inl (SqL.of hC), _, rfl, line 2 (by decide), fun T nT => ?_⟩
      have sT := same_new nT (.tup [V.int ((vs.length : Nat) : Int), V.int ((e : Nat) : Int)])
      have hT := upd_same (H := H5) (a := T) (o := .tup [V.int ((vs.length : Nat) : Int), V.int ((e : Nat) : Int)])
      generalize upd H5 T (.tup [V.int ((vs.length : Nat) : Int), V.int ((e : Nat) : Int)]) = H6 at sT hT ⊢
      have s16 := s4'.trans (s5'.trans sT)
      have hL6 := s16 _ _ hL
      have lz := hz.len
      rw [List.length_map] at lz
      refine ⟨L, zs, _, rfl, rfl, hL6, small1000 (by omega), ?_⟩
      have ts : TS H6 (upd H6 L (.lst (zs ++ [.ref T]))) := TS.put hL6
      refine ⟨zs ++ [.ref T], ps ++ [(((vs.length : Nat) : Int), ((e : Nat) : Int))], _, _, rfl, same_put (s1.trans s16) nL, upd_same, ?_, by rw [List.length_append, List.length_singleton]; omega, fun p hp => ?_, fun _ _ _ z => by simp at z⟩
      · rw [List.map_append]
        refine ShsAt.kp (Kp.put' hL6) ((hz.same s16).app (.cons (at_zS (p := (((vs.length : Nat) : Int), ((e : Nat) : Int))) (SqT.of hT)) .nil))
      · rcases List.mem_append.mp hp with z | z
        · exact pp p z
        · rw [List.mem_singleton.mp z]
          exact ⟨e, rfl, em, ho⟩
    · rintro σ H1 ⟨zs, ps, s4, s5, rfl, s1, hL, hz, lp, pp, pn⟩
      rw [Int.toNat_natCast] at lp pn
      refine ⟨_, rfl, line 0 (by decide), fun e5 ne5 => ?_⟩
      have se := same_new ne5 (.lst [])
      have he5 := upd_same (H := H1) (a := e5) (o := .lst [])
      have s2 := s1.trans se
      have hL2 := se _ _ hL
      have hz2 := hz.same se
      generalize upd H1 e5 (.lst []) = H2 at se he5 s2 hL2 hz2 ⊢
      refine ⟨.list (ps.map zD), .list [], .lst (SqL.of hL2) (zSs_dp hz2), .lst (SqL.of he5) .nil, zDs_sh _, zDs_sh [], _, rfl, ?_⟩
      rw [zDs_nil]
      refine iteB (fun c => ?_) (fun c => ?_)
      · have pe : ps = [] := List.isEmpty_iff.mp c
        obtain ⟨cs, ecs⟩ := all_some (bg := bg) fun e he hn => pn e (by omega) hn pe
        refine ⟨_, rfl, line 1 (by decide), fun F1 nF => ?_⟩
        have sF := same_new nF (.lst [.ref b])
        have bgc : ∀ k c, cs[k]? = some c → bg[k]? = some (some c) := fun k c h => by rw [ecs, List.getElem?_map, h]; rfl
        refine q F1 [.ref b] _ (s2.trans sF) upd_same (.inr ⟨b, cs, rfl, ?_, fun c hc => bok c (by rw [ecs]; exact List.mem_map.mpr ⟨c, hc, rfl⟩), ⟨?_, fun e row c hr hc => pre.lst e row c hr (bgc e c hc), fun i j c d ne hi hj m => pre.diff i j c d ne (bgc i c hi) (bgc j d hj) m⟩, fun k c hk => ?_⟩)
        · have h := Same.tup (s2.trans sF) hb
          rw [ecs, List.map_map] at h
          exact h
        · have := congrArg List.length ecs
          rw [List.length_map] at this
          omega
        · rw [ecs, List.getElem?_map] at hk
          cases e : cs[k]? with
          | none => rw [e] at hk; cases hk
          | some d =>
            rw [e] at hk
            cases hk
            rfl
      have pne : ps ≠ [] := fun z => by rw [z] at c; cases c
      refine ⟨_, rfl, L, zs, ps, rfl, SqL.of hL2, hz2, pne, fun i0 x0 hi0 => ?_⟩
      obtain ⟨pr, tp, hpr, rfl, htp⟩ := zSs_get hz2 hi0
      obtain ⟨e, epr, em, ho⟩ := pp pr (List.mem_of_getElem? hpr)
      rw [epr] at htp
      refine ⟨tp, _, 1, _, rfl, rfl, htp, atI_nat (j := 1) rfl, ?_⟩
      refine ⟨_, rfl, ty, xs, rfl, .inr (Same.tup s2 hty), _, rfl, by omega, by omega, fun D nD => lo_it (walk_range (lo := 0) (n := ((xs.length : Nat) : Int).toNat)) (fun j H4 => Same H2 H4 ∧ ∃ os : List (Option Nat), H4 D = some (.lst (os.map optV)) ∧ os.length ≤ j ∧ (∀ o ∈ os, ∃ k, e ≠ k ∧ meetB es e k = true ∧ bg[k]? = some o) ∧ ∀ k o, k < j → e ≠ k → meetB es e k = true → bg[k]? = some o → o ∈ os) ⟨same_new nD _, [], upd_same, Nat.le_refl _, (fun _ h => nomatch h), fun _ _ h => absurd h (Nat.not_lt_zero _)⟩ (fun _ _ _ _ => trivial) ?_ ?_⟩
      · rintro j y _ H4 lj ⟨s4', os, hD, lw, n1, n2⟩ ⟨rfl, ex⟩
        obtain rfl : y = V.int ((j : Nat) : Int) := ex.trans (congrArg V.int (Int.zero_add _))
        rw [Int.toNat_natCast] at lj
        obtain ⟨o2, ho2, hoV2⟩ := gB j (by omega)
        have s04 := s2.trans s4'
        refine ⟨rfl, ?_⟩
        refine ⟨_, rfl, _, rfl, _, rfl, x, l, r, es, e, j, rfl, hx.same s04, em, by omega, _, rfl, iteB (fun cn => ?_) (fun cn => ⟨s4', os, hD, by omega, n1, fun k o hk ne m hb' => ?_⟩)⟩
        rotate_left 1
        · rcases Nat.lt_or_ge k j with z | z
          · exact n2 k o z ne m hb'
          · have ek : k = j := by omega
            subst ek
            rw [decide_eq_true ne, m] at cn
            cases cn
        obtain ⟨ne, mt⟩ : e ≠ j ∧ meetB es e j = true := by simpa using cn
        refine ⟨_, rfl, _, rfl, b, _, _, _, rfl, rfl, Same.tup s04 hb, atI_nat hoV2, _, hD, small1000 (by rw [List.length_map]; omega), same_put s4' nD, os ++ [o2], by rw [upd_same, List.map_append]; rfl, by rw [List.length_append, List.length_singleton]; omega, fun o h => ?_, fun k o hk ne' m hb' => ?_⟩
        · rcases List.mem_append.mp h with z | z
          · exact n1 o z
          · rw [List.mem_singleton.mp z]
            exact ⟨j, ne, mt, ho2⟩
        · rcases Nat.lt_or_ge k j with z | z
          · exact List.mem_append_left _ (n2 k o z ne' m hb')
          · have ek : k = j := by omega
            subst ek
            rw [ho2] at hb'
            cases hb'
            exact List.mem_append_right _ (List.mem_singleton.mpr rfl)
      rintro H4 ⟨s4', os, hD, lw, n1, n2⟩
      have s04 := s2.trans s4'
      obtain ⟨u, row, hrow, hxu, hu⟩ := gX e em H4 s04
      have rk := rok row (List.mem_of_getElem? hrow)
      have ebg : e < bg.length := by omega
      have lxs : ((xs.length : Nat) : Int).toNat = es.length := by omega
      rw [lxs] at n2
      refine ⟨_, rfl, _, rfl, ty, xs, _, _, rfl, rfl, Same.tup s04 hty, atI_nat hxu, u, rfl, ⟨_, SqT.of hu⟩, for_it (walk_tup (xs := numsN row)) (fun i σ H' => ∃ (s7 s8 : Option V), σ = [some x, some (.ref ty), some (.ref b), some (.ref L), s4, some (.ref D), some (.int (e : Int)), s7, s8, none] ∧ Same H4 H' ∧ ∀ c ∈ row.take i, ∀ cs, ColP es LL cs → Goes bg cs → cs[e]? ≠ some c) ⟨none, none, rfl, Same.refl _, fun c h => by simp at h⟩ (fun i σ H' _ ⟨_, _, _, s', _⟩ => SqT.of (s' _ _ hu)) ?_ ?_⟩
      · rintro i1 v1 σ _ H5 li ⟨s7, s8, rfl, s5', nc⟩ ⟨rfl, hi1⟩
        obtain ⟨c1, hc1, rfl⟩ := numsN_get hi1
        have c99 := rk.lt c1 (List.mem_of_getElem? hc1)
        have s05 := s04.trans s5'
        have go1 : (∀ cs, ColP es LL cs → Goes bg cs → cs[e]? ≠ some c1) → ∀ c ∈ row.take (i1 + 1), ∀ cs, ColP es LL cs → Goes bg cs → cs[e]? ≠ some c := fun h c hc => by
          rw [take_succ hc1] at hc
          rcases List.mem_append.mp hc with z | z
          · exact nc c z
          · rw [List.mem_singleton.mp z]
            exact h
        refine ⟨_, rfl, _, rfl, D, _, rfl, .inl (SqL.of (s5' _ _ hD)), rfl, flat_opts os, _, rfl, iteB (fun cc => ?_) (fun cc => ⟨_, _, rfl, s5', go1 fun cs hcs hg hce => ?_⟩)⟩
        rotate_left 1
        · have z : (!inV (V.int (c1 : Int)) (os.map optV)) = false := by rw [if_pos rfl] at cc; exact cc
          rw [inV_opts] at z
          obtain ⟨k, ne, m, hk⟩ := n1 _ (show some c1 ∈ os by simpa using z)
          exact hcs.diff e k c1 c1 ne hce (hg k c1 hk) m rfl
        have out : some c1 ∉ os := by
          have z : (!inV (V.int (c1 : Int)) (os.map optV)) = true := by rw [if_pos rfl] at cc; exact cc
          rw [inV_opts] at z
          simpa using z
        have hb5 := Same.tup s05 hb
        refine ⟨_, rfl, _, rfl, _, rfl, _, rfl, _, rfl, b, _, rfl, hb5, fun p1 H6 s6 h6 => ?_⟩
        refine ⟨_, rfl, line 1 (by decide), fun q1 nq => ?_⟩
        have sq := same_new nq (.tup [V.int (c1 : Int)])
        have hq := upd_same (H := H6) (a := q1) (o := .tup [V.int (c1 : Int)])
        generalize upd H6 q1 (.tup [V.int (c1 : Int)]) = H7 at sq hq ⊢
        have lbV : (bg.map optV).length = es.length := by rw [List.length_map, lb]
        refine ⟨p1, q1, _, _, rfl, rfl, Same.tup sq h6, SqT.of hq, line _ (by have := cutV_length (bg.map optV) none (some (e : Int)); rw [List.length_singleton]; omega), fun p2 H8 s8' h8 => ?_⟩
        have s58 := s6.trans (sq.trans s8')
        have hb8 := Same.tup s58 hb5
        refine ⟨_, rfl, _, rfl, _, _, rfl, rfl, _, rfl, b, _, rfl, hb8, fun p3 H9 s9 h9 => ?_⟩
        have ec1 : cutV (bg.map optV) none (some (e : Int)) = (bg.take e).map optV := by rw [cut_to (by omega), List.map_take]
        have ec2 : cutV (bg.map optV) (some ((e : Int) + 1)) none = (bg.drop (e + 1)).map optV := by
          have := cut_from (xs := bg.map optV) (k := e + 1) (by omega)
          rw [show ((e + 1 : Nat) : Int) = (e : Int) + 1 by omega] at this
          rw [this, List.map_drop]
        rw [ec1] at h8
        rw [ec2] at h9
        have l1 : (bg.take e).length ≤ 9 := by rw [List.length_take]; omega
        have l2 : (bg.drop (e + 1)).length ≤ 9 := by rw [List.length_drop]; omega
        refine ⟨p2, p3, _, _, rfl, rfl, Same.tup s9 h8, h9, line _ (by rw [List.length_append, List.length_map, List.length_map, List.length_singleton]; omega), fun p4 H10 s10 h10 => ?_⟩
        have s510 := s58.trans (s9.trans s10)
        have s010 := s05.trans s510
        refine ⟨x, .ref ty, p4, l, r, es, LL, bg.take e ++ [some c1] ++ bg.drop (e + 1), rfl, hx.same s010, e9, ⟨ty, xs, rfl, Same.tup s010 hty, lq.same s010⟩, ll, rok, ?_, ?_, fun c' hc' => ?_, ?_, ?_, fun F1 res H11 s11 hF hres => ?_⟩
        · rw [List.map_append, List.map_append]
          exact h10
        · rw [List.length_append, List.length_append, List.length_take, List.length_drop, List.length_singleton]
          omega
        · rcases List.mem_append.mp hc' with z | z
          · rcases List.mem_append.mp z with y | y
            · exact bok c' (List.mem_of_mem_take y)
            · have := List.mem_singleton.mp y
              injection this with this
              omega
          · exact bok c' (List.mem_of_mem_drop z)
        · have := none_set c1 ho
          omega
        · rw [set_at c1 ebg]
          exact pre_set pre ebg hrow (List.mem_of_getElem? hc1) fun j ne m hj => out (n2 j _ (by have := (List.getElem?_eq_some_iff.mp hj).1; omega) ne m hj)
        rw [set_at c1 ebg] at hres
        refine ⟨_, rfl, line 0 (by decide), fun e6 ne6 => ?_⟩
        have se6 := same_new ne6 (.lst [])
        have s411 := s5'.trans (s510.trans (s11.trans se6))
        rcases hres with ⟨rfl, noc⟩ | ⟨t1, cs, rfl, ht1, lcs, hcs, hgo⟩
        · refine ⟨.list (numsD []), .list (numsD []), .lst (SqL.of (se6 _ _ hF)) (numsD_dp []), .lst (SqL.of upd_same) (numsD_dp []), numsD_shL [], numsD_shL [], _, rfl, ?_⟩
          rw [numsD_nilL]
          exact iteF ⟨_, _, rfl, s411, go1 fun cs h1 h2 h3 => noc cs h1 (goes_set ebg h2 h3)⟩
        · refine ⟨.list (lotsD [cs]), .list (lotsD []), .lst (SqL.of (se6 _ _ hF)) (.cons (.tup (Same.tup se6 ht1) (numsD_dp cs)) .nil), .lst (SqL.of upd_same) .nil, lotsD_sh _, lotsD_sh [], _, rfl, ?_⟩
          rw [lotsD_nil]
          refine iteT ⟨_, rfl, ?_⟩
          exact q F1 _ _ (s04.trans s411) (se6 _ _ hF) (.inr ⟨t1, cs, rfl, Same.tup se6 ht1, lcs, hcs, goes_back ho hgo⟩)
      · rintro σ H5 ⟨s7, s8, rfl, s5', nc⟩
        refine ⟨line 0 (by decide), fun F1 nF => ?_⟩
        have sF := same_new nF (.lst [])
        refine q F1 [] _ ((s04.trans s5').trans sF) upd_same (.inl ⟨rfl, fun cs hcs hg => ?_⟩)
        rw [numsN_len, List.take_length] at nc
        obtain ⟨c, hc⟩ : ∃ c, cs[e]? = some c := ⟨_, List.getElem?_eq_getElem (by rw [hcs.len]; exact em)⟩
        exact nc c (hcs.lst e row c hrow hc) cs hcs hg hc
end
end My

set_option maxHeartbeats 4000000
namespace My
open PySem PySem.Spec PyProof.Rows L2
abbrev sComplement : Stmt := top 14
theorem scComplement : FnScope ["graph", "many", "edges", "pairs", "one", "other", "pair"] ["graph"] (defScope sComplement) := ⟨rfl, rfl, rfl, by decide +kernel, rfl, by decide +kernel, by decide +kernel⟩
def leftP (n : Nat) (es : List E2) : List E2 := (allP n).filter fun p => decide (p ∉ es)
theorem leftP_eq (n : Nat) (es : List E2) : leftP n es = (List.range n).flatMap fun u => (rowP n u).filter fun p => decide (p ∉ es) := List.filter_flatMap
def spComplement (K : PySem.W.Frag) : Sp := fun vs H Q _ => ∃ (x : V) (n : Nat) (es : List E2), vs = [x] ∧ GraphAt K H x n es ∧ Good n es ∧ ∀ (y : V) H', Same H H' → GraphAt K H' y n (leftP n es) → Q y H'
theorem PairsT.get {H : Hp} : ∀ {xs : List V} {ps : List E2}, PairsT H xs ps → ∀ {i : Nat} {x : V}, xs[i]? = some x → ∃ p, ps[i]? = some p ∧ PairT H x p
  | _, _, .nil, i, x, e => by simp at e
  | _, _, .cons a r, 0, x, e => by simp at e; subst e; exact ⟨_, rfl, a⟩
  | _, _, .cons a r, i + 1, x, e => by
    obtain ⟨s, h1, h2⟩ := PairsT.get r (i := i) (x := x) (by simpa using e)
    exact ⟨s, by simpa using h1, h2⟩
theorem rowP_len : ∀ n, n ≤ 9 → ∀ u, u ≤ 9 → (rowP n u).length ≤ 9 := by decide +kernel
section
variable {P : Program} {w : World} {K : PySem.W.Frag} {mg : Str → Option Value} {base : Heap} {f fC : Addr} {fd dC : FuncData}
theorem ok_complement (F : L2.Fun K "complement" "complement" sComplement f fd) (GC : FnOk P w K mg base CX0 5 fC dC ["graph"] (spCheckGraph K)) (bC : L2.Binds K dC ["graph"] []) (kC : PySem.W.keepIn K (.ref fC) = true) (mC : mg "check_graph" = some (.ref fC)) (mr : mg "range" = none) (mt : mg "tuple" = none) : FnOk P w K mg base CX0 6 f fd ["graph"] (spComplement K) := by
  refine F.ok scComplement (fun vs H Q E h => ?_) (fun cdv A outer s H vs Q E hr h => ?_)
  · obtain ⟨x, n, es, rfl, _⟩ := h
    rfl
  obtain ⟨x, n, es, rfl, hx, g, q⟩ := h
  refine ⟨_, pss_cons (ps_expr (pe_call GC hr (by rfl) mC kC bC .nil pass0 (pa_cons (pv 0) pa_nil)))
    (pss_cons (ps_asg (pv 0) (pg_tup (by rfl) (pgs_cons (pg_name (i := 1) scComplement.nd rfl (.inr rfl)) (pgs_cons (pg_name (i := 2) scComplement.nd rfl (.inr rfl)) pgs_nil))))
    (pss_cons (ps_setLc2 (i := 3) (own := [("one", 4), ("other", 5)]) (vs1 := [5]) (g := gName 4) (g1 := gName 5) (tt := tYes) (tt1 := tYes) rfl scComplement.nd rfl rfl (sw_true rfl rfl rfl (by decide +kernel)) (pi_range1 rfl mr (pa_cons (pv 1) pa_nil))
        (blkOk_by (N := ["graph", "many", "edges", "pairs", "one", "other", "pair"]) (sc := defScope sComplement) (by decide +kernel)) (by decide)
        (fun _ _ _ _ _ => pg_name (i := 4) scComplement.nd rfl (Or.inl rfl)) (fun _ _ _ _ _ => pts_nil) (fun _ _ _ _ _ => pi_range2 (by rfl) mr (pa_cons (pe_op op_add (pv 4) pe_int) (pa_cons (pv 1) pa_nil))) (fun _ _ _ _ _ => pg_name (i := 5) scComplement.nd rfl (Or.inl rfl)) (fun _ _ _ _ _ => pts_nil)
        (fun _ _ _ _ _ => pe_tup (pa_cons (pv 4) (pa_cons (pv 5) pa_nil))))
    (pss_one (ps_ret (pe_tup (pa_cons (pv 1) (pa_cons (pe_callTy call_tuple_of (by rfl) mt (by decide +kernel) (pa_cons (pe_lc (own := [("pair", 6)]) (g := gName 6) rfl scComplement.nd (pi_list (pv 3))
        (blkOk_by (N := ["graph", "many", "edges", "pairs", "one", "other", "pair"]) (sc := defScope sComplement) (by decide +kernel)) (fun _ _ _ _ _ => pg_name (i := 6) scComplement.nd rfl (Or.inl rfl))
        (fun _ _ _ _ _ => pts_one (pt_cmpR (r := rInP not K) (op_notInP hr.units) (pv 6) (pv 2) (by rfl))) (fun _ _ _ _ _ => pv 6)) pa_nil)) pa_nil))))))), ?_⟩
  have n9 := g.n9
  refine ⟨_, rfl, x, n, es, rfl, hx, g, fun H1 s1 => ?_⟩
  obtain ⟨t, e, xs, rfl, ht, he, hes⟩ := hx.same s1
  refine ⟨_, rfl, t, _, rfl, ht, rfl, _, _, rfl, _, _, rfl, rfl, ?_⟩
  refine ⟨_, rfl, (n : Int), rfl, by omega, by omega, fun D nD => lo_it (walk_range (lo := 0) (n := ((n : Nat) : Int).toNat)) (fun i H2 => Same H1 H2 ∧ ∃ zs, H2 D = some (.lst zs) ∧ PairsT H2 zs ((List.range i).flatMap (rowP n))) ⟨same_new nD _, [], upd_same, .nil⟩ (fun _ _ _ _ => trivial) ?_ ?_⟩
  · rintro i x H2 _ li ⟨s2, zs, hD, pz⟩ ⟨rfl, ex⟩
    obtain rfl : x = V.int ((i : Nat) : Int) := ex.trans (congrArg V.int (Int.zero_add _))
    have l9 : zs.length ≤ 81 := by rw [PairsT.len pz]; exact rows_few i (by omega) n n9
    refine ⟨rfl, ?_⟩
    refine ⟨_, rfl, _, _, rfl, rfl, _, rfl, _, _, rfl, ⟨by omega, by omega, by omega, by omega⟩, lo_it (walk_range (lo := (i : Int) + 1) (n := ((n : Int) - ((i : Int) + 1)).toNat)) (fun j H3 => Same H1 H3 ∧ ∃ zs, H3 D = some (.lst zs) ∧ PairsT H3 zs ((List.range i).flatMap (rowP n) ++ (List.range j).map fun j => (i, i + 1 + j))) ⟨s2, zs, hD, by rw [List.range_zero, List.map_nil, List.append_nil]; exact pz⟩ (fun _ _ _ _ => trivial) ?_ ?_⟩
    · rintro j x H3 _ lj ⟨s3, zs, hD, pz⟩ ⟨rfl, ex⟩
      obtain rfl : x = V.int ((i + 1 + j : Nat) : Int) := ex.trans (congrArg V.int (by omega))
      refine ⟨rfl, ?_⟩
      refine ⟨_, rfl, _, rfl, (by show 2 ≤ sizeLine; decide), fun r nr => ?_⟩
      have p1 := push_pairT (i, i + 1 + j) hD nr pz
      have l1 : zs.length ≤ 81 + 9 := by
        have := rows_few i (by omega) n n9
        rw [PairsT.len pz, List.length_append, List.length_map, List.length_range]
        omega
      refine ⟨zs, (same_new nr _) _ _ hD, small1000 (by omega), same_put (s3.trans (same_new nr _)) nD, _, upd_same, ?_⟩
      rw [List.range_succ, List.map_append, ← List.append_assoc]
      exact p1
    · rintro H3 ⟨s3, zs, hD, pz⟩
      refine ⟨s3, zs, hD, ?_⟩
      rw [List.range_succ, List.flatMap_append, List.flatMap_cons, List.flatMap_nil, List.append_nil]
      rw [show ((n : Int) - ((i : Int) + 1)).toNat = n - (i + 1) by omega] at pz
      exact pz
  rintro H2 ⟨s2, zs, hD, pz⟩
  rw [show ((n : Nat) : Int).toNat = n by omega] at pz
  have lz : zs.length ≤ 81 := by rw [PairsT.len pz]; exact rows_few n n9 n n9
  have lzn := PairsT.len pz
  refine ⟨_, rfl, _, rfl, D, rfl, ⟨_, SqL.of hD⟩, fun B nB => lo_it (walk_list (xs := zs)) (fun i H3 => Same H2 H3 ∧ ∃ ys, H3 B = some (.lst ys) ∧ ys.length ≤ i ∧ PairsT H3 ys (((((List.range n).flatMap (rowP n)).take i)).filter fun p => decide (p ∉ es))) ⟨same_new nB _, [], upd_same, Nat.le_refl _, .nil⟩ (fun i H3 _ ⟨s3, _⟩ => SqL.of (s3 _ _ hD)) ?_ ?_⟩
  · rintro i x _ H3 li ⟨s3, ys, hB, ly, py⟩ ⟨rfl, hi⟩
    obtain ⟨p, hp, hpx⟩ := PairsT.get (pz.same s3) hi
    have sA := s2.trans s3
    have lz3 : zs.length ≤ 81 := lz
    refine ⟨rfl, ?_⟩
    refine ⟨_, rfl, _, rfl, p, e, xs, es, hpx.at, rfl, Same.tup sA he, hes.same sA, _, rfl, iteB (fun c => ?_) (fun c => ?_)⟩
    · have c' : p ∉ es := by simpa using c
      refine ⟨_, rfl, ys, hB, small1000 (by omega), same_put s3 nB, _, upd_same, by rw [List.length_append]; exact Nat.succ_le_succ ly, ?_⟩
      rw [take_succ hp, List.filter_append, List.filter_cons_of_pos (by simpa using c'), List.filter_nil]
      exact (py.append (.cons hpx .nil)).put hB
    · have c' : p ∈ es := by simpa using c
      refine ⟨s3, ys, hB, by omega, ?_⟩
      rw [take_succ hp, List.filter_append, List.filter_cons_of_neg (by simpa using c'), List.filter_nil, List.append_nil]
      exact py
  · rintro H3 ⟨s3, ys, hB, ly, py⟩
    rw [lzn, List.take_length] at py
    refine ⟨B, ys, rfl, .inl ⟨SqL.of hB, fun l nl => ⟨(by show 2 ≤ sizeLine; decide), fun r nr => ?_⟩⟩⟩
    have s4 := same_new nl (.tup ys)
    have s5 := same_new nr (.tup [.int (n : Int), .ref l])
    refine q (.ref r) _ (s1.trans (s2.trans (s3.trans (s4.trans s5)))) ⟨r, l, ys, rfl, SqT.of upd_same, SqT.of (s5 _ _ upd_same), PairsT.at ((py.same s4).same s5)⟩
end
end My

set_option maxHeartbeats 4000000
namespace My
open PySem PySem.Spec PyProof.Rows L2
abbrev sMasks : Stmt := top 15
abbrev sMaskOf : Stmt := top 16
theorem scMasks : FnScope ["graph", "many", "edges", "masks", "one", "other"] ["graph"] (defScope sMasks) := ⟨rfl, rfl, rfl, by decide +kernel, rfl, by decide +kernel, by decide +kernel⟩
theorem scMaskOf : FnScope ["lot", "vertex"] ["lot"] (defScope sMaskOf) := ⟨rfl, rfl, rfl, by decide +kernel, rfl, by decide +kernel, by decide +kernel⟩
theorem numsN_set (l : List Nat) (j k : Nat) : (numsN l).set j (V.int ((k : Nat) : Int)) = numsN (l.set j k) := by
  unfold numsN
  rw [List.map_set]
theorem numsN_getD {l : List Nat} {j : Nat} (h : j < l.length) : (numsN l)[j]? = some (V.int ((l.getD j 0 : Nat) : Int)) := by
  unfold numsN
  rw [List.getElem?_map, List.getElem?_eq_getElem h, List.getD_eq_getElem?_getD, List.getElem?_eq_getElem h]
  rfl
theorem shl_one (b : Nat) : (1 : Int) * 2 ^ ((b : Nat) : Int).toNat = ((2 ^ b : Nat) : Int) := by
  rw [Int.toNat_natCast, Int.one_mul, Int.natCast_pow]
  rfl
theorem or_shl (a b : Nat) : Builtin.bitOr ((a : Nat) : Int) ((1 : Int) * 2 ^ ((b : Nat) : Int).toNat) = ((a ||| 2 ^ b : Nat) : Int) := by
  rw [shl_one, or_nn]
def rGetN (K : PySem.W.Frag) : V → V → Hp → VK → Prop := fun x y H Q => ∃ (p : Addr) (xs : List V) (j : Nat) (v : V), x = .ref p ∧ y = .int (j : Int) ∧ SqL K H p xs ∧ xs[j]? = some v ∧ Q v H
section
variable {X : Cx}
theorem pget_list : PGet X (rGetN X.K) := by
  intro pins s σ H x y ov iv Q I rx ry h
  obtain ⟨p, xs, j, v, rfl, rfl, hq, he, q⟩ := h
  cases rx
  obtain ⟨t, rfl⟩ := ry
  obtain ⟨its, r, pl, hz⟩ := I.list hq
  obtain ⟨w, ew, rw'⟩ := r.get he
  have hn := line63
  have hj : j < xs.length := (List.getElem?_eq_some_iff.mp he).1
  exact wpAny_getItem_list pl.isList (by omega) (by omega) (by rw [Int.toNat_natCast]; simpa using ew) ⟨v, H, I, rw', q⟩
theorem ip_or : PIp X .BitOr (ipI fun i j => Builtin.bitOr i j) := by
  intro pins s σ H x y v u Q I r1 r2 h
  obtain ⟨i, j, e1, e2, q⟩ := h
  subst e1; subst e2
  obtain ⟨t, rfl⟩ := r1
  obtain ⟨t', rfl⟩ := r2
  exact ior_int ⟨.int _, H, I.tok _, ⟨_, rfl⟩, q⟩
end
def spMasks (K : PySem.W.Frag) : Sp := fun vs H Q _ => ∃ (x : V) (n : Nat) (es : List E2), vs = [x] ∧ GraphAt K H x n es ∧ Good n es ∧ ∀ (D : Addr) (nb : List Nat) H', H D = none → Same H H' → H' D = some (.lst (numsN nb)) → NbOk n es nb → Q (.ref D) H'
section
variable {P : Program} {w : World} {K : PySem.W.Frag} {mg : Str → Option Value} {base : Heap} {f : Addr} {fd : FuncData}
theorem ok_masks (F : L2.Fun K "neighbour_masks" "neighbour_masks" sMasks f fd) : FnOk P w K mg base CX0 1 f fd ["graph"] (spMasks K) := by
  refine F.ok scMasks (fun vs H Q E h => ?_) (fun cdv A outer s H vs Q E hr h => ?_)
  · obtain ⟨x, n, es, rfl, _⟩ := h
    rfl
  obtain ⟨x, n, es, rfl, ⟨t, e, xs, rfl, ht, he, hes⟩, g, q⟩ := h
  refine ⟨_, pss_cons (ps_asg (pv 0) (pg_tup (by rfl) (pgs_cons (pg_name (i := 1) scMasks.nd rfl (.inl rfl)) (pgs_cons (pg_name (i := 2) scMasks.nd rfl (.inl rfl)) pgs_nil))))
    (pss_cons (ps_set (i := 3) scMasks.nd rfl (.inl rfl) (pe_op op_rep (pe_lst (pa_cons pe_int pa_nil)) (pv 1)))
    (pss_cons (ps_for PassesOwn.never rfl (pi_tup (pv 2)) (pg_tup (by rfl) (pgs_cons (pg_name (i := 4) scMasks.nd rfl (.inl rfl)) (pgs_cons (pg_name (i := 5) scMasks.nd rfl (.inl rfl)) pgs_nil)))
      (pss_cons (ps_augS (pv 3) (pv 4) pget_list (pe_op op_shl pe_int (pv 5)) ip_or set_list)
      (pss_one (ps_augS (pv 3) (pv 5) pget_list (pe_op op_shl pe_int (pv 4)) ip_or set_list))))
    (pss_one (ps_ret (pv 3))))), ?_⟩
  have n9 := g.n9
  have few := g.few
  have le := PairsAt.len hes
  refine ⟨_, rfl, t, _, rfl, ht, rfl, _, _, rfl, _, _, rfl, rfl, ?_⟩
  refine ⟨(by show 1 ≤ sizeLine; rw [sizeLine_eq]; decide), fun z nz => ?_⟩
  have hz := upd_same (H := H) (a := z) (o := .lst [V.int 0])
  have sz := same_new nz (.lst [V.int 0])
  refine ⟨_, rfl, z, (n : Int), [.int 0], rfl, rfl, hz, by omega, by omega, small (by rw [Int.toNat_natCast, List.length_singleton]; omega), fun D nD => ?_⟩
  have e0 : (List.replicate ((n : Nat) : Int).toNat [V.int 0]).flatten = numsN (List.replicate n 0) := by
    rw [Int.toNat_natCast]
    unfold numsN
    rw [List.map_replicate, List.flatten_replicate_singleton]
    rfl
  rw [e0]
  have sD := same_new nD (.lst (numsN (List.replicate n 0)))
  have nD0 : H D = none := sz.free nD
  have s0 := sz.trans sD
  have hD := upd_same (H := upd H z (.lst [V.int 0])) (a := D) (o := .lst (numsN (List.replicate n 0)))
  generalize upd (upd H z (.lst [V.int 0])) D (.lst (numsN (List.replicate n 0))) = H0 at s0 hD sD ⊢
  refine ⟨_, rfl, e, rfl, ⟨_, Same.tup s0 he⟩, for_it (walk_tup (xs := xs)) (fun i σ H' => ∃ (nb : List Nat) (s4 s5 : Option V), σ = [some (.ref t), some (.int (n : Int)), some (.ref e), some (.ref D), s4, s5] ∧ Same H H' ∧ H' D = some (.lst (numsN nb)) ∧ NbOk n (es.take i) nb)
    ⟨_, none, none, rfl, s0, hD, nb_nil n⟩ (fun i σ H' _ ⟨_, _, _, _, s, _⟩ => Same.tup s he) ?_ ?_⟩
  · rintro i x σ H2 H3 li ⟨nb, s4, s5, rfl, s2, hD2, ok⟩ ⟨rfl, hi⟩
    obtain ⟨p, hp, u, rfl, hu⟩ := PairsAt.get (hes.same s2) hi
    obtain ⟨l1, l2⟩ := g.lt p (List.mem_of_getElem? hp)
    have ln := ok.1
    have ln2 : (nb.set p.1 (nb.getD p.1 0 ||| 2 ^ p.2)).length = n := by rw [List.length_set]; exact ln
    refine ⟨u, _, rfl, hu, rfl, _, _, rfl, _, _, rfl, rfl, ?_⟩
    refine ⟨_, rfl, _, rfl, D, _, p.1, _, rfl, rfl, SqL.of hD2, numsN_getD (by omega), _, rfl, _, _, rfl, rfl, ⟨by omega, by omega, by decide⟩, _, _, rfl, rfl, D, _, _, p.1, rfl, rfl, hD2, by rw [numsN_len]; exact ixN_of (by omega), ?_⟩
    simp only [or_shl, numsN_set]
    have hD3 := upd_same (H := H3) (a := D) (o := .lst (numsN (nb.set p.1 (nb.getD p.1 0 ||| 2 ^ p.2))))
    have s3 := same_put (o := .lst (numsN (nb.set p.1 (nb.getD p.1 0 ||| 2 ^ p.2)))) s2 nD0
    generalize upd H3 D (.lst (numsN (nb.set p.1 (nb.getD p.1 0 ||| 2 ^ p.2)))) = H4 at hD3 s3 ⊢
    refine ⟨_, rfl, _, rfl, D, _, p.2, _, rfl, rfl, SqL.of hD3, numsN_getD (by omega), _, rfl, _, _, rfl, rfl, ⟨by omega, by omega, by decide⟩, _, _, rfl, rfl, D, _, _, p.2, rfl, rfl, hD3, by rw [numsN_len]; exact ixN_of (by omega), ?_⟩
    simp only [or_shl, numsN_set]
    refine ⟨_, _, _, rfl, same_put s3 nD0, upd_same, ?_⟩
    rw [take_succ hp]
    exact nb_step ok l1 l2
  · rintro σ H2 ⟨nb, s4, s5, rfl, s2, hD2, ok⟩
    rw [le, List.take_length] at ok
    exact ⟨_, rfl, q D nb H2 nD0 s2 hD2 ok⟩
end
end My

set_option maxHeartbeats 4000000
namespace My
open PySem PySem.Spec PyProof.Rows L2
def spMaskOf (K : PySem.W.Frag) : Sp := fun vs H Q _ => ∃ (v : V) (l : List Nat), vs = [v] ∧ LotAt K H v l ∧ l.length ≤ 100 ∧ (∀ k ∈ l, k ≤ 100) ∧ ∀ H', Same H H' → Q (.int ((maskN l : Nat) : Int)) H'
def spLotOf (K : PySem.W.Frag) : Sp := fun vs H Q _ => ∃ (m n : Nat), vs = [.int (m : Int)] ∧ m < 2 ^ n ∧ n ≤ 9 ∧ ∀ (t : Addr) H', H t = none → Same H H' → H' t = some (.tup ((bitsN n m).map fun k => V.int ((k : Nat) : Int))) → Q (.ref t) H'
theorem sum_cast : ∀ l : List Nat, ((l.map fun k => ((2 ^ k : Nat) : Int)).sum) = ((maskN l : Nat) : Int)
  | [] => rfl
  | a :: r => by
    have ih := sum_cast r
    unfold maskN at ih ⊢
    rw [List.map_cons, List.sum_cons, ih, List.map_cons, List.sum_cons]
    omega
theorem bits_len_eq : ∀ n, n ≤ 9 → ∀ m : Nat, m < 2 ^ n → (List.range (Builtin.Int.intBits ((m : Nat) : Int))).filter (fun v => m.testBit v) = bitsN n m := by decide +kernel
theorem intBits_le : ∀ m : Nat, m < 512 → Builtin.Int.intBits ((m : Nat) : Int) ≤ 9 := by decide +kernel
theorem shr_bit (m v : Nat) : Builtin.bitAnd (((m : Nat) : Int) / 2 ^ ((v : Nat) : Int).toNat) 1 = if m.testBit v then 1 else 0 := by
  rw [Int.toNat_natCast]
  have e : ((m : Nat) : Int) / 2 ^ v = ((m / 2 ^ v : Nat) : Int) := by
    rw [Int.natCast_ediv, Int.natCast_pow]
    rfl
  rw [e, show (1 : Int) = ((1 : Nat) : Int) from rfl, and_nn]
  rw [Nat.testBit_eq_decide_div_mod_eq, Nat.and_one_is_mod]
  have z := Nat.mod_lt (m / 2 ^ v) (show 2 > 0 by decide)
  by_cases c : m / 2 ^ v % 2 = 1
  · rw [c]; simp
  · have : m / 2 ^ v % 2 = 0 := by omega
    rw [this]; simp
def tTruM (K : PySem.W.Frag) (te : TE) : TT := fun σ H Q => te σ H fun x H' => ∃ k, TruV K x H' k ∧ Q k H'
section
variable {P : Program} {w : World} {K : PySem.W.Frag} {mg : Str → Option Value} {base : Heap} {f : Addr} {fd : FuncData}
theorem ok_mask_of (F : L2.Fun K "mask_of" "mask_of" sMaskOf f fd) (ms : mg "sum" = none) : FnOk P w K mg base CX0 1 f fd ["lot"] (spMaskOf K) := by
  refine F.ok scMaskOf (fun vs H Q E h => ?_) (fun cdv A outer s H vs Q E hr h => ?_)
  · obtain ⟨v, l, rfl, _⟩ := h
    rfl
  obtain ⟨v, l, rfl, ⟨t, rfl, ht⟩, few, small', q⟩ := h
  refine ⟨_, pss_one (ps_ret (pe_callB (cr_sum rfl) (by rfl) ms (by decide +kernel) (pa_cons (pe_lc (own := [("vertex", 1)]) (g := gName 1) (tt := tYes) rfl scMaskOf.nd (pi_tup (pv 0))
        (blkOk_by (N := ["lot", "vertex"]) (sc := defScope sMaskOf) (by decide +kernel)) (fun _ _ _ _ _ => pg_name (i := 1) scMaskOf.nd rfl (Or.inl rfl)) (fun _ _ _ _ _ => pts_nil) (fun _ _ _ _ _ => pe_op op_shl pe_int (pv 1))) pa_nil))), ?_⟩
  refine ⟨_, rfl, t, rfl, ⟨_, ht⟩, fun D nD => lo_it (walk_tup (xs := l.map fun k => V.int ((k : Nat) : Int))) (fun i H2 => Same H H2 ∧ H2 D = some (.lst (((l.take i).map fun k => ((2 ^ k : Nat) : Int)).map V.int))) ⟨same_new nD _, upd_same⟩ (fun i H2 _ ⟨s2, _⟩ => Same.tup s2 ht) ?_ ?_⟩
  · rintro i x _ H2 li ⟨s2, hD⟩ ⟨rfl, hi⟩
    rw [List.getElem?_map] at hi
    cases e : l[i]? with
    | none => rw [e] at hi; cases hi
    | some k =>
      rw [e] at hi
      cases hi
      have k100 := small' k (List.mem_of_getElem? e)
      refine ⟨rfl, ?_⟩
      refine ⟨_, rfl, _, _, rfl, rfl, ⟨by omega, by omega, by decide⟩, _, hD, small1000 (by rw [List.length_map, List.length_map, List.length_take]; omega), same_put s2 nD, ?_⟩
      simp only [shl_one]
      rw [upd_same, take_succ e, List.map_append, List.map_append]
      rfl
  · rintro H2 ⟨s2, hD⟩
    rw [List.length_map, List.take_length] at hD
    refine ⟨D, _, rfl, SqL.of hD, ?_⟩
    rw [sum_cast]
    exact q H2 s2
end
end My

set_option maxHeartbeats 4000000
namespace My
open PySem PySem.Spec PyProof.Rows L2
abbrev sCMasks : Stmt := top 18
theorem scCMasks : FnScope ["neighbours", "found", "vertex", "near", "mask"] ["neighbours"] (defScope sCMasks) := ⟨rfl, rfl, rfl, by decide +kernel, rfl, by decide +kernel, by decide +kernel⟩
def spIsClq (K : PySem.W.Frag) (tied : Bool) : Sp := fun vs H Q _ => ∃ (x : V) (n : Nat) (es : List E2) (v : V) (l : List Nat), vs = [x, v] ∧ GraphAt K H x n es ∧ Good n es ∧ LotAt K H v l ∧ LotOk n l ∧ ∀ H', Same H H' → Q (.bl (decide (PairB es tied l))) H'
def spCMasks (K : PySem.W.Frag) : Sp := fun vs H Q _ => ∃ (D : Addr) (nb : List Nat) (n : Nat) (es : List E2), vs = [.ref D] ∧ SqL K H D (numsN nb) ∧ NbOk n es nb ∧ n ≤ 9 ∧ ∀ (F : Addr) (found : List Nat) H', Same H H' → H' F = some (.lst (numsN found)) → FoundOk es n found → Q (.ref F) H'
theorem found_few {es : List E2} {k n : Nat} {found : List Nat} (h : FoundOk es k found) (kn : k ≤ n) (n9 : n ≤ 9) : found.length ≤ 512 := by
  have z := sub_few h.1 (m := List.range (2 ^ k)) fun m hm => List.mem_range.mpr ((h.2 m).mp hm).1
  rw [List.length_range] at z
  have p : 2 ^ k ≤ 2 ^ 9 := Nat.pow_le_pow_right (by decide) (by omega)
  omega
theorem clq_row {n : Nat} {es : List E2} {nb : List Nat} {l : List Nat} (ok : NbOk n es nb) (lo : LotOk n l) : (l.map fun k => decide ((nb.getD k 0 ||| 2 ^ k) &&& maskN l = maskN l)).all id = decide (PairB es true l) := by
  rw [Bool.eq_iff_iff, List.all_map, List.all_eq_true, decide_eq_true_eq, pairB_mem (lo.up.imp fun z => Nat.ne_of_lt z)]
  constructor
  · intro h u hu v hv ne
    have z := of_decide_eq_true (h u hu)
    rw [Nat.and_comm] at z
    have z2 := (sub_and _ _).mp z v (by rw [mask_bit lo.up]; exact decide_eq_true hv)
    rw [or_pow_bit, ok.2 u (lo.lt u hu), decide_eq_false ne, Bool.or_false] at z2
    exact z2
  · intro h u hu
    refine decide_eq_true ?_
    rw [Nat.and_comm]
    refine (sub_and _ _).mpr fun v hv => ?_
    rw [mask_bit lo.up] at hv
    have hv' := of_decide_eq_true hv
    rw [or_pow_bit, ok.2 u (lo.lt u hu)]
    by_cases e : u = v
    · rw [decide_eq_true e, Bool.or_true]
    · rw [h u hu v hv' e]; rfl
section
variable {P : Program} {w : World} {K : PySem.W.Frag} {mg : Str → Option Value} {base : Heap} {f fC fN fM fI : Addr} {fd dC dN dM dI : FuncData}
theorem ok_clique_masks (F : L2.Fun K "clique_masks" "clique_masks" sCMasks f fd) (me : mg "enumerate" = none) : FnOk P w K mg base CX0 1 f fd ["neighbours"] (spCMasks K) := by
  refine F.ok scCMasks (fun vs H Q E h => ?_) (fun cdv A outer s H vs Q E hr h => ?_)
  · obtain ⟨D, nb, n, es, rfl, _⟩ := h
    rfl
  obtain ⟨D, nb, n, es, rfl, hD, ok, n9, q⟩ := h
  refine ⟨_, pss_cons (ps_set (i := 1) scCMasks.nd rfl (.inl rfl) (pe_lst (pa_cons pe_int pa_nil)))
    (pss_cons (ps_for PassesOwn.never rfl (pi_enum (by rfl) me (pa_cons (pv 0) pa_nil)) (pg_tup (by rfl) (pgs_cons (pg_name (i := 2) scCMasks.nd rfl (.inr rfl)) (pgs_cons (pg_name (i := 3) scCMasks.nd rfl (.inr rfl)) pgs_nil)))
      (pss_one (ps_set (i := 1) scCMasks.nd rfl (.inl rfl) (pe_op op_cat (pv 1) (pe_lc (own := [("mask", 4)]) (g := gName 4) rfl scCMasks.nd (pi_list (pv 1))
        (blkOk_by (N := ["neighbours", "found", "vertex", "near", "mask"]) (sc := defScope sCMasks) (by decide +kernel)) (fun _ _ _ _ _ => pg_name (i := 4) scCMasks.nd rfl (Or.inl rfl))
        (fun _ _ _ _ _ => pts_one (pt_cmpR op_eq (pe_op op_and (pv 4) (pv 3)) (pv 4) (nomark _)))
        (fun _ _ _ _ _ => pe_op op_or (pv 4) (pe_op op_shl pe_int (pv 2))))))))
    (pss_one (ps_ret (pv 1)))), ?_⟩
  have ln := ok.1
  refine ⟨(by show 1 ≤ sizeLine; rw [sizeLine_eq]; decide), fun F0 nF0 => ?_⟩
  have s0 := same_new nF0 (.lst [V.int 0])
  refine ⟨_, rfl, D, _, rfl, Same.seq s0 hD, for_it walk_enum (fun i σ H' => ∃ (F1 : Addr) (found : List Nat) (s2 s3 : Option V), σ = [some (.ref D), some (.ref F1), s2, s3, none] ∧ Same H H' ∧ H' F1 = some (.lst (numsN found)) ∧ FoundOk es i found)
    ⟨F0, [0], none, none, rfl, s0, upd_same, found_nil es⟩ (fun i σ H' _ ⟨_, _, _, _, _, s, _⟩ => Same.seq s hD) ?_ ?_⟩
  · rintro i x σ H2 H3 li ⟨F1, found, s2', s3', rfl, s2, hF, fo⟩ ⟨T, y, v, rfl, nT, rfl, e1, e2⟩
    obtain rfl : V.int ((i : Nat) : Int) = y := Option.some.inj e1
    rw [numsN_len] at li
    have e2' : (numsN nb)[i]? = some v := e2
    rw [numsN_getD li] at e2'
    obtain rfl := Option.some.inj e2'
    have sT := same_new nT (.tup [.int ((i : Nat) : Int), .int ((nb.getD i 0 : Nat) : Int)])
    have hF3 := sT _ _ hF
    have few := found_few fo (show i ≤ n by omega) n9
    refine ⟨T, _, rfl, SqT.of upd_same, rfl, _, _, rfl, _, _, rfl, rfl, ?_⟩
    refine ⟨_, rfl, _, rfl, F1, rfl, ⟨_, SqL.of hF3⟩, fun B nB => lo_it (walk_list (xs := numsN found)) (fun j H4 => Same (upd H2 T (.tup [.int ((i : Nat) : Int), .int ((nb.getD i 0 : Nat) : Int)])) H4 ∧ H4 B = some (.lst (numsN (((found.take j).filter fun m => m &&& nb.getD i 0 == m).map (· ||| 2 ^ i))))) ⟨same_new nB _, upd_same⟩ (fun j H4 _ ⟨s4, _⟩ => SqL.of (s4 _ _ hF3)) ?_ ?_⟩
    · rintro j x _ H4 lj ⟨s4, hB⟩ ⟨rfl, hj⟩
      unfold numsN at hj
      rw [List.getElem?_map] at hj
      cases e : found[j]? with
      | none => rw [e] at hj; cases hj
      | some m =>
        rw [e] at hj
        cases hj
        have tk := take_succ e
        refine ⟨rfl, ?_⟩
        refine ⟨_, rfl, _, rfl, _, _, rfl, rfl, _, rfl, rfl, _, rfl, ?_⟩
        simp only [and_nn]
        have ev : decide (V.int ((m &&& nb.getD i 0 : Nat) : Int) = V.int ((m : Nat) : Int)) = (m &&& nb.getD i 0 == m) := by
          rw [Bool.eq_iff_iff, decide_eq_true_eq, beq_iff_eq]
          refine ⟨fun z => ?_, fun z => by rw [z]⟩
          injection z with z
          exact Int.ofNat.inj z
        rw [ev]
        have fl : (((found.take j).filter fun m => m &&& nb.getD i 0 == m).map (· ||| 2 ^ i)).length ≤ 512 := by
          rw [List.length_map]
          refine Nat.le_trans (List.length_filter_le _ _) ?_
          rw [List.length_take]
          omega
        refine iteB (fun c => ?_) (fun c => ?_)
        · refine ⟨_, rfl, _, rfl, _, _, rfl, rfl, ⟨by omega, by omega, by decide⟩, _, _, rfl, rfl, ?_⟩
          simp only [or_shl]
          refine ⟨_, hB, small1000 (by rw [numsN_len]; omega), same_put s4 nB, ?_⟩
          rw [upd_same, tk, List.filter_append, List.filter_cons_of_pos (p := fun m => m &&& nb.getD i 0 == m) c, List.map_append]
          unfold numsN
          rw [List.map_append]
          rfl
        · refine ⟨s4, ?_⟩
          rw [hB, tk, List.filter_append, List.filter_cons_of_neg (p := fun m => m &&& nb.getD i 0 == m) (by rw [c]; decide), List.filter_nil, List.append_nil]
    · rintro H4 ⟨s4, hB⟩
      rw [numsN_len, List.take_length] at hB
      have fl : (((found.filter fun m => m &&& nb.getD i 0 == m).map (· ||| 2 ^ i))).length ≤ 512 := by
        rw [List.length_map]
        exact Nat.le_trans (List.length_filter_le _ _) few
      refine ⟨F1, B, _, _, rfl, rfl, s4 _ _ hF3, hB, Nat.le_trans (by rw [numsN_len, numsN_len]; omega : _ ≤ 1024) (by rw [sizeLine_eq]; decide), fun c nc => ?_⟩
      have e3 : numsN found ++ numsN ((found.filter fun m => m &&& nb.getD i 0 == m).map (· ||| 2 ^ i)) = numsN (goOn found i (nb.getD i 0)) := by
        unfold goOn numsN
        rw [List.map_append]
      rw [e3]
      exact ⟨c, _, _, _, rfl, (s2.trans sT).trans (s4.trans (same_new nc _)), upd_same, found_step fo ok (by omega)⟩
  · rintro σ H2 ⟨F1, found, s2', s3', rfl, s2, hF, fo⟩
    rw [numsN_len, ln] at fo
    exact ⟨_, rfl, q F1 found H2 s2 hF fo⟩
end
end My

set_option maxHeartbeats 4000000
/-! Colours one by one: what is kept, in plain Lean. -/
namespace My
open PySem PySem.Spec PyProof.Rows L2
structure Ent (es : List E2) (LL : List (List Nat)) (C : List Nat) (m : Nat) (cols : List (Option Nat)) : Prop where
  len : cols.length = es.length
  lt : m < 2 ^ es.length
  bit : ∀ e, m.testBit e = true ↔ ∃ c, cols[e]? = some (some c)
  pre : PreC es LL cols
  used : ∀ (e c : Nat), cols[e]? = some (some c) → c ∈ C
structure Fit (es : List E2) (LL : List (List Nat)) (k mask : Nat) : Prop where
  lt : mask < 2 ^ es.length
  lst : ∀ e, mask.testBit e = true → ∃ row, LL[e]? = some row ∧ k ∈ row
  free : ∀ i j, i ≠ j → mask.testBit i = true → mask.testBit j = true → meetB es i j = false
def recol (n k mask : Nat) (cols : List (Option Nat)) : List (Option Nat) := (List.range n).map fun e => if mask.testBit e = true then some k else cols.getD e none
theorem recol_get {n k mask : Nat} {cols : List (Option Nat)} {e : Nat} (h : e < n) (l : cols.length = n) : (recol n k mask cols)[e]? = if mask.testBit e = true then some (some k) else cols[e]? := by
  unfold recol
  rw [List.getElem?_map, List.getElem?_range h]
  show some (if mask.testBit e = true then some k else cols.getD e none) = _
  split
  · rfl
  · rw [List.getD_eq_getElem?_getD, List.getElem?_eq_getElem (by omega)]
    rfl
theorem bit_lt {m n e : Nat} (h : m < 2 ^ n) (b : m.testBit e = true) : e < n := by
  by_cases c : e < n
  · exact c
  · rw [Nat.testBit_lt_two_pow (Nat.lt_of_lt_of_le h (Nat.pow_le_pow_right (by decide) (by omega)))] at b
    cases b
theorem ent_step {es : List E2} {LL : List (List Nat)} {C : List Nat} {m k mask : Nat} {cols : List (Option Nat)} (h : Ent es LL C m cols) (f : Fit es LL k mask) (kC : k ∉ C) : Ent es LL (C ++ [k]) (mask ||| m) (recol es.length k mask cols) := by
  have at' : ∀ e c, (recol es.length k mask cols)[e]? = some (some c) → e < es.length ∧ ((mask.testBit e = true ∧ c = k) ∨ (mask.testBit e = false ∧ cols[e]? = some (some c))) := fun e c he => by
    have lt : e < es.length := by
      have := (List.getElem?_eq_some_iff.mp he).1
      unfold recol at this
      rw [List.length_map, List.length_range] at this
      exact this
    rw [recol_get lt h.len] at he
    refine ⟨lt, ?_⟩
    split at he
    · rename_i b
      cases he
      exact .inl ⟨b, rfl⟩
    · rename_i b
      exact .inr ⟨by simpa using b, he⟩
  refine ⟨by unfold recol; rw [List.length_map, List.length_range], Nat.or_lt_two_pow f.lt h.lt, fun e => ?_, ⟨fun e row c hr he => ?_, fun i j c d ne hi hj mt => ?_⟩, fun e c he => ?_⟩
  · rw [Nat.testBit_or, Bool.or_eq_true]
    constructor
    · rintro (b | b)
      · exact ⟨k, by rw [recol_get (bit_lt f.lt b) h.len, if_pos b]⟩
      · have lt := bit_lt h.lt b
        by_cases b' : mask.testBit e = true
        · exact ⟨k, by rw [recol_get lt h.len, if_pos b']⟩
        · obtain ⟨c, hc⟩ := (h.bit e).mp b
          exact ⟨c, by rw [recol_get lt h.len, if_neg b']; exact hc⟩
    · rintro ⟨c, he⟩
      rcases (at' e c he).2 with ⟨b, _⟩ | ⟨_, hc⟩
      · exact .inl b
      · exact .inr ((h.bit e).mpr ⟨c, hc⟩)
  · rcases (at' e c he).2 with ⟨b, rfl⟩ | ⟨_, hc⟩
    · obtain ⟨row', hr', hk⟩ := f.lst e b
      rw [hr] at hr'
      cases hr'
      exact hk
    · exact h.pre.lst e row c hr hc
  · rcases (at' i c hi).2 with ⟨bi, rfl⟩ | ⟨bi, hi⟩
    · rcases (at' j d hj).2 with ⟨bj, rfl⟩ | ⟨bj, hj⟩
      · rw [f.free i j ne bi bj] at mt
        cases mt
      · intro z
        exact kC (z ▸ h.used j d hj)
    · rcases (at' j d hj).2 with ⟨bj, ed⟩ | ⟨bj, hj⟩
      · intro z
        exact kC (ed ▸ z ▸ h.used i c hi)
      · exact h.pre.diff i j c d ne hi hj mt
  · rcases (at' e c he).2 with ⟨_, rfl⟩ | ⟨_, hc⟩
    · simp
    · exact List.mem_append_left _ (h.used e c hc)
theorem Ent.more {es : List E2} {LL : List (List Nat)} {C : List Nat} {m k : Nat} {cols : List (Option Nat)} (h : Ent es LL C m cols) : Ent es LL (C ++ [k]) m cols :=
  ⟨h.len, h.lt, h.bit, h.pre, fun e c he => List.mem_append_left _ (h.used e c he)⟩
/-- the edges of a colouring with these colours -/
def pm (n : Nat) (cs C : List Nat) : Nat := maskN ((List.range n).filter fun e => decide (cs.getD e 0 ∈ C))
theorem pm_bit (n : Nat) (cs C : List Nat) (e : Nat) : (pm n cs C).testBit e = (decide (e < n) && decide (cs.getD e 0 ∈ C)) := by
  unfold pm
  rw [mask_bit (List.pairwise_lt_range.filter _), Bool.eq_iff_iff, decide_eq_true_eq, List.mem_filter, List.mem_range, Bool.and_eq_true, decide_eq_true_eq, decide_eq_true_eq]
theorem pm_lt (n : Nat) (cs C : List Nat) : pm n cs C < 2 ^ n := by
  refine Nat.lt_pow_two_of_testBit _ fun i hi => ?_
  rw [pm_bit, decide_eq_false (by omega), Bool.false_and]
theorem pm_step (n : Nat) (cs C : List Nat) (k : Nat) : pm n cs (C ++ [k]) = pm n cs [k] ||| pm n cs C := by
  refine Nat.eq_of_testBit_eq fun e => ?_
  rw [Nat.testBit_or, pm_bit, pm_bit, pm_bit, Bool.eq_iff_iff]
  simp only [Bool.and_eq_true, Bool.or_eq_true, decide_eq_true_eq, List.mem_append, List.mem_singleton]
  constructor
  · rintro ⟨h, a | a⟩
    · exact .inr ⟨h, a⟩
    · exact .inl ⟨h, a⟩
  · rintro (⟨h, a⟩ | ⟨h, a⟩)
    · exact ⟨h, .inr a⟩
    · exact ⟨h, .inl a⟩
theorem pm_nil (n : Nat) (cs : List Nat) : pm n cs [] = 0 := by
  refine Nat.eq_of_testBit_eq fun e => ?_
  rw [pm_bit, Nat.zero_testBit]
  simp
theorem pm_all {n : Nat} {cs C : List Nat} (l : cs.length = n) (h : ∀ c ∈ cs, c ∈ C) : pm n cs C = 2 ^ n - 1 := by
  refine Nat.eq_of_testBit_eq fun e => ?_
  rw [pm_bit, Nat.testBit_two_pow_sub_one]
  by_cases lt : e < n
  · have m : cs.getD e 0 ∈ cs := by
      rw [List.getD_eq_getElem?_getD, List.getElem?_eq_getElem (by omega)]
      exact List.getElem_mem _
    rw [decide_eq_true lt, decide_eq_true (h _ m)]
    rfl
  · rw [decide_eq_false lt]
    rfl
theorem pm_fit {es : List E2} {LL : List (List Nat)} {cs : List Nat} (h : ColP es LL cs) (ll : LL.length = es.length) (k : Nat) : Fit es LL k (pm es.length cs [k]) := by
  have at' : ∀ e, (pm es.length cs [k]).testBit e = true → e < es.length ∧ cs[e]? = some k := fun e b => by
    rw [pm_bit, Bool.and_eq_true, decide_eq_true_eq, decide_eq_true_eq, List.mem_singleton] at b
    refine ⟨b.1, ?_⟩
    rw [← b.2, List.getD_eq_getElem?_getD, List.getElem?_eq_getElem (by rw [h.len]; exact b.1)]
    rfl
  refine ⟨pm_lt _ _ _, fun e b => ?_, fun i j ne bi bj => ?_⟩
  · obtain ⟨lt, he⟩ := at' e b
    exact ⟨LL[e], List.getElem?_eq_getElem (by omega), h.lst e _ k (List.getElem?_eq_getElem (by omega)) he⟩
  · obtain ⟨_, hi⟩ := at' i bi
    obtain ⟨_, hj⟩ := at' j bj
    cases m : meetB es i j with
    | false => rfl
    | true => exact absurd rfl (h.diff i j k k ne hi hj m)
/-- the whole -/
theorem ent_whole {es : List E2} {LL : List (List Nat)} {C : List Nat} {cols : List (Option Nat)} (h : Ent es LL C (2 ^ es.length - 1) cols) : ∃ cs, cols = cs.map some ∧ ColP es LL cs := by
  obtain ⟨cs, e⟩ := all_some (bg := cols) fun e lt hn => by
    rw [h.len] at lt
    obtain ⟨c, hc⟩ := (h.bit e).mp (by rw [Nat.testBit_two_pow_sub_one]; exact decide_eq_true lt)
    rw [hc] at hn
    cases hn
  have at' : ∀ (e c : Nat), cs[e]? = some c → cols[e]? = some (some c) := fun k c hk => by rw [e, List.getElem?_map, hk]; rfl
  refine ⟨cs, e, ⟨?_, fun i row c hr hc => h.pre.lst i row c hr (at' i c hc), fun i j c d ne hi hj m => h.pre.diff i j c d ne (at' i c hi) (at' j d hj) m⟩⟩
  have := h.len
  rw [e, List.length_map] at this
  exact this
theorem ent_nil {es : List E2} {LL : List (List Nat)} : Ent es LL [] 0 (List.replicate es.length none) := by
  have no : ∀ (e c : Nat), (List.replicate es.length (none : Option Nat))[e]? ≠ some (some c) := fun e c h => by
    rw [List.getElem?_replicate] at h
    split at h
    · cases h
    · cases h
  refine ⟨List.length_replicate, Nat.two_pow_pos _, fun e => ?_, ⟨fun e row c _ h => absurd h (no e c), fun i j c d _ h _ _ => absurd h (no i c)⟩, fun e c h => absurd h (no e c)⟩
  rw [Nat.zero_testBit]
  constructor
  · intro h; cases h
  · rintro ⟨c, h⟩; exact absurd h (no e c)
end My

set_option maxHeartbeats 2000000
/-! list(text); a, *b = list. -/
namespace My
open PySem PySem.Spec PyProof.Rows L2
def sgnsOf (z : Str) : List V := z.cps.toList.map fun c => V.str ⟨#[c]⟩
section
variable {X : Cx}
def rListT : List V → Hp → VK → Prop := fun xs H Q => ∃ z : Str, xs = [.str z] ∧ z.cps.size ≤ sizeLine ∧ ∀ l, H l = none → Q (.ref l) (upd H l (.lst (sgnsOf z)))
theorem call_listT (hc : X.calm = true) : CallR X (.type "list") rListT := by
  rintro pins s σ H xs us Q I r ⟨z, rfl, hz, q⟩
  obtain ⟨u, rfl, t, rfl⟩ := vals1 r
  refine call_list_str (I.ok.hd hc) z t (hn := hz) fun h' tk acc c' hk e' hi => ?_
  refine ⟨.ref s.heap.objs.size, upd H s.heap.objs.size (.lst (sgnsOf z)), I.laid hk (Nat.le_refl _) (show ObjOk X.prog X.w _ _ _ (.lst (sgnsOf z)) from ⟨?_, acc.toList, c', ?_, ?_⟩), rfl, q _ (I.hok.fresh (Nat.le_refl _))⟩
  · unfold sgnsOf
    rw [List.length_map, Array.length_toList]
    exact hz
  · have la : acc.toList.length = z.cps.size := by rw [Array.length_toList]; exact hi.1
    have es : sgnsOf z = (List.range acc.toList.length).map fun i => V.str ⟨#[z.cps.getD i 0]⟩ := by
      rw [la]
      unfold sgnsOf
      refine List.ext_getElem? fun i => ?_
      rw [List.getElem?_map, List.getElem?_map, Array.getElem?_toList]
      by_cases hi : i < z.cps.size
      · rw [List.getElem?_range hi]
        simp [Array.getD, hi]
      · rw [Array.getElem?_eq_none (by omega), List.getElem?_eq_none (by rw [List.length_range]; omega)]
        rfl
    rw [es]
    refine vals_of_get acc.toList _ fun j u hj => ?_
    obtain ⟨c, t2, h1, rfl⟩ := hi.2 j u (by rw [← hj, Array.getElem?_toList])
    refine ⟨t2, ?_⟩
    have : z.cps.getD j 0 = c := by
      obtain ⟨hlt, e⟩ := Array.getElem?_eq_some_iff.mp h1
      simp [Array.getD, hlt, e]
    rw [this]
  · rw [Array.toArray_toList]
    exact e'
theorem walks_shift {prog : Program} {w : World} {A : Around} {I : Addr} {fp wr : List Addr} {n : Nat} {P : Nat → Value → Prop} {St : Nat → Heap → Prop} (W : Walks prog w A I fp wr (n + 1) P St) : Walks prog w A I fp wr n (fun i => P (i + 1)) (fun i => St (i + 1)) :=
  ⟨W.sub, fun i => W.frame (i + 1), fun i s Q E hi => W.item (i + 1) s Q E (Nat.succ_lt_succ hi), fun s Q E => W.done s Q E, fun i => W.self (i + 1)⟩
/-- a, *b = a list -/
def gStar (K : PySem.W.Frag) (g0 g1 : TG) : TG := fun v σ H Q => ∃ (a : Addr) (x : V) (xs : List V), v = .ref a ∧ SqL K H a (x :: xs) ∧ ∀ l, H l = none → gCons g0 (gCons g1 gNil) [x, .ref l] σ (upd H l (.lst xs)) Q
theorem pg_star {t0 t1 : Expr} {p1 pos : Pos} {k : Nat} {g0 g1 : TG} (hc : X.calm = true) (h0 : PG X t0 g0) (h1 : PG X t1 g1)
    (hs : assignEach [t0, .Starred t1 p1] X.env = [(false, assign t0 X.env), (true, assign t1 X.env)] := by rfl) (hs2 : assignEach [t0, t1] X.env = [(false, assign t0 X.env), (false, assign t1 X.env)] := by rfl) (hs3 : assignEach [t1] X.env = [(false, assign t1 X.env)] := by rfl) : PG X (.Tuple [t0, .Starred t1 p1] k pos) (gStar X.K g0 g1) := by
  have hg : PGs X [t0, t1] (gCons g0 (gCons g1 gNil)) := pgs_cons h0 (pgs_cons h1 pgs_nil (by rw [hs3]; rfl)) (by rw [hs2, hs3]; rfl)
  refine ⟨fun pins s σ H v u Q I r hw => ?_⟩
  obtain ⟨a, x, xs, rfl, hq, hw⟩ := hw
  cases r
  obtain ⟨its, rv, pl, hz⟩ := I.list hq
  cases rv with
  | @cons _ y _ ys r0 rs =>
  rw [assign_Tuple]
  refine wpAny_bind (wpAny_standAt ?_)
  rw [hs]
  unfold unpack
  refine wpAny_bind (wpAny_holding ?_)
  show wpAny _ _ (unpackItems (.ref a) 2 (some 1)) _ _ _
  unfold unpackItems
  refine wpAny_bind ?_
  unfold notIterableAtAll
  refine wpAny_bind (wpAny_specialOf pl.isList.typeIs slot_list_iter.lookup ?_)
  refine wpAny_pure ?_
  simp only [Option.isSome_some, if_true, Bool.false_eq_true, if_false]
  refine wpAny_bind (wpAny_holding (wpAny_pyIter_list pl.isList ?_))
  have ha : a < s.heap.objs.size := by
    obtain ⟨o, ho, _⟩ := pl.isList
    exact Heap.lt_size ho
  have ne : a ≠ s.heap.objs.size := Nat.ne_of_lt ha
  refine wpAny_bind (wpAny_holding ?_)
  unfold draw
  generalize hs0 : s.heap.push { cls := .type "list_iterator", data := .fields #[.ref a, .int 0 0] } = h0'
  have k0 : ∀ b o, s.heap.get? b = some o → h0'.get? b = some o := fun b o e => by rw [← hs0]; exact Heap.get?_push_of_some _ e
  have it0 : h0'.IsListIter s.heap.objs.size a 0 := by rw [← hs0]; exact ⟨_, Heap.get?_push_size _ rfl, rfl, rfl⟩
  have li0 : h0'.IsList a (y :: ys).toArray := pl.isList.at fun o e => k0 a o e
  refine wpAny_bind (wpAny_pyNext_list_item it0 li0 (x := y) rfl fun h1 it1 sb1 => ?_)
  have li1 : h1.IsList a (y :: ys).toArray := li0.extBut sb1.extBut ne
  refine wpAny_bind (wpAny_holding ?_)
  unfold draw
  refine wpAny_pure (wpAny_pure ?_)
  simp only [List.length_singleton, Nat.lt_irrefl, if_false]
  refine wpAny_bind (wpAny_holding ?_)
  have W := walks_shift (n := ys.length) (Walks.list (prog := X.prog) (w := X.w) (A := X.A.in1) (I.ok.hd hc) s.heap.objs.size a ne (y :: ys).toArray)
  have hI : ∀ b ∈ [s.heap.objs.size, a], b < h1.objs.size := fun b hb => by
    rcases List.mem_cons.mp hb with rfl | hb
    · obtain ⟨o, ho, _⟩ := it1
      exact Heap.lt_size ho
    · rw [List.mem_singleton.mp hb]
      obtain ⟨o, ho, _⟩ := li1
      exact Heap.lt_size ho
  have lxy : xs.length = ys.length := Vals.length rs
  have zx : xs.length + 1 ≤ sizeLine := by simpa using hz
  refine wpAny_collect_iter (s := { s with heap := h1 }) (.inr (.inr (.inl rfl))) W.toS (fun _ _ st => st.1.typeIs) ⟨it1, li1⟩ hI (by simp) (fun s' acc mv io => ?_) (by omega)
  have accE : acc.toList = ys := by
    refine List.ext_getElem? fun j => ?_
    by_cases hj : j < acc.size
    · have e1 : acc[j]? = some acc[j] := Array.getElem?_eq_getElem hj
      have e2 := io.2 j _ e1
      rw [Array.getElem?_toList, e1, ← e2]
      simp
    · have l1 := io.1
      rw [List.getElem?_eq_none (by rw [Array.length_toList]; omega), List.getElem?_eq_none (by omega)]
  rw [accE, if_neg (by omega)]
  refine wpAny_bind (wpAny_newObj_type ?_ (by show (List.take _ ys).length ≤ sizeLine; rw [List.length_take]; omega))
  refine wpAny_pure ?_
  have kp : ∀ b o, s.heap.get? b = some o → s'.heap.get? b = some o := fun b o e => by
    have nb : b ≠ s.heap.objs.size := Nat.ne_of_lt (Heap.lt_size e)
    exact mv.heap b o (fun m => nb (List.mem_singleton.mp m)) ((sb1.2 b nb).trans (k0 b o e))
  have es : s' = { s with heap := s'.heap, toks := s'.toks } := by
    have g1 : s'.gens = s.gens := mv.gens
    have g2 : s'.drawn = s.drawn := mv.drawn
    have g3 : s'.os = s.os := mv.os
    cases s'
    cases s
    simp only at g1 g2 g3
    subst g1 g2 g3
    rfl
  have I1 : L2.Inv X pins σ H s' := by
    rw [es]
    exact I.kept (t' := s'.toks) kp
  have tk : List.take (ys.length - (2 - 1 - 1)) ys = ys := List.take_of_length_le (by omega)
  have dr : List.drop (ys.length - (2 - 1 - 1)) ys = [] := List.drop_eq_nil_of_le (by omega)
  rw [tk, dr]
  have I2 := I1.laid (h' := s'.heap.push { cls := .type "list", data := .seq ys.toArray }) (a := s'.heap.objs.size) (o := .lst xs) (t' := s'.toks) (fun b o e => Heap.get?_push_of_some _ e) (Nat.le_refl _) (show ObjOk X.prog X.w _ _ _ (.lst xs) from ⟨by omega, ys, _, rs, Heap.get?_push_size _ rfl⟩)
  have z := hg.run pins _ σ _ [x, .ref s'.heap.objs.size] _ Q I2 (.cons r0 (.cons rfl .nil)) (hw _ (I1.hok.fresh (Nat.le_refl _)))
  rw [hs2] at z
  exact z
end
end My

set_option maxHeartbeats 2000000
/-! a, *b = tuple. -/
namespace My
open PySem PySem.Spec PyProof.Rows L2
section
variable {X : Cx}
/-- a, *b = a tuple -/
def gStarT (K : PySem.W.Frag) (g0 g1 : TG) : TG := fun v σ H Q => ∃ (a : Addr) (x : V) (xs : List V), v = .ref a ∧ SqT K H a (x :: xs) ∧ ∀ l, H l = none → gCons g0 (gCons g1 gNil) [x, .ref l] σ (upd H l (.lst xs)) Q
theorem pg_starT {t0 t1 : Expr} {p1 pos : Pos} {k : Nat} {g0 g1 : TG} (hc : X.calm = true) (h0 : PG X t0 g0) (h1 : PG X t1 g1)
    (hs : assignEach [t0, .Starred t1 p1] X.env = [(false, assign t0 X.env), (true, assign t1 X.env)] := by rfl) (hs2 : assignEach [t0, t1] X.env = [(false, assign t0 X.env), (false, assign t1 X.env)] := by rfl) (hs3 : assignEach [t1] X.env = [(false, assign t1 X.env)] := by rfl) : PG X (.Tuple [t0, .Starred t1 p1] k pos) (gStarT X.K g0 g1) := by
  have hg : PGs X [t0, t1] (gCons g0 (gCons g1 gNil)) := pgs_cons h0 (pgs_cons h1 pgs_nil (by rw [hs3]; rfl)) (by rw [hs2, hs3]; rfl)
  refine ⟨fun pins s σ H v u Q I r hw => ?_⟩
  obtain ⟨a, x, xs, rfl, hq, hw⟩ := hw
  cases r
  obtain ⟨its, rv, pl, hz⟩ := I.tuple hq
  have pl : s.heap.IsTuple a its.toArray := pl
  cases rv with
  | @cons _ y _ ys r0 rs =>
  rw [assign_Tuple]
  refine wpAny_bind (wpAny_standAt ?_)
  rw [hs]
  unfold unpack
  refine wpAny_bind (wpAny_holding ?_)
  show wpAny _ _ (unpackItems (.ref a) 2 (some 1)) _ _ _
  unfold unpackItems
  refine wpAny_bind ?_
  unfold notIterableAtAll
  refine wpAny_bind (wpAny_specialOf pl.typeIs PySem.F.slot_tuple_iter.lookup ?_)
  refine wpAny_pure ?_
  simp only [Option.isSome_some, if_true, Bool.false_eq_true, if_false]
  refine wpAny_bind (wpAny_holding (wpAny_pyIter_tuple pl ?_))
  have ha : a < s.heap.objs.size := by
    obtain ⟨o, ho, _⟩ := pl
    exact Heap.lt_size ho
  have ne : a ≠ s.heap.objs.size := Nat.ne_of_lt ha
  refine wpAny_bind (wpAny_holding ?_)
  unfold draw
  generalize hs0 : s.heap.push { cls := .type "tuple_iterator", data := .fields #[.ref a, .int 0 0] } = h0'
  have k0 : ∀ b o, s.heap.get? b = some o → h0'.get? b = some o := fun b o e => by rw [← hs0]; exact Heap.get?_push_of_some _ e
  have it0 : h0'.IsTupleIter s.heap.objs.size a 0 := by rw [← hs0]; exact ⟨_, Heap.get?_push_size _ rfl, rfl, rfl⟩
  have li0 : h0'.IsTuple a (y :: ys).toArray := ⟨_, k0 _ _ pl.choose_spec.1, pl.choose_spec.2⟩
  refine wpAny_bind (wpAny_pyNext_tuple_item it0 li0 (x := y) rfl fun h1 it1 sb1 => ?_)
  have li1 : h1.IsTuple a (y :: ys).toArray := li0.extBut sb1.extBut ne
  refine wpAny_bind (wpAny_holding ?_)
  unfold draw
  refine wpAny_pure (wpAny_pure ?_)
  simp only [List.length_singleton, Nat.lt_irrefl, if_false]
  refine wpAny_bind (wpAny_holding ?_)
  have W := walks_shift (n := ys.length) (Walks.tuple (prog := X.prog) (w := X.w) (A := X.A.in1) (I.ok.hd hc) s.heap.objs.size a ne (y :: ys).toArray)
  have hI : ∀ b ∈ [s.heap.objs.size, a], b < h1.objs.size := fun b hb => by
    rcases List.mem_cons.mp hb with rfl | hb
    · obtain ⟨o, ho, _⟩ := it1
      exact Heap.lt_size ho
    · rw [List.mem_singleton.mp hb]
      obtain ⟨o, ho, _⟩ := li1
      exact Heap.lt_size ho
  have lxy : xs.length = ys.length := Vals.length rs
  have zx : xs.length + 1 ≤ sizeLine := by simpa using hz
  refine wpAny_collect_iter (s := { s with heap := h1 }) (.inr (.inr (.inr rfl))) W.toS (fun _ _ st => st.1.typeIs) ⟨it1, li1⟩ hI (by simp) (fun s' acc mv io => ?_) (by omega)
  have accE : acc.toList = ys := by
    refine List.ext_getElem? fun j => ?_
    by_cases hj : j < acc.size
    · have e1 : acc[j]? = some acc[j] := Array.getElem?_eq_getElem hj
      have e2 := io.2 j _ e1
      rw [Array.getElem?_toList, e1, ← e2]
      simp
    · have l1 := io.1
      rw [List.getElem?_eq_none (by rw [Array.length_toList]; omega), List.getElem?_eq_none (by omega)]
  rw [accE, if_neg (by omega)]
  refine wpAny_bind (wpAny_newObj_type ?_ (by show (List.take _ ys).length ≤ sizeLine; rw [List.length_take]; omega))
  refine wpAny_pure ?_
  have kp : ∀ b o, s.heap.get? b = some o → s'.heap.get? b = some o := fun b o e => by
    have nb : b ≠ s.heap.objs.size := Nat.ne_of_lt (Heap.lt_size e)
    exact mv.heap b o (fun m => nb (List.mem_singleton.mp m)) ((sb1.2 b nb).trans (k0 b o e))
  have es : s' = { s with heap := s'.heap, toks := s'.toks } := by
    have g1 : s'.gens = s.gens := mv.gens
    have g2 : s'.drawn = s.drawn := mv.drawn
    have g3 : s'.os = s.os := mv.os
    cases s'
    cases s
    simp only at g1 g2 g3
    subst g1 g2 g3
    rfl
  have I1 : L2.Inv X pins σ H s' := by
    rw [es]
    exact I.kept (t' := s'.toks) kp
  have tk : List.take (ys.length - (2 - 1 - 1)) ys = ys := List.take_of_length_le (by omega)
  have dr : List.drop (ys.length - (2 - 1 - 1)) ys = [] := List.drop_eq_nil_of_le (by omega)
  rw [tk, dr]
  have I2 := I1.laid (h' := s'.heap.push { cls := .type "list", data := .seq ys.toArray }) (a := s'.heap.objs.size) (o := .lst xs) (t' := s'.toks) (fun b o e => Heap.get?_push_of_some _ e) (Nat.le_refl _) (show ObjOk X.prog X.w _ _ _ (.lst xs) from ⟨by omega, ys, _, rs, Heap.get?_push_size _ rfl⟩)
  have z := hg.run pins _ σ _ [x, .ref s'.heap.objs.size] _ Q I2 (.cons r0 (.cons rfl .nil)) (hw _ (I1.hok.fresh (Nat.le_refl _)))
  rw [hs2] at z
  exact z
end
end My

set_option maxHeartbeats 2000000
/-! D.get(text), D a dict of the module. -/
namespace My
open PySem PySem.Spec PyProof.Rows L2
section
variable {X : Cx} {d : Addr} {es : Array DictEntry} {n : Nat} {e : Expr} {x : Str} {p apos cpos : Pos} {ty : TE}
def tKGet (K : PySem.W.Frag) (d : Addr) (ty : TE) : TE := fun σ H Q => ty σ H fun y H1 => ∃ (z : Str) (r : Option Value) (v : V), y = .str z ∧ PySem.W.nsIn K d z = some r ∧ RelV v (r.getD .none) ∧ Q v H1
theorem pe_kget (D : KDict X.K X.w d es n) (hg : Gl X x) (hm : X.mg x = some (.ref d)) (he : PE X e ty) (m : M1 X (.Name x p) "get" apos e cpos) (hdb : (x == ("__debug__" : Str)) = false := by decide) :
    PE X (.Call (.Attribute (.Name x p) "get" apos) [e] [] cpos) (tKGet X.K d ty) := by
  refine ⟨fun pins s σ H Q I h => ?_⟩
  refine wpAny_Call_method m.base m.few m.line PySem.F.plainAttrs_dict PySem.F.slot_dict_get PySem.F.type_dict_get (ld_glob I hg hm ?_ hdb)
  have mo := PySem.W.mapOf_K (prog := X.prog) (w := X.w) I.kIn D.at_ D.lit
  refine ⟨kd_type D I, fun b q => ?_, ?_⟩
  · cases q
    exact ⟨_, I.kIn _ _ D.at_, rfl⟩
  rw [m.trees]
  refine Calls.callWith_builtin rfl (Calls.evalArgs_plain (Calls.spliced_cons (thn (he.run pins s σ H _ I h) fun iv s2 ⟨y, H2, I2, ry, z, r, v, ey, e2, rv, q2⟩ => Calls.spliced_nil ?_)))
  subst ey
  obtain ⟨t, rfl⟩ := ry
  have mo2 := PySem.W.mapOf_K (prog := X.prog) (w := X.w) I2.kIn D.at_ D.lit
  refine call_meetsIn PySem.F.slot_dict_get (kd_type D I2) PySem.F.entry_dict_get (PySem.F.args_dict_get_2 _ _) (meets_dict_get (strKind X.prog X.w) d (PySem.strKind_is X.prog X.w z t) D.low) ⟨_, mo2, ?_⟩
  rw [PySem.W.find_K D.at_ e2]
  exact ⟨v, H2, I2.tok _, rv, q2⟩
end
end My

set_option maxHeartbeats 4000000
/-! sorted(t), t a tuple of pairs of ints. -/
namespace My
open PySem PySem.Spec PyProof.Rows L2 Builtin
section
variable {prog : Program} {w : World} {A : Around} {E : Value → Shared → Prop} {s : Shared}
theorem collT {t : Addr} {us : List Value} {R : List Value → Shared → Prop} (ht : IsTup s.heap t us.toArray) (hz : us.length ≤ sizeLine)
    (h : R us { s with heap := (s.heap.push (seqObj "list" #[] 0)).update s.heap.objs.size (Obj.mapSeq (· ++ us.toArray)) }) : wpAny (model prog w) A (collect (.ref t)) R E s := by
  obtain ⟨ob, hob, hcl, m, hdt⟩ := id ht
  unfold collect
  refine wpAny_bind (wpAny_runValue (codeAny_builtin entry_proto_collect' ?_)); show wpAny _ _ (do again (.builtin "list.__iadd__" ⟨[← newList [], .ref t], []⟩)) _ _ s
  refine wpAny_bind (wpAny_newList (wpAny_pure ⟨Code.quiet_builtin _ (by decide +kernel), codeAny_builtin entry_list_iadd' ?_⟩))
  show wpAny _ _ (Builtin.List.listExtendWith (.ref s.heap.objs.size) (.ref t) (.ref s.heap.objs.size)) _ _ { s with heap := s.heap.push (seqObj "list" #[] 0) }
  unfold Builtin.List.listExtendWith
  have hob' : (s.heap.push (seqObj "list" #[] 0)).get? t = some ob := Heap.get?_push_of_some _ hob
  refine wpAny_bind (wpAny_typeOf (T := "tuple") ⟨ob, hob', hcl⟩ ?_)
  rw [if_pos (by rw [show (Value.type "tuple" == Value.type "tuple") = true from rfl]; simp)]
  have hnew : (s.heap.push (seqObj "list" #[] 0)).get? s.heap.objs.size = some (seqObj "list" #[] 0) := Heap.get?_push_size _ rfl
  refine wpAny_bind (listItems_at hob' hdt (wpAny_bind (listItems_at hnew rfl ?_)))
  rw [if_neg (by simp)]
  refine wpAny_bind (listUpdate_at hnew rfl ?_ (Nat.zero_le _) (by simp only [List.size_toArray, Array.size_append, List.length_nil]; omega))
  refine wpAny_pure ?_
  have hend := get?_update_seq hnew (· ++ us.toArray)
  have eus : ((#[] : Array Value) ++ us.toArray).toList = us := by simp
  show wpAny _ _ (do let o ← load s.heap.objs.size; match o.data with | .seq xs _ => pure xs.toList | _ => unsupported "internal:collect") _ _ _
  refine wpAny_bind (wpAny_load hend ?_); show wpAny _ _ (pure ((#[] : Array Value) ++ us.toArray).toList) R E _
  rw [eus]
  exact wpAny_pure h
theorem sortT {t : Addr} {us : List Value} {ord : Value → Value → Bool} {R : Value → Shared → Prop} (O : SrtO.Swo ord) (ht : IsTup s.heap t us.toArray) (hz : us.length ≤ sizeLine)
    (hS : 2 ≤ us.length → ∀ (g : Heap) (a : Addr), g.get? a = some (seqObj "list" us.toArray 0) → (∀ b o, s.heap.get? b = some o → b ≠ a ∧ g.get? b = some o) → SrtO.SortableO prog w A.in1.in1 { s with heap := g } a us ord)
    (h : ∀ out : List Value, SrtO.Srtd ord out → SrtO.Stb ord out us → R (.ref (s.heap.objs.size + 1)) { s with heap := sortedAll s.heap us out.toArray }) :
    wpAny (model prog w) A (call (.builtin "sorted") [.ref t]) R E s := by
  refine Calls.call_function_entry kind_sorted plain_sorted entry_sorted (args_sorted1 _) ?_; unfold Builtin.«sorted»
  refine wpAny_bind (m := checkCount "sorted" 1 1 _) (wpAny_pure (wpAny_bind (collT ht hz (wpAny_bind (wpAny_newList ?_ hz)))))
  generalize hg0 : (s.heap.push (seqObj "list" #[] 0)).update s.heap.objs.size (Obj.mapSeq (· ++ us.toArray)) = g0
  have z0 : g0.objs.size = s.heap.objs.size + 1 := by rw [← hg0, Heap.size_update, size_push']
  have old : ∀ b o, s.heap.get? b = some o → b ≠ s.heap.objs.size + 1 ∧ (g0.push (seqObj "list" us.toArray 0)).get? b = some o := fun b o e => by
    have lt : b < s.heap.objs.size := Heap.lt_size e
    refine ⟨Nat.ne_of_lt (Nat.lt_succ_of_lt lt), Heap.get?_push_of_some _ ?_⟩
    rw [← hg0, Heap.get?_update_ne _ _ _ _ (Nat.ne_of_lt lt)]; exact Heap.get?_push_of_some _ e
  have at1 : (g0.push (seqObj "list" us.toArray 0)).get? (s.heap.objs.size + 1) = some (seqObj "list" us.toArray 0) := by rw [← z0]; exact Heap.get?_push_size _ rfl
  show wpAny _ _ _ _ _ { s with heap := g0.push (seqObj "list" us.toArray 0) }
  rw [z0]
  refine wpAny_bind (wpAny_holding (wpAny_call_entry slot_list_sort ⟨_, at1, rfl⟩ entry_list_sort (SrtO.list_sort_ord O at1 hz (fun l2 => hS l2 _ _ at1 old) fun out so sb => ⟨_, rfl, wpAny_pure ⟨_, rfl, ?_⟩⟩) (args_list_sort _)))
  have z := h out so sb
  unfold sortedAll at z
  rw [hg0] at z
  exact z
end
section
variable {X : Cx}
def rSortPT (K : PySem.W.Frag) : List V → Hp → VK → Prop := fun vs H Q => ∃ (a : Addr) (xs : List V) (k : V → Int × Int), vs = [V.ref a] ∧ SqT K H a xs ∧ (∀ x ∈ xs, ∃ t, x = V.ref t ∧ H t = some (.tup [.int (k x).1, .int (k x).2])) ∧
  ∀ ys p, SrtO.Srtd (ltP k) ys → SrtO.Stb (ltP k) ys xs → H p = none → Q (.ref p) (upd H p (.lst ys))
theorem cr_sortPT : CallR X (.builtin "sorted") (rSortPT X.K) := by
  rintro pins s σ H vs us Q I r ⟨a, xs, k, rfl, hs, hx, q⟩
  obtain ⟨its, rv, hl, hz⟩ := I.tuple hs
  rw [Vals.ref1 r]
  obtain ⟨e1, e2⟩ := refs_back rv fun x m => let ⟨t, e, _⟩ := hx x m; ⟨t, e⟩
  have pr : ∀ v ∈ its, Srt.IsPair s.heap v (k (backV v)).1 (k (backV v)).2 := fun v hv => by
    obtain ⟨t, rfl⟩ := e2 v hv
    obtain ⟨t', e, ht⟩ := hx _ (show V.ref t ∈ xs by rw [e1]; exact List.mem_map.mpr ⟨_, hv, rfl⟩)
    cases e
    obtain ⟨_, its2, r2, o, ho, hc, n, hd⟩ := I.hok _ _ ht
    obtain ⟨u1, u2, rfl, ⟨t1, rfl⟩, ⟨t2, rfl⟩⟩ := vals2 r2
    exact ⟨t, o, t1, t2, n, rfl, ho, hc, hd⟩
  have lz : its.length ≤ sizeLine := by rw [← rv.length]; exact hz
  refine sortT (SrtO.swo_lex fun u => k (backV u)) hl lz (fun h2 g b hb kk => ?_) fun out so sb => ?_
  · refine SrtO.pairs_sortableO (s := { s with heap := g }) (by omega) (fun v hm => (pr v hm).keeps fun b o e _ => (kk b o e).2) fun o e => ?_
    have e' : some o = some (seqObj "list" its.toArray 0) := e.symm.trans hb
    cases e'
    exact fun c => absurd (Value.type.inj c) (by decide)
  · obtain ⟨n, hn⟩ := sortedAll_at s.heap its out.toArray
    have allr : ∀ u ∈ out, ∃ a, u = Value.ref a := fun u hu => e2 u (sb.perm.mem_iff.mp hu)
    have hb : SrtO.Stb (ltP k) (out.map backV) xs := by rw [e1]; exact SrtO.Stb.map (ltP_swo k) backV sb
    have new := Nat.le_succ s.heap.objs.size
    refine ⟨.ref (s.heap.objs.size + 1), upd H (s.heap.objs.size + 1) (.lst (out.map backV)), I.laid (t' := s.toks) (fun b o e => sortedAll_old e) new ⟨by rw [hb.len]; exact hz, out, n, vals_back allr, hn⟩, rfl, q _ _ (SrtO.srtd_map so) hb (I.hok.fresh new)⟩
end
end My

set_option maxHeartbeats 4000000
/-! sorted(t), t a tuple of ints. -/
namespace My
open PySem PySem.Spec PyProof.Rows L2 Builtin
section
variable {X : Cx}
def rSortIT (K : PySem.W.Frag) : List V → Hp → VK → Prop := fun vs H Q => ∃ (a : Addr) (ns : List Int), vs = [V.ref a] ∧ SqT K H a (ns.map V.int) ∧
  ∀ (ns' : List Int) (p : Addr), ns'.Perm ns → ns'.Pairwise (· ≤ ·) → H p = none → Q (.ref p) (upd H p (.lst (ns'.map V.int)))
theorem cr_sortIT : CallR X (.builtin "sorted") (rSortIT X.K) := by
  rintro pins s σ H vs us Q I r ⟨a, ns, rfl, hs, q⟩
  obtain ⟨its, rv, hl, hz⟩ := I.tuple hs
  rw [Vals.ref1 r]
  have hi := rv.ints
  have lz : its.length ≤ sizeLine := by rw [← rv.length]; exact hz
  refine sortT SrtO.swo_int hl lz (fun h2 g b hb kk => SrtO.ints_sortable hi h2) fun out so sb => ?_
  obtain ⟨k1, k2, k3⟩ := SrtO.ints_out hi so sb
  obtain ⟨n, hn⟩ := sortedAll_at s.heap its out.toArray
  have hlen : ((out.map SrtO.iv).map V.int).length ≤ sizeLine := by
    rw [List.length_map, k2.length_eq]
    rw [List.length_map] at hz
    exact hz
  exact ⟨.ref _, upd H (s.heap.objs.size + 1) (.lst ((out.map SrtO.iv).map V.int)), I.laid (t' := s.toks) (fun _ _ => sortedAll_old) (Nat.le_succ _) ⟨hlen, out, n, vals_of_ints k1, hn⟩, rfl, q _ _ k2 k3 (I.hok.fresh (Nat.le_succ _))⟩
end
end My

set_option maxHeartbeats 4000000
/-! set(xs), xs a list of ints: the set that sorted takes. -/
namespace My
open PySem PySem.Spec PyProof.Rows L2
section
variable {P : Program} {w : World} {A : Around} {E : Value → Shared → Prop} {s : Shared}
/-- what the set's making leaves -/
def Grown (w : World) (s : Shared) (ns : List Int) (s' : Shared) : Prop := ∃ (h' : Heap) (tk c : Nat), s' = { s with heap := h', toks := tk } ∧ SetR w h' s.heap.objs.size (fun j => decide (j ∈ ns)) c ∧ c ≤ ns.length ∧ ∀ b o, s.heap.get? b = some o → h'.get? b = some o
abbrev newS (w : World) : Obj := { cls := .type "set", dict := none, data := .set #[] 0 (.fresh 0 0 (!w.params.followText "set-order")) }
set_option maxRecDepth 100000 in
set_option maxHeartbeats 3200000 in
theorem set_list {l : Addr} {items : Array Value} (ns : List Int) {Q : Value → Shared → Prop} (calm : A.handled = none) (hl : s.heap.IsList l items) (hit : IntsAre items.toList ns) (hb : ns.length + 1 < scanBound)
    (q : ∀ s', Grown w s ns s' → Q (.ref s.heap.objs.size) s') : wpAny (model P w) A (call (.type "set") [.ref l]) Q E s := by
  have many : items.size = ns.length := by rw [← Array.length_toList, IntsAre.length hit]
  obtain ⟨c, tl, hmro⟩ := F.called_set.mro
  have hmade := F.called_set.made
  have hsub := F.called_set.sub
  have hno := F.called_set.notType
  have hcan := F.called_set.canCreate
  have hty := F.typeCall_set_1 (.ref l)
  refine wpAny_call (codeAny_of_tree ?_)
  show wpAny _ _ (callAny (.type "set") _) _ _ _
  refine wpAny_pure ⟨Code.quiet_builtin _ (by decide +kernel), codeAny_builtin F.entry_type_call ?_⟩
  rw [Around.under_plain (weight_type_call_type "set" [.ref l] []) rfl]
  repeat (any_goals (first | assumption | wp_step))
  refine codeAny_mono (code_set_led1 (.ref l) (E := E) (Q₁ := fun obj s₁ => obj = .ref s.heap.objs.size ∧ s₁ = { s with heap := s.heap.push (newS w) }) ⟨rfl, rfl⟩) fun r s₁ hr => ?_
  rcases r with e | fl
  · exact hr
  cases fl with
  | next => exact hr.elim
  | brk => exact hr.elim
  | cont => exact hr.elim
  | ret obj =>
  obtain ⟨rfl, rfl⟩ := hr
  have hS : (s.heap.push (newS w)).get? s.heap.objs.size = some (newS w) := Heap.get?_push_size _ rfl
  have hT : Shared.TypeIs { s with heap := s.heap.push (newS w) } (.ref s.heap.objs.size) "set" := ⟨_, hS, rfl⟩
  have hli := F.called_set.init.lookup
  have hbi := F.called_set.init.bind (.ref s.heap.objs.size)
  repeat (any_goals (first | assumption | wp_step))
  refine codeAny_mono (codeAny_call_builtin (R := wants (fun r s₂ => r = .none ∧ Grown w s ns s₂) E) F.called_set.init.plain F.entry_set_init (check_set_init_1 hT ?_)) fun r₂ s₂ hr₂ => ?_
  rotate_left 1
  · rcases r₂ with e | fl₂
    · exact hr₂
    cases fl₂ with
    | next => exact hr₂.elim
    | brk => exact hr₂.elim
    | cont => exact hr₂.elim
    | ret r =>
    obtain ⟨rfl, G⟩ := hr₂
    have z := q _ G
    obtain ⟨h', tk, c', rfl, _⟩ := G
    repeat (any_goals (first | assumption | wp_step))
  obtain ⟨⟨ocls, odict, odata, oslots⟩, hol, hcl, nl, hdl⟩ := hl
  simp only at hcl hdl
  subst hcl; subst hdl
  have lS : l < s.heap.objs.size := Heap.lt_size hol
  have hol' : (s.heap.push (newS w)).get? l = some { cls := .type "list", dict := odict, data := .seq items nl, slots := oslots } := Heap.get?_push_of_some _ hol
  have sub1 := F.sub_list_set
  have sub2 := F.sub_list_frozenset
  have notD : (Value.type "list" == Value.type "dict") = false := by decide
  have hl1 : (s.heap.push (newS w)).IsList l items := ⟨_, hol', rfl, nl, rfl⟩
  have zI : (s.heap.push (newS w)).objs.size = s.heap.objs.size + 1 := Heap.size_push ..
  unfold Builtin.«set.__init__» noKeywords Builtin.Frozenset.updateFrom
  generalize hPI : pyIter = PI
  wp_walk
  subst hPI
  refine wpAny_pyIter_list hl1 (wpAny_bind (wpAny_runValue ?_))
  have h3 : A.in1.in1.in1.handled = none := by simp [calm]
  have offI : l ≠ (s.heap.push (newS w)).objs.size := by rw [zI]; exact Nat.ne_of_lt (Nat.lt_succ_of_lt lS)
  have offS : s.heap.objs.size ∉ [(s.heap.push (newS w)).objs.size, l] := by
    rw [zI]
    simp only [List.mem_cons, List.mem_singleton, List.not_mem_nil, or_false, not_or]
    exact ⟨Nat.ne_of_lt (Nat.lt_succ_self _), Nat.ne_of_gt lS⟩
  have val : ∀ (i : Nat) (v : Value), items[i]? = some v → ∃ k t, ns[i]? = some k ∧ v = .int k t := fun i v hv => by
    have hi : i < ns.length := by rw [← many]; exact (Array.getElem?_eq_some_iff.mp hv).1
    obtain ⟨t, e⟩ := PyProof.Rows.IntsAre.int_at hit i v (by rw [Array.getElem?_toList]; exact hv)
    refine ⟨ns[i], t, List.getElem?_eq_getElem hi, ?_⟩
    rw [e, List.getD_eq_getElem?_getD, List.getElem?_eq_getElem hi]
    rfl
  refine set_update_ints ((Walks.list h3 _ l offI items).toS) s.heap.objs.size offS ns many hb val (items.size - 0) 0 _ (by omega) (Nat.zero_le _) ⟨⟨_, Heap.get?_push_size _ rfl, rfl, rfl⟩, (hl1.push _)⟩ ⟨0, Nat.le_refl 0, setR_new_at (Heap.get?_push_of_some _ hS)⟩ fun s' c' hm hc' hS' => ?_
  obtain ⟨h', g2, d', tk', os'⟩ := s'
  obtain rfl : g2 = s.gens := hm.gens
  obtain rfl : d' = s.drawn := hm.drawn
  obtain rfl : os' = s.os := hm.os
  refine wpAny_pure (wpAny_pure ⟨rfl, h', tk', c', rfl, hS', by omega, fun b o e => ?_⟩)
  have hb0 : b < s.heap.objs.size := Heap.lt_size e
  exact hm.heap b o (by rw [zI]; simp only [List.mem_cons, List.mem_singleton, List.not_mem_nil, or_false, not_or]; exact ⟨Nat.ne_of_lt hb0, Nat.ne_of_lt (Nat.lt_succ_of_lt hb0)⟩) (Heap.get?_push_of_some _ (Heap.get?_push_of_some _ e))
end
section
variable {X : Cx}
def rSetLI (K : PySem.W.Frag) (w : World) : List V → Hp → VK → Prop := fun vs H Q => ∃ (a : Addr) (ns : List Int), vs = [V.ref a] ∧ SqL K H a (ns.map V.int) ∧ ns.length + 1 < scanBound ∧ ∀ p c, c ≤ ns.length → H p = none → Q (.ref p) (upd H p (SetO w p (fun j => decide (j ∈ ns)) c))
theorem cr_setLI (hc : X.calm = true) : CallR X (.type "set") (rSetLI X.K X.w) := by
  rintro pins s σ H vs us Q I r ⟨a, ns, rfl, hs, hb, q⟩
  obtain ⟨its, rv, hl, _⟩ := I.list hs
  rw [Vals.ref1 r]
  refine set_list ns (I.ok.hd hc) hl.isList (by simpa using rv.ints) hb fun s' ⟨h', tk, c, e, R, lc, old⟩ => ?_
  subst e
  exact ⟨.ref _, upd H s.heap.objs.size (SetO X.w s.heap.objs.size (fun j => decide (j ∈ ns)) c), I.laid (t' := tk) old (Nat.le_refl _) (setO_new R), rfl, q _ c lc (I.hok.fresh (Nat.le_refl _))⟩
end
end My

set_option maxHeartbeats 4000000
/-! for i, x in enumerate(t), t a tuple. -/
namespace My
open PySem PySem.Spec PyProof.Rows L2
def itO (t : Addr) : Obj := { cls := .type "tuple_iterator", data := .fields #[.ref t, .int 0 0] }
def enO (i : Addr) : Obj := { cls := .type "enumerate", data := .fields #[.none, .bool false, .ref i, rawInt 0, .none, .none] }
theorem mk_en (t : Addr) (its : Array Value) :
    Meets (Builtin.«enumerate.__new__» ⟨[.type "enumerate", .ref t], []⟩) (fun _ R s => s.heap.IsTuple t its ∧ R (.ok (.ret (.ref (s.heap.push (itO t)).objs.size))) { s with heap := (s.heap.push (itO t)).push (enO s.heap.objs.size) }) :=
  .of_wp fun prog w A R s h => by
    obtain ⟨hp, gs, dr, tk, os⟩ := s; obtain ⟨ht, h⟩ := h
    have hsub := sub_enumerate
    have go : ∀ {A' : Around} {E : Value → Shared → Prop} {Q : Value → Shared → Prop}, Q (.ref hp.objs.size) ⟨hp.push (itO t), gs, dr, tk, os⟩ → wpAny (model prog w) A' (pyIter (.ref t)) Q E ⟨hp, gs, dr, tk, os⟩ :=
      fun q => wpAny_pyIter_tuple (s := ⟨hp, gs, dr, tk, os⟩) ht q
    wp_walk using go
    refine wpAny_stack_any fun st => wpAny_pure ?_
    split
    · rename_i c _ _ _ _ _
      cases (c == Value.type "enumerate") <;> (wp_walk using go; exact ⟨_, rfl, h⟩)
    · wp_walk using go; exact ⟨_, rfl, h⟩
section
variable {prog : Program} {w : World} {A : Around} {E : Value → Shared → Prop} {s : Shared}
theorem call_en {t : Addr} {its : Array Value} {Q : Value → Shared → Prop} (ht : s.heap.IsTuple t its)
    (h : ∀ g, IsEnum g (s.heap.objs.size + 1) s.heap.objs.size 0 .none → g.IsTupleIter s.heap.objs.size t 0 → (∀ b o, s.heap.get? b = some o → g.get? b = some o) → Q (.ref (s.heap.objs.size + 1)) { s with heap := g }) :
    wpAny (model prog w) A (call (.type "enumerate") [.ref t]) Q E s := by
  refine callType_new F.called_enumerate (by decide) (F.typeCall_enumerate_1 _) (F.newCall_enumerate_1 _) (fun obj => F.args_object_init_2 obj _) F.entry_enumerate_new (mk_en t its) ⟨ht, ?_⟩
  have z1 : (s.heap.push (itO t)).objs.size = s.heap.objs.size + 1 := Heap.size_push ..
  have e1 : IsEnum ((s.heap.push (itO t)).push (enO s.heap.objs.size)) (s.heap.objs.size + 1) s.heap.objs.size 0 .none := by
    have q := Heap.get?_push_size (s.heap.push (itO t)) (o := enO s.heap.objs.size) rfl
    rw [z1] at q
    exact q
  show _ ∧ _
  rw [z1]
  exact ⟨⟨_, e1, rfl⟩, h _ e1 ⟨_, Heap.get?_push_of_some _ (Heap.get?_push_size _ rfl), rfl, rfl⟩ fun b o x => Heap.get?_push_of_some _ (Heap.get?_push_of_some _ x)⟩
end
/-- a tuple's items, each in a new pair -/
def IteT (K : PySem.W.Frag) (a : Addr) : It :=
  ⟨fun i H => ∃ (xs : List V) (x : V), SqT K H a xs ∧ xs[i]? = some x, fun i H v H' => ∃ T x, v = .ref T ∧ H T = none ∧ H' = upd H T (.tup [.int (i : Nat), x]) ∧ ∀ xs, SqT K H a xs → xs[i]? = some x, fun i H => ∃ xs : List V, SqT K H a xs ∧ xs.length ≤ i⟩
theorem turn_en {P : Program} {w : World} {K : PySem.W.Frag} {elts : List Expr} {kk : Nat} {tpos : Pos} (a e it : Addr) :
    Turn P w K (.Tuple elts kk tpos) (IteT K a) [e, it] e (fun i h => (∃ old, IsEnum h e it ((i : Nat) : Int) old) ∧ h.IsTupleIter it a i ∧ e ≠ it) where
  mem := List.mem_cons_self
  obj := fun i h ⟨⟨old, he⟩, ⟨o, ho, hc, hd⟩, _⟩ b hb => by
    rcases List.mem_cons.mp hb with rfl | hb
    · exact ⟨_, he, fun v q => nomatch q⟩
    · rw [List.mem_singleton.mp hb]
      exact ⟨o, ho, fun v q => by rw [hd] at q; cases q⟩
  keep := fun i h h' ⟨⟨old, he⟩, ⟨o, ho, r⟩, ne⟩ k => ⟨⟨old, k e List.mem_cons_self _ he⟩, ⟨o, k it (by simp) _ ho, r⟩, ne⟩
  item := by
    rintro X rfl rfl rfl hc i pins s σ H E I hf ⟨⟨old, he⟩, hit, ne⟩ ⟨xs, x, hq, hx⟩
    obtain ⟨its, rv, pt, hz⟩ := I.tuple hq
    obtain ⟨u, hu, ru⟩ := rv.get hx
    have le : e < s.heap.objs.size := Heap.lt_size he
    have li : it < s.heap.objs.size := by obtain ⟨_, q, _⟩ := hit; exact Heap.lt_size q
    have na : a ≠ it := fun z => by
      obtain ⟨o1, h1, c1, _⟩ := hit
      obtain ⟨o2, h2, c2, _⟩ := pt
      rw [z, h1] at h2
      cases h2
      rw [c1] at c2
      exact absurd (Value.type.inj c2) (by decide)
    have nea : e ∉ [it, a] := fun z => by
      rcases List.mem_cons.mp z with z | z
      · exact ne z
      · obtain ⟨o2, h2, c2, _⟩ := pt
        rw [← List.mem_singleton.mp z] at h2
        rw [show s.heap.get? e = _ from he] at h2
        cases h2
        exact absurd (Value.type.inj c2) (by decide)
    have il : i < its.toArray.size := by
      have := (List.getElem?_eq_some_iff.mp hu).1
      simpa using this
    refine wpAny_pyNext_enum_itemC (Draws.tuple (prog := X.prog) (w := X.w) (A := X.A.in1) (by simp [I.ok.hd hc]) it a na its.toArray) he ⟨hit, pt⟩ il ne nea fun y g tk hy ho st hT hsz hk => ?_
    obtain rfl : y = u := by
      have hy2 : its[i]? = some y := by simpa using hy
      rw [hu] at hy2
      exact (Option.some.inj hy2).symm
    refine ⟨_, rfl, wpAny_letOwnedTupleGo_enum (s := { s with heap := g, toks := tk + 1 }) ho fun g2 he2 sb => ?_⟩
    have hT2 : g2.get? s.heap.objs.size = some { cls := .type "tuple", data := .seq #[.int i tk, y] } := (sb.2 _ (Nat.ne_of_gt le)).trans hT
    have okT : ObjOk X.prog X.w (upd H s.heap.objs.size (.tup [.int (i : Nat), x])) g2 s.heap.objs.size (.tup [.int (i : Nat), x]) :=
      ⟨(by decide : 2 ≤ sizeLine), [.int i tk, y], .cons ⟨_, rfl⟩ (.cons ru .nil), ⟨_, hT2, rfl, _, rfl⟩⟩
    have nmem : ∀ b, b ∉ [e, it] → b ≠ e ∧ b ≠ it := fun b hb => ⟨fun z => hb (by simp [z]), fun z => hb (by simp [z])⟩
    have I1 : Inv X pins σ (upd H s.heap.objs.size (.tup [.int (i : Nat), x])) { s with heap := g2, toks := tk + 1 } :=
      I.turnedNew (ch := [e, it]) (fun b ob hb q => (sb.2 b (nmem b hb).1).trans (hk b ob (nmem b hb).1 (nmem b hb).2 q)) hf (Nat.le_refl _) okT
    have nx : ((i + 1 : Nat) : Int) = (i : Int) + 1 := by omega
    refine ⟨.ref s.heap.objs.size, _, I1, rfl, ⟨_, x, rfl, I.hok.fresh (Nat.le_refl _), rfl, fun ys hy => by rw [I.tuple_inj hy hq]; exact hx⟩, ⟨⟨y, by rw [nx]; exact he2⟩, ?_, ne⟩, fun b hb => ?_⟩
    · obtain ⟨o, q, r⟩ := st.1
      exact ⟨o, (sb.2 it (Ne.symm ne)).trans q, r⟩
    · have hb' : b < s.heap.objs.size := by
        rcases List.mem_cons.mp hb with rfl | hb
        · exact le
        · rw [List.mem_singleton.mp hb]; exact li
      rw [upd_ne (Nat.ne_of_lt hb')]
      exact (hf b hb).1
  done := by
    rintro X rfl rfl rfl hc i pins s σ H E I hf ⟨⟨old, he⟩, hit, ne⟩ ⟨xs, hq, hx⟩
    obtain ⟨its, rv, pt, hz⟩ := I.tuple hq
    have na : a ≠ it := fun z => by
      obtain ⟨o1, h1, c1, _⟩ := hit
      obtain ⟨o2, h2, c2, _⟩ := pt
      rw [z, h1] at h2
      cases h2
      rw [c1] at c2
      exact absurd (Value.type.inj c2) (by decide)
    obtain ⟨f0, f1, f2, f3, f4, f5⟩ := hf it (by simp)
    have none' : its.toArray[i]? = none := by
      rw [List.getElem?_toArray, List.getElem?_eq_none (by rw [← rv.length]; exact hx)]
    have D : Draws X.prog X.w X.A.in1 it [it, a] 0 (fun _ _ => True) (fun k h => h.IsTupleIter it a (i + k) ∧ h.IsTuple a its.toArray) :=
      { live := fun _ _ st => let ⟨o, ho, _⟩ := st.1; ⟨o, ho⟩
        frame := fun _ _ _ st hk => ⟨let ⟨o, ho, r⟩ := st.1; ⟨o, hk it (by simp) _ ho, r⟩, let ⟨o, ho, r⟩ := st.2; ⟨o, hk a (by simp) _ ho, r⟩⟩
        item := fun _ _ _ _ z => absurd z (Nat.not_lt_zero _)
        done := fun s Q E st hE => wpAny_nextOf_tuple_end (by simp [I.ok.hd hc]) st.1 st.2 none' hE }
    exact wpAny_pyNext_enum_endD D he ⟨hit, pt⟩ fun g eb => ⟨rfl, I.turned (t' := s.toks) (fun b o hb q => eb b o hb q) f0 f1 f3 f4 f5⟩
  self := fun A i s Q E ⟨⟨_, he⟩, _⟩ h => wpAny_pyIter_enum he h
def iEnT (K : PySem.W.Frag) (ta : TA) : TI := fun σ H R => ta σ H fun vs H1 => ∃ a xs, vs = [.ref a] ∧ SqT K H1 a xs ∧ R (IteT K a) H1
theorem pi_enT {X : Cx} {e : Expr} {ta : TA} {p pos tpos : Pos} {elts : List Expr} {kk : Nat} (hg : Gl X "enumerate") (hm : X.mg "enumerate" = none) (ha : PA X [e] ta) (hs : starEach [e] X.env = [(false, eval e X.env)] := by rfl) :
    PI X (.Tuple elts kk tpos) (.Call (.Name "enumerate" p) [e] [] pos) (iEnT X.K ta) := by
  refine ⟨fun pins s σ H R I h => Call_ (ld_blt I hg hm boot_enumerate (PyProof.Rows.callWith_type1 (thn (ha.run pos pins s σ H _ I h) ?_) hs rfl))⟩
  rintro us s1 ⟨vs, H1, I1, r1, a, xs, rfl, hq, q⟩
  rw [Vals.ref1 r1]
  obtain ⟨its, rv, pt, hz⟩ := I1.tuple hq
  refine call_en (its := its.toArray) pt fun g he hit hk => wpAny_pyIter_enum he ?_
  have I2 : L2.Inv X pins σ H1 { s1 with heap := g } := I1.kept (t' := s1.toks) hk
  refine ⟨s1.heap.objs.size + 1, [s1.heap.objs.size + 1, s1.heap.objs.size], _, _, H1, rfl, I2, turn_en a (s1.heap.objs.size + 1) s1.heap.objs.size, ⟨⟨.none, he⟩, hit, Nat.succ_ne_self _⟩, fun b hb => ?_, q⟩
  have above : s1.heap.objs.size ≤ b := by
    rcases List.mem_cons.mp hb with rfl | hb
    · exact Nat.le_succ _
    · rw [List.mem_singleton.mp hb]; exact Nat.le_refl _
  exact I1.fpOk above (I1.hok.fresh above)
theorem walk_enT {K : PySem.W.Frag} {a : Addr} {xs : List V} : Walk (IteT K a) xs.length (fun H => SqT K H a xs) (YPair (fun i => some (.int (i : Nat))) (fun i => xs[i]?)) :=
  ⟨fun i _ hi q => ⟨xs, xs[i], q, by simp [hi]⟩, fun _ q => ⟨xs, q, Nat.le_refl _⟩, fun i H v H' _ q ⟨T, x, h1, h2, h3, h4⟩ => ⟨T, .int (i : Nat), x, h1, h2, h3, rfl, h4 xs q⟩⟩
end My

set_option maxHeartbeats 4000000
/-! tuple * n for n from 0 on. -/
namespace My
open PySem PySem.Spec PyProof.Rows L2
theorem tuple_mul0 (l : Addr) (items : Array Value) (n : Nat) (dd : Option Addr) (sl : Array (Option Value)) (u : Tok) (c1 : (items.isEmpty || (0 : Int) == 1) = false) :
    Meets (Builtin.«tuple.__mul__» ⟨[.ref l, .int 0 u], []⟩) (fun _ R s => s.heap.get? l = some { cls := .type "tuple", dict := dd, data := .seq items n, slots := sl } ∧
      R (.ok (.ret (Value.ref s.heap.objs.size))) { s with heap := s.heap.push { cls := Value.type "tuple", data := Data.seq #[] }, toks := s.toks }) :=
  .of_wp fun prog w A R s h => by
    obtain ⟨hp, g, d, tk, os⟩ := s
    obtain ⟨hl, h⟩ := h
    have f1 := AutoSeq1.idx_int
    wp_walk using wpAny_loadPart' hl
    repeat (first
      | (refine wpAny_ite_false (decide_eq_false (by rw [c1]; exact Bool.false_ne_true)) ?_; wp_walk using wpAny_loadPart' hl))
    exact ⟨_, rfl, h⟩
theorem tuple_mul1 (l : Addr) (items : Array Value) (n : Nat) (dd : Option Addr) (sl : Array (Option Value)) (u : Tok) :
    Meets (Builtin.«tuple.__mul__» ⟨[.ref l, .int 1 u], []⟩) (fun _ R s => s.heap.get? l = some { cls := .type "tuple", dict := dd, data := .seq items n, slots := sl } ∧
      R (.ok (.ret (Value.ref l))) s) :=
  .of_wp fun prog w A R s h => by
    obtain ⟨hp, g, d, tk, os⟩ := s
    obtain ⟨hl, h⟩ := h
    have f1 := AutoSeq1.idx_int
    have c1 : (items.isEmpty || (1 : Int) == 1) = true := by rw [Bool.or_eq_true]; exact .inr rfl
    wp_walk using wpAny_loadPart' hl
    repeat (first
      | (refine wpAny_ite_true (decide_eq_true c1) ?_; wp_walk using wpAny_loadPart' hl))
    exact ⟨_, rfl, h⟩
def rRepTN (K : PySem.W.Frag) : R2 := fun x y H Q => ∃ l n xs, x = .ref l ∧ y = .int ((n : Nat) : Int) ∧ SqT K H l xs ∧ xs ≠ [] ∧ n ≤ 1000 ∧ xs.length ≤ 1000 ∧ ∀ p H', Same H H' → SqT K H' p (List.replicate n xs).flatten → Q (.ref p) H'
section
variable {X : Cx}
theorem op_repTN : OpR X (binaryOp .Mult) (rRepTN X.K) := by
  intro pins s σ H x y v u Q I rx ry h
  obtain ⟨l, n, xs, rfl, rfl, hT, hne, h2, hz, q⟩ := h
  by_cases n2 : 2 ≤ n
  · refine op_repT pins s σ H _ _ v u Q I rx ry ⟨l, (n : Int), xs, rfl, rfl, hT, hne, by omega, by omega, hz, fun p np => ?_⟩
    rw [Int.toNat_natCast]
    exact q p _ (same_new np _) (SqT.of upd_same)
  cases rx
  obtain ⟨t, rfl⟩ := ry
  obtain ⟨its, r, ⟨⟨cls, dd, data, sl⟩, ho, hc, m, hd⟩, hs⟩ := I.tuple hT
  simp only at hc hd
  subst hc hd
  have hle : its.length = xs.length := r.length.symm
  have hn : its ≠ [] := fun e => hne (by
    rw [e] at hle
    exact List.eq_nil_of_length_eq_zero hle.symm)
  have hi : its.toArray.isEmpty = false := by
    cases its with
    | nil => exact absurd rfl hn
    | cons a b => rfl
  have hw := fun (k : Int) => @wpAny_binaryOp_repeat_ref (T := "tuple") (U := "int")
  obtain rfl | rfl : n = 0 ∨ n = 1 := by omega
  · refine wpAny_binaryOp_repeat_ref (T := "tuple") (U := "int") (by decide) ⟨_, ho, rfl⟩ (fun s' => typeIs_int s' _ t) noFill_tuple_mul F.fills_int_mul F.slot_int_rmul repeat_tuple F.slot_int_index.lookup
      (call_meets F.slot_int_rmul (typeIs_int s _ t) F.entry_int_rmul (F.args_int_rmul_2 _ _) (int_rmul_tuple _ t l its.toArray m dd sl)
        ⟨ho, rfl, ⟨_, ho, rfl⟩, call_meets F.slot_tuple_mul ⟨_, ho, rfl⟩ F.entry_tuple_mul (F.args_tuple_mul_2 _ _) (tuple_mul0 l its.toArray m dd sl t (by rw [hi]; rfl)) ⟨ho, ?_⟩⟩)
    refine ⟨.ref s.heap.objs.size, _, I.laid (t' := s.toks) (o := .tup []) (fun b ob q => Heap.get?_push_of_some _ q) (Nat.le_refl _) ?_, rfl, q _ _ (same_new (I.hok.fresh (Nat.le_refl _)) _) (SqT.of upd_same)⟩
    exact ⟨by decide, _, .nil, IsTup.new _ _⟩
  · refine wpAny_binaryOp_repeat_ref (T := "tuple") (U := "int") (by decide) ⟨_, ho, rfl⟩ (fun s' => typeIs_int s' _ t) noFill_tuple_mul F.fills_int_mul F.slot_int_rmul repeat_tuple F.slot_int_index.lookup
      (call_meets F.slot_int_rmul (typeIs_int s _ t) F.entry_int_rmul (F.args_int_rmul_2 _ _) (int_rmul_tuple _ t l its.toArray m dd sl)
        ⟨ho, rfl, ⟨_, ho, rfl⟩, call_meets F.slot_tuple_mul ⟨_, ho, rfl⟩ F.entry_tuple_mul (F.args_tuple_mul_2 _ _) (tuple_mul1 l its.toArray m dd sl t) ⟨ho, ?_⟩⟩)
    refine ⟨.ref l, H, I, rfl, q _ _ (Same.refl _) ?_⟩
    rw [List.replicate_one, List.flatten_singleton]
    exact hT
end
end My

set_option maxHeartbeats 8000000
namespace My
open PySem PySem.Spec PyProof.Rows L2
abbrev sStable : Stmt := top 19
abbrev sColsIn : Stmt := top 38
abbrev sEdgesW : Stmt := top 39
theorem scStable : FnScope ["graph"] ["graph"] (defScope sStable) := ⟨rfl, rfl, rfl, by decide +kernel, rfl, by decide +kernel, by decide +kernel⟩
theorem scColsIn : FnScope ["lists", "row", "colour"] ["lists"] (defScope sColsIn) := ⟨rfl, rfl, rfl, by decide +kernel, rfl, by decide +kernel, by decide +kernel⟩
theorem scEdgesW : FnScope ["colour", "lists", "edge", "row"] ["colour", "lists"] (defScope sEdgesW) := ⟨rfl, rfl, rfl, by decide +kernel, rfl, by decide +kernel, by decide +kernel⟩
theorem lost_adj {n : Nat} {es : List E2} {u v : Nat} (hu : u < n) (hv : v < n) (ne : u ≠ v) : adjB (leftP n es) u v = !adjB es u v := by
  have h : (min u v, max u v) ∈ allP n := mem_allP.mpr (by dsimp only; omega)
  unfold adjB leftP
  rw [Bool.eq_iff_iff, decide_eq_true_eq, List.mem_filter]
  simp [h]
theorem line_adj {es : List E2} {u v : Nat} (hu : u < es.length) (hv : v < es.length) (ne : u ≠ v) : adjB (lineP es) u v = meetB es u v := by
  have h : (min u v, max u v) ∈ allP es.length := mem_allP.mpr (by dsimp only; omega)
  have e : meetB es (min u v) (max u v) = meetB es u v := by
    rcases Nat.le_total u v with le | le
    · rw [Nat.min_eq_left le, Nat.max_eq_right le]
    · rw [Nat.min_eq_right le, Nat.max_eq_left le, meet_comm]
  unfold adjB lineP
  rw [Bool.eq_iff_iff, decide_eq_true_eq, List.mem_filter]
  simp only [h, true_and]
  rw [e]
/-- the matchings -/
def Mats (es : List E2) (found : List Nat) : Prop := ∀ m, m ∈ found ↔ m < 2 ^ es.length ∧ ∀ i j, i ≠ j → m.testBit i = true → m.testBit j = true → meetB es i j = false
theorem mats_of {es : List E2} {found : List Nat} (h : FoundOk (leftP es.length (lineP es)) es.length found) : Mats es found := fun m => by
  rw [h.2 m]
  refine and_congr_right fun lt => ⟨fun c i j ne bi bj => ?_, fun c i j bi bj ne => ?_⟩
  · have hi := bit_lt lt bi
    have hj := bit_lt lt bj
    have z := c i j bi bj ne
    rw [lost_adj hi hj ne, line_adj hi hj ne] at z
    simpa using z
  · have hi := bit_lt lt bi
    have hj := bit_lt lt bj
    rw [lost_adj hi hj ne, line_adj hi hj ne, c i j ne bi bj]
    rfl
def RowsAt (K : PySem.W.Frag) (H : Hp) (y : V) (LL : List (List Nat)) : Prop := ∃ (t : Addr) (xs : List V), y = .ref t ∧ SqT K H t xs ∧ xs.length = LL.length ∧ ∀ (i : Nat) (row : List Nat), LL[i]? = some row → ∃ u : Addr, xs[i]? = some (V.ref u) ∧ SqT K H u (numsN row)
theorem in_num (k : Nat) (l : List Nat) : inV (V.int (k : Int)) (numsN l) = decide (k ∈ l) := by
  rw [inV_num, Bool.eq_iff_iff, List.any_eq_true, decide_eq_true_eq]
  constructor
  · rintro ⟨a, ha, e⟩
    have e' := beq_iff_eq.mp e
    have : a = k := by omega
    exact this ▸ ha
  · intro h
    exact ⟨k, h, beq_self_eq_true _⟩
theorem RowsAt.same {K : PySem.W.Frag} {H H' : Hp} (s : Same H H') {y : V} {LL : List (List Nat)} (h : RowsAt K H y LL) : RowsAt K H' y LL := by
  obtain ⟨t, xs, e, ht, l, g⟩ := h
  exact ⟨t, xs, e, Same.tup s ht, l, fun i row hr => (g i row hr).imp fun u z => ⟨z.1, Same.tup s z.2⟩⟩
def spStable (K : PySem.W.Frag) : Sp := fun vs H Q _ => ∃ (x : V) (es : List E2), vs = [x] ∧ GraphAt K H x es.length (lineP es) ∧ es.length ≤ 9 ∧ ∀ (F : Addr) (found : List Nat) H', Same H H' → H' F = some (.lst (numsN found)) → Mats es found → found.length ≤ 512 → Q (.ref F) H'
def spColsIn (K : PySem.W.Frag) : Sp := fun vs H Q _ => ∃ (y : V) (LL : List (List Nat)), vs = [y] ∧ RowsAt K H y LL ∧ LL.flatten.length < 64 ∧ ∀ (F : Addr) (C : List Nat) H', Same H H' → H' F = some (.lst (numsN C)) → C.Pairwise (· < ·) → (∀ c, c ∈ C ↔ c ∈ LL.flatten) → Q (.ref F) H'
def spEdgesW (K : PySem.W.Frag) : Sp := fun vs H Q _ => ∃ (k : Nat) (y : V) (LL : List (List Nat)), vs = [.int (k : Int), y] ∧ RowsAt K H y LL ∧ LL.length ≤ 9 ∧ ∀ (F : Addr) H', Same H H' → H' F = some (.lst (numsN ((List.range LL.length).filter fun e => decide (k ∈ LL.getD e [])))) → Q (.ref F) H'
section
variable {P : Program} {w : World} {K : PySem.W.Frag} {mg : Str → Option Value} {base : Heap} {f fC fN fM : Addr} {fd dC dN dM : FuncData}
theorem ok_stable (F : L2.Fun K "stable_masks" "stable_masks" sStable f fd)
    (GC : FnOk P w K mg base CX0 6 fC dC ["graph"] (spComplement K)) (bC : L2.Binds K dC ["graph"] []) (kC : PySem.W.keepIn K (.ref fC) = true) (mC : mg "complement" = some (.ref fC))
    (GN : FnOk P w K mg base CX0 1 fN dN ["graph"] (spMasks K)) (bN : L2.Binds K dN ["graph"] []) (kN : PySem.W.keepIn K (.ref fN) = true) (mN : mg "neighbour_masks" = some (.ref fN))
    (GM : FnOk P w K mg base CX0 1 fM dM ["neighbours"] (spCMasks K)) (bM : L2.Binds K dM ["neighbours"] []) (kM : PySem.W.keepIn K (.ref fM) = true) (mM : mg "clique_masks" = some (.ref fM)) : FnOk P w K mg base CX0 7 f fd ["graph"] (spStable K) := by
  refine F.ok scStable (fun vs H Q E h => ?_) (fun cdv A outer s0 H vs Q E hr h => ?_)
  · obtain ⟨x, es, rfl, _⟩ := h
    rfl
  obtain ⟨x, es, rfl, hx, e9, q⟩ := h
  have h1 := hr.mono (show 1 ≤ 6 by decide)
  refine ⟨_, pss_one (ps_ret (pe_call GM h1 (by rfl) mM kM bM .nil pass0 (pa_cons (pe_call GN h1 (by rfl) mN kN bN .nil pass0 (pa_cons (pe_call GC hr (by rfl) mC kC bC .nil pass0 (pa_cons (pv 0) pa_nil)) pa_nil)) pa_nil))), ?_⟩
  have lg : Good es.length (leftP es.length (lineP es)) := Good.filter e9 _
  refine ⟨_, rfl, x, _, _, rfl, hx, line_good e9, fun y H1 s1 hy => ⟨y, _, _, rfl, hy, lg, fun D nb H2 _ s2 hD ok => ⟨D, nb, _, _, rfl, SqL.of hD, ok, e9, fun F found H3 s3 hF fo => ?_⟩⟩⟩
  exact q F found H3 (s1.trans (s2.trans s3)) hF (mats_of fo) (found_few fo (Nat.le_refl _) e9)
theorem ok_colsin (F : L2.Fun K "_colours_in" "_colours_in" sColsIn f fd) (ms : mg "set" = none) (mso : mg "sorted" = none) : FnOk P w K mg base CX0 1 f fd ["lists"] (spColsIn K) := by
  refine F.ok scColsIn (fun vs H Q E h => ?_) (fun cdv A outer s0 H vs Q E hr h => ?_)
  · obtain ⟨y, LL, rfl, _⟩ := h
    rfl
  obtain ⟨y, LL, rfl, ⟨t, xs, rfl, ht, lx, g⟩, few, q⟩ := h
  refine ⟨_, pss_one (ps_ret (pe_callB (cr_sortedSet rfl) (by rfl) mso (by decide +kernel) (pa_cons (pe_callTy (cr_setLI rfl) (by rfl) ms (by decide +kernel) (pa_cons (pe_lc2 (own := [("row", 1), ("colour", 2)]) (vs1 := [2]) (g := gName 1) (g1 := gName 2) (tt := tYes) (tt1 := tYes) (wi1 := iTup K (tVar 1)) (te := tVar 2) rfl scColsIn.nd (pi_tup (pv 0)) (blkOk_by (N := ["lists", "row", "colour"]) (sc := defScope sColsIn) (by decide +kernel)) (by decide)
    (fun _ _ _ _ _ => pg_name (i := 1) scColsIn.nd rfl (Or.inl rfl)) (fun _ _ _ _ _ => pts_nil) (fun _ _ _ _ _ => pi_tup (pv 1)) (fun _ _ _ _ _ => pg_name (i := 2) scColsIn.nd rfl (Or.inl rfl)) (fun _ _ _ _ _ => pts_nil)
    (fun _ _ _ _ _ => pv 2)) pa_nil)) pa_nil))), ?_⟩
  have part : ∀ (i : Nat) (m : List Nat), m <+: (LL[i]?.getD []) → ((LL.take i).flatten ++ m).length < 64 := fun i m hm => by
    have t1 : LL.flatten.length = (LL.take i).flatten.length + (LL.drop i).flatten.length := by rw [← List.length_append, ← List.flatten_append, List.take_append_drop]
    have t2 := hm.length_le
    rw [List.length_append]
    by_cases il : i < LL.length
    · rw [List.getElem?_eq_getElem il] at t2
      rw [List.drop_eq_getElem_cons il, List.flatten_cons, List.length_append] at t1
      have t3 : m.length ≤ LL[i].length := t2
      omega
    · rw [List.getElem?_eq_none (by omega)] at t2
      have t3 : m.length ≤ 0 := t2
      omega
  refine ⟨_, rfl, t, rfl, ⟨_, ht⟩, fun D nD => lo_it (walk_tup (xs := xs)) (fun i H1 => Same H H1 ∧ H1 D = some (.lst (numsN (LL.take i).flatten))) ⟨same_new nD _, upd_same⟩ (fun i H1 _ ⟨s, _⟩ => Same.tup s ht) ?_ ?_⟩
  · rintro i x H1 _ li ⟨s1, hD⟩ ⟨rfl, hi⟩
    have il : i < LL.length := by omega
    obtain ⟨u, hu, hr'⟩ := g i LL[i] (List.getElem?_eq_getElem il)
    rw [hi] at hu
    cases hu
    refine ⟨rfl, ?_⟩
    refine ⟨_, rfl, u, rfl, ⟨_, Same.tup s1 hr'⟩, lo_it (walk_tup (xs := numsN LL[i])) (fun j H1 => Same H H1 ∧ H1 D = some (.lst (numsN ((LL.take i).flatten ++ LL[i].take j)))) ⟨s1, by rw [List.take_zero, List.append_nil]; exact hD⟩ (fun j H1 _ ⟨s, _⟩ => Same.tup s hr') ?_ ?_⟩
    · rintro j z H2 _ lj ⟨s2, hD2⟩ ⟨rfl, hj⟩
      obtain ⟨k, hk, rfl⟩ := numsN_get hj
      refine ⟨rfl, ?_⟩
      refine ⟨_, rfl, _, hD2, small1000 (by rw [numsN_len]; have := part i (LL[i].take j) (by rw [List.getElem?_eq_getElem il]; exact List.take_prefix _ _); omega), same_put s2 nD, ?_⟩
      rw [upd_same, take_succ hk, ← List.append_assoc, numsN_app _ [k]]
      rfl
    · rintro H2 ⟨s2, hD2⟩
      rw [numsN_len, List.take_length] at hD2
      refine ⟨s2, ?_⟩
      rw [hD2, take_succ (List.getElem?_eq_getElem il), List.flatten_append, List.flatten_cons, List.flatten_nil, List.append_nil]
  rintro H1 ⟨s1, hD⟩
  rw [lx, List.take_length] at hD
  have hI : SqL K H1 D ((LL.flatten.map fun k => ((k : Nat) : Int)).map V.int) := by
    have z : SqL K H1 D (numsN LL.flatten) := SqL.of hD
    unfold numsN at z
    rw [List.map_map]
    exact z
  refine ⟨D, _, rfl, hI, by rw [List.length_map]; unfold scanBound; omega, fun S c lc nS => ⟨S, _, c, rfl, upd_same, by rw [List.length_map] at lc; omega, fun ns p up mem ln np => ?_⟩⟩
  have sS := same_new nS (SetO w S (fun j => decide (j ∈ LL.flatten.map fun k => ((k : Nat) : Int))) c)
  have sp := same_new np (.lst (ns.map V.int))
  have nn : ∀ k ∈ ns, ∃ a ∈ LL.flatten, k = ((a : Nat) : Int) := fun k hk => by
    obtain ⟨a, ha, e⟩ := List.mem_map.mp (of_decide_eq_true ((mem k).mp hk))
    exact ⟨a, ha, e.symm⟩
  have ens : ns.map V.int = numsN (ns.map Int.toNat) := by
    unfold numsN
    rw [List.map_map]
    refine List.map_congr_left fun k hk => ?_
    obtain ⟨a, _, rfl⟩ := nn k hk
    show V.int ((a : Nat) : Int) = V.int (((((a : Nat) : Int).toNat : Nat)) : Int)
    rw [Int.toNat_natCast]
  refine q p (ns.map Int.toNat) _ (s1.trans (sS.trans sp)) (by rw [upd_same, ens]) ?_ fun c' => ?_
  · rw [List.pairwise_map]
    refine up.imp_of_mem ?_
    intro a b ha hb lt
    obtain ⟨a', _, rfl⟩ := nn a ha
    obtain ⟨b', _, rfl⟩ := nn b hb
    rw [Int.toNat_natCast, Int.toNat_natCast]
    omega
  · rw [List.mem_map]
    constructor
    · rintro ⟨k, hk, rfl⟩
      obtain ⟨a, ha, rfl⟩ := nn k hk
      rw [Int.toNat_natCast]
      exact ha
    · intro h
      exact ⟨(c' : Int), (mem _).mpr (decide_eq_true (List.mem_map.mpr ⟨c', h, rfl⟩)), Int.toNat_natCast _⟩
theorem ok_edgesw (F : L2.Fun K "_edges_with" "_edges_with" sEdgesW f fd) (me : mg "enumerate" = none) : FnOk P w K mg base CX0 1 f fd ["colour", "lists"] (spEdgesW K) := by
  refine F.ok scEdgesW (fun vs H Q E h => ?_) (fun cdv A outer s0 H vs Q E hr h => ?_)
  · obtain ⟨k, y, LL, rfl, _⟩ := h
    rfl
  obtain ⟨k, y, LL, rfl, ⟨t, xs, rfl, ht, lx, g⟩, l9, q⟩ := h
  refine ⟨_, pss_one (ps_ret (pe_lc (own := [("edge", 2), ("row", 3)]) (g := gTup K 2 (gCons (gName 2) (gCons (gName 3) gNil))) (tt := tTest (tOp (rIn K false) (tVar 0) (tVar 3))) rfl scEdgesW.nd (pi_enT (by rfl) me (pa_cons (pv 1) pa_nil))
        (blkOk_by (N := ["colour", "lists", "edge", "row"]) (sc := defScope sEdgesW) (by decide +kernel)) (fun _ _ _ _ _ => pg_tup (by rfl) (pgs_cons (pg_name (i := 2) scEdgesW.nd rfl (Or.inl rfl)) (pgs_cons (pg_name (i := 3) scEdgesW.nd rfl (Or.inl rfl)) pgs_nil)))
        (fun _ _ _ _ _ => pts_one (pt_cmpR (r := rIn K false) op_in_seq (pv 0) (pv 3) (by rfl))) (fun _ _ _ _ _ => pv 2))), ?_⟩
  refine ⟨_, rfl, t, xs, rfl, ht, fun D nD => lc_it walk_enT (fun i H1 => Same H H1 ∧ H1 D = some (.lst (numsN ((List.range i).filter fun e => decide (k ∈ LL.getD e []))))) ⟨same_new nD _, upd_same⟩ (fun i H1 _ ⟨s, _⟩ => Same.tup s ht) ?_ ?_⟩
  · rintro i x H1 H2 li ⟨s1, hD⟩ ⟨T, y', z', e1, nT, e2, hy, hz⟩
    subst e1
    subst e2
    have il : i < LL.length := by omega
    obtain ⟨u, hu, hr'⟩ := g i LL[i] (List.getElem?_eq_getElem il)
    obtain rfl : y' = V.int ((i : Nat) : Int) := (Option.some.inj hy).symm
    have ez : some z' = some (V.ref u) := hz.symm.trans hu
    cases ez
    have sT := same_new nT (.tup [V.int ((i : Nat) : Int), V.ref u])
    have s02 := s1.trans sT
    have gd : LL.getD i [] = LL[i] := by rw [List.getD_eq_getElem?_getD, List.getElem?_eq_getElem il]; rfl
    refine ⟨T, _, rfl, SqT.of upd_same, rfl, _, _, rfl, _, _, rfl, rfl, rfl, ?_⟩
    refine ⟨_, rfl, _, rfl, u, _, rfl, .inr (Same.tup s02 hr'), rfl, flat_nums _, _, rfl, iteB (fun c => ?_) (fun c => ?_)⟩
    · have c2 : decide (k ∈ LL.getD i []) = true := by
        rw [gd]
        exact (in_num k _).symm.trans (by rw [if_neg (by decide)] at c; exact c)
      refine ⟨_, rfl, _, sT _ _ hD, small1000 (by rw [numsN_len]; have := List.length_filter_le (fun e => decide (k ∈ LL.getD e [])) (List.range i); rw [List.length_range] at this; omega), same_put s02 nD, ?_⟩
      rw [upd_same, List.range_succ, List.filter_append, List.filter_cons_of_pos (p := fun e => decide (k ∈ LL.getD e [])) c2, numsN_app]
      rfl
    · have c2 : decide (k ∈ LL.getD i []) = false := by
        rw [gd]
        exact (in_num k _).symm.trans (by rw [if_neg (by decide)] at c; exact c)
      refine ⟨s02, ?_⟩
      rw [sT _ _ hD, List.range_succ, List.filter_append, List.filter_cons_of_neg (p := fun e => decide (k ∈ LL.getD e [])) (by rw [c2]; decide), List.filter_nil, List.append_nil]
  rintro H1 ⟨s1, hD⟩
  rw [lx] at hD
  exact q D H1 s1 hD
end
end My

set_option maxHeartbeats 8000000
namespace My
open PySem PySem.Spec PyProof.Rows L2
abbrev sListCol : Stmt := top 37
theorem scListCol : FnScope ["multigraph", "lists", "many", "matchings", "ways", "colour", "listed", "fitting", "done", "colours", "mask", "edge"] ["multigraph", "lists"] (defScope sListCol) := ⟨rfl, rfl, rfl, by decide +kernel, rfl, by decide +kernel, by decide +kernel⟩
theorem TS.butK {D : Addr} {H H' : Hp} (b : But D H H') {kvs : List (Key × V)} (hD : H D = some (.dK kvs)) : TS H H' := fun q xs r => by
  rcases r with h | ⟨o, h⟩
  · exact .inl (b q _ (fun z => by rw [z, hD] at h; cases h) h)
  · exact .inr ⟨o, b q _ (fun z => by rw [z, hD] at h; cases h) h⟩
abbrev Way := Nat × List (Option Nat)
inductive WaysK (K : PySem.W.Frag) (H : Hp) : List (Key × V) → List Way → Prop
  | nil : WaysK K H [] []
  | cons {m : Nat} {t : Addr} {cols : List (Option Nat)} {kvs : List (Key × V)} {ents : List Way} : SqT K H t (cols.map optV) → WaysK K H kvs ents → WaysK K H ((.inl (m : Int), .ref t) :: kvs) ((m, cols) :: ents)
theorem WaysK.ts {K : PySem.W.Frag} {H H' : Hp} (e : TS H H') : ∀ {kvs : List (Key × V)} {ents : List Way}, WaysK K H kvs ents → WaysK K H' kvs ents
  | _, _, .nil => .nil
  | _, _, .cons a b => .cons (e.tup a) (WaysK.ts e b)
theorem WaysK.len {K : PySem.W.Frag} {H : Hp} : ∀ {kvs : List (Key × V)} {ents : List Way}, WaysK K H kvs ents → kvs.length = ents.length
  | _, _, .nil => rfl
  | _, _, .cons _ b => congrArg (· + 1) (WaysK.len b)
theorem WaysK.snoc {K : PySem.W.Frag} {H : Hp} {m : Nat} {t : Addr} {cols : List (Option Nat)} : ∀ {kvs : List (Key × V)} {ents : List Way}, WaysK K H kvs ents → SqT K H t (cols.map optV) → WaysK K H (kvs ++ [(.inl (m : Int), .ref t)]) (ents ++ [(m, cols)])
  | _, _, .nil, h => .cons h .nil
  | _, _, .cons a b, h => .cons a (WaysK.snoc b h)
def keys (ents : List Way) : List Nat := ents.map (·.1)
theorem inl_ne {a m : Nat} (h : a ≠ m) : ¬ ((Sum.inl (a : Int) : Key) = Sum.inl (m : Int)) := fun e => by
  injection e with e
  omega
theorem WaysK.has {K : PySem.W.Frag} {H : Hp} (m : Nat) : ∀ {kvs : List (Key × V)} {ents : List Way}, WaysK K H kvs ents → (valV kvs (Sum.inl (m : Int) : Key)).isSome = decide (m ∈ keys ents)
  | _, _, .nil => by simp [keys, valV_nil]
  | _, _, @WaysK.cons _ _ a t cols kvs ents hs r => by
    have ih := WaysK.has m r
    by_cases e : a = m
    · subst e
      rw [valV_pos rfl]
      simp [keys]
    · have z : valV ((Sum.inl (a : Int), V.ref t) :: kvs) (Sum.inl (m : Int) : Key) = valV kvs (Sum.inl (m : Int)) := by
        unfold valV
        rw [List.find?_cons_of_neg (by simpa using inl_ne e)]
      rw [z, ih]
      refine decide_eq_decide.mpr ?_
      simp [keys, Ne.symm e]
theorem WaysK.get {K : PySem.W.Frag} {H : Hp} (m : Nat) {v : V} : ∀ {kvs : List (Key × V)} {ents : List Way}, WaysK K H kvs ents → valV kvs (Sum.inl (m : Int) : Key) = some v → ∃ cols t, (m, cols) ∈ ents ∧ v = .ref t ∧ SqT K H t (cols.map optV)
  | _, _, .nil, h => by cases h
  | _, _, @WaysK.cons _ _ a t cols kvs ents hs r, h => by
    by_cases e : a = m
    · subst e
      rw [valV_pos rfl] at h
      cases h
      exact ⟨cols, t, by simp, rfl, hs⟩
    · have z : valV ((Sum.inl (a : Int), V.ref t) :: kvs) (Sum.inl (m : Int) : Key) = valV kvs (Sum.inl (m : Int)) := by
        unfold valV
        rw [List.find?_cons_of_neg (by simpa using inl_ne e)]
      rw [z] at h
      obtain ⟨c', t', h1, h2, h3⟩ := WaysK.get m r h
      exact ⟨c', t', List.mem_cons_of_mem _ h1, h2, h3⟩
theorem put_new {kvs : List (Key × V)} {k : Key} {v : V} (h : (valV kvs k).isSome = false) : putK kvs k v = kvs ++ [(k, v)] := by
  unfold putK
  rw [if_neg]
  intro c
  obtain ⟨p, hp, hk⟩ := List.any_eq_true.mp c
  have : (valV kvs k).isSome = true := by
    unfold valV
    rw [Option.isSome_map]
    exact List.find?_isSome.mpr ⟨p, hp, hk⟩
  rw [h] at this
  cases this
structure Inv0 (es : List E2) (LL : List (List Nat)) (C : List Nat) (ents : List Way) : Prop where
  nd : (keys ents).Nodup
  ent : ∀ e ∈ ents, Ent es LL C e.1 e.2
  all : ∀ cs, ColP es LL cs → pm es.length cs C ∈ keys ents
theorem Inv0.few {es : List E2} {LL : List (List Nat)} {C : List Nat} {ents : List Way} (nd : (keys ents).Nodup) (ent : ∀ e ∈ ents, Ent es LL C e.1 e.2) (e9 : es.length ≤ 9) : ents.length ≤ 512 := by
  have z := sub_few nd (m := List.range (2 ^ es.length)) fun k hk => by
    obtain ⟨e, he, rfl⟩ := List.mem_map.mp hk
    exact List.mem_range.mpr (ent e he).lt
  rw [List.length_range] at z
  unfold keys at z
  rw [List.length_map] at z
  exact Nat.le_trans z (Nat.le_trans (Nat.pow_le_pow_right (by decide) e9) (by decide))
/-- within one colour: what is done up to a, and of a up to b -/
structure Mid (es : List E2) (LL : List (List Nat)) (C : List Nat) (k : Nat) (ents0 : List Way) (fit : List Nat) (a b : Nat) (ents : List Way) : Prop where
  nd : (keys ents).Nodup
  ent : ∀ e ∈ ents, Ent es LL (C ++ [k]) e.1 e.2
  old : ∀ m ∈ keys ents0, m ∈ keys ents
  upto : ∀ d ∈ (keys ents0).take a, ∀ m ∈ fit, (m ||| d) ∈ keys ents
  now : ∀ d, (keys ents0)[a]? = some d → ∀ m ∈ fit.take b, (m ||| d) ∈ keys ents
theorem mid_start {es : List E2} {LL : List (List Nat)} {C : List Nat} {k : Nat} {ents : List Way} {fit : List Nat} (h : Inv0 es LL C ents) : Mid es LL C k ents fit 0 0 ents :=
  ⟨h.nd, fun e he => (h.ent e he).more, fun m hm => hm, fun d hd => by simp at hd, fun d _ m hm => by simp at hm⟩
theorem mid_next {es : List E2} {LL : List (List Nat)} {C : List Nat} {k : Nat} {ents0 ents : List Way} {fit : List Nat} {a : Nat} (h : Mid es LL C k ents0 fit a fit.length ents) : Mid es LL C k ents0 fit (a + 1) 0 ents := by
  refine ⟨h.nd, h.ent, h.old, fun d hd m hm => ?_, fun d _ m hm => by simp at hm⟩
  cases e : (keys ents0)[a]? with
  | none =>
    rw [List.take_of_length_le (by have := List.getElem?_eq_none_iff.mp e; omega)] at hd
    exact h.upto d (by rw [List.take_of_length_le (List.getElem?_eq_none_iff.mp e)]; exact hd) m hm
  | some d' =>
    rw [take_succ e] at hd
    rcases List.mem_append.mp hd with z | z
    · exact h.upto d z m hm
    · rw [List.mem_singleton.mp z]
      exact h.now d' e m (by rw [List.take_length]; exact hm)
theorem mid_end {es : List E2} {LL : List (List Nat)} {C : List Nat} {k : Nat} {ents0 ents : List Way} {fit : List Nat} (h0 : Inv0 es LL C ents0) (hf : ∀ m, Fit es LL k m → m ∈ fit) (ll : LL.length = es.length) (h : Mid es LL C k ents0 fit ents0.length 0 ents) : Inv0 es LL (C ++ [k]) ents := by
  refine ⟨h.nd, h.ent, fun cs hc => ?_⟩
  rw [pm_step]
  exact h.upto _ (by rw [List.take_of_length_le (by unfold keys; rw [List.length_map]; omega)]; exact h0.all cs hc) _ (hf _ (pm_fit hc ll k))
/-- one step: there already -/
theorem mid_skip {es : List E2} {LL : List (List Nat)} {C : List Nat} {k : Nat} {ents0 ents : List Way} {fit : List Nat} {a b m d : Nat} (h : Mid es LL C k ents0 fit a b ents) (hd : (keys ents0)[a]? = some d) (hm : fit[b]? = some m) (has : (m ||| d) ∈ keys ents) : Mid es LL C k ents0 fit a (b + 1) ents := by
  refine ⟨h.nd, h.ent, h.old, h.upto, fun d' hd' m' hm' => ?_⟩
  rw [hd] at hd'
  cases hd'
  rw [take_succ hm] at hm'
  rcases List.mem_append.mp hm' with z | z
  · exact h.now d hd m' z
  · rw [List.mem_singleton.mp z]
    exact has
/-- one step: new -/
theorem mid_put {es : List E2} {LL : List (List Nat)} {C : List Nat} {k : Nat} {ents0 ents : List Way} {fit : List Nat} {a b m d : Nat} {cols : List (Option Nat)} (h : Mid es LL C k ents0 fit a b ents) (he : ents0[a]? = some (d, cols)) (h0 : Inv0 es LL C ents0) (kC : k ∉ C) (hm : fit[b]? = some m) (hf : ∀ m ∈ fit, Fit es LL k m) (no : (m ||| d) ∉ keys ents) : Mid es LL C k ents0 fit a (b + 1) (ents ++ [(m ||| d, recol es.length k m cols)]) := by
  have hd : (keys ents0)[a]? = some d := by unfold keys; rw [List.getElem?_map, he]; rfl
  have ek : keys (ents ++ [(m ||| d, recol es.length k m cols)]) = keys ents ++ [m ||| d] := by unfold keys; rw [List.map_append]; rfl
  have new := ent_step (h0.ent _ (List.mem_of_getElem? he)) (hf m (List.mem_of_getElem? hm)) kC
  refine ⟨?_, fun e hx => ?_, fun x hx => ?_, fun x hx y hy => ?_, fun d' hd' m' hm' => ?_⟩
  · rw [ek]
    exact List.nodup_append.mpr ⟨h.nd, by simp, fun x hx y hy e => no (by rw [← List.mem_singleton.mp hy, ← e]; exact hx)⟩
  · rcases List.mem_append.mp hx with z | z
    · exact h.ent e z
    · rw [List.mem_singleton.mp z]
      exact new
  · rw [ek]
    exact List.mem_append_left _ (h.old x hx)
  · rw [ek]
    exact List.mem_append_left _ (h.upto x hx y hy)
  · rw [hd] at hd'
    cases hd'
    rw [ek]
    rw [take_succ hm] at hm'
    rcases List.mem_append.mp hm' with z | z
    · exact List.mem_append_left _ (h.now d hd m' z)
    · rw [List.mem_singleton.mp z]
      exact List.mem_append_right _ (List.mem_singleton.mpr rfl)
theorem inv0_start {es : List E2} {LL : List (List Nat)} : Inv0 es LL [] [(0, List.replicate es.length none)] :=
  ⟨by simp [keys], fun e he => by rw [List.mem_singleton.mp he]; exact ent_nil, fun cs _ => by rw [pm_nil]; simp [keys]⟩
def listedN (LL : List (List Nat)) (k : Nat) : Nat := maskN ((List.range LL.length).filter fun e => decide (k ∈ LL.getD e []))
def fitN (found : List Nat) (LL : List (List Nat)) (k : Nat) : List Nat := found.filter fun m => m &&& listedN LL k == m
theorem fit_iff {es : List E2} {LL : List (List Nat)} {found : List Nat} (mt : Mats es found) (ll : LL.length = es.length) (k m : Nat) : m ∈ fitN found LL k ↔ Fit es LL k m := by
  unfold fitN
  rw [List.mem_filter, mt m, beq_iff_eq, sub_and]
  have lb : ∀ v, (listedN LL k).testBit v = true ↔ ∃ row, LL[v]? = some row ∧ k ∈ row := fun v => by
    unfold listedN
    rw [mask_bit (List.pairwise_lt_range.filter _), decide_eq_true_eq, List.mem_filter, List.mem_range, decide_eq_true_eq]
    constructor
    · rintro ⟨h1, h2⟩
      refine ⟨LL[v], List.getElem?_eq_getElem h1, ?_⟩
      rw [List.getD_eq_getElem?_getD, List.getElem?_eq_getElem h1] at h2
      exact h2
    · rintro ⟨row, h1, h2⟩
      have h3 := (List.getElem?_eq_some_iff.mp h1).1
      refine ⟨h3, ?_⟩
      rw [List.getD_eq_getElem?_getD, h1]
      exact h2
  constructor
  · rintro ⟨⟨h1, h2⟩, h3⟩
    exact ⟨h1, fun e b => (lb e).mp (h3 e b), h2⟩
  · intro f
    exact ⟨⟨f.lt, f.free⟩, fun v b => (lb v).mpr (f.lst v b)⟩
theorem WaysK.at {K : PySem.W.Frag} {H : Hp} : ∀ {kvs : List (Key × V)} {ents : List Way}, WaysK K H kvs ents → ∀ {i : Nat} {q : Key × V}, kvs[i]? = some q → ∃ (d : Nat) (c : Addr) (cols : List (Option Nat)), q = (.inl (d : Int), .ref c) ∧ ents[i]? = some (d, cols) ∧ SqT K H c (cols.map optV)
  | _, _, .nil, i, q, h => by simp at h
  | _, _, @WaysK.cons _ _ m t cols _ _ a b, 0, q, h => by
    cases h
    exact ⟨m, t, cols, rfl, rfl, a⟩
  | _, _, .cons a b, i + 1, q, h => by
    obtain ⟨d, c, cols, h1, h2, h3⟩ := WaysK.at b (i := i) (q := q) (by simpa using h)
    exact ⟨d, c, cols, h1, by simpa using h2, h3⟩
theorem RowsAt.ts {K : PySem.W.Frag} {H H' : Hp} (s : TS H H') {y : V} {LL : List (List Nat)} (h : RowsAt K H y LL) : RowsAt K H' y LL := by
  obtain ⟨t, xs, e, ht, l, g⟩ := h
  exact ⟨t, xs, e, s.tup ht, l, fun i row hr => (g i row hr).imp fun u z => ⟨z.1, s.tup z.2⟩⟩
theorem none_flat (n : Nat) : (List.replicate n [V.non]).flatten = (List.replicate n (none : Option Nat)).map optV := by
  rw [List.map_replicate]
  induction n with
  | zero => rfl
  | succ n ih => rw [List.replicate_succ, List.flatten_cons, ih, List.replicate_succ]; rfl
def Told (K : PySem.W.Frag) (es : List E2) (LL : List (List Nat)) (v : V) (H : Hp) : Prop := (v = .non ∧ ∀ cs, ¬ ColP es LL cs) ∨ ∃ (t : Addr) (cs : List Nat), v = .ref t ∧ SqT K H t (numsN cs) ∧ ColP es LL cs
def spListCol (K : PySem.W.Frag) : Sp := fun vs H Q _ => ∃ (x y : V) (l r : Nat) (es : List E2) (LL : List (List Nat)), vs = [x, y] ∧ MulAt K H x l r es ∧ MulG l r es ∧ es.length ≤ 9 ∧ ShAt K H y (listsZ LL) ∧ isLists es.length (listsZ LL) = true ∧ RowsAt K H y LL ∧ LL.length = es.length ∧ LL.flatten.length < 64 ∧ (∀ c ∈ LL.flatten, c ≤ 99) ∧ ∀ v H', Same H H' → Told K es LL v H' → Q v H'
def spMaskL (K : PySem.W.Frag) : Sp := fun vs H Q _ => ∃ (D : Addr) (l : List Nat), vs = [.ref D] ∧ SqL K H D (numsN l) ∧ l.length ≤ 100 ∧ (∀ k ∈ l, k ≤ 100) ∧ ∀ H', Same H H' → Q (.int ((maskN l : Nat) : Int)) H'
section
variable {P : Program} {w : World} {K : PySem.W.Frag} {mg : Str → Option Value} {base : Heap} {f fC fL fS fI fE fM : Addr} {fd dC dL dS dI dE dM : FuncData}
theorem ok_maskL (F : L2.Fun K "mask_of" "mask_of" sMaskOf f fd) (ms : mg "sum" = none) : FnOk P w K mg base CX0 1 f fd ["lot"] (spMaskL K) := by
  refine F.ok scMaskOf (fun vs H Q E h => ?_) (fun cdv A outer s H vs Q E hr h => ?_)
  · obtain ⟨D, l, rfl, _⟩ := h
    rfl
  obtain ⟨t, l, rfl, ht, few, small', q⟩ := h
  refine ⟨_, pss_one (ps_ret (pe_callB (cr_sum rfl) (by rfl) ms (by decide +kernel) (pa_cons (pe_lc (own := [("vertex", 1)]) (g := gName 1) (tt := tYes) rfl scMaskOf.nd (pi_list (pv 0))
        (blkOk_by (N := ["lot", "vertex"]) (sc := defScope sMaskOf) (by decide +kernel)) (fun _ _ _ _ _ => pg_name (i := 1) scMaskOf.nd rfl (Or.inl rfl)) (fun _ _ _ _ _ => pts_nil) (fun _ _ _ _ _ => pe_op op_shl pe_int (pv 1))) pa_nil))), ?_⟩
  refine ⟨_, rfl, t, rfl, ⟨_, ht⟩, fun D nD => lo_it (walk_list (xs := numsN l)) (fun i H2 => Same H H2 ∧ H2 D = some (.lst (((l.take i).map fun k => ((2 ^ k : Nat) : Int)).map V.int))) ⟨same_new nD _, upd_same⟩ (fun i H2 _ ⟨s2, _⟩ => L2.Same.seq s2 ht) ?_ ?_⟩
  · rintro i x _ H2 li ⟨s2, hD⟩ ⟨rfl, hi⟩
    obtain ⟨k, e, rfl⟩ := numsN_get hi
    have k100 := small' k (List.mem_of_getElem? e)
    refine ⟨rfl, ?_⟩
    refine ⟨_, rfl, _, _, rfl, rfl, ⟨by omega, by omega, by decide⟩, _, hD, small1000 (by rw [List.length_map, List.length_map, List.length_take]; omega), same_put s2 nD, ?_⟩
    simp only [shl_one]
    rw [upd_same, take_succ e, List.map_append, List.map_append]
    rfl
  · rintro H2 ⟨s2, hD⟩
    rw [numsN_len, List.take_length] at hD
    refine ⟨D, _, rfl, SqL.of hD, ?_⟩
    rw [sum_cast]
    exact q H2 s2
theorem ok_listcol (F : L2.Fun K "list_colouring" "list_colouring" sListCol f fd)
    (GC : FnOk P w K mg base CX0 7 fC dC ["multigraph", "lists"] (spPChkLists K)) (bC : L2.Binds K dC ["multigraph", "lists"] []) (kC : PySem.W.keepIn K (.ref fC) = true) (mC : mg "check_lists" = some (.ref fC))
    (GL : FnOk P w K mg base CX0 6 fL dL ["multigraph"] (spPLine K)) (bL : L2.Binds K dL ["multigraph"] []) (kL : PySem.W.keepIn K (.ref fL) = true) (mL : mg "line_graph" = some (.ref fL))
    (GS : FnOk P w K mg base CX0 7 fS dS ["graph"] (spStable K)) (bS : L2.Binds K dS ["graph"] []) (kS : PySem.W.keepIn K (.ref fS) = true) (mS : mg "stable_masks" = some (.ref fS))
    (GI : FnOk P w K mg base CX0 1 fI dI ["lists"] (spColsIn K)) (bI : L2.Binds K dI ["lists"] []) (kI : PySem.W.keepIn K (.ref fI) = true) (mI : mg "_colours_in" = some (.ref fI))
    (GE : FnOk P w K mg base CX0 1 fE dE ["colour", "lists"] (spEdgesW K)) (bE : L2.Binds K dE ["colour", "lists"] []) (kE : PySem.W.keepIn K (.ref fE) = true) (mE : mg "_edges_with" = some (.ref fE))
    (GM : FnOk P w K mg base CX0 1 fM dM ["lot"] (spMaskL K)) (bM : L2.Binds K dM ["lot"] []) (kM : PySem.W.keepIn K (.ref fM) = true) (mM : mg "mask_of" = some (.ref fM))
    (ml : mg "len" = none) (mli : mg "list" = none) (mt : mg "tuple" = none) (mr : mg "range" = none) : FnOk P w K mg base CX0 8 f fd ["multigraph", "lists"] (spListCol K) := by
  refine F.ok scListCol (fun vs H Q E h => ?_) (fun cdv A outer s0 H vs Q E hr h => ?_)
  · obtain ⟨x, y, l, r, es, LL, rfl, _⟩ := h
    rfl
  obtain ⟨x, y, l, r, es, LL, rfl, hx, g, e9, hy, yl, hrows, ll, few, c99, q⟩ := h
  have h6 := hr.mono (show 6 ≤ 7 by decide)
  have h1 := hr.mono (show 1 ≤ 7 by decide)
  have hu := hr.units
  have hu1 := Nat.lt_of_le_of_lt (Nat.add_le_add_left (show 1 ≤ 64 by decide) _) hu
  refine ⟨_, pss_cons (ps_expr (pe_call GC hr (by rfl) mC kC bC .nil pass0 (pa_cons (pv 0) (pa_cons (pv 1) pa_nil))))
    (pss_cons (ps_set (i := 2) scListCol.nd rfl (.inl rfl) (pe_callB call_len_seq (by rfl) ml PySem.boot_len (pa_cons (pv 1) pa_nil)))
    (pss_cons (ps_set (i := 3) scListCol.nd rfl (.inl rfl) (pe_call GS hr (by rfl) mS kS bS .nil pass0 (pa_cons (pe_call GL h6 (by rfl) mL kL bL .nil pass0 (pa_cons (pv 0) pa_nil)) pa_nil)))
    (pss_cons (ps_set (i := 4) scListCol.nd rfl (.inl rfl) (pe_disp (pps_cons pe_int (pe_op op_repTN (pe_tup (pa_cons pe_non pa_nil)) (pv 2)) pps_nil) rfl rfl (by simp) (by decide)))
    (pss_cons (ps_for PassesOwn.never rfl (pi_list (pe_call GI h1 (by rfl) mI kI bI .nil pass0 (pa_cons (pv 1) pa_nil))) (pg_name (i := 5) scListCol.nd rfl (.inr rfl))
      (pss_cons (ps_set (i := 6) scListCol.nd rfl (.inr rfl) (pe_call GM h1 (by rfl) mM kM bM .nil pass0 (pa_cons (pe_call GE h1 (by rfl) mE kE bE .nil pass0 (pa_cons (pv 5) (pa_cons (pv 1) pa_nil))) pa_nil)))
      (pss_cons (ps_setLc (i := 7) (own := [("mask", 10)]) (g := gName 10) (tt := tTest (tOp rEq (tOp (rI0 fun i j => .int (Builtin.bitAnd i j)) (tVar 10) (tVar 6)) (tVar 10))) rfl scListCol.nd rfl rfl (sw_true rfl rfl rfl (by decide +kernel)) (pi_list (pv 3))
          (blkOk_by (N := ["multigraph", "lists", "many", "matchings", "ways", "colour", "listed", "fitting", "done", "colours", "mask", "edge"]) (sc := defScope sListCol) (by decide +kernel)) (fun _ _ _ _ _ => pg_name (i := 10) scListCol.nd rfl (Or.inl rfl))
          (fun _ _ _ _ _ => pts_one (pt_cmpR op_eq (pe_op op_and (pv 10) (pv 6)) (pv 10) (nomark _))) (fun _ _ _ _ _ => pv 10))
      (pss_one (ps_for PassesOwn.never rfl (pi_list (LiI.pe_listItems rfl (pv 4) (by rfl) mli (by decide +kernel))) (pg_tup (by rfl) (pgs_cons (pg_name (i := 8) scListCol.nd rfl (.inl rfl)) (pgs_cons (pg_name (i := 9) scListCol.nd rfl (.inr rfl)) pgs_nil)))
        (pss_one (ps_for PassesOwn.never rfl (pi_list (pv 7)) (pg_name (i := 10) scListCol.nd rfl (.inr rfl))
          (pss_one (ps_if (pt_cmp (pc_dnotin hu1 (pe_op op_or (pv 10) (pv 8)) (pv 4)))
            (pss_one (ps_dput hu1 (pv 4) (pe_op op_or (pv 10) (pv 8)) (pe_callTy call_tuple_of (by rfl) mt (by decide +kernel) (pa_cons (pe_lc (own := [("edge", 11)]) (g := gName 11) (tt := tYes) (te := tIf (tTruM K (tOp (rI0 fun i j => .int (Builtin.bitAnd i j)) (tOp (rI (fun _ j => 0 ≤ j) fun i j => .int (i / 2 ^ j.toNat)) (tVar 10) (tVar 11)) (tC (.int 1)))) (tVar 5) (tOp (rIxT K) (tVar 9) (tVar 11))) rfl scListCol.nd (pi_range1 rfl mr (pa_cons (pv 2) pa_nil))
              (blkOk_by (N := ["multigraph", "lists", "many", "matchings", "ways", "colour", "listed", "fitting", "done", "colours", "mask", "edge"]) (sc := defScope sListCol) (by decide +kernel)) (fun _ _ _ _ _ => pg_name (i := 11) scListCol.nd rfl (Or.inl rfl)) (fun _ _ _ _ _ => pts_nil)
              (fun _ _ _ _ _ => pe_ifExp (pt_truth (pe_op op_and (pe_op op_shr (pv 10) (pv 11)) pe_int) (by intro _; rfl)) (pv 5) (pe_ix (r := rIxT K) ix_tup (pv 9) (pv 11) (fun _ _ => rfl)))) pa_nil)) rfl)) pss_nil)))))))))
    (pss_one (ps_ret (pe_dget1 hu1 (pv 4) (pe_op op_sub (pe_op op_shl pe_int (pv 2)) pe_int) ⟨rfl, rfl, rfl, rfl⟩))))))), ?_⟩
  have line : ∀ k, k ≤ 1000 → k ≤ sizeLine := fun k hk => small hk
  obtain ⟨t, xs, rfl, ht, lx, gr⟩ := id hrows
  have ln : xs.length = es.length := lx.trans ll
  refine ⟨_, rfl, _, rfl, x, .ref t, l, r, es, _, rfl, hx, g, e9, hy, yl, fun H1 s1 => ?_⟩
  refine ⟨_, rfl, t, xs, rfl, .inr (Same.tup s1 ht), ?_⟩
  refine ⟨_, rfl, x, l, r, es, rfl, hx.same s1, g, e9, fun z H2 s2 hz => ⟨z, es, rfl, hz, e9, fun Fm found H3 s3 hFm mt lf => ?_⟩⟩
  have s13 := s1.trans (s2.trans s3)
  refine fun D nD => ⟨line 1 (by decide), fun e0 ne0 => ⟨_, rfl, e0, xs.length, [.non], rfl, rfl, SqT.of upd_same, by simp, by omega, by simp, fun c0 H5 s5 hc0 => ?_⟩⟩
  have se0 := same_new ne0 (.tup [V.non])
  have hD5 : H5 D = some (.dK []) := s5 _ _ (se0 _ _ upd_same)
  have s35 : Same H3 H5 := ((same_new nD (.dK [])).trans se0).trans s5
  refine ⟨hD5, [(Sum.inl 0, .ref c0)], rfl, by simp, ?_⟩
  have hc1 : SqT K H5 c0 ((List.replicate es.length (none : Option Nat)).map optV) := by
    rw [← none_flat, ← ln]
    exact hc0
  have b56 : But D H5 (upd H5 D (.dK (mergeK [] [(Sum.inl 0, V.ref c0)]))) := But.put
  have hD6 : (upd H5 D (.dK (mergeK [] [(Sum.inl 0, V.ref c0)]))) D = some (.dK [(Sum.inl 0, V.ref c0)]) := upd_same
  have s36 : Same H3 (upd H5 D (.dK (mergeK [] [(Sum.inl 0, V.ref c0)]))) := same_put s35 nD
  have hc6 := (TS.butK b56 hD5).tup hc1
  generalize upd H5 D (.dK (mergeK [] [(Sum.inl 0, V.ref c0)])) = H6 at hD6 s36 hc6 ⊢
  clear b56 hc1 hc0 hD5 s35 s5 se0 ne0
  have s06 := s13.trans s36
  have nD0 : H D = none := by
    cases e : H D with
    | none => rfl
    | some o => rw [s13 _ _ e] at nD; cases nD
  refine ⟨_, rfl, .ref t, LL, rfl, hrows.same s06, few, fun FC C H7 s7 hFC up mem => ?_⟩
  have lC : C.length ≤ 63 := by
    have z := sub_few (up.imp fun h => Nat.ne_of_lt h) (m := LL.flatten) fun k hk => (mem k).mp hk
    omega
  have hD7 := s7 _ _ hD6
  have s07 := s06.trans s7
  have hFm7 := (s36.trans s7) _ _ hFm
  have hrows7 := hrows.same s07
  have FCD : FC ≠ D := fun e => by rw [e, hD7] at hFC; cases hFC
  have FmD : Fm ≠ D := fun e => by rw [e, hD7] at hFm7; cases hFm7
  refine ⟨FC, rfl, ⟨_, SqL.of hFC⟩, for_it (walk_list (xs := numsN C)) (fun i σ H' => ∃ (kvs : List (Key × V)) (ents : List Way) (s5 s6 s7 s8 s9 s10 : Option V), σ = [some x, some (.ref t), some (.int ((xs.length : Nat) : Int)), some (.ref Fm), some (.ref D), s5, s6, s7, s8, s9, s10, none] ∧ But D H7 H' ∧ H' D = some (.dK kvs) ∧ WaysK K H' kvs ents ∧ Inv0 es LL (C.take i) ents)
    ⟨_, [(0, List.replicate es.length none)], none, none, none, none, none, none, rfl, But.refl D H7, hD7, .cons (Same.tup s7 hc6) .nil, inv0_start⟩ (fun i σ H' _ ⟨_, _, _, _, _, _, _, _, _, b, _⟩ => SqL.of (b _ _ FCD hFC)) ?_ ?_⟩
  rotate_left 1
  · rintro σ H8 ⟨kvs, ents, s5', s6', s7', s8', s9', s10', rfl, b78, hD8, wk, iv⟩
    rw [numsN_len, List.take_length] at iv
    have s08 : Same H H8 := fun a o h => b78 a o (fun e => by rw [e, nD0] at h; cases h) (s07 a o h)
    refine ⟨_, rfl, D, rfl, .inl ⟨kvs, .inl hD8⟩, ?_⟩
    refine ⟨_, rfl, _, _, rfl, rfl, ⟨by omega, by omega, by decide⟩, _, _, rfl, rfl, valV kvs (Sum.inl ((2 ^ es.length - 1 : Nat) : Int)), ?_, ?_⟩
    · have e2 : (1 * 2 ^ ((xs.length : Nat) : Int).toNat - 1 : Int) = ((2 ^ es.length - 1 : Nat) : Int) := by
        rw [ln, Int.toNat_natCast, Int.natCast_sub (Nat.two_pow_pos _), Int.natCast_pow]
        simp
      show DGet H8 D (V.int (1 * 2 ^ ((xs.length : Nat) : Int).toNat - 1)) _
      rw [e2]
      exact DGet.k (k := Sum.inl ((2 ^ es.length - 1 : Nat) : Int)) hD8
    · cases hv : valV kvs (Sum.inl ((2 ^ es.length - 1 : Nat) : Int) : Key) with
      | none =>
        refine q .non H8 s08 (.inl ⟨rfl, fun cs hc => ?_⟩)
        have hk := iv.all cs hc
        rw [pm_all hc.len fun c hcm => ?_] at hk
        · have z := wk.has (2 ^ es.length - 1)
          rw [hv, decide_eq_true hk] at z
          cases z
        · obtain ⟨e, he⟩ := List.mem_iff_getElem?.mp hcm
          have lt : e < LL.length := by
            have := (List.getElem?_eq_some_iff.mp he).1
            rw [hc.len] at this
            omega
          exact (mem c).mpr (List.mem_flatten.mpr ⟨LL[e], List.getElem_mem lt, hc.lst e _ c (List.getElem?_eq_getElem lt) he⟩)
      | some v =>
        obtain ⟨cols, tc, hm, rfl, hs⟩ := wk.get _ hv
        obtain ⟨cs, rfl, hc⟩ := ent_whole (iv.ent _ hm)
        refine q (.ref tc) H8 s08 (.inr ⟨tc, cs, rfl, ?_, hc⟩)
        rw [List.map_map] at hs
        exact hs
  rintro i vc σ _ H8 li ⟨kvs, ents, s5', s6', s7', s8', s9', s10', rfl, b78, hD8, wk, iv⟩ ⟨rfl, hi⟩
  obtain ⟨k, hk, rfl⟩ := numsN_get hi
  have kC : k ∉ C.take i := fun h => by
    obtain ⟨j, hj⟩ := List.mem_iff_getElem?.mp h
    have ji : j < i := by
      have := (List.getElem?_eq_some_iff.mp hj).1
      rw [List.length_take] at this
      omega
    rw [List.getElem?_take_of_lt ji] at hj
    obtain ⟨l1, e1⟩ := List.getElem?_eq_some_iff.mp hj
    obtain ⟨l2, e2⟩ := List.getElem?_eq_some_iff.mp hk
    have := List.pairwise_iff_getElem.mp up j i l1 l2 ji
    omega
  have tk := take_succ hk
  have t78 := TS.butK b78 hD7
  have hrows8 := hrows7.ts t78
  have hFm8 := b78 _ _ FmD hFm7
  have few8 := Inv0.few iv.nd iv.ent e9
  refine ⟨_, rfl, _, rfl, k, .ref t, LL, rfl, hrows8, by omega, fun FE H9 s9 hFE => ?_⟩
  refine ⟨FE, _, rfl, SqL.of hFE, ?_, fun a ha => ?_, fun H10 s10 => ?_⟩
  · have := List.length_filter_le (fun e => decide (k ∈ LL.getD e [])) (List.range LL.length)
    rw [List.length_range] at this
    omega
  · have := List.mem_range.mp (List.mem_filter.mp ha).1
    omega
  have s810 := s9.trans s10
  have hFm10 := s810 _ _ hFm8
  refine ⟨_, rfl, Fm, rfl, ⟨_, SqL.of hFm10⟩, fun B nB => lo_it (walk_list (xs := numsN found)) (fun j H' => Same H10 H' ∧ H' B = some (.lst (numsN ((found.take j).filter fun m => m &&& listedN LL k == m)))) ⟨same_new nB _, upd_same⟩ (fun j H' _ ⟨s, _⟩ => SqL.of (s _ _ hFm10)) ?_ ?_⟩
  · rintro j x' _ H11 lj ⟨s11, hB⟩ ⟨rfl, hj⟩
    obtain ⟨m, hm, rfl⟩ := numsN_get hj
    refine ⟨rfl, ?_⟩
    refine ⟨_, rfl, _, rfl, _, _, rfl, rfl, _, rfl, rfl, _, rfl, ?_⟩
    simp only [and_nn]
    have ev : decide (V.int ((m &&& listedN LL k : Nat) : Int) = V.int ((m : Nat) : Int)) = (m &&& listedN LL k == m) := by
      rw [Bool.eq_iff_iff, decide_eq_true_eq, beq_iff_eq]
      refine ⟨fun z => ?_, fun z => by rw [z]⟩
      injection z with z
      exact Int.ofNat.inj z
    have lj' : j < found.length := by rw [numsN_len] at lj; exact lj
    refine iteB (fun c => ?_) (fun c => ?_)
    · have c2 := ev.symm.trans c
      refine ⟨_, rfl, _, hB, small1000 (by rw [numsN_len]; have := List.length_filter_le (fun m => m &&& listedN LL k == m) (found.take j); rw [List.length_take] at this; omega), same_put s11 nB, ?_⟩
      rw [upd_same, take_succ hm, List.filter_append, List.filter_cons_of_pos (p := fun m => m &&& listedN LL k == m) c2, numsN_app]
      rfl
    · have c2 := ev.symm.trans c
      refine ⟨s11, ?_⟩
      rw [hB, take_succ hm, List.filter_append, List.filter_cons_of_neg (p := fun m => m &&& listedN LL k == m) (by rw [c2]; decide), List.filter_nil, List.append_nil]
  rintro H11 ⟨s11, hB⟩
  rw [numsN_len, List.take_length] at hB
  have hB' : H11 B = some (.lst (numsN (fitN found LL k))) := hB
  have s811 := s810.trans s11
  have hD11 := s811 _ _ hD8
  have BD : B ≠ D := fun e => by rw [e, hD11] at hB; cases hB
  have ff := fit_iff mt ll k
  refine ⟨_, rfl, D, kvs, rfl, hD11, fun H12 p ts s12 np nts pn hp pr => ?_⟩
  have hD12 := s12 _ _ hD11
  have hB12 := s12 _ _ hB'
  have s812 := s811.trans s12
  have pD : p ≠ D := fun e => by rw [e, hD11] at np; cases np
  have wk12 := wk.ts (TS.of s812)
  have lts : ts.length = ents.length := (Paired.length pr).trans wk.len
  refine ⟨p, rfl, ⟨_, SqL.of hp⟩, for_it (walk_list (xs := ts.map V.ref)) (fun a σ H' => ∃ (kv' : List (Key × V)) (en' : List Way) (s8 s9 s10 : Option V), σ = [some x, some (.ref t), some (.int ((xs.length : Nat) : Int)), some (.ref Fm), some (.ref D), some (.int (k : Int)), some (.int ((listedN LL k : Nat) : Int)), some (.ref B), s8, s9, s10, none] ∧ But D H12 H' ∧ H' D = some (.dK kv') ∧ WaysK K H' kv' en' ∧ Mid es LL (C.take i) k ents (fitN found LL k) a 0 en')
    ⟨kvs, ents, _, _, _, rfl, But.refl D H12, hD12, wk12, mid_start iv⟩ (fun a σ H' _ ⟨_, _, _, _, _, _, b, _⟩ => SqL.of (b _ _ pD hp)) ?_ ?_⟩
  rotate_left 1
  · rintro σ H13 ⟨kv', en', s8', s9', s10', rfl, b13, hD13, wk', mid⟩
    rw [List.length_map, lts] at mid
    refine ⟨kv', en', _, _, _, _, _, _, rfl, b78.trans ((But.of s812).trans b13), hD13, wk', ?_⟩
    rw [tk]
    exact mid_end iv (fun m hm => (ff m).mpr hm) ll mid
  rintro a xa σ _ H13 la ⟨kv', en', s8', s9', s10', rfl, b13, hD13, wk', mid⟩ ⟨rfl, ha⟩
  have hp13 := b13 _ _ pD hp
  have hB13 := b13 _ _ BD hB12
  have t1213 := TS.butK b13 hD12
  -- the way
  obtain ⟨T, hTa, rfl⟩ : ∃ T, ts[a]? = some T ∧ xa = V.ref T := by
    rw [List.getElem?_map] at ha
    cases e : ts[a]? with
    | none => rw [e] at ha; cases ha
    | some T => rw [e] at ha; cases ha; exact ⟨T, rfl, rfl⟩
  obtain ⟨qv, hqv, hT⟩ := LiI.paired_get pr hTa
  obtain ⟨d, cc, cols, rfl, hen, hcc⟩ := wk12.at hqv
  have TD : T ≠ D := fun e => by rw [e, hD12] at hT; cases hT
  have hT13 := b13 _ _ TD hT
  have hd : (keys ents)[a]? = some d := by unfold keys; rw [List.getElem?_map, hen]; rfl
  refine ⟨T, _, rfl, SqT.of hT13, rfl, _, _, rfl, _, _, rfl, rfl, ?_⟩
  refine ⟨_, rfl, B, rfl, ⟨_, SqL.of hB13⟩, for_it (walk_list (xs := numsN (fitN found LL k))) (fun b σ H' => ∃ (kv' : List (Key × V)) (en' : List Way) (s10 : Option V), σ = [some x, some (.ref t), some (.int ((xs.length : Nat) : Int)), some (.ref Fm), some (.ref D), some (.int (k : Int)), some (.int ((listedN LL k : Nat) : Int)), some (.ref B), some (.int (d : Int)), some (.ref cc), s10, none] ∧ But D H12 H' ∧ H' D = some (.dK kv') ∧ WaysK K H' kv' en' ∧ Mid es LL (C.take i) k ents (fitN found LL k) a b en')
    ⟨kv', en', _, rfl, b13, hD13, wk', mid⟩ (fun b σ H' _ ⟨_, _, _, _, bb, _⟩ => SqL.of (bb _ _ BD hB12)) ?_ ?_⟩
  rotate_left 1
  · rintro σ H14 ⟨kv2, en2, s10', rfl, b14, hD14, wk2, mid2⟩
    rw [numsN_len] at mid2
    exact ⟨kv2, en2, _, _, _, rfl, b14, hD14, wk2, mid_next mid2⟩
  rintro b xb σ _ H14 lb ⟨kv2, en2, s10'', rfl, b14, hD14, wk2, mid2⟩ ⟨rfl, hb⟩
  obtain ⟨m, hm, rfl⟩ := numsN_get hb
  have fm := (ff m).mp (List.mem_of_getElem? hm)
  have hs := wk2.has (m ||| d)
  refine ⟨_, rfl, _, rfl, _, _, rfl, rfl, _, rfl, D, valV kv2 (Sum.inl ((m ||| d : Nat) : Int)), rfl, by show DGet H14 D (V.int (Builtin.bitOr (m : Int) (d : Int))) _; rw [or_nn]; exact DGet.k (k := Sum.inl ((m ||| d : Nat) : Int)) hD14, _, rfl, ?_⟩
  rw [hs]
  refine iteB (fun c => ?_) (fun c => ⟨kv2, en2, _, rfl, b14, hD14, wk2, mid_skip mid2 hd hm (by simpa using c)⟩)
  have no : (m ||| d) ∉ keys en2 := by simpa using c
  have t1214 := TS.butK b14 hD12
  have hcc14 := t1214.tup hcc
  have lcols := (iv.ent _ (List.mem_of_getElem? hen)).len
  -- the colours
  refine ⟨_, rfl, _, rfl, by omega, by omega, fun E0 nE0 => lc_range (lo := 0) (n := ((xs.length : Nat) : Int).toNat) (fun j H' => Same H14 H' ∧ H' E0 = some (.lst ((((List.range j).map fun e => if m.testBit e = true then some k else cols.getD e none)).map optV))) ⟨same_new nE0 _, upd_same⟩ ?_ ?_⟩
  · rintro j H15 lj ⟨s15, hE⟩
    rw [Int.zero_add]
    rw [Int.toNat_natCast] at lj
    refine ⟨rfl, ?_⟩
    have jl : j < cols.length := by
      have : cols.length = es.length := lcols
      omega
    have gc : (cols.map optV)[j]? = some (optV (cols.getD j none)) := by
      rw [List.getElem?_map, List.getElem?_eq_getElem jl, List.getD_eq_getElem?_getD, List.getElem?_eq_getElem jl]
      rfl
    have el : ((((List.range j).map fun e => if m.testBit e = true then some k else cols.getD e none)).map optV).length < sizeLine := small1000 (by rw [List.length_map, List.length_map, List.length_range]; omega)
    have fin : ∀ v : V, v = optV (if m.testBit j = true then some k else cols.getD j none) → ∃ acc, H15 E0 = some (.lst acc) ∧ acc.length < sizeLine ∧ (Same H14 (upd H15 E0 (.lst (acc ++ [v]))) ∧ (upd H15 E0 (.lst (acc ++ [v]))) E0 = some (.lst ((((List.range (j + 1)).map fun e => if m.testBit e = true then some k else cols.getD e none)).map optV))) := fun v e => by
      refine ⟨_, hE, el, same_put s15 nE0, ?_⟩
      rw [upd_same, e, List.range_succ, List.map_append, List.map_append]
      rfl
    refine ⟨_, rfl, _, rfl, _, _, rfl, rfl, by omega, _, _, rfl, rfl, m.testBit j, ?_, iteB (fun c => ?_) (fun c => ?_)⟩
    · show m.testBit j = (Builtin.bitAnd (((m : Nat) : Int) / 2 ^ ((j : Nat) : Int).toNat) 1 != 0)
      rw [shr_bit]
      cases m.testBit j <;> rfl
    · exact ⟨_, rfl, fin _ (by rw [if_pos c]; rfl)⟩
    · exact ⟨_, rfl, _, rfl, cc, _, _, _, rfl, rfl, Same.tup s15 hcc14, atI_nat gc, fin _ (by rw [if_neg (by rw [c]; decide)])⟩
  rintro H15 ⟨s15, hE⟩
  rw [Int.toNat_natCast, ln] at hE
  have hE' : H15 E0 = some (.lst ((recol es.length k m cols).map optV)) := hE
  refine ⟨E0, _, rfl, .inl ⟨SqL.of hE', fun U nU => ?_⟩⟩
  have sU := same_new nU (.tup ((recol es.length k m cols).map optV))
  have hU := upd_same (H := H15) (a := U) (o := .tup ((recol es.length k m cols).map optV))
  generalize upd H15 U (.tup ((recol es.length k m cols).map optV)) = H16 at sU hU ⊢
  have s1416 := s15.trans sU
  have hD16 := s1416 _ _ hD14
  have wk16 := wk2.ts (TS.of s1416)
  have few16 := Inv0.few mid2.nd mid2.ent e9
  refine ⟨_, rfl, _, rfl, _, rfl, _, _, rfl, rfl, D, upd H16 D (.dK (putK kv2 (Sum.inl ((m ||| d : Nat) : Int)) (.ref U))), rfl, by show DPut H16 D (V.int (Builtin.bitOr (m : Int) (d : Int))) _ _; rw [or_nn]; exact DPut.k (k := Sum.inl ((m ||| d : Nat) : Int)) hD16 (small1000 (by have := wk2.len; omega)), ?_⟩
  have b17 : But D H16 (upd H16 D (.dK (putK kv2 (Sum.inl ((m ||| d : Nat) : Int)) (.ref U)))) := But.put
  have t17 := TS.butK b17 hD16
  have enew : putK kv2 (Sum.inl ((m ||| d : Nat) : Int) : Key) (.ref U) = kv2 ++ [(Sum.inl ((m ||| d : Nat) : Int), .ref U)] := put_new (by rw [hs]; exact decide_eq_false no)
  refine ⟨_, en2 ++ [(m ||| d, recol es.length k m cols)], _, rfl, b14.trans ((But.of s1416).trans b17), upd_same, ?_, mid_put mid2 hen iv kC hm (fun m hm => (ff m).mp hm) no⟩
  rw [enew]
  rw [enew] at t17
  exact (wk16.ts t17).snoc (t17.tup (SqT.of hU))
end
end My

set_option maxHeartbeats 4000000
/-! f(name=e) of a def that may raise; isinstance(e, C) in an except suite, e with an own dict. -/
namespace My
open PySem PySem.Spec PyProof.Rows L2
section
variable {X : Cx} {CX : CXT} {k : Nat} {f : Addr} {fd : FuncData} {sp : Sp} {E : L2.St → XK} {x fld : Str} {p pos : Pos} {tk : TA}
theorem pe_kw1 (F : FnOk X.prog X.w X.K X.mg X.base CX k f fd [fld] sp) (hr : Room k X.A) (hg : Gl X x) (hm : X.mg x = some (.ref f)) (hk : PySem.W.keepIn X.K (.ref f) = true) (hb : ∀ (s : Shared) (u : Value), BindsTo s fd ⟨[], [(fld, u)]⟩ ([fld].zip [u])) (hx : ∀ σ, PassesAt CX X σ (E σ))
    {kws : List Keyword} (hkw : PK X kws tk) (hall : (backToKw pos (keywordEach kws X.env)).all (·.1.isSome) = true := by rfl) (hks : (backToKw pos (keywordEach kws X.env)).filterMap (·.1) = [fld] := by rfl)
    (hdb : (x == ("__debug__" : Str)) = false := by decide) (hpl : ((backTo pos (starEach [] X.env)).any (·.1) || (backToKw pos (keywordEach kws X.env)).any (·.1.isNone)) = false := by rfl) :
    PE X (.Call (.Name x p) [] kws pos) (tCallS sp E tk) := by
  refine ⟨?_⟩
  intro pins s σ H Q I h
  refine wpAny_Call_Name_kw (ld_glob I hg hm ?_ hdb)
  refine PySem.W.callWith_KW0 (h₀ := X.base) I.ok.mod.kin hk hall (thn (hkw.run pos pins s σ H _ I h) ?_) hpl
  rintro us s1 ⟨vs, H1, I1, r, q1⟩
  refine ⟨I1.kIn, ?_⟩
  rw [hks]
  have hl : us.length = 1 := by rw [← r.length]; exact F.len _ _ _ _ q1
  obtain ⟨u, rfl⟩ : ∃ u, us = [u] := by
    match us, hl with
    | [u], _ => exact ⟨u, rfl⟩
  refine wpAny_call (codeAny_mono (F.run X.A X.stack s1 H1 ⟨[], [(fld, u)]⟩ [u] vs Q (E σ) hr I1.env0 (hb _ _) r q1) fun r s' hq => ?_)
  cases r with
  | error e => exact hx σ pins H1 s1 e s' I1 hq
  | ok fl =>
    cases fl with
    | ret u => exact I1.after hq
    | next => exact False.elim hq
    | brk => exact False.elim hq
    | cont => exact False.elim hq
theorem passAt0 {X : Cx} {σ : L2.St} {E : XK} : PassesAt CX0 X σ E := fun _ _ _ _ _ _ h => h.elim
end
def rIsF (K : PySem.W.Frag) (a : Addr) (cls : Value) (d : Option Addr) : List V → Hp → VK → Prop := fun xs H Q => ∃ (C dd : Addr) (c : V) (u : Value) (b : Bool) (fs : List (Str × V)), xs = [.ref a, c] ∧ ClsV c u ∧ cls = .ref C ∧ d = some dd ∧ H dd = some (.xd fs) ∧ XIs K C ∧ PySem.W.kitOne K (.ref C) u = some b ∧ Q (.bl b) H
theorem call_isF {X : Cx} {a : Addr} {oe : Obj} {cls : Value} {d : Option Addr} {pn : List (Addr × Obj)} (hz : Zc cls d oe) (hf : ∃ vs, oe.data = .fields vs) : CallR (X.suite a ((a, oe) :: pn)) (.builtin "isinstance") (rIsF X.K a cls d) := by
  rintro pins s σ H xs us Q I r ⟨C, dd, c, u, b, fs, rfl, cv, rfl, rfl, ea, T, kit, q⟩
  obtain ⟨u1, u2, rfl, r1, r2⟩ := vals2 r
  obtain rfl : u2 = u := cv.eq r2
  obtain rfl : u1 = Value.ref a := r1
  obtain ⟨ha, _⟩ := I.pin (a, oe) (List.mem_append_left _ List.mem_cons_self)
  obtain ⟨vs, hd⟩ := hf
  have hx : ObjOk X.prog X.w H s.heap dd (.xd fs) := I.hok dd _ ea
  obtain ⟨mA, hns, hr⟩ := hx
  obtain ⟨od, ho, hl⟩ := lookIn_ns hns
  have J : PySem.W.InstAt s.heap a oe C (some od) := by
    refine ⟨ha, hz.1, ?_, ?_⟩
    · unfold PySem.W.notCls
      rw [hd]
    · rw [hz.2]
      exact ho
  exact PySem.W.kia_one (PySem.W.kitx_exc T.cl T.xf.ga T.xf.gg T.xf.exC T.ha T.hn T.ht T.hm) I.kIn J kit (fun z => nomatch z) fun tk => ⟨.bl b, H, I.tok tk, rfl, q⟩
end My

set_option maxHeartbeats 4000000
namespace My
open PySem PySem.Spec PyProof.Rows L2
/-- f(a=.., b=..), the other way round than f's parameters -/
def tKw2 (sp : Sp) (E : L2.St → XK) (t : TA) : TE := fun σ H Q => t σ H fun vs H1 => ∃ a b, vs = [a, b] ∧ sp [b, a] H1 Q (E σ)
section
variable {X : Cx} {CX : CXT} {k : Nat} {f : Addr} {fd : FuncData} {sp : Sp} {E : L2.St → XK} {x f1 f2 : Str} {p pos : Pos} {tk : TA}
theorem pe_kw2 (F : FnOk X.prog X.w X.K X.mg X.base CX k f fd [f1, f2] sp) (hr : Room k X.A) (hg : Gl X x) (hm : X.mg x = some (.ref f)) (hk : PySem.W.keepIn X.K (.ref f) = true) (hb : ∀ (s : Shared) (u v : Value), BindsTo s fd ⟨[], [(f2, u), (f1, v)]⟩ ([f1, f2].zip [v, u])) (hx : ∀ σ, PassesAt CX X σ (E σ))
    {kws : List Keyword} (hkw : PK X kws tk) (hall : (backToKw pos (keywordEach kws X.env)).all (·.1.isSome) = true := by rfl) (hks : (backToKw pos (keywordEach kws X.env)).filterMap (·.1) = [f2, f1] := by rfl)
    (hdb : (x == ("__debug__" : Str)) = false := by decide) (hpl : ((backTo pos (starEach [] X.env)).any (·.1) || (backToKw pos (keywordEach kws X.env)).any (·.1.isNone)) = false := by rfl) :
    PE X (.Call (.Name x p) [] kws pos) (tKw2 sp E tk) := by
  refine ⟨?_⟩
  intro pins s σ H Q I h
  refine wpAny_Call_Name_kw (ld_glob I hg hm ?_ hdb)
  refine PySem.W.callWith_KW0 (h₀ := X.base) I.ok.mod.kin hk hall (thn (hkw.run pos pins s σ H _ I h) ?_) hpl
  rintro us s1 ⟨vs, H1, I1, r, a, b, rfl, q1⟩
  refine ⟨I1.kIn, ?_⟩
  rw [hks]
  obtain ⟨u, v, rfl, ru, rv⟩ := vals2 r
  refine wpAny_call (codeAny_mono (F.run X.A X.stack s1 H1 ⟨[], [(f2, u), (f1, v)]⟩ [v, u] [b, a] Q (E σ) hr I1.env0 (hb _ _ _) (.cons rv (.cons ru .nil)) q1) fun r s' hq => ?_)
  cases r with
  | error e => exact hx σ pins H1 s1 e s' I1 hq
  | ok fl =>
    cases fl with
    | ret u => exact I1.after hq
    | next => exact False.elim hq
    | brk => exact False.elim hq
    | cont => exact False.elim hq
end
end My

set_option maxHeartbeats 16000000
namespace My
open PySem PySem.Spec PyProof.Rows L2 RZ
abbrev sRight : Stmt := top 52
theorem scRight : FnScope ["pot", "turn", "multi", "lists", "due", "told"] ["pot"] (defScope sRight) := ⟨rfl, rfl, rfl, by decide +kernel, rfl, by decide +kernel, by decide +kernel⟩
def spRight : Sp := fun vs H Q _ => ∃ p : Addr, vs = [.ref p] ∧ Wl H p ∧ ∀ H', But p H H' → Q (.bl true) H'
theorem sums_few {b : Nat} : ∀ {LL : List (List Nat)}, (∀ l ∈ LL, l.length ≤ b) → LL.flatten.length ≤ b * LL.length
  | [], _ => by simp
  | l :: r, h => by
    have ih := sums_few (LL := r) fun x hx => h x (List.mem_cons_of_mem _ hx)
    have h0 := h l List.mem_cons_self
    rw [List.flatten_cons, List.length_append, List.length_cons, Nat.mul_add, Nat.mul_one]
    omega
theorem num_sh {K : PySem.W.Frag} {H : Hp} (ns : List Nat) : ShsAt K H (numsN ns) (ns.map fun k => Sh.int ((k : Nat) : Int)) := by
  induction ns with
  | nil => exact .nil
  | cons a r ih => exact .cons (.int _) ih
theorem lists_sh {K : PySem.W.Frag} {H : Hp} : ∀ {xs : List V} {LL : List (List Nat)}, LotsQ H xs LL → ShsAt K H xs (LL.map lotZ)
  | _, _, .nil => .nil
  | _, _, .cons ⟨u, e, hu⟩ r => by
    subst e
    exact .cons (.tup (SqT.of hu) (num_sh _)) (lists_sh r)
theorem lists_get {H : Hp} : ∀ {xs : List V} {LL : List (List Nat)}, LotsQ H xs LL → ∀ (i : Nat) (row : List Nat), LL[i]? = some row → ∃ u : Addr, xs[i]? = some (V.ref u) ∧ H u = some (.tup (numsN row))
  | _, _, .nil, i, row, h => by simp at h
  | _, _, .cons ⟨u, e, hu⟩ r, 0, row, h => by
    simp at h
    subst h
    exact ⟨u, by rw [e]; rfl, hu⟩
  | _, _, .cons a r, i + 1, row, h => by
    obtain ⟨u, h1, h2⟩ := lists_get r i row (by simpa using h)
    exact ⟨u, by simpa using h1, h2⟩
theorem ListsS.rows {K : PySem.W.Frag} {H : Hp} {y : V} {LL : List (List Nat)} (h : ListsS K H y LL) : RowsAt K H y LL := by
  obtain ⟨t, xs, rfl, ht, lq⟩ := h
  exact ⟨t, xs, rfl, ht, lq.len, fun i row hr => (lists_get lq i row hr).imp fun u z => ⟨z.1, SqT.of z.2⟩⟩
theorem ListsS.sh {K : PySem.W.Frag} {H : Hp} {y : V} {LL : List (List Nat)} (h : ListsS K H y LL) : ShAt K H y (listsZ LL) := by
  obtain ⟨t, xs, rfl, ht, lq⟩ := h
  exact .tup ht (lists_sh lq)
theorem ListsS.same {K : PySem.W.Frag} {H H' : Hp} (s : Same H H') {y : V} {LL : List (List Nat)} (h : ListsS K H y LL) : ListsS K H' y LL := by
  obtain ⟨t, xs, rfl, ht, lq⟩ := h
  exact ⟨t, xs, rfl, Same.tup s ht, lq.same s⟩
theorem lists_ok {es : List E2} {LL : List (List Nat)} (ll : LL.length = es.length) (h : ∀ l ∈ LL, RowOk l) : isLists es.length (listsZ LL) = true := by
  show (decide ((LL.map lotZ).length = es.length) && (LL.map lotZ).all isList) = true
  rw [Bool.and_eq_true, decide_eq_true_eq, List.length_map, List.all_eq_true]
  refine ⟨ll, fun z hz => ?_⟩
  obtain ⟨l, hl, rfl⟩ := List.mem_map.mp hz
  exact (h l hl).list
theorem col_from {es : List E2} {LL : List (List Nat)} {cs : List Nat} (ll : LL.length = es.length) (h : ColP es LL cs) : isFrom es LL (lotZ cs) = true := by
  have gd : ∀ i, i < es.length → intS ((cs.map fun k => Sh.int ((k : Nat) : Int)).getD i (.int 0)) = ((cs.getD i 0 : Nat) : Int) ∧ cs[i]? = some (cs.getD i 0) := fun i hi => by
    have l1 : i < cs.length := by rw [h.len]; exact hi
    rw [List.getD_eq_getElem?_getD, List.getElem?_map, List.getElem?_eq_getElem l1, List.getD_eq_getElem?_getD, List.getElem?_eq_getElem l1]
    exact ⟨rfl, rfl⟩
  show ((decide ((cs.map fun k => Sh.int ((k : Nat) : Int)).length = es.length) && ((cs.map fun k => Sh.int ((k : Nat) : Int)).all (wholeF 0) && (lineP es).all fun p => !(intS ((cs.map fun k => Sh.int ((k : Nat) : Int)).getD p.1 (.int 0)) == intS ((cs.map fun k => Sh.int ((k : Nat) : Int)).getD p.2 (.int 0))))) && fromB (cs.map fun k => Sh.int ((k : Nat) : Int)) LL) = true
  rw [Bool.and_eq_true, Bool.and_eq_true, Bool.and_eq_true, decide_eq_true_eq, List.length_map]
  refine ⟨⟨h.len, ?_, ?_⟩, ?_⟩
  · rw [List.all_eq_true]
    intro z hz
    obtain ⟨k, _, rfl⟩ := List.mem_map.mp hz
    exact decide_eq_true (show ((k : Nat) : Int) ≥ 0 by omega)
  · rw [List.all_eq_true]
    intro p hp
    obtain ⟨h1, h2⟩ := List.mem_filter.mp hp
    obtain ⟨a1, a2⟩ := mem_allP.mp h1
    obtain ⟨e1, g1⟩ := gd p.1 (by omega)
    obtain ⟨e2, g2⟩ := gd p.2 a2
    have ne := h.diff p.1 p.2 _ _ (by omega) g1 g2 h2
    rw [e1, e2, Bool.not_eq_true', beq_eq_false_iff_ne]
    omega
  · unfold fromB
    rw [List.all_eq_true]
    intro b hb
    obtain ⟨i, hi⟩ := List.mem_iff_getElem?.mp hb
    rw [List.getElem?_zipWith, List.getElem?_map] at hi
    cases e1 : cs[i]? with
    | none => rw [e1] at hi; cases hi
    | some c =>
      cases e2 : LL[i]? with
      | none => rw [e1, e2] at hi; cases hi
      | some row =>
        rw [e1, e2] at hi
        cases hi
        have m := h.lst i row c e2 e1
        show (row.any fun k => ((k : Nat) : Int) == ((c : Nat) : Int)) = true
        exact List.any_eq_true.mpr ⟨c, m, beq_self_eq_true _⟩
theorem pre_none {es : List E2} {LL : List (List Nat)} (n : Nat) : PreC es LL (List.replicate n none) := by
  have no : ∀ (e c : Nat), (List.replicate n (none : Option Nat))[e]? ≠ some (some c) := fun e c h => by
    rw [List.getElem?_replicate] at h
    split at h
    · cases h
    · cases h
  exact ⟨fun e row c _ h => absurd h (no e c), fun i j c d _ h _ _ => absurd h (no i c)⟩
theorem goes_none (n : Nat) (cs : List Nat) : Goes (List.replicate n none) cs := fun e c h => by
  rw [List.getElem?_replicate] at h
  split at h
  · cases h
  · cases h
theorem rgV_nums (k : Nat) : rgV 0 (k : Int) = numsN (List.range k) := by
  unfold rgV numsN
  rw [show ((k : Int) - 0).toNat = k by omega]
  exact List.map_congr_left fun i _ => congrArg V.int (Int.zero_add _)
theorem reps {H : Hp} {o : Addr} {l : List Nat} (h : H o = some (.tup (numsN l))) : ∀ n : Nat, LotsQ H (List.replicate n [V.ref o]).flatten (List.replicate n l)
  | 0 => .nil
  | n + 1 => by
    rw [List.replicate_succ, List.replicate_succ, List.flatten_cons]
    exact .cons ⟨o, rfl, h⟩ (reps h n)
theorem none_few (n : Nat) : noneC (List.replicate n none) ≤ n := by
  unfold noneC
  refine Nat.le_trans (List.length_filter_le _ _) ?_
  rw [List.length_replicate]
  exact Nat.le_refl _
theorem Told.same {K : PySem.W.Frag} {es : List E2} {LL : List (List Nat)} {v : V} {H H' : Hp} (s : Same H H') (h : Told K es LL v H) : Told K es LL v H' := by
  rcases h with h | ⟨t, cs, e, ht, hc⟩
  · exact .inl h
  · exact .inr ⟨t, cs, e, Same.tup s ht, hc⟩
theorem of_list {xs : List Int} {i : Nat} {v : V} (h : (xs.map V.int)[i]? = some v) : ∃ z ∈ xs, v = .int z := by
  obtain ⟨z, hz, e⟩ := List.mem_map.mp (List.mem_of_getElem? h)
  exact ⟨z, hz, e.symm⟩
section
variable {P : Program} {w : World} {K : PySem.W.Frag} {mg : Str → Option Value} {base : Heap} {f fD fK fMu fLs fFn fLC fLF fPF : Addr} {fd dD dK dMu dLs dFn dLC dLF dPF : FuncData}
theorem ok_right (F : L2.Fun K "_law_right" "_law_right" sRight f fd)
    (GD : FnOk P w K mg base CX0 1 fD dD ["pot", "few"] spDraw) (bD : L2.Binds K dD ["pot", "few"] []) (kD : PySem.W.keepIn K (.ref fD) = true) (mD : mg "_law_draw" = some (.ref fD))
    (GK : FnOk P w K mg base CX0 2 fK dK ["pot", "some"] (spPickL K)) (bK : L2.Binds K dK ["pot", "some"] []) (kK : PySem.W.keepIn K (.ref fK) = true) (mK : mg "_law_pick" = some (.ref fK))
    (GMu : FnOk P w K mg base CX0 3 fMu dMu ["pot", "most"] spMulti) (bMu : L2.Binds K dMu ["pot", "most"] []) (kMu : PySem.W.keepIn K (.ref fMu) = true) (mMu : mg "_law_multi" = some (.ref fMu))
    (GLs : FnOk P w K mg base CX0 3 fLs dLs ["pot", "multi", "low", "high"] spLts) (bLs : L2.Binds K dLs ["pot", "multi", "low", "high"] []) (kLs : PySem.W.keepIn K (.ref fLs) = true) (mLs : mg "_law_lists" = some (.ref fLs))
    (GFn : FnOk P w K mg base CX0 12 fFn dFn ["multi", "lists", "begun"] (spFnd K 10)) (bFn : L2.Binds K dFn ["multi", "lists", "begun"] []) (kFn : PySem.W.keepIn K (.ref fFn) = true) (mFn : mg "_law_found" = some (.ref fFn))
    (GLC : FnOk P w K mg base CX0 8 fLC dLC ["multigraph", "lists"] (spListCol K)) (bLC : L2.Binds K dLC ["multigraph", "lists"] []) (bLCk : ∀ (s : Shared) (u v : Value), BindsTo s dLC ⟨[], [(("lists" : Str), u), (("multigraph" : Str), v)]⟩ ([("multigraph" : Str), ("lists" : Str)].zip [v, u])) (kLC : PySem.W.keepIn K (.ref fLC) = true) (mLC : mg "list_colouring" = some (.ref fLC))
    (GLF : FnOk P w K mg base CX0 3 fLF dLF ["multi", "lists", "value"] (spLFrom K)) (bLF : L2.Binds K dLF ["multi", "lists", "value"] []) (kLF : PySem.W.keepIn K (.ref fLF) = true) (mLF : mg "_law_is_from" = some (.ref fLF))
    (GPF : FnOk P w K mg base CX0 8 fPF dPF ["multigraph", "lists", "value"] (spPFrom K)) (bPF : L2.Binds K dPF ["multigraph", "lists", "value"] []) (kPF : PySem.W.keepIn K (.ref fPF) = true) (mPF : mg "is_from_lists" = some (.ref fPF))
    (mt : mg "tuple" = none) (mr : mg "range" = none) (ml : mg "len" = none) :
    FnG P w K mg base CX0 13 f fd ["pot"] spRight := by
  refine okG F scRight (fun vs H Q E h => ?_) (fun cdv A outer s0 H vs Q E gd hr h => ?_)
  · obtain ⟨p, rfl, _⟩ := h
    rfl
  obtain ⟨p, rfl, hW, q⟩ := h
  have h1 := hr.mono (show 1 ≤ 12 by decide)
  have h2 := hr.mono (show 2 ≤ 12 by decide)
  have h3 := hr.mono (show 3 ≤ 12 by decide)
  have h4 := hr.mono (show 4 ≤ 12 by decide)
  have h8 := hr.mono (show 8 ≤ 12 by decide)
  refine ⟨_, pss_cons (ps_for PassesOwn.never rfl (pi_range1 rfl mr (pa_cons pe_int pa_nil)) (pg_name (i := 1) scRight.nd rfl (.inl rfl))
      (pss_cons (ps_set (i := 2) scRight.nd rfl (.inl rfl) (pe_call GMu h3 (by rfl) mMu kMu bMu .nil pass0 (pa_cons (pv 0) (pa_cons (pe_ifExp (pt_cmpR op_eq (pe_call GD h1 (by rfl) mD kD bD .nil pass0 (pa_cons (pv 0) (pa_cons pe_int pa_nil))) pe_int (nomark _)) pe_int pe_int) pa_nil))))
      (pss_cons (ps_set (i := 3) scRight.nd rfl (.inl rfl) (pe_call GLs h3 (by rfl) mLs kLs bLs .nil pass0 (pa_cons (pv 0) (pa_cons (pv 2) (pa_cons (pe_call GK h2 (by rfl) mK kK bK .nil pass0 (pa_cons (pv 0) (pa_cons (pe_lst (pa_cons pe_int (pa_cons pe_int (pa_cons pe_int (pa_cons pe_int (pa_cons pe_int pa_nil)))))) pa_nil))) (pa_cons (pe_call GK h2 (by rfl) mK kK bK .nil pass0 (pa_cons (pv 0) (pa_cons (pe_lst (pa_cons pe_int (pa_cons pe_int (pa_cons pe_int (pa_cons pe_int (pa_cons pe_int pa_nil)))))) pa_nil))) pa_nil))))))
      (pss_cons (ps_if (pt_cmpR op_eq (pe_call GD h1 (by rfl) mD kD bD .nil pass0 (pa_cons (pv 0) (pa_cons pe_int pa_nil))) pe_int (nomark _)) (pss_one (ps_set (i := 3) scRight.nd rfl (.inl rfl) (pe_op op_repTN (pe_tup (pa_cons (pe_tupRg rfl (by rfl) mt (prg_1 (by rfl) mr (pe_call GK h2 (by rfl) mK kK bK .nil pass0 (pa_cons (pv 0) (pa_cons (pe_lst (pa_cons pe_int (pa_cons pe_int (pa_cons pe_int pa_nil)))) pa_nil))))) pa_nil)) (pe_callB call_len_seq (by rfl) ml PySem.boot_len (pa_cons (pv 3) pa_nil))))) pss_nil)
      (pss_cons (ps_set (i := 4) scRight.nd rfl (.inl rfl) (pe_call GFn hr (by rfl) mFn kFn bFn .nil pass0 (pa_cons (pv 2) (pa_cons (pv 3) (pa_cons (pe_op op_repTN (pe_tup (pa_cons pe_non pa_nil)) (pe_callB call_len_seq (by rfl) ml PySem.boot_len (pa_cons (pv 3) pa_nil))) pa_nil)))))
      (pss_one (ps_for PassesOwn.never rfl (pi_list (pe_lst (pa_cons (pe_call GLC h8 (by rfl) mLC kLC bLC .nil pass0 (pa_cons (pv 2) (pa_cons (pv 3) pa_nil))) (pa_cons (pe_kw2 (E := fun _ => E0) GLC h8 (by rfl) mLC kLC bLCk (fun _ => passAt0) (pk_cons (pv 3) (pk_cons (pv 2) pk_nil))) pa_nil)))) (pg_name (i := 5) scRight.nd rfl (.inl rfl))
        (pss_cons (ps_if (PW.pt (pw_and (pt_cmpR (op_eqD hr.units) (pv 4) (pe_lst pa_nil) (nomark _)) (pw_and1 (pt_cmp (pc_notN (pv 5)))))) (pss_one (ps_ret pe_bl)) pss_nil)
        (pss_one (ps_if (PW.pt (pw_and (pt_cmpR (op_neD hr.units) (pv 4) (pe_lst pa_nil) (nomark _)) (pw_and1 (PW.pt (pw_or (pt_not (pt_val (pe_call GLF h3 (by rfl) mLF kLF bLF .nil pass0 (pa_cons (pv 2) (pa_cons (pv 3) (pa_cons (pv 5) pa_nil)))))) (pw_or1 (pt_cmpR op_isnot_bl (pe_call GPF h8 (by rfl) mPF kPF bPF .nil pass0 (pa_cons (pv 2) (pa_cons (pv 3) (pa_cons (pv 5) pa_nil)))) pe_bl (nomark _)))))))) (pss_one (ps_ret pe_bl)) pss_nil))))))))))
    (pss_one (ps_ret pe_bl)), ?_⟩
  have line : ∀ k, k ≤ 1000 → k ≤ sizeLine := fun k hk => small hk
  refine ⟨2, rfl, by omega, by omega, for_range (lo := 0) (n := ((2 : Int)).toNat) (fun i σ H' => ∃ (s1 s2 s3 s4 s5 : Option V), σ = [some (.ref p), s1, s2, s3, s4, s5] ∧ But p H H' ∧ Wl H' p) ⟨none, none, none, none, none, rfl, But.refl p H, hW⟩ ?_ ?_⟩
  rotate_left 1
  · rintro σ H1 ⟨_, _, _, _, _, rfl, b1, _⟩
    exact q H1 b1
  rintro i σ H0 li ⟨s1, s2, s3, s4, s5, rfl, b0, w0⟩
  refine' joinS (i := 2) (R := fun v H' => ∃ (l r : Nat) (es : List E2), But p H H' ∧ Wl H' p ∧ MulT H' v l r es ∧ MulG l r es ∧ es.length ≤ 9) (fun go => ?_) ?_
  rotate_left 2
  · refine ⟨_, rfl, _, rfl, p, 3, rfl, w0, by decide, by decide, fun d H1 _ _ b1 w1 => ?_⟩
    refine ⟨rfl, _, rfl, iteB (fun _ => ?_) (fun _ => ?_)⟩
    · exact ⟨p, 9, rfl, w1, by decide, fun x l r es H2 b2 w2 hx g _ _ le => go x H2 ⟨l, r, es, b0.trans (b1.trans b2), w2, hx, g, le⟩⟩
    · exact ⟨p, 7, rfl, w1, by decide, fun x l r es H2 b2 w2 hx g _ _ le => go x H2 ⟨l, r, es, b0.trans (b1.trans b2), w2, hx, g, by omega⟩⟩
  rintro x H1 ⟨l, r, es, B1, w1, hx, g, e9⟩
  refine ⟨_, rfl, _, rfl, _, rfl, line 5 (by decide), fun F1 n1 => ?_⟩
  have sF1 := same_new n1 (.lst [V.int 0, V.int 1, V.int 1, V.int 1, V.int 2])
  refine ⟨p, F1, _, rfl, w1.same sF1, upd_same, w1.ne n1, by simp, by simp, fun j1 v1 H2 hj1 b2 w2 => ?_⟩
  obtain ⟨lo, rfl, lo2⟩ : ∃ n : Nat, v1 = .int (n : Int) ∧ n ≤ 2 := by
    obtain ⟨z, hz, rfl⟩ := of_list (xs := [0, 1, 1, 1, 2]) hj1
    simp only [List.mem_cons, List.mem_nil_iff, or_false] at hz
    exact ⟨z.toNat, by rw [Int.toNat_of_nonneg (by omega)], by omega⟩
  have b12 : But p H1 H2 := (But.of sF1).trans b2
  refine ⟨_, rfl, line 5 (by decide), fun F2 n2 => ?_⟩
  have sF2 := same_new n2 (.lst [V.int 2, V.int 2, V.int 3, V.int 4, V.int 6])
  refine ⟨p, F2, _, rfl, w2.same sF2, upd_same, w2.ne n2, by simp, by simp, fun j2 v2 H3 hj2 b3 w3 => ?_⟩
  obtain ⟨hi, rfl, hi2, hi6⟩ : ∃ n : Nat, v2 = .int (n : Int) ∧ 2 ≤ n ∧ n ≤ 6 := by
    obtain ⟨z, hz, rfl⟩ := of_list (xs := [2, 2, 3, 4, 6]) hj2
    simp only [List.mem_cons, List.mem_nil_iff, or_false] at hz
    exact ⟨z.toNat, by rw [Int.toNat_of_nonneg (by omega)], by omega, by omega⟩
  have b13 : But p H1 H3 := b12.trans ((But.of sF2).trans b3)
  refine ⟨p, x, l, r, lo, hi, es, rfl, by omega, w3, hx.but b13 w1, e9, by omega, fun y LL H4 b4 w4 hy ll rok => ?_⟩
  have hx4 := (hx.but b13 w1).but b4 w3
  have B4 := B1.trans (b13.trans b4)
  clear b13 b12 b3 b2 sF1 sF2 n1 n2 hj1 hj2
  refine' joinT (R := fun σ H' => ∃ (s1 : Option V) (y : V) (LL : List (List Nat)), σ = [some (.ref p), s1, some x, some y, s4, s5] ∧ But p H H' ∧ Wl H' p ∧ MulT H' x l r es ∧ ListsS K H' y LL ∧ LL.length = es.length ∧ ∀ l ∈ LL, RowOk l ∧ l.length ≤ 6) (fun go => ?_) ?_
  rotate_left 1
  · refine ⟨_, rfl, p, 4, rfl, w4, by decide, by decide, fun d H5 _ _ b5 w5 => ?_⟩
    obtain ⟨ty, xs, rfl, hty, lq⟩ := hy
    have hty5 := b5 _ _ (wl_tup w4 hty) hty
    have lq5 := lq.but b5 w4
    have hx5 := hx4.but b5 w4
    have B5 := B4.trans b5
    refine ⟨rfl, _, rfl, iteB (fun _ => ?_) (fun _ => go _ _ ⟨_, .ref ty, LL, rfl, B5, w5, hx5, ⟨ty, xs, rfl, SqT.of hty5, lq5⟩, ll, fun l hl => ⟨(rok l hl).1, Nat.le_trans (rok l hl).2 hi6⟩⟩)⟩
    refine ⟨_, rfl, line 3 (by decide), fun F3 n3 => ?_⟩
    have sF3 := same_new n3 (.lst [V.int 1, V.int 2, V.int 3])
    refine ⟨p, F3, _, rfl, w5.same sF3, upd_same, w5.ne n3, by simp, by simp, fun j3 v3 H6 hj3 b6 w6 => ?_⟩
    obtain ⟨kn, rfl, kn3⟩ : ∃ n : Nat, v3 = .int (n : Int) ∧ n ≤ 3 := by
      obtain ⟨z, hz, rfl⟩ := of_list (xs := [1, 2, 3]) hj3
      simp only [List.mem_cons, List.mem_nil_iff, or_false] at hz
      exact ⟨z.toNat, by rw [Int.toNat_of_nonneg (by omega)], by omega⟩
    have b56 : But p H5 H6 := (But.of sF3).trans b6
    have hty6 := b56 _ _ (wl_tup w5 hty5) hty5
    refine ⟨(kn : Int), rfl, RgOk.of_le (by decide) (by omega) (by decide) (by omega), fun o no => ?_⟩
    rw [rgV_nums]
    have so := same_new no (.tup (numsN (List.range kn)))
    have ho := upd_same (H := H6) (a := o) (o := .tup (numsN (List.range kn)))
    generalize upd H6 o (.tup (numsN (List.range kn))) = H7 at so ho ⊢
    refine ⟨line 1 (by decide), fun T nT => ?_⟩
    have sT := same_new nT (.tup [V.ref o])
    have hT := upd_same (H := H7) (a := T) (o := .tup [V.ref o])
    have ho8 := sT _ _ ho
    have hty8 := sT _ _ (so _ _ hty6)
    generalize upd H7 T (.tup [V.ref o]) = H8 at sT hT ho8 hty8 ⊢
    have lx := lq.len
    refine ⟨_, rfl, ty, xs, rfl, .inr (SqT.of hty8), T, xs.length, [.ref o], rfl, rfl, SqT.of hT, by simp, by omega, by simp, fun y' H9 s9 hy' => ?_⟩
    have s69 := so.trans (sT.trans s9)
    refine go _ _ ⟨_, .ref y', List.replicate xs.length (List.range kn), rfl, B5.trans (b56.trans (But.of s69)), w6.same s69, (hx5.but b56 w5).same s69, ⟨y', _, rfl, hy', reps (s9 _ _ ho8) _⟩, by rw [List.length_replicate]; omega, fun l hl => ?_⟩
    rw [(List.mem_replicate.mp hl).2]
    refine ⟨⟨by rw [List.length_range]; omega, fun k hk => by have := List.mem_range.mp hk; omega, List.pairwise_lt_range⟩, by rw [List.length_range]; omega⟩
  rintro σ H5 ⟨s1', y', LL', rfl, B5, w5, hx5, hy5, ll5, rok5⟩
  have hx5a := hx5.at (K := K)
  have rok' : ∀ l ∈ LL', RowOk l := fun l hl => (rok5 l hl).1
  have few : LL'.flatten.length < 64 := by
    have := sums_few (b := 6) fun l hl => (rok5 l hl).2
    omega
  have c99 : ∀ c ∈ LL'.flatten, c ≤ 99 := fun c hc => by
    obtain ⟨l, hl, hcl⟩ := List.mem_flatten.mp hc
    exact (rok' l hl).lt c hcl
  have isl := lists_ok ll5 rok'
  obtain ⟨ty, xs, rfl, hty, lq⟩ := id hy5
  have lxs := lq.len
  refine ⟨_, rfl, _, rfl, line 1 (by decide), fun e0 ne0 => ?_⟩
  have se0 := same_new ne0 (.tup [V.non])
  have he0 := upd_same (H := H5) (a := e0) (o := .tup [V.non])
  generalize upd H5 e0 (.tup [V.non]) = H6 at se0 he0 ⊢
  refine ⟨_, rfl, ty, xs, rfl, .inr (Same.tup se0 hty), e0, xs.length, [.non], rfl, rfl, SqT.of he0, by simp, by omega, by simp, fun b0 H7 s7 hb0 => ?_⟩
  have s57 := se0.trans s7
  have hb : SqT K H7 b0 ((List.replicate es.length (none : Option Nat)).map optV) := by
    rw [← none_flat, show es.length = xs.length by omega]
    exact hb0
  refine ⟨x, .ref ty, b0, l, r, es, LL', List.replicate es.length none, rfl, hx5a.same s57, e9, hy5.same s57, ll5, rok', hb, List.length_replicate, fun c hc => ?_, by have := none_few es.length; omega, pre_none _, fun Fr res H8 s8 hFr sure => ?_⟩
  · have := (List.mem_replicate.mp hc).2
    cases this
  have s58 := s57.trans s8
  refine ⟨_, rfl, _, rfl, x, .ref ty, l, r, es, LL', rfl, hx5a.same s58, g, e9, (hy5.same s58).sh, isl, (hy5.same s58).rows, ll5, few, c99, fun v1 H9 s9 t1 => ?_⟩
  have s59 := s58.trans s9
  refine ⟨_, rfl, _, rfl, _, _, rfl, x, .ref ty, l, r, es, LL', rfl, hx5a.same s59, g, e9, (hy5.same s59).sh, isl, (hy5.same s59).rows, ll5, few, c99, fun v2 H10 s10 t2 => ⟨line 2 (by decide), fun Z nZ => ?_⟩⟩
  have sZ := same_new nZ (.lst [v1, v2])
  have hZ := upd_same (H := H10) (a := Z) (o := .lst [v1, v2])
  have T1 := t1.same (s10.trans sZ)
  have T2 := t2.same sZ
  have s511 := s59.trans (s10.trans sZ)
  have hFr11 := (s9.trans (s10.trans sZ)) _ _ hFr
  generalize upd H10 Z (.lst [v1, v2]) = H11 at sZ hZ T1 T2 s511 hFr11 ⊢
  refine ⟨Z, rfl, ⟨_, SqL.of hZ⟩, for_it (walk_list (xs := [v1, v2])) (fun i σ H' => ∃ s5, σ = [some (.ref p), s1', some x, some (.ref ty), some (.ref Fr), s5] ∧ Same H11 H') ⟨_, rfl, Same.refl _⟩ (fun i σ H' _ ⟨_, _, s⟩ => SqL.of (s _ _ hZ)) ?_ ?_⟩
  rotate_left 1
  · rintro σ H12 ⟨s5', rfl, s12⟩
    have s512 := s511.trans s12
    exact ⟨_, _, _, _, _, rfl, B5.trans (But.of s512), w5.same s512⟩
  rintro i2 v σ _ H12 li2 ⟨s5', rfl, s12⟩ ⟨rfl, hi⟩
  have told : Told K es LL' v H12 := by
    have m := List.mem_of_getElem? hi
    simp only [List.mem_cons, List.mem_nil_iff, or_false] at m
    rcases m with rfl | rfl
    · exact T1.same s12
    · exact T2.same s12
  have hFr12 := s12 _ _ hFr11
  have hySh := (hy5.same (s511.trans s12)).sh
  have hxA := hx5a.same (s511.trans s12)
  refine ⟨_, rfl, line 0 (by decide), fun N nN => ?_⟩
  have sN := same_new nN (.lst [])
  have hN := upd_same (H := H12) (a := N) (o := .lst [])
  generalize upd H12 N (.lst []) = H13 at sN hN ⊢
  rcases sure with ⟨rfl, noc⟩ | ⟨tc, cs, rfl, hs, _, hc, _⟩
  · refine ⟨.list (numsD []), .list (numsD []), .lst (SqL.of (sN _ _ hFr12)) (numsD_dp []), .lst (SqL.of hN) (numsD_dp []), numsD_shL [], numsD_shL [], _, rfl, ?_⟩
    rw [numsD_nilL]
    obtain rfl : v = .non := by
      rcases told with ⟨e, _⟩ | ⟨t', cs', _, _, hc'⟩
      · exact e
      · exact absurd (goes_none _ cs') (noc cs' hc')
    refine iteT ⟨_, rfl, _, rfl, iteF ?_⟩
    refine ⟨_, rfl, line 0 (by decide), fun N2 nN2 => ?_⟩
    have sN2 := same_new nN2 (.lst [])
    refine ⟨.list (numsD []), .list (numsD []), .lst (SqL.of (sN2 _ _ (sN _ _ hFr12))) (numsD_dp []), .lst (SqL.of upd_same) (numsD_dp []), numsD_shL [], numsD_shL [], _, rfl, ?_⟩
    rw [numsD_nilL]
    exact iteF ⟨_, rfl, s12.trans (sN.trans sN2)⟩
  have s813 := s9.trans (s10.trans (sZ.trans (s12.trans sN)))
  refine ⟨.list (lotsD [cs]), .list (lotsD []), .lst (SqL.of (sN _ _ hFr12)) (.cons (.tup (Same.tup s813 hs) (numsD_dp cs)) .nil), .lst (SqL.of hN) .nil, lotsD_sh _, lotsD_sh [], _, rfl, ?_⟩
  rw [lotsD_nil]
  refine iteF ?_
  refine ⟨_, rfl, line 0 (by decide), fun N2 nN2 => ?_⟩
  have sN2 := same_new nN2 (.lst [])
  have hN2 := upd_same (H := H13) (a := N2) (o := .lst [])
  generalize upd H13 N2 (.lst []) = H14 at sN2 hN2 ⊢
  have s1214 := sN.trans sN2
  refine ⟨.list (lotsD [cs]), .list (lotsD []), .lst (SqL.of (s1214 _ _ hFr12)) (.cons (.tup (Same.tup (s813.trans sN2) hs) (numsD_dp cs)) .nil), .lst (SqL.of hN2) .nil, lotsD_sh _, lotsD_sh [], _, rfl, ?_⟩
  rw [lotsD_nil]
  refine iteT ?_
  obtain ⟨t', cs', rfl, ht', hc'⟩ : ∃ t' cs', v = .ref t' ∧ SqT K H12 t' (numsN cs') ∧ ColP es LL' cs' := by
    rcases told with ⟨_, no⟩ | ⟨t', cs', e, ht', hc'⟩
    · exact absurd hc (no cs)
    · exact ⟨t', cs', e, ht', hc'⟩
  have fr := col_from ll5 hc'
  have vsh : ShAt K H14 (.ref t') (lotZ cs') := .tup (Same.tup s1214 ht') (num_sh _)
  refine ⟨_, rfl, _, rfl, _, rfl, x, .ref ty, .ref t', l, r, es, LL', lotZ cs', rfl, hxA.same s1214, e9, hySh.same s1214, isl, vsh, fun H15 s15 => ?_⟩
  rw [fr]
  refine ⟨_, rfl, iteF ?_⟩
  have s1215 := s1214.trans s15
  refine ⟨_, rfl, _, rfl, _, rfl, x, .ref ty, .ref t', l, r, es, LL', lotZ cs', rfl, hxA.same s1215, g, e9, hySh.same s1215, isl, vsh.same s15, fun H16 s16 => ?_⟩
  rw [fr]
  exact ⟨true, true, rfl, rfl, _, rfl, iteF ⟨_, rfl, s12.trans (s1215.trans s16)⟩⟩
end
end My

set_option maxHeartbeats 4000000
/-! law, of the second family: a few turns, each right. -/
namespace My
open PySem PySem.Spec PyProof.Rows L2
abbrev sLaw : Stmt := top 53
theorem scLaw : FnScope ["script", "turn"] ["script"] (defScope sLaw) := ⟨rfl, rfl, rfl, by decide +kernel, rfl, by decide +kernel, by decide +kernel⟩
def spLaw (K : PySem.W.Frag) : Sp := fun vs H Q _ => ∃ (a : Addr) (ns : List Int), vs = [.ref a] ∧ SqL K H a (ns.map V.int) ∧ ns.length ≤ 63 ∧ ∀ H', Q (.bl true) H'
section
variable {P : Program} {w : World} {K : PySem.W.Frag} {mg : Str → Option Value} {base : Heap} {f fW fR : Addr} {fd dW dR : FuncData} {n : Nat}
theorem ok_law (F : L2.Fun K "law" "law" sLaw f fd) (GW : FnOk P w K mg base CX0 1 fW dW ["script", "turn"] (spPot K)) (bW : L2.Binds K dW ["script", "turn"] []) (kW : PySem.W.keepIn K (.ref fW) = true) (mW : mg "_law_pot" = some (.ref fW))
    (GR : FnG P w K mg base CX0 (n + 1) fR dR ["pot"] spRight) (bR : L2.Binds K dR ["pot"] []) (kR : PySem.W.keepIn K (.ref fR) = true) (mR : mg "_law_right" = some (.ref fR))
    (mr : mg "range" = none) (ml : mg "len" = none) (ma : mg "all" = none) (mx : mg "max" = none) (mn : mg "min" = none) : FnG P w K mg base CX0 (n + 2) f fd ["script"] (spLaw K) := by
  refine okG F scLaw (fun vs H Q E h => ?_) (fun cdv A outer s H vs Q E gd hr h => ?_)
  · obtain ⟨a, ns, rfl, _⟩ := h
    rfl
  obtain ⟨a, ns, rfl, hS, h63, q⟩ := h
  have gd' : (A.deeper (envOfC "law" (defScope sLaw) s.heap.objs.size f cdv)).guards = some [] := gd
  refine ⟨_, pss_one (ps_ret (pe_callB (cr_all rfl) (by rfl) ma (by decide +kernel) (pa_cons (pe_lc (own := [("turn", 1)]) (g := gName 1) (tt := tYes) rfl scLaw.nd
      (pi_range1 rfl mr (pa_cons (pe_callB (call_max2 rfl) (by rfl) mx (by decide +kernel) (pa_cons pe_int (pa_cons (pe_callB (call_min2 rfl) (by rfl) mn (by decide +kernel) (pa_cons (pe_callB call_len_seq (by rfl) ml PySem.boot_len (pa_cons (pv 0) pa_nil)) (pa_cons pe_int pa_nil))) pa_nil))) pa_nil))
      (blkOk_by (N := ["script", "turn"]) (sc := defScope sLaw) (by decide +kernel)) (fun _ _ _ _ _ => pg_name (i := 1) scLaw.nd rfl (Or.inl rfl)) (fun _ _ _ _ _ => pts_nil)
      (fun _ _ _ _ _ => pe_callG GR gd' hr (by rfl) mR kR bR pass0 (pa_cons (pe_call GW (hr.mono (Nat.le_add_left 1 n)) (by rfl) mW kW bW .nil pass0 (pa_cons (pv 0) (pa_cons (pv 1) pa_nil))) pa_nil))) pa_nil))), ?_⟩
  have hl : (ns.map V.int).length = ns.length := List.length_map _
  refine ⟨_, rfl, a, _, rfl, .inl hS, _, _, rfl, _, _, rfl, ?_⟩
  rw [hl]
  obtain ⟨j, hj, j0, j3⟩ : ∃ j : Int, (if (if (5 : Int) < ((ns.length : Nat) : Int) then (5 : Int) else ((ns.length : Nat) : Int)) > 2 then (if (5 : Int) < ((ns.length : Nat) : Int) then (5 : Int) else ((ns.length : Nat) : Int)) else 2) = j ∧ 0 ≤ j ∧ j ≤ 5 := by
    refine ⟨_, rfl, ?_, ?_⟩
    · split <;> (try split) <;> omega
    · split <;> (try split) <;> omega
  rw [hj]
  refine ⟨j, rfl, by omega, by omega, fun D nD => lc_range (lo := 0) (n := j.toNat) (fun k H' => Same H H' ∧ H' D = some (.lst ((List.replicate k true).map V.bl))) ⟨same_new nD _, upd_same⟩ ?_ ?_⟩
  · rintro k H1 lk ⟨s1, hD⟩
    rw [Int.zero_add]
    refine ⟨rfl, ?_⟩
    refine ⟨_, rfl, _, rfl, a, ns, k, rfl, L2.Same.seq s1 hS, h63, by omega, fun H2 p s2 np wl => ⟨p, rfl, wl, fun H3 bt => ?_⟩⟩
    have s3 : Same H1 H3 := fun b o e => bt b o (ne_of_none e np) (s2 b o e)
    refine ⟨_, s3 _ _ hD, ?_, same_put (s1.trans s3) nD, ?_⟩
    · rw [List.length_map, List.length_replicate]
      exact small1000 (by omega)
    · rw [upd_same, List.replicate_succ', List.map_append]
      rfl
  · rintro H1 ⟨s1, hD⟩
    refine ⟨D, List.replicate j.toNat true, rfl, SqL.of hD, ?_⟩
    have e : (List.replicate j.toNat true).all id = true := by simp
    rw [e]
    exact q H1
end
end My

set_option maxHeartbeats 16000000
namespace My
open PySem PySem.Spec PyProof.Rows L2
theorem all_mk {l : PySem.W.OpenLaw} {w : World} {K : PySem.W.Frag} {h : Heap} {mg : Str → Option Value} {fa f_is_whole f_is_whole_from f_is_tuple_of_two f_is_ascending f_is_graph f_is_vertex_pair f_check_graph f_complement f_neighbour_masks f_mask_of f_clique_masks f_stable_masks f_is_colouring f_is_multigraph f__is_edge f__is_never_falling f_check_multigraph f_line_graph f__do_meet f_is_lists f__is_list f_check_lists f_is_from_lists f_list_colouring f__colours_in f__edges_with f__law_pot f__law_draw f__law_pick f__law_mixed f__law_is_whole f__law_multi f__law_near f__law_is_proper f__law_lists f__law_is_from f__law_found f__law_right f_law : Addr} {tkS tkE tkV tkL tkC : Tok} (X : K.In h) (GN : h.Ns mainGlobals mg) (hfa : mg "law" = some (.ref fa))
    {fo_is_whole fk_is_whole fe_is_whole fm_is_whole fc_is_whole ft_is_whole : Value} {fD_is_whole fN_is_whole : Option Addr} {fS_is_whole : Array (Option Value)}
    (fa_is_whole : PySem.W.nsIn K mainGlobals "is_whole" = some (some (.ref f_is_whole)))
    (fl_is_whole : K.lookup f_is_whole = some ⟨fo_is_whole, fD_is_whole, .func (PySem.W.fnOf "is_whole" "is_whole" (defArgs (top 7)) (defBody (top 7)) (defScope (top 7)) .none fk_is_whole fe_is_whole fm_is_whole fN_is_whole fc_is_whole ft_is_whole), fS_is_whole⟩)
    (fcc_is_whole : PySem.W.codeIn K fc_is_whole "is_whole" = true)
    (fq_is_whole : PySem.W.keepIn K (.ref f_is_whole) = true)
    {fo_is_whole_from fk_is_whole_from fe_is_whole_from fm_is_whole_from fc_is_whole_from ft_is_whole_from : Value} {fD_is_whole_from fN_is_whole_from : Option Addr} {fS_is_whole_from : Array (Option Value)}
    (fa_is_whole_from : PySem.W.nsIn K mainGlobals "is_whole_from" = some (some (.ref f_is_whole_from)))
    (fl_is_whole_from : K.lookup f_is_whole_from = some ⟨fo_is_whole_from, fD_is_whole_from, .func (PySem.W.fnOf "is_whole_from" "is_whole_from" (defArgs (top 8)) (defBody (top 8)) (defScope (top 8)) .none fk_is_whole_from fe_is_whole_from fm_is_whole_from fN_is_whole_from fc_is_whole_from ft_is_whole_from), fS_is_whole_from⟩)
    (fcc_is_whole_from : PySem.W.codeIn K fc_is_whole_from "is_whole_from" = true)
    (fq_is_whole_from : PySem.W.keepIn K (.ref f_is_whole_from) = true)
    {fo_is_tuple_of_two fk_is_tuple_of_two fe_is_tuple_of_two fm_is_tuple_of_two fc_is_tuple_of_two ft_is_tuple_of_two : Value} {fD_is_tuple_of_two fN_is_tuple_of_two : Option Addr} {fS_is_tuple_of_two : Array (Option Value)}
    (fa_is_tuple_of_two : PySem.W.nsIn K mainGlobals "is_tuple_of_two" = some (some (.ref f_is_tuple_of_two)))
    (fl_is_tuple_of_two : K.lookup f_is_tuple_of_two = some ⟨fo_is_tuple_of_two, fD_is_tuple_of_two, .func (PySem.W.fnOf "is_tuple_of_two" "is_tuple_of_two" (defArgs (top 9)) (defBody (top 9)) (defScope (top 9)) .none fk_is_tuple_of_two fe_is_tuple_of_two fm_is_tuple_of_two fN_is_tuple_of_two fc_is_tuple_of_two ft_is_tuple_of_two), fS_is_tuple_of_two⟩)
    (fcc_is_tuple_of_two : PySem.W.codeIn K fc_is_tuple_of_two "is_tuple_of_two" = true)
    (fq_is_tuple_of_two : PySem.W.keepIn K (.ref f_is_tuple_of_two) = true)
    {fo_is_ascending fk_is_ascending fe_is_ascending fm_is_ascending fc_is_ascending ft_is_ascending : Value} {fD_is_ascending fN_is_ascending : Option Addr} {fS_is_ascending : Array (Option Value)}
    (fa_is_ascending : PySem.W.nsIn K mainGlobals "is_ascending" = some (some (.ref f_is_ascending)))
    (fl_is_ascending : K.lookup f_is_ascending = some ⟨fo_is_ascending, fD_is_ascending, .func (PySem.W.fnOf "is_ascending" "is_ascending" (defArgs (top 10)) (defBody (top 10)) (defScope (top 10)) .none fk_is_ascending fe_is_ascending fm_is_ascending fN_is_ascending fc_is_ascending ft_is_ascending), fS_is_ascending⟩)
    (fcc_is_ascending : PySem.W.codeIn K fc_is_ascending "is_ascending" = true)
    (fq_is_ascending : PySem.W.keepIn K (.ref f_is_ascending) = true)
    {fo_is_graph fk_is_graph fe_is_graph fm_is_graph fc_is_graph ft_is_graph : Value} {fD_is_graph fN_is_graph : Option Addr} {fS_is_graph : Array (Option Value)}
    (fa_is_graph : PySem.W.nsIn K mainGlobals "is_graph" = some (some (.ref f_is_graph)))
    (fl_is_graph : K.lookup f_is_graph = some ⟨fo_is_graph, fD_is_graph, .func (PySem.W.fnOf "is_graph" "is_graph" (defArgs (top 11)) (defBody (top 11)) (defScope (top 11)) .none fk_is_graph fe_is_graph fm_is_graph fN_is_graph fc_is_graph ft_is_graph), fS_is_graph⟩)
    (fcc_is_graph : PySem.W.codeIn K fc_is_graph "is_graph" = true)
    (fq_is_graph : PySem.W.keepIn K (.ref f_is_graph) = true)
    {fo_is_vertex_pair fk_is_vertex_pair fe_is_vertex_pair fm_is_vertex_pair fc_is_vertex_pair ft_is_vertex_pair : Value} {fD_is_vertex_pair fN_is_vertex_pair : Option Addr} {fS_is_vertex_pair : Array (Option Value)}
    (fa_is_vertex_pair : PySem.W.nsIn K mainGlobals "is_vertex_pair" = some (some (.ref f_is_vertex_pair)))
    (fl_is_vertex_pair : K.lookup f_is_vertex_pair = some ⟨fo_is_vertex_pair, fD_is_vertex_pair, .func (PySem.W.fnOf "is_vertex_pair" "is_vertex_pair" (defArgs (top 12)) (defBody (top 12)) (defScope (top 12)) .none fk_is_vertex_pair fe_is_vertex_pair fm_is_vertex_pair fN_is_vertex_pair fc_is_vertex_pair ft_is_vertex_pair), fS_is_vertex_pair⟩)
    (fcc_is_vertex_pair : PySem.W.codeIn K fc_is_vertex_pair "is_vertex_pair" = true)
    (fq_is_vertex_pair : PySem.W.keepIn K (.ref f_is_vertex_pair) = true)
    {fo_check_graph fk_check_graph fe_check_graph fm_check_graph fc_check_graph ft_check_graph : Value} {fD_check_graph fN_check_graph : Option Addr} {fS_check_graph : Array (Option Value)}
    (fa_check_graph : PySem.W.nsIn K mainGlobals "check_graph" = some (some (.ref f_check_graph)))
    (fl_check_graph : K.lookup f_check_graph = some ⟨fo_check_graph, fD_check_graph, .func (PySem.W.fnOf "check_graph" "check_graph" (defArgs (top 13)) (defBody (top 13)) (defScope (top 13)) .none fk_check_graph fe_check_graph fm_check_graph fN_check_graph fc_check_graph ft_check_graph), fS_check_graph⟩)
    (fcc_check_graph : PySem.W.codeIn K fc_check_graph "check_graph" = true)
    (fq_check_graph : PySem.W.keepIn K (.ref f_check_graph) = true)
    {fo_complement fk_complement fe_complement fm_complement fc_complement ft_complement : Value} {fD_complement fN_complement : Option Addr} {fS_complement : Array (Option Value)}
    (fa_complement : PySem.W.nsIn K mainGlobals "complement" = some (some (.ref f_complement)))
    (fl_complement : K.lookup f_complement = some ⟨fo_complement, fD_complement, .func (PySem.W.fnOf "complement" "complement" (defArgs (top 14)) (defBody (top 14)) (defScope (top 14)) .none fk_complement fe_complement fm_complement fN_complement fc_complement ft_complement), fS_complement⟩)
    (fcc_complement : PySem.W.codeIn K fc_complement "complement" = true)
    (fq_complement : PySem.W.keepIn K (.ref f_complement) = true)
    {fo_neighbour_masks fk_neighbour_masks fe_neighbour_masks fm_neighbour_masks fc_neighbour_masks ft_neighbour_masks : Value} {fD_neighbour_masks fN_neighbour_masks : Option Addr} {fS_neighbour_masks : Array (Option Value)}
    (fa_neighbour_masks : PySem.W.nsIn K mainGlobals "neighbour_masks" = some (some (.ref f_neighbour_masks)))
    (fl_neighbour_masks : K.lookup f_neighbour_masks = some ⟨fo_neighbour_masks, fD_neighbour_masks, .func (PySem.W.fnOf "neighbour_masks" "neighbour_masks" (defArgs (top 15)) (defBody (top 15)) (defScope (top 15)) .none fk_neighbour_masks fe_neighbour_masks fm_neighbour_masks fN_neighbour_masks fc_neighbour_masks ft_neighbour_masks), fS_neighbour_masks⟩)
    (fcc_neighbour_masks : PySem.W.codeIn K fc_neighbour_masks "neighbour_masks" = true)
    (fq_neighbour_masks : PySem.W.keepIn K (.ref f_neighbour_masks) = true)
    {fo_mask_of fk_mask_of fe_mask_of fm_mask_of fc_mask_of ft_mask_of : Value} {fD_mask_of fN_mask_of : Option Addr} {fS_mask_of : Array (Option Value)}
    (fa_mask_of : PySem.W.nsIn K mainGlobals "mask_of" = some (some (.ref f_mask_of)))
    (fl_mask_of : K.lookup f_mask_of = some ⟨fo_mask_of, fD_mask_of, .func (PySem.W.fnOf "mask_of" "mask_of" (defArgs (top 16)) (defBody (top 16)) (defScope (top 16)) .none fk_mask_of fe_mask_of fm_mask_of fN_mask_of fc_mask_of ft_mask_of), fS_mask_of⟩)
    (fcc_mask_of : PySem.W.codeIn K fc_mask_of "mask_of" = true)
    (fq_mask_of : PySem.W.keepIn K (.ref f_mask_of) = true)
    {fo_clique_masks fk_clique_masks fe_clique_masks fm_clique_masks fc_clique_masks ft_clique_masks : Value} {fD_clique_masks fN_clique_masks : Option Addr} {fS_clique_masks : Array (Option Value)}
    (fa_clique_masks : PySem.W.nsIn K mainGlobals "clique_masks" = some (some (.ref f_clique_masks)))
    (fl_clique_masks : K.lookup f_clique_masks = some ⟨fo_clique_masks, fD_clique_masks, .func (PySem.W.fnOf "clique_masks" "clique_masks" (defArgs (top 18)) (defBody (top 18)) (defScope (top 18)) .none fk_clique_masks fe_clique_masks fm_clique_masks fN_clique_masks fc_clique_masks ft_clique_masks), fS_clique_masks⟩)
    (fcc_clique_masks : PySem.W.codeIn K fc_clique_masks "clique_masks" = true)
    (fq_clique_masks : PySem.W.keepIn K (.ref f_clique_masks) = true)
    {fo_stable_masks fk_stable_masks fe_stable_masks fm_stable_masks fc_stable_masks ft_stable_masks : Value} {fD_stable_masks fN_stable_masks : Option Addr} {fS_stable_masks : Array (Option Value)}
    (fa_stable_masks : PySem.W.nsIn K mainGlobals "stable_masks" = some (some (.ref f_stable_masks)))
    (fl_stable_masks : K.lookup f_stable_masks = some ⟨fo_stable_masks, fD_stable_masks, .func (PySem.W.fnOf "stable_masks" "stable_masks" (defArgs (top 19)) (defBody (top 19)) (defScope (top 19)) .none fk_stable_masks fe_stable_masks fm_stable_masks fN_stable_masks fc_stable_masks ft_stable_masks), fS_stable_masks⟩)
    (fcc_stable_masks : PySem.W.codeIn K fc_stable_masks "stable_masks" = true)
    (fq_stable_masks : PySem.W.keepIn K (.ref f_stable_masks) = true)
    {fo_is_colouring fk_is_colouring fe_is_colouring fm_is_colouring fc_is_colouring ft_is_colouring : Value} {fD_is_colouring fN_is_colouring : Option Addr} {fS_is_colouring : Array (Option Value)}
    (fa_is_colouring : PySem.W.nsIn K mainGlobals "is_colouring" = some (some (.ref f_is_colouring)))
    (fl_is_colouring : K.lookup f_is_colouring = some ⟨fo_is_colouring, fD_is_colouring, .func (PySem.W.fnOf "is_colouring" "is_colouring" (defArgs (top 20)) (defBody (top 20)) (defScope (top 20)) .none fk_is_colouring fe_is_colouring fm_is_colouring fN_is_colouring fc_is_colouring ft_is_colouring), fS_is_colouring⟩)
    (fcc_is_colouring : PySem.W.codeIn K fc_is_colouring "is_colouring" = true)
    (fq_is_colouring : PySem.W.keepIn K (.ref f_is_colouring) = true)
    {fo_is_multigraph fk_is_multigraph fe_is_multigraph fm_is_multigraph fc_is_multigraph ft_is_multigraph : Value} {fD_is_multigraph fN_is_multigraph : Option Addr} {fS_is_multigraph : Array (Option Value)}
    (fa_is_multigraph : PySem.W.nsIn K mainGlobals "is_multigraph" = some (some (.ref f_is_multigraph)))
    (fl_is_multigraph : K.lookup f_is_multigraph = some ⟨fo_is_multigraph, fD_is_multigraph, .func (PySem.W.fnOf "is_multigraph" "is_multigraph" (defArgs (top 24)) (defBody (top 24)) (defScope (top 24)) .none fk_is_multigraph fe_is_multigraph fm_is_multigraph fN_is_multigraph fc_is_multigraph ft_is_multigraph), fS_is_multigraph⟩)
    (fcc_is_multigraph : PySem.W.codeIn K fc_is_multigraph "is_multigraph" = true)
    (fq_is_multigraph : PySem.W.keepIn K (.ref f_is_multigraph) = true)
    {fo__is_edge fk__is_edge fe__is_edge fm__is_edge fc__is_edge ft__is_edge : Value} {fD__is_edge fN__is_edge : Option Addr} {fS__is_edge : Array (Option Value)}
    (fa__is_edge : PySem.W.nsIn K mainGlobals "_is_edge" = some (some (.ref f__is_edge)))
    (fl__is_edge : K.lookup f__is_edge = some ⟨fo__is_edge, fD__is_edge, .func (PySem.W.fnOf "_is_edge" "_is_edge" (defArgs (top 25)) (defBody (top 25)) (defScope (top 25)) .none fk__is_edge fe__is_edge fm__is_edge fN__is_edge fc__is_edge ft__is_edge), fS__is_edge⟩)
    (fcc__is_edge : PySem.W.codeIn K fc__is_edge "_is_edge" = true)
    (fq__is_edge : PySem.W.keepIn K (.ref f__is_edge) = true)
    {fo__is_never_falling fk__is_never_falling fe__is_never_falling fm__is_never_falling fc__is_never_falling ft__is_never_falling : Value} {fD__is_never_falling fN__is_never_falling : Option Addr} {fS__is_never_falling : Array (Option Value)}
    (fa__is_never_falling : PySem.W.nsIn K mainGlobals "_is_never_falling" = some (some (.ref f__is_never_falling)))
    (fl__is_never_falling : K.lookup f__is_never_falling = some ⟨fo__is_never_falling, fD__is_never_falling, .func (PySem.W.fnOf "_is_never_falling" "_is_never_falling" (defArgs (top 26)) (defBody (top 26)) (defScope (top 26)) .none fk__is_never_falling fe__is_never_falling fm__is_never_falling fN__is_never_falling fc__is_never_falling ft__is_never_falling), fS__is_never_falling⟩)
    (fcc__is_never_falling : PySem.W.codeIn K fc__is_never_falling "_is_never_falling" = true)
    (fq__is_never_falling : PySem.W.keepIn K (.ref f__is_never_falling) = true)
    {fo_check_multigraph fk_check_multigraph fe_check_multigraph fm_check_multigraph fc_check_multigraph ft_check_multigraph : Value} {fD_check_multigraph fN_check_multigraph : Option Addr} {fS_check_multigraph : Array (Option Value)}
    (fa_check_multigraph : PySem.W.nsIn K mainGlobals "check_multigraph" = some (some (.ref f_check_multigraph)))
    (fl_check_multigraph : K.lookup f_check_multigraph = some ⟨fo_check_multigraph, fD_check_multigraph, .func (PySem.W.fnOf "check_multigraph" "check_multigraph" (defArgs (top 27)) (defBody (top 27)) (defScope (top 27)) .none fk_check_multigraph fe_check_multigraph fm_check_multigraph fN_check_multigraph fc_check_multigraph ft_check_multigraph), fS_check_multigraph⟩)
    (fcc_check_multigraph : PySem.W.codeIn K fc_check_multigraph "check_multigraph" = true)
    (fq_check_multigraph : PySem.W.keepIn K (.ref f_check_multigraph) = true)
    {fo_line_graph fk_line_graph fe_line_graph fm_line_graph fc_line_graph ft_line_graph : Value} {fD_line_graph fN_line_graph : Option Addr} {fS_line_graph : Array (Option Value)}
    (fa_line_graph : PySem.W.nsIn K mainGlobals "line_graph" = some (some (.ref f_line_graph)))
    (fl_line_graph : K.lookup f_line_graph = some ⟨fo_line_graph, fD_line_graph, .func (PySem.W.fnOf "line_graph" "line_graph" (defArgs (top 28)) (defBody (top 28)) (defScope (top 28)) .none fk_line_graph fe_line_graph fm_line_graph fN_line_graph fc_line_graph ft_line_graph), fS_line_graph⟩)
    (fcc_line_graph : PySem.W.codeIn K fc_line_graph "line_graph" = true)
    (fq_line_graph : PySem.W.keepIn K (.ref f_line_graph) = true)
    {fo__do_meet fk__do_meet fe__do_meet fm__do_meet fc__do_meet ft__do_meet : Value} {fD__do_meet fN__do_meet : Option Addr} {fS__do_meet : Array (Option Value)}
    (fa__do_meet : PySem.W.nsIn K mainGlobals "_do_meet" = some (some (.ref f__do_meet)))
    (fl__do_meet : K.lookup f__do_meet = some ⟨fo__do_meet, fD__do_meet, .func (PySem.W.fnOf "_do_meet" "_do_meet" (defArgs (top 29)) (defBody (top 29)) (defScope (top 29)) .none fk__do_meet fe__do_meet fm__do_meet fN__do_meet fc__do_meet ft__do_meet), fS__do_meet⟩)
    (fcc__do_meet : PySem.W.codeIn K fc__do_meet "_do_meet" = true)
    (fq__do_meet : PySem.W.keepIn K (.ref f__do_meet) = true)
    {fo_is_lists fk_is_lists fe_is_lists fm_is_lists fc_is_lists ft_is_lists : Value} {fD_is_lists fN_is_lists : Option Addr} {fS_is_lists : Array (Option Value)}
    (fa_is_lists : PySem.W.nsIn K mainGlobals "is_lists" = some (some (.ref f_is_lists)))
    (fl_is_lists : K.lookup f_is_lists = some ⟨fo_is_lists, fD_is_lists, .func (PySem.W.fnOf "is_lists" "is_lists" (defArgs (top 33)) (defBody (top 33)) (defScope (top 33)) .none fk_is_lists fe_is_lists fm_is_lists fN_is_lists fc_is_lists ft_is_lists), fS_is_lists⟩)
    (fcc_is_lists : PySem.W.codeIn K fc_is_lists "is_lists" = true)
    (fq_is_lists : PySem.W.keepIn K (.ref f_is_lists) = true)
    {fo__is_list fk__is_list fe__is_list fm__is_list fc__is_list ft__is_list : Value} {fD__is_list fN__is_list : Option Addr} {fS__is_list : Array (Option Value)}
    (fa__is_list : PySem.W.nsIn K mainGlobals "_is_list" = some (some (.ref f__is_list)))
    (fl__is_list : K.lookup f__is_list = some ⟨fo__is_list, fD__is_list, .func (PySem.W.fnOf "_is_list" "_is_list" (defArgs (top 34)) (defBody (top 34)) (defScope (top 34)) .none fk__is_list fe__is_list fm__is_list fN__is_list fc__is_list ft__is_list), fS__is_list⟩)
    (fcc__is_list : PySem.W.codeIn K fc__is_list "_is_list" = true)
    (fq__is_list : PySem.W.keepIn K (.ref f__is_list) = true)
    {fo_check_lists fk_check_lists fe_check_lists fm_check_lists fc_check_lists ft_check_lists : Value} {fD_check_lists fN_check_lists : Option Addr} {fS_check_lists : Array (Option Value)}
    (fa_check_lists : PySem.W.nsIn K mainGlobals "check_lists" = some (some (.ref f_check_lists)))
    (fl_check_lists : K.lookup f_check_lists = some ⟨fo_check_lists, fD_check_lists, .func (PySem.W.fnOf "check_lists" "check_lists" (defArgs (top 35)) (defBody (top 35)) (defScope (top 35)) .none fk_check_lists fe_check_lists fm_check_lists fN_check_lists fc_check_lists ft_check_lists), fS_check_lists⟩)
    (fcc_check_lists : PySem.W.codeIn K fc_check_lists "check_lists" = true)
    (fq_check_lists : PySem.W.keepIn K (.ref f_check_lists) = true)
    {fo_is_from_lists fk_is_from_lists fe_is_from_lists fm_is_from_lists fc_is_from_lists ft_is_from_lists : Value} {fD_is_from_lists fN_is_from_lists : Option Addr} {fS_is_from_lists : Array (Option Value)}
    (fa_is_from_lists : PySem.W.nsIn K mainGlobals "is_from_lists" = some (some (.ref f_is_from_lists)))
    (fl_is_from_lists : K.lookup f_is_from_lists = some ⟨fo_is_from_lists, fD_is_from_lists, .func (PySem.W.fnOf "is_from_lists" "is_from_lists" (defArgs (top 36)) (defBody (top 36)) (defScope (top 36)) .none fk_is_from_lists fe_is_from_lists fm_is_from_lists fN_is_from_lists fc_is_from_lists ft_is_from_lists), fS_is_from_lists⟩)
    (fcc_is_from_lists : PySem.W.codeIn K fc_is_from_lists "is_from_lists" = true)
    (fq_is_from_lists : PySem.W.keepIn K (.ref f_is_from_lists) = true)
    {fo_list_colouring fk_list_colouring fe_list_colouring fm_list_colouring fc_list_colouring ft_list_colouring : Value} {fD_list_colouring fN_list_colouring : Option Addr} {fS_list_colouring : Array (Option Value)}
    (fa_list_colouring : PySem.W.nsIn K mainGlobals "list_colouring" = some (some (.ref f_list_colouring)))
    (fl_list_colouring : K.lookup f_list_colouring = some ⟨fo_list_colouring, fD_list_colouring, .func (PySem.W.fnOf "list_colouring" "list_colouring" (defArgs (top 37)) (defBody (top 37)) (defScope (top 37)) .none fk_list_colouring fe_list_colouring fm_list_colouring fN_list_colouring fc_list_colouring ft_list_colouring), fS_list_colouring⟩)
    (fcc_list_colouring : PySem.W.codeIn K fc_list_colouring "list_colouring" = true)
    (fq_list_colouring : PySem.W.keepIn K (.ref f_list_colouring) = true)
    {fo__colours_in fk__colours_in fe__colours_in fm__colours_in fc__colours_in ft__colours_in : Value} {fD__colours_in fN__colours_in : Option Addr} {fS__colours_in : Array (Option Value)}
    (fa__colours_in : PySem.W.nsIn K mainGlobals "_colours_in" = some (some (.ref f__colours_in)))
    (fl__colours_in : K.lookup f__colours_in = some ⟨fo__colours_in, fD__colours_in, .func (PySem.W.fnOf "_colours_in" "_colours_in" (defArgs (top 38)) (defBody (top 38)) (defScope (top 38)) .none fk__colours_in fe__colours_in fm__colours_in fN__colours_in fc__colours_in ft__colours_in), fS__colours_in⟩)
    (fcc__colours_in : PySem.W.codeIn K fc__colours_in "_colours_in" = true)
    (fq__colours_in : PySem.W.keepIn K (.ref f__colours_in) = true)
    {fo__edges_with fk__edges_with fe__edges_with fm__edges_with fc__edges_with ft__edges_with : Value} {fD__edges_with fN__edges_with : Option Addr} {fS__edges_with : Array (Option Value)}
    (fa__edges_with : PySem.W.nsIn K mainGlobals "_edges_with" = some (some (.ref f__edges_with)))
    (fl__edges_with : K.lookup f__edges_with = some ⟨fo__edges_with, fD__edges_with, .func (PySem.W.fnOf "_edges_with" "_edges_with" (defArgs (top 39)) (defBody (top 39)) (defScope (top 39)) .none fk__edges_with fe__edges_with fm__edges_with fN__edges_with fc__edges_with ft__edges_with), fS__edges_with⟩)
    (fcc__edges_with : PySem.W.codeIn K fc__edges_with "_edges_with" = true)
    (fq__edges_with : PySem.W.keepIn K (.ref f__edges_with) = true)
    {fo__law_pot fk__law_pot fe__law_pot fm__law_pot fc__law_pot ft__law_pot : Value} {fD__law_pot fN__law_pot : Option Addr} {fS__law_pot : Array (Option Value)}
    (fa__law_pot : PySem.W.nsIn K mainGlobals "_law_pot" = some (some (.ref f__law_pot)))
    (fl__law_pot : K.lookup f__law_pot = some ⟨fo__law_pot, fD__law_pot, .func (PySem.W.fnOf "_law_pot" "_law_pot" (defArgs (top 41)) (defBody (top 41)) (defScope (top 41)) .none fk__law_pot fe__law_pot fm__law_pot fN__law_pot fc__law_pot ft__law_pot), fS__law_pot⟩)
    (fcc__law_pot : PySem.W.codeIn K fc__law_pot "_law_pot" = true)
    (fq__law_pot : PySem.W.keepIn K (.ref f__law_pot) = true)
    {fo__law_draw fk__law_draw fe__law_draw fm__law_draw fc__law_draw ft__law_draw : Value} {fD__law_draw fN__law_draw : Option Addr} {fS__law_draw : Array (Option Value)}
    (fa__law_draw : PySem.W.nsIn K mainGlobals "_law_draw" = some (some (.ref f__law_draw)))
    (fl__law_draw : K.lookup f__law_draw = some ⟨fo__law_draw, fD__law_draw, .func (PySem.W.fnOf "_law_draw" "_law_draw" (defArgs (top 42)) (defBody (top 42)) (defScope (top 42)) .none fk__law_draw fe__law_draw fm__law_draw fN__law_draw fc__law_draw ft__law_draw), fS__law_draw⟩)
    (fcc__law_draw : PySem.W.codeIn K fc__law_draw "_law_draw" = true)
    (fq__law_draw : PySem.W.keepIn K (.ref f__law_draw) = true)
    {fo__law_pick fk__law_pick fe__law_pick fm__law_pick fc__law_pick ft__law_pick : Value} {fD__law_pick fN__law_pick : Option Addr} {fS__law_pick : Array (Option Value)}
    (fa__law_pick : PySem.W.nsIn K mainGlobals "_law_pick" = some (some (.ref f__law_pick)))
    (fl__law_pick : K.lookup f__law_pick = some ⟨fo__law_pick, fD__law_pick, .func (PySem.W.fnOf "_law_pick" "_law_pick" (defArgs (top 43)) (defBody (top 43)) (defScope (top 43)) .none fk__law_pick fe__law_pick fm__law_pick fN__law_pick fc__law_pick ft__law_pick), fS__law_pick⟩)
    (fcc__law_pick : PySem.W.codeIn K fc__law_pick "_law_pick" = true)
    (fq__law_pick : PySem.W.keepIn K (.ref f__law_pick) = true)
    {fo__law_mixed fk__law_mixed fe__law_mixed fm__law_mixed fc__law_mixed ft__law_mixed : Value} {fD__law_mixed fN__law_mixed : Option Addr} {fS__law_mixed : Array (Option Value)}
    (fa__law_mixed : PySem.W.nsIn K mainGlobals "_law_mixed" = some (some (.ref f__law_mixed)))
    (fl__law_mixed : K.lookup f__law_mixed = some ⟨fo__law_mixed, fD__law_mixed, .func (PySem.W.fnOf "_law_mixed" "_law_mixed" (defArgs (top 44)) (defBody (top 44)) (defScope (top 44)) .none fk__law_mixed fe__law_mixed fm__law_mixed fN__law_mixed fc__law_mixed ft__law_mixed), fS__law_mixed⟩)
    (fcc__law_mixed : PySem.W.codeIn K fc__law_mixed "_law_mixed" = true)
    (fq__law_mixed : PySem.W.keepIn K (.ref f__law_mixed) = true)
    {fo__law_is_whole fk__law_is_whole fe__law_is_whole fm__law_is_whole fc__law_is_whole ft__law_is_whole : Value} {fD__law_is_whole fN__law_is_whole : Option Addr} {fS__law_is_whole : Array (Option Value)}
    (fa__law_is_whole : PySem.W.nsIn K mainGlobals "_law_is_whole" = some (some (.ref f__law_is_whole)))
    (fl__law_is_whole : K.lookup f__law_is_whole = some ⟨fo__law_is_whole, fD__law_is_whole, .func (PySem.W.fnOf "_law_is_whole" "_law_is_whole" (defArgs (top 45)) (defBody (top 45)) (defScope (top 45)) .none fk__law_is_whole fe__law_is_whole fm__law_is_whole fN__law_is_whole fc__law_is_whole ft__law_is_whole), fS__law_is_whole⟩)
    (fcc__law_is_whole : PySem.W.codeIn K fc__law_is_whole "_law_is_whole" = true)
    (fq__law_is_whole : PySem.W.keepIn K (.ref f__law_is_whole) = true)
    {fo__law_multi fk__law_multi fe__law_multi fm__law_multi fc__law_multi ft__law_multi : Value} {fD__law_multi fN__law_multi : Option Addr} {fS__law_multi : Array (Option Value)}
    (fa__law_multi : PySem.W.nsIn K mainGlobals "_law_multi" = some (some (.ref f__law_multi)))
    (fl__law_multi : K.lookup f__law_multi = some ⟨fo__law_multi, fD__law_multi, .func (PySem.W.fnOf "_law_multi" "_law_multi" (defArgs (top 46)) (defBody (top 46)) (defScope (top 46)) .none fk__law_multi fe__law_multi fm__law_multi fN__law_multi fc__law_multi ft__law_multi), fS__law_multi⟩)
    (fcc__law_multi : PySem.W.codeIn K fc__law_multi "_law_multi" = true)
    (fq__law_multi : PySem.W.keepIn K (.ref f__law_multi) = true)
    {fo__law_near fk__law_near fe__law_near fm__law_near fc__law_near ft__law_near : Value} {fD__law_near fN__law_near : Option Addr} {fS__law_near : Array (Option Value)}
    (fa__law_near : PySem.W.nsIn K mainGlobals "_law_near" = some (some (.ref f__law_near)))
    (fl__law_near : K.lookup f__law_near = some ⟨fo__law_near, fD__law_near, .func (PySem.W.fnOf "_law_near" "_law_near" (defArgs (top 47)) (defBody (top 47)) (defScope (top 47)) .none fk__law_near fe__law_near fm__law_near fN__law_near fc__law_near ft__law_near), fS__law_near⟩)
    (fcc__law_near : PySem.W.codeIn K fc__law_near "_law_near" = true)
    (fq__law_near : PySem.W.keepIn K (.ref f__law_near) = true)
    {fo__law_is_proper fk__law_is_proper fe__law_is_proper fm__law_is_proper fc__law_is_proper ft__law_is_proper : Value} {fD__law_is_proper fN__law_is_proper : Option Addr} {fS__law_is_proper : Array (Option Value)}
    (fa__law_is_proper : PySem.W.nsIn K mainGlobals "_law_is_proper" = some (some (.ref f__law_is_proper)))
    (fl__law_is_proper : K.lookup f__law_is_proper = some ⟨fo__law_is_proper, fD__law_is_proper, .func (PySem.W.fnOf "_law_is_proper" "_law_is_proper" (defArgs (top 48)) (defBody (top 48)) (defScope (top 48)) .none fk__law_is_proper fe__law_is_proper fm__law_is_proper fN__law_is_proper fc__law_is_proper ft__law_is_proper), fS__law_is_proper⟩)
    (fcc__law_is_proper : PySem.W.codeIn K fc__law_is_proper "_law_is_proper" = true)
    (fq__law_is_proper : PySem.W.keepIn K (.ref f__law_is_proper) = true)
    {fo__law_lists fk__law_lists fe__law_lists fm__law_lists fc__law_lists ft__law_lists : Value} {fD__law_lists fN__law_lists : Option Addr} {fS__law_lists : Array (Option Value)}
    (fa__law_lists : PySem.W.nsIn K mainGlobals "_law_lists" = some (some (.ref f__law_lists)))
    (fl__law_lists : K.lookup f__law_lists = some ⟨fo__law_lists, fD__law_lists, .func (PySem.W.fnOf "_law_lists" "_law_lists" (defArgs (top 49)) (defBody (top 49)) (defScope (top 49)) .none fk__law_lists fe__law_lists fm__law_lists fN__law_lists fc__law_lists ft__law_lists), fS__law_lists⟩)
    (fcc__law_lists : PySem.W.codeIn K fc__law_lists "_law_lists" = true)
    (fq__law_lists : PySem.W.keepIn K (.ref f__law_lists) = true)
    {fo__law_is_from fk__law_is_from fe__law_is_from fm__law_is_from fc__law_is_from ft__law_is_from : Value} {fD__law_is_from fN__law_is_from : Option Addr} {fS__law_is_from : Array (Option Value)}
    (fa__law_is_from : PySem.W.nsIn K mainGlobals "_law_is_from" = some (some (.ref f__law_is_from)))
    (fl__law_is_from : K.lookup f__law_is_from = some ⟨fo__law_is_from, fD__law_is_from, .func (PySem.W.fnOf "_law_is_from" "_law_is_from" (defArgs (top 50)) (defBody (top 50)) (defScope (top 50)) .none fk__law_is_from fe__law_is_from fm__law_is_from fN__law_is_from fc__law_is_from ft__law_is_from), fS__law_is_from⟩)
    (fcc__law_is_from : PySem.W.codeIn K fc__law_is_from "_law_is_from" = true)
    (fq__law_is_from : PySem.W.keepIn K (.ref f__law_is_from) = true)
    {fo__law_found fk__law_found fe__law_found fm__law_found fc__law_found ft__law_found : Value} {fD__law_found fN__law_found : Option Addr} {fS__law_found : Array (Option Value)}
    (fa__law_found : PySem.W.nsIn K mainGlobals "_law_found" = some (some (.ref f__law_found)))
    (fl__law_found : K.lookup f__law_found = some ⟨fo__law_found, fD__law_found, .func (PySem.W.fnOf "_law_found" "_law_found" (defArgs (top 51)) (defBody (top 51)) (defScope (top 51)) .none fk__law_found fe__law_found fm__law_found fN__law_found fc__law_found ft__law_found), fS__law_found⟩)
    (fcc__law_found : PySem.W.codeIn K fc__law_found "_law_found" = true)
    (fq__law_found : PySem.W.keepIn K (.ref f__law_found) = true)
    {fo__law_right fk__law_right fe__law_right fm__law_right fc__law_right ft__law_right : Value} {fD__law_right fN__law_right : Option Addr} {fS__law_right : Array (Option Value)}
    (fa__law_right : PySem.W.nsIn K mainGlobals "_law_right" = some (some (.ref f__law_right)))
    (fl__law_right : K.lookup f__law_right = some ⟨fo__law_right, fD__law_right, .func (PySem.W.fnOf "_law_right" "_law_right" (defArgs (top 52)) (defBody (top 52)) (defScope (top 52)) .none fk__law_right fe__law_right fm__law_right fN__law_right fc__law_right ft__law_right), fS__law_right⟩)
    (fcc__law_right : PySem.W.codeIn K fc__law_right "_law_right" = true)
    (fq__law_right : PySem.W.keepIn K (.ref f__law_right) = true)
    {fo_law fk_law fe_law fm_law fc_law ft_law : Value} {fD_law fN_law : Option Addr} {fS_law : Array (Option Value)}
    (fa_law : PySem.W.nsIn K mainGlobals "law" = some (some (.ref f_law)))
    (fl_law : K.lookup f_law = some ⟨fo_law, fD_law, .func (PySem.W.fnOf "law" "law" (defArgs (top 53)) (defBody (top 53)) (defScope (top 53)) .none fk_law fe_law fm_law fN_law fc_law ft_law), fS_law⟩)
    (fcc_law : PySem.W.codeIn K fc_law "law" = true)
    (fq_law : PySem.W.keepIn K (.ref f_law) = true)
    (gS : PySem.W.nsIn K mainGlobals "MOST_ON_A_SIDE" = some (some (.int 9 tkS)))
    (gE : PySem.W.nsIn K mainGlobals "MOST_EDGES" = some (some (.int 9 tkE)))
    (gV : PySem.W.nsIn K mainGlobals "MOST_VERTICES" = some (some (.int 9 tkV)))
    (gL : PySem.W.nsIn K mainGlobals "MOST_IN_A_LIST" = some (some (.int 9 tkL)))
    (gC : PySem.W.nsIn K mainGlobals "GREATEST_COLOUR" = some (some (.int 99 tkC)))
    (z_len : PySem.W.nsIn K mainGlobals "len" = some none)
    (z_int : PySem.W.nsIn K mainGlobals "int" = some none)
    (z_abs : PySem.W.nsIn K mainGlobals "abs" = some none)
    (z_divmod : PySem.W.nsIn K mainGlobals "divmod" = some none)
    (z_repr : PySem.W.nsIn K mainGlobals "repr" = some none)
    (z_isinstance : PySem.W.nsIn K mainGlobals "isinstance" = some none)
    (z_bool : PySem.W.nsIn K mainGlobals "bool" = some none)
    (z_str : PySem.W.nsIn K mainGlobals "str" = some none)
    (z_range : PySem.W.nsIn K mainGlobals "range" = some none)
    (z_all : PySem.W.nsIn K mainGlobals "all" = some none)
    (z_max : PySem.W.nsIn K mainGlobals "max" = some none)
    (z_min : PySem.W.nsIn K mainGlobals "min" = some none)
    (z_list : PySem.W.nsIn K mainGlobals "list" = some none)
    (z_tuple : PySem.W.nsIn K mainGlobals "tuple" = some none)
    (z_sorted : PySem.W.nsIn K mainGlobals "sorted" = some none)
    (z_type : PySem.W.nsIn K mainGlobals "type" = some none)
    (z_enumerate : PySem.W.nsIn K mainGlobals "enumerate" = some none)
    (z_zip : PySem.W.nsIn K mainGlobals "zip" = some none)
    (z_set : PySem.W.nsIn K mainGlobals "set" = some none)
    (z_sum : PySem.W.nsIn K mainGlobals "sum" = some none)
    : ∃ fd : FuncData, (∀ (s : Shared) (v : Value), BindsTo s fd ⟨[v], []⟩ [("script", v)]) ∧ ∀ base : Heap, K.In base → base.Ns mainGlobals mg → FnG l.prog w K mg base CX0 14 fa fd ["script"] (spLaw K) := by
  have e := hfa.symm.trans (PySem.W.mg_of X GN fa_law)
  cases e
  have F_is_whole := fun_mk (st := top 7) fl_is_whole fcc_is_whole fq_is_whole
  have B_is_whole := F_is_whole.binds (ps := ["value", "low", "high"]) fun _ _ _ _ _ _ us hl => match us, hl with | [_, _, _], _ => rfl
  have F_is_whole_from := fun_mk (st := top 8) fl_is_whole_from fcc_is_whole_from fq_is_whole_from
  have B_is_whole_from := F_is_whole_from.binds (ps := ["value", "low"]) fun _ _ _ _ _ _ us hl => match us, hl with | [_, _], _ => rfl
  have F_is_tuple_of_two := fun_mk (st := top 9) fl_is_tuple_of_two fcc_is_tuple_of_two fq_is_tuple_of_two
  have B_is_tuple_of_two := F_is_tuple_of_two.binds (ps := ["value"]) fun _ _ _ _ _ _ us hl => match us, hl with | [_], _ => rfl
  have F_is_ascending := fun_mk (st := top 10) fl_is_ascending fcc_is_ascending fq_is_ascending
  have B_is_ascending := F_is_ascending.binds (ps := ["row"]) fun _ _ _ _ _ _ us hl => match us, hl with | [_], _ => rfl
  have F_is_graph := fun_mk (st := top 11) fl_is_graph fcc_is_graph fq_is_graph
  have B_is_graph := F_is_graph.binds (ps := ["value"]) fun _ _ _ _ _ _ us hl => match us, hl with | [_], _ => rfl
  have F_is_vertex_pair := fun_mk (st := top 12) fl_is_vertex_pair fcc_is_vertex_pair fq_is_vertex_pair
  have B_is_vertex_pair := F_is_vertex_pair.binds (ps := ["value", "many"]) fun _ _ _ _ _ _ us hl => match us, hl with | [_, _], _ => rfl
  have F_check_graph := fun_mk (st := top 13) fl_check_graph fcc_check_graph fq_check_graph
  have B_check_graph := F_check_graph.binds (ps := ["graph"]) fun _ _ _ _ _ _ us hl => match us, hl with | [_], _ => rfl
  have F_complement := fun_mk (st := top 14) fl_complement fcc_complement fq_complement
  have B_complement := F_complement.binds (ps := ["graph"]) fun _ _ _ _ _ _ us hl => match us, hl with | [_], _ => rfl
  have F_neighbour_masks := fun_mk (st := top 15) fl_neighbour_masks fcc_neighbour_masks fq_neighbour_masks
  have B_neighbour_masks := F_neighbour_masks.binds (ps := ["graph"]) fun _ _ _ _ _ _ us hl => match us, hl with | [_], _ => rfl
  have F_mask_of := fun_mk (st := top 16) fl_mask_of fcc_mask_of fq_mask_of
  have B_mask_of := F_mask_of.binds (ps := ["lot"]) fun _ _ _ _ _ _ us hl => match us, hl with | [_], _ => rfl
  have F_clique_masks := fun_mk (st := top 18) fl_clique_masks fcc_clique_masks fq_clique_masks
  have B_clique_masks := F_clique_masks.binds (ps := ["neighbours"]) fun _ _ _ _ _ _ us hl => match us, hl with | [_], _ => rfl
  have F_stable_masks := fun_mk (st := top 19) fl_stable_masks fcc_stable_masks fq_stable_masks
  have B_stable_masks := F_stable_masks.binds (ps := ["graph"]) fun _ _ _ _ _ _ us hl => match us, hl with | [_], _ => rfl
  have F_is_colouring := fun_mk (st := top 20) fl_is_colouring fcc_is_colouring fq_is_colouring
  have B_is_colouring := F_is_colouring.binds (ps := ["graph", "value"]) fun _ _ _ _ _ _ us hl => match us, hl with | [_, _], _ => rfl
  have F_is_multigraph := fun_mk (st := top 24) fl_is_multigraph fcc_is_multigraph fq_is_multigraph
  have B_is_multigraph := F_is_multigraph.binds (ps := ["value"]) fun _ _ _ _ _ _ us hl => match us, hl with | [_], _ => rfl
  have F__is_edge := fun_mk (st := top 25) fl__is_edge fcc__is_edge fq__is_edge
  have B__is_edge := F__is_edge.binds (ps := ["value", "left", "right"]) fun _ _ _ _ _ _ us hl => match us, hl with | [_, _, _], _ => rfl
  have F__is_never_falling := fun_mk (st := top 26) fl__is_never_falling fcc__is_never_falling fq__is_never_falling
  have B__is_never_falling := F__is_never_falling.binds (ps := ["edges"]) fun _ _ _ _ _ _ us hl => match us, hl with | [_], _ => rfl
  have F_check_multigraph := fun_mk (st := top 27) fl_check_multigraph fcc_check_multigraph fq_check_multigraph
  have B_check_multigraph := F_check_multigraph.binds (ps := ["multigraph"]) fun _ _ _ _ _ _ us hl => match us, hl with | [_], _ => rfl
  have F_line_graph := fun_mk (st := top 28) fl_line_graph fcc_line_graph fq_line_graph
  have B_line_graph := F_line_graph.binds (ps := ["multigraph"]) fun _ _ _ _ _ _ us hl => match us, hl with | [_], _ => rfl
  have F__do_meet := fun_mk (st := top 29) fl__do_meet fcc__do_meet fq__do_meet
  have B__do_meet := F__do_meet.binds (ps := ["edge", "other"]) fun _ _ _ _ _ _ us hl => match us, hl with | [_, _], _ => rfl
  have F_is_lists := fun_mk (st := top 33) fl_is_lists fcc_is_lists fq_is_lists
  have B_is_lists := F_is_lists.binds (ps := ["multigraph", "value"]) fun _ _ _ _ _ _ us hl => match us, hl with | [_, _], _ => rfl
  have F__is_list := fun_mk (st := top 34) fl__is_list fcc__is_list fq__is_list
  have B__is_list := F__is_list.binds (ps := ["value"]) fun _ _ _ _ _ _ us hl => match us, hl with | [_], _ => rfl
  have F_check_lists := fun_mk (st := top 35) fl_check_lists fcc_check_lists fq_check_lists
  have B_check_lists := F_check_lists.binds (ps := ["multigraph", "lists"]) fun _ _ _ _ _ _ us hl => match us, hl with | [_, _], _ => rfl
  have F_is_from_lists := fun_mk (st := top 36) fl_is_from_lists fcc_is_from_lists fq_is_from_lists
  have B_is_from_lists := F_is_from_lists.binds (ps := ["multigraph", "lists", "value"]) fun _ _ _ _ _ _ us hl => match us, hl with | [_, _, _], _ => rfl
  have F_list_colouring := fun_mk (st := top 37) fl_list_colouring fcc_list_colouring fq_list_colouring
  have B_list_colouring := F_list_colouring.binds (ps := ["multigraph", "lists"]) fun _ _ _ _ _ _ us hl => match us, hl with | [_, _], _ => rfl
  have F__colours_in := fun_mk (st := top 38) fl__colours_in fcc__colours_in fq__colours_in
  have B__colours_in := F__colours_in.binds (ps := ["lists"]) fun _ _ _ _ _ _ us hl => match us, hl with | [_], _ => rfl
  have F__edges_with := fun_mk (st := top 39) fl__edges_with fcc__edges_with fq__edges_with
  have B__edges_with := F__edges_with.binds (ps := ["colour", "lists"]) fun _ _ _ _ _ _ us hl => match us, hl with | [_, _], _ => rfl
  have F__law_pot := fun_mk (st := top 41) fl__law_pot fcc__law_pot fq__law_pot
  have B__law_pot := F__law_pot.binds (ps := ["script", "turn"]) fun _ _ _ _ _ _ us hl => match us, hl with | [_, _], _ => rfl
  have F__law_draw := fun_mk (st := top 42) fl__law_draw fcc__law_draw fq__law_draw
  have B__law_draw := F__law_draw.binds (ps := ["pot", "few"]) fun _ _ _ _ _ _ us hl => match us, hl with | [_, _], _ => rfl
  have F__law_pick := fun_mk (st := top 43) fl__law_pick fcc__law_pick fq__law_pick
  have B__law_pick := F__law_pick.binds (ps := ["pot", "some"]) fun _ _ _ _ _ _ us hl => match us, hl with | [_, _], _ => rfl
  have F__law_mixed := fun_mk (st := top 44) fl__law_mixed fcc__law_mixed fq__law_mixed
  have B__law_mixed := F__law_mixed.binds (ps := ["pot", "some"]) fun _ _ _ _ _ _ us hl => match us, hl with | [_, _], _ => rfl
  have F__law_is_whole := fun_mk (st := top 45) fl__law_is_whole fcc__law_is_whole fq__law_is_whole
  have B__law_is_whole := F__law_is_whole.binds (ps := ["value"]) fun _ _ _ _ _ _ us hl => match us, hl with | [_], _ => rfl
  have F__law_multi := fun_mk (st := top 46) fl__law_multi fcc__law_multi fq__law_multi
  have B__law_multi := F__law_multi.binds (ps := ["pot", "most"]) fun _ _ _ _ _ _ us hl => match us, hl with | [_, _], _ => rfl
  have F__law_near := fun_mk (st := top 47) fl__law_near fcc__law_near fq__law_near
  have B__law_near := F__law_near.binds (ps := ["multi", "one", "two"]) fun _ _ _ _ _ _ us hl => match us, hl with | [_, _, _], _ => rfl
  have F__law_is_proper := fun_mk (st := top 48) fl__law_is_proper fcc__law_is_proper fq__law_is_proper
  have B__law_is_proper := F__law_is_proper.binds (ps := ["multi", "value", "most"]) fun _ _ _ _ _ _ us hl => match us, hl with | [_, _, _], _ => rfl
  have F__law_lists := fun_mk (st := top 49) fl__law_lists fcc__law_lists fq__law_lists
  have B__law_lists := F__law_lists.binds (ps := ["pot", "multi", "low", "high"]) fun _ _ _ _ _ _ us hl => match us, hl with | [_, _, _, _], _ => rfl
  have F__law_is_from := fun_mk (st := top 50) fl__law_is_from fcc__law_is_from fq__law_is_from
  have B__law_is_from := F__law_is_from.binds (ps := ["multi", "lists", "value"]) fun _ _ _ _ _ _ us hl => match us, hl with | [_, _, _], _ => rfl
  have F__law_found := fun_mk (st := top 51) fl__law_found fcc__law_found fq__law_found
  have B__law_found := F__law_found.binds (ps := ["multi", "lists", "begun"]) fun _ _ _ _ _ _ us hl => match us, hl with | [_, _, _], _ => rfl
  have F__law_right := fun_mk (st := top 52) fl__law_right fcc__law_right fq__law_right
  have B__law_right := F__law_right.binds (ps := ["pot"]) fun _ _ _ _ _ _ us hl => match us, hl with | [_], _ => rfl
  have F_law := fun_mk (st := top 53) fl_law fcc_law fq_law
  have B_law := F_law.binds (ps := ["script"]) fun _ _ _ _ _ _ us hl => match us, hl with | [_], _ => rfl
  have m_len := PySem.W.mg_none_of X GN z_len
  have m_int := PySem.W.mg_none_of X GN z_int
  have m_abs := PySem.W.mg_none_of X GN z_abs
  have m_divmod := PySem.W.mg_none_of X GN z_divmod
  have m_repr := PySem.W.mg_none_of X GN z_repr
  have m_isinstance := PySem.W.mg_none_of X GN z_isinstance
  have m_bool := PySem.W.mg_none_of X GN z_bool
  have m_str := PySem.W.mg_none_of X GN z_str
  have m_range := PySem.W.mg_none_of X GN z_range
  have m_all := PySem.W.mg_none_of X GN z_all
  have m_max := PySem.W.mg_none_of X GN z_max
  have m_min := PySem.W.mg_none_of X GN z_min
  have m_list := PySem.W.mg_none_of X GN z_list
  have m_tuple := PySem.W.mg_none_of X GN z_tuple
  have m_sorted := PySem.W.mg_none_of X GN z_sorted
  have m_type := PySem.W.mg_none_of X GN z_type
  have m_enumerate := PySem.W.mg_none_of X GN z_enumerate
  have m_zip := PySem.W.mg_none_of X GN z_zip
  have m_set := PySem.W.mg_none_of X GN z_set
  have m_sum := PySem.W.mg_none_of X GN z_sum
  have mS := PySem.W.mg_of X GN gS
  have mE := PySem.W.mg_of X GN gE
  have mV := PySem.W.mg_of X GN gV
  have mL := PySem.W.mg_of X GN gL
  have mC := PySem.W.mg_of X GN gC
  refine ⟨PySem.W.fnOf "law" "law" (defArgs (top 53)) (defBody (top 53)) (defScope (top 53)) .none fk_law fe_law fm_law fN_law fc_law ft_law, fun s v => .of_eq rfl, fun base _ _ => ?_⟩
  have O__law_pot := ok_pot (P := l.prog) (w := w) (K := K) (mg := mg) (base := base) F__law_pot m_len m_int m_abs
  have O__law_draw := ok_draw (P := l.prog) (w := w) (K := K) (mg := mg) (base := base) F__law_draw m_divmod m_int
  have O__law_pick := ok_pickL (P := l.prog) (w := w) (K := K) (mg := mg) (base := base) F__law_pick O__law_draw B__law_draw fq__law_draw (PySem.W.mg_of X GN fa__law_draw) m_len
  have O__law_mixed := ok_mixed (P := l.prog) (w := w) (K := K) (mg := mg) (base := base) F__law_mixed O__law_draw B__law_draw fq__law_draw (PySem.W.mg_of X GN fa__law_draw) m_len m_range m_list
  have O_is_whole_from := ok_whole_from (P := l.prog) (w := w) (K := K) (mg := mg) (base := base) F_is_whole_from m_type m_int
  have O_is_whole := ok_is_whole (P := l.prog) (w := w) (K := K) (mg := mg) (base := base) F_is_whole O_is_whole_from B_is_whole_from fq_is_whole_from (PySem.W.mg_of X GN fa_is_whole_from)
  have O_is_tuple_of_two := ok_is_two (P := l.prog) (w := w) (K := K) (mg := mg) (base := base) F_is_tuple_of_two m_type m_tuple m_len
  have O_is_ascending := ok_asc (P := l.prog) (w := w) (K := K) (mg := mg) (base := base) F_is_ascending m_all m_zip
  have O_is_vertex_pair := ok_vp (P := l.prog) (w := w) (K := K) (mg := mg) (base := base) F_is_vertex_pair O_is_tuple_of_two B_is_tuple_of_two fq_is_tuple_of_two (PySem.W.mg_of X GN fa_is_tuple_of_two) O_is_whole B_is_whole fq_is_whole (PySem.W.mg_of X GN fa_is_whole) m_all
  have O_is_graph := ok_is_graph (P := l.prog) (w := w) (K := K) (mg := mg) (base := base) F_is_graph O_is_tuple_of_two B_is_tuple_of_two fq_is_tuple_of_two (PySem.W.mg_of X GN fa_is_tuple_of_two) O_is_whole B_is_whole fq_is_whole (PySem.W.mg_of X GN fa_is_whole) O_is_vertex_pair B_is_vertex_pair fq_is_vertex_pair (PySem.W.mg_of X GN fa_is_vertex_pair) O_is_ascending B_is_ascending fq_is_ascending (PySem.W.mg_of X GN fa_is_ascending) tkV mV m_type m_tuple m_all
  have O_check_graph := ok_check_graph (P := l.prog) (w := w) (K := K) (mg := mg) (base := base) F_check_graph O_is_graph B_is_graph fq_is_graph (PySem.W.mg_of X GN fa_is_graph)
  have O__law_is_whole := ok_lwh (P := l.prog) (w := w) (K := K) (mg := mg) (base := base) F__law_is_whole m_isinstance m_int m_bool
  have O__law_multi := ok_multi (P := l.prog) (w := w) (K := K) (mg := mg) (base := base) F__law_multi O__law_draw B__law_draw fq__law_draw (PySem.W.mg_of X GN fa__law_draw) O__law_pick B__law_pick fq__law_pick (PySem.W.mg_of X GN fa__law_pick) m_range m_tuple m_sorted
  have O__law_near := ok_near (P := l.prog) (w := w) (K := K) (mg := mg) (base := base) F__law_near 
  have O__is_edge := ok_pedge (P := l.prog) (w := w) (K := K) (mg := mg) (base := base) F__is_edge O_is_tuple_of_two B_is_tuple_of_two fq_is_tuple_of_two (PySem.W.mg_of X GN fa_is_tuple_of_two) O_is_whole B_is_whole fq_is_whole (PySem.W.mg_of X GN fa_is_whole)
  have O__is_never_falling := ok_pnev (P := l.prog) (w := w) (K := K) (mg := mg) (base := base) F__is_never_falling m_all m_zip
  have O_is_multigraph := ok_pismul (P := l.prog) (w := w) (K := K) (mg := mg) (base := base) F_is_multigraph O_is_whole B_is_whole fq_is_whole (PySem.W.mg_of X GN fa_is_whole) O__is_edge B__is_edge fq__is_edge (PySem.W.mg_of X GN fa__is_edge) O__is_never_falling B__is_never_falling fq__is_never_falling (PySem.W.mg_of X GN fa__is_never_falling) tkS mS tkE mE m_type m_tuple m_all m_len
  have O_check_multigraph := ok_pcheck (P := l.prog) (w := w) (K := K) (mg := mg) (base := base) F_check_multigraph O_is_multigraph B_is_multigraph fq_is_multigraph (PySem.W.mg_of X GN fa_is_multigraph)
  have O__do_meet := ok_pmeet (P := l.prog) (w := w) (K := K) (mg := mg) (base := base) F__do_meet 
  have O_line_graph := ok_pline (P := l.prog) (w := w) (K := K) (mg := mg) (base := base) F_line_graph O_check_multigraph B_check_multigraph fq_check_multigraph (PySem.W.mg_of X GN fa_check_multigraph) O__do_meet B__do_meet fq__do_meet (PySem.W.mg_of X GN fa__do_meet) m_len m_range m_tuple
  have O__is_list := ok_pislist (P := l.prog) (w := w) (K := K) (mg := mg) (base := base) F__is_list O_is_whole B_is_whole fq_is_whole (PySem.W.mg_of X GN fa_is_whole) O_is_ascending B_is_ascending fq_is_ascending (PySem.W.mg_of X GN fa_is_ascending) tkL mL tkC mC m_type m_tuple m_all m_len
  have O_is_lists := ok_pislists (P := l.prog) (w := w) (K := K) (mg := mg) (base := base) F_is_lists O_check_multigraph B_check_multigraph fq_check_multigraph (PySem.W.mg_of X GN fa_check_multigraph) O__is_list B__is_list fq__is_list (PySem.W.mg_of X GN fa__is_list) m_type m_tuple m_all m_len
  have O_check_lists := ok_pchklists (P := l.prog) (w := w) (K := K) (mg := mg) (base := base) F_check_lists O_is_lists B_is_lists fq_is_lists (PySem.W.mg_of X GN fa_is_lists)
  have O_is_colouring := ok_is_col (P := l.prog) (w := w) (K := K) (mg := mg) (base := base) F_is_colouring O_check_graph B_check_graph fq_check_graph (PySem.W.mg_of X GN fa_check_graph) O_is_whole_from B_is_whole_from fq_is_whole_from (PySem.W.mg_of X GN fa_is_whole_from) m_type m_tuple m_all m_len
  have O_is_from_lists := ok_pfrom (P := l.prog) (w := w) (K := K) (mg := mg) (base := base) F_is_from_lists O_check_lists B_check_lists fq_check_lists (PySem.W.mg_of X GN fa_check_lists) O_is_colouring B_is_colouring fq_is_colouring (PySem.W.mg_of X GN fa_is_colouring) O_line_graph B_line_graph fq_line_graph (PySem.W.mg_of X GN fa_line_graph) m_all m_zip
  have O_complement := ok_complement (P := l.prog) (w := w) (K := K) (mg := mg) (base := base) F_complement O_check_graph B_check_graph fq_check_graph (PySem.W.mg_of X GN fa_check_graph) m_range m_tuple
  have O_neighbour_masks := ok_masks (P := l.prog) (w := w) (K := K) (mg := mg) (base := base) F_neighbour_masks 
  have O_clique_masks := ok_clique_masks (P := l.prog) (w := w) (K := K) (mg := mg) (base := base) F_clique_masks m_enumerate
  have O_stable_masks := ok_stable (P := l.prog) (w := w) (K := K) (mg := mg) (base := base) F_stable_masks O_complement B_complement fq_complement (PySem.W.mg_of X GN fa_complement) O_neighbour_masks B_neighbour_masks fq_neighbour_masks (PySem.W.mg_of X GN fa_neighbour_masks) O_clique_masks B_clique_masks fq_clique_masks (PySem.W.mg_of X GN fa_clique_masks)
  have O__colours_in := ok_colsin (P := l.prog) (w := w) (K := K) (mg := mg) (base := base) F__colours_in m_set m_sorted
  have O__edges_with := ok_edgesw (P := l.prog) (w := w) (K := K) (mg := mg) (base := base) F__edges_with m_enumerate
  have O_mask_of := ok_maskL (P := l.prog) (w := w) (K := K) (mg := mg) (base := base) F_mask_of m_sum
  have O_list_colouring := ok_listcol (P := l.prog) (w := w) (K := K) (mg := mg) (base := base) F_list_colouring O_check_lists B_check_lists fq_check_lists (PySem.W.mg_of X GN fa_check_lists) O_line_graph B_line_graph fq_line_graph (PySem.W.mg_of X GN fa_line_graph) O_stable_masks B_stable_masks fq_stable_masks (PySem.W.mg_of X GN fa_stable_masks) O__colours_in B__colours_in fq__colours_in (PySem.W.mg_of X GN fa__colours_in) O__edges_with B__edges_with fq__edges_with (PySem.W.mg_of X GN fa__edges_with) O_mask_of B_mask_of fq_mask_of (PySem.W.mg_of X GN fa_mask_of) m_len m_list m_tuple m_range
  have O__law_is_proper := ok_lprop (P := l.prog) (w := w) (K := K) (mg := mg) (base := base) F__law_is_proper O__law_is_whole B__law_is_whole fq__law_is_whole (PySem.W.mg_of X GN fa__law_is_whole) O__law_near B__law_near fq__law_near (PySem.W.mg_of X GN fa__law_near) m_isinstance m_tuple m_len m_range m_all
  have O__law_is_from := ok_lfrom (P := l.prog) (w := w) (K := K) (mg := mg) (base := base) F__law_is_from O__law_is_proper B__law_is_proper fq__law_is_proper (PySem.W.mg_of X GN fa__law_is_proper) m_all m_zip
  have O__law_lists := ok_lts (P := l.prog) (w := w) (K := K) (mg := mg) (base := base) F__law_lists O__law_draw B__law_draw fq__law_draw (PySem.W.mg_of X GN fa__law_draw) O__law_pick B__law_pick fq__law_pick (PySem.W.mg_of X GN fa__law_pick) O__law_mixed B__law_mixed fq__law_mixed (PySem.W.mg_of X GN fa__law_mixed) m_range m_list m_min m_max m_sorted m_tuple
  have O__law_found := ok_fnd (P := l.prog) (w := w) (K := K) (mg := mg) (base := base) F__law_found B__law_found fq__law_found (PySem.W.mg_of X GN fa__law_found) O__law_near B__law_near fq__law_near (PySem.W.mg_of X GN fa__law_near) m_len m_range m_min 10
  have O__law_right := ok_right (P := l.prog) (w := w) (K := K) (mg := mg) (base := base) F__law_right O__law_draw B__law_draw fq__law_draw (PySem.W.mg_of X GN fa__law_draw) O__law_pick B__law_pick fq__law_pick (PySem.W.mg_of X GN fa__law_pick) O__law_multi B__law_multi fq__law_multi (PySem.W.mg_of X GN fa__law_multi) O__law_lists B__law_lists fq__law_lists (PySem.W.mg_of X GN fa__law_lists) O__law_found B__law_found fq__law_found (PySem.W.mg_of X GN fa__law_found) O_list_colouring B_list_colouring (fun s u0 u1 => .of_eq rfl) fq_list_colouring (PySem.W.mg_of X GN fa_list_colouring) O__law_is_from B__law_is_from fq__law_is_from (PySem.W.mg_of X GN fa__law_is_from) O_is_from_lists B_is_from_lists fq_is_from_lists (PySem.W.mg_of X GN fa_is_from_lists) m_tuple m_range m_len
  exact ok_law (n := 12) F_law O__law_pot B__law_pot fq__law_pot (PySem.W.mg_of X GN fa__law_pot) O__law_right B__law_right fq__law_right (PySem.W.mg_of X GN fa__law_right) m_range m_len m_all m_max m_min
end My

open PySem PySem.W PyProof.Rows
set_option maxRecDepth 100000 in
set_option maxHeartbeats 0 in
theorem PySem.Challenge.cw_perfectgraphs_k56_whole_list_colourings_holds : PySem.Challenge.rw_perfectgraphs_k56_whole_list_colourings.Holds := by
  w_on; o_law; k_head; (case hw => w_witness2)
  k_fill
  refine My.walkG (l := PySem.Challenge.rw_perfectgraphs_k56_whole_list_colourings) (m := 63) (n := 14) (x := "script") (sp := fun K => My.spLaw K) rfl (by decide) rfl ⟨rfl, by decide, by decide⟩ (fun w h Y => PySem.W.kIn_of Y) ?F (fun K H a ns hl _ hS => ⟨a, ns, rfl, hS, hl, fun _ => rfl⟩)
  case F =>
    intro w mg fa h KX G hmg
    refine' My.all_mk KX G hmg ?fa_is_whole ?fl_is_whole ?fcc_is_whole ?fq_is_whole ?fa_is_whole_from ?fl_is_whole_from ?fcc_is_whole_from ?fq_is_whole_from ?fa_is_tuple_of_two ?fl_is_tuple_of_two ?fcc_is_tuple_of_two ?fq_is_tuple_of_two ?fa_is_ascending ?fl_is_ascending ?fcc_is_ascending ?fq_is_ascending ?fa_is_graph ?fl_is_graph ?fcc_is_graph ?fq_is_graph ?fa_is_vertex_pair ?fl_is_vertex_pair ?fcc_is_vertex_pair ?fq_is_vertex_pair ?fa_check_graph ?fl_check_graph ?fcc_check_graph ?fq_check_graph ?fa_complement ?fl_complement ?fcc_complement ?fq_complement ?fa_neighbour_masks ?fl_neighbour_masks ?fcc_neighbour_masks ?fq_neighbour_masks ?fa_mask_of ?fl_mask_of ?fcc_mask_of ?fq_mask_of ?fa_clique_masks ?fl_clique_masks ?fcc_clique_masks ?fq_clique_masks ?fa_stable_masks ?fl_stable_masks ?fcc_stable_masks ?fq_stable_masks ?fa_is_colouring ?fl_is_colouring ?fcc_is_colouring ?fq_is_colouring ?fa_is_multigraph ?fl_is_multigraph ?fcc_is_multigraph ?fq_is_multigraph ?fa__is_edge ?fl__is_edge ?fcc__is_edge ?fq__is_edge ?fa__is_never_falling ?fl__is_never_falling ?fcc__is_never_falling ?fq__is_never_falling ?fa_check_multigraph ?fl_check_multigraph ?fcc_check_multigraph ?fq_check_multigraph ?fa_line_graph ?fl_line_graph ?fcc_line_graph ?fq_line_graph ?fa__do_meet ?fl__do_meet ?fcc__do_meet ?fq__do_meet ?fa_is_lists ?fl_is_lists ?fcc_is_lists ?fq_is_lists ?fa__is_list ?fl__is_list ?fcc__is_list ?fq__is_list ?fa_check_lists ?fl_check_lists ?fcc_check_lists ?fq_check_lists ?fa_is_from_lists ?fl_is_from_lists ?fcc_is_from_lists ?fq_is_from_lists ?fa_list_colouring ?fl_list_colouring ?fcc_list_colouring ?fq_list_colouring ?fa__colours_in ?fl__colours_in ?fcc__colours_in ?fq__colours_in ?fa__edges_with ?fl__edges_with ?fcc__edges_with ?fq__edges_with ?fa__law_pot ?fl__law_pot ?fcc__law_pot ?fq__law_pot ?fa__law_draw ?fl__law_draw ?fcc__law_draw ?fq__law_draw ?fa__law_pick ?fl__law_pick ?fcc__law_pick ?fq__law_pick ?fa__law_mixed ?fl__law_mixed ?fcc__law_mixed ?fq__law_mixed ?fa__law_is_whole ?fl__law_is_whole ?fcc__law_is_whole ?fq__law_is_whole ?fa__law_multi ?fl__law_multi ?fcc__law_multi ?fq__law_multi ?fa__law_near ?fl__law_near ?fcc__law_near ?fq__law_near ?fa__law_is_proper ?fl__law_is_proper ?fcc__law_is_proper ?fq__law_is_proper ?fa__law_lists ?fl__law_lists ?fcc__law_lists ?fq__law_lists ?fa__law_is_from ?fl__law_is_from ?fcc__law_is_from ?fq__law_is_from ?fa__law_found ?fl__law_found ?fcc__law_found ?fq__law_found ?fa__law_right ?fl__law_right ?fcc__law_right ?fq__law_right ?fa_law ?fl_law ?fcc_law ?fq_law ?gS ?gE ?gV ?gL ?gC ?z_len ?z_int ?z_abs ?z_divmod ?z_repr ?z_isinstance ?z_bool ?z_str ?z_range ?z_all ?z_max ?z_min ?z_list ?z_tuple ?z_sorted ?z_type ?z_enumerate ?z_zip ?z_set ?z_sum
    (case fa_is_whole => k_is)
    (case fl_is_whole => k_is)
    (case fcc_is_whole => k_is)
    (case fq_is_whole => k_is)
    (case fa_is_whole_from => k_is)
    (case fl_is_whole_from => k_is)
    (case fcc_is_whole_from => k_is)
    (case fq_is_whole_from => k_is)
    (case fa_is_tuple_of_two => k_is)
    (case fl_is_tuple_of_two => k_is)
    (case fcc_is_tuple_of_two => k_is)
    (case fq_is_tuple_of_two => k_is)
    (case fa_is_ascending => k_is)
    (case fl_is_ascending => k_is)
    (case fcc_is_ascending => k_is)
    (case fq_is_ascending => k_is)
    (case fa_is_graph => k_is)
    (case fl_is_graph => k_is)
    (case fcc_is_graph => k_is)
    (case fq_is_graph => k_is)
    (case fa_is_vertex_pair => k_is)
    (case fl_is_vertex_pair => k_is)
    (case fcc_is_vertex_pair => k_is)
    (case fq_is_vertex_pair => k_is)
    (case fa_check_graph => k_is)
    (case fl_check_graph => k_is)
    (case fcc_check_graph => k_is)
    (case fq_check_graph => k_is)
    (case fa_complement => k_is)
    (case fl_complement => k_is)
    (case fcc_complement => k_is)
    (case fq_complement => k_is)
    (case fa_neighbour_masks => k_is)
    (case fl_neighbour_masks => k_is)
    (case fcc_neighbour_masks => k_is)
    (case fq_neighbour_masks => k_is)
    (case fa_mask_of => k_is)
    (case fl_mask_of => k_is)
    (case fcc_mask_of => k_is)
    (case fq_mask_of => k_is)
    (case fa_clique_masks => k_is)
    (case fl_clique_masks => k_is)
    (case fcc_clique_masks => k_is)
    (case fq_clique_masks => k_is)
    (case fa_stable_masks => k_is)
    (case fl_stable_masks => k_is)
    (case fcc_stable_masks => k_is)
    (case fq_stable_masks => k_is)
    (case fa_is_colouring => k_is)
    (case fl_is_colouring => k_is)
    (case fcc_is_colouring => k_is)
    (case fq_is_colouring => k_is)
    (case fa_is_multigraph => k_is)
    (case fl_is_multigraph => k_is)
    (case fcc_is_multigraph => k_is)
    (case fq_is_multigraph => k_is)
    (case fa__is_edge => k_is)
    (case fl__is_edge => k_is)
    (case fcc__is_edge => k_is)
    (case fq__is_edge => k_is)
    (case fa__is_never_falling => k_is)
    (case fl__is_never_falling => k_is)
    (case fcc__is_never_falling => k_is)
    (case fq__is_never_falling => k_is)
    (case fa_check_multigraph => k_is)
    (case fl_check_multigraph => k_is)
    (case fcc_check_multigraph => k_is)
    (case fq_check_multigraph => k_is)
    (case fa_line_graph => k_is)
    (case fl_line_graph => k_is)
    (case fcc_line_graph => k_is)
    (case fq_line_graph => k_is)
    (case fa__do_meet => k_is)
    (case fl__do_meet => k_is)
    (case fcc__do_meet => k_is)
    (case fq__do_meet => k_is)
    (case fa_is_lists => k_is)
    (case fl_is_lists => k_is)
    (case fcc_is_lists => k_is)
    (case fq_is_lists => k_is)
    (case fa__is_list => k_is)
    (case fl__is_list => k_is)
    (case fcc__is_list => k_is)
    (case fq__is_list => k_is)
    (case fa_check_lists => k_is)
    (case fl_check_lists => k_is)
    (case fcc_check_lists => k_is)
    (case fq_check_lists => k_is)
    (case fa_is_from_lists => k_is)
    (case fl_is_from_lists => k_is)
    (case fcc_is_from_lists => k_is)
    (case fq_is_from_lists => k_is)
    (case fa_list_colouring => k_is)
    (case fl_list_colouring => k_is)
    (case fcc_list_colouring => k_is)
    (case fq_list_colouring => k_is)
    (case fa__colours_in => k_is)
    (case fl__colours_in => k_is)
    (case fcc__colours_in => k_is)
    (case fq__colours_in => k_is)
    (case fa__edges_with => k_is)
    (case fl__edges_with => k_is)
    (case fcc__edges_with => k_is)
    (case fq__edges_with => k_is)
    (case fa__law_pot => k_is)
    (case fl__law_pot => k_is)
    (case fcc__law_pot => k_is)
    (case fq__law_pot => k_is)
    (case fa__law_draw => k_is)
    (case fl__law_draw => k_is)
    (case fcc__law_draw => k_is)
    (case fq__law_draw => k_is)
    (case fa__law_pick => k_is)
    (case fl__law_pick => k_is)
    (case fcc__law_pick => k_is)
    (case fq__law_pick => k_is)
    (case fa__law_mixed => k_is)
    (case fl__law_mixed => k_is)
    (case fcc__law_mixed => k_is)
    (case fq__law_mixed => k_is)
    (case fa__law_is_whole => k_is)
    (case fl__law_is_whole => k_is)
    (case fcc__law_is_whole => k_is)
    (case fq__law_is_whole => k_is)
    (case fa__law_multi => k_is)
    (case fl__law_multi => k_is)
    (case fcc__law_multi => k_is)
    (case fq__law_multi => k_is)
    (case fa__law_near => k_is)
    (case fl__law_near => k_is)
    (case fcc__law_near => k_is)
    (case fq__law_near => k_is)
    (case fa__law_is_proper => k_is)
    (case fl__law_is_proper => k_is)
    (case fcc__law_is_proper => k_is)
    (case fq__law_is_proper => k_is)
    (case fa__law_lists => k_is)
    (case fl__law_lists => k_is)
    (case fcc__law_lists => k_is)
    (case fq__law_lists => k_is)
    (case fa__law_is_from => k_is)
    (case fl__law_is_from => k_is)
    (case fcc__law_is_from => k_is)
    (case fq__law_is_from => k_is)
    (case fa__law_found => k_is)
    (case fl__law_found => k_is)
    (case fcc__law_found => k_is)
    (case fq__law_found => k_is)
    (case fa__law_right => k_is)
    (case fl__law_right => k_is)
    (case fcc__law_right => k_is)
    (case fq__law_right => k_is)
    (case fa_law => k_is)
    (case fl_law => k_is)
    (case fcc_law => k_is)
    (case fq_law => k_is)
    (case gS => k_is)
    (case gE => k_is)
    (case gV => k_is)
    (case gL => k_is)
    (case gC => k_is)
    (case z_len => k_is)
    (case z_int => k_is)
    (case z_abs => k_is)
    (case z_divmod => k_is)
    (case z_repr => k_is)
    (case z_isinstance => k_is)
    (case z_bool => k_is)
    (case z_str => k_is)
    (case z_range => k_is)
    (case z_all => k_is)
    (case z_max => k_is)
    (case z_min => k_is)
    (case z_list => k_is)
    (case z_tuple => k_is)
    (case z_sorted => k_is)
    (case z_type => k_is)
    (case z_enumerate => k_is)
    (case z_zip => k_is)
    (case z_set => k_is)
    (case z_sum => k_is)
#print axioms PySem.Challenge.cw_perfectgraphs_k56_whole_list_colourings_holds

