import PyProof.Rows.All
import Wide.All
import OpenK.AllK
import Wide.FinOn
import HandS.ForMost
import HandS.Wide
import HandS.IsInst
import HandS.Flow
import PyProof.ReprRoads
import HandS.Style
import HandS.SetBool
import HandS.TupSets
import KE.DataFind
import HandS.TupAny
import KE.KOwnIter
import HandS.NamedTupGet
import HandS.DictComp
import HandS.Zip
import HandS.Iter
import HandS.Zip0
import HandS.Small
import PyProof.InstEq
import HandS.SortRule
import HandS.More
import HandS.Exc
import HandS.ExcOwn
import HandS.ExcInit
import HandS.ExcField
import HandS.ExcIs
import HandS.WordsExc
import HandS.Conv
import PyProof.Rows.SetFrom
import PyProof.SetRoads
import PyProof.FactsAll.list_1
import KE.SortData
import KE.SortLaws
import HandS.SetFor
import HandS.Sort
import HandS.Strs
import KE.KDictWalk
import HandS.TryOnly
import PySem.Challenge.RW_leadswitch_k40_along
set_option Elab.async false
set_option linter.all false
set_option maxRecDepth 100000
set_option maxHeartbeats 4000000
namespace Lw
open PySem PySem.Spec PyProof.Rows L2
/-! Calls whose surroundings have no open guard (repr asks for that). -/

/-- a def's promise, for surroundings without open guards -/
structure FnG (P : Program) (w : World) (K : PySem.W.Frag) (mg : Str → Option Value) (base : Heap)
    (k : Nat) (f : Addr) (fd : FuncData) (ps : List Str) (sp : Sp) : Prop where
  len : ∀ vs H Q E, sp vs H Q E → vs.length = ps.length
  go : ∀ (B : Around) (fr : List Env) (z : Shared) (H : Hp) (ar : Args) (us : List Value) (vs : List V) (Q : VK) (E : XK),
    Room k B → B.guards = some [] → Env0 P w K mg base B fr z H → BindsTo z fd ar (ps.zip us) → Vals vs us →
    sp vs H Q E → codeAny (model P w) B (.call (.ref f) ar) (CR CX0 fr P w H z Q E) z

section
variable {P : Program} {w : World} {K : PySem.W.Frag} {mg : Str → Option Value} {base : Heap}
theorem FnG.of {k : Nat} {f : Addr} {fd : FuncData} {ps : List Str} {sp : Sp}
    (F : FnOk P w K mg base CX0 k f fd ps sp) : FnG P w K mg base k f fd ps sp :=
  ⟨F.len, fun B fr z H ar us vs Q E r _ => F.run B fr z H ar us vs Q E r⟩
theorem FnG.up {j k : Nat} {f : Addr} {fd : FuncData} {ps : List Str} {sp : Sp}
    (F : FnG P w K mg base j f fd ps sp) (h : j ≤ k) : FnG P w K mg base k f fd ps sp :=
  ⟨F.len, fun B fr z H ar us vs Q E r => F.go B fr z H ar us vs Q E (r.mono h)⟩

/-- the context of a body -/
abbrev bodyX (P : Program) (w : World) (K : PySem.W.Frag) (mg : Str → Option Value) (base : Heap) (N : List Str) (qual : Str)
    (st : Stmt) (f : Addr) (cd : Value) (B : Around) (fr : List Env) (z : Shared) (H : Hp) (E : XK) : Cx :=
  (cxOf CX0 P w K mg base N qual (defScope st) f cd B fr z H E).nox

theorem FnG.mk' {x qual : Str} {st : Stmt} {f : Addr} {fd : FuncData} {N ps : List Str} {k : Nat} {sp : Sp}
    (F : Fun K x qual st f fd) (S : FnScope N ps (defScope st)) (len : ∀ vs H Q E, sp vs H Q E → vs.length = ps.length)
    (body : ∀ (cd : Value) (B : Around) (fr : List Env) (z : Shared) (H : Hp) (vs : List V) (Q : VK) (E : XK),
      Room k (B.deeper (envOfC qual (defScope st) z.heap.objs.size f cd)) →
      (B.deeper (envOfC qual (defScope st) z.heap.objs.size f cd)).guards = some [] → sp vs H Q E →
      ∃ t, PSs (bodyX P w K mg base N qual st f cd B fr z H E) (defBody st) t ∧
        t { nx := fun _ H' => Q .non H', rt := Q } (start N vs) H) : FnG P w K mg base (k + 1) f fd ps sp := by
  obtain ⟨oc, od, kV, doc, pm, an, cd, ct, osl, rfl, lk, hc⟩ := F.ex
  constructor
  · exact len
  intro B fr z H ar us vs Q E room guard env bind rel want
  have n1 := len _ _ _ _ want
  have kin : K.In z.heap := env.mod.kin.keeps fun b o e => (env.bs b o e).1
  have lim : z.heap.NoLimit :=
    env.mod.nolimit.keeps fun b o e => (env.bs b o e).1
  have kinds : ∀ y ∈ ps.zip us, (defScope st).names.lookup y.1 = some .local ∨
      ((defScope st).names.lookup y.1 = some .cell ∧
        ((cellsFrom (z.heap.objs.size + 1) (defScope st).names []).lookup y.1).isSome = true) := by
    intro y hy
    rcases S.par y.1 (List.of_mem_zip (show (y.1, y.2) ∈ ps.zip us from hy)).1 with h | h
    · exact Or.inl h
    · exact Or.inr ⟨h, PySem.W.cellsFrom_some _ _ _ (.inl h)⟩
  apply codeAny_call_function room.depth (kin _ _ lk) rfl S.co S.gen rfl (PySem.W.codeRec_of kin hc)
  apply bind
  apply wpAny_newFunctionEnv_cells S.kind kinds
  intro e he z1 ic
  subst he
  refine ⟨lim.keeps ic.toInCall.keep, codeAny_func ?_⟩
  obtain ⟨t, ht, hq⟩ := body cd B fr z H vs Q E (room.deeper _) guard want
  have I0 := inv_start (CX := CX0) (E := E) S room.hd env n1 rel ic
  refine wpAny_mono (ht.nox.run [] z1 (start N vs) H _ I0 hq) ?_ (fun _ _ h => h)
  intro fl z2 h2
  match fl, h2 with
  | .ret u, h2 =>
    obtain ⟨v, σ2, H2, J, rv, q⟩ := h2
    exact ⟨v, H2, J.os, J.bare, J.base, J.hok, rv, q⟩
  | .next, h2 =>
    obtain ⟨σ2, H2, J, q⟩ := h2
    exact ⟨V.non, H2, J.os, J.bare, J.base, J.hok, rfl, q⟩
  | .brk, h2 =>
    obtain ⟨_, _, _, q⟩ := h2
    exact q.elim
  | .cont, h2 =>
    obtain ⟨_, _, _, q⟩ := h2
    exact q.elim

/-- a def of the module, known by its name -/
structure Kn (P : Program) (w : World) (K : PySem.W.Frag) (mg : Str → Option Value) (base : Heap) (nm : Str) (k : Nat) (sp : Sp) : Prop where
  ex : ∃ f fd ps, FnG P w K mg base k f fd ps sp ∧ mg nm = some (.ref f) ∧ PySem.W.keepIn K (.ref f) = true ∧ Binds K fd ps []
theorem Kn.up {nm : Str} {j k : Nat} {sp : Sp} (F : Kn P w K mg base nm j sp) (h : j ≤ k) : Kn P w K mg base nm k sp := by
  obtain ⟨f, fd, ps, a, b⟩ := F.ex
  exact ⟨f, fd, ps, a.up h, b⟩
end

section
variable {X : Cx} {k : Nat} {sp : Sp} {nm : Str} {p pos : Pos} {e : Expr} {es : List Expr} {t : TA}
theorem run_own {pins : List (Addr × Obj)} {σ : L2.St} {H : Hp} {s : Shared} {Q : VK} {us : List Value} {vs : List V} {f : Addr} {fd : FuncData} {ps : List Str}
    (F : FnG X.prog X.w X.K X.mg X.base k f fd ps sp) (room : Room k X.A) (gd : X.A.guards = some []) (hb : Binds X.K fd ps [])
    (I : Inv X pins σ H s) (r : Vals vs us) (h : sp vs H Q E0) : wpAny (model X.prog X.w) X.A (call (.ref f) us) (EP X pins σ Q) X.xe s := by
  have n1 : us.length = ps.length := r.length.symm.trans (F.len _ _ _ _ h)
  have bt := hb s us I.kIn (by rw [List.append_nil]; exact n1)
  rw [List.append_nil] at bt
  apply wpAny_call
  refine codeAny_mono (F.go X.A X.stack s H ⟨us, []⟩ us vs Q E0 room gd I.env0 bt r h) ?_
  intro res z hz
  match res, hz with
  | .error e, hz => exact False.elim hz
  | .ok (.ret u), hz => exact I.after hz
  | .ok .next, hz => exact False.elim hz
  | .ok .brk, hz => exact False.elim hz
  | .ok .cont, hz => exact False.elim hz

theorem pe_own (c : Kn X.prog X.w X.K X.mg X.base nm k sp) (room : Room k X.A) (gd : X.A.guards = some []) (hg : Gl X nm)
    (ha : PA X (e :: es) t) (hdb : (nm == ("__debug__" : Str)) = false := by decide)
    (he : starEach (e :: es) X.env = (false, eval e X.env) :: starEach es X.env := by rfl)
    (hp : (backTo pos (starEach es X.env)).any (·.1) = false := by rfl) : PE X (.Call (.Name nm p) (e :: es) [] pos) (tCall sp [] E0 t) := by
  obtain ⟨f, fd, ps, F, hm, hk, hb⟩ := c.ex
  constructor
  intro pins s σ H Q I h
  apply wpAny_Call_Name_kw
  refine ld_glob I hg hm ?_ hdb
  refine PySem.W.callWith_K (h₀ := X.base) I.ok.mod.kin hk ?_ he hp
  refine thn (ha.run pos pins s σ H _ I h) ?_
  rintro us s1 ⟨vs, H1, I1, r, q⟩
  rw [List.append_nil] at q
  exact ⟨I1.kIn, run_own F room gd hb I1 r q⟩
end
/-! Data in the abstract heap; what repr, isinstance and an item's in-place operator ask of it. -/

/-! ### values that hold data; none of their objects stands in M -/
mutual
inductive Dn (M : List Addr) (H : Hp) : V → PyData → Prop
  | non : Dn M H .non .none
  | bl (b : Bool) : Dn M H (.bl b) (.bool b)
  | int (i : Int) : Dn M H (.int i) (.int i)
  | str (x : Str) : Dn M H (.str x) (.str x)
  | lst {a : Addr} {xs : List V} {ds : List PyData} : H a = some (.lst xs) → a ∉ M → DnAll M H xs ds → Dn M H (.ref a) (.list ds)
  | tup {a : Addr} {xs : List V} {ds : List PyData} : H a = some (.tup xs) → a ∉ M → DnAll M H xs ds → Dn M H (.ref a) (.tuple ds)
  | dic {a : Addr} {kvs : List (Key × V)} {ds : List (PyData × PyData)} : H a = some (.dK kvs) → a ∉ M → DnAll M H (kvs.map fun p => kV p.1) (ds.map (·.1)) → DnAll M H (kvs.map (·.2)) (ds.map (·.2)) → Dn M H (.ref a) (.dict ds)
inductive DnAll (M : List Addr) (H : Hp) : List V → List PyData → Prop
  | nil : DnAll M H [] []
  | cons {v : V} {vs : List V} {d : PyData} {ds : List PyData} : Dn M H v d → DnAll M H vs ds → DnAll M H (v :: vs) (d :: ds)
end

/-- all that was tracked outside M is as it was -/
def Ext (M : List Addr) (H H' : Hp) : Prop := ∀ a o, a ∉ M → H a = some o → H' a = some o
theorem Ext.refl (M : List Addr) (H : Hp) : Ext M H H := fun _ _ _ h => h
theorem Ext.trans {M : List Addr} {H H1 H2 : Hp} (a : Ext M H H1) (b : Ext M H1 H2) : Ext M H H2 := fun c o n h => b c o n (a c o n h)
theorem Ext.mono {M M' : List Addr} {H H1 : Hp} (a : Ext M H H1) (h : ∀ c, c ∈ M → c ∈ M') : Ext M' H H1 := fun c o n e => a c o (fun m => n (h c m)) e
theorem Ext.same {M : List Addr} {H H1 : Hp} (a : Same H H1) : Ext M H H1 := fun c o _ h => a c o h
theorem Ext.toSame {H H1 : Hp} (a : Ext [] H H1) : Same H H1 := fun c o h => a c o (by simp) h
theorem same_upd {H : Hp} {p : Addr} {o : HO} (h : H p = none) : Same H (upd H p o) := fun b x e => by
  rw [upd_ne (ne_of_none e h)]; exact e
theorem Ext.upd {M : List Addr} {H : Hp} {p : Addr} {o : HO} (h : p ∈ M) : Ext M H (upd H p o) := fun b x n e => by
  rw [upd_ne (show b ≠ p from fun z => n (by rw [z]; exact h))]; exact e

mutual
theorem Dn.ext {M : List Addr} {H H' : Hp} (e : Ext M H H') : ∀ {v : V} {d : PyData}, Dn M H v d → Dn M H' v d
  | _, _, .non => .non
  | _, _, .bl b => .bl b
  | _, _, .int i => .int i
  | _, _, .str x => .str x
  | _, _, .lst h n a => .lst (e _ _ n h) n (DnAll.ext e a)
  | _, _, .tup h n a => .tup (e _ _ n h) n (DnAll.ext e a)
  | _, _, .dic h n a b => .dic (e _ _ n h) n (DnAll.ext e a) (DnAll.ext e b)
theorem DnAll.ext {M : List Addr} {H H' : Hp} (e : Ext M H H') : ∀ {v : List V} {d : List PyData}, DnAll M H v d → DnAll M H' v d
  | _, _, .nil => .nil
  | _, _, .cons a b => .cons (Dn.ext e a) (DnAll.ext e b)
end
/-! the avoided addresses may be others, where none of the data's objects stands in them -/
mutual
theorem Dn.avoid {M M' : List Addr} {H : Hp} (h : ∀ a o, a ∉ M → H a = some o → a ∉ M') : ∀ {v : V} {d : PyData}, Dn M H v d → Dn M' H v d
  | _, _, .non => .non
  | _, _, .bl b => .bl b
  | _, _, .int i => .int i
  | _, _, .str x => .str x
  | _, _, .lst e n a => .lst e (h _ _ n e) (DnAll.avoid h a)
  | _, _, .tup e n a => .tup e (h _ _ n e) (DnAll.avoid h a)
  | _, _, .dic e n a b => .dic e (h _ _ n e) (DnAll.avoid h a) (DnAll.avoid h b)
theorem DnAll.avoid {M M' : List Addr} {H : Hp} (h : ∀ a o, a ∉ M → H a = some o → a ∉ M') : ∀ {v : List V} {d : List PyData}, DnAll M H v d → DnAll M' H v d
  | _, _, .nil => .nil
  | _, _, .cons a b => .cons (Dn.avoid h a) (DnAll.avoid h b)
end
theorem Dn.sub {M M' : List Addr} {H : Hp} (h : ∀ a, a ∈ M' → a ∈ M) {v : V} {d : PyData} (x : Dn M H v d) : Dn M' H v d := x.avoid fun a _ n _ m => n (h a m)
theorem DnAll.sub {M M' : List Addr} {H : Hp} (h : ∀ a, a ∈ M' → a ∈ M) {v : List V} {d : List PyData} (x : DnAll M H v d) : DnAll M' H v d := x.avoid fun a _ n _ m => n (h a m)
theorem Dn.more {M : List Addr} {H : Hp} {p : Addr} (hp : H p = none) {v : V} {d : PyData} (x : Dn M H v d) : Dn (p :: M) H v d := x.avoid fun a o n e m => by
  rcases List.mem_cons.mp m with rfl | m
  · rw [hp] at e; cases e
  · exact n m
theorem DnAll.length {M : List Addr} {H : Hp} : ∀ {v : List V} {d : List PyData}, DnAll M H v d → v.length = d.length
  | _, _, .nil => rfl
  | _, _, .cons _ b => by simp [DnAll.length b]
theorem DnAll.get {M : List Addr} {H : Hp} : ∀ {v : List V} {d : List PyData} {i : Nat} {x : V}, DnAll M H v d → v[i]? = some x → ∃ y, d[i]? = some y ∧ Dn M H x y
  | _, _, _, _, .nil, e => by simp at e
  | _, _, 0, _, .cons a _, e => by simp at e; subst e; exact ⟨_, rfl, a⟩
  | _, _, i + 1, x, .cons _ b, e => by
    obtain ⟨y, h1, h2⟩ := DnAll.get (i := i) (x := x) b (by simpa using e)
    exact ⟨y, by simpa using h1, h2⟩
theorem DnAll.app {M : List Addr} {H : Hp} : ∀ {v w : List V} {d e : List PyData}, DnAll M H v d → DnAll M H w e → DnAll M H (v ++ w) (d ++ e)
  | _, _, _, _, .nil, s => s
  | _, _, _, _, .cons a b, s => .cons a (DnAll.app b s)
theorem DnAll.take {M : List Addr} {H : Hp} : ∀ {v : List V} {d : List PyData} (n : Nat), DnAll M H v d → DnAll M H (v.take n) (d.take n)
  | _, _, 0, _ => .nil
  | _, _, _ + 1, .nil => .nil
  | _, _, n + 1, .cons a b => .cons a (DnAll.take n b)
theorem DnAll.drop {M : List Addr} {H : Hp} : ∀ {v : List V} {d : List PyData} (n : Nat), DnAll M H v d → DnAll M H (v.drop n) (d.drop n)
  | _, _, 0, r => r
  | _, _, _ + 1, .nil => .nil
  | _, _, n + 1, .cons _ b => DnAll.drop n b
theorem DnAll.ints {M : List Addr} {H : Hp} : ∀ (ns : List Int), DnAll M H (ns.map V.int) (ns.map PyData.int)
  | [] => .nil
  | n :: r => .cons (.int n) (DnAll.ints r)

/-! ### the library's reading of such a value -/
section
variable {X : Cx} {pins : List (Addr × Obj)} {σ : L2.St} {H : Hp} {s : Shared} {M : List Addr}
theorem pairs_split {P : Program} {w : World} : ∀ {es : List DictEntry} {kvs : List (Key × V)} {vs : List (Key × Value)}, KV kvs vs → Pairs (mixKind P w) es vs →
    Vals (kvs.map fun p => kV p.1) (es.map (·.key)) ∧ Vals (kvs.map (·.2)) (es.map (·.val))
  | _, _, _, .nil, .nil => ⟨.nil, .nil⟩
  | _, _, _, .cons (a := p) (b := q) r t, .cons (e := e) h1 h2 h3 => by
    obtain ⟨a, b⟩ := pairs_split t h3
    have h1 : keyIs q.1 e.key = true := h1
    rw [← r.1] at h1
    refine ⟨.cons (show RelV (kV p.1) e.key from ?_) a, .cons (show RelV p.2 e.val from by rw [h2]; exact r.2) b⟩
    rcases keyIs_shape h1 with ⟨i, u, e1, e2⟩ | ⟨x, u, e1, e2⟩
    · rw [e1, e2]; exact ⟨u, rfl⟩
    · rw [e1, e2]; exact ⟨u, rfl⟩
mutual
theorem Dn.reads (I : Inv X pins σ H s) : ∀ (d : PyData) (v : V) (u : Value), Dn M H v d → RelV v u → ∃ as, Reads s.heap u d as ∧ ∀ a ∈ as, H a ≠ none
  | .none, _, _, h, r => by cases h; cases r; exact ⟨_, .none, by simp⟩
  | .bool b, _, _, h, r => by cases h; cases r; exact ⟨_, .bool b, by simp⟩
  | .int i, _, _, h, r => by
    cases h
    obtain ⟨t, rfl⟩ := r
    exact ⟨_, .int i t, by simp⟩
  | .str x, _, _, h, r => by
    cases h
    obtain ⟨t, rfl⟩ := r
    exact ⟨_, .str x t, by simp⟩
  | .list ds, _, _, h, r => by
    cases h with
    | lst e _ ha =>
      cases r
      obtain ⟨_, its, n, rv, ho⟩ := I.hok _ _ e
      obtain ⟨as, hr, hn⟩ := DnAll.reads I ds _ its ha rv
      refine ⟨_, .list ho rfl rfl hr, fun b hb => ?_⟩
      rcases List.mem_cons.mp hb with rfl | hb
      · rw [e]; simp
      · exact hn b hb
  | .tuple ds, _, _, h, r => by
    cases h with
    | tup e _ ha =>
      cases r
      obtain ⟨_, its, rv, ⟨o, ho, hc, n, hd⟩⟩ := I.hok _ _ e
      obtain ⟨as, hr, hn⟩ := DnAll.reads I ds _ its ha rv
      exact ⟨_, .tuple ho hc hd hr, hn⟩
  | .dict ds, _, _, h, r => by
    cases h with
    | dic e _ ha hb =>
      cases r
      obtain ⟨_, _, vs, kv, o, es, ep, ho, ex, hd, hk, hp, _⟩ := I.hok _ _ e
      obtain ⟨r1, r2⟩ := pairs_split kv hp
      obtain ⟨as, q1, n1⟩ := Dn.readsK I ds _ _ ha r1
      obtain ⟨bs, q2, n2⟩ := Dn.readsV I ds _ _ hb r2
      refine ⟨_, .dict ho ex.1 hd q1 q2, fun b hb => ?_⟩
      rcases List.mem_append.mp hb with hb | hb
      · rcases List.mem_cons.mp hb with rfl | hb
        · rw [e]; simp
        · exact n1 b hb
      · exact n2 b hb
theorem DnAll.reads (I : Inv X pins σ H s) : ∀ (ds : List PyData) (vs : List V) (us : List Value), DnAll M H vs ds → Vals vs us → ∃ as, ReadsAll s.heap us ds as ∧ ∀ a ∈ as, H a ≠ none
  | [], _, _, h, r => by cases h; cases r; exact ⟨_, .nil, by simp⟩
  | d :: ds, _, _, h, r => by
    cases h with
    | cons h1 h2 =>
      cases r with
      | cons r1 r2 =>
        obtain ⟨as, q1, n1⟩ := Dn.reads I d _ _ h1 r1
        obtain ⟨bs, q2, n2⟩ := DnAll.reads I ds _ _ h2 r2
        exact ⟨_, .cons q1 q2, fun b hb => (List.mem_append.mp hb).elim (n1 b) (n2 b)⟩
theorem Dn.readsK (I : Inv X pins σ H s) : ∀ (ds : List (PyData × PyData)) (vs : List V) (us : List Value), DnAll M H vs (ds.map (·.1)) → Vals vs us → ∃ as, ReadsAll s.heap us (ds.map (·.1)) as ∧ ∀ a ∈ as, H a ≠ none
  | [], _, _, h, r => by cases h; cases r; exact ⟨_, .nil, by simp⟩
  | (d, _) :: ds, _, _, h, r => by
    cases h with
    | cons h1 h2 =>
      cases r with
      | cons r1 r2 =>
        obtain ⟨as, q1, n1⟩ := Dn.reads I d _ _ h1 r1
        obtain ⟨bs, q2, n2⟩ := Dn.readsK I ds _ _ h2 r2
        exact ⟨_, .cons q1 q2, fun b hb => (List.mem_append.mp hb).elim (n1 b) (n2 b)⟩
theorem Dn.readsV (I : Inv X pins σ H s) : ∀ (ds : List (PyData × PyData)) (vs : List V) (us : List Value), DnAll M H vs (ds.map (·.2)) → Vals vs us → ∃ as, ReadsAll s.heap us (ds.map (·.2)) as ∧ ∀ a ∈ as, H a ≠ none
  | [], _, _, h, r => by cases h; cases r; exact ⟨_, .nil, by simp⟩
  | (_, d) :: ds, _, _, h, r => by
    cases h with
    | cons h1 h2 =>
      cases r with
      | cons r1 r2 =>
        obtain ⟨as, q1, n1⟩ := Dn.reads I d _ _ h1 r1
        obtain ⟨bs, q2, n2⟩ := Dn.readsV I ds _ _ h2 r2
        exact ⟨_, .cons q1 q2, fun b hb => (List.mem_append.mp hb).elim (n1 b) (n2 b)⟩
end

/-! ### repr of data -/
/-- data that repr shows within the model's limits -/
structure Shows (d : PyData) : Prop where
  sh : d.showable = true
  sz : d.shown.length ≤ 8000000
  dp : d.depth ≤ 20
def rRepr : List V → Hp → VK → Prop := fun xs H Q => ∃ x d M, xs = [x] ∧ Dn M H x d ∧ Shows d ∧ Q (.str d.shown) H
theorem call_reprD (gd : X.A.guards = some []) (hu : X.A.units + 64 < cLine) (sys : ∃ o, X.base.get? sysModules = some o) : CallR X (.builtin "repr") rRepr := by
  intro pins s σ H xs us Q I r h
  obtain ⟨x, d, M, rfl, hd, hs, q⟩ := h
  obtain ⟨u, rfl, rx⟩ := vals1 r
  obtain ⟨as, rd, hn⟩ := Dn.reads I d x u hd rx
  obtain ⟨o, ho⟩ := sys
  have hm : sysModules ∉ as := fun m => hn _ m (I.bs _ _ ho).2
  have hz : d.shown.length ≤ sizeLine := Nat.le_trans hs.sz (by decide)
  have big : ∀ {a : Addr}, u = .ref a → wpAny (model X.prog X.w) X.A (call (.builtin "repr") [u]) (EP X pins σ Q) X.xe s := by
    rintro a rfl
    refine repr_of_reads' rd hs.sh (fun _ => hm) gd (by have := hs.dp; omega) (fun _ _ e => e) (fun h' u tk hk => ?_) hz
    exact ⟨.str d.shown, H, I.kept hk, ⟨u, rfl⟩, q⟩
  cases rd with
  | none => exact P.repr_of_none ⟨.str _, H, I.tok _, ⟨_, rfl⟩, by simpa only [PyData.shown] using q⟩
  | bool b => exact P.repr_of_bool ⟨.str _, H, I.tok _, ⟨_, rfl⟩, by simpa only [PyData.shown] using q⟩
  | int i t => exact P.repr_of_int (by simpa [PyData.showable] using hs.sh) ⟨.str _, H, I.tok _, ⟨_, rfl⟩, by simpa only [PyData.shown] using q⟩
  | str y t => exact P.repr_of_str ⟨.str _, H, I.tok _, ⟨_, rfl⟩, by simpa only [PyData.shown] using q⟩ (by simpa only [PyData.shown] using hz)
  | list _ _ _ _ => exact big rfl
  | tuple _ _ _ _ => exact big rfl
  | dict _ _ _ _ _ => exact big rfl

/-! ### isinstance of data -/
def tyD : PyData → String
  | .none => "NoneType"
  | .bool _ => "bool"
  | .int _ => "int"
  | .str _ => "str"
  | .list _ => "list"
  | .tuple _ => "tuple"
  | .dict _ => "dict"
theorem Dn.ty {K : PySem.W.Frag} {v : V} {d : PyData} (h : Dn M H v d) : TyX K H v (.type (tyD d)) := by
  cases h with
  | non => exact .base .non
  | bl b => exact .base (.bl b)
  | int i => exact .base (.int i)
  | str x => exact .base (.str x)
  | lst e _ _ => exact .base (.lst e)
  | tup e _ _ => exact .base (.tup e)
  | dic e _ _ _ => exact .base (.dK e)
/-- isinstance(x, int), .. of data -/
def isT (T : String) (d : PyData) : Bool := (kitB (tyD d) T).getD false
theorem kit_isT {T : String} (hT : T = "int" ∨ T = "bool" ∨ T = "list" ∨ T = "tuple" ∨ T = "str" ∨ T = "dict") : ∀ d : PyData, kitB (tyD d) T = some (isT T d) := by
  intro d
  rcases hT with rfl | rfl | rfl | rfl | rfl | rfl <;> cases d <;> simp only [tyD, isT] <;> decide +kernel
theorem isT_int : ∀ d, isT "int" d = (match d with | .int _ => true | .bool _ => true | _ => false) := by intro d; cases d <;> simp only [tyD, isT] <;> decide +kernel
theorem isT_bool : ∀ d, isT "bool" d = (match d with | .bool _ => true | _ => false) := by intro d; cases d <;> simp only [tyD, isT] <;> decide +kernel
theorem isT_list : ∀ d, isT "list" d = (match d with | .list _ => true | _ => false) := by intro d; cases d <;> simp only [tyD, isT] <;> decide +kernel
theorem isT_tuple : ∀ d, isT "tuple" d = (match d with | .tuple _ => true | _ => false) := by intro d; cases d <;> simp only [tyD, isT] <;> decide +kernel
def rIsD : List V → Hp → VK → Prop := fun xs H Q => ∃ x T d M, xs = [x, .ty T] ∧ Dn M H x d ∧ (T = "int" ∨ T = "bool" ∨ T = "list" ∨ T = "tuple" ∨ T = "str" ∨ T = "dict") ∧ Q (.bl (isT T d)) H
theorem call_isD : CallR X (.builtin "isinstance") rIsD := by
  intro pins s σ H xs us Q I r h
  obtain ⟨x, T, d, M, rfl, hd, hT, q⟩ := h
  exact call_isi pins s σ H _ us Q I r ⟨x, .ty T, .type (tyD d), .type T, isT T d, rfl, .ty T, hd.ty, kit_ty (kit_isT hT d), q⟩

/-! ### xs[i] op= e of a list -/
def rGetL : V → V → Hp → VK → Prop := fun x y H Q => ∃ p xs i j v, x = .ref p ∧ y = .int i ∧ H p = some (.lst xs) ∧ i = (j : Nat) ∧ xs[j]? = some v ∧ Q v H
theorem get_list : PGet X rGetL := by
  intro pins s σ H x y u v Q I rx ry h
  obtain ⟨p, xs, i, j, z, rfl, rfl, hp, rfl, hj, q⟩ := h
  cases rx
  obtain ⟨t, rfl⟩ := ry
  obtain ⟨its, r, pl, hz⟩ := I.list (SqL.of hp)
  obtain ⟨w, ew, rw'⟩ := r.get hj
  have hn := line63
  have hl : j < xs.length := (List.getElem?_eq_some_iff.mp hj).1
  exact wpAny_getItem_list pl.isList (by omega) (by omega) (by simpa using ew) ⟨z, H, I, rw', q⟩
end
/-! Readings, one step each. -/

section
variable {X : Cx} {K : PySem.W.Frag} {σ : L2.St} {H : Hp} {Q : VK} {D : Ends} {t u : TS} {te ta tb tc : TE} {tr : TA} {c d : TT} {QT : Bool → Hp → Prop} {QA : List V → Hp → Prop}
-- statements
theorem x_seq (h : t { D with nx := u D } σ H) : tSeq t u D σ H := h
theorem x_next (h : D.nx σ H) : tNext D σ H := h
theorem x_asg {g : TG} (h : te σ H fun x H1 => g x σ H1 D.nx) : tAsg te g D σ H := h
theorem x_name {i : Nat} {v : V} {Qs : L2.St → Hp → Prop} (h : Qs (σ.set i (some v)) H) : gName i v σ H Qs := h
theorem x_drop (h : te σ H fun _ H1 => D.nx σ H1) : tDrop te D σ H := h
theorem x_ret (h : te σ H D.rt) : tRet te D σ H := h
theorem x_retN (h : D.rt .non H) : tRetN D σ H := h
theorem x_ifS (h : c σ H fun b H1 => if b = true then t D σ H1 else u D σ H1) : tIfS c t u D σ H := h
theorem x_break (h : D.bk σ H) : tBreak D σ H := h
theorem x_cont (h : D.ct σ H) : tCont D σ H := h
theorem x_aug {i : Nat} {x : V} {ti : TIp} (e : σ[i]? = some (some x)) (h : te σ H fun y H1 => ti x y H1 fun z H2 => D.nx (σ.set i (some z)) H2) : tAug i te ti D σ H := ⟨x, e, h⟩
theorem x_augS {to ti : TE} {g : V → V → Hp → VK → Prop} {p : TIp} {s : TSet} (h : to σ H fun o H1 => ti σ H1 fun i H2 => g o i H2 fun x H3 => te σ H3 fun y H4 => p x y H4 fun z H5 => s o i z H5 fun H6 => D.nx σ H6) : tAugS to ti te g p s D σ H := h
theorem x_par {i j : Nat} (h : tr σ H fun vs H1 => ∃ v w, vs = [v, w] ∧ D.nx ((σ.set i (some v)).set j (some w)) H1) : tPar i j tr D σ H := h
theorem x_par2 {v w : V} {P : V → V → Hp → Prop} (h : P v w H) : ∃ v' w', [v, w] = [v', w'] ∧ P v' w' H := ⟨v, w, rfl, h⟩
theorem x_gsub {to ti : TE} {s : TSet} {v : V} {Qs : L2.St → Hp → Prop} (h : to σ H fun o H1 => ti σ H1 fun i H2 => s o i v H2 fun H3 => Qs σ H3) : gSub to ti s v σ H Qs := h
-- expressions
theorem x_var {i : Nat} {v : V} (e : σ[i]? = some (some v)) (h : Q v H) : tVar i σ H Q := ⟨v, e, h⟩
theorem x_c {v : V} (h : Q v H) : tC v σ H Q := h
theorem x_op {r : R2} (h : ta σ H fun x H1 => tb σ H1 fun y H2 => r x y H2 Q) : tOp r ta tb σ H Q := h
theorem x_un {r : V → Hp → VK → Prop} (h : ta σ H fun x H1 => r x H1 Q) : tUn r ta σ H Q := h
theorem x_call {sp : Sp} {E : XK} (h : tr σ H fun vs H1 => sp vs H1 Q E) : tCall sp [] E tr σ H Q := by
  have e : (fun vs H1 => sp (vs ++ []) H1 Q E) = fun vs H1 => sp vs H1 Q E := by funext vs H1; rw [List.append_nil]
  show tr σ H fun vs H1 => sp (vs ++ []) H1 Q E
  rw [e]; exact h
theorem x_cb {r : List V → Hp → VK → Prop} (h : tr σ H fun vs H1 => r vs H1 Q) : tCB r tr σ H Q := h
theorem x_nil (h : QA [] H) : tNil σ H QA := h
theorem x_cons (h : te σ H fun x H1 => tr σ H1 fun xs H2 => QA (x :: xs) H2) : tCons te tr σ H QA := h
theorem x_tup (h : tr σ H fun xs H1 => xs.length ≤ sizeLine ∧ ∀ p, H1 p = none → Q (.ref p) (upd H1 p (.tup xs))) : tTup tr σ H Q := h
theorem x_lst (h : tr σ H fun xs H1 => xs.length ≤ sizeLine ∧ ∀ p, H1 p = none → Q (.ref p) (upd H1 p (.lst xs))) : tLst tr σ H Q := h
theorem x_new {xs : List V} {P : Prop} (z : xs.length ≤ 100000) (h : P) : xs.length ≤ sizeLine ∧ P := ⟨Nat.le_trans z (by decide), h⟩
theorem x_if (h : c σ H fun b H1 => if b = true then ta σ H1 Q else tb σ H1 Q) : tIf c ta tb σ H Q := h
theorem x_andV (h : ta σ H fun x H1 => ∃ k, x = .bl k ∧ if k = true then tb σ H1 Q else Q (.bl false) H1) : tAndV ta tb σ H Q := h
theorem x_orV (h : ta σ H fun x H1 => ∃ k, x = .bl k ∧ if k = true then Q (.bl true) H1 else tb σ H1 Q) : tOrV ta tb σ H Q := h
theorem x_andP {b1 b2 : Bool} (ha : ∀ Q : VK, Q (.bl b1) H → ta σ H Q) (hb : b1 = true → ∀ Q : VK, Q (.bl b2) H → tb σ H Q) (h : Q (.bl (b1 && b2)) H) : tAndV ta tb σ H Q := by
  refine ha _ ⟨b1, rfl, ?_⟩
  cases b1
  · rw [if_neg Bool.false_ne_true]; exact h
  · rw [if_pos rfl]; exact hb rfl _ (by rw [Bool.true_and] at h; exact h)
theorem x_notV (h : ta σ H fun x H1 => ∃ k, x = .bl k ∧ Q (.bl (!k)) H1) : tNotV ta σ H Q := h
theorem x_chain {r r' : R2} (h : ta σ H fun x H1 => tb σ H1 fun y H2 => r x y H2 fun z H3 => ∃ k, z = .bl k ∧ if k = true then tc σ H3 fun z H4 => r' y z H4 Q else Q (.bl false) H3) : tChain r r' ta tb tc σ H Q := h
-- tests
theorem x_test (h : te σ H fun x H1 => ∃ k, x = .bl k ∧ QT k H1) : tTest te σ H QT := h
theorem x_B (h : te σ H fun x H1 => ∃ k, x = .bl k ∧ QT k H1) : tB te σ H QT := h
theorem x_and (h : c σ H fun b H1 => if b = true then d σ H1 QT else QT false H1) : tAnd c d σ H QT := h
theorem x_or (h : c σ H fun b H1 => if b = true then QT true H1 else d σ H1 QT) : tOr c d σ H QT := h
theorem x_not (h : c σ H fun b H1 => QT (!b) H1) : tNot c σ H QT := h
theorem x_yes (h : QT true H) : tYes σ H QT := h
theorem x_bl {b : Bool} {P : Bool → Prop} (h : P b) : ∃ k, V.bl b = V.bl k ∧ P k := ⟨b, rfl, h⟩
theorem x_ite {p : Prop} [Decidable p] {A B : Prop} (h1 : p → A) (h2 : ¬ p → B) : if decide p = true then A else B := by
  by_cases h : p
  · rw [if_pos (decide_eq_true h)]; exact h1 h
  · rw [if_neg (by rw [decide_eq_false h]; exact Bool.false_ne_true)]; exact h2 h
theorem x_iteN {p : Prop} [Decidable p] {A B : Prop} (h1 : ¬ p → A) (h2 : p → B) : if (!decide p) = true then A else B := by
  by_cases h : p
  · rw [if_neg (by rw [decide_eq_true h]; decide)]; exact h2 h
  · rw [if_pos (by rw [decide_eq_false h]; rfl)]; exact h1 h
theorem x_iteB {b : Bool} {A B : Prop} (h1 : b = true → A) (h2 : b = false → B) : if b = true then A else B := by
  cases b
  · rw [if_neg Bool.false_ne_true]; exact h2 rfl
  · rw [if_pos rfl]; exact h1 rfl
theorem x_iteNB {b : Bool} {A B : Prop} (h1 : b = false → A) (h2 : b = true → B) : if (!b) = true then A else B := by
  cases b
  · rw [if_pos (show (!false) = true from rfl)]; exact h1 rfl
  · rw [if_neg (show ¬ (!true) = true by decide)]; exact h2 rfl
theorem x_iteT {A B : Prop} (h : A) : if true = true then A else B := by rw [if_pos rfl]; exact h
theorem x_iteF {A B : Prop} (h : B) : if false = true then A else B := by rw [if_neg Bool.false_ne_true]; exact h
theorem x_iteNF {A B : Prop} (h : A) : if (!false) = true then A else B := by rw [if_pos (show (!false) = true from rfl)]; exact h
theorem x_iteNT {A B : Prop} (h : B) : if (!true) = true then A else B := by rw [if_neg (by decide)]; exact h
-- values
theorem x_I0 {g : Int → Int → V} {i j : Int} (h : Q (g i j) H) : rI0 g (.int i) (.int j) H Q := ⟨i, j, rfl, rfl, h⟩
theorem x_U {g : Int → V} {i : Int} (h : Q (g i) H) : rU g (.int i) H Q := ⟨i, rfl, h⟩
theorem x_ipI {f : Int → Int → Int} {i j : Int} (h : Q (.int (f i j)) H) : ipI f (.int i) (.int j) H Q := ⟨i, j, rfl, rfl, h⟩
theorem x_eqI {i j : Int} (h : Q (.bl (decide (i = j))) H) : rEq (.int i) (.int j) H Q := by
  refine ⟨rfl, ?_⟩
  have e : decide (V.int i = V.int j) = decide (i = j) := by
    by_cases h : i = j
    · subst h; simp
    · rw [decide_eq_false h, decide_eq_false (fun z => h (V.int.inj z))]
  rw [e]; exact h
theorem x_neI {i j : Int} (h : Q (.bl (!decide (i = j))) H) : rNe (.int i) (.int j) H Q := by
  refine ⟨rfl, ?_⟩
  have e : decide (V.int i = V.int j) = decide (i = j) := by
    by_cases h : i = j
    · subst h; simp
    · rw [decide_eq_false h, decide_eq_false (fun z => h (V.int.inj z))]
  rw [e]; exact h
theorem x_eqS {i j : Str} (h : Q (.bl (decide (i = j))) H) : rEq (.str i) (.str j) H Q := by
  refine ⟨rfl, ?_⟩
  have e : decide (V.str i = V.str j) = decide (i = j) := by
    by_cases h : i = j
    · subst h; simp
    · rw [decide_eq_false h, decide_eq_false (fun z => h (V.str.inj z))]
  rw [e]; exact h
theorem x_neS {i j : Str} (h : Q (.bl (!decide (i = j))) H) : rNe (.str i) (.str j) H Q := by
  refine ⟨rfl, ?_⟩
  have e : decide (V.str i = V.str j) = decide (i = j) := by
    by_cases h : i = j
    · subst h; simp
    · rw [decide_eq_false h, decide_eq_false (fun z => h (V.str.inj z))]
  rw [e]; exact h
theorem x_ixL {p : Addr} {xs : List V} {i : Int} {v : V} (hp : SqL K H p xs) (e : atI xs i = some v) (h : Q v H) : rIxL K (.ref p) (.int i) H Q := ⟨p, xs, i, v, rfl, rfl, hp, e, h⟩
theorem x_ixT {p : Addr} {xs : List V} {i : Int} {v : V} (hp : SqT K H p xs) (e : atI xs i = some v) (h : Q v H) : rIxT K (.ref p) (.int i) H Q := ⟨p, xs, i, v, rfl, rfl, hp, e, h⟩
theorem x_getL {p : Addr} {xs : List V} {i : Int} {v : V} (hp : H p = some (.lst xs)) (hi : i = (i.toNat : Nat)) (e : xs[i.toNat]? = some v) (h : Q v H) : rGetL (.ref p) (.int i) H Q := ⟨p, xs, i, i.toNat, v, rfl, rfl, hp, hi, e, h⟩
theorem x_setL {p : Addr} {xs : List V} {i : Int} {j : Nat} {v : V} {P : Hp → Prop} (hp : H p = some (.lst xs)) (e : ixN xs.length i = some j) (h : P (upd H p (.lst (xs.set j v)))) : rSetL (.ref p) (.int i) v H P := ⟨p, xs, i, j, rfl, rfl, hp, e, h⟩
theorem x_len {p : Addr} {xs : List V} {Z : List V → Prop} (hp : SqL K H p xs) (h : Z xs) : ∃ p' ys, [V.ref p] = [V.ref p'] ∧ (SqL K H p' ys ∨ SqT K H p' ys) ∧ Z ys := ⟨p, xs, rfl, .inl hp, h⟩
theorem x_lenT {p : Addr} {xs : List V} {Z : List V → Prop} (hp : SqT K H p xs) (h : Z xs) : ∃ p' ys, [V.ref p] = [V.ref p'] ∧ (SqL K H p' ys ∨ SqT K H p' ys) ∧ Z ys := ⟨p, xs, rfl, .inr hp, h⟩
theorem x_int1 {i : Int} {Z : Int → Prop} (h : Z i) : ∃ j, [V.int i] = [V.int j] ∧ Z j := ⟨i, rfl, h⟩
theorem x_toTup {p : Addr} {xs : List V} {Z : List V → Prop} {Y : Addr → List V → Prop} (hp : SqL K H p xs) (h : Z xs) : ∃ p' ys, [V.ref p] = [V.ref p'] ∧ ((SqL K H p' ys ∧ Z ys) ∨ Y p' ys) := ⟨p, xs, rfl, .inl ⟨hp, h⟩⟩
theorem x_all {p : Addr} {bs : List Bool} (hp : SqL K H p (bs.map V.bl)) (h : Q (.bl (bs.all id)) H) : rAll K [.ref p] H Q := ⟨p, bs, rfl, hp, h⟩
theorem x_cat {p q : Addr} {xs ys : List V} (hp : H p = some (.lst xs)) (hq : H q = some (.lst ys)) (z : xs.length + ys.length ≤ sizeLine) (h : ∀ l, H l = none → Q (.ref l) (upd H l (.lst (xs ++ ys)))) : rCat (.ref p) (.ref q) H Q := ⟨p, q, xs, ys, rfl, rfl, hp, hq, z, h⟩
theorem x_rep {p : Addr} {k : Int} {xs : List V} (hp : H p = some (.lst xs)) (h1 : -(2 ^ 63) ≤ k) (h2 : k < 2 ^ 63) (z : xs.length * k.toNat ≤ sizeLine) (h : ∀ l, H l = none → Q (.ref l) (upd H l (.lst (List.replicate k.toNat xs).flatten))) : rRep (.ref p) (.int k) H Q := ⟨p, k, xs, rfl, rfl, hp, h1, h2, z, h⟩
theorem x_slL {p : Addr} {xs : List V} {lo hi : Option Int} (hp : SqL K H p xs) (h : ∀ l, H l = none → Q (.ref l) (upd H l (.lst (cutV xs lo hi)))) : rSlL K (.ref p) lo hi H Q := ⟨p, xs, rfl, hp, h⟩
theorem x_sl {r : V → Option Int → Option Int → Hp → VK → Prop} {tl th : TO} (h : te σ H fun x H1 => tl σ H1 fun l H2 => th σ H2 fun u H3 => r x l u H3 Q) : tSl r te tl th σ H Q := h
theorem x_noPart {QO : Option Int → Hp → Prop} (h : QO none H) : tNoPart σ H QO := h
theorem x_part {QO : Option Int → Hp → Prop} (h : te σ H fun x H1 => ∃ i, x = .int i ∧ QO (some i) H1) : tPart te σ H QO := h
theorem x_isI {i : Int} {Z : Int → Prop} (h : Z i) : ∃ j, V.int i = V.int j ∧ Z j := ⟨i, rfl, h⟩
theorem x_isD {M : List Addr} {x : V} {T : String} {d : PyData} (hd : Dn M H x d) (hT : T = "int" ∨ T = "bool" ∨ T = "list" ∨ T = "tuple" ∨ T = "str" ∨ T = "dict") (h : Q (.bl (isT T d)) H) : rIsD [x, .ty T] H Q := ⟨x, T, d, M, rfl, hd, hT, h⟩
theorem x_repr {M : List Addr} {x : V} {d : PyData} (hd : Dn M H x d) (hs : Shows d) (h : Q (.str d.shown) H) : rRepr [x] H Q := ⟨x, d, M, rfl, hd, hs, h⟩
theorem x_dnew {H : Hp} {Q : VK} {σ : L2.St} (h : ∀ p, H p = none → Q (.ref p) (upd H p (.dK []))) : tDNewK σ H Q := h
theorem x_disp {H : Hp} {Q : VK} {σ : L2.St} {trs : List (TE × TE)} (h : ∀ p, H p = none → tPairs trs σ (upd H p (.dK [])) fun ps H2 => H2 p = some (.dK []) ∧ ∃ kvs : List (Key × V), ps = kvs.map (fun kv => (kV kv.1, kv.2)) ∧ kvs.length ≤ 15 ∧ Q (.ref p) (upd H2 p (.dK (mergeK [] kvs)))) : tDisp trs σ H Q := h
-- loops
theorem x_for {wi : TI} {g : TG} {tb : TS} (h : wi σ H fun J H1 => ∃ W : Nat → Nat → L2.St → Hp → Prop, (∃ m, W 0 m σ H1) ∧ ∀ i m σ H, W i m σ H →
    (J.stop i H ∧ D.nx σ H) ∨ (J.go i H ∧ ∃ N : L2.St → Hp → Prop, (∀ σ' H', N σ' H' → ∃ m', m' < m ∧ W (i + 1) m' σ' H') ∧ ∀ x H', J.yld i H x H' → g x σ H' fun σ2 H2 => tb { D with nx := N, ct := N, bk := D.nx } σ2 H2)) : tFor wi g tb D σ H := h
theorem x_iL {tl : TE} {R : It → Hp → Prop} (h : tl σ H fun x H1 => ∃ a, x = .ref a ∧ (∃ xs, SqL K H1 a xs) ∧ R (Itl K a) H1) : iList K tl σ H R := h
theorem x_iT {tl : TE} {R : It → Hp → Prop} (h : tl σ H fun x H1 => ∃ a, x = .ref a ∧ (∃ xs, SqT K H1 a xs) ∧ R (Itt K a) H1) : iTup K tl σ H R := h
theorem x_r1 {R : It → Hp → Prop} (h : tr σ H fun vs H1 => ∃ j : Int, vs = [.int j] ∧ -(2 ^ 62) ≤ j ∧ j < 2 ^ 62 ∧ R (Itr 0 j.toNat) H1) : iRng1 tr σ H R := h
theorem x_r2 {R : It → Hp → Prop} (h : tr σ H fun vs H1 => ∃ i j : Int, vs = [.int i, .int j] ∧ (-(2 ^ 62) ≤ i ∧ i < 2 ^ 62 ∧ -(2 ^ 62) ≤ j ∧ j < 2 ^ 62) ∧ R (Itr i (j - i).toNat) H1) : iRng2 tr σ H R := h
theorem x_lp {p : Addr} {xs : List V} {Z : Addr → Prop} (hp : SqL K H p xs) (h : Z p) : ∃ a, V.ref p = V.ref a ∧ (∃ xs, SqL K H a xs) ∧ Z a := ⟨p, rfl, ⟨xs, hp⟩, h⟩
theorem x_tp {p : Addr} {xs : List V} {Z : Addr → Prop} (hp : SqT K H p xs) (h : Z p) : ∃ a, V.ref p = V.ref a ∧ (∃ xs, SqT K H a xs) ∧ Z a := ⟨p, rfl, ⟨xs, hp⟩, h⟩
theorem x_rg {j : Int} {Z : Int → Prop} (h1 : -(2 ^ 62) ≤ j) (h2 : j < 2 ^ 62) (h : Z j) : ∃ j' : Int, [V.int j] = [V.int j'] ∧ -(2 ^ 62) ≤ j' ∧ j' < 2 ^ 62 ∧ Z j' := ⟨j, rfl, h1, h2, h⟩
theorem x_rg2 {i j : Int} {Z : Int → Int → Prop} (h1 : -(2 ^ 62) ≤ i ∧ i < 2 ^ 62 ∧ -(2 ^ 62) ≤ j ∧ j < 2 ^ 62) (h : Z i j) : ∃ i' j' : Int, [V.int i, V.int j] = [V.int i', V.int j'] ∧ (-(2 ^ 62) ≤ i' ∧ i' < 2 ^ 62 ∧ -(2 ^ 62) ≤ j' ∧ j' < 2 ^ 62) ∧ Z i' j' := ⟨i, j, rfl, h1, h⟩
theorem x_lc {wi : TI} {g : TG} {tt : TT} {vs : List Nat} (h : wi σ H fun J H1 => ∀ L, H1 L = none → ∃ W : Nat → Nat → Hp → Prop, (∃ m, W 0 m (upd H1 L (.lst []))) ∧ ∀ i m H, W i m H →
    (J.stop i H ∧ Q (.ref L) H) ∨ (J.go i H ∧ ∃ N : Hp → Prop, (∀ H', N H' → ∃ m', m' < m ∧ W (i + 1) m' H') ∧ ∀ x H', J.yld i H x H' → g x (wipe σ vs) H' fun σ2 H2 => wipe σ2 vs = wipe σ vs ∧ tt σ2 H2 fun b H3 =>
      if b = true then te σ2 H3 fun y H4 => ∃ acc, H4 L = some (.lst acc) ∧ acc.length < sizeLine ∧ N (upd H4 L (.lst (acc ++ [y]))) else N H3)) : tLc wi g tt te vs σ H Q := h
theorem x_acc {L : Addr} {acc : List V} {Z : List V → Prop} (hl : H L = some (.lst acc)) (z : acc.length < sizeLine) (h : Z acc) : ∃ acc, H L = some (.lst acc) ∧ acc.length < sizeLine ∧ Z acc := ⟨acc, hl, z, h⟩
theorem x_wiped {A B : L2.St} {Z : Prop} (e : A = B) (h : Z) : A = B ∧ Z := ⟨e, h⟩
/-- a statement and what follows it, with a word of one's own between them -/
def tCut (t u : TS) : TS := fun D σ H => ∃ M : L2.St → Hp → Prop, (∀ σ1 H1, M σ1 H1 → u D σ1 H1) ∧ t { D with nx := M } σ H
theorem pss_cut {st : Stmt} {more : List Stmt} (a : PS X st t) (b : PSs X more u) : PSs X (st :: more) (tCut t u) := by
  constructor
  rintro pins s σ H D I ⟨M, hu, ht⟩
  apply wpAny_execs_cons
  refine thn (a.run pins s σ H _ I ht) fun f s1 h => ?_
  match f, h with
  | .next, ⟨σ1, H1, I1, m⟩ => exact b.run pins s1 σ1 H1 D I1 (hu σ1 H1 m)
  | .ret _, h => exact h
  | .brk, h => exact h
  | .cont, h => exact h
theorem x_cut (M : L2.St → Hp → Prop) (h : t { D with nx := M } σ H) (k : ∀ σ1 H1, M σ1 H1 → u D σ1 H1) : tCut t u D σ H := ⟨M, k, h⟩
theorem x_mod {g : Int → Int → V} {i j : Int} (hj : 0 < j) (h : Q (g i j) H) : rI (fun _ j => 0 < j) g (.int i) (.int j) H Q := ⟨i, j, rfl, rfl, hj, h⟩
theorem x_mul {g : Int → Int → V} {i j : Int} (hj : CMul i j) (h : Q (g i j) H) : rI CMul g (.int i) (.int j) H Q := ⟨i, j, rfl, rfl, hj, h⟩
theorem x_div {g : Int → Int → V} {i j : Int} (hj : CDivW i j) (h : Q (g i j) H) : rI CDivW g (.int i) (.int j) H Q := ⟨i, j, rfl, rfl, hj, h⟩
theorem x_pow {g : Int → Int → V} {i j : Int} (hj : CPow i j) (h : Q (g i j) H) : rI CPow g (.int i) (.int j) H Q := ⟨i, j, rfl, rfl, hj, h⟩
theorem ne_of_none2 {p q : Addr} {o : HO} (h : H p = none) (h' : H q = some o) : p ≠ q := fun e => by rw [e, h'] at h; cases h
theorem upd_ne2 {p q : Addr} {o : HO} {r : Option HO} (h : p ≠ q) (e : H p = r) : upd H q o p = r := (upd_ne h).trans e
end
/-! From the law's promise to the row's end; defs by their names. -/

/-- nothing is tracked but the script -/
def scriptH (K : PySem.W.Frag) (a : Addr) (o : Obj) (ns : List Int) : Hp :=
  fun b => if b = a ∧ K.lookup a = none then some (.frz o (.lst (ns.map V.int))) else none

section
variable {P : Program} {w : World} {K : PySem.W.Frag} {mg mb : Str → Option Value}
theorem script_run {k : Nat} {fa a : Addr} {fd : FuncData} {x : Str} {sp : Sp} {z : Shared} {vs : List Value} {ns : List Int}
    (kin : K.In z.heap) (gl : z.heap.Ns mainGlobals mg) (bl : z.heap.Ns builtinsNs mb) (bb : ∀ y : Str, y ≠ "__name__" → mb y = bootBuiltins y)
    (lim : z.heap.NoLimit) (sys : ∃ mm, z.heap.Ns sysModules mm) (gens : z.gens = #[])
    (ha : z.heap.get? a = some { cls := .type "list", data := .seq vs.toArray }) (hi : IntsAre vs ns) (few : ns.length ≤ sizeLine) (room : Room k callerA)
    (F : ∀ base : Heap, K.In base → base.Ns mainGlobals mg → (∃ o, base.get? sysModules = some o) → FnG P w K mg base k fa fd [x] sp)
    (bind : ∀ (s : Shared) (u : Value), BindsTo s fd ⟨[u], []⟩ [(x, u)])
    (want : ∀ H : Hp, SqL K H a (ns.map V.int) → sp [.ref a] H (fun v _ => v = .bl true) E0) :
    codeAny (model P w) callerA (.call (.ref fa) ⟨[.ref a], []⟩)
      (fun r z' => r = .ok (.ret (.bool true)) ∧ OldK z.heap z'.heap ∧ z'.os = z.os ∧ AllBare z'.gens) z := by
  have rv : Vals (ns.map V.int) vs := vals_of_ints hi
  let ob : Obj := { cls := .type "list", data := .seq vs.toArray }
  let H := scriptH K a ob ns
  have only : ∀ b u, H b = some u → b = a ∧ K.lookup a = none ∧ u = .frz ob (.lst (ns.map V.int)) := by
    intro b u e
    show b = a ∧ _
    have e : (if b = a ∧ K.lookup a = none then some (HO.frz ob (.lst (ns.map V.int))) else none) = some u := e
    split at e
    · rename_i h; cases e; exact ⟨h.1, h.2, rfl⟩
    · cases e
  have seen : SqL K H a (ns.map V.int) := by
    cases q : K.lookup a with
    | none => exact .inl (.inr ⟨ob, if_pos ⟨rfl, q⟩⟩)
    | some o =>
      have e := kin a o q
      rw [ha] at e
      cases e
      exact .inr ⟨_, vs.toArray, _, q, rfl, rfl, rfl, by rw [List.size_toArray, hi.length]; exact few, by simpa using rv⟩
  have hok : HOk P w H z.heap := by
    intro b u e
    obtain ⟨rfl, _, rfl⟩ := only b u e
    exact ⟨ha, by rw [List.length_map]; exact few, vs, _, rv, ha⟩
  have notDict : ∀ {b : Addr} {o : Obj} {es : Array DictEntry} {ep : Nat}, z.heap.get? b = some o → o.data = .dict es ep → H b = none := by
    intro b o es ep e d
    cases q : H b with
    | none => rfl
    | some u =>
      obtain ⟨rfl, _, _⟩ := only b u q
      rw [ha] at e; cases e; cases d
  have ns_ : ∀ {b : Addr} {m : Str → Option Value}, z.heap.Ns b m → (hidT z.heap H).Ns b m := by
    rintro b m ⟨o, es, ep, e, d, r⟩
    exact ⟨o, es, ep, hidT_get e (notDict e d), d, r⟩
  have kin' : K.In (hidT z.heap H) := by
    intro b o e
    refine hidT_get (kin b o e) ?_
    cases q : H b with
    | none => rfl
    | some u =>
      obtain ⟨rfl, n, _⟩ := only b u q
      rw [n] at e; cases e
  have modu : Mod K mg (hidT z.heap H) :=
    ⟨kin', ns_ gl, ⟨mb, ns_ bl, bb⟩, by obtain ⟨mc, h1, h2⟩ := lim; exact ⟨mc, ns_ h1, h2⟩⟩
  have sys' : ∃ o, (hidT z.heap H).get? sysModules = some o := by
    obtain ⟨mm, h⟩ := sys
    obtain ⟨o, _, _, e, _⟩ := ns_ h
    exact ⟨o, e⟩
  have entry : Env0 P w K mg (hidT z.heap H) callerA [] z H :=
    ⟨rfl, modu, fun b o e => of_hidT e, Nat.le_of_eq (hidT_size _ _), trivial, fun b hb => absurd hb (by simp [frs]), hok, .of_eq gens⟩
  refine codeAny_mono ((F _ kin' (ns_ gl) sys').go callerA [] z H ⟨[.ref a], []⟩ [.ref a] [.ref a] _ _ room rfl entry (bind z (.ref a)) (.cons rfl .nil) (want H seen)) ?_
  intro r z' h
  match r, h with
  | .error e, h => exact False.elim h
  | .ok .next, h => exact False.elim h
  | .ok .brk, h => exact False.elim h
  | .ok .cont, h => exact False.elim h
  | .ok (.ret u), h =>
    obtain ⟨v, H', os, bare, un, hok', rv', q⟩ := h
    have q : v = .bl true := q
    subst q
    have rv' : u = Value.bool true := rv'
    subst rv'
    refine ⟨rfl, OldK.of_keep ?_, os, bare⟩
    intro b o e
    cases q : H b with
    | none => exact un.keep b o e q (by simp [frs]) (by simp)
    | some u =>
      obtain ⟨rfl, _, rfl⟩ := only b u q
      have e1 := (hok b _ q).1
      have e2 := (hok' b _ (un.frzs b ob _ q)).1
      rw [e] at e1; cases e1
      exact e2

theorem walk_g {l : PySem.W.OpenLaw} {n k : Nat} {q : Program} {loose : List Str} {XP : (Str → Option Value) → Heap → Prop} {YP : World → Heap → Prop} {d : DefRec} {KK : Params → PySem.W.Frag} {sp : PySem.W.Frag → Sp} {x : Str}
    (hn : l.most = some n) (small : n ≤ sizeLine) (hdf : d.params.defaults = []) (room : Room k callerA) (none_ : importsNone q = true)
    (hY : ∀ (w : World) (h : Heap), YP w h → (KK w.params).In h)
    (F : ∀ (w : World) (mg : Str → Option Value) (fa : Addr) (h : Heap), (KK w.params).In h → h.Ns mainGlobals mg → mg d.name = some (.ref fa) →
      ∃ fd : FuncData, (∀ (s : Shared) (u : Value), BindsTo s fd ⟨[u], []⟩ [(x, u)]) ∧
        ∀ base : Heap, (KK w.params).In base → base.Ns mainGlobals mg → (∃ o, base.get? sysModules = some o) → FnG l.prog w (KK w.params) mg base k fa fd [x] (sp (KK w.params)))
    (want : ∀ (K : PySem.W.Frag) (H : Hp) (a : Addr) (ns : List Int), ns.length ≤ n → SqL K H a (ns.map V.int) → sp K [.ref a] H (fun v _ => v = .bl true) E0) :
    PySem.W.WalkO q loose XP YP l.row.toRowW d [] (fun f vs => PySem.call f vs) := by
  refine Att.attach_call hn hdf ?_
  intro w s0 z mg mb fa o pm cd doc a vs ns G Y ho hd hcd hmg hobj hints hlen hg
  have kin := hY w _ Y
  obtain ⟨fd, hb, hF⟩ := F w mg fa _ kin G.T.g hmg
  have sys : ∃ mm, z.heap.Ns sysModules mm := by
    obtain ⟨mm, h, _⟩ := (G.T.seer none_).mods
    exact ⟨mm, h⟩
  exact script_run kin G.T.g G.T.b G.T.builtins G.T.nolimit sys hg hobj hints (Nat.le_trans hlen small) room hF hb (fun H hS => want _ H a ns hlen hS)

/-! ### defs by name -/
structure Df (K : PySem.W.Frag) (mg : Str → Option Value) (nm : Str) (st : Stmt) : Prop where
  ex : ∃ f fd, Fun K nm nm st f fd ∧ mg nm = some (.ref f)
theorem df_mk {h : Heap} {nm : Str} {st : Stmt} {f : Addr} {oc : Value} {od an : Option Addr} {osl : Array (Option Value)} {kV doc pm cdv ct : Value} (X : K.In h) (G : h.Ns mainGlobals mg)
    (a : PySem.W.nsIn K mainGlobals nm = some (some (.ref f)))
    (l : K.lookup f = some ⟨oc, od, .func (PySem.W.fnOf nm nm (defArgs st) (defBody st) (defScope st) .none kV doc pm an cdv ct), osl⟩)
    (c : PySem.W.codeIn K cdv nm = true) (k : PySem.W.keepIn K (.ref f) = true) : Df K mg nm st :=
  ⟨f, _, fun_mk l c k, PySem.W.mg_of X G a⟩

theorem kn_of {base : Heap} {nm : Str} {st : Stmt} {N ps : List Str} {k : Nat} {sp : Sp} (D : Df K mg nm st)
    (bd : ∀ (kV doc pm : Value) (an : Option Addr) (cdv ct : Value) (us : List Value), us.length = ps.length → bindArgs (PySem.W.fnOf nm nm (defArgs st) (defBody st) (defScope st) .none kV doc pm an cdv ct) ⟨us, []⟩ = pure (ps.zip us))
    (S : FnScope N ps (defScope st)) (len : ∀ vs H Q E, sp vs H Q E → vs.length = ps.length)
    (body : ∀ (f : Addr) (cd : Value) (B : Around) (fr : List Env) (z : Shared) (H : Hp) (vs : List V) (Q : VK) (E : XK),
      Room k (B.deeper (envOfC nm (defScope st) z.heap.objs.size f cd)) →
      (B.deeper (envOfC nm (defScope st) z.heap.objs.size f cd)).guards = some [] → sp vs H Q E →
      ∃ t, PSs (bodyX P w K mg base N nm st f cd B fr z H E) (defBody st) t ∧
        t { nx := fun _ H' => Q .non H', rt := Q } (start N vs) H) : Kn P w K mg base nm (k + 1) sp := by
  obtain ⟨f, fd, F, hm⟩ := D.ex
  exact ⟨f, fd, ps, FnG.mk' F S len (body f), hm, F.kp, F.binds bd⟩
/-- the law's own def, for the row's end -/
theorem law_of {nm x : Str} {st : Stmt} {N : List Str} {k : Nat} {sp : Sp} {fa : Addr} (D : Df K mg nm st) (hfa : mg nm = some (.ref fa))
    (bd : ∀ (kV doc pm : Value) (an : Option Addr) (cdv ct : Value) (us : List Value), us.length = ([x] : List Str).length → bindArgs (PySem.W.fnOf nm nm (defArgs st) (defBody st) (defScope st) .none kV doc pm an cdv ct) ⟨us, []⟩ = pure (([x] : List Str).zip us))
    (S : FnScope N [x] (defScope st)) (len : ∀ vs H Q E, sp vs H Q E → vs.length = ([x] : List Str).length)
    (body : ∀ (base : Heap), (∃ o, base.get? sysModules = some o) → ∀ (f : Addr) (cd : Value) (B : Around) (fr : List Env) (z : Shared) (H : Hp) (vs : List V) (Q : VK) (E : XK),
      Room k (B.deeper (envOfC nm (defScope st) z.heap.objs.size f cd)) →
      (B.deeper (envOfC nm (defScope st) z.heap.objs.size f cd)).guards = some [] → sp vs H Q E →
      ∃ t, PSs (bodyX P w K mg base N nm st f cd B fr z H E) (defBody st) t ∧
        t { nx := fun _ H' => Q .non H', rt := Q } (start N vs) H) :
    ∃ fd : FuncData, (∀ (s : Shared) (u : Value), BindsTo s fd ⟨[u], []⟩ [(x, u)]) ∧
      ∀ base : Heap, K.In base → base.Ns mainGlobals mg → (∃ o, base.get? sysModules = some o) → FnG P w K mg base (k + 1) fa fd [x] sp := by
  obtain ⟨f, fd, F, hm⟩ := D.ex
  cases hfa.symm.trans hm
  refine ⟨fd, fun s u => ?_, fun base _ _ sys => FnG.mk' F S len (body base sys fa)⟩
  obtain ⟨oc, od, kV, doc, pm, an, cd, ct, osl, rfl, lk, hc⟩ := F.ex
  exact .of_eq (bd kV doc pm an cd ct [u] rfl)
end
/-! What data show; texts times a number; data as the deep equality wants them. -/

/-! ### sizes of what is shown -/
structure Sz (d : PyData) (p q : Nat) : Prop where
  sh : d.showable = true
  sz : d.shown.length ≤ p
  dp : d.depth ≤ q
theorem Sz.shows {d : PyData} {p q : Nat} (h : Sz d p q) (hp : p ≤ 8000000) (hq : q ≤ 20) : Shows d := ⟨h.sh, Nat.le_trans h.sz hp, Nat.le_trans h.dp hq⟩
theorem Sz.mono {d : PyData} {p q p' q' : Nat} (h : Sz d p q) (hp : p ≤ p') (hq : q ≤ q') : Sz d p' q' := ⟨h.sh, Nat.le_trans h.sz hp, Nat.le_trans h.dp hq⟩
theorem piled_le {p : Nat} : ∀ {ts : List Str}, (∀ t ∈ ts, t.length ≤ p) → piled ts ≤ ts.length * (p + 2)
  | [], _ => by simp [piled]
  | t :: r, h => by
    rw [piled_cons]
    have h1 := h t (by simp)
    have h2 := piled_le (p := p) (ts := r) fun u hu => h u (by simp [hu])
    rw [List.length_cons, Nat.succ_mul]
    omega
theorem textFrom_le : ∀ (ts : List Str) (k : Nat) (acc : Str), (textFrom k acc ts).length ≤ acc.length + piled ts
  | [], k, acc => by rw [piled_nil]; exact Nat.le_refl _
  | t :: r, k, acc => by
    have h := textFrom_le r (k + 1) (acc ++ (if k > 0 then ", " else "" : String) ++ t)
    have e : (acc ++ (if k > 0 then ", " else "" : String) ++ t).length ≤ acc.length + 2 + t.length := by
      rw [strLen_append, strLen_append]
      split
      · exact Nat.le_of_eq rfl
      · show acc.length + 0 + t.length ≤ _; omega
    rw [piled_cons]
    show (textFrom (k + 1) _ r).length ≤ _
    omega
theorem listText_le (ts : List Str) : (listText ts).length ≤ piled ts + 2 := by
  unfold listText
  rw [strLen_append]
  have h := textFrom_le ts 0 "["
  have e : (("[" : String) : Str).length = 1 := rfl
  have e2 : (("]" : String) : Str).length = 1 := rfl
  omega
theorem join_le (ts : List Str) : (Str.join ", " ts).length ≤ piled ts := by
  cases ts with
  | nil => exact Nat.zero_le _
  | cons t r => have := join_length_add (t :: r) (by simp); omega
theorem tupleText_le (ts : List Str) : (tupleText ts).length ≤ piled ts + 3 := by
  unfold tupleText
  rw [strLen_append, strLen_append]
  have h := join_le ts
  have e : (("(" : String) : Str).length = 1 := rfl
  have e2 : (((if ts.length == 1 then ",)" else ")" : String)) : Str).length ≤ 2 := by split <;> decide
  omega
theorem dictText_le (ts : List Str) : (dictText ts).length ≤ piled ts + 2 := by
  unfold dictText
  rw [strLen_append, strLen_append]
  have h := join_le ts
  have e : (("{" : String) : Str).length = 1 := rfl
  have e2 : (("}" : String) : Str).length = 1 := rfl
  omega
theorem all_sz {p q : Nat} : ∀ {ds : List PyData}, (∀ d ∈ ds, Sz d p q) → PyData.showableAll ds = true ∧ (∀ t ∈ PyData.shownAll ds, t.length ≤ p) ∧ PyData.depthAll ds ≤ q ∧ (PyData.shownAll ds).length = ds.length
  | [], _ => ⟨rfl, by simp [PyData.shownAll], Nat.zero_le _, rfl⟩
  | d :: r, h => by
    obtain ⟨a, b, c, e⟩ := all_sz (p := p) (q := q) (ds := r) fun u hu => h u (by simp [hu])
    have hd := h d (by simp)
    refine ⟨by simp only [PyData.showableAll, hd.sh, a, Bool.and_self], ?_, by simp only [PyData.depthAll]; exact Nat.max_le.mpr ⟨hd.dp, c⟩, by simp [PyData.shownAll, e]⟩
    intro t ht
    simp only [PyData.shownAll] at ht
    rcases List.mem_cons.mp ht with rfl | ht
    · exact hd.sz
    · exact b t ht
theorem sz_list {p q : Nat} {ds : List PyData} (h : ∀ d ∈ ds, Sz d p q) : Sz (.list ds) (ds.length * (p + 2) + 3) (q + 1) := by
  obtain ⟨a, b, c, e⟩ := all_sz h
  refine ⟨by simpa only [PyData.showable] using a, ?_, by simp only [PyData.depth]; omega⟩
  simp only [PyData.shown]
  have h1 := listText_le (PyData.shownAll ds)
  have h2 := piled_le b
  rw [e] at h2
  omega
theorem sz_tuple {p q : Nat} {ds : List PyData} (h : ∀ d ∈ ds, Sz d p q) : Sz (.tuple ds) (ds.length * (p + 2) + 3) (q + 1) := by
  obtain ⟨a, b, c, e⟩ := all_sz h
  refine ⟨by simpa only [PyData.showable] using a, ?_, by simp only [PyData.depth]; omega⟩
  simp only [PyData.shown]
  have h1 := tupleText_le (PyData.shownAll ds)
  have h2 := piled_le b
  rw [e] at h2
  omega
theorem sz_none : Sz .none 5 0 := ⟨rfl, by decide, by decide⟩
theorem sz_bool (b : Bool) : Sz (.bool b) 5 0 := ⟨rfl, by cases b <;> decide, by cases b <;> decide⟩
theorem sz_int {i : Int} (h : i.natAbs < 2 ^ 200) : Sz (.int i) 201 0 := by
  have hl : i.natAbs.log2 < 1920 := Nat.lt_of_le_of_lt (by
    by_cases h0 : i.natAbs = 0
    · rw [h0]; decide
    · exact Nat.le_of_lt ((Nat.log2_lt h0).mpr h)) (by decide : 200 < 1920)
  refine ⟨by simpa only [PyData.showable] using decide_eq_true hl, ?_, Nat.le_refl _⟩
  simp only [PyData.shown]
  show (Str.ofString (toString i)).length ≤ _
  rw [PySem.ofString_length]
  cases i with
  | ofNat n =>
    show (Nat.repr n).length ≤ _
    exact Nat.le_trans (nat_repr_length_le (by decide) h) (by decide)
  | negSucc n =>
    show ("-" ++ Nat.repr (n + 1)).length ≤ _
    rw [String.length_append]
    have := nat_repr_length_le (n := n + 1) (k := 200) (by decide) h
    have e : ("-" : String).length = 1 := by decide
    omega
theorem sz_zero : Sz (.int 0) 1 0 := ⟨by decide, by decide, by decide⟩

/-! ### 'a' * n -/
section
variable {X : Cx}
def rMulStr : R2 := fun x y H Q => ∃ s n, x = .str s ∧ y = .int n ∧ MulOk s n ∧ Q (.str (Txt.mul s n)) H
theorem op_mulStr : OpR X (binaryOp .Mult) rMulStr := by
  intro pins s σ H x y v u Q I rx ry h
  obtain ⟨z, n, rfl, rfl, ok, q⟩ := h
  obtain ⟨t, rfl⟩ := rx
  obtain ⟨t', rfl⟩ := ry
  exact SB.mul ok fun t' k => ⟨.str _, H, I.tok _, ⟨_, rfl⟩, q⟩
theorem x_mulS {H : Hp} {Q : VK} {s : Str} {n : Int} (ok : MulOk s n) (h : Q (.str (Txt.mul s n)) H) : rMulStr (.str s) (.int n) H Q := ⟨s, n, rfl, rfl, ok, h⟩
end

/-! ### data without dicts, for == -/
mutual
theorem Dn.dp {K : PySem.W.Frag} {M : List Addr} {H : Hp} : ∀ {v : V} {d : PyData}, Dn M H v d → d.hasDict = false → Dp K H v d
  | _, _, .non, _ => .non
  | _, _, .bl b, _ => .bl b
  | _, _, .int i, _ => .int i
  | _, _, .str x, _ => .str x
  | _, _, .lst e _ a, h => .lst (SqL.of e) (DnAll.dp a (by simpa only [PyData.hasDict] using h))
  | _, _, .tup e _ a, h => .tup (SqT.of e) (DnAll.dp a (by simpa only [PyData.hasDict] using h))
  | _, _, .dic _ _ _ _, h => by simp only [PyData.hasDict] at h; cases h
theorem DnAll.dp {K : PySem.W.Frag} {M : List Addr} {H : Hp} : ∀ {v : List V} {d : List PyData}, DnAll M H v d → PyData.hasDictAll d = false → DpAll K H v d
  | _, _, .nil, _ => .nil
  | _, _, .cons a b, h => by
    simp only [PyData.hasDictAll, Bool.or_eq_false_iff] at h
    exact .cons (Dn.dp a h.1) (DnAll.dp b h.2)
end
/-- equal data are equal -/
theorem x_eqSame {K : PySem.W.Frag} {M : List Addr} {H : Hp} {Q : VK} {x y : V} {d : PyData} (hx : Dn M H x d) (hy : Dn M H y d) (sh : SeqAt.shaped d = true) (h : Q (.bl true) H) : rEqD K x y H Q := by
  have c := SeqAt.canLay_of_shaped sh
  have n := PyData.hasDict_of_canLay d c
  refine ⟨d, d, hx.dp n, hy.dp n, sh, sh, ?_⟩
  rw [SeqAt.eqv_refl d c]
  exact h
/-- new objects beside what stands -/
theorem new_out {H H1 : Hp} {b p : Addr} {o : HO} (S : Same H H1) (hb : H b = some o) (hp : H1 p = none) : p ∉ [b] := by
  intro m
  have e : p = b := by simpa using m
  subst e
  rw [S _ _ hb] at hp; cases hp
theorem grow {H H1 : Hp} {b p : Addr} {o u : HO} {vs : List V} {ds : List PyData} {d : PyData} (S : Same H H1) (hb : H b = some o) (A : DnAll [b] H1 vs ds) (hp : H1 p = none)
    (hd : p ∉ [b] → Dn [b] (upd H1 p u) (.ref p) d) : Same H (upd H1 p u) ∧ DnAll [b] (upd H1 p u) (vs ++ [.ref p]) (ds ++ [d]) :=
  ⟨S.trans (same_upd hp), (A.ext (Ext.same (same_upd hp))).app (.cons (hd (new_out S hb hp)) .nil)⟩
theorem put {H H1 : Hp} {b p : Addr} {o : HO} {vs : List V} {ds : List PyData} (u : HO) (S : Same H H1) (hb : H b = some o) (A : DnAll [b] H1 vs ds) (hp : H1 p = none) :
    Same H (upd H1 p u) ∧ DnAll [b] (upd H1 p u) vs ds ∧ p ∉ [b] ∧ upd H1 p u p = some u :=
  ⟨S.trans (same_upd hp), A.ext (Ext.same (same_upd hp)), new_out S hb hp, upd_same⟩
theorem DnAll.rep {M : List Addr} {H : Hp} {v : V} {d : PyData} (h : Dn M H v d) : ∀ n : Nat, DnAll M H (List.replicate n [v]).flatten (List.replicate n d)
  | 0 => .nil
  | n + 1 => by rw [List.replicate_succ, List.replicate_succ, List.flatten_cons]; exact .cons h (DnAll.rep h n)
theorem atI_of {α : Type} {xs : List α} {i : Int} (h0 : 0 ≤ i) (h1 : i < xs.length) : ∃ v, xs[i.toNat]? = some v ∧ atI xs i = some v := by
  have hi : i.toNat < xs.length := by omega
  refine ⟨xs[i.toNat], List.getElem?_eq_getElem hi, ?_⟩
  have e : i = (i.toNat : Nat) := by omega
  have := atI_nat (xs := xs) (j := i.toNat) (v := xs[i.toNat]) (List.getElem?_eq_getElem hi)
  rw [← e] at this
  exact this
theorem x_revL {K : PySem.W.Frag} {H : Hp} {p : Addr} {xs : List V} {Z : List V → Prop} (hp : SqL K H p xs) (h : Z xs) : ∃ a ys, V.ref p = .ref a ∧ SqL K H a ys ∧ Z ys := ⟨p, xs, rfl, hp, h⟩
theorem x_rev {K : PySem.W.Frag} {σ : L2.St} {H : Hp} {Q : VK} {te : TE} (h : te σ H fun x H1 => ∃ a ys, x = .ref a ∧ SqL K H1 a ys ∧ ∀ l, H1 l = none → Q (.ref l) (upd H1 l (.lst ys.reverse))) : tRevL K te σ H Q := h
theorem ix_at {H : Hp} {p : Addr} {xs : List V} {i : Int} (_ : H p = some (.lst xs)) (h0 : 0 ≤ i) (h1 : i < xs.length) : ∃ v, xs[i.toNat]? = some v ∧ atI xs i = some v := atI_of h0 h1
/-! Sets of tuples of ints, made by a comprehension; their length. -/
/-- what is wanted of adding a value to the set at an address -/
abbrev TAdd := Addr → V → Hp → (Hp → Prop) → Prop
def AddR (X : Cx) (add : TAdd) : Prop :=
  ∀ (pins : List (Addr × Obj)) (σ : L2.St) (H : Hp) (s : Shared) (L : Addr) (y : V) (u : Value) (N : Hp → Prop), Inv X pins σ H s → RelV y u → add L y H N →
    wpAny (model X.prog X.w) X.A (call (.builtin "set.add") [.ref L, u]) (fun _ s' => ∃ H', Inv X pins σ H' s' ∧ N H') (fun _ _ => False) s
/-- the reading of a set comprehension: Z the new set, add what each value's adding asks and leaves -/
def tSetC (Z : Addr → HO) (add : TAdd) (wi : TI) (g : TG) (tt : TT) (te : TE) (vs : List Nat) : TE := fun σ H Q =>
  wi σ H fun J H1 => ∀ L, H1 L = none → ∃ W : Nat → Nat → Hp → Prop, (∃ m, W 0 m (upd H1 L (Z L))) ∧ ∀ i m H2, W i m H2 →
    (J.stop i H2 ∧ Q (.ref L) H2) ∨ (J.go i H2 ∧ ∃ N : Hp → Prop, (∀ H3, N H3 → ∃ m3, m3 < m ∧ W (i + 1) m3 H3) ∧ ∀ x H3, J.yld i H2 x H3 →
      g x (wipe σ vs) H3 fun τ H4 => wipe τ vs = wipe σ vs ∧ tt τ H4 fun b H5 => if b = true then te τ H5 fun y H6 => add L y H6 N else N H5)
def freshSet (w : World) : Obj := { cls := .type "set", dict := none, data := .set #[] 0 (.fresh 0 0 (!w.params.followText "set-order")) }

section
variable {X : Cx}
theorem setc_go {pins : List (Addr × Obj)} {s : Shared} {σ : L2.St} {H : Hp} {Q : VK} {elt tg iter : Expr} {ifs : List Expr} {sc : Scope} {own : List (PySem.Str × Nat)} {p p2 : Pos}
    {wi : TI} {g : TG} {tt : TT} {te : TE} {Z : Addr → HO} {add : TAdd}
    (calm : X.calm = true) (nodup : X.N.Nodup) (I : Inv X pins σ H s) (hi : PI X tg iter wi) (bo : BlkOk X.N X.env.scope sc own)
    (pg : ∀ s H C cl fp, PG (X.blk s H sc (compEnvC sc cl C X.env) fp) tg g)
    (pt : ∀ s H C cl fp, PTs (X.blk s H sc (compEnvC sc cl C X.env) fp) ifs tt)
    (pe : ∀ s H C cl fp, PE (X.blk s H sc (compEnvC sc cl C X.env) fp) elt te)
    (pa : ∀ s H C cl fp, AddR (X.blk s H sc (compEnvC sc cl C X.env) fp) add)
    (fr : ∀ (H : Hp) (h : Heap) (a : Addr), h.get? a = some (freshSet X.w) → ObjOk X.prog X.w H h a (Z a))
    (fold : ∀ x, foldedSetIterable iter X.env x = pure x)
    (want : tSetC Z add wi g tt te (own.map (·.2)) σ H Q) :
    wpAny (model X.prog X.w) X.A (comprehension (.SetComp elt [⟨tg, iter, ifs, 0⟩] sc p) sc X.env p2 (newSet (.type "set")) false (eval iter X.env) none) (EP X pins σ Q) X.xe s := by
  let vs := own.map (·.2)
  have cells : ∀ y ∈ sc.names, y.2 = .free → ∃ c, X.env.cells.lookup y.1 = some c := by
    intro y hy e
    rcases bo.free y hy e with h | h
    · exact I.ok.has _ (Or.inl h)
    · exact I.ok.has _ (Or.inr h)
  apply wpAny_comprehension_free rfl fold (closure_ok cells) bo.kind (fun y hy e => by rw [bo.uniq y hy, e])
  refine thn (hi.run pins s σ H _ I want) ?_
  intro xv sa ha
  refine thn ha ?_
  rintro itv sb ⟨it, fp, tn, J, H2, rfl, Ib, T, stb, fpb, q⟩
  apply PpSet.newSet_ok
  apply newEnv_comp
  obtain ⟨L, eL⟩ : ∃ L, sb.heap.objs.size = L := ⟨_, rfl⟩
  rw [eL]
  obtain ⟨W, ⟨m0, w0⟩, turn⟩ := q L (Ib.hok.fresh (Nat.le_of_eq eL))
  obtain ⟨sd, ed⟩ : ∃ sd : Shared, sd = { sb with heap := sb.heap.push (freshSet X.w) } := ⟨_, rfl⟩
  have hd : sd.heap = sb.heap.push (freshSet X.w) := by rw [ed]
  have Id : Inv X pins σ (upd H2 L (Z L)) sd := by
    rw [ed]
    refine Ib.laid (t' := sb.toks) (fun b o e => Heap.get?_push_of_some _ e) (Nat.le_of_eq eL) (fr _ _ _ ?_)
    rw [← eL]
    exact Heap.get?_push_size _ rfl
  have old : ∀ b ∈ fp, b < sb.heap.objs.size := by
    intro b hb
    obtain ⟨o, e, _⟩ := T.obj _ _ stb b hb
    exact Heap.lt_size e
  have fpd : ∀ b ∈ fp, FpOk X pins (upd H2 L (Z L)) b ∧ b < sd.heap.objs.size := by
    intro b hb
    have lt := old b hb
    have ne : b ≠ L := by rw [← eL]; exact Nat.ne_of_lt lt
    constructor
    · exact ⟨(upd_ne ne).trans (fpb b hb).1, (fpb b hb).2⟩
    · rw [hd, Heap.size_push]; exact Nat.lt_succ_of_lt lt
  have std : tn 0 sd.heap := T.keep _ _ _ stb (fun b _ o e => by rw [hd]; exact Heap.get?_push_of_some _ e)
  have Ie := block_start Id bo nodup fpd
  have none_fp : ∀ b ∈ fp, upd H2 L (Z L) b = none := fun b hb => (fpd b hb).1.1
  let C := sd.heap.objs.size
  let cl := cellsFrom (C + 1) sc.names (cloFrom X.env.cells sc.names [])
  have g1 := pg sd (upd H2 L (Z L)) C cl fp
  have t1 := pt sd (upd H2 L (Z L)) C cl fp
  have e1 := pe sd (upd H2 L (Z L)) C cl fp
  have a1 := pa sd (upd H2 L (Z L)) C cl fp
  obtain ⟨ce, ece⟩ : ∃ ce, compEnvC sc cl C X.env = ce := ⟨_, rfl⟩
  have locC : ce.locals = C := by rw [← ece]; rfl
  rw [ece] at g1 t1 e1 a1
  rw [show compEnvC sc (cellsFrom (sd.heap.objs.size + 1) sc.names (cloFrom X.env.cells sc.names [])) sd.heap.objs.size X.env = ce from ece] at Ie
  obtain ⟨He, eHe⟩ : ∃ He, upd H2 L (Z L) = He := ⟨_, rfl⟩
  rw [eHe] at Id Ie g1 t1 e1 a1 w0 none_fp fpd
  obtain ⟨se, ese⟩ : ∃ se : Shared, se = { sd with heap := pushCells (sd.heap.push { cls := .type "dict", data := .dict #[] }) sc.names } := ⟨_, rfl⟩
  rw [← ese] at Ie
  have ste : tn 0 se.heap := T.keep _ _ _ std (fun b _ o e => by rw [ese]; exact pushCells_keeps _ _ _ _ (Heap.get?_push_of_some _ e))
  have stay : ∀ {τ : L2.St} {H' : Hp} {s' : Shared}, Inv (X.blk sd He sc ce fp) [] τ H' s' → (∀ b ∈ fp, H' b = none) → ∀ b ∈ fp, FpOk (X.blk sd He sc ce fp) [] H' b := by
    intro τ H' s' J hn b hb
    exact ⟨hn b hb, (J.ok.exf b hb).1, J.ok.exfs b hb, Or.inl hb, (J.ok.exf b hb).2, fun q hq => by cases hq⟩
  have loop : codeAny (model X.prog X.w) X.A (.compLoop (.SetComp elt [⟨tg, iter, ifs, 0⟩] sc p) 0 (.ref it) (.ref L) ce) (compPost (model X.prog X.w) X.A X.xe none (EP X pins σ Q) (.ref L) C) se := by
    apply PpSet.compLoopS_any (fun n z => ∃ i H', Inv (X.blk sd He sc ce fp) [] (wipe σ vs) H' z ∧ tn i z.heap ∧ (∀ b ∈ fp, H' b = none) ∧ W i n H') ?_ m0 ⟨0, He, Ie, ste, none_fp, w0⟩
    rintro n z ⟨i, Hz, Iz, stz, nz, wz⟩
    rcases turn i n Hz wz with ⟨stop, fin⟩ | ⟨more, N, back, step⟩
    · refine thnF (T.done (X.blk sd He sc ce fp) rfl rfl rfl calm i [] z _ Hz (fun _ _ => False) Iz (stay Iz nz) stz stop) ?_
      rintro r y ⟨rfl, Iy⟩
      have Ix : Inv X pins σ Hz y := Id.call' (ch := fp) Iy.os Iy.base Iy.hok Iy.bare fun b hb =>
        ⟨(fpd b hb).1.2.2.2.1, (fpd b hb).1.2.1, (fpd b hb).1.2.2.2.2.1, (fpd b hb).1.2.2.2.2.2⟩
      have nC : Hz C = none := by rw [← locC]; exact Iy.free
      obtain ⟨m, hn, _⟩ := Iy.loc
      have hn : y.heap.Ns C m := by rw [← locC]; exact hn
      refine ⟨m, hn, fun h2 sb2 => ?_⟩
      obtain ⟨f0, f1, f2, f3, f4, f5⟩ := Id.fpOk (H' := Hz) (Nat.le_refl _) nC
      exact ⟨.ref L, Hz, Ix.turned (t' := y.toks) (fun b o hb e => (sb2.2 b hb).trans e) f0 f1 f3 f4 f5, rfl, fin⟩
    · refine thnF (T.item (X.blk sd He sc ce fp) rfl rfl rfl calm i [] z _ Hz (fun _ _ => False) Iz (stay Iz nz) stz more) ?_
      rintro r y ⟨u, rfl, hy⟩
      refine thnF hy ?_
      rintro _ y2 ⟨x, Hy, Iy, ry, yy, sty, ny⟩
      have Ip := Iy.pinned (stay Iy ny) (T.obj _ _ sty)
      refine thnF (g1.run _ y2 _ Hy x u _ Ip ry (step x Hy yy)) ?_
      rintro _ y3 ⟨τ, H3, I3, hw, q3⟩
      refine thnF (t1.run _ y3 τ H3 _ I3 q3) ?_
      rintro b y4 ⟨H4, I4, q4⟩
      have over : ∀ {s' : Shared} {H' : Hp}, Inv (X.blk sd He sc ce fp) ([] ++ pinsAt fp y2.heap) τ H' s' → N H' →
          ∃ m, m < n ∧ ∃ i H', Inv (X.blk sd He sc ce fp) [] (wipe σ vs) H' s' ∧ tn i s'.heap ∧ (∀ b ∈ fp, H' b = none) ∧ W i m H' := by
        intro s' H' J nx
        obtain ⟨m', lt, w'⟩ := back H' nx
        have pinned : ∀ b ∈ fp, ∀ o, y2.heap.get? b = some o → s'.heap.get? b = some o ∧ H' b = none := by
          intro b hb o e
          have k := J.pin (b, o) (List.mem_append_right _ (List.mem_append_right _ (mem_pinsAt hb e)))
          exact ⟨k.1, k.2.1⟩
        have len : (wipe σ vs).length = τ.length := by rw [← hw, wipe_length]
        refine ⟨m', lt, i + 1, H', (J.unpinned (pins := [])).weak len ?_, T.keep _ _ _ sty (fun b hb o e => (pinned b hb o e).1), ?_, w'⟩
        · intro j v e
          rw [← hw] at e
          exact (wipe_some e).1
        · intro b hb
          obtain ⟨o, e, _⟩ := T.obj _ _ sty b hb
          exact (pinned b hb o e).2
      cases b
      · rw [if_neg Bool.false_ne_true] at q4 ⊢
        exact over I4 q4
      · rw [if_pos rfl] at q4 ⊢
        refine thnF (e1.run _ y4 τ H4 _ I4 q4) ?_
        rintro v y5 ⟨yv, H5, I5, r5, q5⟩
        refine thnF (a1 _ τ H5 y5 L yv v N I5 r5 q5) ?_
        rintro _ y6 ⟨H6, I6, q6⟩
        exact over I6 q6
  have res := PpSet.codeAny_compStart_set loop (T.self X.A 0 _ _ _ ste loop)
  rw [ese, ed] at res
  rw [← ece] at res
  subst ed
  exact res
theorem pe_setC {elt tg iter : Expr} {ifs : List Expr} {sc : Scope} {own : List (PySem.Str × Nat)} {p : Pos} {wi : TI} {g : TG} {tt : TT} {te : TE} {Z : Addr → HO} {add : TAdd}
    (calm : X.calm = true) (nodup : X.N.Nodup) (hi : PI X tg iter wi) (bo : BlkOk X.N X.env.scope sc own)
    (pg : ∀ s H C cl fp, PG (X.blk s H sc (compEnvC sc cl C X.env) fp) tg g)
    (pt : ∀ s H C cl fp, PTs (X.blk s H sc (compEnvC sc cl C X.env) fp) ifs tt)
    (pe : ∀ s H C cl fp, PE (X.blk s H sc (compEnvC sc cl C X.env) fp) elt te)
    (pa : ∀ s H C cl fp, AddR (X.blk s H sc (compEnvC sc cl C X.env) fp) add)
    (fr : ∀ (H : Hp) (h : Heap) (a : Addr), h.get? a = some (freshSet X.w) → ObjOk X.prog X.w H h a (Z a))
    (fold : ∀ x, foldedSetIterable iter X.env x = pure x := by intro _; rfl) :
    PE X (.SetComp elt [⟨tg, iter, ifs, 0⟩] sc p) (tSetC Z add wi g tt te (own.map (·.2))) :=
  ⟨fun pins s σ H Q I h => by
    rw [PpSet.eval_SetComp]
    exact setc_go calm nodup I hi bo pg pt pe pa fr fold h⟩
/-- adding a tuple of ints -/
def addT (K : PySem.W.Frag) (P : Program) (w : World) : TAdd := fun D y H N => ∃ (a : Addr) (k : List Int) (L : List (Addr × List Int)), y = .ref a ∧ SqT K H a (k.map V.int) ∧ H D = some (SetTO P w D L) ∧
  (∀ q ∈ L, SqT K H q.1 (q.2.map V.int)) ∧ L.length + 1 < 64 ∧ ∀ L', (k ∈ L.map (·.2) → L' = L) → (k ∉ L.map (·.2) → L'.Perm ((a, k) :: L)) → N (upd H D (SetTO P w D L'))
theorem addT_ok (hu : X.A.units + 64 < cLine) : AddR X (addT X.K X.prog X.w) := by
  intro pins σ H s D y u N I ry h
  obtain ⟨a, k, L, rfl, ha, hD, hL, few, q⟩ := h
  cases (show u = Value.ref a from ry)
  obtain ⟨es, ep, t, R⟩ := SetT0.full (I.hok D _ hD).1 (fun q hq => I.isT (hL q hq))
  have hx := I.isT ha
  obtain ⟨o, ho, ex, hd⟩ := R.ob
  have ty : s.TypeIs (.ref D) "set" := ⟨o, ho, ex.1⟩
  refine wpAny_call_entry F.slot_set_add ty F.entry_set_add ?_ (F.args_set_add_2 _ _)
  unfold Builtin.«set.add» Builtin.Frozenset.oneOther
  simp only [List.isEmpty_nil, bind_assoc]
  unfold Builtin.Frozenset.addrOf setAdd
  apply wpAny_bind
  apply wpAny_pure
  try dsimp only
  apply wpAny_bind
  apply wpAny_pure
  try dsimp only
  apply wpAny_bind
  apply wpAny_holding
  apply wpAny_bind
  refine wpAny_pyHash_tuple (by show X.A.units + 1 < cLine; omega) hx ?_
  refine add_at (s := { s with toks := s.toks + (k.length + 1) }) R hx (by show X.A.units + 1 < cLine; omega) few ?_
  intro b h2 L2 es2 ep2 t2 sb R2 c1 c2
  have ex2 : ∃ u, h2.get? D = some u := by obtain ⟨o2, ho2, _⟩ := R2.ob; exact ⟨o2, ho2⟩
  show wpAny _ _ (ret Value.none) _ _ _
  refine wpAny_pure ⟨_, rfl, _, ?_, q L2 c1 c2⟩
  exact I.write (e := D) (t' := s.toks + (k.length + 1)) (by rw [hD]; trivial) (Or.inl rfl) (fun b u hb e => (sb.2 b hb).trans e) ex2 (setTO_new R2.t0)
theorem freshT (H : Hp) (h : Heap) (a : Addr) (e : h.get? a = some (freshSet X.w)) : ObjOk X.prog X.w H h a (SetTO X.prog X.w a []) := setTO_new (setTR_fresh e).t0
/-- len of such a set -/
def rLenT (K : PySem.W.Frag) (P : Program) (w : World) : List V → Hp → VK → Prop := fun xs H Q => ∃ a L, xs = [.ref a] ∧ H a = some (SetTO P w a L) ∧ (∀ q ∈ L, SqT K H q.1 (q.2.map V.int)) ∧ Q (.int L.length) H
theorem call_lenT : CallR X (.builtin "len") (rLenT X.K X.prog X.w) := by
  intro pins s σ H xs us Q I r h
  obtain ⟨a, L, rfl, ha, hL, q⟩ := h
  rw [Vals.ref1 r]
  obtain ⟨es, ep, t, R⟩ := SetT0.full (I.hok a _ ha).1 (fun p hp => I.isT (hL p hp))
  obtain ⟨o, ho, ex, hd⟩ := R.ob
  have few := R.few
  have sz := R.size
  refine call_len_set ho ex hd R.fits (by omega) ⟨.int L.length, H, I.tok _, ⟨_, by rw [sz]⟩, q⟩
/-- list.count of data -/
def rCntD : V → List V → Hp → VK → Prop := fun x xs H Q => ∃ (y : V) (M : List Addr) (d : PyData) (ds : List PyData), xs = [y] ∧ Dn M H x (.list ds) ∧ Dn M H y d ∧ PyData.plainAll ds = true ∧ d.plain = true ∧ d.depth ≤ 20 ∧
  Q (.int ((ds.countP fun z => PyData.eqv z d : Nat) : Int)) H
theorem mt_count (hu : X.A.units + 64 < cLine) : MtR X "list.count" rCntD := by
  intro pins s σ H x xs v us Q I rx rxs h
  obtain ⟨y, M, d, ds, rfl, hx, hy, p1, p2, dp, q⟩ := h
  obtain ⟨u, rfl, ru⟩ := rxs.one
  obtain ⟨bs, rd, _⟩ := Dn.reads I d y u hy ru
  cases hx with
  | lst ha _ hds =>
    cases rx
    obtain ⟨_, its, n, rv, ho⟩ := I.hok _ _ ha
    obtain ⟨as, rs, _⟩ := DnAll.reads I ds _ its hds rv
    refine PySem.SeqAt.count_list_data ⟨_, ho, rfl, _, rfl⟩ rs rd p1 p2 (by show X.A.units + 1 + _ < cLine; have := Nat.min_le_right (PyData.depthAll ds) d.depth; omega) ⟨.int _, H, I.tok _, ⟨_, rfl⟩, q⟩
end
/-! Tuples: turned about, cut, joined, as data. -/
section
variable {prog : Program} {w : World} {A : Around} {E : Value → Shared → Prop} {s : Shared}
theorem rev_adjust (n : Nat) : Builtin.Slice.sliceAdjust none none (-1) (n : Int) = ((n : Int) - 1, -1) := by
  simp [Builtin.Slice.sliceAdjust]
theorem rev_places (n : Nat) : Builtin.Slice.slicePlaces ((n : Int) - 1) (-1) (-1) = n := by
  unfold Builtin.Slice.slicePlaces
  rw [if_neg (by decide)]
  by_cases h : (n : Int) - 1 > -1
  · simp only [h, if_true]; simp
  · simp only [h, if_false]
    first | done | omega
theorem fmap_of {α β : Type} {f : α → Option β} {g : α → β} : ∀ {l : List α}, (∀ m ∈ l, f m = some (g m)) → l.filterMap f = l.map g
  | [], _ => rfl
  | a :: l, h => by
    rw [List.filterMap_cons, h a (List.mem_cons_self ..), List.map_cons, fmap_of fun m hm => h m (List.mem_cons_of_mem _ hm)]
theorem rev_pick (xs : Array Value) : ((List.range xs.size).filterMap fun (m : Nat) => xs[((xs.size : Int) - 1 + (m : Int) * -1).toNat]?).toArray = xs.toList.reverse.toArray := by
  congr 1
  apply List.ext_getElem?
  intro i
  have e : ((List.range xs.size).filterMap fun (m : Nat) => xs[((xs.size : Int) - 1 + (m : Int) * -1).toNat]?) = (List.range xs.size).map fun m => xs.getD (xs.size - 1 - m) .none := by
    refine fmap_of fun m hm => ?_
    have := List.mem_range.mp hm
    have h1 : ((xs.size : Int) - 1 + (m : Int) * -1).toNat = xs.size - 1 - m := by omega
    have h2 : xs.size - 1 - m < xs.size := by omega
    rw [h1, Array.getElem?_eq_getElem h2]
    simp [Array.getD, h2]
  rw [e]
  by_cases hi : i < xs.size
  · have h2 : xs.size - 1 - i < xs.size := by omega
    rw [List.getElem?_map, List.getElem?_range hi, List.getElem?_reverse (by simpa using hi)]
    simp [Array.getD, h2]
  · rw [List.getElem?_eq_none (by simp; omega), List.getElem?_eq_none (by simp; omega)]
theorem sliceApplied_rev {sl : Addr} {n : Nat} {t : Tok} {Q : Int × Int × Nat → Shared → Prop} (hs : s.heap.IsSliceOf sl .none .none (.int (-1) t))
    (h : Q ((n : Int) - 1, -1, n) s) : wpAny (model prog w) A (Builtin.Slice.sliceApplied (.ref sl) (pure (n : Int))) Q E s := by
  obtain ⟨os, hos, hcs, hds⟩ := id hs
  unfold Builtin.Slice.sliceApplied Builtin.Slice.sliceFields
  refine wpAny_bind (wpAny_bind (wpAny_field hos hds (x := .none) rfl (wpAny_bind (wpAny_field hos hds (x := .none) rfl (wpAny_bind (wpAny_field hos hds (x := .int (-1) t) rfl (wpAny_pure ?_)))))))
  refine wpAny_bind (slicePart_int ?_)
  show wpAny _ _ (if ((-1 : Int) == 0) = true then _ else _) _ _ s
  rw [if_neg (by decide)]
  refine wpAny_bind (slicePart_none (wpAny_bind (slicePart_none (wpAny_bind (wpAny_pure ?_)))))
  show wpAny _ _ (match Builtin.Slice.sliceAdjust none none (-1) (n : Int) with | (lo, hi) => pure (lo, (-1 : Int), Builtin.Slice.slicePlaces lo hi (-1))) _ _ s
  rw [rev_adjust n]
  show wpAny _ _ (pure ((n : Int) - 1, (-1 : Int), Builtin.Slice.slicePlaces ((n : Int) - 1) (-1) (-1))) _ _ s
  rw [rev_places]
  exact wpAny_pure h
theorem getItem_tuple_rev {t sl : Addr} {items : Array Value} {k : Tok} {Q : Value → Shared → Prop} (ht : IsTup s.heap t items) (hs : s.heap.IsSliceOf sl .none .none (.int (-1) k))
    (h : Q (.ref s.heap.objs.size) { s with heap := s.heap.push { cls := .type "tuple", data := .seq items.toList.reverse.toArray } })
    (hsz : items.size ≤ sizeLine) : wpAny (model prog w) A (getItem (.ref t) (.ref sl)) Q E s := by
  have htake : sizeOk (.seq items.toList.reverse.toArray) := by
    show items.toList.reverse.toArray.size ≤ sizeLine
    rw [List.size_toArray, List.length_reverse, Array.length_toList]
    exact hsz
  obtain ⟨os, hos, hcs, hds⟩ := id hs
  have hTs : s.TypeIs (.ref sl) "slice" := ⟨os, hos, hcs⟩
  unfold getItem
  try with_reducible refine wpAny_holding ?_
  first | refine wpAny_bind (wpAny_pure ?_) | skip
  refine wpAny_bind (wpAny_sequenceKey ht.typeIs (by decide) ?_)
  refine wpAny_bind (wpAny_callSpecial?_slot (name := Str.ofString "__getitem__") ht.typeIs PyProof.Rows.slot_tuple_getitem
    (wpAny_call_entry PyProof.Rows.slot_tuple_getitem ht.typeIs PySem.F.entry_tuple_getitem ?_ (PySem.F.args_tuple_getitem_2 _ _)))
  show wpAny _ _ (Builtin.Tuple.tupleItemsOf (.ref t) >>= _) _ _ s
  refine wpAny_bind (tupleItemsOf_ ht ?_)
  refine wpAny_bind (wpAny_typeOf hTs ?_)
  rw [if_pos (by decide)]
  refine wpAny_bind (sliceApplied_rev hs ?_)
  have hno : ¬ ((((items.size : Int) - 1) == 0 && (-1 : Int) == 1 && items.size == items.size) = true) := by
    intro q
    rw [Bool.and_eq_true, Bool.and_eq_true] at q
    have q1 : (-1 : Int) = 1 := eq_of_beq q.1.2
    omega
  show wpAny _ _ (if (((items.size : Int) - 1) == 0 && (-1 : Int) == 1 && items.size == items.size) = true then _ else _) _ _ s
  rw [if_neg hno, rev_pick]
  first
    | exact wpAny_bind (m := Builtin.Tuple.tupleExact _) (wpAny_newObj_type (wpAny_pure ⟨_, rfl, wpAny_pure h⟩) htake)
    | exact wpAny_bind (m := Builtin.Tuple.tupleExact _) (wpAny_newObj_type (wpAny_bind (wpAny_pure (wpAny_pure ⟨_, rfl, wpAny_pure h⟩))) htake)
    | exact wpAny_bind (wpAny_bind (m := Builtin.Tuple.tupleExact _) (wpAny_newObj_type (wpAny_pure (wpAny_pure ⟨_, rfl, wpAny_pure h⟩)) htake))
    | exact wpAny_bind (wpAny_bind (m := Builtin.Tuple.tupleExact _) (wpAny_newObj_type (wpAny_pure ⟨_, rfl, wpAny_pure h⟩) htake))
end
section
variable {X : Cx}
def tRevT (K : PySem.W.Frag) (te : TE) : TE := fun σ H Q => te σ H fun x H1 => ∃ a xs, x = .ref a ∧ SqT K H1 a xs ∧ ∀ p, H1 p = none → Q (.ref p) (upd H1 p (.tup xs.reverse))
theorem pe_revT {e : Expr} {te : TE} {k : Nat} {p1 p2 p3 pos : Pos} (he : PE X e te) : PE X (.Subscript e (.Slice none none (some (.UnaryOp .USub (.Constant (.int 1) k p1) p2)) p3) pos) (tRevT X.K te) := by
  refine ⟨fun pins s σ H Q I h => ?_⟩
  refine Subscript_ (thn (he.run pins s σ H _ I h) fun v s1 ⟨x, H1, I1, r1, q1⟩ => ?_)
  obtain ⟨a, xs, ex, hx, q⟩ := q1
  subst ex
  cases r1
  have hst : PO X (some (.UnaryOp .USub (.Constant (.int 1) k p1) p2)) (tPart (tUn (rU fun i => .int (-i)) (tC (.int 1)))) := po_some (pe_un un_neg pe_int)
  refine wpAny_Slice (thn (po_none.run pins s1 σ H1 (fun o H2 => o = none ∧ H2 = H1) I1 ⟨rfl, rfl⟩) fun vl s2 ⟨l, H2, I2, pl, el, e2⟩ => ?_)
  subst el e2
  refine thn (po_none.run pins s2 σ H2 (fun o H3 => o = none ∧ H3 = H2) I2 ⟨rfl, rfl⟩) fun vu s3 ⟨u, H3, I3, pu, eu, e3⟩ => ?_
  subst eu e3
  refine thn (hst.run pins s3 σ H3 (fun o H4 => o = some (-1) ∧ H4 = H3) I3 ⟨1, rfl, -1, rfl, rfl, rfl⟩) fun vs s4 ⟨o, H4, I4, ps, eo, e4⟩ => ?_
  subst eo e4
  have I5 : Inv X pins σ H4 { s4 with heap := s4.heap.push { cls := .type "slice", data := .fields #[vl, vu, vs] } } := I4.kept (t' := s4.toks) fun b ob q => Heap.get?_push_of_some _ q
  cases pl
  cases pu
  cases ps with
  | int _ tk =>
  obtain ⟨its, r, ht, hz⟩ := I5.tuple hx
  have hlen := r.length
  show wpAny (model X.prog X.w) X.A (subscriptTail e (.Slice none none (some (.UnaryOp .USub (.Constant (.int 1) k p1) p2)) p3) (.ref a) (.ref s4.heap.objs.size)) (EP X pins σ Q) X.xe { s4 with heap := s4.heap.push { cls := .type "slice", data := .fields #[.none, .none, .int (-1) tk] } }
  refine tail_any (ops := [.ref a, .ref s4.heap.objs.size]) ht.typeIs (PyProof.Rows.slot_tuple_getitem.lookup) ?_ (by with_unfolding_all rfl)
  refine getItem_tuple_rev ht (Heap.IsSliceOf.new _ .none .none (.int (-1) tk)) ?_ (by rw [List.size_toArray]; omega)
  refine ⟨.ref _, _, I5.laid (t' := s4.toks) (o := .tup xs.reverse) (fun b ob q => Heap.get?_push_of_some _ q) (Nat.le_refl _) ?_, rfl, q _ (I5.hok.fresh (Nat.le_refl _))⟩
  exact ⟨by rw [List.length_reverse]; exact hz, _, r.reverse, IsTup.new _ _⟩
end
/-! readings -/
section
variable {K : PySem.W.Frag} {H : Hp} {Q : VK} {b0 : Addr} {ob : HO}
theorem x_catD {a b : Addr} {xs ys : List V} (hob : H b0 = some ob) (ha : H a = some (.tup xs)) (na : a ∉ [b0]) (hb : H b = some (.tup ys)) (nb : b ∉ [b0]) (z : xs.length + ys.length ≤ 100000)
    (h : ∀ p H', Same H H' → H' p = some (.tup (xs ++ ys)) → p ∉ [b0] → Q (.ref p) H') : rCatA K (.ref a) (.ref b) H Q := by
  refine ⟨a, b, xs, ys, rfl, rfl, SqT.of ha, SqT.of hb, Nat.le_trans z (by decide), ?_, ?_, ?_⟩
  · rintro rfl; exact h b H (Same.refl H) (by rw [hb]; rfl) nb
  · rintro _ rfl; exact h a H (Same.refl H) (by rw [ha, List.append_nil]) na
  · intro _ _ p hp; exact h p _ (same_upd hp) upd_same (new_out (Same.refl H) hob hp)
theorem cutV_whole {xs : List V} {lo hi : Option Int} (h : HT.sIx xs.length 0 lo = 0 ∧ HT.sIx xs.length xs.length hi = xs.length) : cutV xs lo hi = xs := by
  unfold cutV; rw [h.1, h.2]; simp
theorem x_slD {a : Addr} {xs : List V} {lo hi : Option Int} (hob : H b0 = some ob) (ha : H a = some (.tup xs)) (na : a ∉ [b0])
    (h : ∀ p H', Same H H' → H' p = some (.tup (cutV xs lo hi)) → p ∉ [b0] → Q (.ref p) H') : rSlA K (.ref a) lo hi H Q := by
  refine ⟨a, xs, rfl, SqT.of ha, fun w => ?_, fun _ p hp => h p _ (same_upd hp) upd_same (new_out (Same.refl H) hob hp)⟩
  exact h a H (Same.refl H) (by rw [ha, cutV_whole w]) na
theorem x_revT {σ : L2.St} {te : TE} (h : te σ H fun x H1 => ∃ a xs, x = .ref a ∧ SqT K H1 a xs ∧ ∀ p, H1 p = none → Q (.ref p) (upd H1 p (.tup xs.reverse))) : tRevT K te σ H Q := h
theorem cut_dn {M : List Addr} {v : List V} {d : List PyData} (lo hi : Option Int) (h : DnAll M H v d) : ∃ e, DnAll M H (cutV v lo hi) e ∧ (∀ z ∈ e, z ∈ d) ∧ e.length ≤ d.length := by
  refine ⟨_, (h.drop _).take _, fun z hz => List.mem_of_mem_drop (List.mem_of_mem_take hz), ?_⟩
  rw [List.length_take, List.length_drop]; omega
theorem DnAll.rev {M : List Addr} : ∀ {v : List V} {d : List PyData}, DnAll M H v d → DnAll M H v.reverse d.reverse
  | _, _, .nil => .nil
  | _, _, .cons a b => by rw [List.reverse_cons, List.reverse_cons]; exact (DnAll.rev b).app (.cons a .nil)
theorem x_gtup {σ : L2.St} {n : Nat} {p : Addr} {xs : List V} {t : TGs} {Qs : L2.St → Hp → Prop} (hp : SqT K H p xs) (hl : xs.length = n) (h : t xs σ H Qs) : gTup K n t (.ref p) σ H Qs := ⟨p, xs, rfl, hp, hl, h⟩
theorem x_gcons {σ : L2.St} {v : V} {r : List V} {t : TG} {u : TGs} {Qs : L2.St → Hp → Prop} (h : t v σ H fun σ' H' => u r σ' H' Qs) : gCons t u (v :: r) σ H Qs := ⟨v, r, rfl, h⟩
theorem x_gnil {σ : L2.St} {Qs : L2.St → Hp → Prop} (h : Qs σ H) : gNil [] σ H Qs := ⟨rfl, h⟩
/-- a set comprehension over a list that it leaves as it is -/
theorem setc_list {Z : Addr → HO} {add : TAdd} {a : Addr} {xs : List V} {g : TG} {tt : TT} {te : TE} {vs : List Nat} {σ : L2.St} {H1 : Hp} {L : Addr} {Qd : Hp → Prop} (Pv : Nat → Hp → Prop) (h0 : Pv 0 (upd H1 L (Z L)))
    (hl : ∀ i H, i ≤ xs.length → Pv i H → SqL K H a xs)
    (hs : ∀ i x H, xs[i]? = some x → Pv i H → g x (wipe σ vs) H fun τ H4 => wipe τ vs = wipe σ vs ∧ tt τ H4 fun b H5 => if b = true then te τ H5 fun y H6 => add L y H6 (Pv (i + 1)) else Pv (i + 1) H5) (hd : ∀ H, Pv xs.length H → Qd H) :
    ∃ W : Nat → Nat → Hp → Prop, (∃ m, W 0 m (upd H1 L (Z L))) ∧ ∀ i m H2, W i m H2 →
    ((Itl K a).stop i H2 ∧ Qd H2) ∨ ((Itl K a).go i H2 ∧ ∃ N : Hp → Prop, (∀ H3, N H3 → ∃ m3, m3 < m ∧ W (i + 1) m3 H3) ∧ ∀ x H3, (Itl K a).yld i H2 x H3 →
      g x (wipe σ vs) H3 fun τ H4 => wipe τ vs = wipe σ vs ∧ tt τ H4 fun b H5 => if b = true then te τ H5 fun y H6 => add L y H6 N else N H5) := by
  refine ⟨fun i m H => m = xs.length - i ∧ i ≤ xs.length ∧ Pv i H, ⟨xs.length, by simp, Nat.zero_le _, h0⟩, ?_⟩
  rintro i m H ⟨rfl, hi, p⟩
  have q := hl i H hi p
  by_cases hlt : i < xs.length
  · refine .inr ⟨⟨xs, xs[i], q, by simp [hlt]⟩, Pv (i + 1), fun H' p' => ⟨xs.length - (i + 1), by omega, rfl, hlt, p'⟩, fun x H' y => ?_⟩
    obtain ⟨e, y⟩ := y
    subst e
    exact hs i x _ (y xs q) p
  · have e : i = xs.length := by omega
    subst e
    exact .inl ⟨⟨xs, q, Nat.le_refl _⟩, hd H p⟩
theorem x_setC {σ : L2.St} {Z : Addr → HO} {add : TAdd} {wi : TI} {g : TG} {tt : TT} {te : TE} {vs : List Nat} (h : wi σ H fun J H1 => ∀ L, H1 L = none → ∃ W : Nat → Nat → Hp → Prop, (∃ m, W 0 m (upd H1 L (Z L))) ∧ ∀ i m H2, W i m H2 →
    (J.stop i H2 ∧ Q (.ref L) H2) ∨ (J.go i H2 ∧ ∃ N : Hp → Prop, (∀ H3, N H3 → ∃ m3, m3 < m ∧ W (i + 1) m3 H3) ∧ ∀ x H3, J.yld i H2 x H3 →
      g x (wipe σ vs) H3 fun τ H4 => wipe τ vs = wipe σ vs ∧ tt τ H4 fun b H5 => if b = true then te τ H5 fun y H6 => add L y H6 N else N H5)) : tSetC Z add wi g tt te vs σ H Q := h
theorem x_bm {σ : L2.St} {T : String} {r : V → List V → Hp → VK → Prop} {to : TE} {t : TA} (h : to σ H fun x H1 => tyV K T x H1 ∧ t σ H1 fun xs H2 => r x xs H2 Q) : tBM K T r to t σ H Q := h
theorem x_tyL {p : Addr} {xs : List V} {P : Prop} (hp : SqL K H p xs) (h : P) : tyV K "list" (.ref p) H ∧ P := ⟨.inl ⟨rfl, xs, hp⟩, h⟩
theorem x_app {l : Addr} {xs : List V} {y : V} (hl : H l = some (.lst xs)) (z : xs.length < sizeLine) (h : Q .non (upd H l (.lst (xs ++ [y])))) : rAppend (.ref l) [y] H Q := ⟨l, xs, y, rfl, rfl, hl, z, h⟩
/-- a cut of a tuple: some tuple, old or new -/
theorem x_slN {a : Addr} {xs : List V} {lo hi : Option Int} (ha : H a = some (.tup xs))
    (h : ∀ p H', Same H H' → H' p = some (.tup (cutV xs lo hi)) → Q (.ref p) H') : rSlA K (.ref a) lo hi H Q := by
  refine ⟨a, xs, rfl, SqT.of ha, fun w => ?_, fun _ p hp => h p _ (same_upd hp) upd_same⟩
  exact h a H (Same.refl H) (by rw [ha, cutV_whole w])
end
section
variable {X : Cx} {o e : Expr} {es : List Expr} {to : TE} {t : TA} {name : Str} {apos cpos : Pos} {T id : String} {r : V → List V → Hp → VK → Prop}
/-- a builtin's method, where X isn't known ahead (in a comprehension) -/
theorem pe_bmK (K : PySem.W.Frag) (pa : PlainAttrs T) (slot : Slot T name id) (hty : typeOf (.builtin id) = pure (.type "method_descriptor")) (hm : MtR X id r) (ho : PE X o to) (ha : PA X (e :: es) t) (hK : X.K = K := by rfl)
    (hbase : attributeBase o name X.env (eval o X.env) = eval o X.env := by rfl)
    (hfew : ((backTo cpos (starEach (e :: es) X.env)).all (fun x => !x.1) && (backToKw cpos (keywordEach [] X.env)).all (fun x => x.1.isSome)
      && decide ((e :: es).length + ([] : List Keyword).length + (if ([] : List Keyword).isEmpty then 0 else 1) < 30)) = true := by rfl)
    (hline : (apos.endLine == cpos.line) = true := by rfl) (hs : starEach (e :: es) X.env = (false, eval e X.env) :: starEach es X.env := by rfl) (hplain : (backTo cpos (starEach es X.env)).any (·.1) = false := by rfl) :
    PE X (.Call (.Attribute o name apos) (e :: es) [] cpos) (tBM K T r to t) := by
  subst hK
  exact pe_bm pa slot hty hm ho ha hbase hfew hline hs hplain
end
/-! Own classes: methods, making, len. -/
section
variable {P : Program} {w : World} {K : PySem.W.Frag} {mg : Str → Option Value} {base : Heap} {C : Addr}
/-- a method in the class's body -/
structure Dm (K : PySem.W.Frag) (C : Addr) (m qual : Str) (st : Stmt) : Prop where
  ex : ∃ f fd, Fun K m qual st f fd ∧ Meth K C m f
theorem dm_mk {m qual : Str} {st : Stmt} {f : Addr} {oc : Value} {od an : Option Addr} {osl : Array (Option Value)} {kV doc pm cdv ct : Value}
    (a : PySem.W.findIn K (.ref C) m = some (some (.ref f))) (i : PySem.W.isFn K (.ref f) = true)
    (l : K.lookup f = some ⟨oc, od, .func (PySem.W.fnOf m qual (defArgs st) (defBody st) (defScope st) .none kV doc pm an cdv ct), osl⟩)
    (c : PySem.W.codeIn K cdv qual = true) (k : PySem.W.keepIn K (.ref f) = true) : Dm K C m qual st :=
  ⟨f, _, fun_mk l c k, ⟨a, i, k⟩⟩
/-- a method's promise -/
structure Km (P : Program) (w : World) (K : PySem.W.Frag) (mg : Str → Option Value) (base : Heap) (C : Addr) (m : Str) (k : Nat) (sp : Sp) : Prop where
  ex : ∃ f fd ps, FnG P w K mg base k f fd ps sp ∧ Meth K C m f ∧ Binds K fd ps []
theorem Km.up {m : Str} {j k : Nat} {sp : Sp} (F : Km P w K mg base C m j sp) (h : j ≤ k) : Km P w K mg base C m k sp := by
  obtain ⟨f, fd, ps, a, b⟩ := F.ex
  exact ⟨f, fd, ps, a.up h, b⟩
theorem km_of {m qual : Str} {st : Stmt} {N ps : List Str} {k : Nat} {sp : Sp} (D : Dm K C m qual st)
    (bd : ∀ (kV doc pm : Value) (an : Option Addr) (cdv ct : Value) (us : List Value), us.length = ps.length → bindArgs (PySem.W.fnOf m qual (defArgs st) (defBody st) (defScope st) .none kV doc pm an cdv ct) ⟨us, []⟩ = pure (ps.zip us))
    (S : FnScope N ps (defScope st)) (len : ∀ vs H Q E, sp vs H Q E → vs.length = ps.length)
    (body : ∀ (f : Addr) (cd : Value) (B : Around) (fr : List Env) (z : Shared) (H : Hp) (vs : List V) (Q : VK) (E : XK),
      Room k (B.deeper (envOfC qual (defScope st) z.heap.objs.size f cd)) →
      (B.deeper (envOfC qual (defScope st) z.heap.objs.size f cd)).guards = some [] → sp vs H Q E →
      ∃ t, PSs (bodyX P w K mg base N qual st f cd B fr z H E) (defBody st) t ∧
        t { nx := fun _ H' => Q .non H', rt := Q } (start N vs) H) : Km P w K mg base C m (k + 1) sp := by
  obtain ⟨f, fd, F, hm⟩ := D.ex
  exact ⟨f, fd, ps, FnG.mk' F S len (body f), hm, F.binds bd⟩
/-- a class of the module, known by its name -/
structure Ck (K : PySem.W.Frag) (mg : Str → Option Value) (nm : Str) (C : Addr) : Prop where
  cls : Cls K C
  makes : PySem.W.makesIn K C = true
  kp : PySem.W.keepIn K (.ref C) = true
  at_ : mg nm = some (.ref C)
end
section
variable {X : Cx} {k : Nat} {C : Addr} {sp : Sp} {m nm : Str} {p apos pos : Pos} {e o : Expr} {es : List Expr} {ta : TE} {t : TA}
theorem pe_ownM {pl : Sem Bool} (he : PE X o ta) (c : Cls X.K C) (F : Km X.prog X.w X.K X.mg X.base C m k sp) (room : Room k X.A) (gd : X.A.guards = some []) (ha : PA X (e :: es) t)
    (hst : starEach (e :: es) X.env = (false, eval e X.env) :: starEach es X.env := by rfl) (hpl : (backTo pos (starEach es X.env)).any (·.1) = false := by rfl)
    (ht : eval (.Call (.Attribute o m apos) (e :: es) [] pos) X.env = (do
      let ov ← eval o X.env
      standAt apos.atName
      let (f, first) ← holding [ov] (getMethod ov m pl)
      callWith pos f first (backTo pos (starEach (e :: es) X.env)) (backToKw pos (keywordEach [] X.env))) := by rfl) :
    PE X (.Call (.Attribute o m apos) (e :: es) [] pos) (tMeth C m sp [] E0 ta t) := by
  obtain ⟨f, fd, ps, F, hm, hb⟩ := F.ex
  constructor
  intro pins s σ H Q I h
  refine PySem.W.methodCall_KW (pl := pl) (thn (he.run pins s σ H _ I h) ?_) ht
  rintro u s1 ⟨x, H1, I1, rx, a, dx, fs, rfl, ea, l, q⟩
  cases (show u = Value.ref a from rx)
  refine getmeth_ok I1 ea c hm l ?_
  refine PySem.W.callWith_K (first := [.ref a]) (h₀ := X.base) I.ok.mod.kin hm.kp (thn (ha.run pos pins s1 σ H1 _ I1 q) ?_) hst hpl
  rintro us s2 ⟨vs, H2, I2, r, q2⟩
  rw [List.append_nil] at q2
  exact ⟨I2.kIn, run_own (us := .ref a :: us) (vs := .ref a :: vs) F room gd hb I2 (.cons rfl r) q2⟩
theorem pe_ownM0 {pl : Sem Bool} (he : PE X o ta) (c : Cls X.K C) (F : Km X.prog X.w X.K X.mg X.base C m k sp) (room : Room k X.A) (gd : X.A.guards = some [])
    (ht : eval (.Call (.Attribute o m apos) [] [] pos) X.env = (do
      let ov ← eval o X.env
      standAt apos.atName
      let (f, first) ← holding [ov] (getMethod ov m pl)
      callWith pos f first (backTo pos (starEach [] X.env)) (backToKw pos (keywordEach [] X.env))) := by rfl) :
    PE X (.Call (.Attribute o m apos) [] [] pos) (tMeth C m sp [] E0 ta tNil) := by
  obtain ⟨f, fd, ps, F, hm, hb⟩ := F.ex
  constructor
  intro pins s σ H Q I h
  refine PySem.W.methodCall_KW (pl := pl) (thn (he.run pins s σ H _ I h) ?_) ht
  rintro u s1 ⟨x, H1, I1, rx, a, dx, fs, rfl, ea, l, q⟩
  cases (show u = Value.ref a from rx)
  refine getmeth_ok I1 ea c hm l ?_
  exact PySem.W.callWith_K0 (first := [.ref a]) I1.kIn hm.kp (run_own (us := [.ref a]) (vs := [.ref a]) F room gd hb I1 (.cons rfl .nil) q)
theorem guards_make {A : Around} {us : List Value} {kw : List (Str × Value)} (h : A.guards = some []) : (A.under (.builtin "type.__call__" ⟨.ref C :: us, kw⟩)).guards = some [] := by
  first | exact h | simpa [Around.under, Code.isGuard] using h
theorem guards_in1 {A : Around} (h : A.guards = some []) : A.in1.guards = some [] := by
  first | exact h | simpa [Around.in1] using h
theorem run_ownMk {pins : List (Addr × Obj)} {σ : L2.St} {H : Hp} {s : Shared} {Q : VK} {us : List Value} {vs : List V} (c : Ck X.K X.mg nm C) (F : Km X.prog X.w X.K X.mg X.base C "__init__" k sp) (room : Room (k + 1) X.A) (gd : X.A.guards = some [])
    (I : Inv X pins σ H s) (r : Vals vs us)
    (h : ∀ x dx, H x = none → H dx = none → dx ≠ x → sp (.ref x :: vs) (upd (upd H dx (.own x)) x (.ins C dx [])) (fun v H2 => v = .non ∧ Q (.ref x) H2) E0) :
    wpAny (model X.prog X.w) X.A (call (.ref C) us) (EP X pins σ Q) X.xe s := by
  obtain ⟨f, fd, ps, F, hm, hb⟩ := F.ex
  have q := h (s.heap.objs.size + 1) s.heap.objs.size (I.hok.fresh (Nat.le_succ _)) (I.hok.fresh (Nat.le_refl _)) (Nat.ne_of_lt (Nat.lt_succ_self _))
  have I2 := Inv.made (C := C) I
  have r2 : Vals (V.ref (s.heap.objs.size + 1) :: vs) (Value.ref (s.heap.objs.size + 1) :: us) := .cons rfl r
  have n1 : (Value.ref (s.heap.objs.size + 1) :: us).length = ps.length := r2.length.symm.trans (F.len _ _ _ _ q)
  have bt := hb _ (Value.ref (s.heap.objs.size + 1) :: us) I2.kIn (by rw [List.append_nil]; exact n1)
  rw [List.append_nil] at bt
  refine wpAny_call (make_map (f := f) I.kIn c.makes hm.at_ (beq_iff_eq.mp hm.fn) (codeAny_mono (F.go _ X.stack _ _ ⟨Value.ref (s.heap.objs.size + 1) :: us, []⟩ (Value.ref (s.heap.objs.size + 1) :: us) _ _ E0 (room.make C us []) (guards_make gd)
    (I2.env0.make C us []) bt r2 q) ?_))
  intro res z hz
  match res, hz with
  | .error e, hz => exact False.elim hz
  | .ok (.ret u), hz =>
    obtain ⟨v, H', I3, rv, rfl, q3⟩ := I2.after hz
    exact ⟨rv, ⟨V.ref (s.heap.objs.size + 1), H', I3, rfl, q3⟩⟩
  | .ok .next, hz => exact False.elim hz
  | .ok .brk, hz => exact False.elim hz
  | .ok .cont, hz => exact False.elim hz
theorem pe_ownMk (c : Ck X.K X.mg nm C) (F : Km X.prog X.w X.K X.mg X.base C "__init__" k sp) (room : Room (k + 1) X.A) (gd : X.A.guards = some []) (hg : Gl X nm) (ha : PA X (e :: es) t)
    (hdb : (nm == ("__debug__" : Str)) = false := by decide) (he : starEach (e :: es) X.env = (false, eval e X.env) :: starEach es X.env := by rfl) (hpl : (backTo pos (starEach es X.env)).any (·.1) = false := by rfl) :
    PE X (.Call (.Name nm p) (e :: es) [] pos) (tMake C sp [] E0 t) := by
  constructor
  intro pins s σ H Q I h
  apply wpAny_Call_Name_kw
  refine ld_glob I hg c.at_ ?_ hdb
  refine PySem.W.callWith_K (h₀ := X.base) I.ok.mod.kin c.kp ?_ he hpl
  refine thn (ha.run pos pins s σ H _ I h) ?_
  rintro us s1 ⟨vs, H1, I1, r, q⟩
  refine ⟨I1.kIn, run_ownMk c F room gd I1 r ?_⟩
  intro x dx h1 h2 h3
  have := q x dx h1 h2 h3
  rwa [List.append_nil] at this
/-- len of an own instance -/
def rLenO (C : Addr) (sp : Sp) : List V → Hp → VK → Prop := fun xs H Q => ∃ (a dx : Addr) (fs : List (Str × V)), xs = [.ref a] ∧ H a = some (.ins C dx fs) ∧ sp [.ref a] H (fun v H' => ∃ n : Int, v = .int n ∧ 0 ≤ n ∧ n < 2 ^ 63 ∧ Q (.int n) H') E0
theorem call_lenO (F : Km X.prog X.w X.K X.mg X.base C "__len__" k sp) (room : Room (k + 1) X.A) (gd : X.A.guards = some []) : CallR X (.builtin "len") (rLenO C sp) := by
  intro pins s σ H xs us Q I r h
  obtain ⟨a, dx, fs, rfl, ha, q⟩ := h
  obtain ⟨u, rfl, ru⟩ := vals1 r
  cases (show u = Value.ref a from ru)
  obtain ⟨f, fd, ps, F, hm, hb⟩ := F.ex
  obtain ⟨mA, J, _⟩ := ins_get I.hok ha
  obtain ⟨od, J, _⟩ := J.look
  refine Calls.call_function_entry kind_len plain_len entry_len (args_len1 _) ?_
  unfold Builtin.«len»
  refine wpAny_bind (m := oneArg "len" _) (wpAny_pure ?_)
  have n1 : ([Value.ref a] : List Value).length = ps.length := F.len _ _ _ _ q
  have bt := hb s [.ref a] I.kIn (by rw [List.append_nil]; exact n1)
  rw [List.append_nil] at bt
  have e0 : Env0 X.prog X.w X.K X.mg X.base X.A.in1 X.stack s H := I.env0.in1
  refine wpAny_bind (m := callSpecial? (.ref a) (PySem.Str.ofString "__len__")) (PySem.W.special_fn (name := "__len__") (args := []) I.kIn J hm.at_ (beq_iff_eq.mp hm.fn) ?_)
  refine wpAny_call (codeAny_mono (F.go X.A.in1 X.stack s H ⟨[.ref a], []⟩ [.ref a] [.ref a] _ E0 room.in1 (guards_in1 gd) e0 bt (.cons rfl .nil) q) ?_)
  intro res z hz
  match res, hz with
  | .error e, hz => exact False.elim hz
  | .ok .next, hz => exact False.elim hz
  | .ok .brk, hz => exact False.elim hz
  | .ok .cont, hz => exact False.elim hz
  | .ok (.ret u), hz =>
    obtain ⟨v, H', I3, rv, n, rfl, hn0, hn1, q3⟩ := I.after hz
    obtain ⟨tk, rfl⟩ := (show ∃ t, u = Value.int n t from rv)
    refine wpAny_bind (wpAny_holding (wpAny_pure ?_))
    refine wpAny_bind (wpAny_letGo ?_)
    show wpAny _ _ (if n < 0 then _ else _) _ _ _
    rw [if_neg (by omega)]
    show wpAny _ _ (if n ≥ 2 ^ 63 then _ else _) _ _ _
    rw [if_neg (by omega)]
    exact wpAny_bind (wpAny_mkInt (wpAny_pure ⟨_, rfl, ⟨.int n, H', I3.tok _, ⟨_, rfl⟩, q3⟩⟩))
end
/-- d[k] = v by a comprehension, k a tuple -/
theorem d_setT {X : Cx} {pins : List (Addr × Obj)} {σ : L2.St} {H : Hp} {s : Shared} {E : Value → Shared → Prop} {L b : Addr} {kvs : List (List Key × V)} {k : List Key} {v : V} {u r : Value} {Q : Unit → Shared → Prop} (hu : X.A.units + 64 < cLine)
    (I : Inv X pins σ H s) (hD : H L = some (.dT kvs)) (hb : H b = some (.tup (k.map kV))) (few : kvs.length < sizeLine)
    (ry : RelV (.ref b) u) (rv : RelV v r) (h : ∀ z, Inv X pins σ (upd H L (.dT (putK kvs k v))) z → Q () z) : wpAny (model X.prog X.w) X.A (dictSet L u r) Q E s := by
  cases (show u = Value.ref b from ry)
  obtain ⟨z, hd, xs, rel, dd⟩ := dt_of I.hok hD
  have l1 : xs.length ≤ sizeLine := by rw [← Paired.length rel]; exact z
  have l2 : (putK kvs k v).length ≤ sizeLine := by have := length_putK kvs k v; omega
  refine wpAny_dictSet_heap (hsz := l1) (show X.A.units < cLine by omega) (key_of I.hok hb) dd ?_
  intro h2 d2 sb
  obtain ⟨q, es, ep, hq, e2, e3, e4, _, e5⟩ := d2
  apply h
  refine d_write I (by rw [hD]; trivial) sb ⟨q, hq⟩ ⟨l2, hd, _, (rel.put k hb rv).keeps ?_, q, es, ep, hq, e2, e3, e4, e5⟩
  intro c ys ec
  rw [upd_ne (fun x => by rw [x, hD] at ec; cases ec)]
  exact ec
/-- the reading of a dict comprehension with tuples as keys -/
def tDcT (wi : TI) (g : TG) (tt : TT) (tk tv : TE) (vs : List Nat) : TE := fun σ H Q =>
  wi σ H fun J H1 => ∀ L, H1 L = none → ∃ W : Nat → Nat → Hp → Prop, (∃ m, W 0 m (upd H1 L (.dT []))) ∧ ∀ i m H2, W i m H2 →
    (J.stop i H2 ∧ Q (.ref L) H2) ∨ (J.go i H2 ∧ ∃ N : Hp → Prop, (∀ H3, N H3 → ∃ m3, m3 < m ∧ W (i + 1) m3 H3) ∧ ∀ x H3, J.yld i H2 x H3 →
      g x (wipe σ vs) H3 fun τ H4 => wipe τ vs = wipe σ vs ∧ tt τ H4 fun b H5 => if b = true then tk τ H5 fun y H6 => tv τ H6 fun z H7 =>
        ∃ kvs k b, y = .ref b ∧ H7 L = some (.dT kvs) ∧ H7 b = some (.tup (k.map kV)) ∧ kvs.length < sizeLine ∧ N (upd H7 L (.dT (putK kvs k z))) else N H5)
section
variable {X : Cx}
theorem dct_go {pins : List (Addr × Obj)} {s : Shared} {σ : L2.St} {H : Hp} {Q : VK} {kx vx tg iter : Expr} {ifs : List Expr} {sc : Scope} {own : List (PySem.Str × Nat)} {p p2 : Pos}
    {wi : TI} {g : TG} {tt : TT} {tk tv : TE}
    (calm : X.calm = true) (nodup : X.N.Nodup) (I : Inv X pins σ H s) (hi : PI X tg iter wi) (bo : BlkOk X.N X.env.scope sc own)
    (pg : ∀ s H C cl fp, PG (X.blk s H sc (compEnvC sc cl C X.env) fp) tg g)
    (pt : ∀ s H C cl fp, PTs (X.blk s H sc (compEnvC sc cl C X.env) fp) ifs tt)
    (pk : ∀ s H C cl fp, PE (X.blk s H sc (compEnvC sc cl C X.env) fp) kx tk)
    (pv : ∀ s H C cl fp, PE (X.blk s H sc (compEnvC sc cl C X.env) fp) vx tv) (hu : X.A.units + 64 < cLine)
    (fold : ∀ x, foldedSetIterable iter X.env x = pure x)
    (want : tDcT wi g tt tk tv (own.map (·.2)) σ H Q) :
    wpAny (model X.prog X.w) X.A (comprehension (.DictComp kx vx [⟨tg, iter, ifs, 0⟩] sc p) sc X.env p2 newDict false (eval iter X.env) none) (EP X pins σ Q) X.xe s := by
  let vs := own.map (·.2)
  have cells : ∀ y ∈ sc.names, y.2 = .free → ∃ c, X.env.cells.lookup y.1 = some c := by
    intro y hy e
    rcases bo.free y hy e with h | h
    · exact I.ok.has _ (Or.inl h)
    · exact I.ok.has _ (Or.inr h)
  apply wpAny_comprehension_free rfl fold (closure_ok cells) bo.kind (fun y hy e => by rw [bo.uniq y hy, e])
  refine thn (hi.run pins s σ H _ I want) ?_
  intro xv sa ha
  refine thn ha ?_
  rintro itv sb ⟨it, fp, tn, J, H2, rfl, Ib, T, stb, fpb, q⟩
  refine wpAny_newObj_type (newEnv_comp ?_)
  obtain ⟨L, eL⟩ : ∃ L, sb.heap.objs.size = L := ⟨_, rfl⟩
  rw [eL]
  obtain ⟨W, ⟨m0, w0⟩, turn⟩ := q L (Ib.hok.fresh (Nat.le_of_eq eL))
  obtain ⟨sd, ed⟩ : ∃ sd : Shared, sd = { sb with heap := sb.heap.push { cls := .type "dict", data := .dict #[] } } := ⟨_, rfl⟩
  have hd : sd.heap = sb.heap.push { cls := .type "dict", data := .dict #[] } := by rw [ed]
  have Id : Inv X pins σ (upd H2 L (.dT [])) sd := by
    rw [ed]
    refine Ib.laid (t' := sb.toks) (fun b o e => Heap.get?_push_of_some _ e) (Nat.le_of_eq eL) ?_
    rw [← eL]
    exact dt_empty sb.heap Ib.big
  have old : ∀ b ∈ fp, b < sb.heap.objs.size := by
    intro b hb
    obtain ⟨o, e, _⟩ := T.obj _ _ stb b hb
    exact Heap.lt_size e
  have fpd : ∀ b ∈ fp, FpOk X pins (upd H2 L (.dT [])) b ∧ b < sd.heap.objs.size := by
    intro b hb
    have lt := old b hb
    have ne : b ≠ L := by rw [← eL]; exact Nat.ne_of_lt lt
    constructor
    · exact ⟨(upd_ne ne).trans (fpb b hb).1, (fpb b hb).2⟩
    · rw [hd, Heap.size_push]; exact Nat.lt_succ_of_lt lt
  have std : tn 0 sd.heap := T.keep _ _ _ stb (fun b _ o e => by rw [hd]; exact Heap.get?_push_of_some _ e)
  have Ie := block_start Id bo nodup fpd
  have none_fp : ∀ b ∈ fp, upd H2 L (.dT []) b = none := fun b hb => (fpd b hb).1.1
  let C := sd.heap.objs.size
  let cl := cellsFrom (C + 1) sc.names (cloFrom X.env.cells sc.names [])
  have g1 := pg sd (upd H2 L (.dT [])) C cl fp
  have t1 := pt sd (upd H2 L (.dT [])) C cl fp
  have k1 := pk sd (upd H2 L (.dT [])) C cl fp
  have e1 := pv sd (upd H2 L (.dT [])) C cl fp
  obtain ⟨ce, ece⟩ : ∃ ce, compEnvC sc cl C X.env = ce := ⟨_, rfl⟩
  have locC : ce.locals = C := by rw [← ece]; rfl
  rw [ece] at g1 t1 k1 e1
  rw [show compEnvC sc (cellsFrom (sd.heap.objs.size + 1) sc.names (cloFrom X.env.cells sc.names [])) sd.heap.objs.size X.env = ce from ece] at Ie
  obtain ⟨He, eHe⟩ : ∃ He, upd H2 L (.dT []) = He := ⟨_, rfl⟩
  rw [eHe] at Id Ie g1 t1 k1 e1 w0 none_fp fpd
  obtain ⟨se, ese⟩ : ∃ se : Shared, se = { sd with heap := pushCells (sd.heap.push { cls := .type "dict", data := .dict #[] }) sc.names } := ⟨_, rfl⟩
  rw [← ese] at Ie
  have ste : tn 0 se.heap := T.keep _ _ _ std (fun b _ o e => by rw [ese]; exact pushCells_keeps _ _ _ _ (Heap.get?_push_of_some _ e))
  have stay : ∀ {τ : L2.St} {H' : Hp} {s' : Shared}, Inv (X.blk sd He sc ce fp) [] τ H' s' → (∀ b ∈ fp, H' b = none) → ∀ b ∈ fp, FpOk (X.blk sd He sc ce fp) [] H' b := by
    intro τ H' s' J hn b hb
    exact ⟨hn b hb, (J.ok.exf b hb).1, J.ok.exfs b hb, Or.inl hb, (J.ok.exf b hb).2, fun q hq => by cases hq⟩
  have loop : codeAny (model X.prog X.w) X.A (.compLoop (.DictComp kx vx [⟨tg, iter, ifs, 0⟩] sc p) 0 (.ref it) (.ref L) ce) (compPost (model X.prog X.w) X.A X.xe none (EP X pins σ Q) (.ref L) C) se := by
    apply compLoop_anyD (fun n z => ∃ i H', Inv (X.blk sd He sc ce fp) [] (wipe σ vs) H' z ∧ tn i z.heap ∧ (∀ b ∈ fp, H' b = none) ∧ W i n H') ?_ m0 ⟨0, He, Ie, ste, none_fp, w0⟩
    rintro n z ⟨i, Hz, Iz, stz, nz, wz⟩
    rcases turn i n Hz wz with ⟨stop, fin⟩ | ⟨more, N, back, step⟩
    · refine thnF (T.done (X.blk sd He sc ce fp) rfl rfl rfl calm i [] z _ Hz (fun _ _ => False) Iz (stay Iz nz) stz stop) ?_
      rintro r y ⟨rfl, Iy⟩
      have Ix : Inv X pins σ Hz y := Id.call' (ch := fp) Iy.os Iy.base Iy.hok Iy.bare fun b hb =>
        ⟨(fpd b hb).1.2.2.2.1, (fpd b hb).1.2.1, (fpd b hb).1.2.2.2.2.1, (fpd b hb).1.2.2.2.2.2⟩
      have nC : Hz C = none := by rw [← locC]; exact Iy.free
      obtain ⟨m, hn, _⟩ := Iy.loc
      have hn : y.heap.Ns C m := by rw [← locC]; exact hn
      refine ⟨m, hn, fun h2 sb2 => ?_⟩
      obtain ⟨f0, f1, f2, f3, f4, f5⟩ := Id.fpOk (H' := Hz) (Nat.le_refl _) nC
      exact ⟨.ref L, Hz, Ix.turned (t' := y.toks) (fun b o hb e => (sb2.2 b hb).trans e) f0 f1 f3 f4 f5, rfl, fin⟩
    · refine thnF (T.item (X.blk sd He sc ce fp) rfl rfl rfl calm i [] z _ Hz (fun _ _ => False) Iz (stay Iz nz) stz more) ?_
      rintro r y ⟨u, rfl, hy⟩
      refine thnF hy ?_
      rintro _ y2 ⟨x, Hy, Iy, ry, yy, sty, ny⟩
      have Ip := Iy.pinned (stay Iy ny) (T.obj _ _ sty)
      refine thnF (g1.run _ y2 _ Hy x u _ Ip ry (step x Hy yy)) ?_
      rintro _ y3 ⟨τ, H3, I3, hw, q3⟩
      refine thnF (t1.run _ y3 τ H3 _ I3 q3) ?_
      rintro b y4 ⟨H4, I4, q4⟩
      have over : ∀ {s' : Shared} {H' : Hp}, Inv (X.blk sd He sc ce fp) ([] ++ pinsAt fp y2.heap) τ H' s' → N H' →
          ∃ m, m < n ∧ ∃ i H', Inv (X.blk sd He sc ce fp) [] (wipe σ vs) H' s' ∧ tn i s'.heap ∧ (∀ b ∈ fp, H' b = none) ∧ W i m H' := by
        intro s' H' J nx
        obtain ⟨m', lt, w'⟩ := back H' nx
        have pinned : ∀ b ∈ fp, ∀ o, y2.heap.get? b = some o → s'.heap.get? b = some o ∧ H' b = none := by
          intro b hb o e
          have k := J.pin (b, o) (List.mem_append_right _ (List.mem_append_right _ (mem_pinsAt hb e)))
          exact ⟨k.1, k.2.1⟩
        have len : (wipe σ vs).length = τ.length := by rw [← hw, wipe_length]
        refine ⟨m', lt, i + 1, H', (J.unpinned (pins := [])).weak len ?_, T.keep _ _ _ sty (fun b hb o e => (pinned b hb o e).1), ?_, w'⟩
        · intro j v e
          rw [← hw] at e
          exact (wipe_some e).1
        · intro b hb
          obtain ⟨o, e, _⟩ := T.obj _ _ sty b hb
          exact (pinned b hb o e).2
      cases b
      · rw [if_neg Bool.false_ne_true] at q4 ⊢
        exact over I4 q4
      · rw [if_pos rfl] at q4 ⊢
        refine thnF (k1.run _ y4 τ H4 _ I4 q4) ?_
        rintro kv y5 ⟨yk, H5, I5, r5, q5⟩
        refine thnF (e1.run _ y5 τ H5 _ I5 q5) ?_
        rintro vv y6 ⟨yv, H6, I6, r6, kvs, k, b, rfl, hD, hb, few, nx⟩
        exact d_setT (X := X.blk sd He sc ce fp) (by exact hu) I6 hD hb few r5 r6 fun y7 I7 => over I7 nx
  have res := codeAny_compStart_dict loop (T.self X.A 0 _ _ _ ste loop)
  rw [ese, ed] at res
  rw [← ece] at res
  subst ed
  exact res
theorem pe_dcT {kx vx tg iter : Expr} {ifs : List Expr} {sc : Scope} {own : List (PySem.Str × Nat)} {p : Pos} {wi : TI} {g : TG} {tt : TT} {tk tv : TE}
    (calm : X.calm = true) (nodup : X.N.Nodup) (hi : PI X tg iter wi) (bo : BlkOk X.N X.env.scope sc own)
    (pg : ∀ s H C cl fp, PG (X.blk s H sc (compEnvC sc cl C X.env) fp) tg g)
    (pt : ∀ s H C cl fp, PTs (X.blk s H sc (compEnvC sc cl C X.env) fp) ifs tt)
    (pk : ∀ s H C cl fp, PE (X.blk s H sc (compEnvC sc cl C X.env) fp) kx tk)
    (pv : ∀ s H C cl fp, PE (X.blk s H sc (compEnvC sc cl C X.env) fp) vx tv) (hu : X.A.units + 64 < cLine)
    (fold : ∀ x, foldedSetIterable iter X.env x = pure x := by intro _; rfl) :
    PE X (.DictComp kx vx [⟨tg, iter, ifs, 0⟩] sc p) (tDcT wi g tt tk tv (own.map (·.2))) :=
  ⟨fun pins s σ H Q I h => by
    rw [arm_eval_DictComp]
    exact dct_go calm nodup I hi bo pg pt pk pv hu fold h⟩
end
/-! zip of a tuple with a list. -/
section
variable {prog : Program} {w : World} {A : Around} {E : Value → Shared → Prop} {s : Shared}
/-- zip's state: the tuple's iterator first, then the list's -/
structure ZipSt (h : Heap) (z TI TO ia ib la lb : Addr) (n : Nat) : Prop where
  zip : IsZip h z TI TO .none
  its : IsPair h TI (.ref ia) (.ref ib)
  out : ∃ p q, IsPair h TO p q
  fst : h.IsTupleIter ia la n
  snd : h.IsListIter ib lb n
/-- what a turn may change -/
abbrev ZipKeep (h h2 : Heap) (z TO ia ib : Addr) : Prop := ∀ a o, a ≠ z → a ≠ TO → a ≠ ia → a ≠ ib → h.get? a = some o → h2.get? a = some o
theorem ZipSt.lt {h : Heap} {z TI TO ia ib la lb : Addr} {n : Nat} (S : ZipSt h z TI TO ia ib la lb n) {c : Addr} (hc : c ∈ [z, TI, TO, ia, ib]) : ∃ o, h.get? c = some o ∧ ∀ v, o.data ≠ .cell v := by
  obtain ⟨p, q, ho⟩ := S.out
  obtain ⟨o1, e1, _, d1⟩ := S.fst
  obtain ⟨o2, e2, _, d2⟩ := S.snd
  simp only [List.mem_cons, List.not_mem_nil, or_false] at hc
  rcases hc with rfl | rfl | rfl | rfl | rfl
  · exact ⟨_, S.zip, nofun⟩
  · exact ⟨_, S.its, nofun⟩
  · exact ⟨_, ho, nofun⟩
  · exact ⟨_, e1, by rw [d1]; nofun⟩
  · exact ⟨_, e2, by rw [d2]; nofun⟩
theorem zipM_step {z TI TO ia ib la lb : Addr} {n : Nat} {us vs : Array Value} {u v : Value} {Q : Value → Shared → Prop} (D : ZipApart z TI TO ia ib la lb) (S : ZipSt s.heap z TI TO ia ib la lb n)
    (ha : s.heap.IsTuple la us) (hb : s.heap.IsList lb vs) (hu : us[n]? = some u) (hv : vs[n]? = some v)
    (q : ∀ h2, IsZip h2 z TI TO (rawInt s.heap.objs.size) → IsPair h2 TO u v → h2.IsTupleIter ia la (n + 1) → h2.IsListIter ib lb (n + 1) → IsPair h2 s.heap.objs.size u v →
      ZipKeep s.heap h2 z TO ia ib → Q (.ref s.heap.objs.size) { s with heap := h2 }) :
    wpAny (model prog w) A (Builtin.«zip.__next__» ⟨[.ref z], []⟩) (fun fin t => ∃ r, fin = .done (.ret r) ∧ Q r t) E s := by
  obtain ⟨p0, q0, hO⟩ := S.out
  show wpAny _ _ (field (.ref z) 2 >>= _) _ _ _
  apply wpAny_bind
  refine wpAny_field S.zip rfl (x := .bool false) rfl ?_
  show wpAny _ _ (field (.ref z) 3 >>= _) _ _ _
  apply wpAny_bind
  refine wpAny_field S.zip rfl (x := .ref TI) rfl ?_
  apply wpAny_bind
  refine wpAny_seqItems S.its rfl ?_
  show wpAny _ _ (Builtin.SmallTypes.ownedTupleIsFree (.ref z) >>= _) _ _ _
  apply wpAny_bind
  unfold Builtin.SmallTypes.ownedTupleIsFree
  apply wpAny_bind
  refine wpAny_field S.zip rfl (x := .none) rfl (wpAny_pure ?_)
  simp only [if_true]
  apply wpAny_bind
  apply wpAny_rule
  apply wpAny_bind
  refine wpAny_field S.zip rfl (x := .ref TO) rfl ?_
  apply wpAny_bind
  apply wpAny_setField_rec S.zip (by simp)
  intro h1 Z1 b1
  have Z1 : IsZip h1 z TI TO .ellipsis := Z1
  apply wpAny_bind
  simp only [List.zipIdx_cons, List.zipIdx_nil, List.forIn_cons, List.forIn_nil]
  apply wpAny_bind
  apply wpAny_bind
  apply wpAny_onRaise
  show wpAny _ _ (Builtin.SmallTypes.nextOf (.ref ia) >>= _) _ _ _
  apply wpAny_bind
  refine RZ.nextOf_tuple_item (S.fst.extBut b1.extBut D.i1z) (ha.extBut b1.extBut D.l1z) hu ?_
  intro h2 i2 b2
  apply wpAny_pure
  have O2 : IsPair h2 TO p0 q0 := b2.extBut _ _ D.TOi1 (b1.extBut _ _ D.TOz hO)
  apply wpAny_bind
  refine wpAny_seqItems O2 rfl ?_
  apply wpAny_bind
  apply wpAny_updateSeq_pair O2
  intro h3 O3 b3
  have O3 : IsPair h3 TO u q0 := O3
  apply wpAny_bind
  apply wpAny_letGo
  apply wpAny_pure
  apply wpAny_bind
  apply wpAny_bind
  apply wpAny_onRaise
  show wpAny _ _ (Builtin.SmallTypes.nextOf (.ref ib) >>= _) _ _ _
  apply wpAny_bind
  have jb : h3.IsListIter ib lb n := ((S.snd.extBut b1.extBut D.i2z).extBut b2.extBut D.i12.symm).extBut b3.extBut D.TOi2.symm
  have lb3 : h3.IsList lb vs := ((hb.extBut b1.extBut D.l2z).extBut b2.extBut D.l2i1).extBut b3.extBut D.l2TO
  refine wpAny_nextOf_list_item jb lb3 hv ?_
  intro h4 j4 b4
  apply wpAny_pure
  have O4 : IsPair h4 TO u q0 := b4.extBut _ _ D.TOi2 O3
  apply wpAny_bind
  refine wpAny_seqItems O4 rfl ?_
  apply wpAny_bind
  apply wpAny_updateSeq_pair O4
  intro h5 O5 b5
  have O5 : IsPair h5 TO u v := O5
  apply wpAny_bind
  apply wpAny_letGo
  apply wpAny_pure
  apply wpAny_pure
  apply wpAny_bind
  refine wpAny_seqItems O5 rfl ?_
  apply wpAny_bind
  refine wpAny_newTuple ?_
  have sz : h5.objs.size = s.heap.objs.size := b5.1.trans (b4.1.trans (b3.1.trans (b2.1.trans b1.1)))
  have Z5 : IsZip h5 z TI TO .ellipsis := b5.extBut _ _ D.TOz.symm (b4.extBut _ _ D.i2z.symm (b3.extBut _ _ D.TOz.symm (b2.extBut _ _ D.i1z.symm Z1)))
  have K5 : ZipKeep s.heap h5 z TO ia ib := fun a o n1 n2 n3 n4 e => b5.extBut _ _ n2 (b4.extBut _ _ n4 (b3.extBut _ _ n2 (b2.extBut _ _ n3 (b1.extBut _ _ n1 e))))
  have ia5 : h5.IsTupleIter ia la (n + 1) := ((i2.extBut b3.extBut D.TOi1.symm).extBut b4.extBut D.i12).extBut b5.extBut D.TOi1.symm
  have ib5 : h5.IsListIter ib lb (n + 1) := j4.extBut b5.extBut D.TOi2.symm
  have zlt : z < h5.objs.size := Heap.lt_size Z5
  show wpAny _ _ (Builtin.SmallTypes.ownedTupleHandOut (.ref z) (.ref h5.objs.size) >>= _) _ _ _
  apply wpAny_bind
  unfold Builtin.SmallTypes.ownedTupleHandOut
  have Z6 : IsZip (h5.push { cls := .type "tuple", data := .seq #[u, v] }) z TI TO .ellipsis := Heap.get?_push_of_some _ Z5
  apply wpAny_bind
  apply wpAny_setField_rec Z6 (by simp)
  intro h7 Z7 b7
  have Z7 : IsZip h7 z TI TO (rawInt h5.objs.size) := Z7
  apply wpAny_setField_rec Z7 (by simp)
  intro h8 Z8 b8
  have Z8 : IsZip h8 z TI TO (rawInt h5.objs.size) := Z8
  have up : ∀ a o, a ≠ z → h5.get? a = some o → h8.get? a = some o := fun a o ne e => b8.extBut _ _ ne (b7.extBut _ _ ne (Heap.get?_push_of_some _ e))
  have zn : h5.objs.size ≠ z := Nat.ne_of_gt zlt
  have T8 : IsPair h8 h5.objs.size u v := b8.extBut _ _ zn (b7.extBut _ _ zn (Heap.get?_push_size _ rfl))
  rw [sz] at Z8 T8
  refine wpAny_pure ⟨_, rfl, ?_⟩
  show Q (.ref h5.objs.size) _
  rw [sz]
  exact q h8 Z8 (up _ _ D.TOz O5) (ia5.at fun o e => up _ o D.i1z e) (ib5.at fun o e => up _ o D.i2z e) T8 fun a o n1 n2 n3 n4 e => up a o n1 (K5 a o n1 n2 n3 n4 e)
theorem zipM_stop {z TI TO ia ib la lb : Addr} {n : Nat} {us vs : Array Value} {Q : Fin → Shared → Prop} (free : A.handled = none) (D : ZipApart z TI TO ia ib la lb) (S : ZipSt s.heap z TI TO ia ib la lb n)
    (ha : s.heap.IsTuple la us) (hb : s.heap.IsList lb vs) (over : us[n]? = none ∨ vs[n]? = none)
    (q : ∀ h2 e, ZipKeep s.heap h2 z TO ia ib → (∃ o, h2.get? e = some o ∧ o.cls = .type "StopIteration") → E (.ref e) { s with heap := h2 }) :
    wpAny (model prog w) A (Builtin.«zip.__next__» ⟨[.ref z], []⟩) Q E s := by
  obtain ⟨p0, q0, hO⟩ := S.out
  show wpAny _ _ (field (.ref z) 2 >>= _) _ _ _
  apply wpAny_bind
  refine wpAny_field S.zip rfl (x := .bool false) rfl ?_
  show wpAny _ _ (field (.ref z) 3 >>= _) _ _ _
  apply wpAny_bind
  refine wpAny_field S.zip rfl (x := .ref TI) rfl ?_
  apply wpAny_bind
  refine wpAny_seqItems S.its rfl ?_
  show wpAny _ _ (Builtin.SmallTypes.ownedTupleIsFree (.ref z) >>= _) _ _ _
  apply wpAny_bind
  unfold Builtin.SmallTypes.ownedTupleIsFree
  apply wpAny_bind
  refine wpAny_field S.zip rfl (x := .none) rfl (wpAny_pure ?_)
  simp only [if_true]
  apply wpAny_bind
  apply wpAny_rule
  apply wpAny_bind
  refine wpAny_field S.zip rfl (x := .ref TO) rfl ?_
  apply wpAny_bind
  apply wpAny_setField_rec S.zip (by simp)
  intro h1 Z1 b1
  have Z1 : IsZip h1 z TI TO .ellipsis := Z1
  apply wpAny_bind
  simp only [List.zipIdx_cons, List.zipIdx_nil, List.forIn_cons, List.forIn_nil]
  apply wpAny_bind
  apply wpAny_bind
  apply wpAny_onRaise
  show wpAny _ _ (Builtin.SmallTypes.nextOf (.ref ia) >>= _) _ _ _
  apply wpAny_bind
  rcases hx : us[n]? with _ | u
  · refine RZ.nextOf_tuple_end free (S.fst.extBut b1.extBut D.i1z) (ha.extBut b1.extBut D.l1z) hx ?_
    rintro h2 e b2 ⟨oe, he, hc⟩
    have Z2 : IsZip h2 z TI TO .ellipsis := b2 _ _ D.i1z.symm Z1
    have ez : e ≠ z := by rintro rfl; rw [Z2] at he; cases he; simp at hc
    apply wpAny_setField_rec Z2 (by simp)
    intro h3 _ b3
    exact q h3 e (fun a o n1 _ n3 _ x => b3.extBut _ _ n1 (b2 _ _ n3 (b1.extBut _ _ n1 x))) ⟨oe, b3.extBut _ _ ez he, hc⟩
  · have hy : vs[n]? = none := over.resolve_left (by rw [hx]; simp)
    refine RZ.nextOf_tuple_item (S.fst.extBut b1.extBut D.i1z) (ha.extBut b1.extBut D.l1z) hx ?_
    intro h2 i2 b2
    apply wpAny_pure
    have O2 : IsPair h2 TO p0 q0 := b2.extBut _ _ D.TOi1 (b1.extBut _ _ D.TOz hO)
    apply wpAny_bind
    refine wpAny_seqItems O2 rfl ?_
    apply wpAny_bind
    apply wpAny_updateSeq_pair O2
    intro h3 _ b3
    apply wpAny_bind
    apply wpAny_letGo
    apply wpAny_pure
    apply wpAny_bind
    apply wpAny_bind
    apply wpAny_onRaise
    show wpAny _ _ (Builtin.SmallTypes.nextOf (.ref ib) >>= _) _ _ _
    apply wpAny_bind
    have jb : h3.IsListIter ib lb n := ((S.snd.extBut b1.extBut D.i2z).extBut b2.extBut D.i12.symm).extBut b3.extBut D.TOi2.symm
    have lb3 : h3.IsList lb vs := ((hb.extBut b1.extBut D.l2z).extBut b2.extBut D.l2i1).extBut b3.extBut D.l2TO
    refine wpAny_nextOf_list_end free jb lb3 hy ?_
    rintro h4 e b4 ⟨oe, he, hc⟩
    have Z4 : IsZip h4 z TI TO .ellipsis := b4 _ _ D.i2z.symm (b3.extBut _ _ D.TOz.symm (b2.extBut _ _ D.i1z.symm Z1))
    have ez : e ≠ z := by rintro rfl; rw [Z4] at he; cases he; simp at hc
    apply wpAny_setField_rec Z4 (by simp)
    intro h5 _ b5
    exact q h5 e (fun a o n1 n2 n3 n4 x => b5.extBut _ _ n1 (b4 _ _ n4 (b3.extBut _ _ n2 (b2.extBut _ _ n3 (b1.extBut _ _ n1 x))))) ⟨oe, b5.extBut _ _ ez he, hc⟩
theorem nextM_step {z TI TO ia ib la lb : Addr} {n : Nat} {us vs : Array Value} {u v : Value} {Q : Option Value → Shared → Prop} (D : ZipApart z TI TO ia ib la lb) (S : ZipSt s.heap z TI TO ia ib la lb n)
    (ha : s.heap.IsTuple la us) (hb : s.heap.IsList lb vs) (hu : us[n]? = some u) (hv : vs[n]? = some v)
    (q : ∀ h2, IsZip h2 z TI TO (rawInt s.heap.objs.size) → IsPair h2 TO u v → h2.IsTupleIter ia la (n + 1) → h2.IsListIter ib lb (n + 1) → IsPair h2 s.heap.objs.size u v →
      ZipKeep s.heap h2 z TO ia ib → Q (some (.ref s.heap.objs.size)) { s with heap := h2 }) : wpAny (model prog w) A (pyNext (.ref z)) Q E s := by
  unfold pyNext
  have ty : s.TypeIs (.ref z) "zip" := ⟨_, S.zip, rfl⟩
  refine wpAny_bind (wpAny_attempt (wpAny_callSpecial?_slot (name := Str.ofString "__next__") ty F.slot_zip_next (wpAny_call_entry F.slot_zip_next ty F.entry_zip_next ?_ (F.args_zip_next_1 _))))
  exact zipM_step D S ha hb hu hv fun h2 c1 c2 c3 c4 c5 c6 => wpAny_pure (q h2 c1 c2 c3 c4 c5 c6)
theorem nextM_stop {z TI TO ia ib la lb : Addr} {n : Nat} {us vs : Array Value} {Q : Option Value → Shared → Prop} (free : A.handled = none) (D : ZipApart z TI TO ia ib la lb) (S : ZipSt s.heap z TI TO ia ib la lb n)
    (ha : s.heap.IsTuple la us) (hb : s.heap.IsList lb vs) (over : us[n]? = none ∨ vs[n]? = none)
    (q : ∀ h2, ZipKeep s.heap h2 z TO ia ib → Q none { s with heap := h2 }) : wpAny (model prog w) A (pyNext (.ref z)) Q E s := by
  unfold pyNext
  have ty : s.TypeIs (.ref z) "zip" := ⟨_, S.zip, rfl⟩
  refine wpAny_bind (wpAny_attempt (wpAny_callSpecial?_slot (name := Str.ofString "__next__") ty F.slot_zip_next (wpAny_call_entry F.slot_zip_next ty F.entry_zip_next ?_ (F.args_zip_next_1 _))))
  refine zipM_stop free D S ha hb over ?_
  rintro h2 e k ⟨o, ho, hc⟩
  apply wpAny_bind
  refine wpAny_isInstance (T := "StopIteration") (b := true) ⟨o, ho, hc⟩ isSubtype_stop ?_
  exact wpAny_pure (q _ k)
end
/-! making one -/
abbrev mk1 (h : Heap) (a : Addr) : Heap := h.push { cls := .type "tuple_iterator", data := .fields #[.ref a, .int 0 0] }
abbrev mk2 (h : Heap) (a b : Addr) : Heap := (mk1 h a).push { cls := .type "list_iterator", data := .fields #[.ref b, .int 0 0] }
abbrev mk3 (h : Heap) (a b : Addr) : Heap := (mk2 h a b).push { cls := .type "tuple", data := .seq #[.ref h.objs.size, .ref (mk1 h a).objs.size] }
abbrev mk4 (h : Heap) (a b : Addr) : Heap := (mk3 h a b).push { cls := .type "tuple", data := .seq #[.none, .none] }
abbrev mk5 (h : Heap) (a b : Addr) : Heap := (mk4 h a b).push { cls := .type "zip", data := .fields #[.none, .bool false, .bool false, .ref (mk2 h a b).objs.size, .ref (mk3 h a b).objs.size] }
theorem meets_mk (a b : Addr) (us vs : Array Value) : Meets (Builtin.«zip.__new__» ⟨[.type "zip", .ref a, .ref b], []⟩)
    (fun _ R s => s.heap.IsTuple a us ∧ s.heap.IsList b vs ∧ R (.ok (.ret (.ref (mk4 s.heap a b).objs.size))) { s with heap := mk5 s.heap a b }) :=
  .of_wp fun prog w A R s h => by
    obtain ⟨hp, g, d, tk, os⟩ := s
    obtain ⟨ha, hb, h⟩ := h
    have sz := sub_zip
    have La : Heap.IsTuple (Shared.heap ⟨hp, g, d, tk, os⟩) a us := ha
    have Lb : Heap.IsList (Shared.heap ⟨hp.push { cls := .type "tuple_iterator", data := .fields #[.ref a, .int 0 0] }, g, d, tk, os⟩) b vs := Heap.IsList.push hb _
    wp_walk using wpAny_pyIter_tuple La, wpAny_pyIter_list Lb
    exact ⟨_, rfl, h⟩
theorem mk_all (h : Heap) (a b : Addr) : ZipSt (mk5 h a b) (h.objs.size + 4) (h.objs.size + 2) (h.objs.size + 3) h.objs.size (h.objs.size + 1) a b 0 ∧ (∀ c o, h.get? c = some o → (mk5 h a b).get? c = some o) ∧ (mk4 h a b).objs.size = h.objs.size + 4 := by
  have n1 : (mk1 h a).objs.size = h.objs.size + 1 := Heap.size_push ..
  have n2 : (mk2 h a b).objs.size = h.objs.size + 2 := by rw [Heap.size_push, n1]
  have n3 : (mk3 h a b).objs.size = h.objs.size + 3 := by rw [Heap.size_push, n2]
  have n4 : (mk4 h a b).objs.size = h.objs.size + 4 := by rw [Heap.size_push, n3]
  have up : ∀ {g : Heap} {x : Obj} {c : Addr} {o : Obj}, g.get? c = some o → (g.push x).get? c = some o := fun e => Heap.get?_push_of_some _ e
  have e1 : (mk5 h a b).get? h.objs.size = some _ := up (up (up (up (Heap.get?_push_size _ rfl))))
  have e2 : (mk5 h a b).get? (mk1 h a).objs.size = some _ := up (up (up (Heap.get?_push_size _ rfl)))
  have e3 : (mk5 h a b).get? (mk2 h a b).objs.size = some _ := up (up (Heap.get?_push_size _ rfl))
  have e4 : (mk5 h a b).get? (mk3 h a b).objs.size = some _ := up (Heap.get?_push_size _ rfl)
  have e5 : (mk5 h a b).get? (mk4 h a b).objs.size = some _ := Heap.get?_push_size _ rfl
  rw [n2, n3, n4] at e5
  rw [n3] at e4
  rw [n2, n1] at e3
  rw [n1] at e2
  exact ⟨⟨e5, e3, ⟨_, _, e4⟩, ⟨_, e1, rfl, rfl⟩, ⟨_, e2, rfl, rfl⟩⟩, fun c o x => up (up (up (up (up x)))), n4⟩
theorem run_zipM {prog : Program} {w : World} {A : Around} {E : Value → Shared → Prop} {s : Shared} {a b : Addr} {us vs : Array Value} {Q : Value → Shared → Prop} (ha : s.heap.IsTuple a us) (hb : s.heap.IsList b vs)
    (h : ∀ h2, ZipSt h2 (s.heap.objs.size + 4) (s.heap.objs.size + 2) (s.heap.objs.size + 3) s.heap.objs.size (s.heap.objs.size + 1) a b 0 → (∀ c o, s.heap.get? c = some o → h2.get? c = some o) → Q (.ref (s.heap.objs.size + 4)) { s with heap := h2 }) :
    wpAny (model prog w) A (call (.type "zip") [.ref a, .ref b]) Q E s := by
  refine callType_new F.called_zip (by decide) (F.typeCall_zip_2 _ _) (F.newCall_zip_2 _ _) (fun o => F.args_object_init_3 o _ _) F.entry_zip_new (meets_mk a b us vs) ⟨ha, hb, ?_⟩
  obtain ⟨S, k, n4⟩ := mk_all s.heap a b
  show _ ∧ _
  rw [n4]
  exact ⟨⟨_, S.zip, rfl⟩, h _ S k⟩
/-! as an iteration -/
def ItM (K : PySem.W.Frag) (a b : Addr) : It :=
  ⟨fun i H => ∃ (us vs : List V) (u v : V), SqT K H a us ∧ SqL K H b vs ∧ us[i]? = some u ∧ vs[i]? = some v,
   fun i H r H2 => ∃ t u v, r = .ref t ∧ H t = none ∧ H2 = upd H t (.tup [u, v]) ∧ (∀ us, SqT K H a us → us[i]? = some u) ∧ ∀ vs, SqL K H b vs → vs[i]? = some v,
   fun i H => ∃ us vs : List V, SqT K H a us ∧ SqL K H b vs ∧ (us.length ≤ i ∨ vs.length ≤ i)⟩
theorem turnM {P : Program} {w : World} {K : PySem.W.Frag} {es : List Expr} {k : Nat} {p : Pos} {a b z TI TO ia ib : Addr} (D : ZipApart z TI TO ia ib a b) :
    Turn P w K (.Tuple es k p) (ItM K a b) [z, TI, TO, ia, ib] z (fun i h => ZipSt h z TI TO ia ib a b i) where
  mem := by simp
  obj := fun i h st c hc => st.lt hc
  keep := fun i h h2 st k => by
    obtain ⟨x, y, ho⟩ := st.out
    exact ⟨k z (by simp) _ st.zip, k TI (by simp) _ st.its, ⟨x, y, k TO (by simp) _ ho⟩, st.fst.at fun o e => k ia (by simp) o e, st.snd.at fun o e => k ib (by simp) o e⟩
  item := by
    rintro X rfl rfl rfl calm i pins s σ H E I free st ⟨us, vs, u, v, ea, eb, eu, ev⟩
    obtain ⟨as, ra, pa, _⟩ := I.tuple ea
    obtain ⟨bs, rb, pb, _⟩ := I.list eb
    obtain ⟨u2, hu, ru⟩ := ra.get eu
    obtain ⟨v2, hv, rv⟩ := rb.get ev
    obtain ⟨x0, y0, hO⟩ := st.out
    have zlt : z < s.heap.objs.size := Heap.lt_size st.zip
    refine nextM_step D st (show s.heap.IsTuple a as.toArray from pa) pb.isList (u := u2) (v := v2) (by simpa using hu) (by simpa using hv) ?_
    intro h2 Z2 O2 c1 c2 T2 keep
    refine ⟨_, rfl, ?_⟩
    apply wpAny_letOwnedTupleGo_zip (s := { s with heap := h2 }) Z2
    intro h3 Z3 sb
    have T3 : h3.get? s.heap.objs.size = some { cls := .type "tuple", data := .seq #[u2, v2] } := (sb.2 _ (Nat.ne_of_gt zlt)).trans T2
    have I1 : Inv X pins σ (upd H s.heap.objs.size (.tup [u, v])) { s with heap := h3 } := by
      refine I.turnedNew (t' := s.toks) (ch := [z, TI, TO, ia, ib]) ?_ free (Nat.le_refl _) ⟨by show 2 ≤ sizeLine; decide, [u2, v2], .cons ru (.cons rv .nil), ⟨_, T3, rfl, _, rfl⟩⟩
      intro c o hc e
      simp only [List.mem_cons, List.not_mem_nil, or_false, not_or] at hc
      exact (sb.2 c hc.1).trans (keep c o hc.1 hc.2.2.1 hc.2.2.2.1 hc.2.2.2.2 e)
    refine ⟨.ref s.heap.objs.size, _, I1, rfl, ⟨_, u, v, rfl, I.hok.fresh (Nat.le_refl _), rfl, ?_, ?_⟩, ⟨Z3, ?_, ⟨u2, v2, ?_⟩, ?_, ?_⟩, ?_⟩
    · intro l hl; rw [I.tuple_inj hl ea]; exact eu
    · intro l hl; rw [I.list_inj hl eb]; exact ev
    · exact (sb.2 _ D.TIz).trans (keep _ _ D.TIz D.TITO D.TIi1 D.TIi2 st.its)
    · exact (sb.2 _ D.TOz).trans O2
    · exact c1.at fun o e => (sb.2 _ D.i1z).trans e
    · exact c2.at fun o e => (sb.2 _ D.i2z).trans e
    · intro c hc
      obtain ⟨o, e, _⟩ := st.lt hc
      rw [upd_ne (Nat.ne_of_lt (Heap.lt_size e))]
      exact (free c hc).1
  done := by
    rintro X rfl rfl rfl calm i pins s σ H E I free st ⟨us, vs, ea, eb, over⟩
    obtain ⟨as, ra, pa, _⟩ := I.tuple ea
    obtain ⟨bs, rb, pb, _⟩ := I.list eb
    have n1 := ra.length
    have n2 := rb.length
    refine nextM_stop (I.ok.hd calm) D st (show s.heap.IsTuple a as.toArray from pa) pb.isList ?_ ?_
    · rcases over with h | h
      · left; simp; omega
      · right; simp; omega
    · intro h2 keep
      refine ⟨rfl, I.turnedL (t' := s.toks) (ch := [z, TI, TO, ia, ib]) ?_ free⟩
      intro c o hc e
      simp only [List.mem_cons, List.not_mem_nil, or_false, not_or] at hc
      exact keep c o hc.1 hc.2.2.1 hc.2.2.2.1 hc.2.2.2.2 e
  self := fun A i s Q E st h => wpAny_pyIter_zip st.zip h
def iZipM (K : PySem.W.Frag) (ta : TA) : TI := fun σ H R => ta σ H fun vs H1 => ∃ a b us ws, vs = [.ref a, .ref b] ∧ SqT K H1 a us ∧ SqL K H1 b ws ∧ R (ItM K a b) H1
theorem pi_zipM {X : Cx} {e f : Expr} {ta : TA} {p pos tp : Pos} {es : List Expr} {k : Nat} (hg : Gl X "zip") (hm : X.mg "zip" = none) (ha : PA X [e, f] ta)
    (hs : starEach [e, f] X.env = (false, eval e X.env) :: starEach [f] X.env := by rfl) (hp : (backTo pos (starEach [f] X.env)).any (·.1) = false := by rfl) :
    PI X (.Tuple es k tp) (.Call (.Name "zip" p) [e, f] [] pos) (iZipM X.K ta) := by
  constructor
  intro pins s σ H R I h
  refine Call_ (ld_blt I hg hm PyProof.Rows.boot_zip (PyProof.Rows.callWith_type1 (thn (ha.run pos pins s σ H _ I h) ?_) hs hp))
  rintro us s1 ⟨vs, H1, I1, r1, a, b, xs, ys, rfl, ea, eb, q⟩
  obtain ⟨x1, x2, rfl, rx, ry⟩ := Vals.two r1
  cases (show x1 = Value.ref a from rx)
  cases (show x2 = Value.ref b from ry)
  obtain ⟨as, ra, pa, _⟩ := I1.tuple ea
  obtain ⟨bs, rb, pb, _⟩ := I1.list eb
  obtain ⟨o1, ho1, _⟩ := id pa
  refine run_zipM (show s1.heap.IsTuple a as.toArray from pa) pb.isList ?_
  intro h2 S k
  apply wpAny_pyIter_zip S.zip
  refine ⟨s1.heap.objs.size + 4, [s1.heap.objs.size + 4, s1.heap.objs.size + 2, s1.heap.objs.size + 3, s1.heap.objs.size, s1.heap.objs.size + 1], _, _, H1, rfl, I1.kept (t' := s1.toks) k, turnM (PySem.W.ktu_apart s1.heap.objs.size a b (Heap.lt_size ho1) pb.lt), S, ?_, q⟩
  intro c hc
  have le : s1.heap.objs.size ≤ c := by
    simp only [List.mem_cons, List.not_mem_nil, or_false] at hc
    rcases hc with h | h | h | h | h <;> (rw [h]; first | exact Nat.le_refl _ | exact Nat.le_add_right _ _)
  exact I1.fpOk le (I1.hok.fresh le)
theorem for_zipM {K : PySem.W.Frag} {a b : Addr} {us vs : List V} {g : TG} {tb : TS} {D : Ends} {σ : L2.St} {H : Hp} (same : us.length = vs.length) (Pv : Nat → L2.St → Hp → Prop) (h0 : Pv 0 σ H) (hq : ∀ i σ H, Pv i σ H → SqT K H a us ∧ SqL K H b vs)
    (hs : ∀ (i : Nat) (u v : V) (t : Addr) (σ : L2.St) (H : Hp), us[i]? = some u → vs[i]? = some v → Pv i σ H → H t = none → g (.ref t) σ (upd H t (.tup [u, v])) fun τ H2 => tb { D with nx := Pv (i + 1), ct := Pv (i + 1), bk := D.nx } τ H2) (hd : ∀ σ H, Pv us.length σ H → D.nx σ H) :
    ∃ W : Nat → Nat → L2.St → Hp → Prop, (∃ m, W 0 m σ H) ∧ ∀ i m σ H, W i m σ H →
      ((ItM K a b).stop i H ∧ D.nx σ H) ∨ ((ItM K a b).go i H ∧ ∃ N : L2.St → Hp → Prop, (∀ τ H2, N τ H2 → ∃ m2, m2 < m ∧ W (i + 1) m2 τ H2) ∧ ∀ r H2, (ItM K a b).yld i H r H2 → g r σ H2 fun τ H3 => tb { D with nx := N, ct := N, bk := D.nx } τ H3) := by
  refine ⟨fun i m σ H => m = us.length - i ∧ i ≤ us.length ∧ Pv i σ H, ⟨_, rfl, Nat.zero_le _, h0⟩, ?_⟩
  rintro i m σ H ⟨rfl, le, p⟩
  obtain ⟨qa, qb⟩ := hq i σ H p
  by_cases lt : i < us.length
  · have lt2 : i < vs.length := same ▸ lt
    refine .inr ⟨⟨us, vs, us[i], vs[i], qa, qb, List.getElem?_eq_getElem lt, List.getElem?_eq_getElem lt2⟩, Pv (i + 1), fun τ H2 p2 => ⟨us.length - (i + 1), by omega, rfl, lt, p2⟩, ?_⟩
    rintro _ _ ⟨t, u, v, rfl, ht, rfl, eu, ev⟩
    exact hs i u v t σ H (eu us qa) (ev vs qb) p ht
  · have e : i = us.length := by omega
    subst e
    exact .inl ⟨⟨us, vs, qa, qb, .inl (Nat.le_refl _)⟩, hd σ H p⟩
/-! readings for classes -/
section
variable {K : PySem.W.Frag} {H : Hp} {Q : VK} {σ : L2.St} {D : Ends}
theorem x_sFld {ta tv : TE} {f : Str} (h : tv σ H fun y H1 => ta σ H1 fun x H2 => ∃ a C dx fs, x = .ref a ∧ H2 a = some (.ins C dx fs) ∧ Cls K C ∧ NoAttr K C f ∧ fs.length < 1000 ∧ D.nx σ (upd H2 a (.ins C dx (putF f y fs)))) : sFld K ta tv f D σ H := h
theorem x_sAt {a C dx : Addr} {fs : List (Str × V)} {f : Str} {Z : Addr → Addr → Addr → List (Str × V) → Prop} (ha : H a = some (.ins C dx fs)) (c : Cls K C) (n : NoAttr K C f) (l : fs.length < 1000) (h : Z a C dx fs) :
    ∃ a' C dx fs, V.ref a = .ref a' ∧ H a' = some (.ins C dx fs) ∧ Cls K C ∧ NoAttr K C f ∧ fs.length < 1000 ∧ Z a' C dx fs := ⟨a, C, dx, fs, rfl, ha, c, n, l, h⟩
theorem x_tFld {ta : TE} {f : Str} (h : ta σ H fun x H1 => ∃ a C dx fs v, x = .ref a ∧ H1 a = some (.ins C dx fs) ∧ Cls K C ∧ NoAttr K C f ∧ fs.lookup f = some v ∧ Q v H1) : tFld K ta f σ H Q := h
theorem x_gAt {a C dx : Addr} {fs : List (Str × V)} {f : Str} {v : V} {Z : V → Prop} (ha : H a = some (.ins C dx fs)) (c : Cls K C) (n : NoAttr K C f) (l : fs.lookup f = some v) (h : Z v) :
    ∃ a' C dx fs v, V.ref a = .ref a' ∧ H a' = some (.ins C dx fs) ∧ Cls K C ∧ NoAttr K C f ∧ fs.lookup f = some v ∧ Z v := ⟨a, C, dx, fs, v, rfl, ha, c, n, l, h⟩
theorem x_meth {C : Addr} {m : Str} {sp : Sp} {E : XK} {ta : TE} {t : TA} (h : ta σ H fun x H1 => ∃ a dx fs, x = .ref a ∧ H1 a = some (.ins C dx fs) ∧ fs.lookup m = none ∧ t σ H1 fun vs H2 => sp (x :: (vs ++ [])) H2 Q E) : tMeth C m sp [] E ta t σ H Q := h
theorem x_mAt {a C dx : Addr} {fs : List (Str × V)} {m : Str} {Z : Prop} (ha : H a = some (.ins C dx fs)) (l : fs.lookup m = none) (h : Z) : ∃ a' dx fs, V.ref a = .ref a' ∧ H a' = some (.ins C dx fs) ∧ fs.lookup m = none ∧ Z := ⟨a, dx, fs, rfl, ha, l, h⟩
theorem x_make {C : Addr} {sp : Sp} {E : XK} {t : TA} (h : t σ H fun vs H1 => ∀ x dx, H1 x = none → H1 dx = none → dx ≠ x → sp (.ref x :: (vs ++ [])) (upd (upd H1 dx (.own x)) x (.ins C dx [])) (fun v H2 => v = .non ∧ Q (.ref x) H2) E) : tMake C sp [] E t σ H Q := h
theorem x_dcT {wi : TI} {g : TG} {tt : TT} {tk tv : TE} {vs : List Nat} (h : wi σ H fun J H1 => ∀ L, H1 L = none → ∃ W : Nat → Nat → Hp → Prop, (∃ m, W 0 m (upd H1 L (.dT []))) ∧ ∀ i m H2, W i m H2 →
    (J.stop i H2 ∧ Q (.ref L) H2) ∨ (J.go i H2 ∧ ∃ N : Hp → Prop, (∀ H3, N H3 → ∃ m3, m3 < m ∧ W (i + 1) m3 H3) ∧ ∀ x H3, J.yld i H2 x H3 →
      g x (wipe σ vs) H3 fun τ H4 => wipe τ vs = wipe σ vs ∧ tt τ H4 fun b H5 => if b = true then tk τ H5 fun y H6 => tv τ H6 fun z H7 =>
        ∃ kvs k b, y = .ref b ∧ H7 L = some (.dT kvs) ∧ H7 b = some (.tup (k.map kV)) ∧ kvs.length < sizeLine ∧ N (upd H7 L (.dT (putK kvs k z))) else N H5)) : tDcT wi g tt tk tv vs σ H Q := h
theorem x_en {ta : TA} {R : It → Hp → Prop} (h : ta σ H fun vs H1 => ∃ a xs, vs = [.ref a] ∧ SqL K H1 a xs ∧ R (Ite K a) H1) : iEnum K ta σ H R := h
theorem x_enL {p : Addr} {xs : List V} {Z : Addr → Prop} (hp : SqL K H p xs) (h : Z p) : ∃ a xs, [V.ref p] = [.ref a] ∧ SqL K H a xs ∧ Z a := ⟨p, xs, rfl, hp, h⟩
theorem x_zM {ta : TA} {R : It → Hp → Prop} (h : ta σ H fun vs H1 => ∃ a b us ws, vs = [.ref a, .ref b] ∧ SqT K H1 a us ∧ SqL K H1 b ws ∧ R (ItM K a b) H1) : iZipM K ta σ H R := h
theorem x_zAt {p q : Addr} {us ws : List V} {Z : Addr → Addr → Prop} (hp : SqT K H p us) (hq : SqL K H q ws) (h : Z p q) : ∃ a b us ws, [V.ref p, .ref q] = [.ref a, .ref b] ∧ SqT K H a us ∧ SqL K H b ws ∧ Z a b := ⟨p, q, us, ws, rfl, hp, hq, h⟩
/-- a dict comprehension over enumerate of a list that it leaves as it is -/
theorem dct_enum {a : Addr} {xs : List V} {g : TG} {tt : TT} {tk tv : TE} {vs : List Nat} {H1 : Hp} {L : Addr} {Qd : Hp → Prop} (Pv : Nat → Hp → Prop) (h0 : Pv 0 (upd H1 L (.dT [])))
    (hl : ∀ i H, i ≤ xs.length → Pv i H → SqL K H a xs)
    (hs : ∀ i x t H, xs[i]? = some x → Pv i H → H t = none → g (.ref t) (wipe σ vs) (upd H t (.tup [.int (i : Nat), x])) fun τ H4 => wipe τ vs = wipe σ vs ∧ tt τ H4 fun b H5 => if b = true then tk τ H5 fun y H6 => tv τ H6 fun z H7 =>
      ∃ kvs k b, y = .ref b ∧ H7 L = some (.dT kvs) ∧ H7 b = some (.tup (k.map kV)) ∧ kvs.length < sizeLine ∧ Pv (i + 1) (upd H7 L (.dT (putK kvs k z))) else Pv (i + 1) H5) (hd : ∀ H, Pv xs.length H → Qd H) :
    ∃ W : Nat → Nat → Hp → Prop, (∃ m, W 0 m (upd H1 L (.dT []))) ∧ ∀ i m H2, W i m H2 →
    ((Ite K a).stop i H2 ∧ Qd H2) ∨ ((Ite K a).go i H2 ∧ ∃ N : Hp → Prop, (∀ H3, N H3 → ∃ m3, m3 < m ∧ W (i + 1) m3 H3) ∧ ∀ x H3, (Ite K a).yld i H2 x H3 →
      g x (wipe σ vs) H3 fun τ H4 => wipe τ vs = wipe σ vs ∧ tt τ H4 fun b H5 => if b = true then tk τ H5 fun y H6 => tv τ H6 fun z H7 =>
        ∃ kvs k b, y = .ref b ∧ H7 L = some (.dT kvs) ∧ H7 b = some (.tup (k.map kV)) ∧ kvs.length < sizeLine ∧ N (upd H7 L (.dT (putK kvs k z))) else N H5) := by
  refine ⟨fun i m H => m = xs.length - i ∧ i ≤ xs.length ∧ Pv i H, ⟨_, rfl, Nat.zero_le _, h0⟩, ?_⟩
  rintro i m H ⟨rfl, le, p⟩
  have q := hl i H le p
  by_cases lt : i < xs.length
  · refine .inr ⟨⟨xs, xs[i], q, List.getElem?_eq_getElem lt⟩, Pv (i + 1), fun H2 p2 => ⟨xs.length - (i + 1), by omega, rfl, lt, p2⟩, ?_⟩
    rintro _ _ ⟨t, x, rfl, ht, rfl, ex⟩
    exact hs i x t H (ex xs q) p ht
  · have e : i = xs.length := by omega
    subst e
    exact .inl ⟨⟨xs, q, Nat.le_refl _⟩, hd H p⟩
end
section
variable {X : Cx} {es : List Expr} {k : Nat} {t : TGs} {n : Nat} {pos : Pos}
/-- unpacking, where X isn't known ahead (in a comprehension) -/
theorem pg_tupK (K : PySem.W.Frag) (h : PGs X es t) (hK : X.K = K := by rfl) (hc : X.calm = true := by rfl)
    (hn : (assignEach es X.env).length = n := by rfl) (hst : (assignEach es X.env).findIdx? (·.1) = none := by rfl) : PG X (.Tuple es k pos) (gTup K n t) := by
  subst hK
  exact pg_tup hc h hn hst
end
section
variable {K : PySem.W.Frag} {H : Hp} {Q : VK} {σ : L2.St}
theorem x_zL {ta : TA} {R : It → Hp → Prop} (h : ta σ H fun vs H1 => ∃ a b us ws, vs = [.ref a, .ref b] ∧ SqL K H1 a us ∧ SqL K H1 b ws ∧ R (Itz K a b) H1) : iZip K ta σ H R := h
theorem x_zLAt {p q : Addr} {us ws : List V} {Z : Addr → Addr → Prop} (hp : SqL K H p us) (hq : SqL K H q ws) (h : Z p q) : ∃ a b us ws, [V.ref p, .ref q] = [.ref a, .ref b] ∧ SqL K H a us ∧ SqL K H b ws ∧ Z a b := ⟨p, q, us, ws, rfl, hp, hq, h⟩
theorem x_int2 {i j : Int} {Z : Int → Int → Prop} (h : Z i j) : ∃ a b, [V.int i, V.int j] = [.int a, .int b] ∧ Z a b := ⟨i, j, rfl, h⟩
theorem x_orT {ta tb : TE} (h : ta σ H fun x H1 => ∃ k, TruV K x H1 k ∧ if k = true then Q x H1 else tb σ H1 Q) : tOrT K ta tb σ H Q := h
theorem x_isB {a b : Bool} (h : Q (.bl (decide (a = b))) H) : rIsB (.bl a) (.bl b) H Q := ⟨a, b, rfl, rfl, h⟩
theorem ixN_of {n : Nat} {i : Int} (h0 : 0 ≤ i) (h1 : i < n) : ixN n i = some i.toNat := by
  unfold ixN
  rw [if_pos h0, if_pos h1]
theorem at_map {hs : List Int} {i : Int} (h0 : 0 ≤ i) (h1 : i < hs.length) : ∃ v, hs[i.toNat]? = some v ∧ atI (hs.map V.int) i = some (.int v) := by
  have lt : i.toNat < hs.length := by omega
  refine ⟨hs[i.toNat], List.getElem?_eq_getElem lt, ?_⟩
  unfold atI
  rw [ixN_of h0 (by rw [List.length_map]; exact h1)]
  simp [lt]
end
/-! zip of a list or a tuple with a list; dict.get by a tuple. -/
/-- the first is a tuple (true) or a list -/
def SqX (b : Bool) (K : PySem.W.Frag) (H : Hp) (a : Addr) (xs : List V) : Prop := if b = true then SqT K H a xs else SqL K H a xs
def ItX (b : Bool) (K : PySem.W.Frag) (p q : Addr) : It := if b = true then ItM K p q else Itz K p q
def iZipX (K : PySem.W.Frag) (ta : TA) : TI := fun σ H R => ta σ H fun vs H1 => ∃ (k : Bool) (a b : Addr) (us ws : List V), vs = [.ref a, .ref b] ∧ SqX k K H1 a us ∧ SqL K H1 b ws ∧ R (ItX k K a b) H1
theorem pi_zipX {X : Cx} {e f : Expr} {ta : TA} {p pos tp : Pos} {es : List Expr} {k : Nat} (hg : Gl X "zip") (hm : X.mg "zip" = none) (ha : PA X [e, f] ta)
    (hs : starEach [e, f] X.env = (false, eval e X.env) :: starEach [f] X.env := by rfl) (hp : (backTo pos (starEach [f] X.env)).any (·.1) = false := by rfl) :
    PI X (.Tuple es k tp) (.Call (.Name "zip" p) [e, f] [] pos) (iZipX X.K ta) := by
  constructor
  intro pins s σ H R I h
  refine Call_ (ld_blt I hg hm PyProof.Rows.boot_zip (PyProof.Rows.callWith_type1 (thn (ha.run pos pins s σ H _ I h) ?_) hs hp))
  rintro us s1 ⟨vs, H1, I1, r1, kk, a, b, xs, ys, rfl, ea, eb, q⟩
  obtain ⟨x1, x2, rfl, rx, ry⟩ := Vals.two r1
  cases (show x1 = Value.ref a from rx)
  cases (show x2 = Value.ref b from ry)
  have out : ∀ c ∈ [s1.heap.objs.size + 4, s1.heap.objs.size + 2, s1.heap.objs.size + 3, s1.heap.objs.size, s1.heap.objs.size + 1], FpOk X pins H1 c := by
    intro c hc
    have le : s1.heap.objs.size ≤ c := by
      simp only [List.mem_cons, List.not_mem_nil, or_false] at hc
      rcases hc with h | h | h | h | h <;> (rw [h]; first | exact Nat.le_refl _ | exact Nat.le_add_right _ _)
    exact I1.fpOk le (I1.hok.fresh le)
  obtain ⟨bs, rb, pb, _⟩ := I1.list eb
  cases kk with
  | true =>
    obtain ⟨as, ra, pa, _⟩ := I1.tuple (show SqT X.K H1 a xs from ea)
    obtain ⟨o1, ho1, _⟩ := id pa
    refine run_zipM (show s1.heap.IsTuple a as.toArray from pa) pb.isList ?_
    intro h2 S k
    apply wpAny_pyIter_zip S.zip
    exact ⟨s1.heap.objs.size + 4, [s1.heap.objs.size + 4, s1.heap.objs.size + 2, s1.heap.objs.size + 3, s1.heap.objs.size, s1.heap.objs.size + 1], _, _, H1, rfl, I1.kept (t' := s1.toks) k, turnM (PySem.W.ktu_apart s1.heap.objs.size a b (Heap.lt_size ho1) pb.lt), S, out, q⟩
  | false =>
    obtain ⟨as, ra, pa, _⟩ := I1.list (show SqL X.K H1 a xs from ea)
    refine call_zip_2 pa.isList pb.isList ?_
    intro h2 hz hTI hTO h1' h2' hsz hk
    apply wpAny_pyIter_zip hz
    exact ⟨s1.heap.objs.size + 4, [s1.heap.objs.size + 4, s1.heap.objs.size + 2, s1.heap.objs.size + 3, s1.heap.objs.size, s1.heap.objs.size + 1], _, _, H1, rfl, I1.kept (t' := s1.toks) hk, turn_zip (PySem.W.ktu_apart s1.heap.objs.size a b pa.lt pb.lt), ⟨hz, hTI, ⟨_, _, hTO⟩, h1', h2'⟩, out, q⟩
theorem for_zipX {K : PySem.W.Frag} {k : Bool} {a b : Addr} {us vs : List V} {g : TG} {tb : TS} {D : Ends} {σ : L2.St} {H : Hp} (same : us.length = vs.length) (Pv : Nat → L2.St → Hp → Prop) (h0 : Pv 0 σ H) (hq : ∀ i σ H, Pv i σ H → SqX k K H a us ∧ SqL K H b vs)
    (hs : ∀ (i : Nat) (u v : V) (t : Addr) (σ : L2.St) (H : Hp), us[i]? = some u → vs[i]? = some v → Pv i σ H → H t = none → g (.ref t) σ (upd H t (.tup [u, v])) fun τ H2 => tb { D with nx := Pv (i + 1), ct := Pv (i + 1), bk := D.nx } τ H2) (hd : ∀ σ H, Pv us.length σ H → D.nx σ H) :
    ∃ W : Nat → Nat → L2.St → Hp → Prop, (∃ m, W 0 m σ H) ∧ ∀ i m σ H, W i m σ H →
      ((ItX k K a b).stop i H ∧ D.nx σ H) ∨ ((ItX k K a b).go i H ∧ ∃ N : L2.St → Hp → Prop, (∀ τ H2, N τ H2 → ∃ m2, m2 < m ∧ W (i + 1) m2 τ H2) ∧ ∀ r H2, (ItX k K a b).yld i H r H2 → g r σ H2 fun τ H3 => tb { D with nx := N, ct := N, bk := D.nx } τ H3) := by
  cases k with
  | true => exact for_zipM (K := K) same Pv h0 hq hs hd
  | false => exact RZ.for_zipL (K := K) same Pv h0 hq hs hd
section
variable {K : PySem.W.Frag} {H : Hp} {Q : VK} {σ : L2.St}
theorem x_zX {ta : TA} {R : It → Hp → Prop} (h : ta σ H fun vs H1 => ∃ (k : Bool) (a b : Addr) (us ws : List V), vs = [.ref a, .ref b] ∧ SqX k K H1 a us ∧ SqL K H1 b ws ∧ R (ItX k K a b) H1) : iZipX K ta σ H R := h
end
/-! dict.get -/
theorem units1 {A : Around} (h : A.units + 64 < cLine) : A.units + 1 < cLine := by omega
theorem x_dg1 {td ty : TE} {σ : L2.St} {H : Hp} {Q : VK} (h : td σ H fun x H1 => ∃ a, x = .ref a ∧ IsD H1 a ∧ ty σ H1 fun y H2 => ∃ o, DGet H2 a y o ∧ Q (o.getD .non) H2) : tDGet1 td ty σ H Q := h
theorem x_dnewT {H : Hp} {Q : VK} {σ : L2.St} (h : ∀ p, H p = none → Q (.ref p) (upd H p (.dT []))) : tDNewT σ H Q := h
/-- a loop over enumerate of a list that the body leaves as it is -/
theorem for_enum {K : PySem.W.Frag} {a : Addr} {xs : List V} {g : TG} {tb : TS} {D : Ends} {σ : L2.St} {H : Hp} (Pv : Nat → L2.St → Hp → Prop) (h0 : Pv 0 σ H) (hl : ∀ i σ H, i ≤ xs.length → Pv i σ H → SqL K H a xs)
    (hs : ∀ (i : Nat) (x : V) (t : Addr) (σ : L2.St) (H : Hp), xs[i]? = some x → Pv i σ H → H t = none → g (.ref t) σ (upd H t (.tup [.int (i : Nat), x])) fun τ H2 => tb { D with nx := Pv (i + 1), ct := Pv (i + 1), bk := D.nx } τ H2) (hd : ∀ σ H, Pv xs.length σ H → D.nx σ H) :
    ∃ W : Nat → Nat → L2.St → Hp → Prop, (∃ m, W 0 m σ H) ∧ ∀ i m σ H, W i m σ H →
      ((Ite K a).stop i H ∧ D.nx σ H) ∨ ((Ite K a).go i H ∧ ∃ N : L2.St → Hp → Prop, (∀ τ H2, N τ H2 → ∃ m2, m2 < m ∧ W (i + 1) m2 τ H2) ∧ ∀ r H2, (Ite K a).yld i H r H2 → g r σ H2 fun τ H3 => tb { D with nx := N, ct := N, bk := D.nx } τ H3) := by
  refine ⟨fun i m σ H => m = xs.length - i ∧ i ≤ xs.length ∧ Pv i σ H, ⟨_, rfl, Nat.zero_le _, h0⟩, ?_⟩
  rintro i m σ H ⟨rfl, le, p⟩
  have q := hl i σ H le p
  by_cases lt : i < xs.length
  · refine .inr ⟨⟨xs, xs[i], q, List.getElem?_eq_getElem lt⟩, Pv (i + 1), fun τ H2 p2 => ⟨xs.length - (i + 1), by omega, rfl, lt, p2⟩, ?_⟩
    rintro _ _ ⟨t, x, rfl, ht, rfl, ex⟩
    exact hs i x t σ H (ex xs q) p ht
  · have e : i = xs.length := by omega
    subst e
    exact .inl ⟨⟨xs, q, Nat.le_refl _⟩, hd σ H p⟩
/-! == and != of own instances by their own __eq__. -/
section
variable {prog : Program} {w : World} {A : Around} {E : Value → Shared → Prop} {s : Shared} {K : PySem.W.Frag} {x C f : Addr} {ox : Obj} {od : Option Obj} {name : Str} {id : String}
theorem ifBound_B {M : Model} {args : List Value} {Q : Option Value → Shared → Prop} (X : K.In s.heap) (I : PySem.W.InstAt s.heap x ox C od) (hs : PySem.W.findIn K (.ref C) name = some (some (.builtin id))) (hb : ∀ self, bindSpecial (.builtin id) self = pure (.builtin id, [self]))
    (h : wpAny M A (call (.builtin id) (.ref x :: args)) (fun v => Q (some v)) E s) : wpAny M A (callSpecialIfBound? (.ref x) name args) Q E s := by
  simp only [callSpecialIfBound?, bindSpecialIfBound?]
  refine wpAny_holding (wpAny_bind (wpAny_bind (wpAny_bind (I.type.here ((PySem.W.looks_findIn X hs).here ?_)))))
  refine wpAny_bind (wpAny_askSetting (wpAny_ite ?_))
  have fin : wpAny M A (call (.builtin id) ([.ref x] ++ args) >>= fun v => pure (some v)) Q E s := wpAny_bind (wpAny_mono h (fun v s' h' => wpAny_pure h') fun _ _ h' => h')
  split
  · exact wpAny_bind ((PySem.W.Looks.of_pure (hb _)).here (wpAny_pure (by exact fin)))
  · exact wpAny_tryCatch (wpAny_bind ((PySem.W.Looks.of_pure (hb _)).here (wpAny_pure (by exact fin))))
theorem objNe_K {y : Value} {Q : Fin → Shared → Prop} (X : K.In s.heap) (I : PySem.W.InstAt s.heap x ox C od) (he : PySem.W.findIn K (.ref C) "__eq__" = some (some (.ref f))) (hf : PySem.W.isFn K (.ref f) = true) (hu : A.units < cLine)
    (h : wpAny (model prog w) A (call (.ref f) [.ref x, y]) (fun v s' => ∃ b, v = .bool b ∧ Q (.done (.ret (.bool (!b)))) s') E s) :
    wpAny (model prog w) A (Builtin.«object.__ne__» ⟨[.ref x, y], []⟩) Q E s := by
  unfold Builtin.«object.__ne__»
  repeat (first
    | with_reducible refine wpAny_cRoomFor hu ?_
    | (refine wpAny_bind (m := callSpecialIfBound? (.ref x) (Str.ofString "__eq__") [y])
        (PySem.W.ifBound_K X I he hf (wpAny_mono h (fun r s' hr => by
          obtain ⟨b, rfl, hq⟩ := hr
          repeat (first | exact hq | exact wpAny_pure hq | exact wpAny_truthy_bool hq | (refine wpAny_bind (m := truthy (.bool _)) (wpAny_truthy_bool ?_)) | wp_step)) fun _ _ e => e)))
    | wp_step)
theorem ne_bind (self : Value) : bindSpecial (.builtin "object.__ne__") self = pure (.builtin "object.__ne__", [self]) :=
  F.cmp_object.ne.bind self
theorem ne_K {y : Value} {tb : Value} {Q : Value → Shared → Prop} (hu : A.units + 1 < cLine) (X : K.In s.heap) (I : PySem.W.InstAt s.heap x ox C od) (hb : PySem.W.Looks (model prog w) s.heap (typeOf y) tb) (hn : PySem.W.notFirst K C tb = true)
    (hs : PySem.W.findIn K (.ref C) "__ne__" = some (some (.builtin "object.__ne__"))) (hp : PySem.W.plainOver K C = true) (he : PySem.W.findIn K (.ref C) "__eq__" = some (some (.ref f))) (hf : PySem.W.isFn K (.ref f) = true)
    (h : wpAny (model prog w) A.in1 (call (.ref f) [.ref x, y]) (fun v s' => ∃ b, v = .bool b ∧ Q (.bool (!b)) s') E s) : wpAny (model prog w) A (richCompare .NotEq (.ref x) y) Q E s := by
  obtain ⟨cd, hc, ho⟩ := PySem.W.any_some hp
  have ne : cd.mro.isEmpty = false := by cases q : cd.mro with | nil => rw [q] at ho; cases ho | cons _ _ => rfl
  have sub : PySem.W.Looks (model prog w) s.heap (isInstance (.ref x) (.type "object")) true := I.type.andThen (PySem.W.looks_mroIn X (by unfold PySem.W.mroIn; rw [hc, Option.bind_some, if_neg (by rw [ne]; decide), PySem.W.only_has ho]))
  have one : wpAny (model prog w) A (tryCompare (.ref x) "__ne__" y) (fun r s' => ∃ v, r = some v ∧ Q v s') E s := by
    unfold tryCompare
    refine wpAny_bind (ifBound_B X I hs ne_bind ?_)
    refine wpAny_call (codeAny_call_builtin F.cmp_object.ne.plain F.cmpEntry_ne (@PySem.W.check_slot (model prog w) _ _ s "object.__ne__" "object" "__ne__" (.ref x) [y] [] _ F.cmpKind_ne F.cmpSplit_ne sub (F.cmpArgs_ne _ _) ?_))
    refine objNe_K (A := A.in1) X I he hf hu (wpAny_mono h (fun v s' hv => ?_) fun _ _ e => e)
    obtain ⟨b, rfl, hq⟩ := hv
    exact ⟨b, rfl, wpAny_pure ⟨_, rfl, hq⟩⟩
  unfold richCompare
  simp only [oneThing_ref]
  refine wpAny_holding (wpAny_bind (wpAny_cRoomFor (Nat.lt_of_succ_lt hu) ?_))
  rw [cmpInfo_NotEq]
  dsimp only
  refine wpAny_bind (I.type.here (wpAny_bind (hb.here ?_)))
  split
  · rename_i q
    have e : PySem.W.subIn K tb (.ref C) = some false := by
      rcases Bool.or_eq_true_iff.mp hn with e | e
      · rw [beq_iff_eq.mp e] at q; simp at q
      · exact beq_iff_eq.mp e
    refine wpAny_bind ((PySem.W.looks_subIn X e).here ?_)
    simp only [Bool.false_eq_true, if_false]
    refine wpAny_bind (wpAny_mono one (fun r s' z => ?_) fun _ _ e => e)
    obtain ⟨v, rfl, hq⟩ := z
    exact wpAny_pure hq
  · refine wpAny_bind (wpAny_pure ?_)
    simp only [Bool.false_eq_true, if_false]
    refine wpAny_bind (wpAny_mono one (fun r s' z => ?_) fun _ _ e => e)
    obtain ⟨v, rfl, hq⟩ := z
    exact wpAny_pure hq
end
section
variable {X : Cx} {k : Nat} {C : Addr} {sp : Sp}
/-- == by the own __eq__, both of one class -/
def rOwn (neg : Bool) (C : Addr) (sp : Sp) : R2 := fun x y H Q => ∃ a b dx dy fs gs, x = .ref a ∧ y = .ref b ∧ H a = some (.ins C dx fs) ∧ H b = some (.ins C dy gs) ∧ sp [.ref a, .ref b] H (fun v H' => ∃ c, v = .bl c ∧ Q (.bl (if neg = true then !c else c)) H') E0
theorem run_eqO {A : Around} {f : Addr} {fd : FuncData} {ps : List Str} {pins : List (Addr × Obj)} {σ : L2.St} {H : Hp} {s : Shared} {a b : Addr} {Q : Bool → Hp → Prop} (F : FnG X.prog X.w X.K X.mg X.base k f fd ps sp) (hb : Binds X.K fd ps []) (room : Room k A) (gd : A.guards = some [])
    (e0 : Env0 X.prog X.w X.K X.mg X.base A X.stack s H) (I : Inv X pins σ H s) (h : sp [.ref a, .ref b] H (fun v H' => ∃ c, v = .bl c ∧ Q c H') E0) :
    wpAny (model X.prog X.w) A (call (.ref f) [.ref a, .ref b]) (fun v s' => ∃ c H', v = .bool c ∧ Inv X pins σ H' s' ∧ Q c H') X.xe s := by
  have n1 : ([Value.ref a, Value.ref b] : List Value).length = ps.length := F.len _ _ _ _ h
  have bt := hb s [.ref a, .ref b] I.kIn (by rw [List.append_nil]; exact n1)
  rw [List.append_nil] at bt
  refine wpAny_call (codeAny_mono (F.go A X.stack s H ⟨[.ref a, .ref b], []⟩ [.ref a, .ref b] [.ref a, .ref b] _ E0 room gd e0 bt (.cons rfl (.cons rfl .nil)) h) ?_)
  intro res z hz
  match res, hz with
  | .error e, hz => exact False.elim hz
  | .ok .next, hz => exact False.elim hz
  | .ok .brk, hz => exact False.elim hz
  | .ok .cont, hz => exact False.elim hz
  | .ok (.ret u), hz =>
    obtain ⟨v, H', I3, rv, c, rfl, q3⟩ := I.after hz
    cases (show u = Value.bool c from rv)
    exact ⟨c, H', rfl, I3, q3⟩
theorem op_eqO (F : Km X.prog X.w X.K X.mg X.base C "__eq__" k sp) (room : Room k X.A) (gd : X.A.guards = some []) : OpR X (compareOp .Eq) (rOwn false C sp) := by
  intro pins s σ H x y v u Q I rx ry hq
  obtain ⟨a, b, dx, dy, fs, gs, rfl, rfl, ha, hb', q⟩ := hq
  cases (show v = Value.ref a from rx)
  cases (show u = Value.ref b from ry)
  obtain ⟨f, fd, ps, F, hm, hb⟩ := F.ex
  show wpAny (model X.prog X.w) X.A (richCompare .Eq (.ref a) (.ref b)) (EP X pins σ Q) X.xe s
  obtain ⟨mA, J, _⟩ := ins_get I.hok ha
  obtain ⟨mB, J', _⟩ := ins_get I.hok hb'
  obtain ⟨od, J, _⟩ := J.look
  obtain ⟨od', J', _⟩ := J'.look
  obtain ⟨m, hF⟩ := I.fr
  refine PySem.W.cmp_K (op := .Eq) (tb := .ref C) room.units0 hF I.ok.mod.kin J J'.type (by simp [PySem.W.notFirst]) hm.at_ hm.fn ?_
  refine wpAny_mono (run_eqO F hb room gd I.env0 I q) (fun r s' z => ?_) fun _ _ x => x
  obtain ⟨c, H', rfl, I', q'⟩ := z
  exact ⟨.bl c, H', I', rfl, by simpa using q'⟩
theorem op_neO (F : Km X.prog X.w X.K X.mg X.base C "__eq__" k sp) (hne : PySem.W.findIn X.K (.ref C) "__ne__" = some (some (.builtin "object.__ne__"))) (hp : PySem.W.plainOver X.K C = true) (room : Room (k + 1) X.A) (gd : X.A.guards = some []) : OpR X (compareOp .NotEq) (rOwn true C sp) := by
  intro pins s σ H x y v u Q I rx ry hq
  obtain ⟨a, b, dx, dy, fs, gs, rfl, rfl, ha, hb', q⟩ := hq
  cases (show v = Value.ref a from rx)
  cases (show u = Value.ref b from ry)
  obtain ⟨f, fd, ps, F, hm, hb⟩ := F.ex
  show wpAny (model X.prog X.w) X.A (richCompare .NotEq (.ref a) (.ref b)) (EP X pins σ Q) X.xe s
  obtain ⟨mA, J, _⟩ := ins_get I.hok ha
  obtain ⟨mB, J', _⟩ := ins_get I.hok hb'
  obtain ⟨od, J, _⟩ := J.look
  obtain ⟨od', J', _⟩ := J'.look
  refine ne_K (tb := .ref C) ?hu I.kIn J J'.type (by simp [PySem.W.notFirst]) hne hp hm.at_ hm.fn ?_
  case hu => exact (room.in1).units0
  refine wpAny_mono (run_eqO F hb room.in1 (guards_in1 gd) I.env0.in1 I q) (fun r s' z => ?_) fun _ _ x => x
  obtain ⟨c, H', rfl, I', q'⟩ := z
  exact ⟨c, rfl, .bl (!c), H', I', rfl, by simpa using q'⟩
theorem x_own {neg : Bool} {a b dx dy : Addr} {fs gs : List (Str × V)} {H : Hp} {Q : VK} (ha : H a = some (.ins C dx fs)) (hb : H b = some (.ins C dy gs)) (h : sp [.ref a, .ref b] H (fun v H' => ∃ c, v = .bl c ∧ Q (.bl (if neg = true then !c else c)) H') E0) : rOwn neg C sp (.ref a) (.ref b) H Q := ⟨a, b, dx, dy, fs, gs, rfl, rfl, ha, hb, h⟩
end
/-! Lists of pairs of ints: sorted, inserted. -/
def prD (p : Int × Int) : PyData := .tuple [.int p.1, .int p.2]
/-- the pair that stands at a value -/
def prAt (H : Hp) : V → Int × Int
  | .ref t => match H t with
    | some (.tup [.int i, .int j]) => (i, j)
    | _ => (0, 0)
  | _ => (0, 0)
theorem Dn.pair {M : List Addr} {H : Hp} {v : V} {p : Int × Int} (h : Dn M H v (prD p)) : ∃ r, v = .ref r ∧ r ∉ M ∧ H r = some (.tup [.int p.1, .int p.2]) := by
  unfold prD at h
  cases h with
  | @tup r xs _ e n A =>
    cases A with
    | cons a A =>
      cases A with
      | cons b A =>
        cases A
        cases a; cases b
        exact ⟨r, rfl, n, e⟩
theorem Dn.prAt {M : List Addr} {H : Hp} {v : V} {p : Int × Int} (h : Dn M H v (prD p)) : prAt H v = p := by
  obtain ⟨r, rfl, _, e⟩ := h.pair
  show (match H r with
    | some (.tup [.int i, .int j]) => (i, j)
    | _ => (0, 0)) = p
  rw [e]
theorem DnAll.prs {M : List Addr} {H : Hp} : ∀ {xs : List V} {ps : List (Int × Int)}, DnAll M H xs (ps.map prD) → xs.map (prAt H) = ps ∧ ∀ x ∈ xs, Dn M H x (prD (prAt H x))
  | _, [], .nil => ⟨rfl, by simp⟩
  | x :: r, p :: ps, .cons a A => by
    obtain ⟨e, m⟩ := DnAll.prs A
    refine ⟨by rw [List.map_cons, a.prAt, e], fun y hy => ?_⟩
    rcases List.mem_cons.mp hy with rfl | hy
    · rw [a.prAt]; exact a
    · exact m y hy
theorem DnAll.ofPrs {M : List Addr} {H : Hp} : ∀ {xs : List V}, (∀ x ∈ xs, Dn M H x (prD (prAt H x))) → DnAll M H xs ((xs.map (prAt H)).map prD)
  | [], _ => .nil
  | x :: r, h => .cons (h x (List.mem_cons_self ..)) (DnAll.ofPrs fun y hy => h y (List.mem_cons_of_mem _ hy))
/-- order of pairs -/
def leP (p q : Int × Int) : Prop := SrtO.lexB q p = false
theorem leP_anti {p q : Int × Int} (a : leP p q) (b : leP q p) : p = q := by
  have a : ¬ SrtO.lexB q p = true := by rw [show SrtO.lexB q p = false from a]; exact Bool.false_ne_true
  have b : ¬ SrtO.lexB p q = true := by rw [show SrtO.lexB p q = false from b]; exact Bool.false_ne_true
  rw [SrtO.lexB_iff] at a b
  have : p.1 = q.1 ∧ p.2 = q.2 := by omega
  exact Prod.ext this.1 this.2
/-- what sorting gives, as data -/
def SrtOf (ps qs : List (Int × Int)) : Prop := qs.Perm ps ∧ qs.Pairwise leP
theorem SrtOf.one {ps qs rs : List (Int × Int)} (a : SrtOf ps qs) (b : SrtOf ps rs) : qs = rs :=
  List.Perm.eq_of_pairwise (fun _ _ _ _ h1 h2 => leP_anti h1 h2) a.2 b.2 (a.1.trans b.1.symm)
theorem x_sortP {K : PySem.W.Frag} {M : List Addr} {H : Hp} {Q : VK} {a : Addr} {xs : List V} {ps : List (Int × Int)} (ha : SqL K H a xs) (A : DnAll M H xs (ps.map prD))
    (h : ∀ (f : Addr) (ys : List V) (qs : List (Int × Int)), H f = none → SrtOf ps qs → DnAll M (upd H f (.lst ys)) ys (qs.map prD) → (upd H f (.lst ys)) f = some (.lst ys) → Q (.ref f) (upd H f (.lst ys))) : rSortedPO K [.ref a] H Q := by
  obtain ⟨e, m⟩ := A.prs
  refine ⟨a, xs, prAt H, rfl, ha, fun x hx => ?_, fun ys f s t hf => ?_⟩
  · obtain ⟨r, rfl, _, e⟩ := (m x hx).pair
    exact ⟨r, rfl, e⟩
  · have B := DnAll.ofPrs fun y hy => m y (t.perm.mem_iff.mp hy)
    refine h f ys (ys.map (prAt H)) hf ⟨?_, ?_⟩ (B.ext (Ext.same (same_upd hf))) upd_same
    · have := t.perm.map (prAt H)
      rw [e] at this
      exact this
    · exact List.pairwise_map.mpr s
theorem x_ins {l : Addr} {xs : List V} {i : Int} {y : V} {H : Hp} {Q : VK} (hl : H l = some (.lst xs)) (z : xs.length < sizeLine) (i0 : 0 ≤ i) (i1 : i < 2 ^ 63) (h : Q .non (upd H l (.lst (xs.take i.toNat ++ [y] ++ xs.drop i.toNat)))) :
    ∃ (l' : Addr) (xs' : List V) (i' : Int) (y' : V), V.ref l = .ref l' ∧ [V.int i, y] = [.int i', y'] ∧ H l' = some (.lst xs') ∧ xs'.length < sizeLine ∧ 0 ≤ i' ∧ i' < 2 ^ 63 ∧ Q .non (upd H l' (.lst (xs'.take i'.toNat ++ [y'] ++ xs'.drop i'.toNat))) :=
  ⟨l, xs, i, y, rfl, rfl, hl, z, i0, i1, h⟩
/-! Errors: defs that raise, errors that are caught. -/
/-- a def's promise that may end in an error -/
structure FnX (P : Program) (w : World) (K : PySem.W.Frag) (mg : Str → Option Value) (base : Heap)
    (k : Nat) (f : Addr) (fd : FuncData) (ps : List Str) (sp : Sp) : Prop where
  len : ∀ vs H Q E, sp vs H Q E → vs.length = ps.length
  go : ∀ (B : Around) (fr : List Env) (z : Shared) (H : Hp) (ar : Args) (us : List Value) (vs : List V) (Q : VK) (E : XK),
    Room k B → B.guards = some [] → Env0 P w K mg base B fr z H → BindsTo z fd ar (ps.zip us) → Vals vs us →
    sp vs H Q E → codeAny (model P w) B (.call (.ref f) ar) (CR (L2.CX P w) fr P w H z Q E) z
section
variable {P : Program} {w : World} {K : PySem.W.Frag} {mg : Str → Option Value} {base : Heap}
theorem FnX.up {j k : Nat} {f : Addr} {fd : FuncData} {ps : List Str} {sp : Sp}
    (F : FnX P w K mg base j f fd ps sp) (h : j ≤ k) : FnX P w K mg base k f fd ps sp :=
  ⟨F.len, fun B fr z H ar us vs Q E r => F.go B fr z H ar us vs Q E (r.mono h)⟩
theorem FnX.mk' {x qual : Str} {st : Stmt} {f : Addr} {fd : FuncData} {N ps : List Str} {k : Nat} {sp : Sp}
    (F : Fun K x qual st f fd) (S : FnScope N ps (defScope st)) (len : ∀ vs H Q E, sp vs H Q E → vs.length = ps.length)
    (body : ∀ (cd : Value) (B : Around) (fr : List Env) (z : Shared) (H : Hp) (vs : List V) (Q : VK) (E : XK),
      Room k (B.deeper (envOfC qual (defScope st) z.heap.objs.size f cd)) →
      (B.deeper (envOfC qual (defScope st) z.heap.objs.size f cd)).guards = some [] → sp vs H Q E →
      ∃ t, PSs (cxOf (L2.CX P w) P w K mg base N qual (defScope st) f cd B fr z H E) (defBody st) t ∧
        t { nx := fun _ H' => Q .non H', rt := Q } (start N vs) H) : FnX P w K mg base (k + 1) f fd ps sp := by
  obtain ⟨oc, od, kV, doc, pm, an, cd, ct, osl, rfl, lk, hc⟩ := F.ex
  constructor
  · exact len
  intro B fr z H ar us vs Q E room guard env bind rel want
  have n1 := len _ _ _ _ want
  have kin : K.In z.heap := env.mod.kin.keeps fun b o e => (env.bs b o e).1
  have lim : z.heap.NoLimit :=
    env.mod.nolimit.keeps fun b o e => (env.bs b o e).1
  have kinds : ∀ y ∈ ps.zip us, (defScope st).names.lookup y.1 = some .local ∨
      ((defScope st).names.lookup y.1 = some .cell ∧
        ((cellsFrom (z.heap.objs.size + 1) (defScope st).names []).lookup y.1).isSome = true) := by
    intro y hy
    rcases S.par y.1 (List.of_mem_zip (show (y.1, y.2) ∈ ps.zip us from hy)).1 with h | h
    · exact Or.inl h
    · exact Or.inr ⟨h, PySem.W.cellsFrom_some _ _ _ (.inl h)⟩
  apply codeAny_call_function room.depth (kin _ _ lk) rfl S.co S.gen rfl (PySem.W.codeRec_of kin hc)
  apply bind
  apply wpAny_newFunctionEnv_cells S.kind kinds
  intro e he z1 ic
  subst he
  refine ⟨lim.keeps ic.toInCall.keep, codeAny_func ?_⟩
  obtain ⟨t, ht, hq⟩ := body cd B fr z H vs Q E (room.deeper _) guard want
  have I0 : Inv (cxOf (L2.CX P w) P w K mg base N qual (defScope st) f cd B fr z H E) [] (start N vs) H z1 := inv_start S room.hd env n1 rel ic
  refine wpAny_mono (ht.run [] z1 (start N vs) H _ I0 hq) (fun fl z2 h2 => ?_) fun e s' hs => hs
  match fl, h2 with
  | .ret u, h2 =>
    obtain ⟨v, σ2, H2, J, rv, q⟩ := h2
    exact ⟨v, H2, J.os, J.bare, J.base, J.hok, rv, q⟩
  | .next, h2 =>
    obtain ⟨σ2, H2, J, q⟩ := h2
    exact ⟨V.non, H2, J.os, J.bare, J.base, J.hok, rfl, q⟩
  | .brk, h2 =>
    obtain ⟨_, _, _, q⟩ := h2
    exact q.elim
  | .cont, h2 =>
    obtain ⟨_, _, _, q⟩ := h2
    exact q.elim
/-- such a def, known by its name -/
structure Kx (P : Program) (w : World) (K : PySem.W.Frag) (mg : Str → Option Value) (base : Heap) (nm : Str) (k : Nat) (sp : Sp) : Prop where
  ex : ∃ f fd ps, FnX P w K mg base k f fd ps sp ∧ mg nm = some (.ref f) ∧ PySem.W.keepIn K (.ref f) = true ∧ Binds K fd ps []
theorem Kx.up {nm : Str} {j k : Nat} {sp : Sp} (F : Kx P w K mg base nm j sp) (h : j ≤ k) : Kx P w K mg base nm k sp := by
  obtain ⟨f, fd, ps, a, b⟩ := F.ex
  exact ⟨f, fd, ps, a.up h, b⟩
theorem kx_of {base : Heap} {nm : Str} {st : Stmt} {N ps : List Str} {k : Nat} {sp : Sp} (D : Df K mg nm st)
    (bd : ∀ (kV doc pm : Value) (an : Option Addr) (cdv ct : Value) (us : List Value), us.length = ps.length → bindArgs (PySem.W.fnOf nm nm (defArgs st) (defBody st) (defScope st) .none kV doc pm an cdv ct) ⟨us, []⟩ = pure (ps.zip us))
    (S : FnScope N ps (defScope st)) (len : ∀ vs H Q E, sp vs H Q E → vs.length = ps.length)
    (body : ∀ (f : Addr) (cd : Value) (B : Around) (fr : List Env) (z : Shared) (H : Hp) (vs : List V) (Q : VK) (E : XK),
      Room k (B.deeper (envOfC nm (defScope st) z.heap.objs.size f cd)) →
      (B.deeper (envOfC nm (defScope st) z.heap.objs.size f cd)).guards = some [] → sp vs H Q E →
      ∃ t, PSs (cxOf (L2.CX P w) P w K mg base N nm (defScope st) f cd B fr z H E) (defBody st) t ∧
        t { nx := fun _ H' => Q .non H', rt := Q } (start N vs) H) : Kx P w K mg base nm (k + 1) sp := by
  obtain ⟨f, fd, F, hm⟩ := D.ex
  exact ⟨f, fd, ps, FnX.mk' F S len (body f), hm, F.kp, F.binds bd⟩
end
section
variable {X : Cx} {k : Nat} {sp : Sp} {nm : Str} {p pos : Pos} {e : Expr} {es : List Expr} {t : TA} {W : WX}
/-- a call of such a def, where its errors are wished for -/
theorem pe_ownX (c : Kx X.prog X.w X.K X.mg X.base nm k sp) (room : Room k X.A) (gd : X.A.guards = some []) (tk : Takes X W) (hg : Gl X nm)
    (ha : PA X (e :: es) t) (hdb : (nm == ("__debug__" : Str)) = false := by decide)
    (he : starEach (e :: es) X.env = (false, eval e X.env) :: starEach es X.env := by rfl)
    (hp : (backTo pos (starEach es X.env)).any (·.1) = false := by rfl) : PE X (.Call (.Name nm p) (e :: es) [] pos) (tCallS sp (WE W) t) := by
  obtain ⟨f, fd, ps, F, hm, hk, hb⟩ := c.ex
  constructor
  intro pins s σ H Q I h
  apply wpAny_Call_Name_kw
  refine ld_glob I hg hm ?_ hdb
  refine PySem.W.callWith_K (h₀ := X.base) I.ok.mod.kin hk ?_ he hp
  refine thn (ha.run pos pins s σ H _ I h) ?_
  rintro us s1 ⟨vs, H1, I1, r, q⟩
  refine ⟨I1.kIn, ?_⟩
  have n1 : us.length = ps.length := r.length.symm.trans (F.len _ _ _ _ q)
  have bt := hb s1 us I1.kIn (by rw [List.append_nil]; exact n1)
  rw [List.append_nil] at bt
  apply wpAny_call
  refine codeAny_mono (F.go X.A X.stack s1 H1 ⟨us, []⟩ us vs Q _ room gd I1.env0 bt r q) ?_
  intro res z hz
  match res, hz with
  | .error e, hz => exact passAt tk σ pins H1 s1 e z I1 hz
  | .ok (.ret u), hz => exact I1.after hz
  | .ok .next, hz => exact False.elim hz
  | .ok .brk, hz => exact False.elim hz
  | .ok .cont, hz => exact False.elim hz
/-- X(), X an own error class without own __init__ -/
theorem pmk_own0 {C : Addr} {bmB : List Value} {B newId initId : String} {x : Str} (F : ExcBaseFacts B newId initId bmB) (q : PySem.W.excIn X.K C bmB newId = true) (gC : X.mg x = some (.ref C))
    (kC : PySem.W.keepIn X.K (.ref C) = true) (r : Raises X (.ref C)) (hg : Gl X x) (hdb : (x == ("__debug__" : Str)) = false := by decide) :
    PMk X (.Call (.Name x p) [] [] pos) (fun _ H Q => Q (.ref C) none H) := by
  intro pins s σ H Q I h
  refine wpAny_Call_Name_kw (ld_glob I hg gC ?_ hdb)
  refine PySem.W.callWith_K0 (first := []) I.kIn kC ?_
  show wpAny _ _ (call (.ref C) []) _ _ _
  obtain ⟨bm, N, nm, qn, bs, hdct, sn, sub, ab, col, dd, k0, k1, k2, k3, k5, mN, hC, hN, hni, T⟩ := exc_obj I.kIn q
  obtain ⟨hp, g, d, t, os⟩ := s
  refine wpAny_call_exc_subT F T hC hN hni (fun h' e hm => ?_) (Nat.zero_le _)
  exact mk_of I hm r h (I.hok.gone hm.new)
end
end Lw
namespace PySem.W
open PySem PySem.Spec PySem.Calls PyProof.Rows
section
variable {prog : Program} {w : World} {A : Around} {E : Value → Shared → Prop} {s : Shared} {K : Frag} {x D : Addr} {ox : Obj} {od : Option Obj}
theorem lw_dataN {C : Addr} {name : Str} {a g : Value} (hc : (clsIn K C).isSome = true) (ha : findIn K (.ref C) name = some (some a)) (hg : specialIn K a "__get__" = some (some g)) (ht : takesIn K a = some true) : findObj K C od name = some (.bind g a) := by
  obtain ⟨cd, hc⟩ := Option.isSome_iff_exists.mp hc
  unfold findObj
  rw [hc, Option.bind_some, ha, Option.bind_some]
  simp [hg, ht]
theorem lw_classE {Q : Option Value → Shared → Prop} (hga : findIn K (.ref D) "__getattribute__" = some (some (.builtin "BaseException.__getattribute__"))) (hgt : findIn K (.ref D) "__getattr__" = some none) (hsub : subIn K (.ref D) (.type "BaseException") = some true)
    (hdct : hasDictIn K D = true) (ha : findIn K (.ref D) "__class__" = some (some (.builtin "object.__class__")))
    (hn : specialIn K (.builtin "object.__class__") "__get__" = some (some (.builtin "getset_descriptor.__get__"))) (htk : takesIn K (.builtin "object.__class__") = some true) (hm : mroIn K D (.type "object") = some true)
    (X : K.In s.heap) (I : InstAt s.heap x ox D od) (h : Q (some (.ref D)) { s with toks := s.toks + 1 }) : wpAny (model prog w) A (getAttr? (.ref x) "__class__") Q E s := by
  have hf : findObj K D od "__class__" = some (.bind (.builtin "getset_descriptor.__get__") (.builtin "object.__class__")) := lw_dataN (by obtain ⟨cd, hc, _⟩ := any_some hdct; rw [hc]; rfl) ha hn htk
  obtain ⟨hp, g, d, t, os⟩ := s
  have L0 := I.type (M := model prog w)
  have L1 := looks_findIn (M := model prog w) X hga
  have L2 := looks_findIn (M := model prog w) X hgt
  have L3 := looks_find (M := model prog w) X I hf
  have sub : Looks (model prog w) hp (isInstance (.ref x) (.type "BaseException")) true := L0.andThen (looks_subIn X hsub)
  have hx0 : (false && onTheHeap (Value.builtin "BaseException.__getattribute__")) = false := rfl
  have hx2 : (Value.builtin "BaseException.__getattribute__" == Value.builtin "object.__getattribute__") = false := by decide +kernel
  have hx1 : (onTheHeap (Value.ref D) && Value.builtin "BaseException.__getattribute__" == Value.builtin "object.__getattribute__") = false := by rw [hx2]; rfl
  unfold getAttr? getAttrBy? getAttrBy
  refine wpAny_bind (wpAny_mkText (wpAny_bind (wpAny_attempt (wpAny_holding (wpAny_bind (L0.at (wpAny_bind (L1.at ?_))))))))
  show wpAny _ _ (if (onTheHeap (Value.ref D) && Value.builtin "BaseException.__getattribute__" == Value.builtin "object.__getattribute__") = true then _ else _) _ _ _
  rw [hx1, if_neg Bool.false_ne_true]
  unfold getAttrByItsOwn hookBefore
  refine wpAny_bind ?_
  rw [if_pos (show onTheHeap (Value.ref D) = true from rfl)]
  refine L2.at ?_
  refine wpAny_bind (wpAny_attempt (wpAny_holding ?_))
  unfold callGetattribute
  rw [hx0, if_neg Bool.false_ne_true]
  unfold boundAndCalled
  rw [PySem.F.excAttr_ValueError.ga.bind (.ref x)]
  refine wpAny_bind (wpAny_pure ?_)
  show wpAny _ _ (call (.builtin "BaseException.__getattribute__") [.ref x, .str "__class__" t]) _ _ _
  refine wpAny_call (codeAny_call_builtin PySem.F.excAttr_ValueError.ga.plain PySem.F.entry_bexc_ga ?_)
  refine @check_slot (model prog w) _ _ ⟨hp, g, d, t + 1, os⟩ "BaseException.__getattribute__" "BaseException" "__getattribute__" (.ref x) [.str "__class__" t] [] _ (by decide +kernel) (by decide +kernel) sub (PySem.F.args_bexc_ga (.ref x) (.str "__class__" t)) ?_
  unfold Builtin.«object.__getattribute__»
  refine wpAny_bind (wpAny_of_eq (a := ((Value.ref x : Value), [Value.str "__class__" t])) (by first | rfl | (simp only [slotArgs]; rfl)) ?_)
  refine wpAny_bind (wpAny_pure (wpAny_bind (L0.at (wpAny_bind (L3.at ?_)))))
  show wpAny _ _ (holding [Value.builtin "object.__class__"] (call (.builtin "getset_descriptor.__get__") [.builtin "object.__class__", .ref x, .ref D]) >>= ret) _ _ _
  refine wpAny_bind (wpAny_holding (wpAny_call (class_get (s := ⟨hp, g, d, t + 1, os⟩) (ox := ox) (od := od) X I hm ?_)))
  refine wpAny_pure ?_
  show wpAny _ _ (handedOut (.ref D)) _ _ _
  rw [handedOut_of (v := .ref D) rfl]
  first
    | exact wpAny_pure (wpAny_pure h)
    | exact wpAny_pure h
    | exact wpAny_pure (wpAny_bind (wpAny_pure (wpAny_pure h)))
theorem lw_kitx_exc (hga : findIn K (.ref D) "__getattribute__" = some (some (.builtin "BaseException.__getattribute__"))) (hgt : findIn K (.ref D) "__getattr__" = some none) (hsub : subIn K (.ref D) (.type "BaseException") = some true) (hdct : hasDictIn K D = true) (ha : findIn K (.ref D) "__class__" = some (some (.builtin "object.__class__")))
    (hn : specialIn K (.builtin "object.__class__") "__get__" = some (some (.builtin "getset_descriptor.__get__"))) (htk : takesIn K (.builtin "object.__class__") = some true) (hm : mroIn K D (.type "object") = some true) :
    KitX K (.ref x) (.ref D) (fun h => InstAt h x ox D od) where
  ty := fun _ _ _ I => I.type
  it := fun _ _ X _ => by
    obtain ⟨cdD, hcD, _⟩ := any_some hdct
    unfold clsIn at hcD
    split at hcD
    · rename_i c' d' cd' sl' ho
      intro A' Q' E' s' k q
      unfold isType loadHead
      exact wpAny_bind (wpAny_loadPart (k _ _ (X _ _ ho)) (wpAny_pure q))
    · cases hcD
  ne := fun h tp dd its n sl X htp => by
    obtain ⟨cdD, hcD, _⟩ := any_some hdct
    refine Bool.eq_false_iff.mpr fun q => ?_
    have e : D = tp := Value.ref.inj (beq_iff_eq.mp q)
    subst e
    unfold clsIn at hcD
    split at hcD
    · rename_i c' d' cd' sl' ho
      have z := (X _ _ ho).symm.trans htp
      cases z
    · cases hcD
  ca := fun X I k => lw_classE hga hgt hsub hdct ha hn htk hm X I k
end
end PySem.W
namespace Lw
open PySem PySem.Spec PyProof.Rows L2
/-- isinstance(e, c) in an except suite, e with or without fields -/
def rIsF (K : PySem.W.Frag) (cls : Value) (a : Addr) (d : Option Addr) : List V → Hp → VK → Prop := fun xs H Q => ∃ (D : Addr) (c : V) (cv : Value) (b : Bool), cls = .ref D ∧ ExcC K D ∧ xs = [.ref a, c] ∧ ClsV c cv ∧ (∀ dd, d = some dd → ∃ fs, H dd = some (.xd fs)) ∧ PySem.W.kitOne K (.ref D) cv = some b ∧ Q (.bl b) H
theorem call_isF {X : Cx} {a : Addr} {cls : Value} {d : Option Addr} {oe : Obj} {pn : List (Addr × Obj)} (hz : Zc cls d oe) (hf : ∃ vs, oe.data = .fields vs) : CallR (X.suite a ((a, oe) :: pn)) (.builtin "isinstance") (rIsF X.K cls a d) := by
  intro pins s σ H xs us Q I r h
  obtain ⟨D, c, cv, b, rfl, C, rfl, hcv, hd, e, q⟩ := h
  cases r with
  | cons rx rr =>
    cases rr with
    | cons rt rr =>
      cases rr
      cases rx
      have ec := hcv.eq rt
      subst ec
      obtain ⟨hget, _⟩ := I.pin (a, oe) (List.mem_append.mpr (.inl List.mem_cons_self))
      obtain ⟨vs, hv⟩ := hf
      have J : ∃ od, PySem.W.InstAt s.heap a oe D od := by
        cases d with
        | none =>
          refine ⟨none, ?_⟩
          obtain ⟨oc, od, oda, osl⟩ := oe
          obtain ⟨h1, h2⟩ := hz
          dsimp only at h1 h2 hv
          subst h1 h2 hv
          exact ⟨hget, rfl, rfl, trivial⟩
        | some dd =>
          obtain ⟨fs, ea⟩ := hd dd rfl
          have hx : ObjOk X.prog X.w H s.heap dd (.xd fs) := I.hok dd _ ea
          obtain ⟨mA, hns, hr⟩ := hx
          obtain ⟨od, ho, hl⟩ := lookIn_ns hns
          exact ⟨some od, hget, hz.1, by unfold PySem.W.notCls; rw [hv] <;> rfl, by rw [hz.2]; exact ho⟩
      obtain ⟨od, J⟩ := J
      exact PySem.W.kia_one (PySem.W.lw_kitx_exc C.hg C.hk C.hs C.hd C.ha C.hn C.ht C.hm) I.kIn J e (fun z => nomatch z) fun tk => ⟨.bl b, H, I.kept (t' := tk) fun _ _ z => z, rfl, q⟩
theorem units65 {k : Nat} {A : Around} (r : Room k A) : A.units + 65 < cLine := by have := r.un; omega
/-- an own error class with its __init__ -/
structure Exk (P : Program) (w : World) (K : PySem.W.Frag) (mg : Str → Option Value) (base : Heap) (nm : Str) (C : Addr) (k : Nat) (sp : Sp) : Prop where
  oex : OexC K C
  at_ : mg nm = some (.ref C)
  ini : ∃ fI fd ps, FnOk P w K mg base CX0 k fI fd ps sp ∧ PySem.W.findIn K (.ref C) "__init__" = some (some (.ref fI)) ∧ PySem.W.typeIn K (.ref fI) = some (.type "function") ∧ Binds K fd ps []
/-- an own error class without one -/
structure Ex0 (K : PySem.W.Frag) (mg : Str → Option Value) (nm : Str) (C : Addr) : Prop where
  q : PySem.W.excIn K C [.type "ValueError", .type "Exception", .type "BaseException", .type "object"] "ValueError.__new__" = true
  at_ : mg nm = some (.ref C)
  kp : PySem.W.keepIn K (.ref C) = true
  b : PySem.W.subIn K (.ref C) (.type "BaseException") = some true
  t : PySem.W.typeIn K (.ref C) = some (.type "type")
section
variable {X : Cx} {k : Nat} {sp : Sp} {nm : Str} {C : Addr} {p pos : Pos} {e : Expr} {es : List Expr} {t : TA}
theorem pmk_ex (c : Exk X.prog X.w X.K X.mg X.base nm C k sp) (hr : Room (k + 1) X.A) (hg : Gl X nm) (ha : PA X (e :: es) t) (hdb : (nm == ("__debug__" : Str)) = false := by decide)
    (he : starEach (e :: es) X.env = (false, eval e X.env) :: starEach es X.env := by rfl) (hpl : (backTo pos (starEach es X.env)).any (·.1) = false := by rfl) : PMk X (.Call (.Name nm p) (e :: es) [] pos) (tMkO C sp [] t) := by
  obtain ⟨fI, fd, ps, F, iC, tI, hb⟩ := c.ini
  exact pmk_oex c.oex iC tI F hr hb .nil pass0 hg c.at_ ha hdb he hpl
theorem pmk_ex0 (c : Ex0 X.K X.mg nm C) (hg : Gl X nm) (hdb : (nm == ("__debug__" : Str)) = false := by decide) : PMk X (.Call (.Name nm p) [] [] pos) (fun _ H Q => Q (.ref C) none H) :=
  pmk_own0 F.excBase_ValueError c.q c.at_ c.kp (raises_own c.b c.t) hg hdb
end
section
variable {σ : L2.St} {H : Hp} {D : Ends}
theorem x_raise {t : L2.St → Hp → XK → Prop} {W : WX} (h : t σ H fun cls d H' => W cls d σ H') : (fun (_ : Ends) σ H => t σ H fun cls d H' => W cls d σ H') D σ H := h
end
/-- an error's __init__ by its body -/
theorem exk_of {P : Program} {w : World} {K : PySem.W.Frag} {mg : Str → Option Value} {base : Heap} {nm qual : Str} {C : Addr} {st : Stmt} {N ps : List Str} {k : Nat} {sp : Sp} (o : OexC K C) (a : mg nm = some (.ref C)) (D : Dm K C "__init__" qual st)
    (bd : ∀ (kV doc pm : Value) (an : Option Addr) (cdv ct : Value) (us : List Value), us.length = ps.length → bindArgs (PySem.W.fnOf "__init__" qual (defArgs st) (defBody st) (defScope st) .none kV doc pm an cdv ct) ⟨us, []⟩ = pure (ps.zip us))
    (S : FnScope N ps (defScope st)) (len : ∀ vs H Q E, sp vs H Q E → vs.length = ps.length)
    (body : ∀ (f : Addr) (cdv : Value) (A : Around) (outer : List Env) (s : Shared) (H : Hp) (vs : List V) (Q : VK) (E : XK), Room k (A.deeper (envOfC qual (defScope st) s.heap.objs.size f cdv)) → sp vs H Q E →
      ∃ t, PSs (cxOf CX0 P w K mg base N qual (defScope st) f cdv A outer s H E).nox (defBody st) t ∧ t { nx := fun _ H' => Q .non H', rt := Q } (start N vs) H) : Exk P w K mg base nm C (k + 1) sp := by
  obtain ⟨f, fd, F, hm⟩ := D.ex
  exact ⟨o, a, f, fd, ps, F.ok S len (body f), hm.at_, beq_iff_eq.mp hm.fn, F.binds bd⟩
theorem x_callS {sp : Sp} {E : L2.St → XK} {tr : TA} {σ : L2.St} {H : Hp} {Q : VK} (h : tr σ H fun vs H1 => sp vs H1 Q (E σ)) : tCallS sp E tr σ H Q := h
/-! Making an own instance whose __init__ may raise. -/
section
variable {P : Program} {w : World} {K : PySem.W.Frag} {mg : Str → Option Value} {base : Heap} {C : Addr}
structure KmX (P : Program) (w : World) (K : PySem.W.Frag) (mg : Str → Option Value) (base : Heap) (C : Addr) (m : Str) (k : Nat) (sp : Sp) : Prop where
  ex : ∃ f fd ps, FnX P w K mg base k f fd ps sp ∧ Meth K C m f ∧ Binds K fd ps []
theorem KmX.up {m : Str} {j k : Nat} {sp : Sp} (F : KmX P w K mg base C m j sp) (h : j ≤ k) : KmX P w K mg base C m k sp := by
  obtain ⟨f, fd, ps, a, b⟩ := F.ex
  exact ⟨f, fd, ps, a.up h, b⟩
theorem kmx_of {m qual : Str} {st : Stmt} {N ps : List Str} {k : Nat} {sp : Sp} (D : Dm K C m qual st)
    (bd : ∀ (kV doc pm : Value) (an : Option Addr) (cdv ct : Value) (us : List Value), us.length = ps.length → bindArgs (PySem.W.fnOf m qual (defArgs st) (defBody st) (defScope st) .none kV doc pm an cdv ct) ⟨us, []⟩ = pure (ps.zip us))
    (S : FnScope N ps (defScope st)) (len : ∀ vs H Q E, sp vs H Q E → vs.length = ps.length)
    (body : ∀ (f : Addr) (cd : Value) (B : Around) (fr : List Env) (z : Shared) (H : Hp) (vs : List V) (Q : VK) (E : XK),
      Room k (B.deeper (envOfC qual (defScope st) z.heap.objs.size f cd)) →
      (B.deeper (envOfC qual (defScope st) z.heap.objs.size f cd)).guards = some [] → sp vs H Q E →
      ∃ t, PSs (cxOf (L2.CX P w) P w K mg base N qual (defScope st) f cd B fr z H E) (defBody st) t ∧
        t { nx := fun _ H' => Q .non H', rt := Q } (start N vs) H) : KmX P w K mg base C m (k + 1) sp := by
  obtain ⟨f, fd, F, hm⟩ := D.ex
  exact ⟨f, fd, ps, FnX.mk' F S len (body f), hm, F.binds bd⟩
end
section
variable {X : Cx} {k : Nat} {C : Addr} {sp : Sp} {m nm : Str} {p apos pos : Pos} {e o : Expr} {es : List Expr} {ta : TE} {t : TA} {W : WX}
theorem run_ownMkX {pins : List (Addr × Obj)} {σ : L2.St} {H : Hp} {s : Shared} {Q : VK} {us : List Value} {vs : List V} (c : Ck X.K X.mg nm C) (F : KmX X.prog X.w X.K X.mg X.base C "__init__" k sp) (room : Room (k + 1) X.A) (gd : X.A.guards = some []) (tk : Takes X W)
    (I : Inv X pins σ H s) (r : Vals vs us)
    (h : ∀ x dx, H x = none → H dx = none → dx ≠ x → sp (.ref x :: vs) (upd (upd H dx (.own x)) x (.ins C dx [])) (fun v H2 => v = .non ∧ Q (.ref x) H2) (WE W σ)) :
    wpAny (model X.prog X.w) X.A (call (.ref C) us) (EP X pins σ Q) X.xe s := by
  obtain ⟨f, fd, ps, F, hm, hb⟩ := F.ex
  have q := h (s.heap.objs.size + 1) s.heap.objs.size (I.hok.fresh (Nat.le_succ _)) (I.hok.fresh (Nat.le_refl _)) (Nat.ne_of_lt (Nat.lt_succ_self _))
  have I2 := Inv.made (C := C) I
  have r2 : Vals (V.ref (s.heap.objs.size + 1) :: vs) (Value.ref (s.heap.objs.size + 1) :: us) := .cons rfl r
  have n1 : (Value.ref (s.heap.objs.size + 1) :: us).length = ps.length := r2.length.symm.trans (F.len _ _ _ _ q)
  have bt := hb _ (Value.ref (s.heap.objs.size + 1) :: us) I2.kIn (by rw [List.append_nil]; exact n1)
  rw [List.append_nil] at bt
  refine wpAny_call (make_map (f := f) I.kIn c.makes hm.at_ (beq_iff_eq.mp hm.fn) (codeAny_mono (F.go _ X.stack _ _ ⟨Value.ref (s.heap.objs.size + 1) :: us, []⟩ (Value.ref (s.heap.objs.size + 1) :: us) _ _ _ (room.make C us []) (guards_make gd)
    (I2.env0.make C us []) bt r2 q) ?_))
  intro res z hz
  match res, hz with
  | .error e, hz => exact passAt tk σ pins _ _ e z I2 hz
  | .ok (.ret u), hz =>
    obtain ⟨v, H', I3, rv, rfl, q3⟩ := I2.after hz
    exact ⟨rv, ⟨V.ref (s.heap.objs.size + 1), H', I3, rfl, q3⟩⟩
  | .ok .next, hz => exact False.elim hz
  | .ok .brk, hz => exact False.elim hz
  | .ok .cont, hz => exact False.elim hz
def tMakeS (C : Addr) (sp : Sp) (E : L2.St → XK) (t : TA) : TE := fun σ H Q => t σ H fun vs H1 => ∀ (x dx : Addr), H1 x = none → H1 dx = none → dx ≠ x → sp (.ref x :: vs) (upd (upd H1 dx (.own x)) x (.ins C dx [])) (fun v H2 => v = .non ∧ Q (.ref x) H2) (E σ)
theorem pe_ownMkX (c : Ck X.K X.mg nm C) (F : KmX X.prog X.w X.K X.mg X.base C "__init__" k sp) (room : Room (k + 1) X.A) (gd : X.A.guards = some []) (tk : Takes X W) (hg : Gl X nm) (ha : PA X (e :: es) t)
    (hdb : (nm == ("__debug__" : Str)) = false := by decide) (he : starEach (e :: es) X.env = (false, eval e X.env) :: starEach es X.env := by rfl) (hpl : (backTo pos (starEach es X.env)).any (·.1) = false := by rfl) :
    PE X (.Call (.Name nm p) (e :: es) [] pos) (tMakeS C sp (WE W) t) := by
  constructor
  intro pins s σ H Q I h
  apply wpAny_Call_Name_kw
  refine ld_glob I hg c.at_ ?_ hdb
  refine PySem.W.callWith_K (h₀ := X.base) I.ok.mod.kin c.kp ?_ he hpl
  refine thn (ha.run pos pins s σ H _ I h) ?_
  rintro us s1 ⟨vs, H1, I1, r, q⟩
  exact ⟨I1.kIn, run_ownMkX c F room gd tk I1 r q⟩
end
/-- isinstance(e, (c1, c2, ..)) in an except suite -/
def rIsFT (K : PySem.W.Frag) (cls : Value) (a : Addr) (d : Option Addr) : List V → Hp → VK → Prop := fun xs H Q => ∃ (D tp : Addr) (cs : List V) (us : List Value) (b : Bool), cls = .ref D ∧ ExcC K D ∧ xs = [.ref a, .ref tp] ∧ H tp = some (.tup cs) ∧ Paired ClsV cs us ∧ (∀ dd, d = some dd → ∃ fs, H dd = some (.xd fs)) ∧ PySem.W.kitAny K (.ref D) us = some b ∧ Q (.bl b) H
theorem call_isFT {X : Cx} {a : Addr} {cls : Value} {d : Option Addr} {oe : Obj} {pn : List (Addr × Obj)} (hz : Zc cls d oe) (hf : ∃ vs, oe.data = .fields vs) : CallR (X.suite a ((a, oe) :: pn)) (.builtin "isinstance") (rIsFT X.K cls a d) := by
  intro pins s σ H xs us Q I r h
  obtain ⟨D, tp, cs, ws, b, rfl, C, rfl, hT, hcv, hd, e, q⟩ := h
  cases r with
  | cons rx rr =>
    cases rr with
    | cons rt rr =>
      cases rr
      cases rx
      cases rt
      obtain ⟨_, its, rv, o, h1, h2, n, h3⟩ := (show ObjOk X.prog X.w H s.heap tp (.tup cs) from I.hok tp _ hT)
      have e3 := ClsV.all hcv rv
      subst e3
      obtain ⟨hget, _⟩ := I.pin (a, oe) (List.mem_append.mpr (.inl List.mem_cons_self))
      obtain ⟨vs, hv⟩ := hf
      have J : ∃ od, PySem.W.InstAt s.heap a oe D od := by
        cases d with
        | none =>
          refine ⟨none, ?_⟩
          obtain ⟨oc, od, oda, osl⟩ := oe
          obtain ⟨h1, h2⟩ := hz
          dsimp only at h1 h2 hv
          subst h1 h2 hv
          exact ⟨hget, rfl, rfl, trivial⟩
        | some dd =>
          obtain ⟨fs, ea⟩ := hd dd rfl
          have hx : ObjOk X.prog X.w H s.heap dd (.xd fs) := I.hok dd _ ea
          obtain ⟨mA, hns, hr⟩ := hx
          obtain ⟨od, ho, hl⟩ := lookIn_ns hns
          exact ⟨some od, hget, hz.1, by unfold PySem.W.notCls; rw [hv] <;> rfl, by rw [hz.2]; exact ho⟩
      obtain ⟨od, J⟩ := J
      obtain ⟨oc, odd, dt, sl⟩ := o
      simp only at h2 h3
      subst h2 h3
      exact PySem.W.kia_tup (PySem.W.lw_kitx_exc C.hg C.hk C.hs C.hd C.ha C.hn C.ht C.hm) I.kIn J h1 e (fun z => nomatch z) fun tk => ⟨.bl b, H, I.kept (t' := tk) fun _ _ z => z, rfl, q⟩
theorem x_makeS {C : Addr} {sp : Sp} {E : L2.St → XK} {t : TA} {σ : L2.St} {H : Hp} {Q : VK} (h : t σ H fun vs H1 => ∀ x dx, H1 x = none → H1 dx = none → dx ≠ x → sp (.ref x :: vs) (upd (upd H1 dx (.own x)) x (.ins C dx [])) (fun v H2 => v = .non ∧ Q (.ref x) H2) (E σ)) : tMakeS C sp E t σ H Q := h
theorem x_lrg1 {ta : TE} {σ : L2.St} {H : Hp} {Q : VK} (h : ta σ H fun x H1 => ∃ n, x = .int n ∧ RgOk 0 n ∧ ∀ q, H1 q = none → Q (.ref q) (upd H1 q (.lst (rgV 0 n)))) : tLstRg (tRg1 ta) σ H Q := by
  show tRg1 ta σ H _
  unfold tRg1
  exact h
/-- an own instance != a list -/
def rOwnL (C : Addr) (sp : Sp) : R2 := fun x y H Q => ∃ (a b dx : Addr) (fs : List (Str × V)) (xs : List V), x = .ref a ∧ y = .ref b ∧ H a = some (.ins C dx fs) ∧ H b = some (.lst xs) ∧ sp [.ref a, .ref b] H (fun v H' => ∃ c, v = .bl c ∧ Q (.bl (!c)) H') E0
section
variable {X : Cx} {k : Nat} {C : Addr} {sp : Sp}
theorem op_neOL (F : Km X.prog X.w X.K X.mg X.base C "__eq__" k sp) (hne : PySem.W.findIn X.K (.ref C) "__ne__" = some (some (.builtin "object.__ne__"))) (hp : PySem.W.plainOver X.K C = true) (hl : PySem.W.subIn X.K (.type "list") (.ref C) = some false) (room : Room (k + 1) X.A) (gd : X.A.guards = some []) : OpR X (compareOp .NotEq) (rOwnL C sp) := by
  intro pins s σ H x y v u Q I rx ry hq
  obtain ⟨a, b, dx, fs, xs, rfl, rfl, ha, hb', q⟩ := hq
  cases (show v = Value.ref a from rx)
  cases (show u = Value.ref b from ry)
  obtain ⟨f, fd, ps, F, hm, hb⟩ := F.ex
  show wpAny (model X.prog X.w) X.A (richCompare .NotEq (.ref a) (.ref b)) (EP X pins σ Q) X.xe s
  obtain ⟨mA, J, _⟩ := ins_get I.hok ha
  obtain ⟨od, J, _⟩ := J.look
  obtain ⟨its, r', pl, hz⟩ := I.list (SqL.of hb')
  obtain ⟨o, ho, hc, n, hd⟩ := pl.isList
  refine ne_K (tb := .type "list") ?hu I.kIn J (PySem.W.kitAt_ty _ _ ⟨o, ho, hc⟩) (by unfold PySem.W.notFirst; rw [hl]; simp) hne hp hm.at_ hm.fn ?_
  case hu => exact (room.in1).units0
  refine wpAny_mono (run_eqO F hb room.in1 (guards_in1 gd) I.env0.in1 I q) (fun r s' z => ?_) fun _ _ x => x
  obtain ⟨c, H', rfl, I', q'⟩ := z
  exact ⟨c, rfl, .bl (!c), H', I', rfl, q'⟩
end
/-! zip of a list with a tuple. -/
theorem isTuple_push {h : Heap} {b : Addr} {vs : Array Value} (hb : h.IsTuple b vs) (o : Obj) : (h.push o).IsTuple b vs := by
  obtain ⟨x, e, r⟩ := hb
  exact ⟨x, Heap.get?_push_of_some _ e, r⟩
section
variable {prog : Program} {w : World} {A : Around} {E : Value → Shared → Prop} {s : Shared}
/-- zip's state: the tuple's iterator first, then the list's -/
structure ZipSu (h : Heap) (z TI TO ia ib la lb : Addr) (n : Nat) : Prop where
  zip : IsZip h z TI TO .none
  its : IsPair h TI (.ref ia) (.ref ib)
  out : ∃ p q, IsPair h TO p q
  fst : h.IsListIter ia la n
  snd : h.IsTupleIter ib lb n
/-- what a turn may change -/
abbrev ZipKeepU (h h2 : Heap) (z TO ia ib : Addr) : Prop := ∀ a o, a ≠ z → a ≠ TO → a ≠ ia → a ≠ ib → h.get? a = some o → h2.get? a = some o
theorem ZipSu.lt {h : Heap} {z TI TO ia ib la lb : Addr} {n : Nat} (S : ZipSu h z TI TO ia ib la lb n) {c : Addr} (hc : c ∈ [z, TI, TO, ia, ib]) : ∃ o, h.get? c = some o ∧ ∀ v, o.data ≠ .cell v := by
  obtain ⟨p, q, ho⟩ := S.out
  obtain ⟨o1, e1, _, d1⟩ := S.fst
  obtain ⟨o2, e2, _, d2⟩ := S.snd
  simp only [List.mem_cons, List.not_mem_nil, or_false] at hc
  rcases hc with rfl | rfl | rfl | rfl | rfl
  · exact ⟨_, S.zip, nofun⟩
  · exact ⟨_, S.its, nofun⟩
  · exact ⟨_, ho, nofun⟩
  · exact ⟨_, e1, by rw [d1]; nofun⟩
  · exact ⟨_, e2, by rw [d2]; nofun⟩
theorem zipU_step {z TI TO ia ib la lb : Addr} {n : Nat} {us vs : Array Value} {u v : Value} {Q : Value → Shared → Prop} (D : ZipApart z TI TO ia ib la lb) (S : ZipSu s.heap z TI TO ia ib la lb n)
    (ha : s.heap.IsList la us) (hb : s.heap.IsTuple lb vs) (hu : us[n]? = some u) (hv : vs[n]? = some v)
    (q : ∀ h2, IsZip h2 z TI TO (rawInt s.heap.objs.size) → IsPair h2 TO u v → h2.IsListIter ia la (n + 1) → h2.IsTupleIter ib lb (n + 1) → IsPair h2 s.heap.objs.size u v →
      ZipKeepU s.heap h2 z TO ia ib → Q (.ref s.heap.objs.size) { s with heap := h2 }) :
    wpAny (model prog w) A (Builtin.«zip.__next__» ⟨[.ref z], []⟩) (fun fin t => ∃ r, fin = .done (.ret r) ∧ Q r t) E s := by
  obtain ⟨p0, q0, hO⟩ := S.out
  show wpAny _ _ (field (.ref z) 2 >>= _) _ _ _
  apply wpAny_bind
  refine wpAny_field S.zip rfl (x := .bool false) rfl ?_
  show wpAny _ _ (field (.ref z) 3 >>= _) _ _ _
  apply wpAny_bind
  refine wpAny_field S.zip rfl (x := .ref TI) rfl ?_
  apply wpAny_bind
  refine wpAny_seqItems S.its rfl ?_
  show wpAny _ _ (Builtin.SmallTypes.ownedTupleIsFree (.ref z) >>= _) _ _ _
  apply wpAny_bind
  unfold Builtin.SmallTypes.ownedTupleIsFree
  apply wpAny_bind
  refine wpAny_field S.zip rfl (x := .none) rfl (wpAny_pure ?_)
  simp only [if_true]
  apply wpAny_bind
  apply wpAny_rule
  apply wpAny_bind
  refine wpAny_field S.zip rfl (x := .ref TO) rfl ?_
  apply wpAny_bind
  apply wpAny_setField_rec S.zip (by simp)
  intro h1 Z1 b1
  have Z1 : IsZip h1 z TI TO .ellipsis := Z1
  apply wpAny_bind
  simp only [List.zipIdx_cons, List.zipIdx_nil, List.forIn_cons, List.forIn_nil]
  apply wpAny_bind
  apply wpAny_bind
  apply wpAny_onRaise
  show wpAny _ _ (Builtin.SmallTypes.nextOf (.ref ia) >>= _) _ _ _
  apply wpAny_bind
  refine wpAny_nextOf_list_item (S.fst.extBut b1.extBut D.i1z) (ha.extBut b1.extBut D.l1z) hu ?_
  intro h2 i2 b2
  apply wpAny_pure
  have O2 : IsPair h2 TO p0 q0 := b2.extBut _ _ D.TOi1 (b1.extBut _ _ D.TOz hO)
  apply wpAny_bind
  refine wpAny_seqItems O2 rfl ?_
  apply wpAny_bind
  apply wpAny_updateSeq_pair O2
  intro h3 O3 b3
  have O3 : IsPair h3 TO u q0 := O3
  apply wpAny_bind
  apply wpAny_letGo
  apply wpAny_pure
  apply wpAny_bind
  apply wpAny_bind
  apply wpAny_onRaise
  show wpAny _ _ (Builtin.SmallTypes.nextOf (.ref ib) >>= _) _ _ _
  apply wpAny_bind
  have jb : h3.IsTupleIter ib lb n := ((S.snd.extBut b1.extBut D.i2z).extBut b2.extBut D.i12.symm).extBut b3.extBut D.TOi2.symm
  have lb3 : h3.IsTuple lb vs := ((hb.extBut b1.extBut D.l2z).extBut b2.extBut D.l2i1).extBut b3.extBut D.l2TO
  refine RZ.nextOf_tuple_item jb lb3 hv ?_
  intro h4 j4 b4
  apply wpAny_pure
  have O4 : IsPair h4 TO u q0 := b4.extBut _ _ D.TOi2 O3
  apply wpAny_bind
  refine wpAny_seqItems O4 rfl ?_
  apply wpAny_bind
  apply wpAny_updateSeq_pair O4
  intro h5 O5 b5
  have O5 : IsPair h5 TO u v := O5
  apply wpAny_bind
  apply wpAny_letGo
  apply wpAny_pure
  apply wpAny_pure
  apply wpAny_bind
  refine wpAny_seqItems O5 rfl ?_
  apply wpAny_bind
  refine wpAny_newTuple ?_
  have sz : h5.objs.size = s.heap.objs.size := b5.1.trans (b4.1.trans (b3.1.trans (b2.1.trans b1.1)))
  have Z5 : IsZip h5 z TI TO .ellipsis := b5.extBut _ _ D.TOz.symm (b4.extBut _ _ D.i2z.symm (b3.extBut _ _ D.TOz.symm (b2.extBut _ _ D.i1z.symm Z1)))
  have K5 : ZipKeepU s.heap h5 z TO ia ib := fun a o n1 n2 n3 n4 e => b5.extBut _ _ n2 (b4.extBut _ _ n4 (b3.extBut _ _ n2 (b2.extBut _ _ n3 (b1.extBut _ _ n1 e))))
  have ia5 : h5.IsListIter ia la (n + 1) := ((i2.extBut b3.extBut D.TOi1.symm).extBut b4.extBut D.i12).extBut b5.extBut D.TOi1.symm
  have ib5 : h5.IsTupleIter ib lb (n + 1) := j4.extBut b5.extBut D.TOi2.symm
  have zlt : z < h5.objs.size := Heap.lt_size Z5
  show wpAny _ _ (Builtin.SmallTypes.ownedTupleHandOut (.ref z) (.ref h5.objs.size) >>= _) _ _ _
  apply wpAny_bind
  unfold Builtin.SmallTypes.ownedTupleHandOut
  have Z6 : IsZip (h5.push { cls := .type "tuple", data := .seq #[u, v] }) z TI TO .ellipsis := Heap.get?_push_of_some _ Z5
  apply wpAny_bind
  apply wpAny_setField_rec Z6 (by simp)
  intro h7 Z7 b7
  have Z7 : IsZip h7 z TI TO (rawInt h5.objs.size) := Z7
  apply wpAny_setField_rec Z7 (by simp)
  intro h8 Z8 b8
  have Z8 : IsZip h8 z TI TO (rawInt h5.objs.size) := Z8
  have up : ∀ a o, a ≠ z → h5.get? a = some o → h8.get? a = some o := fun a o ne e => b8.extBut _ _ ne (b7.extBut _ _ ne (Heap.get?_push_of_some _ e))
  have zn : h5.objs.size ≠ z := Nat.ne_of_gt zlt
  have T8 : IsPair h8 h5.objs.size u v := b8.extBut _ _ zn (b7.extBut _ _ zn (Heap.get?_push_size _ rfl))
  rw [sz] at Z8 T8
  refine wpAny_pure ⟨_, rfl, ?_⟩
  show Q (.ref h5.objs.size) _
  rw [sz]
  exact q h8 Z8 (up _ _ D.TOz O5) (ia5.at fun o e => up _ o D.i1z e) (ib5.at fun o e => up _ o D.i2z e) T8 fun a o n1 n2 n3 n4 e => up a o n1 (K5 a o n1 n2 n3 n4 e)
theorem zipU_stop {z TI TO ia ib la lb : Addr} {n : Nat} {us vs : Array Value} {Q : Fin → Shared → Prop} (free : A.handled = none) (D : ZipApart z TI TO ia ib la lb) (S : ZipSu s.heap z TI TO ia ib la lb n)
    (ha : s.heap.IsList la us) (hb : s.heap.IsTuple lb vs) (over : us[n]? = none ∨ vs[n]? = none)
    (q : ∀ h2 e, ZipKeepU s.heap h2 z TO ia ib → (∃ o, h2.get? e = some o ∧ o.cls = .type "StopIteration") → E (.ref e) { s with heap := h2 }) :
    wpAny (model prog w) A (Builtin.«zip.__next__» ⟨[.ref z], []⟩) Q E s := by
  obtain ⟨p0, q0, hO⟩ := S.out
  show wpAny _ _ (field (.ref z) 2 >>= _) _ _ _
  apply wpAny_bind
  refine wpAny_field S.zip rfl (x := .bool false) rfl ?_
  show wpAny _ _ (field (.ref z) 3 >>= _) _ _ _
  apply wpAny_bind
  refine wpAny_field S.zip rfl (x := .ref TI) rfl ?_
  apply wpAny_bind
  refine wpAny_seqItems S.its rfl ?_
  show wpAny _ _ (Builtin.SmallTypes.ownedTupleIsFree (.ref z) >>= _) _ _ _
  apply wpAny_bind
  unfold Builtin.SmallTypes.ownedTupleIsFree
  apply wpAny_bind
  refine wpAny_field S.zip rfl (x := .none) rfl (wpAny_pure ?_)
  simp only [if_true]
  apply wpAny_bind
  apply wpAny_rule
  apply wpAny_bind
  refine wpAny_field S.zip rfl (x := .ref TO) rfl ?_
  apply wpAny_bind
  apply wpAny_setField_rec S.zip (by simp)
  intro h1 Z1 b1
  have Z1 : IsZip h1 z TI TO .ellipsis := Z1
  apply wpAny_bind
  simp only [List.zipIdx_cons, List.zipIdx_nil, List.forIn_cons, List.forIn_nil]
  apply wpAny_bind
  apply wpAny_bind
  apply wpAny_onRaise
  show wpAny _ _ (Builtin.SmallTypes.nextOf (.ref ia) >>= _) _ _ _
  apply wpAny_bind
  rcases hx : us[n]? with _ | u
  · refine wpAny_nextOf_list_end free (S.fst.extBut b1.extBut D.i1z) (ha.extBut b1.extBut D.l1z) hx ?_
    rintro h2 e b2 ⟨oe, he, hc⟩
    have Z2 : IsZip h2 z TI TO .ellipsis := b2 _ _ D.i1z.symm Z1
    have ez : e ≠ z := by rintro rfl; rw [Z2] at he; cases he; simp at hc
    apply wpAny_setField_rec Z2 (by simp)
    intro h3 _ b3
    exact q h3 e (fun a o n1 _ n3 _ x => b3.extBut _ _ n1 (b2 _ _ n3 (b1.extBut _ _ n1 x))) ⟨oe, b3.extBut _ _ ez he, hc⟩
  · have hy : vs[n]? = none := over.resolve_left (by rw [hx]; simp)
    refine wpAny_nextOf_list_item (S.fst.extBut b1.extBut D.i1z) (ha.extBut b1.extBut D.l1z) hx ?_
    intro h2 i2 b2
    apply wpAny_pure
    have O2 : IsPair h2 TO p0 q0 := b2.extBut _ _ D.TOi1 (b1.extBut _ _ D.TOz hO)
    apply wpAny_bind
    refine wpAny_seqItems O2 rfl ?_
    apply wpAny_bind
    apply wpAny_updateSeq_pair O2
    intro h3 _ b3
    apply wpAny_bind
    apply wpAny_letGo
    apply wpAny_pure
    apply wpAny_bind
    apply wpAny_bind
    apply wpAny_onRaise
    show wpAny _ _ (Builtin.SmallTypes.nextOf (.ref ib) >>= _) _ _ _
    apply wpAny_bind
    have jb : h3.IsTupleIter ib lb n := ((S.snd.extBut b1.extBut D.i2z).extBut b2.extBut D.i12.symm).extBut b3.extBut D.TOi2.symm
    have lb3 : h3.IsTuple lb vs := ((hb.extBut b1.extBut D.l2z).extBut b2.extBut D.l2i1).extBut b3.extBut D.l2TO
    refine RZ.nextOf_tuple_end free jb lb3 hy ?_
    rintro h4 e b4 ⟨oe, he, hc⟩
    have Z4 : IsZip h4 z TI TO .ellipsis := b4 _ _ D.i2z.symm (b3.extBut _ _ D.TOz.symm (b2.extBut _ _ D.i1z.symm Z1))
    have ez : e ≠ z := by rintro rfl; rw [Z4] at he; cases he; simp at hc
    apply wpAny_setField_rec Z4 (by simp)
    intro h5 _ b5
    exact q h5 e (fun a o n1 n2 n3 n4 x => b5.extBut _ _ n1 (b4 _ _ n4 (b3.extBut _ _ n2 (b2.extBut _ _ n3 (b1.extBut _ _ n1 x))))) ⟨oe, b5.extBut _ _ ez he, hc⟩
theorem nextU_step {z TI TO ia ib la lb : Addr} {n : Nat} {us vs : Array Value} {u v : Value} {Q : Option Value → Shared → Prop} (D : ZipApart z TI TO ia ib la lb) (S : ZipSu s.heap z TI TO ia ib la lb n)
    (ha : s.heap.IsList la us) (hb : s.heap.IsTuple lb vs) (hu : us[n]? = some u) (hv : vs[n]? = some v)
    (q : ∀ h2, IsZip h2 z TI TO (rawInt s.heap.objs.size) → IsPair h2 TO u v → h2.IsListIter ia la (n + 1) → h2.IsTupleIter ib lb (n + 1) → IsPair h2 s.heap.objs.size u v →
      ZipKeepU s.heap h2 z TO ia ib → Q (some (.ref s.heap.objs.size)) { s with heap := h2 }) : wpAny (model prog w) A (pyNext (.ref z)) Q E s := by
  unfold pyNext
  have ty : s.TypeIs (.ref z) "zip" := ⟨_, S.zip, rfl⟩
  refine wpAny_bind (wpAny_attempt (wpAny_callSpecial?_slot (name := Str.ofString "__next__") ty F.slot_zip_next (wpAny_call_entry F.slot_zip_next ty F.entry_zip_next ?_ (F.args_zip_next_1 _))))
  exact zipU_step D S ha hb hu hv fun h2 c1 c2 c3 c4 c5 c6 => wpAny_pure (q h2 c1 c2 c3 c4 c5 c6)
theorem nextU_stop {z TI TO ia ib la lb : Addr} {n : Nat} {us vs : Array Value} {Q : Option Value → Shared → Prop} (free : A.handled = none) (D : ZipApart z TI TO ia ib la lb) (S : ZipSu s.heap z TI TO ia ib la lb n)
    (ha : s.heap.IsList la us) (hb : s.heap.IsTuple lb vs) (over : us[n]? = none ∨ vs[n]? = none)
    (q : ∀ h2, ZipKeepU s.heap h2 z TO ia ib → Q none { s with heap := h2 }) : wpAny (model prog w) A (pyNext (.ref z)) Q E s := by
  unfold pyNext
  have ty : s.TypeIs (.ref z) "zip" := ⟨_, S.zip, rfl⟩
  refine wpAny_bind (wpAny_attempt (wpAny_callSpecial?_slot (name := Str.ofString "__next__") ty F.slot_zip_next (wpAny_call_entry F.slot_zip_next ty F.entry_zip_next ?_ (F.args_zip_next_1 _))))
  refine zipU_stop free D S ha hb over ?_
  rintro h2 e k ⟨o, ho, hc⟩
  apply wpAny_bind
  refine wpAny_isInstance (T := "StopIteration") (b := true) ⟨o, ho, hc⟩ isSubtype_stop ?_
  exact wpAny_pure (q _ k)
end
/-! making one -/
abbrev mu1 (h : Heap) (a : Addr) : Heap := h.push { cls := .type "list_iterator", data := .fields #[.ref a, .int 0 0] }
abbrev mu2 (h : Heap) (a b : Addr) : Heap := (mu1 h a).push { cls := .type "tuple_iterator", data := .fields #[.ref b, .int 0 0] }
abbrev mu3 (h : Heap) (a b : Addr) : Heap := (mu2 h a b).push { cls := .type "tuple", data := .seq #[.ref h.objs.size, .ref (mu1 h a).objs.size] }
abbrev mu4 (h : Heap) (a b : Addr) : Heap := (mu3 h a b).push { cls := .type "tuple", data := .seq #[.none, .none] }
abbrev mu5 (h : Heap) (a b : Addr) : Heap := (mu4 h a b).push { cls := .type "zip", data := .fields #[.none, .bool false, .bool false, .ref (mu2 h a b).objs.size, .ref (mu3 h a b).objs.size] }
theorem meets_mkU (a b : Addr) (us vs : Array Value) : Meets (Builtin.«zip.__new__» ⟨[.type "zip", .ref a, .ref b], []⟩)
    (fun _ R s => s.heap.IsList a us ∧ s.heap.IsTuple b vs ∧ R (.ok (.ret (.ref (mu4 s.heap a b).objs.size))) { s with heap := mu5 s.heap a b }) :=
  .of_wp fun prog w A R s h => by
    obtain ⟨hp, g, d, tk, os⟩ := s
    obtain ⟨ha, hb, h⟩ := h
    have sz := sub_zip
    have La : Heap.IsList (Shared.heap ⟨hp, g, d, tk, os⟩) a us := ha
    have Lb : Heap.IsTuple (Shared.heap ⟨hp.push { cls := .type "list_iterator", data := .fields #[.ref a, .int 0 0] }, g, d, tk, os⟩) b vs := isTuple_push hb _
    wp_walk using wpAny_pyIter_list La, wpAny_pyIter_tuple Lb
    exact ⟨_, rfl, h⟩
theorem mk_allU (h : Heap) (a b : Addr) : ZipSu (mu5 h a b) (h.objs.size + 4) (h.objs.size + 2) (h.objs.size + 3) h.objs.size (h.objs.size + 1) a b 0 ∧ (∀ c o, h.get? c = some o → (mu5 h a b).get? c = some o) ∧ (mu4 h a b).objs.size = h.objs.size + 4 := by
  have n1 : (mu1 h a).objs.size = h.objs.size + 1 := Heap.size_push ..
  have n2 : (mu2 h a b).objs.size = h.objs.size + 2 := by rw [Heap.size_push, n1]
  have n3 : (mu3 h a b).objs.size = h.objs.size + 3 := by rw [Heap.size_push, n2]
  have n4 : (mu4 h a b).objs.size = h.objs.size + 4 := by rw [Heap.size_push, n3]
  have up : ∀ {g : Heap} {x : Obj} {c : Addr} {o : Obj}, g.get? c = some o → (g.push x).get? c = some o := fun e => Heap.get?_push_of_some _ e
  have e1 : (mu5 h a b).get? h.objs.size = some _ := up (up (up (up (Heap.get?_push_size _ rfl))))
  have e2 : (mu5 h a b).get? (mu1 h a).objs.size = some _ := up (up (up (Heap.get?_push_size _ rfl)))
  have e3 : (mu5 h a b).get? (mu2 h a b).objs.size = some _ := up (up (Heap.get?_push_size _ rfl))
  have e4 : (mu5 h a b).get? (mu3 h a b).objs.size = some _ := up (Heap.get?_push_size _ rfl)
  have e5 : (mu5 h a b).get? (mu4 h a b).objs.size = some _ := Heap.get?_push_size _ rfl
  rw [n2, n3, n4] at e5
  rw [n3] at e4
  rw [n2, n1] at e3
  rw [n1] at e2
  exact ⟨⟨e5, e3, ⟨_, _, e4⟩, ⟨_, e1, rfl, rfl⟩, ⟨_, e2, rfl, rfl⟩⟩, fun c o x => up (up (up (up (up x)))), n4⟩
theorem run_zipU {prog : Program} {w : World} {A : Around} {E : Value → Shared → Prop} {s : Shared} {a b : Addr} {us vs : Array Value} {Q : Value → Shared → Prop} (ha : s.heap.IsList a us) (hb : s.heap.IsTuple b vs)
    (h : ∀ h2, ZipSu h2 (s.heap.objs.size + 4) (s.heap.objs.size + 2) (s.heap.objs.size + 3) s.heap.objs.size (s.heap.objs.size + 1) a b 0 → (∀ c o, s.heap.get? c = some o → h2.get? c = some o) → Q (.ref (s.heap.objs.size + 4)) { s with heap := h2 }) :
    wpAny (model prog w) A (call (.type "zip") [.ref a, .ref b]) Q E s := by
  refine callType_new F.called_zip (by decide) (F.typeCall_zip_2 _ _) (F.newCall_zip_2 _ _) (fun o => F.args_object_init_3 o _ _) F.entry_zip_new (meets_mkU a b us vs) ⟨ha, hb, ?_⟩
  obtain ⟨S, k, n4⟩ := mk_allU s.heap a b
  show _ ∧ _
  rw [n4]
  exact ⟨⟨_, S.zip, rfl⟩, h _ S k⟩
/-! as an iteration -/
def ItU (K : PySem.W.Frag) (a b : Addr) : It :=
  ⟨fun i H => ∃ (us vs : List V) (u v : V), SqL K H a us ∧ SqT K H b vs ∧ us[i]? = some u ∧ vs[i]? = some v,
   fun i H r H2 => ∃ t u v, r = .ref t ∧ H t = none ∧ H2 = upd H t (.tup [u, v]) ∧ (∀ us, SqL K H a us → us[i]? = some u) ∧ ∀ vs, SqT K H b vs → vs[i]? = some v,
   fun i H => ∃ us vs : List V, SqL K H a us ∧ SqT K H b vs ∧ (us.length ≤ i ∨ vs.length ≤ i)⟩
theorem turnU {P : Program} {w : World} {K : PySem.W.Frag} {es : List Expr} {k : Nat} {p : Pos} {a b z TI TO ia ib : Addr} (D : ZipApart z TI TO ia ib a b) :
    Turn P w K (.Tuple es k p) (ItU K a b) [z, TI, TO, ia, ib] z (fun i h => ZipSu h z TI TO ia ib a b i) where
  mem := by simp
  obj := fun i h st c hc => st.lt hc
  keep := fun i h h2 st k => by
    obtain ⟨x, y, ho⟩ := st.out
    exact ⟨k z (by simp) _ st.zip, k TI (by simp) _ st.its, ⟨x, y, k TO (by simp) _ ho⟩, st.fst.at fun o e => k ia (by simp) o e, st.snd.at fun o e => k ib (by simp) o e⟩
  item := by
    rintro X rfl rfl rfl calm i pins s σ H E I free st ⟨us, vs, u, v, ea, eb, eu, ev⟩
    obtain ⟨as, ra, pa, _⟩ := I.list ea
    obtain ⟨bs, rb, pb, _⟩ := I.tuple eb
    obtain ⟨u2, hu, ru⟩ := ra.get eu
    obtain ⟨v2, hv, rv⟩ := rb.get ev
    obtain ⟨x0, y0, hO⟩ := st.out
    have zlt : z < s.heap.objs.size := Heap.lt_size st.zip
    refine nextU_step D st pa.isList (show s.heap.IsTuple b bs.toArray from pb) (u := u2) (v := v2) (by simpa using hu) (by simpa using hv) ?_
    intro h2 Z2 O2 c1 c2 T2 keep
    refine ⟨_, rfl, ?_⟩
    apply wpAny_letOwnedTupleGo_zip (s := { s with heap := h2 }) Z2
    intro h3 Z3 sb
    have T3 : h3.get? s.heap.objs.size = some { cls := .type "tuple", data := .seq #[u2, v2] } := (sb.2 _ (Nat.ne_of_gt zlt)).trans T2
    have I1 : Inv X pins σ (upd H s.heap.objs.size (.tup [u, v])) { s with heap := h3 } := by
      refine I.turnedNew (t' := s.toks) (ch := [z, TI, TO, ia, ib]) ?_ free (Nat.le_refl _) ⟨by show 2 ≤ sizeLine; decide, [u2, v2], .cons ru (.cons rv .nil), ⟨_, T3, rfl, _, rfl⟩⟩
      intro c o hc e
      simp only [List.mem_cons, List.not_mem_nil, or_false, not_or] at hc
      exact (sb.2 c hc.1).trans (keep c o hc.1 hc.2.2.1 hc.2.2.2.1 hc.2.2.2.2 e)
    refine ⟨.ref s.heap.objs.size, _, I1, rfl, ⟨_, u, v, rfl, I.hok.fresh (Nat.le_refl _), rfl, ?_, ?_⟩, ⟨Z3, ?_, ⟨u2, v2, ?_⟩, ?_, ?_⟩, ?_⟩
    · intro l hl; rw [I.list_inj hl ea]; exact eu
    · intro l hl; rw [I.tuple_inj hl eb]; exact ev
    · exact (sb.2 _ D.TIz).trans (keep _ _ D.TIz D.TITO D.TIi1 D.TIi2 st.its)
    · exact (sb.2 _ D.TOz).trans O2
    · exact c1.at fun o e => (sb.2 _ D.i1z).trans e
    · exact c2.at fun o e => (sb.2 _ D.i2z).trans e
    · intro c hc
      obtain ⟨o, e, _⟩ := st.lt hc
      rw [upd_ne (Nat.ne_of_lt (Heap.lt_size e))]
      exact (free c hc).1
  done := by
    rintro X rfl rfl rfl calm i pins s σ H E I free st ⟨us, vs, ea, eb, over⟩
    obtain ⟨as, ra, pa, _⟩ := I.list ea
    obtain ⟨bs, rb, pb, _⟩ := I.tuple eb
    have n1 := ra.length
    have n2 := rb.length
    refine nextU_stop (I.ok.hd calm) D st pa.isList (show s.heap.IsTuple b bs.toArray from pb) ?_ ?_
    · rcases over with h | h
      · left; simp; omega
      · right; simp; omega
    · intro h2 keep
      refine ⟨rfl, I.turnedL (t' := s.toks) (ch := [z, TI, TO, ia, ib]) ?_ free⟩
      intro c o hc e
      simp only [List.mem_cons, List.not_mem_nil, or_false, not_or] at hc
      exact keep c o hc.1 hc.2.2.1 hc.2.2.2.1 hc.2.2.2.2 e
  self := fun A i s Q E st h => wpAny_pyIter_zip st.zip h
def iZipU (K : PySem.W.Frag) (ta : TA) : TI := fun σ H R => ta σ H fun vs H1 => ∃ a b us ws, vs = [.ref a, .ref b] ∧ SqL K H1 a us ∧ SqT K H1 b ws ∧ R (ItU K a b) H1
theorem pi_zipU {X : Cx} {e f : Expr} {ta : TA} {p pos tp : Pos} {es : List Expr} {k : Nat} (hg : Gl X "zip") (hm : X.mg "zip" = none) (ha : PA X [e, f] ta)
    (hs : starEach [e, f] X.env = (false, eval e X.env) :: starEach [f] X.env := by rfl) (hp : (backTo pos (starEach [f] X.env)).any (·.1) = false := by rfl) :
    PI X (.Tuple es k tp) (.Call (.Name "zip" p) [e, f] [] pos) (iZipU X.K ta) := by
  constructor
  intro pins s σ H R I h
  refine Call_ (ld_blt I hg hm PyProof.Rows.boot_zip (PyProof.Rows.callWith_type1 (thn (ha.run pos pins s σ H _ I h) ?_) hs hp))
  rintro us s1 ⟨vs, H1, I1, r1, a, b, xs, ys, rfl, ea, eb, q⟩
  obtain ⟨x1, x2, rfl, rx, ry⟩ := Vals.two r1
  cases (show x1 = Value.ref a from rx)
  cases (show x2 = Value.ref b from ry)
  obtain ⟨as, ra, pa, _⟩ := I1.list ea
  obtain ⟨bs, rb, pb, _⟩ := I1.tuple eb
  obtain ⟨o2, ho2, _⟩ := id pb
  refine run_zipU pa.isList (show s1.heap.IsTuple b bs.toArray from pb) ?_
  intro h2 S k
  apply wpAny_pyIter_zip S.zip
  refine ⟨s1.heap.objs.size + 4, [s1.heap.objs.size + 4, s1.heap.objs.size + 2, s1.heap.objs.size + 3, s1.heap.objs.size, s1.heap.objs.size + 1], _, _, H1, rfl, I1.kept (t' := s1.toks) k, turnU (PySem.W.ktu_apart s1.heap.objs.size a b pa.lt (Heap.lt_size ho2)), S, ?_, q⟩
  intro c hc
  have le : s1.heap.objs.size ≤ c := by
    simp only [List.mem_cons, List.not_mem_nil, or_false] at hc
    rcases hc with h | h | h | h | h <;> (rw [h]; first | exact Nat.le_refl _ | exact Nat.le_add_right _ _)
  exact I1.fpOk le (I1.hok.fresh le)
theorem for_zipU {K : PySem.W.Frag} {a b : Addr} {us vs : List V} {g : TG} {tb : TS} {D : Ends} {σ : L2.St} {H : Hp} (same : us.length = vs.length) (Pv : Nat → L2.St → Hp → Prop) (h0 : Pv 0 σ H) (hq : ∀ i σ H, Pv i σ H → SqL K H a us ∧ SqT K H b vs)
    (hs : ∀ (i : Nat) (u v : V) (t : Addr) (σ : L2.St) (H : Hp), us[i]? = some u → vs[i]? = some v → Pv i σ H → H t = none → g (.ref t) σ (upd H t (.tup [u, v])) fun τ H2 => tb { D with nx := Pv (i + 1), ct := Pv (i + 1), bk := D.nx } τ H2) (hd : ∀ σ H, Pv us.length σ H → D.nx σ H) :
    ∃ W : Nat → Nat → L2.St → Hp → Prop, (∃ m, W 0 m σ H) ∧ ∀ i m σ H, W i m σ H →
      ((ItU K a b).stop i H ∧ D.nx σ H) ∨ ((ItU K a b).go i H ∧ ∃ N : L2.St → Hp → Prop, (∀ τ H2, N τ H2 → ∃ m2, m2 < m ∧ W (i + 1) m2 τ H2) ∧ ∀ r H2, (ItU K a b).yld i H r H2 → g r σ H2 fun τ H3 => tb { D with nx := N, ct := N, bk := D.nx } τ H3) := by
  refine ⟨fun i m σ H => m = us.length - i ∧ i ≤ us.length ∧ Pv i σ H, ⟨_, rfl, Nat.zero_le _, h0⟩, ?_⟩
  rintro i m σ H ⟨rfl, le, p⟩
  obtain ⟨qa, qb⟩ := hq i σ H p
  by_cases lt : i < us.length
  · have lt2 : i < vs.length := same ▸ lt
    refine .inr ⟨⟨us, vs, us[i], vs[i], qa, qb, List.getElem?_eq_getElem lt, List.getElem?_eq_getElem lt2⟩, Pv (i + 1), fun τ H2 p2 => ⟨us.length - (i + 1), by omega, rfl, lt, p2⟩, ?_⟩
    rintro _ _ ⟨t, u, v, rfl, ht, rfl, eu, ev⟩
    exact hs i u v t σ H (eu us qa) (ev vs qb) p ht
  · have e : i = us.length := by omega
    subst e
    exact .inl ⟨⟨us, vs, qa, qb, .inl (Nat.le_refl _)⟩, hd σ H p⟩
section
variable {K : PySem.W.Frag} {H : Hp} {Q : VK} {σ : L2.St}
theorem x_zU {ta : TA} {R : It → Hp → Prop} (h : ta σ H fun vs H1 => ∃ a b us ws, vs = [.ref a, .ref b] ∧ SqL K H1 a us ∧ SqT K H1 b ws ∧ R (ItU K a b) H1) : iZipU K ta σ H R := h
theorem x_zUAt {p q : Addr} {us ws : List V} {Z : Addr → Addr → Prop} (hp : SqL K H p us) (hq : SqT K H q ws) (h : Z p q) : ∃ a b us ws, [V.ref p, .ref q] = [.ref a, .ref b] ∧ SqL K H a us ∧ SqT K H b ws ∧ Z a b := ⟨p, q, us, ws, rfl, hp, hq, h⟩
end
/-! len(set(a list of ints)). -/
/-- how many different ones -/
def lenSet (ns : List Int) : Nat := (PyProof.Rows.firstMet (fun i => ns.getD i 0) ns.length).length
def tLenSet (K : PySem.W.Frag) (t : TA) : TE := fun σ H Q => t σ H fun vs H1 => ∃ (a : Addr) (ns : List Int), vs = [.ref a] ∧ SqL K H1 a (ns.map V.int) ∧ ns.length ≤ 1000 ∧ Q (.int (lenSet ns : Nat)) H1
section
variable {X : Cx} {e : Expr} {ta : TA} {p p2 pos pos2 : Pos}
theorem pe_lenSet (hc : X.calm = true) (hgl : Gl X "len") (hml : X.mg "len" = none) (hgs : Gl X "set") (hms : X.mg "set" = none) (ha : PA X [e] ta)
    (hs : starEach [.Call (.Name "set" p2) [e] [] pos2] X.env = [(false, eval (.Call (.Name "set" p2) [e] [] pos2) X.env)] := by rfl) (hs2 : starEach [e] X.env = [(false, eval e X.env)] := by rfl) :
    PE X (.Call (.Name "len" p) [.Call (.Name "set" p2) [e] [] pos2] [] pos) (tLenSet X.K ta) := by
  refine ⟨fun pins s σ H Q I h => ?_⟩
  refine wpAny_Call_Name_kw (ld_blt I hgl hml (show bootBuiltins "len" = some (.builtin "len") by decide +kernel) ?_ (by decide) (by decide))
  refine PyProof.Rows.callWith_builtin1 ?_ hs rfl
  rw [hs]
  show wpAny _ _ (spliced ((false, eval _ X.env) :: [])) _ _ s
  have inner : wpAny (model X.prog X.w) X.A (eval (.Call (.Name "set" p2) [e] [] pos2) X.env) (fun v s1 => ∃ (a : Addr) (ns : List Int) (H1 : Hp), v = .ref a ∧ Inv X pins σ H1 s1 ∧ ns.length ≤ 1000 ∧ Q (.int (lenSet ns : Nat)) H1 ∧ s1.heap.SetOf (intKind X.prog X.w) a (fun k' => (PyProof.Rows.firstMet (fun i => ns.getD i 0) ns.length).any (· == k')) (lenSet ns)) X.xe s := by
    refine Call_ (ld_blt I hgs hms PyProof.Rows.boot_set (PyProof.Rows.callWith_type1 (thn (ha.run pos2 pins s σ H _ I h) fun us s1 ⟨vs, H1, I1, r1, q1⟩ => ?_) hs2 rfl))
    obtain ⟨a, ns, e1, hq, hl, q⟩ := q1
    subst e1
    cases r1 with
    | cons r rr =>
      cases rr
      cases r
      obtain ⟨its, rv, pl, hz⟩ := I1.list hq
      have hn : its.length = ns.length := by have := rv.length; simpa using this.symm
      have hi : IntsAre its.toArray.toList ns := ints_of_vals rv
      refine call_set_list (I1.ok.hd hc) pl.isList hi (by rw [List.size_toArray, hn]; unfold scanBound; omega) fun h' tk S k => ?_
      have hn2 : its.toArray.size = ns.length := by rw [List.size_toArray]; exact hn
      rw [hn2] at S
      exact ⟨_, ns, H1, rfl, I1.kept fun b o e => k b o (Heap.lt_size e) e, hl, q, S⟩
  refine Calls.spliced_cons (thn inner ?_)
  rintro u s1 ⟨a, ns, H1, rfl, I1, hl, q, o, es, ep, t, ho, hex, hd, _, _, hb, hf, hz⟩
  refine Calls.spliced_nil ?_
  have hb2 : es.size < 2 ^ 63 := by rw [hz]; have : (lenSet ns) ≤ ns.length := PyProof.Rows.firstMet_length_le _ _; omega
  refine call_len_set ho hex hd hf (by omega) ?_
  rw [hz]
  exact ⟨.int (lenSet ns : Nat), H1, I1.tok _, ⟨_, rfl⟩, q⟩
theorem x_lenSet {K : PySem.W.Frag} {H : Hp} {Q : VK} {σ : L2.St} {t : TA} (h : t σ H fun vs H1 => ∃ (a : Addr) (ns : List Int), vs = [.ref a] ∧ SqL K H1 a (ns.map V.int) ∧ ns.length ≤ 1000 ∧ Q (.int (lenSet ns : Nat)) H1) : tLenSet K t σ H Q := h
end
/-! A dict comprehension that is stored; membership; loops with a measure. -/
section
variable {X : Cx}
theorem ps_setDc {i : Nat} {y : Str} {py : Pos} {kx vx tg iter : Expr} {ifs : List Expr} {scope : Scope} {own : List (Str × Nat)} {pos spos : Pos} {wi : TI} {g : TG} {tt : TT} {tk tv : TE} (hc : X.calm = true) (hN : X.N.Nodup) (hy : X.N[i]? = some y) (hyl : X.env.scope.names.lookup y = some .local)
    (hsw : swapsWith (.DictComp kx vx [⟨tg, iter, ifs, 0⟩] scope pos) (some (.Name y py)) spos.line X.env = pure true) (hi : PI X tg iter wi) (ok : BlkOk X.N X.env.scope scope own)
    (hg : ∀ (s : Shared) (H : Hp) (C : Addr) (cl : List (Str × Addr)) (fp : List Addr), PG (X.blk s H scope (compEnvC scope cl C X.env) fp) tg g) (ht : ∀ (s : Shared) (H : Hp) (C : Addr) (cl : List (Str × Addr)) (fp : List Addr), PTs (X.blk s H scope (compEnvC scope cl C X.env) fp) ifs tt)
    (hk : ∀ (s : Shared) (H : Hp) (C : Addr) (cl : List (Str × Addr)) (fp : List Addr), PE (X.blk s H scope (compEnvC scope cl C X.env) fp) kx tk)
    (he : ∀ (s : Shared) (H : Hp) (C : Addr) (cl : List (Str × Addr)) (fp : List Addr), PE (X.blk s H scope (compEnvC scope cl C X.env) fp) vx tv) (hs : ∀ x, foldedSetIterable iter X.env x = pure x := by intro _; rfl) :
    PS X (.Assign [.Name y py] (.DictComp kx vx [⟨tg, iter, ifs, 0⟩] scope pos) spos) (tAsg (tDc wi g tt tk tv (own.map (·.2))) (gName i)) := by
  refine ⟨fun pins s σ H D I h => ?_⟩
  rw [exec_Assign_Name_used _ _ _ _ hsw]
  refine wpAny_bind (wpAny_standAt (wpAny_bind ?_))
  show wpAny _ X.A (do let _ ← comprehension (.DictComp kx vx [⟨tg, iter, ifs, 0⟩] scope pos) scope X.env (firstIterPos [⟨tg, iter, ifs, 0⟩] pos) newDict false (eval iter X.env) (some (assign (.Name y py) X.env))) _ _ s
  have h : tDc wi g tt tk tv (own.map (·.2)) σ H (fun x H1 => gName i x σ H1 D.nx) := h
  refine wpAny_bind (thn (dc_core (Qf := fun _ s' => SP X pins D .next s') hc hN I hi ok hg ht hk he hs h fun L C s' m H' I' q hn f => ?_) fun _ s' hq => wpAny_pure (wpAny_pure hq))
  show wpAny _ _ (assign (.Name y py) X.env (.ref L)) _ _ _
  refine wpAny_assign_Name (store_ok2 (v := V.ref L) I' hN hy (.inl hyl) rfl (fun s2 I2 ⟨a, sb, ha⟩ => ?_) (.inr hyl))
  obtain ⟨f0, f1, f2, f3, f4, f5⟩ := f
  have haC : C ≠ a := by
    rcases ha with z | z
    · rw [z]; exact f1
    · exact fun e => f4 y a z e.symm
  refine ⟨m, hn.sameBut sb haC, fun h3 sb3 => ?_⟩
  exact ⟨_, H', I2.turned (t' := s2.toks) (fun b o hb e => (sb3.2 b hb).trans e) f0 f1 f3 f4 f5, q⟩
theorem sw_trueD {kx vx : Expr} {gs : List Comprehension} {scope : Scope} {pos py : Pos} {y : Str} {l : Nat} {env : Env} (hk : env.scope.kind = .function) (hy : env.scope.names.lookup y = some .local) (hl : (py.line == pos.line) = true)
    (ha : (scope.names.any fun (n, k) => n == y && (k == .local || k == .cell)) = false) : swapsWith (.DictComp kx vx gs scope pos) (some (.Name y py)) l env = pure true := by
  have ky : env.kindOf y = some .local := hy
  have hb : env.blockKind = .function := by unfold Env.blockKind; rw [hk]; rfl
  unfold swapsWith
  simp only [hb, ky, ha, Expr.pos, hl]
  rfl
theorem op_inSK (K : PySem.W.Frag) (hK : X.K = K := by rfl) : OpR X (compareOp .In) (rIn K false) := by subst hK; exact op_in_seq
theorem op_notInSK (K : PySem.W.Frag) (hK : X.K = K := by rfl) : OpR X (compareOp .NotIn) (rIn K true) := by subst hK; exact op_notIn_seq
end
section
variable {K : PySem.W.Frag} {H : Hp} {Q : VK} {σ : L2.St} {D : Ends}
theorem x_dc {wi : TI} {g : TG} {tt : TT} {tk tv : TE} {vs : List Nat} (h : wi σ H fun J H1 => ∀ L, H1 L = none → ∃ W : Nat → Nat → Hp → Prop, (∃ m, W 0 m (upd H1 L (.dK []))) ∧ ∀ i m H2, W i m H2 →
    (J.stop i H2 ∧ Q (.ref L) H2) ∨ (J.go i H2 ∧ ∃ Nx : Hp → Prop, (∀ H', Nx H' → ∃ m', m' < m ∧ W (i + 1) m' H') ∧ ∀ x H', J.yld i H2 x H' → g x (wipe σ vs) H' fun σ2 H2 => wipe σ2 vs = wipe σ vs ∧ tt σ2 H2 fun b H3 =>
      if b = true then tk σ2 H3 fun y H4 => tv σ2 H4 fun z H5 => ∃ kvs k, y = kV k ∧ H5 L = some (.dK kvs) ∧ kvs.length < sizeLine ∧ Nx (upd H5 L (.dK (putK kvs k z))) else Nx H3)) : tDc wi g tt tk tv vs σ H Q := h
/-- over a list that stays -/
theorem dc_list {a : Addr} {xs : List V} {g : TG} {tt : TT} {tk tv : TE} {vs : List Nat} {H1 : Hp} {L : Addr} {Qd : Hp → Prop} (Pv : Nat → Hp → Prop) (h0 : Pv 0 (upd H1 L (.dK []))) (hl : ∀ i H, i ≤ xs.length → Pv i H → SqL K H a xs)
    (hs : ∀ i x H, xs[i]? = some x → Pv i H → g x (wipe σ vs) H fun σ2 H2 => wipe σ2 vs = wipe σ vs ∧ tt σ2 H2 fun b H3 =>
      if b = true then tk σ2 H3 fun y H4 => tv σ2 H4 fun z H5 => ∃ kvs k, y = kV k ∧ H5 L = some (.dK kvs) ∧ kvs.length < sizeLine ∧ Pv (i + 1) (upd H5 L (.dK (putK kvs k z))) else Pv (i + 1) H3) (hd : ∀ H, Pv xs.length H → Qd H) :
    ∃ W : Nat → Nat → Hp → Prop, (∃ m, W 0 m (upd H1 L (.dK []))) ∧ ∀ i m H2, W i m H2 →
      ((Itl K a).stop i H2 ∧ Qd H2) ∨ ((Itl K a).go i H2 ∧ ∃ Nx : Hp → Prop, (∀ H', Nx H' → ∃ m', m' < m ∧ W (i + 1) m' H') ∧ ∀ x H', (Itl K a).yld i H2 x H' → g x (wipe σ vs) H' fun σ2 H2 => wipe σ2 vs = wipe σ vs ∧ tt σ2 H2 fun b H3 =>
        if b = true then tk σ2 H3 fun y H4 => tv σ2 H4 fun z H5 => ∃ kvs k, y = kV k ∧ H5 L = some (.dK kvs) ∧ kvs.length < sizeLine ∧ Nx (upd H5 L (.dK (putK kvs k z))) else Nx H3) := by
  refine ⟨fun i m H => m = xs.length - i ∧ i ≤ xs.length ∧ Pv i H, ⟨xs.length, by simp, Nat.zero_le _, h0⟩, ?_⟩
  rintro i m H ⟨rfl, hi, p⟩
  have q := hl i H hi p
  by_cases hlt : i < xs.length
  · refine .inr ⟨⟨xs, xs[i], q, List.getElem?_eq_getElem hlt⟩, Pv (i + 1), fun H' p' => ⟨xs.length - (i + 1), by omega, rfl, hlt, p'⟩, ?_⟩
    rintro x H' ⟨rfl, ex⟩
    exact hs i x _ (ex xs q) p
  · have e : i = xs.length := by omega
    subst e
    exact .inl ⟨⟨xs, q, Nat.le_refl _⟩, hd H p⟩
theorem x_while {c : TT} {tb : TS} (h : ∃ W : Nat → L2.St → Hp → Prop, (∃ m, W m σ H) ∧ ∀ m σ H, W m σ H →
    c σ H fun b H1 => if b = true then ∃ N : L2.St → Hp → Prop, (∀ σ' H', N σ' H' → ∃ m', m' < m ∧ W m' σ' H') ∧ tb { D with nx := N, ct := N, bk := D.nx } σ H1 else D.nx σ H1) : tWhile c tb D σ H := h
theorem x_dget {td ty : TE} (h : td σ H fun x H1 => ty σ H1 fun y H2 => ∃ a v, x = .ref a ∧ DGet H2 a y (some v) ∧ Q v H2) : tDGet td ty σ H Q := h
theorem x_din {td ty : TE} (h : ty σ H fun y H1 => td σ H1 fun x H2 => ∃ a o, x = .ref a ∧ DGet H2 a y o ∧ Q (.bl o.isSome) H2) : tDIn ty td σ H Q := h
theorem x_dnotin {td ty : TE} (h : ty σ H fun y H1 => td σ H1 fun x H2 => ∃ a o, x = .ref a ∧ DGet H2 a y o ∧ Q (.bl (!o.isSome)) H2) : tDNotIn ty td σ H Q := h
end
/-! ### a list made longer in place: s += t -/
section
variable {prog : Program} {w : World} {A : Around} {E : Value → Shared → Prop} {s : Shared}
theorem seq_iadd : seqSlot? (.type "list") (dunderI "add") = pure (some (.builtin "list.__iadd__")) := PySem.seqSlot_of F.slot_list_iadd.lookup (by decide +kernel)
theorem noFill_iadd : fillsInplaceSlot (.type "list") "add" (Operator.Add == .Add) = pure false := by
  unfold fillsInplaceSlot
  show (typeLookup (.type "list") (dunderI "add") >>= fun fi => pure (fi.isSome && !isSeqSlot fi)) = pure false
  rw [F.slot_list_iadd.lookup]
  have e : isSeqSlot (some (.builtin "list.__iadd__")) = true := by decide +kernel
  show (pure ((some (Value.builtin "list.__iadd__")).isSome && !isSeqSlot (some (.builtin "list.__iadd__"))) : Sem Bool) = pure false
  rw [e]
  rfl
theorem iadd_lists {l b : Addr} {items items2 : Array Value} {n n2 : Nat} {Q : Value → Shared → Prop} (hl : IsL s.heap l items n) (hb : IsL s.heap b items2 n2)
    (h : Q (.ref l) { s with heap := s.heap.update l (Obj.mapSeq fun x => x ++ items2), toks := s.toks }) (hs0 : ¬(!items.isEmpty && Builtin.List.listTooLong (items.size + items2.size)) = true) (hs1 : items.size ≤ sizeLine) (hs2 : items.size + items2.size ≤ sizeLine + 1) :
    wpAny (model prog w) A (inplaceOp .Add (.ref l) (.ref b)) Q E s := by
  have ha : s.TypeIs (.ref l) "list" := ⟨_, hl, rfl⟩
  have hbT : s.TypeIs (.ref b) "list" := ⟨_, hb, rfl⟩
  unfold inplaceOp
  refine wpAny_holding ?_
  refine wpAny_bind (wpAny_typeOf ha (wpAny_bind (wpAny_of_eq noFill_iadd ?_)))
  show wpAny _ A (if false = true then _ else _) Q E s
  rw [if_neg Bool.false_ne_true]
  refine wpAny_bind (wpAny_binaryOp1_none (nm := "add") ha hbT noFill_list_add ?_)
  refine wpAny_bind (wpAny_of_eq seq_iadd ?_)
  exact wpAny_bind (wpAny_rule (call_meets F.slot_list_iadd ha F.entry_list_iadd (F.args_list_iadd_2 _ _) (AutoSeq1.list___iadd___list_list_0 l items n b items2 n2 hs0 hs1 hs2) ⟨hl, hb, h⟩))
end
def ipExt : TIp := fun x y H Q => ∃ (l b : Addr) (xs zs : List V), x = .ref l ∧ y = .ref b ∧ H l = some (.lst xs) ∧ H b = some (.lst zs) ∧ xs.length + zs.length ≤ sizeLine ∧ Q (.ref l) (upd H l (.lst (xs ++ zs)))
theorem ip_ext {X : Cx} : PIp X .Add ipExt := by
  intro pins s σ H x y v u Q I rx ry h
  obtain ⟨l, b, xs, zs, rfl, rfl, hH, hB, hz, q⟩ := h
  cases rx
  cases ry
  obtain ⟨z, its, n, r, hl, e⟩ := I.lstM hH
  obtain ⟨z2, its2, n2, r2, hl2, e2⟩ := I.lstM hB
  have hsz : its.toArray.size + its2.toArray.size ≤ sizeLine := by rw [List.size_toArray, List.size_toArray]; omega
  have hlong : ¬ (!its.toArray.isEmpty && Builtin.List.listTooLong (its.toArray.size + its2.toArray.size)) = true := by
    rw [notLongL hsz, Bool.and_false]
    exact Bool.false_ne_true
  refine iadd_lists e e2 ?_ hlong (by rw [List.size_toArray]; omega) (by omega)
  refine ⟨.ref l, _, I.lset (its' := its ++ its2) hH e (by simp) (r.append r2) ?_, rfl, q⟩
  rw [List.length_append]
  omega
section
variable {σ : L2.St} {H : Hp} {Q : VK}
theorem x_ext {l b : Addr} {xs zs : List V} (hl : H l = some (.lst xs)) (hb : H b = some (.lst zs)) (hz : xs.length + zs.length ≤ sizeLine) (h : Q (.ref l) (upd H l (.lst (xs ++ zs)))) : ipExt (.ref l) (.ref b) H Q := ⟨l, b, xs, zs, rfl, rfl, hl, hb, hz, h⟩
end
/-- a list made of what a walk with numbers along a list gives -/
theorem lc_enum {K : PySem.W.Frag} {a : Addr} {xs : List V} {g : TG} {tt : TT} {te : TE} {vs : List Nat} {σ : L2.St} {H1 : Hp} {D : Addr} {Qd : Hp → Prop} (Pv : Nat → Hp → Prop) (h0 : Pv 0 (upd H1 D (.lst []))) (hl : ∀ i H, i ≤ xs.length → Pv i H → SqL K H a xs)
    (hs : ∀ (i : Nat) (x : V) (t : Addr) (H : Hp), xs[i]? = some x → Pv i H → H t = none → g (.ref t) (wipe σ vs) (upd H t (.tup [.int (i : Nat), x])) fun s2 H2 => wipe s2 vs = wipe σ vs ∧ tt s2 H2 fun b H3 =>
      if b = true then te s2 H3 fun y H4 => ∃ l, H4 D = some (.lst l) ∧ l.length < sizeLine ∧ Pv (i + 1) (upd H4 D (.lst (l ++ [y]))) else Pv (i + 1) H3) (hd : ∀ H, Pv xs.length H → Qd H) :
    ∃ W : Nat → Nat → Hp → Prop, (∃ m, W 0 m (upd H1 D (.lst []))) ∧ ∀ i m H, W i m H →
      ((Ite K a).stop i H ∧ Qd H) ∨ ((Ite K a).go i H ∧ ∃ N : Hp → Prop, (∀ H', N H' → ∃ n, n < m ∧ W (i + 1) n H') ∧ ∀ x H', (Ite K a).yld i H x H' → g x (wipe σ vs) H' fun s2 H2 => wipe s2 vs = wipe σ vs ∧ tt s2 H2 fun b H3 =>
        if b = true then te s2 H3 fun y H4 => ∃ l, H4 D = some (.lst l) ∧ l.length < sizeLine ∧ N (upd H4 D (.lst (l ++ [y]))) else N H3) := by
  refine ⟨fun i m H => m = xs.length - i ∧ i ≤ xs.length ∧ Pv i H, ⟨_, rfl, Nat.zero_le _, h0⟩, ?_⟩
  rintro i m H ⟨rfl, le, p⟩
  have q := hl i H le p
  by_cases lt : i < xs.length
  · refine .inr ⟨⟨xs, xs[i], q, List.getElem?_eq_getElem lt⟩, Pv (i + 1), fun H2 p2 => ⟨xs.length - (i + 1), by omega, rfl, lt, p2⟩, ?_⟩
    rintro _ _ ⟨t, x, rfl, ht, rfl, ex⟩
    exact hs i x t H (ex xs q) p ht
  · have e : i = xs.length := by omega
    subst e
    exact .inl ⟨⟨xs, q, Nat.le_refl _⟩, hd H p⟩
/-! sorted of data (texts, ints, tuples of these): the one sorted list, by the data's order. -/

/-- the items with what they read as -/
def rSortedD (K : PySem.W.Frag) : List V → Hp → VK → Prop := fun vs H Q => ∃ (a : Addr) (ps : List (V × PyData)), vs = [V.ref a] ∧ SqL K H a (ps.map (·.1)) ∧ DnAll [] H (ps.map (·.1)) (ps.map (·.2)) ∧ PySem.W.AllAlike (ps.map (·.2)) ∧ PySem.W.Sortable (ps.map (·.2)) ∧ (∀ b ∈ ps, b.2.depth ≤ 20) ∧
  ∀ p, H p = none → Q (.ref p) (upd H p (.lst ((ps.mergeSort (PySem.W.dataLe false (·.2))).map (·.1))))
theorem each_of {H : Hp} : ∀ {ps : List (V × PyData)} {us : List Value}, Vals (ps.map (·.1)) us → PySem.W.EachIs (fun v (b : V × PyData) => RelV b.1 v) us ps
  | [], _, .nil => .nil
  | p :: ps, _ :: us, .cons r t => .cons r (each_of (H := H) t)
theorem vals_each : ∀ {ps : List (V × PyData)} {us : List Value}, PySem.W.EachIs (fun v (b : V × PyData) => RelV b.1 v) us ps → Vals (ps.map (·.1)) us
  | [], _, .nil => .nil
  | p :: ps, _ :: us, .cons r t => .cons r (vals_each t)
section
variable {X : Cx}
theorem each_reads {pins : List (Addr × Obj)} {σ : L2.St} {H : Hp} {s : Shared} (I : Inv X pins σ H s) : ∀ {ps : List (V × PyData)} {us : List Value}, Vals (ps.map (·.1)) us → DnAll [] H (ps.map (·.1)) (ps.map (·.2)) → PySem.W.EachIs (fun v (b : V × PyData) => ∃ as, Reads s.heap v b.2 as) us ps
  | [], _, .nil, _ => .nil
  | p :: ps, _ :: us, .cons r t, .cons d e => .cons (by obtain ⟨as, h, _⟩ := Dn.reads I _ _ _ d r; exact ⟨as, h⟩) (each_reads I t e)
theorem cr_sortedD (hu : X.A.units + 64 < cLine) : CallR X (.builtin "sorted") (rSortedD X.K) := by
  intro pins s σ H vs us Q I r h
  obtain ⟨a, ps, rfl, hs, hd, hal, hk, dp, q⟩ := h
  obtain ⟨its, rv, hl, hz⟩ := I.list hs
  obtain ⟨u, rfl, ru⟩ := vals1 r
  obtain rfl : u = Value.ref a := ru
  refine PySem.W.sorted_data hl.isList (each_of (H := H) rv) (each_reads I rv hd) hal hk (by rw [List.length_map] at hz; exact hz) (fun b hb => by have := dp b hb; omega) fun out lo e => ?_
  have hn : H (s.heap.objs.size + 1) = none := I.hok.fresh (Nat.le_succ _)
  obtain ⟨n, hn2⟩ := sortedAll_at s.heap its (List.toArray out)
  refine ⟨.ref (s.heap.objs.size + 1), upd H (s.heap.objs.size + 1) (.lst ((ps.mergeSort (PySem.W.dataLe false (·.2))).map (·.1))), I.laid (t' := s.toks) (fun b o e => sortedAll_old e) (Nat.le_succ _) ⟨?_, out, n, vals_each e, hn2⟩, rfl, q _ hn⟩
  rw [List.length_map, List.length_mergeSort]
  rw [List.length_map] at hz
  exact hz
end
theorem dnAll_ps {M : List Addr} {H : Hp} : ∀ {ps : List (V × PyData)}, (∀ p ∈ ps, Dn M H p.1 p.2) → DnAll M H (ps.map (·.1)) (ps.map (·.2))
  | [], _ => .nil
  | p :: ps, h => .cons (h p (by simp)) (dnAll_ps fun q hq => h q (by simp [hq]))
theorem dnAll_zip {M : List Addr} {H : Hp} : ∀ {xs : List V} {ds : List PyData}, DnAll M H xs ds → (xs.zip ds).map (·.1) = xs ∧ (xs.zip ds).map (·.2) = ds ∧ ∀ p ∈ xs.zip ds, Dn M H p.1 p.2
  | _, _, .nil => ⟨rfl, rfl, by simp⟩
  | x :: xs, d :: ds, .cons a b => by
    obtain ⟨h1, h2, h3⟩ := dnAll_zip b
    refine ⟨by simp only [List.zip_cons_cons, List.map_cons, h1], by simp only [List.zip_cons_cons, List.map_cons, h2], fun p hp => ?_⟩
    rw [List.zip_cons_cons] at hp
    rcases List.mem_cons.mp hp with rfl | hp
    · exact a
    · exact h3 p hp
theorem x_srtDM {K : PySem.W.Frag} {M : List Addr} {H : Hp} {Q : VK} {F : Addr} {xs : List V} {ds : List PyData} (al : ∀ m ∈ M, ∃ o, H m = some o) (hF : H F = some (.lst xs)) (A : DnAll M H xs ds) (h1 : PySem.W.AllAlike ds) (h2 : PySem.W.Sortable ds) (dp : ∀ d ∈ ds, d.depth ≤ 20)
    (h : ∀ (H' : Hp) (p : Addr), Same H H' → H p = none → Dn M H' (.ref p) (.list (ds.mergeSort (PySem.W.dataLe false id))) → Q (.ref p) H') : rSortedD K [.ref F] H Q := by
  obtain ⟨z1, z2, z3⟩ := dnAll_zip A
  refine ⟨F, xs.zip ds, rfl, by rw [z1]; exact SqL.of hF, by rw [z1, z2]; exact A.sub (by simp), by rw [z2]; exact h1, by rw [z2]; exact h2, fun b hb => dp _ (by rw [← z2]; exact List.mem_map.mpr ⟨b, hb, rfl⟩), fun p hp => ?_⟩
  have S := same_upd hp (o := .lst (((xs.zip ds).mergeSort (PySem.W.dataLe false (·.2))).map (·.1)))
  have np : p ∉ M := fun m => by
    obtain ⟨o, e⟩ := al p m
    rw [hp] at e; cases e
  refine h _ p S hp (.lst upd_same np ?_)
  have e : ((xs.zip ds).mergeSort (PySem.W.dataLe false (·.2))).map (·.2) = ds.mergeSort (PySem.W.dataLe false id) := by
    have m := List.map_mergeSort (r := PySem.W.dataLe false (fun x : V × PyData => x.2)) (s := PySem.W.dataLe false id) (f := fun x : V × PyData => x.2) (l := xs.zip ds) (fun a _ b _ => rfl)
    rw [m, z2]
  rw [← e]
  exact (dnAll_ps fun p hp => z3 p ((List.mergeSort_perm _ _).mem_iff.mp hp)).ext (Ext.same S)
theorem x_srtD {K : PySem.W.Frag} {H : Hp} {Q : VK} {F : Addr} {xs : List V} {ds : List PyData} (hF : H F = some (.lst xs)) (A : DnAll [] H xs ds) (h1 : PySem.W.AllAlike ds) (h2 : PySem.W.Sortable ds) (dp : ∀ d ∈ ds, d.depth ≤ 20)
    (h : ∀ (H' : Hp) (p : Addr), Same H H' → H p = none → Dn [] H' (.ref p) (.list (ds.mergeSort (PySem.W.dataLe false id))) → Q (.ref p) H') : rSortedD K [.ref F] H Q :=
  x_srtDM (by simp) hF A h1 h2 dp h
/-- rows of ints: sorted as lists are -/
theorem rows_sort (rows : List (List Int)) : (rows.map fun w => PyData.list (w.map PyData.int)).mergeSort (PySem.W.dataLe false id) = (rows.mergeSort fun a b => decide (a ≤ b)).map fun w => PyData.list (w.map PyData.int) := by
  refine (List.map_mergeSort (fun a _ b _ => ?_)).symm
  have e := PySem.W.dataLe_rows (fun w : List Int => w)
  have e2 := congrFun (congrFun e a) b
  exact e2.symm
theorem rows_up (rows : List (List Int)) : (rows.mergeSort fun a b => decide (a ≤ b)).Pairwise (· ≤ ·) := by
  have h := List.pairwise_mergeSort (le := fun a b : List Int => decide (a ≤ b)) (fun a b c h1 h2 => by
    rw [decide_eq_true_eq] at h1 h2 ⊢
    exact List.le_trans h1 h2) (fun a b => by
    rw [Bool.or_eq_true, decide_eq_true_eq, decide_eq_true_eq]
    exact List.le_total a b) rows
  exact h.imp fun h => by simpa using h
theorem rows_alike {rows : List (List Int)} (ne : ∀ w ∈ rows, w ≠ []) : PySem.W.AllAlike (rows.map fun w => PyData.list (w.map PyData.int)) := by
  have al : ∀ a b : List Int, PySem.W.alikeAll (a.map PyData.int) (b.map PyData.int) = true := by
    intro a
    induction a with
    | nil => intro b; cases b <;> rfl
    | cons x a ih =>
      intro b
      cases b with
      | nil => rfl
      | cons y b => simp [PySem.W.alikeAll, PySem.W.alike, ih b]
  intro d hd e he
  obtain ⟨a, _, rfl⟩ := List.mem_map.mp hd
  obtain ⟨b, _, rfl⟩ := List.mem_map.mp he
  simp [PySem.W.alike, al]
theorem rows_sortable (rows : List (List Int)) : PySem.W.Sortable (rows.map fun w => PyData.list (w.map PyData.int)) := .inr fun d hd => by
  obtain ⟨a, _, rfl⟩ := List.mem_map.mp hd
  exact ⟨nofun, nofun⟩
/-- len in a comprehension: the frame is named -/
theorem call_lenK (K : PySem.W.Frag) {X : Cx} (h : X.K = K := by rfl) : CallR X (.builtin "len") (fun xs H Q => ∃ p ys, xs = [V.ref p] ∧ (SqL K H p ys ∨ SqT K H p ys) ∧ Q (.int ys.length) H) := by
  subst h
  exact call_len_seq
theorem x_lstRg {te : TE} {σ : L2.St} {H : Hp} {Q : VK} (h : te σ H fun x H1 => ∃ n, x = .int n ∧ (RgOk 0 n ∧ ∀ q, H1 q = none → Q (.ref q) (upd H1 q (.lst (rgV 0 n))))) : tLstRg (tRg1 te) σ H Q := h
theorem rgV_ints (a b : Int) : ∃ ns : List Int, rgV a b = ns.map V.int := ⟨(List.range (b - a).toNat).map fun i => a + (i : Nat), by unfold rgV; rw [List.map_map]; rfl⟩
/-! range(n) as a value, int not in it; set of a list of ints, as sorted wants it. -/
section
variable {X : Cx}
theorem cr_range1 : CallR X (.type "range") (fun vs H Q => ∃ j, vs = [V.int j] ∧ ∀ p, H p = none → Q (.ref p) (upd H p (.rng 0 j))) := by
  intro pins s σ H vs us Q I r h
  obtain ⟨j, rfl, q⟩ := h
  obtain ⟨u, rfl, ru⟩ := vals1 r
  obtain ⟨t, rfl⟩ := ru
  refine call_range_1 ⟨.ref s.heap.objs.size, upd H s.heap.objs.size (.rng 0 j), I.laid (t' := s.toks + 2) (fun b o e => Heap.get?_push_of_some _ e) (Nat.le_refl _) ?_, rfl, q _ (I.hok.fresh (Nat.le_refl _))⟩
  exact ⟨s.toks, t, s.toks + 1, Heap.get?_push_size _ rfl⟩
def rNotInR : R2 := fun x y H Q => ∃ i a lo hi, x = V.int i ∧ y = V.ref a ∧ H a = some (.rng lo hi) ∧ Q (.bl (!decide (lo ≤ i ∧ i < hi))) H
theorem op_notin_rng : OpR X (compareOp .NotIn) rNotInR := by
  intro pins s σ H x y v u Q I rx ry h
  obtain ⟨i, a, lo, hi, rfl, rfl, ha, q⟩ := h
  obtain ⟨k, rfl⟩ := rx
  obtain rfl : u = Value.ref a := ry
  obtain ⟨t1, t2, t3, ho⟩ := I.hok a _ ha
  show wpAny _ _ (do return Value.bool (!(← contains (Value.ref a) (Value.int i k)))) _ _ s
  refine wpAny_bind (wpAny_contains_slot (T := "range") ⟨_, ho, rfl⟩ F.slot_range_contains (call_meets F.slot_range_contains ⟨_, ho, rfl⟩ F.entry_range_contains (F.args_range_contains_2 _ _) (q_contains a lo hi i t1 t2 t3 k)
    ⟨ho, wpAny_truthy_bool (wpAny_pure ⟨.bl _, H, I, rfl, ?_⟩)⟩))
  rw [place1]
  exact q
end
/-! set(l) of a list of ints, in the form that sorted takes -/
section
variable {P : Program} {w : World} {A : Around} {E : Value → Shared → Prop} {s : Shared}
/-- the set object at its beginning -/
abbrev set0 (w : World) : Obj := { cls := .type "set", dict := none, data := .set #[] 0 (.fresh 0 0 (!w.params.followText "set-order")) }
theorem fill_list {l : Addr} {items : Array Value} (ns : List Int) (hh : A.handled = none) (hl : s.heap.IsList l items) (hi : IntsAre items.toList ns) (hb : ns.length + 1 < scanBound) {R : Result → Shared → Prop}
    (h : ∀ (h' : Heap) (tk c : Nat), SetR w h' s.heap.objs.size (fun j => decide (j ∈ ns)) c → c ≤ ns.length → (∀ b o, s.heap.get? b = some o → h'.get? b = some o) → R (.ok (.ret .none)) { s with heap := h', toks := tk }) :
    codeAny (model P w) A (.builtin "set.update.loop" ⟨[.ref s.heap.objs.size, .ref (s.heap.objs.size + 1)], []⟩) R
      { s with heap := (s.heap.push (set0 w)).push { cls := .type "list_iterator", data := .fields #[.ref l, .int 0 0] } } := by
  have en : items.size = ns.length := by have := hi.length; rwa [Array.length_toList] at this
  obtain ⟨ol, hol, _⟩ := id hl
  have ll : l < s.heap.objs.size := Heap.lt_size hol
  refine set_update_ints ((Walks.list (prog := P) (w := w) (A := A.in1) hh (s.heap.objs.size + 1) l (Nat.ne_of_lt (Nat.lt_succ_of_lt ll)) items).toS) s.heap.objs.size (fun m => by rcases List.mem_cons.mp m with e | m; exact absurd e (Nat.ne_of_lt (Nat.lt_succ_self _)); exact absurd (List.mem_singleton.mp m) (Nat.ne_of_gt ll)) ns en hb ?_ (items.size - 0) 0 _ (by omega) (Nat.zero_le _) ?_ ?_ ?_
  · intro i v hv
    have hin : i < ns.length := by rw [← en]; exact (Array.getElem?_eq_some_iff.mp hv).1
    obtain ⟨t, e⟩ := PyProof.Rows.IntsAre.int_at hi i v (by rw [Array.getElem?_toList]; exact hv)
    refine ⟨ns[i], t, List.getElem?_eq_getElem hin, ?_⟩
    rw [e, List.getD_eq_getElem?_getD, List.getElem?_eq_getElem hin]
    rfl
  · have e : s.heap.objs.size + 1 = (s.heap.push (set0 w)).objs.size := (Heap.size_push ..).symm
    refine ⟨?_, (hl.push _).push _⟩
    rw [e]
    exact ⟨_, Heap.get?_push_size _ rfl, rfl, rfl⟩
  · exact ⟨0, Nat.le_refl _, setR_new_at (Heap.get?_push_of_some _ (Heap.get?_push_size _ rfl))⟩
  · rintro ⟨h', g2, d', tk', os'⟩ c m hc R'
    obtain rfl : g2 = s.gens := m.gens
    obtain rfl : d' = s.drawn := m.drawn
    obtain rfl : os' = s.os := m.os
    rw [en] at hc
    refine h h' tk' c R' hc fun b o e => ?_
    have hb0 : b < s.heap.objs.size := Heap.lt_size e
    refine m.heap b o (fun z => ?_) (Heap.get?_push_of_some _ (Heap.get?_push_of_some _ e))
    rcases List.mem_cons.mp z with z | z
    · exact absurd z (Nat.ne_of_lt hb0)
    · exact absurd (List.mem_singleton.mp z) (Nat.ne_of_lt (Nat.lt_succ_of_lt hb0))
theorem call_setLI {l : Addr} {items : Array Value} (ns : List Int) {Q : Value → Shared → Prop} (hh : A.handled = none) (hl : s.heap.IsList l items) (hi : IntsAre items.toList ns) (hb : ns.length + 1 < scanBound)
    (h : ∀ (h' : Heap) (tk c : Nat), SetR w h' s.heap.objs.size (fun j => decide (j ∈ ns)) c → c ≤ ns.length → (∀ b o, s.heap.get? b = some o → h'.get? b = some o) → Q (.ref s.heap.objs.size) { s with heap := h', toks := tk }) :
    wpAny (model P w) A (call (.type "set") [.ref l]) Q E s := by
  obtain ⟨c, tl, hmro⟩ := F.called_set.mro
  have hmade := F.called_set.made
  have hsub := F.called_set.sub
  have h1 := F.called_set.notType
  have h2 := F.called_set.canCreate
  have hct := F.typeCall_set_1 (.ref l)
  refine wpAny_call (codeAny_of_tree ?_)
  show wpAny _ _ (callAny (.type "set") _) _ _ _
  refine wpAny_pure ⟨Code.quiet_builtin _ (by decide +kernel), codeAny_builtin F.entry_type_call ?_⟩
  rw [Around.under_plain (weight_type_call_type "set" [.ref l] []) rfl]
  repeat (any_goals (first | assumption | wp_step))
  refine codeAny_mono (code_set_led1 (.ref l) (E := E) (Q₁ := fun v s1 => v = .ref s.heap.objs.size ∧ s1 = { s with heap := s.heap.push (set0 w) }) ⟨rfl, rfl⟩) fun r s1 hr => ?_
  rcases r with e | fl
  · exact hr
  cases fl with
  | ret v =>
    obtain ⟨rfl, rfl⟩ := hr
    have hS : (s.heap.push (set0 w)).get? s.heap.objs.size = some (set0 w) := Heap.get?_push_size _ rfl
    have hT : Shared.TypeIs { s with heap := s.heap.push (set0 w) } (.ref s.heap.objs.size) "set" := ⟨_, hS, rfl⟩
    have hli := F.called_set.init.lookup
    have hbi := F.called_set.init.bind (.ref s.heap.objs.size)
    repeat (any_goals (first | assumption | wp_step))
    refine codeAny_mono (codeAny_call_builtin (R := wants (fun r s2 => r = .none ∧ ∃ h' tk c, s2 = { s with heap := h', toks := tk } ∧ SetR w h' s.heap.objs.size (fun j => decide (j ∈ ns)) c ∧ c ≤ ns.length ∧ ∀ b o, s.heap.get? b = some o → h'.get? b = some o) E)
      F.called_set.init.plain F.entry_set_init (check_set_init_1 hT ?_)) fun r2 s2 hr2 => ?_
    · have hl1 : (s.heap.push (set0 w)).IsList l items := hl.push _
      obtain ⟨⟨ocls, od, odt, osl⟩, hol, hcl, nl, hdl⟩ := id hl1
      simp only at hcl hdl
      subst hcl hdl
      have n1 := F.sub_list_set
      have n2 := F.sub_list_frozenset
      have n3 : (Value.type "list" == Value.type "dict") = false := by decide
      unfold Builtin.«set.__init__» noKeywords Builtin.Frozenset.updateFrom
      generalize hPI : pyIter = PI
      wp_walk
      subst hPI
      refine wpAny_pyIter_list hl1 ?_
      refine wpAny_bind (wpAny_runValue ?_)
      have e : (s.heap.push (set0 w)).objs.size = s.heap.objs.size + 1 := Heap.size_push ..
      rw [e]
      refine fill_list (A := A.in1.in1) ns (by simp [hh]) hl hi hb fun h' tk c a1 a2 a3 => ?_
      show wpAny _ _ _ _ _ _
      refine wpAny_pure ?_
      show wpAny _ _ (ret Value.none) _ _ _
      exact wpAny_pure ⟨rfl, h', tk, c, rfl, a1, a2, a3⟩
    · rcases r2 with e | fl2
      · exact hr2
      cases fl2 with
      | ret v =>
        obtain ⟨rfl, h', tk, c', rfl, a1, a2, a3⟩ := hr2
        repeat (any_goals (first | assumption | wp_step))
        exact h _ _ _ a1 a2 a3
      | _ => exact hr2.elim
  | _ => exact hr.elim
end
/-- set(l), l a list of ints -/
def rSetLI (K : PySem.W.Frag) (w : World) : List V → Hp → VK → Prop := fun vs H Q => ∃ (a : Addr) (ns : List Int), vs = [.ref a] ∧ SqL K H a (ns.map V.int) ∧ ns.length ≤ 1000 ∧
  ∀ (p : Addr) (c : Nat), H p = none → c ≤ ns.length → Q (.ref p) (upd H p (SetO w p (fun j => decide (j ∈ ns)) c))
theorem cr_setLI {X : Cx} (hc : X.calm = true) : CallR X (.type "set") (rSetLI X.K X.w) := by
  intro pins s σ H vs us Q I r h
  obtain ⟨a, ns, rfl, hs, hl, q⟩ := h
  rw [Vals.ref1 r]
  obtain ⟨its, rv, pl, hz⟩ := I.list hs
  refine call_setLI ns (I.ok.hd hc) pl.isList (by simpa using ints_of_vals rv) (by unfold scanBound; omega) fun h' tk c R cl k => ?_
  have hn : H s.heap.objs.size = none := I.hok.fresh (Nat.le_refl _)
  exact ⟨.ref s.heap.objs.size, _, I.laid (t' := tk) k (Nat.le_refl _) (setO_new R), rfl, q _ c hn cl⟩
theorem x_setLI {K : PySem.W.Frag} {w : World} {H : Hp} {Q : VK} {a : Addr} {ns : List Int} (ha : SqL K H a (ns.map V.int)) (hl : ns.length ≤ 1000) (h : ∀ (p : Addr) (c : Nat), H p = none → c ≤ ns.length → Q (.ref p) (upd H p (SetO w p (fun j => decide (j ∈ ns)) c))) : rSetLI K w [.ref a] H Q := ⟨a, ns, rfl, ha, hl, h⟩
theorem x_srtSet {w : World} {H : Hp} {Q : VK} {a : Addr} {ns : List Int} {c : Nat} (ha : H a = some (SetO w a (fun j => decide (j ∈ ns)) c)) (hc : c < 64) (h : ∀ (p : Addr) (ms : List Int), H p = none → ms.Pairwise (· < ·) → (∀ k, k ∈ ms ↔ k ∈ ns) → Q (.ref p) (upd H p (.lst (ms.map V.int)))) : rSortedSet w [.ref a] H Q :=
  ⟨a, _, c, rfl, ha, hc, fun ms p h1 h2 _ h4 => h p ms h4 h1 fun k => (h2 k).trans decide_eq_true_iff⟩
/-! ### a def that stands under another name than its own -/
section
variable {P : Program} {w : World} {K : PySem.W.Frag} {mg : Str → Option Value}
structure DfA (K : PySem.W.Frag) (mg : Str → Option Value) (nm own : Str) (st : Stmt) : Prop where
  ex : ∃ f fd, Fun K own own st f fd ∧ mg nm = some (.ref f)
theorem dfa_mk {h : Heap} {nm own : Str} {st : Stmt} {f : Addr} {oc : Value} {od an : Option Addr} {osl : Array (Option Value)} {kV doc pm cdv ct : Value} (X : K.In h) (G : h.Ns mainGlobals mg)
    (a : PySem.W.nsIn K mainGlobals nm = some (some (.ref f)))
    (l : K.lookup f = some ⟨oc, od, .func (PySem.W.fnOf own own (defArgs st) (defBody st) (defScope st) .none kV doc pm an cdv ct), osl⟩)
    (c : PySem.W.codeIn K cdv own = true) (k : PySem.W.keepIn K (.ref f) = true) : DfA K mg nm own st :=
  ⟨f, _, fun_mk l c k, PySem.W.mg_of X G a⟩
theorem kn_ofA {base : Heap} {nm own : Str} {st : Stmt} {N ps : List Str} {k : Nat} {sp : Sp} (D : DfA K mg nm own st)
    (bd : ∀ (kV doc pm : Value) (an : Option Addr) (cdv ct : Value) (us : List Value), us.length = ps.length → bindArgs (PySem.W.fnOf own own (defArgs st) (defBody st) (defScope st) .none kV doc pm an cdv ct) ⟨us, []⟩ = pure (ps.zip us))
    (S : FnScope N ps (defScope st)) (len : ∀ vs H Q E, sp vs H Q E → vs.length = ps.length)
    (body : ∀ (f : Addr) (cd : Value) (B : Around) (fr : List Env) (z : Shared) (H : Hp) (vs : List V) (Q : VK) (E : XK),
      Room k (B.deeper (envOfC own (defScope st) z.heap.objs.size f cd)) →
      (B.deeper (envOfC own (defScope st) z.heap.objs.size f cd)).guards = some [] → sp vs H Q E →
      ∃ t, PSs (bodyX P w K mg base N own st f cd B fr z H E) (defBody st) t ∧
        t { nx := fun _ H' => Q .non H', rt := Q } (start N vs) H) : Kn P w K mg base nm (k + 1) sp := by
  obtain ⟨f, fd, F, hm⟩ := D.ex
  exact ⟨f, fd, ps, FnG.mk' F S len (body f), hm, F.kp, F.binds bd⟩
/-- a promise that asks more keeps one that asks less -/
theorem Kn.weak {base : Heap} {nm : Str} {k : Nat} {sp sp' : Sp} (h : Kn P w K mg base nm k sp) (g : ∀ vs H Q E, sp' vs H Q E → sp vs H Q E) : Kn P w K mg base nm k sp' := by
  obtain ⟨f, fd, ps, F, r⟩ := h.ex
  exact ⟨f, fd, ps, ⟨fun vs H Q E h => F.len vs H Q E (g vs H Q E h), fun B fr z H ar us vs Q E r1 r2 r3 r4 r5 h => F.go B fr z H ar us vs Q E r1 r2 r3 r4 r5 (g vs H Q E h)⟩, r⟩
end
/-! items() of a dict whose keys are tuples. -/
section
variable {X : Cx} {pins : List (Addr × Obj)} {σ : L2.St} {H : Hp} {s : Shared} {d : Addr} {o : Obj}
theorem frzTV {kvs : List (List L2.Key × V)} (I : Inv X pins σ H s) (h : H d = some (.frz o (.dT kvs))) :
    (d == sysModules) = false ∧ s.heap.get? d = some o ∧ o.ExactDict ∧ ∃ (es : Array DictEntry) (ep : Nat), o.data = .dict es ep ∧ es.size = kvs.length ∧ s.heap.DictRaw d es ep ∧
      ∀ (i : Nat) (k : List L2.Key) (v : V), kvs[i]? = some (k, v) → ∃ (en : DictEntry) (q : Addr), es[i]? = some en ∧ en.key = .ref q ∧ H q = some (.tup (k.map kV)) ∧ RelV v en.val := by
  obtain ⟨hd, z, hs, xs, pr, o', es, ep, ho, hx, hdt, he, _⟩ := I.hok d _ h
  rw [hd] at ho
  cases ho
  refine ⟨hs, hd, hx, es, ep, hdt, ?_, ⟨_, hd, hx, hdt⟩, fun i k v e => ?_⟩
  · have l1 : es.size = xs.length := size_of_entries he
    have l2 : kvs.length = xs.length := Paired.length pr
    omega
  · obtain ⟨b, hb, e1, e2, e3⟩ := paired_get pr e
    have q := entry_at he i
    rw [hb] at q
    exact ⟨_, b.2.1, q, rfl, e2, e3⟩
end
theorem fst_eq {F : (List L2.Key × V) → (List L2.Key × Addr × Value) → Prop} (hF : ∀ a b, F a b → a.1 = b.1) : ∀ {l₁ : List (List L2.Key × V)} {l₂ : List (List L2.Key × Addr × Value)}, Paired F l₁ l₂ → l₁.map (·.1) = l₂.map (·.1)
  | _, _, Paired.nil => rfl
  | _, _, Paired.cons h t => by rw [List.map_cons, List.map_cons, hF _ _ h, fst_eq hF t]
theorem frzND {X : Cx} {pins : List (Addr × Obj)} {σ : L2.St} {H : Hp} {s : Shared} {d : Addr} {o : Obj} {kvs : List (List L2.Key × V)} (I : Inv X pins σ H s) (h : H d = some (.frz o (.dT kvs))) : (kvs.map (·.1)).Nodup ∧ kvs.length ≤ sizeLine := by
  obtain ⟨hd, z, hs, xs, pr, o', es, ep, ho, hx, hdt, he, r⟩ := I.hok d _ h
  refine ⟨?_, z⟩
  rw [fst_eq (fun a b h => h.1) pr]
  first | exact r.2 | exact r
/-- the pairs, each a new tuple of the key's own tuple and the value -/
def Itit (d : Addr) (o : Obj) (kvs : List (List L2.Key × V)) : It :=
  ⟨fun i H => H d = some (.frz o (.dT kvs)) ∧ i < kvs.length, fun i H x H' => ∃ T q k v, kvs[i]? = some (k, v) ∧ x = .ref T ∧ H q = some (.tup (k.map kV)) ∧ H T = none ∧ H' = upd H T (.tup [.ref q, v]), fun i H => H d = some (.frz o (.dT kvs)) ∧ kvs.length ≤ i⟩
section
variable {P : Program} {w : World} {K : PySem.W.Frag} {d : Addr} {o : Obj} {es : Array DictEntry} {ep : Nat}
theorem turn_itemsT {kvs : List (List L2.Key × V)} {elts : List Expr} {kk : Nat} {tpos : Pos} (it : Addr) (hod : o.data = .dict es ep) :
    Turn P w K (.Tuple elts kk tpos) (Itit d o kvs) [it] it (fun i h => ∃ ok ov, IsItemIter h it d i kvs.length ep ok ov) where
  mem := by simp
  obj := fun i h st b hb => by
    have e : b = it := by simpa using hb
    subst e
    obtain ⟨ok, ov, e⟩ := st
    exact ⟨_, e, fun v z => nomatch z⟩
  keep := fun i h h' st k => let ⟨ok, ov, e⟩ := st; ⟨ok, ov, k it (by simp) _ e⟩
  item := by
    intro X hP hw hK hc i pins s σ H E I hf st hg
    subst hP hw hK
    obtain ⟨hd, hi⟩ := hg
    obtain ⟨hs, hgd, hx, es', ep', hdt, hsz, raw, ent⟩ := frzTV I hd
    obtain ⟨rfl, rfl⟩ := dict_ep hod hdt
    obtain ⟨⟨k, v⟩, hkv⟩ : ∃ p, kvs[i]? = some p := ⟨kvs[i], List.getElem?_eq_getElem hi⟩
    obtain ⟨en, q, hen, hkey, hq, rv⟩ := ent i k v hkv
    obtain ⟨ok, ov, he⟩ := st
    rw [← hsz] at he
    have hlt : it < s.heap.objs.size := Heap.lt_size he
    have hi' : i < es'.size := by omega
    have een : es'[i] = en := by
      rw [Array.getElem?_eq_getElem hi'] at hen
      exact Option.some.inj hen
    refine wpAny_pyNext_items_item_raw he raw hi' fun h' ho hT hz hk => ?_
    refine ⟨_, rfl, wpAny_letOwnedTupleGo_items (s := { s with heap := h' }) ho fun h'' he' sb => ?_⟩
    have hT2 : h''.get? s.heap.objs.size = some { cls := .type "tuple", data := .seq #[es'[i].key, es'[i].val] } := (sb.2 _ (Nat.ne_of_gt hlt)).trans hT
    have new : ObjOk X.prog X.w (upd H s.heap.objs.size (.tup [.ref q, v])) h'' s.heap.objs.size (.tup [.ref q, v]) :=
      ⟨by show 2 ≤ sizeLine; decide, [es'[i].key, es'[i].val], .cons (by rw [een, hkey]; rfl) (.cons (by rw [een]; exact rv) .nil), ⟨_, hT2, rfl, _, rfl⟩⟩
    have I1 : Inv X pins σ (upd H s.heap.objs.size (.tup [.ref q, v])) { s with heap := h'' } :=
      I.turnedNew (t' := s.toks) (ch := [it]) (fun b ob hb e => (sb.2 b (by simpa using hb)).trans (hk b ob (by simpa using hb) e)) hf (Nat.le_refl _) new
    refine ⟨.ref s.heap.objs.size, _, I1, rfl, ⟨_, q, k, v, hkv, rfl, hq, I.hok.fresh (Nat.le_refl _), rfl⟩, ⟨es'[i].key, es'[i].val, ?_⟩, fun b hb => ?_⟩
    · rw [← hsz]; exact he'
    · have e : b = it := by simpa using hb
      rw [e, upd_ne (Nat.ne_of_lt hlt)]
      exact (hf it (by simp)).1
  done := by
    intro X hP hw hK hc i pins s σ H E I hf st hg
    subst hP hw hK
    obtain ⟨hd, hi⟩ := hg
    obtain ⟨f0, f1, f2, f3, f4, f5⟩ := hf it (by simp)
    obtain ⟨hs, hgd, hx, es', ep', hdt, hsz, raw, ent⟩ := frzTV I hd
    obtain ⟨rfl, rfl⟩ := dict_ep hod hdt
    obtain ⟨ok, ov, he⟩ := st
    rw [← hsz] at he
    exact wpAny_pyNext_items_end_raw (I.ok.hd hc) he raw (by omega) fun h' eb => ⟨rfl, I.turned (t' := s.toks) (fun b ob hb e => eb b ob hb e) f0 f1 f3 f4 f5⟩
  self := fun A i s Q E st h => let ⟨_, _, e⟩ := st; PySem.W.kcp_self e h
end
def iItemsT (td : TE) : TI := fun σ H R => td σ H fun x H1 => ∃ d o kvs, x = .ref d ∧ H1 d = some (.frz o (.dT kvs)) ∧ ((kvs.map (·.1)).Nodup ∧ kvs.length ≤ sizeLine → R (Itit d o kvs) H1)
section
variable {X : Cx} {e : Expr} {td : TE} {apos cpos : Pos}
theorem pi_itemsT {elts : List Expr} {kk : Nat} {tpos : Pos} (he : PE X e td) (hbase : attributeBase e "items" X.env (eval e X.env) = eval e X.env := by rfl) (hline : (apos.endLine == cpos.line) = true := by rfl) :
    PI X (.Tuple elts kk tpos) (.Call (.Attribute e "items" apos) [] [] cpos) (iItemsT td) := by
  refine ⟨fun pins s σ H R I h => ?_⟩
  refine wpAny_Call_method (T := "dict") (id := "dict.items") hbase rfl hline F.plainAttrs_dict F.slot_dict_items F.type_dict_items (thn (he.run pins s σ H _ I h) fun u s1 ⟨x, H1, I1, rx, d, o, kvs, ex, hd, q⟩ => ?_)
  subst ex
  obtain rfl : u = Value.ref d := rx
  have q := q (frzND I1 hd)
  obtain ⟨hs, hgd, hx, es, ep, hdt, hsz, raw, ent⟩ := frzTV I1 hd
  refine ⟨raw.typeIs, fun a e => ?_, ?_⟩
  · cases e
    exact ⟨_, hgd, hx.2.1⟩
  have I2 : Inv X pins σ H1 { s1 with heap := s1.heap.push { cls := .type "dict_items", data := .fields #[.ref d] } } := I1.kept (t' := s1.toks) fun b ob q => Heap.get?_push_of_some _ q
  have raw2 : (s1.heap.push { cls := .type "dict_items", data := .fields #[.ref d] }).DictRaw d es ep := by
    obtain ⟨od, h1, h2, h3⟩ := raw
    exact ⟨od, Heap.get?_push_of_some _ h1, h2, h3⟩
  have fin : wpAny (model X.prog X.w) X.A (pyIter (.ref s1.heap.objs.size)) (PIE X pins σ (.Tuple elts kk tpos) R) X.xe { s1 with heap := s1.heap.push { cls := .type "dict_items", data := .fields #[.ref d] } } := by
    refine wpAny_pyIter_items_raw (d := d) ⟨_, Heap.get?_push_size _ rfl, rfl, rfl⟩ raw2 (pi_one (tk := s1.toks) I2 _ (turn_itemsT _ hdt) ⟨.none, .none, ?_⟩ q)
    rw [← hsz]
    exact Heap.get?_push_size _ rfl
  show wpAny _ _ (callWith cpos (.builtin "dict.items") [.ref d] [] []) _ X.xe s1
  exact method_meetsIn F.slot_dict_items F.entry_dict_items rfl (PySem.evalArgs_none ⟨rfl, raw.typeIs, F.args_dict_items_1 _, _, meets_dict_items_raw d hs, ⟨es, ep, raw⟩, fin⟩)
end
theorem x_itT {td : TE} {σ : L2.St} {H : Hp} {R : It → Hp → Prop} (h : td σ H fun x H1 => ∃ d o kvs, x = .ref d ∧ H1 d = some (.frz o (.dT kvs)) ∧ ((kvs.map (·.1)).Nodup ∧ kvs.length ≤ sizeLine → R (Itit d o kvs) H1)) : iItemsT td σ H R := h
/-! A comprehension within a comprehension: rules whose reading names K itself. -/
theorem pi_listK (K : PySem.W.Frag) {X : Cx} {tg l : Expr} {tl : TE} (hl : PE X l tl) (h : X.K = K := by rfl) : PI X tg l (iList K tl) := by
  subst h
  exact pi_list hl
theorem cr_sumK (K : PySem.W.Frag) {X : Cx} (hc : X.calm = true) (h : X.K = K := by rfl) : CallR X (.builtin "sum") (rSum K) := by
  subst h
  exact cr_sum hc
def topS (i : Nat) : Stmt := PySem.Challenge.pw_leadswitch_k40_along.main.body.getD i (.Pass ⟨0, 0, 0, 0⟩)
abbrev s__wall : Stmt := topS 0
theorem sc__wall : FnScope ["k"] ["k"] (defScope s__wall) := ⟨rfl, rfl, rfl, by decide +kernel, rfl, by decide +kernel, by decide +kernel⟩
abbrev s_is_integer : Stmt := topS 7
theorem sc_is_integer : FnScope ["thing"] ["thing"] (defScope s_is_integer) := ⟨rfl, rfl, rfl, by decide +kernel, rfl, by decide +kernel, by decide +kernel⟩
abbrev s_is_amount : Stmt := topS 8
theorem sc_is_amount : FnScope ["thing"] ["thing"] (defScope s_is_amount) := ⟨rfl, rfl, rfl, by decide +kernel, rfl, by decide +kernel, by decide +kernel⟩
abbrev s_is_count : Stmt := topS 9
theorem sc_is_count : FnScope ["thing"] ["thing"] (defScope s_is_count) := ⟨rfl, rfl, rfl, by decide +kernel, rfl, by decide +kernel, by decide +kernel⟩
abbrev s_is_broker : Stmt := topS 10
theorem sc_is_broker : FnScope ["thing", "size"] ["thing", "size"] (defScope s_is_broker) := ⟨rfl, rfl, rfl, by decide +kernel, rfl, by decide +kernel, by decide +kernel⟩
abbrev s_are_bounds : Stmt := topS 11
theorem sc_are_bounds : FnScope ["thing", "row"] ["thing"] (defScope s_are_bounds) := ⟨rfl, rfl, rfl, by decide +kernel, rfl, by decide +kernel, by decide +kernel⟩
abbrev s__is_bound : Stmt := topS 12
theorem sc__is_bound : FnScope ["thing", "floor", "ceiling"] ["thing"] (defScope s__is_bound) := ⟨rfl, rfl, rfl, by decide +kernel, rfl, by decide +kernel, by decide +kernel⟩
abbrev s_are_bundles : Stmt := topS 13
theorem sc_are_bundles : FnScope ["thing", "size", "row"] ["thing", "size"] (defScope s_are_bundles) := ⟨rfl, rfl, rfl, by decide +kernel, rfl, by decide +kernel, by decide +kernel⟩
abbrev s__is_bundle : Stmt := topS 14
theorem sc__is_bundle : FnScope ["thing", "size", "first", "second", "partitions"] ["thing", "size"] (defScope s__is_bundle) := ⟨rfl, rfl, rfl, by decide +kernel, rfl, by decide +kernel, by decide +kernel⟩
abbrev s_led : Stmt := topS 16
theorem sc_led : FnScope ["cluster", "leads", "one", "other", "at", "first", "_", "partitions"] ["cluster", "leads", "one", "other"] (defScope s_led) := ⟨rfl, rfl, rfl, by decide +kernel, rfl, by decide +kernel, by decide +kernel⟩
abbrev s_loads : Stmt := topS 17
theorem sc_loads : FnScope ["cluster", "leads", "found", "number", "first", "second", "partitions"] ["cluster", "leads"] (defScope s_loads) := ⟨rfl, rfl, rfl, by decide +kernel, rfl, by decide +kernel, by decide +kernel⟩
abbrev s_way_pairs : Stmt := topS 19
theorem sc_way_pairs : FnScope ["brokers", "one", "other"] ["brokers"] (defScope s_way_pairs) := ⟨rfl, rfl, rfl, by decide +kernel, rfl, by decide +kernel, by decide +kernel⟩
abbrev s_takers : Stmt := topS 21
theorem sc_takers : FnScope ["cluster", "leads", "have", "broker"] ["cluster", "leads"] (defScope s_takers) := ⟨rfl, rfl, rfl, by decide +kernel, rfl, by decide +kernel, by decide +kernel⟩
abbrev s__free : Stmt := topS 22
theorem sc__free : FnScope ["cluster", "broker"] ["cluster"] (defScope s__free) := ⟨rfl, rfl, rfl, by decide +kernel, rfl, by decide +kernel, by decide +kernel⟩
abbrev s_Wrong_init : Stmt := inClass (topS 25) 0
theorem sc_Wrong_init : FnScope ["self", "place"] ["self", "place"] (defScope s_Wrong_init) := ⟨rfl, rfl, rfl, by decide +kernel, rfl, by decide +kernel, by decide +kernel⟩
abbrev s_Stopped_init : Stmt := inClass (topS 27) 0
theorem sc_Stopped_init : FnScope ["self", "block", "turn", "run"] ["self", "block", "turn", "run"] (defScope s_Stopped_init) := ⟨rfl, rfl, rfl, by decide +kernel, rfl, by decide +kernel, by decide +kernel⟩
abbrev s_NoBundle_init : Stmt := inClass (topS 28) 0
theorem sc_NoBundle_init : FnScope ["self", "one", "other"] ["self", "one", "other"] (defScope s_NoBundle_init) := ⟨rfl, rfl, rfl, by decide +kernel, rfl, by decide +kernel, by decide +kernel⟩
abbrev s_Frozen_init : Stmt := inClass (topS 29) 0
theorem sc_Frozen_init : FnScope ["self", "bundle"] ["self", "bundle"] (defScope s_Frozen_init) := ⟨rfl, rfl, rfl, by decide +kernel, rfl, by decide +kernel, by decide +kernel⟩
abbrev s_NotValid_init : Stmt := inClass (topS 30) 0
theorem sc_NotValid_init : FnScope ["self", "broker"] ["self", "broker"] (defScope s_NotValid_init) := ⟨rfl, rfl, rfl, by decide +kernel, rfl, by decide +kernel, by decide +kernel⟩
abbrev s_way_block : Stmt := topS 32
theorem sc_way_block : FnScope ["brokers", "times", "takers"] ["brokers", "times", "takers"] (defScope s_way_block) := ⟨rfl, rfl, rfl, by decide +kernel, rfl, by decide +kernel, by decide +kernel⟩
abbrev s__runs : Stmt := topS 33
theorem sc__runs : FnScope ["pairs", "firsts", "order", "held", "pair", "one", "other"] ["pairs", "firsts"] (defScope s__runs) := ⟨rfl, rfl, rfl, by decide +kernel, rfl, by decide +kernel, by decide +kernel⟩
abbrev s_along : Stmt := topS 35
theorem sc_along : FnScope ["cluster", "leads", "brokers", "times", "have", "first", "last"] ["cluster", "leads", "brokers", "times"] (defScope s_along) := ⟨rfl, rfl, rfl, by decide +kernel, rfl, by decide +kernel, by decide +kernel⟩
abbrev s__can_hand : Stmt := topS 36
theorem sc__can_hand : FnScope ["cluster", "leads", "pairs", "times", "one", "other"] ["cluster", "leads", "pairs", "times"] (defScope s__can_hand) := ⟨rfl, rfl, rfl, by decide +kernel, rfl, by decide +kernel, by decide +kernel⟩
abbrev s_Cluster_init : Stmt := inClass (topS 38) 0
theorem sc_Cluster_init : FnScope ["self", "bounds", "bundles"] ["self", "bounds", "bundles"] (defScope s_Cluster_init) := ⟨rfl, rfl, rfl, by decide +kernel, rfl, by decide +kernel, by decide +kernel⟩
abbrev s_Clusterkeep : Stmt := inClass (topS 38) 1
theorem sc_Clusterkeep : FnScope ["self", "bounds", "bundles", "at", "first", "second", "_"] ["self", "bounds", "bundles"] (defScope s_Clusterkeep) := ⟨rfl, rfl, rfl, by decide +kernel, rfl, by decide +kernel, by decide +kernel⟩
abbrev s_Clusterchanged : Stmt := inClass (topS 38) 2
theorem sc_Clusterchanged : FnScope ["self", "bounds", "bundles"] ["self", "bounds", "bundles"] (defScope s_Clusterchanged) := ⟨rfl, rfl, rfl, by decide +kernel, rfl, by decide +kernel, by decide +kernel⟩
abbrev s_Cluster_eq : Stmt := inClass (topS 38) 3
theorem sc_Cluster_eq : FnScope ["self", "other"] ["self", "other"] (defScope s_Cluster_eq) := ⟨rfl, rfl, rfl, by decide +kernel, rfl, by decide +kernel, by decide +kernel⟩
abbrev s_Cluster_len : Stmt := inClass (topS 38) 4
theorem sc_Cluster_len : FnScope ["self"] ["self"] (defScope s_Cluster_len) := ⟨rfl, rfl, rfl, by decide +kernel, rfl, by decide +kernel, by decide +kernel⟩
abbrev s_Cluster_size : Stmt := inClass (topS 38) 5
theorem sc_Cluster_size : FnScope ["self"] ["self"] (defScope s_Cluster_size) := ⟨rfl, rfl, rfl, by decide +kernel, rfl, by decide +kernel, by decide +kernel⟩
abbrev s_Cluster_bounds : Stmt := inClass (topS 38) 6
theorem sc_Cluster_bounds : FnScope ["self"] ["self"] (defScope s_Cluster_bounds) := ⟨rfl, rfl, rfl, by decide +kernel, rfl, by decide +kernel, by decide +kernel⟩
abbrev s_Cluster_bundles : Stmt := inClass (topS 38) 7
theorem sc_Cluster_bundles : FnScope ["self"] ["self"] (defScope s_Cluster_bundles) := ⟨rfl, rfl, rfl, by decide +kernel, rfl, by decide +kernel, by decide +kernel⟩
abbrev s_Cluster_floor : Stmt := inClass (topS 38) 8
theorem sc_Cluster_floor : FnScope ["self", "broker"] ["self", "broker"] (defScope s_Cluster_floor) := ⟨rfl, rfl, rfl, by decide +kernel, rfl, by decide +kernel, by decide +kernel⟩
abbrev s_Cluster_ceiling : Stmt := inClass (topS 38) 9
theorem sc_Cluster_ceiling : FnScope ["self", "broker"] ["self", "broker"] (defScope s_Cluster_ceiling) := ⟨rfl, rfl, rfl, by decide +kernel, rfl, by decide +kernel, by decide +kernel⟩
abbrev s_Cluster_is_rigid : Stmt := inClass (topS 38) 10
theorem sc_Cluster_is_rigid : FnScope ["self", "broker"] ["self", "broker"] (defScope s_Cluster_is_rigid) := ⟨rfl, rfl, rfl, by decide +kernel, rfl, by decide +kernel, by decide +kernel⟩
abbrev s_Cluster_bundle_of : Stmt := inClass (topS 38) 11
theorem sc_Cluster_bundle_of : FnScope ["self", "one", "other"] ["self", "one", "other"] (defScope s_Cluster_bundle_of) := ⟨rfl, rfl, rfl, by decide +kernel, rfl, by decide +kernel, by decide +kernel⟩
abbrev s_Cluster_pairs : Stmt := inClass (topS 38) 12
theorem sc_Cluster_pairs : FnScope ["self", "pair", "at"] ["self"] (defScope s_Cluster_pairs) := ⟨rfl, rfl, rfl, by decide +kernel, rfl, by decide +kernel, by decide +kernel⟩
abbrev s_Cluster_bounded : Stmt := inClass (topS 38) 13
theorem sc_Cluster_bounded : FnScope ["self", "broker", "floor", "ceiling"] ["self", "broker", "floor", "ceiling"] (defScope s_Cluster_bounded) := ⟨rfl, rfl, rfl, by decide +kernel, rfl, by decide +kernel, by decide +kernel⟩
abbrev s_Cluster_grown : Stmt := inClass (topS 38) 14
theorem sc_Cluster_grown : FnScope ["self", "one", "other", "many"] ["self", "one", "other", "many"] (defScope s_Cluster_grown) := ⟨rfl, rfl, rfl, by decide +kernel, rfl, by decide +kernel, by decide +kernel⟩
abbrev s_Cluster_shrunk : Stmt := inClass (topS 38) 15
theorem sc_Cluster_shrunk : FnScope ["self", "one", "other", "many"] ["self", "one", "other", "many"] (defScope s_Cluster_shrunk) := ⟨rfl, rfl, rfl, by decide +kernel, rfl, by decide +kernel, by decide +kernel⟩
abbrev s_is_plan : Stmt := topS 43
theorem sc_is_plan : FnScope ["cluster", "thing"] ["cluster", "thing"] (defScope s_is_plan) := ⟨rfl, rfl, rfl, by decide +kernel, rfl, by decide +kernel, by decide +kernel⟩
abbrev s_is_plan_of : Stmt := topS 44
theorem sc_is_plan_of : FnScope ["pairs", "thing", "many", "block", "turns", "runs"] ["pairs", "thing"] (defScope s_is_plan_of) := ⟨rfl, rfl, rfl, by decide +kernel, rfl, by decide +kernel, by decide +kernel⟩
abbrev s__are_runs : Stmt := topS 45
theorem sc__are_runs : FnScope ["pairs", "things", "thing", "one", "other", "times"] ["pairs", "things"] (defScope s__are_runs) := ⟨rfl, rfl, rfl, by decide +kernel, rfl, by decide +kernel, by decide +kernel⟩
abbrev s_length : Stmt := topS 46
theorem sc_length : FnScope ["plan", "turns", "runs", "_", "times"] ["plan"] (defScope s_length) := ⟨rfl, rfl, rfl, by decide +kernel, rfl, by decide +kernel, by decide +kernel⟩
abbrev s_play : Stmt := topS 47
theorem sc_play : FnScope ["cluster", "leads", "plan", "walk", "block", "turns", "runs", "stop"] ["cluster", "leads", "plan"] (defScope s_play) := ⟨rfl, rfl, rfl, by decide +kernel, rfl, by decide +kernel, by decide +kernel⟩
abbrev s_Walk_init : Stmt := inClass (topS 48) 0
theorem sc_Walk_init : FnScope ["self", "cluster", "leads", "_", "partitions", "floor", "ceiling"] ["self", "cluster", "leads"] (defScope s_Walk_init) := ⟨rfl, rfl, rfl, by decide +kernel, rfl, by decide +kernel, by decide +kernel⟩
abbrev s_Walk_leads : Stmt := inClass (topS 48) 1
theorem sc_Walk_leads : FnScope ["self"] ["self"] (defScope s_Walk_leads) := ⟨rfl, rfl, rfl, by decide +kernel, rfl, by decide +kernel, by decide +kernel⟩
abbrev s_Walk_do : Stmt := inClass (topS 48) 2
theorem sc_Walk_do : FnScope ["self", "turns", "runs", "leads", "have", "run", "before", "now"] ["self", "turns", "runs"] (defScope s_Walk_do) := ⟨rfl, rfl, rfl, by decide +kernel, rfl, by decide +kernel, by decide +kernel⟩
abbrev s_Walkturn : Stmt := inClass (topS 48) 3
theorem sc_Walkturn : FnScope ["self", "runs", "led", "have", "pairs", "partitions", "floors", "ceilings", "run", "one", "other", "times", "at", "number", "less", "more"] ["self", "runs"] (defScope s_Walkturn) := ⟨rfl, rfl, rfl, by decide +kernel, rfl, by decide +kernel, by decide +kernel⟩
abbrev s__rooms_of : Stmt := topS 49
theorem sc__rooms_of : FnScope ["cluster", "leads", "runs", "after", "have", "rooms", "bundles", "one", "other", "times", "at", "left"] ["cluster", "leads", "runs"] (defScope s__rooms_of) := ⟨rfl, rfl, rfl, by decide +kernel, rfl, by decide +kernel, by decide +kernel⟩
abbrev s__first_stop : Stmt := topS 50
theorem sc__first_stop : FnScope ["cluster", "leads", "runs", "after", "rooms", "_", "later", "stops", "run", "now", "then", "room", "next_room", "turn"] ["cluster", "leads", "runs"] (defScope s__first_stop) := ⟨rfl, rfl, rfl, by decide +kernel, rfl, by decide +kernel, by decide +kernel⟩
abbrev s__first_below : Stmt := topS 51
theorem sc__first_below : FnScope ["room", "change"] ["room", "change"] (defScope s__first_below) := ⟨rfl, rfl, rfl, by decide +kernel, rfl, by decide +kernel, by decide +kernel⟩
abbrev s_Lbag : Stmt := topS 53
theorem sc_Lbag : FnScope ["_law_script", "_law_cell"] ["_law_script"] (defScope s_Lbag) := ⟨rfl, rfl, rfl, by decide +kernel, rfl, by decide +kernel, by decide +kernel⟩
abbrev s_Ltake : Stmt := topS 54
theorem sc_Ltake : FnScope ["_law_bag_here", "_law_many", "_law_cell", "_law_value", "_law_first", "_law_second"] ["_law_bag_here", "_law_many"] (defScope s_Ltake) := ⟨rfl, rfl, rfl, by decide +kernel, rfl, by decide +kernel, by decide +kernel⟩
abbrev s_Lalike : Stmt := topS 55
theorem sc_Lalike : FnScope ["_law_found", "_law_due"] ["_law_found", "_law_due"] (defScope s_Lalike) := ⟨rfl, rfl, rfl, by decide +kernel, rfl, by decide +kernel, by decide +kernel⟩
abbrev s_Lamount : Stmt := topS 56
theorem sc_Lamount : FnScope ["_law_bag_here", "_law_great"] ["_law_bag_here", "_law_great"] (defScope s_Lamount) := ⟨rfl, rfl, rfl, by decide +kernel, rfl, by decide +kernel, by decide +kernel⟩
abbrev s_Lbundles : Stmt := topS 57
theorem sc_Lbundles : FnScope ["_law_bag_here", "_law_size", "_law_great", "_law_rare", "_law_found", "_law_first", "_law_second"] ["_law_bag_here", "_law_size", "_law_great"] (defScope s_Lbundles) := ⟨rfl, rfl, rfl, by decide +kernel, rfl, by decide +kernel, by decide +kernel⟩
abbrev s_Lloads : Stmt := topS 58
theorem sc_Lloads : FnScope ["_law_size", "_law_bundles_here", "_law_leads", "_law_found", "_law_many", "_law_first", "_law_second", "_law_partitions"] ["_law_size", "_law_bundles_here", "_law_leads"] (defScope s_Lloads) := ⟨rfl, rfl, rfl, by decide +kernel, rfl, by decide +kernel, by decide +kernel⟩
abbrev s_Lbounds : Stmt := topS 59
theorem sc_Lbounds : FnScope ["_law_bag_here", "_law_held", "_law_found", "_law_load", "_law_under", "_law_over"] ["_law_bag_here", "_law_held"] (defScope s_Lbounds) := ⟨rfl, rfl, rfl, by decide +kernel, rfl, by decide +kernel, by decide +kernel⟩
abbrev s_Lnet : Stmt := topS 60
theorem sc_Lnet : FnScope ["_law_bag_here", "_law_most", "_law_great", "_law_size", "_law_bundles_here", "_law_leads", "_law_first", "_law_second", "_law_partitions"] ["_law_bag_here", "_law_most", "_law_great"] (defScope s_Lnet) := ⟨rfl, rfl, rfl, by decide +kernel, rfl, by decide +kernel, by decide +kernel⟩
abbrev s_Lled : Stmt := topS 61
theorem sc_Lled : FnScope ["_law_bundles_here", "_law_leads", "_law_one", "_law_other", "_law_many", "_law_first", "_law_second", "_law_partitions"] ["_law_bundles_here", "_law_leads", "_law_one", "_law_other"] (defScope s_Lled) := ⟨rfl, rfl, rfl, by decide +kernel, rfl, by decide +kernel, by decide +kernel⟩
abbrev s_Lpairs : Stmt := topS 62
theorem sc_Lpairs : FnScope ["_law_bundles_here", "_law_found", "_law_first", "_law_second", "_law_partitions"] ["_law_bundles_here"] (defScope s_Lpairs) := ⟨rfl, rfl, rfl, by decide +kernel, rfl, by decide +kernel, by decide +kernel⟩
abbrev s_Lmoved : Stmt := topS 63
theorem sc_Lmoved : FnScope ["_law_bundles_here", "_law_leads", "_law_one", "_law_other", "_law_times", "_law_found", "_law_many", "_law_first", "_law_second", "_law_partitions"] ["_law_bundles_here", "_law_leads", "_law_one", "_law_other", "_law_times"] (defScope s_Lmoved) := ⟨rfl, rfl, rfl, by decide +kernel, rfl, by decide +kernel, by decide +kernel⟩
abbrev s_Lpath : Stmt := topS 64
theorem sc_Lpath : FnScope ["_law_bag_here", "_law_bundles_here", "_law_begin", "_law_most", "_law_found", "_law_k", "_law_some", "_law_one", "_law_other"] ["_law_bag_here", "_law_bundles_here", "_law_begin", "_law_most"] (defScope s_Lpath) := ⟨rfl, rfl, rfl, by decide +kernel, rfl, by decide +kernel, by decide +kernel⟩
abbrev s_Ltold : Stmt := topS 65
theorem sc_Ltold : FnScope ["_law_cluster", "_law_leads", "_law_brokers_here", "_law_times", "e"] ["_law_cluster", "_law_leads", "_law_brokers_here", "_law_times"] (defScope s_Ltold) := ⟨rfl, rfl, rfl, by decide +kernel, rfl, by decide +kernel, by decide +kernel⟩
abbrev s_Ltop : Stmt := topS 66
theorem sc_Ltop : FnScope ["_law_bounds_here", "_law_bundles_here", "_law_leads", "_law_brokers_here", "_law_held", "_law_rooms", "_law_above", "_law_below", "_law_broker", "_law_one", "_law_other"] ["_law_bounds_here", "_law_bundles_here", "_law_leads", "_law_brokers_here"] (defScope s_Ltop) := ⟨rfl, rfl, rfl, by decide +kernel, rfl, by decide +kernel, by decide +kernel⟩
abbrev s_Lbrokers : Stmt := topS 67
theorem sc_Lbrokers : FnScope ["_law_bag_here", "_law_bundles_here", "_law_leads", "_law_row", "_law_found", "_law_k", "_law_open_ones", "_law_later", "_law_pair", "_law_one", "_law_other"] ["_law_bag_here", "_law_bundles_here", "_law_leads"] (defScope s_Lbrokers) := ⟨rfl, rfl, rfl, by decide +kernel, rfl, by decide +kernel, by decide +kernel⟩
abbrev s_Lright : Stmt := topS 68
theorem sc_Lright : FnScope ["_law_cluster", "_law_bounds_here", "_law_bundles_here", "_law_leads", "_law_brokers_here", "_law_times", "_law_shown", "_law_top_here", "_law_found", "_law_due", "_law_one", "_law_other", "_law_first", "_law_again"] ["_law_cluster", "_law_bounds_here", "_law_bundles_here", "_law_leads", "_law_brokers_here", "_law_times"] (defScope s_Lright) := ⟨rfl, rfl, rfl, by decide +kernel, rfl, by decide +kernel, by decide +kernel⟩
abbrev s_law : Stmt := topS 69
theorem sc_law : FnScope ["_law_script", "_law_bag_here", "_law_k", "_law_bounds_here", "_law_bundles_here", "_law_leads", "_law_cluster", "_law_brokers_here", "_law_top_here", "_law_times", "_law_later", "_law_one", "_law_other"] ["_law_script"] (defScope s_law) := ⟨rfl, rfl, rfl, by decide +kernel, rfl, by decide +kernel, by decide +kernel⟩

def tokOf : Option Value → Tok
  | some (.int _ t) => t
  | _ => 0
structure Cs (mg : Str → Option Value) (t0 t1 t2 t3 t4 : Tok) : Prop where
  MOST_AMOUNT : mg "MOST_AMOUNT" = some (.int (10 ^ 30) t0)
  MOST_COUNT : mg "MOST_COUNT" = some (.int (10 ^ 18) t1)
  LEAST_SIZE : mg "LEAST_SIZE" = some (.int 2 t2)
  MOST_SIZE : mg "MOST_SIZE" = some (.int 10 t3)
  MOST_BUNDLES : mg "MOST_BUNDLES" = some (.int 45 t4)
  MOST_BLOCKS : mg "MOST_BLOCKS" = some (.int 400 (tokOf (mg "MOST_BLOCKS")))
  MOST_RUNS_OF_A_BLOCK : mg "MOST_RUNS_OF_A_BLOCK" = some (.int 1000 (tokOf (mg "MOST_RUNS_OF_A_BLOCK")))
  MOST_RUNS : mg "MOST_RUNS" = some (.int 4000 (tokOf (mg "MOST_RUNS")))
theorem tok_mk {mg : Str → Option Value} {x : Str} {n : Int} {t : Tok} (h : mg x = some (.int n t)) : mg x = some (.int n (tokOf (mg x))) := by rw [h]; rfl
theorem cs_mk {K : PySem.W.Frag} {h : Heap} {mg : Str → Option Value} {t0 t1 t2 t3 t4 t5 t6 t7 : Tok} (X : K.In h) (G : h.Ns mainGlobals mg)
    (z0 : PySem.W.nsIn K mainGlobals "MOST_AMOUNT" = some (some (.int (10 ^ 30) t0)))
    (z1 : PySem.W.nsIn K mainGlobals "MOST_COUNT" = some (some (.int (10 ^ 18) t1)))
    (z2 : PySem.W.nsIn K mainGlobals "LEAST_SIZE" = some (some (.int 2 t2)))
    (z3 : PySem.W.nsIn K mainGlobals "MOST_SIZE" = some (some (.int 10 t3)))
    (z4 : PySem.W.nsIn K mainGlobals "MOST_BUNDLES" = some (some (.int 45 t4)))
    (z5 : PySem.W.nsIn K mainGlobals "MOST_BLOCKS" = some (some (.int 400 t5)))
    (z6 : PySem.W.nsIn K mainGlobals "MOST_RUNS_OF_A_BLOCK" = some (some (.int 1000 t6)))
    (z7 : PySem.W.nsIn K mainGlobals "MOST_RUNS" = some (some (.int 4000 t7))) : Cs mg t0 t1 t2 t3 t4 :=
  ⟨PySem.W.mg_of X G z0, PySem.W.mg_of X G z1, PySem.W.mg_of X G z2, PySem.W.mg_of X G z3, PySem.W.mg_of X G z4, tok_mk (PySem.W.mg_of X G z5), tok_mk (PySem.W.mg_of X G z6), tok_mk (PySem.W.mg_of X G z7)⟩
local macro_rules | `(tactic| walk_at "ne") => `(tactic| first
  | assumption | exact Ne.symm (by assumption) | exact ne_of_none (by walk_at "lk") (by assumption) | exact ne_of_none2 (by assumption) (by walk_at "lk"))
local macro_rules | `(tactic| walk_at "lk") => `(tactic| first
  | assumption
  | exact upd_same
  | (refine' upd_ne2 ?kn ?ke; (case kn => walk_at "ne"); (case ke => walk_at "lk"))
  | (refine' SqL.of ?ke; (case ke => walk_at "lk"))
  | (refine' SqT.of ?ke; (case ke => walk_at "lk")))
local macro_rules | `(tactic| walk_at "y") => `(tactic| first
  | (with_reducible first
    | refine x_seq ?_ | refine x_asg ?_ | refine x_name ?_ | refine x_op ?_ | refine x_c ?_
    | refine x_I0 ?_ | refine x_cons ?_ | refine x_nil ?_ | refine x_cb ?_ | refine x_call ?_ | refine x_ret ?_ | refine x_retN ?_
    | refine x_ifS ?_ | refine x_test ?_ | refine x_B ?_ | refine x_bl ?_ | refine x_eqI ?_ | refine x_neI ?_ | refine x_drop ?_ | refine x_next ?_
    | refine x_and ?_ | refine x_or ?_ | refine x_not ?_ | refine x_notV ?_ | refine x_if ?_ | refine x_chain ?_
    | refine x_un ?_ | refine x_U ?_ | refine x_iteT ?_ | refine x_iteF ?_ | refine x_iteNT ?_ | refine x_iteNF ?_ | refine x_yes ?_
    | refine x_augS ?_ | refine x_ipI ?_ | refine x_gsub ?_ | refine x_par ?_ | refine x_par2 ?_ | refine x_lst ?_ | refine x_tup ?_ | refine x_break ?_ | refine x_cont ?_
    | refine x_rev ?_ | refine x_dnew ?_ | refine x_disp ?_ | refine x_eqS ?_ | refine x_neS ?_ | refine x_isI ?_ | refine x_sl ?_ | refine x_noPart ?_ | refine x_part ?_ | refine x_for ?_ | refine x_iL ?_ | refine x_iT ?_ | refine x_r1 ?_ | refine x_r2 ?_ | refine x_lc ?_ | refine x_setC ?_ | refine x_gcons ?_ | refine x_gnil ?_ | refine x_revT ?_ | refine x_bm ?_ | refine x_sFld ?_ | refine x_tFld ?_ | refine x_meth ?_ | refine x_make ?_ | refine x_dcT ?_ | refine x_en ?_ | refine x_zM ?_ | refine x_zL ?_ | refine x_zX ?_ | refine x_orT ?_ | refine x_isB ?_ | refine x_zU ?_ | refine x_dget ?_ | refine x_din ?_ | refine x_dnotin ?_ | refine x_dc ?_)
  | ((with_reducible refine' x_zLAt ?kp ?kq ?kh); (case kp => walk_at "lk"); (case kq => walk_at "lk"))
  | ((with_reducible refine' x_zUAt ?kp ?kq ?kh); (case kp => walk_at "lk"); (case kq => walk_at "lk"))
  | ((with_reducible refine' x_enL ?kp ?kh); (case kp => walk_at "lk"))
  | ((with_reducible refine' x_zAt ?kp ?kq ?kh); (case kp => walk_at "lk"); (case kq => walk_at "lk"))
  | ((with_reducible refine' x_tyL ?kp ?kh); (case kp => walk_at "lk"))
  | ((with_reducible refine' x_gtup ?kp ?kl ?kh); (case kp => walk_at "lk"); (case kl => rfl))
  | ((with_reducible refine' x_var ?ke ?kh); (case ke => rfl))
  | ((with_reducible refine' x_ixL ?kp ?ke ?kh); (case kp => walk_at "lk"); (case ke => rfl))
  | ((with_reducible refine' x_ixT ?kp ?ke ?kh); (case kp => walk_at "lk"); (case ke => rfl))
  | ((with_reducible refine' x_getL ?kp ?ki ?ke ?kh); (case kp => walk_at "lk"); (case ki => rfl); (case ke => rfl))
  | ((with_reducible refine' x_setL ?kp ?ke ?kh); (case kp => walk_at "lk"); (case ke => rfl))
  | ((with_reducible refine' x_len ?kp ?kh); (case kp => walk_at "lk"))
  | ((with_reducible refine' x_lenT ?kp ?kh); (case kp => walk_at "lk"))
  | ((with_reducible refine' x_all ?kp ?kh); (case kp => walk_at "lk"))
  | ((with_reducible refine' x_slL ?kp ?kh); (case kp => walk_at "lk"))
  | ((with_reducible refine' x_cat ?kp ?kq ?kz ?kh); (case kp => walk_at "lk"); (case kq => walk_at "lk"); (case kz => walk_at "sz"))
  | ((with_reducible refine' x_toTup ?kp ?kh); (case kp => walk_at "lk"))
  | ((with_reducible refine' x_lp ?kp ?kh); (case kp => walk_at "lk"))
  | ((with_reducible refine' x_tp ?kp ?kh); (case kp => walk_at "lk"))
  | ((with_reducible refine' x_rg ?kp ?kq ?kh); (case kp => walk_at "ar"); (case kq => walk_at "ar"))
  | ((with_reducible refine' x_rg2 ?kp ?kh); (case kp => walk_at "ar"))
  | (with_reducible refine x_int1 ?_)
  | (with_reducible refine x_int2 ?_)
  | ((with_reducible refine' x_isD ?kp ?kq ?kh); (case kp => walk_at "dn"); (case kq => simp))
  | ((with_reducible refine' x_new ?kp ?kh); (case kp => exact Nat.le_of_ble_eq_true rfl))
  | ((with_reducible refine' x_mod ?kp ?kh); (case kp => decide))
  | ((with_reducible refine' x_mul ?kp ?kh); (case kp => walk_at "mulok"))
  | ((with_reducible refine' x_pow ?kp ?kh); (case kp => exact ⟨by decide, by decide, by decide⟩)))
local macro_rules | `(tactic| walk_at "ar") => `(tactic| first | decide | omega | (refine ⟨?_, ?_, ?_, ?_⟩ <;> (first | decide | omega)))
local macro_rules | `(tactic| walk_at "dn") => `(tactic| assumption)
local macro_rules | `(tactic| walk_at "mulok") => `(tactic| first | (exact .inl ⟨by omega, by omega⟩) | (exact .inr ⟨by omega, by omega⟩))
local macro_rules | `(tactic| walk_at "sz") => `(tactic| first | decide | (simp only [List.length_append, List.length_cons, List.length_nil, List.length_map, List.length_singleton, sizeLine_eq]; omega))
local macro_rules | `(tactic| walk_at "x") => `(tactic| first | walk_at "y" | (with_reducible refine x_andV ?_) | (with_reducible refine x_orV ?_))
local macro_rules | `(tactic| walk_at "ys") => `(tactic| repeat walk_at "y")
local macro_rules | `(tactic| walk_at "xs") => `(tactic| repeat walk_at "x")


/-- the drawn bag -/
def Bag (H : Hp) (b c : Addr) : Prop := ∃ (x y : Int) (k : Nat) (cs : List Int), H b = some (.lst [.int x, .int y, .int k, .ref c]) ∧ H c = some (.lst (cs.map V.int)) ∧
  0 ≤ x ∧ 0 ≤ y ∧ y < 2147483647 ∧ (∀ z ∈ cs, 0 ≤ z) ∧ c ≠ b
def spTake : Sp := fun vs H Q _ => ∃ b c n, vs = [.ref b, .int n] ∧ Bag H b c ∧ 0 < n ∧ n.natAbs < 2 ^ 200 ∧
  ∀ H' v, Ext [b] H H' → Bag H' b c → 0 ≤ v → v < n → Q (.int v) H'

structure Bl (mg : Str → Option Value) : Prop where
  isinstance : mg "isinstance" = none
  «int» : mg "int" = none
  «bool» : mg "bool" = none
  «list» : mg "list" = none
  «tuple» : mg "tuple" = none
  «str» : mg "str" = none
  len : mg "len" = none
  abs : mg "abs" = none
  range : mg "range" = none
  repr : mg "repr" = none
  all : mg "all" = none
  max : mg "max" = none
  min : mg "min" = none
  sum : mg "sum" = none
  zip : mg "zip" = none
  enumerate : mg "enumerate" = none
  sorted : mg "sorted" = none
  any : mg "any" = none
  set : mg "set" = none
  ValueError : mg "ValueError" = none
theorem bl_mk {K : PySem.W.Frag} {h : Heap} {mg : Str → Option Value} (X : K.In h) (G : h.Ns mainGlobals mg)
    (z0 : PySem.W.nsIn K mainGlobals "isinstance" = some none)
    (z1 : PySem.W.nsIn K mainGlobals "int" = some none)
    (z2 : PySem.W.nsIn K mainGlobals "bool" = some none)
    (z3 : PySem.W.nsIn K mainGlobals "list" = some none)
    (z4 : PySem.W.nsIn K mainGlobals "tuple" = some none)
    (z5 : PySem.W.nsIn K mainGlobals "str" = some none)
    (z6 : PySem.W.nsIn K mainGlobals "len" = some none)
    (z7 : PySem.W.nsIn K mainGlobals "abs" = some none)
    (z8 : PySem.W.nsIn K mainGlobals "range" = some none)
    (z9 : PySem.W.nsIn K mainGlobals "repr" = some none)
    (z10 : PySem.W.nsIn K mainGlobals "all" = some none)
    (z11 : PySem.W.nsIn K mainGlobals "max" = some none)
    (z12 : PySem.W.nsIn K mainGlobals "min" = some none)
    (z13 : PySem.W.nsIn K mainGlobals "sum" = some none)
    (z14 : PySem.W.nsIn K mainGlobals "zip" = some none)
    (z15 : PySem.W.nsIn K mainGlobals "enumerate" = some none)
    (z16 : PySem.W.nsIn K mainGlobals "sorted" = some none)
    (z17 : PySem.W.nsIn K mainGlobals "any" = some none)
    (z18 : PySem.W.nsIn K mainGlobals "set" = some none)
    (z19 : PySem.W.nsIn K mainGlobals "ValueError" = some none) : Bl mg :=
  ⟨PySem.W.mg_none_of X G z0, PySem.W.mg_none_of X G z1, PySem.W.mg_none_of X G z2, PySem.W.mg_none_of X G z3, PySem.W.mg_none_of X G z4, PySem.W.mg_none_of X G z5, PySem.W.mg_none_of X G z6, PySem.W.mg_none_of X G z7, PySem.W.mg_none_of X G z8, PySem.W.mg_none_of X G z9, PySem.W.mg_none_of X G z10, PySem.W.mg_none_of X G z11, PySem.W.mg_none_of X G z12, PySem.W.mg_none_of X G z13, PySem.W.mg_none_of X G z14, PySem.W.mg_none_of X G z15, PySem.W.mg_none_of X G z16, PySem.W.mg_none_of X G z17, PySem.W.mg_none_of X G z18, PySem.W.mg_none_of X G z19⟩
section
variable {P : Program} {w : World} {K : PySem.W.Frag} {mg : Str → Option Value} {base : Heap} {t0 t1 t2 t3 t4 : Tok}
theorem kn_take {k : Nat} (D : Df K mg "_law_take" s_Ltake) (B : Bl mg) : Kn P w K mg base "_law_take" (k + 1) spTake := by
  refine kn_of D (fun _ _ _ _ _ _ us hl => match us, hl with | [_, _], _ => rfl) sc_Ltake (fun vs H Q E h => by obtain ⟨b, c, n, rfl, _⟩ := h; rfl) (fun f cd B' fr z H vs Q E hr gd h => ?_)
  obtain ⟨b, c, n, rfl, ⟨x, y, k, cs, hb, hc, hx, hy, hy2, hcs, ncb⟩, hn, hn2, q⟩ := h
  refine ⟨_, (pss_cut (ps_if (pt_cmpR op_eq (pe_ix (r := rIxL K) ix_list (pv 0) pe_int (fun _ _ => rfl)) pe_int (nomark _)) (pss_cons (ps_set (i := 2) sc_Ltake.nd rfl (.inl rfl) pe_int)
  (pss_cut (ps_if (pt_cmpR op_lt (pe_ix (r := rIxL K) ix_list (pv 0) pe_int (fun _ _ => rfl)) (pe_callB call_len_seq (by rfl) B.len (by decide +kernel) (pa_cons (pe_ix (r := rIxL K) ix_list (pv 0) pe_int (fun _ _ => rfl)) pa_nil)) (nomark _)) (pss_one (ps_set (i := 2) sc_Ltake.nd rfl (.inl rfl) (pe_ix (r := rIxL K) ix_list (pe_ix (r := rIxL K) ix_list (pv 0) pe_int (fun _ _ => rfl)) (pe_ix (r := rIxL K) ix_list (pv 0) pe_int (fun _ _ => rfl)) (fun _ _ => rfl)))) pss_nil)
  (pss_cons (ps_augS (pv 0) pe_int get_list pe_int ip_add set_list)
  (pss_cut (ps_if (pt_cmpR op_ge (pv 2) pe_int (nomark _)) (pss_one (ps_asg (pv 2) (pg_sub (pv 0) pe_int set_list))) pss_nil)
  (pss_one (ps_asg (pe_op op_mod (pe_op op_add (pe_op op_add (pe_op op_mul (pe_ix (r := rIxL K) ix_list (pv 0) pe_int (fun _ _ => rfl)) pe_int) (pe_op op_mod (pv 2) pe_int)) (pe_op op_mul pe_int (pe_ix (r := rIxL K) ix_list (pv 0) pe_int (fun _ _ => rfl)))) pe_int) (pg_sub (pv 0) pe_int set_list))))))) pss_nil)
  (pss_cons (ps_if (pt_cmpR op_gt (pe_ix (r := rIxL K) ix_list (pv 0) pe_int (fun _ _ => rfl)) pe_int (nomark _)) (pss_cons (ps_set (i := 3) sc_Ltake.nd rfl (.inl rfl) (pe_op op_mod (pe_ix (r := rIxL K) ix_list (pv 0) pe_int (fun _ _ => rfl)) (pv 1)))
  (pss_cons (ps_asg (pe_op op_fdivW (pe_ix (r := rIxL K) ix_list (pv 0) pe_int (fun _ _ => rfl)) (pv 1)) (pg_sub (pv 0) pe_int set_list))
  (pss_one (ps_ret (pv 3))))) pss_nil)
  (pss_cons (ps_set (i := 4) sc_Ltake.nd rfl (.inl rfl) (pe_op op_mod (pe_op op_mul (pe_op op_add (pe_ix (r := rIxL K) ix_list (pv 0) pe_int (fun _ _ => rfl)) pe_int) pe_int) pe_int))
  (pss_cons (ps_set (i := 5) sc_Ltake.nd rfl (.inl rfl) (pe_op op_mod (pe_op op_mul (pe_op op_mod (pe_op op_mul (pv 4) (pv 4)) pe_int) pe_int) pe_int))
  (pss_cons (ps_if (pt_cmpR op_gt (pv 1) pe_int (nomark _)) (pss_one (ps_ret (pe_op op_mod (pe_op op_add (pe_op op_mul (pv 5) pe_int) (pv 4)) (pv 1)))) pss_nil)
  (pss_one (ps_ret (pe_op op_mod (pe_op op_fdivW (pv 5) pe_int) (pv 1))))))))), ?_⟩
  refine x_cut (fun σ' H' => ∃ v2, σ' = [some (.ref b), some (.int n), v2, none, none, none] ∧ Ext [b] H H' ∧ Bag H' b c) ?_ ?_
  · walk_at "xs"
    refine x_ite (fun h0 => ?_) (fun h0 => ?_)
    · subst h0
      walk_at "xs"
      refine x_cut (fun σ' H' => ∃ v2 : Int, σ' = [some (.ref b), some (.int n), some (.int v2), none, none, none] ∧ H = H' ∧ 0 ≤ v2) ?_ ?_
      · walk_at "xs"
        refine x_ite (fun h0 => ?_) (fun h0 => ?_)
        · have hk : k < cs.length := by simpa using h0
          walk_at "xs"
          refine x_ixL (SqL.of hc) (atI_nat (v := .int cs[k]) (by rw [List.getElem?_map, List.getElem?_eq_getElem hk]; rfl)) ?_
          walk_at "xs"
          exact ⟨cs[k], rfl, rfl, hcs _ (List.getElem_mem hk)⟩
        · walk_at "xs"
          exact ⟨0, rfl, rfl, Int.le_refl 0⟩
      · rintro _ _ ⟨v, rfl, rfl, hv⟩
        walk_at "xs"
        refine x_cut (fun σ' H' => ∃ x' : Int, 0 ≤ x' ∧ σ' = [some (.ref b), some (.int n), some (.int v), none, none, none] ∧ H' b = some (.lst [.int x', .int y, .int (k + 1 : Nat), .ref c]) ∧ Ext [b] H H') ?_ ?_
        · walk_at "xs"
          refine x_ite (fun h0 => ?_) (fun h0 => ?_)
          · walk_at "xs"
            exact ⟨v, hv, rfl, by rw [upd_same]; rfl, fun a o n e => by rw [upd_ne (by simpa using n), upd_ne (by simpa using n)]; exact e⟩
          · walk_at "xs"
            exact ⟨0, Int.le_refl 0, rfl, by rw [upd_same]; rfl, fun a o n e => by rw [upd_ne (by simpa using n)]; exact e⟩
        · rintro _ H2 ⟨x', hx', rfl, hb2, he⟩
          walk_at "xs"
          refine ⟨_, rfl, fun a o n e => by rw [upd_ne (by simpa using n)]; exact he a o n e, x', _, k + 1, cs, by rw [upd_same]; rfl, ?_, hx', ?_, ?_, hcs, ncb⟩
          · rw [upd_ne ncb]; exact he c _ (by simpa using ncb) hc
          · exact Int.emod_nonneg _ (by decide)
          · exact Int.emod_lt_of_pos _ (by decide)
    · walk_at "xs"
      exact ⟨_, rfl, Ext.refl _ _, x, y, k, cs, hb, hc, hx, hy, hy2, hcs, ncb⟩
  · rintro _ H1 ⟨v2, rfl, he, x, y, k, cs, hb, hc, hx, hy, hy2, hcs, ncb⟩
    walk_at "xs"
    refine x_ite (fun h0 => ?_) (fun h0 => ?_)
    · walk_at "xs"
      refine x_mod hn ?_
      walk_at "xs"
      refine x_div (wide_div hn hn2 (by decide) (by decide)) ?_
      walk_at "xs"
      refine q _ _ (fun a o m e => by rw [upd_ne (by simpa using m)]; exact he a o m e) ⟨_, y, k, cs, upd_same, ?_, Int.ediv_nonneg hx (Int.le_of_lt hn), hy, hy2, hcs, ncb⟩ (Int.emod_nonneg _ (Int.ne_of_gt hn)) (Int.emod_lt_of_pos _ hn)
      rw [upd_ne ncb]; exact hc
    · have e1 := Int.emod_nonneg ((y + 1) * 39373) (show (1000000007 : Int) ≠ 0 by decide)
      have e2 := Int.emod_lt_of_pos ((y + 1) * 39373) (show (0 : Int) < 1000000007 by decide)
      walk_at "xs"
      have e3 := Int.emod_nonneg ((y + 1) * 39373 % 1000000007 * ((y + 1) * 39373 % 1000000007) % 998244353 * 30011) (show (998244353 : Int) ≠ 0 by decide)
      have e4 := Int.emod_lt_of_pos ((y + 1) * 39373 % 1000000007 * ((y + 1) * 39373 % 1000000007) % 998244353 * 30011) (show (0 : Int) < 998244353 by decide)
      refine x_ite (fun h1 => ?_) (fun h1 => ?_)
      · walk_at "xs"
        refine x_mod hn ?_
        exact q _ _ he ⟨x, y, k, cs, hb, hc, hx, hy, hy2, hcs, ncb⟩ (Int.emod_nonneg _ (Int.ne_of_gt hn)) (Int.emod_lt_of_pos _ hn)
      · walk_at "xs"
        refine x_div (wide_div (b := 3) (by decide) (by decide) (by decide) (by decide)) ?_
        walk_at "xs"
        refine x_mod hn ?_
        exact q _ _ he ⟨x, y, k, cs, hb, hc, hx, hy, hy2, hcs, ncb⟩ (Int.emod_nonneg _ (Int.ne_of_gt hn)) (Int.emod_lt_of_pos _ hn)

end

section
variable {P : Program} {w : World} {K : PySem.W.Frag} {mg : Str → Option Value} {base : Heap} {t0 t1 t2 t3 t4 : Tok}
/-! ### the small tests -/
def isIntD : PyData → Bool
  | .int _ => true
  | _ => false
def inD (lo hi : Int) : PyData → Bool
  | .int i => decide (lo ≤ i) && decide (i ≤ hi)
  | _ => false
theorem isInt_eq (d : PyData) : (isT "int" d && !isT "bool" d) = isIntD d := by rw [isT_int, isT_bool]; cases d <;> rfl
/-- a test of one thing that makes nothing -/
def sp1 (g : PyData → Bool) : Sp := fun vs H Q _ => ∃ v d M, vs = [v] ∧ Dn M H v d ∧ Q (.bl (g d)) H
def sp2 (g : PyData → Int → Bool) : Sp := fun vs H Q _ => ∃ v d M n, vs = [v, .int n] ∧ Dn M H v d ∧ Q (.bl (g d n)) H
def sp3 (g : PyData → Int → Int → Bool) : Sp := fun vs H Q _ => ∃ v d M n m, vs = [v, .int n, .int m] ∧ Dn M H v d ∧ Q (.bl (g d n m)) H
theorem x_sp1 {g : PyData → Bool} {v : V} {d : PyData} {M : List Addr} {H : Hp} {Q : VK} {E : XK} (hd : Dn M H v d) (h : Q (.bl (g d)) H) : sp1 g [v] H Q E := ⟨v, d, M, rfl, hd, h⟩
theorem x_sp2 {g : PyData → Int → Bool} {v : V} {d : PyData} {M : List Addr} {n : Int} {H : Hp} {Q : VK} {E : XK} (hd : Dn M H v d) (h : Q (.bl (g d n)) H) : sp2 g [v, .int n] H Q E := ⟨v, d, M, n, rfl, hd, h⟩
theorem x_sp3 {g : PyData → Int → Int → Bool} {v : V} {d : PyData} {M : List Addr} {n m : Int} {H : Hp} {Q : VK} {E : XK} (hd : Dn M H v d) (h : Q (.bl (g d n m)) H) : sp3 g [v, .int n, .int m] H Q E := ⟨v, d, M, n, m, rfl, hd, h⟩
theorem Dn.isInt {M : List Addr} {H : Hp} {v : V} {d : PyData} (h : Dn M H v d) (e : isIntD d = true) : ∃ i, v = .int i ∧ d = .int i := by
  cases h <;> first | exact ⟨_, rfl, rfl⟩ | cases e

theorem kn_is_integer {k : Nat} (D : Df K mg "is_integer" s_is_integer) (B : Bl mg) : Kn P w K mg base "is_integer" (k + 1) (sp1 isIntD) := by
  refine kn_of D (fun _ _ _ _ _ _ us hl => match us, hl with | [_], _ => rfl) sc_is_integer (fun vs H Q E h => by obtain ⟨v, d, M, rfl, _⟩ := h; rfl) (fun f cd B' fr z H vs Q E hr gd h => ?_)
  obtain ⟨v, d, M, rfl, hd, q⟩ := h
  refine ⟨_, (pss_one (ps_ret (pe_and (pe_callB call_isD (by rfl) B.isinstance (by decide +kernel) (pa_cons (pv 0) (pa_cons (pe_bltn (v := .ty "int") (u := .type "int") (by rfl) B.«int» (by decide +kernel) rfl) pa_nil))) (pe_one (pe_not (pe_callB call_isD (by rfl) B.isinstance (by decide +kernel) (pa_cons (pv 0) (pa_cons (pe_bltn (v := .ty "bool") (u := .type "bool") (by rfl) B.«bool» (by decide +kernel) rfl) pa_nil)))))))), ?_⟩
  rw [← isInt_eq] at q
  walk_at "xs"
  refine x_iteB (fun h => ?_) (fun h => ?_)
  · walk_at "xs"
    rw [h] at q; exact q
  · walk_at "xs"
    rw [h] at q; exact q

theorem kn_is_amount {k : Nat} (D : Df K mg "is_amount" s_is_amount) (B : Bl mg) (CS : Cs mg t0 t1 t2 t3 t4) (c_is_integer : Kn P w K mg base "is_integer" k (sp1 isIntD)) : Kn P w K mg base "is_amount" (k + 1) (sp1 (inD 0 (10 ^ 30))) := by
  refine kn_of D (fun _ _ _ _ _ _ us hl => match us, hl with | [_], _ => rfl) sc_is_amount (fun vs H Q E h => by obtain ⟨v, d, M, rfl, _⟩ := h; rfl) (fun f cd B' fr z H vs Q E hr gd h => ?_)
  obtain ⟨v, d, M, rfl, hd, q⟩ := h
  refine ⟨_, (pss_one (ps_ret (pe_and (pe_own c_is_integer hr gd (by rfl) (pa_cons (pv 0) pa_nil)) (pe_one (pe_chain op_le op_le pe_int (pv 0) (pe_glob (v := .int (10 ^ 30)) (by rfl) CS.MOST_AMOUNT ⟨_, rfl⟩)))))), ?_⟩
  walk_at "xs"
  refine x_sp1 hd ?_
  walk_at "xs"
  refine x_iteB (fun h => ?_) (fun h => ?_)
  · obtain ⟨i, rfl, rfl⟩ := hd.isInt h
    walk_at "xs"
    refine x_ite (fun h => ?_) (fun h => ?_)
    · walk_at "xs"
      simpa only [inD, decide_eq_true h, Bool.true_and] using q
    · simpa only [inD, decide_eq_false h, Bool.false_and] using q
  · have e : inD 0 (10 ^ 30) d = false := by cases d <;> first | rfl | cases h
    rw [e] at q; exact q

theorem kn_is_count {k : Nat} (D : Df K mg "is_count" s_is_count) (B : Bl mg) (CS : Cs mg t0 t1 t2 t3 t4) (c_is_integer : Kn P w K mg base "is_integer" k (sp1 isIntD)) : Kn P w K mg base "is_count" (k + 1) (sp1 (inD 1 (10 ^ 18))) := by
  refine kn_of D (fun _ _ _ _ _ _ us hl => match us, hl with | [_], _ => rfl) sc_is_count (fun vs H Q E h => by obtain ⟨v, d, M, rfl, _⟩ := h; rfl) (fun f cd B' fr z H vs Q E hr gd h => ?_)
  obtain ⟨v, d, M, rfl, hd, q⟩ := h
  refine ⟨_, (pss_one (ps_ret (pe_and (pe_own c_is_integer hr gd (by rfl) (pa_cons (pv 0) pa_nil)) (pe_one (pe_chain op_le op_le pe_int (pv 0) (pe_glob (v := .int (10 ^ 18)) (by rfl) CS.MOST_COUNT ⟨_, rfl⟩)))))), ?_⟩
  walk_at "xs"
  refine x_sp1 hd ?_
  walk_at "xs"
  refine x_iteB (fun h => ?_) (fun h => ?_)
  · obtain ⟨i, rfl, rfl⟩ := hd.isInt h
    walk_at "xs"
    refine x_ite (fun h => ?_) (fun h => ?_)
    · walk_at "xs"
      simpa only [inD, decide_eq_true h, Bool.true_and] using q
    · simpa only [inD, decide_eq_false h, Bool.false_and] using q
  · have e : inD 1 (10 ^ 18) d = false := by cases d <;> first | rfl | cases h
    rw [e] at q; exact q
def brokerD (d : PyData) (n : Int) : Bool := match d with
  | .int i => decide (0 ≤ i) && decide (i < n)
  | _ => false
theorem kn_is_broker {k : Nat} (D : Df K mg "is_broker" s_is_broker) (B : Bl mg) (c_is_integer : Kn P w K mg base "is_integer" k (sp1 isIntD)) : Kn P w K mg base "is_broker" (k + 1) (sp2 brokerD) := by
  refine kn_of D (fun _ _ _ _ _ _ us hl => match us, hl with | [_, _], _ => rfl) sc_is_broker (fun vs H Q E h => by obtain ⟨v, d, M, n, rfl, _⟩ := h; rfl) (fun f cd B' fr z H vs Q E hr gd h => ?_)
  obtain ⟨v, d, M, n, rfl, hd, q⟩ := h
  refine ⟨_, (pss_one (ps_ret (pe_and (pe_own c_is_integer hr gd (by rfl) (pa_cons (pv 0) pa_nil)) (pe_one (pe_chain op_le op_lt pe_int (pv 0) (pv 1)))))), ?_⟩
  walk_at "xs"
  refine x_sp1 hd ?_
  walk_at "xs"
  refine x_iteB (fun h => ?_) (fun h => ?_)
  · obtain ⟨i, rfl, rfl⟩ := hd.isInt h
    walk_at "xs"
    refine x_ite (fun h => ?_) (fun h => ?_)
    · walk_at "xs"
      simpa only [brokerD, decide_eq_true h, Bool.true_and] using q
    · simpa only [brokerD, decide_eq_false h, Bool.false_and] using q
  · have e : brokerD d n = false := by cases d <;> first | rfl | cases h
    rw [e] at q; exact q
end

def spBag (K : PySem.W.Frag) : Sp := fun vs H Q _ => ∃ (a : Addr) (ns : List Int), vs = [.ref a] ∧ SqL K H a (ns.map V.int) ∧ ∀ H' b c, Same H H' → H b = none → Bag H' b c → Q (.ref b) H'
def absI (i : Int) : Int := if i < 0 then -i else i
theorem absI_nn (i : Int) : 0 ≤ absI i := by unfold absI; split <;> omega
theorem cut_map (ns : List Int) (lo hi : Option Int) : ∃ ms : List Int, cutV (ns.map V.int) lo hi = ms.map V.int := by
  unfold cutV
  rw [← List.map_drop, ← List.map_take]
  exact ⟨_, rfl⟩
section
variable {P : Program} {w : World} {K : PySem.W.Frag} {mg : Str → Option Value} {base : Heap} {t0 t1 t2 t3 t4 : Tok}
theorem kn_bag {k : Nat} (D : Df K mg "_law_bag" s_Lbag) (B : Bl mg) : Kn P w K mg base "_law_bag" (k + 1) (spBag K) := by
  refine kn_of D (fun _ _ _ _ _ _ us hl => match us, hl with | [_], _ => rfl) sc_Lbag (fun vs H Q E h => by obtain ⟨a, ns, rfl, _⟩ := h; rfl) (fun f cd B' fr z H vs Q E hr gd h => ?_)
  obtain ⟨a, ns, rfl, ha, q⟩ := h
  refine ⟨_, (pss_one (ps_ret (pe_lst (pa_cons pe_int (pa_cons pe_int (pa_cons pe_int (pa_cons (pe_lc (own := [("_law_cell", 1)]) rfl sc_Lbag.nd (pi_list (pe_slice (r := rSlL K) sl_list (pv 0) po_none (po_some pe_int))) (blkOk_by (N := ["_law_script", "_law_cell"]) (sc := defScope s_Lbag) (by decide +kernel)) (fun _ _ _ _ _ => (pg_name (i := 1) sc_Lbag.nd rfl (.inl rfl))) (fun _ _ _ _ _ => pts_nil) (fun _ _ _ _ _ => (pe_callB call_abs (by rfl) B.abs (by decide +kernel) (pa_cons (pv 1) pa_nil)))) pa_nil))))))), ?_⟩
  walk_at "xs"
  intro p hp
  obtain ⟨ms, em⟩ := cut_map ns none (some 63)
  rw [em]
  have S1 : Same H (upd H p (.lst (ms.map V.int))) := same_upd hp
  walk_at "xs"
  intro L hL
  have hpL := upd_same (H := H) (a := p) (o := .lst (ms.map V.int))
  refine lc_list (K := K) (xs := ms.map V.int) (fun i H' => H' = upd (upd H p (.lst (ms.map V.int))) L (.lst (((ms.take i).map absI).map V.int))) rfl ?_ ?_ ?_
  · rintro i _ _ rfl
    exact SqL.of (by rw [upd_ne (ne_of_none hpL hL)]; exact hpL)
  · rintro i x _ hx rfl
    obtain ⟨m, hm, rfl⟩ : ∃ m, ms[i]? = some m ∧ V.int m = x := by
      rw [List.getElem?_map] at hx
      cases e : ms[i]? with
      | none => rw [e] at hx; cases hx
      | some m => rw [e] at hx; exact ⟨m, rfl, Option.some.inj hx⟩
    walk_at "xs"
    refine x_wiped rfl ?_
    walk_at "xs"
    refine x_acc upd_same ?_ ?_
    · have h1 : i < ms.length := (List.getElem?_eq_some_iff.mp hm).1
      have h2 : (cutV (ns.map V.int) none (some 63)).length ≤ 63 := by
        unfold cutV
        rw [List.length_take, HT.sIx_none]
        have := HT.sIx_nat (ns.map V.int).length (ns.map V.int).length 63
        have e63 : ((63 : Nat) : Int) = 63 := rfl
        rw [e63] at this
        rw [this]; omega
      rw [em, List.length_map] at h2
      rw [List.length_map, List.length_map, List.length_take, sizeLine_eq]; omega
    · show upd _ L _ = _
      rw [upd_upd]
      congr 2
      rw [List.take_add_one, hm, List.map_append, List.map_append]
      rfl
  · rintro _ rfl
    walk_at "xs"
    intro b hb
    refine q _ b L (S1.trans ((same_upd hL).trans (same_upd hb))) ?_ ?_
    · exact S1.free ((same_upd hL).free hb)
    · refine ⟨0, 1234567891, 0, (ms.take (ms.map V.int).length).map absI, upd_same, ?_, by decide, by decide, by decide, ?_, ?_⟩
      · rw [upd_ne (ne_of_none upd_same hb)]; exact upd_same
      · intro z hz
        obtain ⟨y, _, rfl⟩ := List.mem_map.mp hz
        exact absI_nn y
      · exact ne_of_none upd_same hb

end

section
variable {P : Program} {w : World} {K : PySem.W.Frag} {mg : Str → Option Value} {base : Heap} {t0 t1 t2 t3 t4 : Tok}
/-- equal lists show alike -/
def spAlike : Sp := fun vs H Q _ => ∃ x y d M, vs = [x, y] ∧ Dn M H x d ∧ Dn M H y d ∧ SeqAt.shaped d = true ∧ Shows d ∧ Q (.bl true) H
theorem x_alike {x y : V} {d : PyData} {M : List Addr} {H : Hp} {Q : VK} {E : XK} (hx : Dn M H x d) (hy : Dn M H y d) (s : SeqAt.shaped d = true) (t : Shows d) (h : Q (.bl true) H) : spAlike [x, y] H Q E := ⟨x, y, d, M, rfl, hx, hy, s, t, h⟩
theorem kn_alike {k : Nat} (D : Df K mg "_law_alike" s_Lalike) (B : Bl mg) (sys : ∃ o, base.get? sysModules = some o) : Kn P w K mg base "_law_alike" (k + 1) spAlike := by
  refine kn_of D (fun _ _ _ _ _ _ us hl => match us, hl with | [_, _], _ => rfl) sc_Lalike (fun vs H Q E h => by obtain ⟨x, y, d, M, rfl, _⟩ := h; rfl) (fun f cd B' fr z H vs Q E hr gd h => ?_)
  obtain ⟨x, y, d, M, rfl, hx, hy, sh, sw, q⟩ := h
  refine ⟨_, (pss_one (ps_ret (pe_and (pe_cmpR (op_eqD hr.units) (pv 0) (pv 1) (nomark _)) (pe_one (pe_cmpR op_eq (pe_callB (call_reprD gd hr.units sys) (by rfl) B.repr (by decide +kernel) (pa_cons (pv 0) pa_nil)) (pe_callB (call_reprD gd hr.units sys) (by rfl) B.repr (by decide +kernel) (pa_cons (pv 1) pa_nil)) (nomark _)))))), ?_⟩
  walk_at "xs"
  refine x_eqSame hx hy sh ?_
  walk_at "xs"
  refine x_repr hx sw ?_
  walk_at "xs"
  refine x_repr hy sw ?_
  walk_at "xs"
  simpa using q

end


def fewD (d : PyData) : Prop := ∀ ds, d = .list ds → ds.length ≤ 5000
theorem DnAll.toInts {M : List Addr} {H : Hp} : ∀ {ms : List Int} {xs : List V}, DnAll M H xs (ms.map PyData.int) → xs = ms.map V.int
  | [], _, .nil => rfl
  | _ :: _, _, .cons (.int _) r => by rw [List.map_cons, ← DnAll.toInts r]
theorem eqv_nil (l : List PyData) : PyData.eqv (.list l) (.list []) = decide (l = []) := by
  cases l with
  | nil => simp [PyData.eqv, PyData.eqvAll]
  | cons a r => simp [PyData.eqv, PyData.eqvAll]

theorem x_take {H : Hp} {Q : VK} {E : XK} {b c : Addr} {n : Int} (hb : Bag H b c) (h0 : 0 < n) (h1 : n.natAbs < 2 ^ 200) (h : ∀ H' v, Ext [b] H H' → Bag H' b c → 0 ≤ v → v < n → Q (.int v) H') : spTake [.ref b, .int n] H Q E := ⟨b, c, n, rfl, hb, h0, h1, h⟩
theorem Bag.ext {H H' : Hp} {b c : Addr} (h : Bag H b c) (e : Same H H') : Bag H' b c := by
  obtain ⟨x, y, k, cs, h1, h2, h3⟩ := h
  exact ⟨x, y, k, cs, e _ _ h1, e _ _ h2, h3⟩
theorem Bag.at {H : Hp} {b c : Addr} (h : Bag H b c) : ∃ o, H b = some o := by
  obtain ⟨x, y, k, cs, h1, _⟩ := h
  exact ⟨_, h1⟩

structure Cb (H0 : Hp) (b c f : Addr) (xs : List V) (H : Hp) : Prop where
  e : Ext [b] H0 H
  bag : Bag H b c
  fd : H f = some (.lst xs)
  ne : f ∉ [b]
theorem Cb.new {H0 H : Hp} {b c f p : Addr} {xs : List V} (u : HO) (cb : Cb H0 b c f xs H) (hp : H p = none) : Cb H0 b c f xs (upd H p u) ∧ p ∉ [b] ∧ upd H p u p = some u := by
  obtain ⟨ob, hob⟩ := cb.bag.at
  exact ⟨⟨cb.e.trans (Ext.same (same_upd hp)), cb.bag.ext (same_upd hp), same_upd hp _ _ cb.fd, cb.ne⟩, new_out (Same.refl H) hob hp, upd_same⟩
theorem Cb.step {H0 H H' : Hp} {b c f : Addr} {xs : List V} (cb : Cb H0 b c f xs H) (E : Ext [b] H H') (B : Bag H' b c) : Cb H0 b c f xs H' := ⟨cb.e.trans E, B, E _ _ cb.ne cb.fd, cb.ne⟩

/-! ### one row -/
def ltD : PyData → PyData → Bool
  | .int a, .int b => decide (a < b)
  | _, _ => false
def boundD : PyData → Bool
  | .tuple [x, y] => inD 0 (10 ^ 30) x && (match x with | .int i => inD i (10 ^ 30) y | _ => false)
  | _ => false
def bundleD (d : PyData) (n : Int) : Bool := match d with
  | .tuple [x, y, z] => inD 1 (10 ^ 18) z && (brokerD x n && (brokerD y n && ltD x y))
  | _ => false
theorem DnAll.two {M : List Addr} {H : Hp} {xs : List V} {ds : List PyData} (h : DnAll M H xs ds) (l : xs.length = 2) : ∃ x y a b, xs = [x, y] ∧ ds = [a, b] ∧ Dn M H x a ∧ Dn M H y b := by
  cases h with
  | nil => simp at l
  | cons h1 h =>
    cases h with
    | nil => simp at l
    | cons h2 h =>
      cases h with
      | nil => exact ⟨_, _, _, _, rfl, rfl, h1, h2⟩
      | cons h3 h => simp at l
theorem DnAll.three {M : List Addr} {H : Hp} {xs : List V} {ds : List PyData} (h : DnAll M H xs ds) (l : xs.length = 3) : ∃ x y z a b c, xs = [x, y, z] ∧ ds = [a, b, c] ∧ Dn M H x a ∧ Dn M H y b ∧ Dn M H z c := by
  cases h with
  | nil => simp at l
  | cons h1 h =>
    obtain ⟨x, y, a, b, rfl, rfl, h2, h3⟩ := h.two (by simpa using l)
    exact ⟨_, _, _, _, _, _, rfl, rfl, h1, h2, h3⟩
theorem bound_len {ds : List PyData} (h : ds.length ≠ 2) : boundD (.tuple ds) = false := by
  match ds, h with
  | [], _ => rfl
  | [_], _ => rfl
  | [_, _], h => exact absurd rfl h
  | _ :: _ :: _ :: _, _ => rfl
theorem bundle_len {ds : List PyData} {n : Int} (h : ds.length ≠ 3) : bundleD (.tuple ds) n = false := by
  match ds, h with
  | [], _ => rfl
  | [_], _ => rfl
  | [_, _], _ => rfl
  | [_, _, _], h => exact absurd rfl h
  | _ :: _ :: _ :: _ :: _, _ => rfl
theorem brokerD_int {d : PyData} {n : Int} (h : brokerD d n = true) : ∃ i, d = .int i := by
  cases d <;> first | exact ⟨_, rfl⟩ | cases h
theorem inD_int {d : PyData} {a b : Int} (h : inD a b d = true) : ∃ i, d = .int i := by
  cases d <;> first | exact ⟨_, rfl⟩ | cases h
theorem Dn.int' {M : List Addr} {H : Hp} {v : V} {i : Int} (h : Dn M H v (.int i)) : v = .int i := by
  cases h; rfl
section
variable {P : Program} {w : World} {K : PySem.W.Frag} {mg : Str → Option Value} {base : Heap} {t0 t1 t2 t3 t4 : Tok}
theorem kn__is_bound {k : Nat} (D : Df K mg "_is_bound" s__is_bound) (B : Bl mg) (c_is_amount : Kn P w K mg base "is_amount" k (sp1 (inD 0 (10 ^ 30)))) : Kn P w K mg base "_is_bound" (k + 1) (sp1 boundD) := by
  refine kn_of D (fun _ _ _ _ _ _ us hl => match us, hl with | [_], _ => rfl) sc__is_bound (fun vs H Q E h => by obtain ⟨v, d, M, rfl, _⟩ := h; rfl) (fun f cd B' fr z H vs Q E hr gd h => ?_)
  obtain ⟨v, d, M, rfl, hd, q⟩ := h
  refine ⟨_, (pss_cons (ps_if (PW.pt (pw_or (pt_not (pt_val (pe_callB call_isD (by rfl) B.isinstance (by decide +kernel) (pa_cons (pv 0) (pa_cons (pe_bltn (v := .ty "tuple") (u := .type "tuple") (by rfl) B.«tuple» (by decide +kernel) rfl) pa_nil))))) (pw_or1 (pt_cmpR op_ne (pe_callB call_len_seq (by rfl) B.len (by decide +kernel) (pa_cons (pv 0) pa_nil)) pe_int (nomark _))))) (pss_one (ps_ret pe_bl)) pss_nil)
  (pss_cons (ps_asg (pv 0) (pg_tup (by rfl) (pgs_cons (pg_name (i := 1) sc__is_bound.nd rfl (.inl rfl)) (pgs_cons (pg_name (i := 2) sc__is_bound.nd rfl (.inl rfl)) pgs_nil))))
  (pss_one (ps_ret (pe_and (pe_own c_is_amount hr gd (by rfl) (pa_cons (pv 1) pa_nil)) (pe_and (pe_own c_is_amount hr gd (by rfl) (pa_cons (pv 2) pa_nil)) (pe_one (pe_cmpR op_le (pv 1) (pv 2) (nomark _))))))))), ?_⟩
  walk_at "xs"
  refine x_iteNB (fun h => ?_) (fun h => ?_)
  · rw [isT_tuple] at h
    have e : boundD d = false := by cases d <;> first | rfl | cases h
    walk_at "xs"
    rw [← e]; exact q
  · rw [isT_tuple] at h
    cases hd with
    | @tup a xs ds ha hm hxs =>
      have lx := hxs.length
      walk_at "xs"
      refine x_iteN (fun h => ?_) (fun h => ?_)
      · have e : boundD (.tuple ds) = false := bound_len (by omega)
        walk_at "xs"
        rw [← e]; exact q
      · obtain ⟨x, y, dx, dy, rfl, rfl, hx, hy⟩ := hxs.two (by omega)
        walk_at "xs"
        refine x_sp1 hx ?_
        walk_at "xs"
        refine x_iteB (fun h1 => ?_) (fun h1 => ?_)
        · obtain ⟨i, rfl⟩ := inD_int h1
          obtain rfl := hx.int'
          walk_at "xs"
          refine x_sp1 hy ?_
          walk_at "xs"
          refine x_iteB (fun h2 => ?_) (fun h2 => ?_)
          · obtain ⟨j, rfl⟩ := inD_int h2
            obtain rfl := hy.int'
            walk_at "xs"
            have e : boundD (.tuple [.int i, .int j]) = decide (i ≤ j) := by
              show (inD 0 (10 ^ 30) (.int i) && (decide (i ≤ j) && decide (j ≤ 10 ^ 30))) = _
              have h2 : (decide (0 ≤ j) && decide (j ≤ 10 ^ 30)) = true := h2
              rw [Bool.and_eq_true] at h2
              rw [h1, h2.2, Bool.true_and, Bool.and_true]
            rw [← e]; exact q
          · have e : boundD (.tuple [.int i, dy]) = false := by
              show (inD 0 (10 ^ 30) (.int i) && inD i (10 ^ 30) dy) = false
              rw [h1, Bool.true_and]
              cases dy <;> first | rfl | skip
              rename_i j
              have h1 : (decide (0 ≤ i) && decide (i ≤ 10 ^ 30)) = true := h1
              have h2 : (decide (0 ≤ j) && decide (j ≤ 10 ^ 30)) = false := h2
              show (decide (i ≤ j) && decide (j ≤ 10 ^ 30)) = false
              simp only [Bool.and_eq_true, Bool.and_eq_false_iff, decide_eq_true_eq, decide_eq_false_iff_not] at h1 h2 ⊢
              omega
            rw [← e]; exact q
        · have e : boundD (.tuple [dx, dy]) = false := by
            show (inD 0 (10 ^ 30) dx && _) = false
            rw [h1, Bool.false_and]
          rw [← e]; exact q
    | _ => cases h
theorem kn__is_bundle {k : Nat} (D : Df K mg "_is_bundle" s__is_bundle) (B : Bl mg) (c_is_broker : Kn P w K mg base "is_broker" k (sp2 brokerD)) (c_is_count : Kn P w K mg base "is_count" k (sp1 (inD 1 (10 ^ 18)))) : Kn P w K mg base "_is_bundle" (k + 1) (sp2 bundleD) := by
  refine kn_of D (fun _ _ _ _ _ _ us hl => match us, hl with | [_, _], _ => rfl) sc__is_bundle (fun vs H Q E h => by obtain ⟨v, d, M, n, rfl, _⟩ := h; rfl) (fun f cd B' fr z H vs Q E hr gd h => ?_)
  obtain ⟨v, d, M, n, rfl, hd, q⟩ := h
  refine ⟨_, (pss_cons (ps_if (PW.pt (pw_or (pt_not (pt_val (pe_callB call_isD (by rfl) B.isinstance (by decide +kernel) (pa_cons (pv 0) (pa_cons (pe_bltn (v := .ty "tuple") (u := .type "tuple") (by rfl) B.«tuple» (by decide +kernel) rfl) pa_nil))))) (pw_or1 (pt_cmpR op_ne (pe_callB call_len_seq (by rfl) B.len (by decide +kernel) (pa_cons (pv 0) pa_nil)) pe_int (nomark _))))) (pss_one (ps_ret pe_bl)) pss_nil)
  (pss_cons (ps_asg (pv 0) (pg_tup (by rfl) (pgs_cons (pg_name (i := 2) sc__is_bundle.nd rfl (.inl rfl)) (pgs_cons (pg_name (i := 3) sc__is_bundle.nd rfl (.inl rfl)) (pgs_cons (pg_name (i := 4) sc__is_bundle.nd rfl (.inl rfl)) pgs_nil)))))
  (pss_one (ps_ret (pe_and (pe_own c_is_broker hr gd (by rfl) (pa_cons (pv 2) (pa_cons (pv 1) pa_nil))) (pe_and (pe_own c_is_broker hr gd (by rfl) (pa_cons (pv 3) (pa_cons (pv 1) pa_nil))) (pe_and (pe_cmpR op_lt (pv 2) (pv 3) (nomark _)) (pe_one (pe_own c_is_count hr gd (by rfl) (pa_cons (pv 4) pa_nil)))))))))), ?_⟩
  walk_at "xs"
  refine x_iteNB (fun h => ?_) (fun h => ?_)
  · rw [isT_tuple] at h
    have e : bundleD d n = false := by cases d <;> first | rfl | cases h
    walk_at "xs"
    rw [← e]; exact q
  · rw [isT_tuple] at h
    cases hd with
    | @tup a xs ds ha hm hxs =>
      have lx := hxs.length
      walk_at "xs"
      refine x_iteN (fun h => ?_) (fun h => ?_)
      · have e : bundleD (.tuple ds) n = false := bundle_len (by omega)
        walk_at "xs"
        rw [← e]; exact q
      · obtain ⟨x, y, c, dx, dy, dc, rfl, rfl, hx, hy, hc⟩ := hxs.three (by omega)
        have e0 : bundleD (.tuple [dx, dy, dc]) n = (inD 1 (10 ^ 18) dc && (brokerD dx n && (brokerD dy n && ltD dx dy))) := rfl
        rw [e0] at q
        walk_at "xs"
        refine x_sp2 hx ?_
        walk_at "xs"
        refine x_iteB (fun h1 => ?_) (fun h1 => ?_)
        · obtain ⟨i, rfl⟩ := brokerD_int h1
          obtain rfl := hx.int'
          walk_at "xs"
          refine x_sp2 hy ?_
          walk_at "xs"
          refine x_iteB (fun h2 => ?_) (fun h2 => ?_)
          · obtain ⟨j, rfl⟩ := brokerD_int h2
            obtain rfl := hy.int'
            walk_at "xs"
            have e : ltD (.int i) (.int j) = decide (i < j) := rfl
            refine x_ite (fun h3 => ?_) (fun h3 => ?_)
            · walk_at "xs"
              refine x_sp1 hc ?_
              rw [h1, h2, e, decide_eq_true h3, Bool.and_true, Bool.and_true, Bool.and_true] at q
              exact q
            · rw [h1, h2, e, decide_eq_false h3, Bool.and_false, Bool.and_false, Bool.and_false] at q
              exact q
          · rw [h2, Bool.false_and, Bool.and_false, Bool.and_false] at q; exact q
        · rw [h1, Bool.false_and, Bool.and_false] at q; exact q
    | _ => cases h
end
/-! ### all rows -/
def boundsD : PyData → Bool
  | .list ds => (decide (2 ≤ (ds.length : Int)) && decide ((ds.length : Int) ≤ 10)) && (ds.map boundD).all id
  | _ => false
def spBounds : Sp := fun vs H Q _ => ∃ v d M, vs = [v] ∧ Dn M H v d ∧ fewD d ∧ ∀ H', Same H H' → Q (.bl (boundsD d)) H'
theorem x_bounds {v : V} {d : PyData} {M : List Addr} {H : Hp} {Q : VK} {E : XK} (hd : Dn M H v d) (few : fewD d) (h : ∀ H', Same H H' → Q (.bl (boundsD d)) H') : spBounds [v] H Q E := ⟨v, d, M, rfl, hd, few, h⟩
section
variable {P : Program} {w : World} {K : PySem.W.Frag} {mg : Str → Option Value} {base : Heap} {t0 t1 t2 t3 t4 : Tok}
theorem kn_are_bounds {k : Nat} (D : Df K mg "are_bounds" s_are_bounds) (B : Bl mg) (CS : Cs mg t0 t1 t2 t3 t4) (c__is_bound : Kn P w K mg base "_is_bound" k (sp1 boundD)) : Kn P w K mg base "are_bounds" (k + 1) spBounds := by
  refine kn_of D (fun _ _ _ _ _ _ us hl => match us, hl with | [_], _ => rfl) sc_are_bounds (fun vs H Q E h => by obtain ⟨v, d, M, rfl, _⟩ := h; rfl) (fun f cd B' fr z H vs Q E hr gd h => ?_)
  obtain ⟨v, d, M, rfl, hd, few, q⟩ := h
  refine ⟨_, (pss_cons (ps_if (PW.pt (pw_or (pt_not (pt_val (pe_callB call_isD (by rfl) B.isinstance (by decide +kernel) (pa_cons (pv 0) (pa_cons (pe_bltn (v := .ty "list") (u := .type "list") (by rfl) B.«list» (by decide +kernel) rfl) pa_nil))))) (pw_or1 (pt_not (pt_chain op_le op_le (pe_glob (v := .int (2)) (by rfl) CS.LEAST_SIZE ⟨_, rfl⟩) (pe_callB call_len_seq (by rfl) B.len (by decide +kernel) (pa_cons (pv 0) pa_nil)) (pe_glob (v := .int (10)) (by rfl) CS.MOST_SIZE ⟨_, rfl⟩)))))) (pss_one (ps_ret pe_bl)) pss_nil)
  (pss_one (ps_ret (pe_callB (cr_all rfl) (by rfl) B.all (by decide +kernel) (pa_cons (pe_lc (own := [("row", 1)]) rfl sc_are_bounds.nd (pi_list (pv 0)) (blkOk_by (N := ["thing", "row"]) (sc := defScope s_are_bounds) (by decide +kernel)) (fun _ _ _ _ _ => (pg_name (i := 1) sc_are_bounds.nd rfl (.inl rfl))) (fun _ _ _ _ _ => pts_nil) (fun _ _ _ _ _ => (pe_own c__is_bound hr gd (by rfl) (pa_cons (pv 1) pa_nil)))) pa_nil))))), ?_⟩
  walk_at "xs"
  refine x_iteNB (fun h => ?_) (fun h => ?_)
  · rw [isT_list] at h
    have e : boundsD d = false := by cases d <;> first | rfl | cases h
    walk_at "xs"
    rw [← e]; exact q _ (Same.refl H)
  · rw [isT_list] at h
    cases hd with
    | @lst a xs ds ha hm hxs =>
      have len := few ds rfl
      have lx := hxs.length
      have e0 : boundsD (.list ds) = ((decide (2 ≤ (xs.length : Int)) && decide ((xs.length : Int) ≤ 10)) && (ds.map boundD).all id) := by rw [lx]; rfl
      rw [e0] at q
      walk_at "xs"
      refine x_ite (fun h1 => ?_) (fun h1 => ?_)
      · walk_at "xs"
        refine x_iteN (fun h2 => ?_) (fun h2 => ?_)
        · walk_at "xs"
          rw [decide_eq_false h2, Bool.and_false, Bool.false_and] at q
          exact q _ (Same.refl H)
        · rw [decide_eq_true h1, decide_eq_true h2, Bool.true_and, Bool.true_and] at q
          walk_at "xs"
          intro L hL
          have haL : a ≠ L := ne_of_none ha hL
          refine lc_list (K := K) (xs := xs) (fun i H' => H' = upd H L (.lst (((ds.take i).map boundD).map V.bl))) rfl ?_ ?_ ?_
          · rintro i _ _ rfl
            exact SqL.of (by rw [upd_ne haL]; exact ha)
          · rintro i x _ hx rfl
            obtain ⟨d, hd, dx⟩ := hxs.get hx
            have hi := (List.getElem?_eq_some_iff.mp hx).1
            walk_at "xs"
            refine x_wiped rfl ?_
            walk_at "xs"
            refine x_sp1 (dx.ext (Ext.same (same_upd hL))) ?_
            refine x_acc upd_same ?_ ?_
            · rw [List.length_map, List.length_map, List.length_take, sizeLine_eq]; omega
            · show upd _ L _ = _
              rw [upd_upd]
              congr 2
              rw [List.take_add_one, hd, List.map_append, List.map_append]
              rfl
          · rintro _ rfl
            rw [lx, List.take_length]
            walk_at "xs"
            exact q _ (same_upd hL)
      · walk_at "xs"
        rw [decide_eq_false h1, Bool.false_and, Bool.false_and] at q
        exact q _ (Same.refl H)
    | _ => cases h
end
def pairD : PyData → List Int
  | .tuple (.int a :: .int b :: _) => [a, b]
  | _ => []
def tupD (k : List Int) : PyData := .tuple (k.map PyData.int)
def bundlesD (d : PyData) (n : Int) : Bool := match d with
  | .list ds => decide ((ds.length : Int) ≤ 45) && ((ds.map fun d => bundleD d n).all id && decide ((ds.map pairD).Nodup))
  | _ => false
def spBundles : Sp := fun vs H Q _ => ∃ v d M n, vs = [v, .int n] ∧ Dn M H v d ∧ fewD d ∧ ∀ H', Same H H' → Q (.bl (bundlesD d n)) H'
theorem x_bundles {v : V} {d : PyData} {M : List Addr} {n : Int} {H : Hp} {Q : VK} {E : XK} (hd : Dn M H v d) (few : fewD d) (h : ∀ H', Same H H' → Q (.bl (bundlesD d n)) H') : spBundles [v, .int n] H Q E := ⟨v, d, M, n, rfl, hd, few, h⟩
theorem bundle_at {d : PyData} {n : Int} (h : bundleD d n = true) : ∃ a b c, d = .tuple [.int a, .int b, .int c] := by
  unfold bundleD at h
  split at h
  · rename_i x y z
    rw [Bool.and_eq_true, Bool.and_eq_true, Bool.and_eq_true] at h
    obtain ⟨h1, h2, h3, h4⟩ := h
    obtain ⟨a, rfl⟩ := brokerD_int h2
    obtain ⟨b, rfl⟩ := brokerD_int h3
    obtain ⟨c, rfl⟩ := inD_int h1
    exact ⟨a, b, c, rfl⟩
  · cases h
theorem Dn.tup3 {M : List Addr} {H : Hp} {v : V} {a b c : Int} (h : Dn M H v (.tuple [.int a, .int b, .int c])) : ∃ p, v = .ref p ∧ p ∉ M ∧ H p = some (.tup [.int a, .int b, .int c]) := by
  cases h with
  | tup h1 h2 h3 =>
    obtain rfl := DnAll.toInts (ms := [a, b, c]) h3
    exact ⟨_, rfl, h2, h1⟩
theorem row_at {M : List Addr} {H : Hp} {xs : List V} {ds : List PyData} {n : Int} {i : Nat} {x : V} (hxs : DnAll M H xs ds) (hall : (ds.map fun d => bundleD d n).all id = true) (hx : xs[i]? = some x) :
    ∃ p a b c, x = .ref p ∧ H p = some (.tup [.int a, .int b, .int c]) ∧ (ds.map pairD)[i]? = some [a, b] := by
  obtain ⟨d, hd, dx⟩ := hxs.get hx
  have hb : bundleD d n = true := by
    rw [List.all_eq_true] at hall
    exact hall _ (List.mem_map.mpr ⟨d, List.mem_of_getElem? hd, rfl⟩)
  obtain ⟨a, b, c, rfl⟩ := bundle_at hb
  obtain ⟨p, rfl, _, hp⟩ := dx.tup3
  exact ⟨p, a, b, c, rfl, hp, by rw [List.getElem?_map, hd]; rfl⟩
section
variable {P : Program} {w : World} {K : PySem.W.Frag} {mg : Str → Option Value} {base : Heap} {t0 t1 t2 t3 t4 : Tok}
theorem kn_are_bundles {k : Nat} (D : Df K mg "are_bundles" s_are_bundles) (B : Bl mg) (CS : Cs mg t0 t1 t2 t3 t4) (c__is_bundle : Kn P w K mg base "_is_bundle" k (sp2 bundleD)) : Kn P w K mg base "are_bundles" (k + 1) spBundles := by
  refine kn_of D (fun _ _ _ _ _ _ us hl => match us, hl with | [_, _], _ => rfl) sc_are_bundles (fun vs H Q E h => by obtain ⟨v, d, M, n, rfl, _⟩ := h; rfl) (fun f cd B' fr z H vs Q E hr gd h => ?_)
  obtain ⟨v, d, M, n, rfl, hd, few, q⟩ := h
  refine ⟨_, (pss_cons (ps_if (PW.pt (pw_or (pt_not (pt_val (pe_callB call_isD (by rfl) B.isinstance (by decide +kernel) (pa_cons (pv 0) (pa_cons (pe_bltn (v := .ty "list") (u := .type "list") (by rfl) B.«list» (by decide +kernel) rfl) pa_nil))))) (pw_or1 (pt_cmpR op_gt (pe_callB call_len_seq (by rfl) B.len (by decide +kernel) (pa_cons (pv 0) pa_nil)) (pe_glob (v := .int (45)) (by rfl) CS.MOST_BUNDLES ⟨_, rfl⟩) (nomark _))))) (pss_one (ps_ret pe_bl)) pss_nil)
  (pss_cons (ps_if (pt_not (pt_val (pe_callB (cr_all rfl) (by rfl) B.all (by decide +kernel) (pa_cons (pe_lc (own := [("row", 2)]) rfl sc_are_bundles.nd (pi_list (pv 0)) (blkOk_by (N := ["thing", "size", "row"]) (sc := defScope s_are_bundles) (by decide +kernel)) (fun _ _ _ _ _ => (pg_name (i := 2) sc_are_bundles.nd rfl (.inl rfl))) (fun _ _ _ _ _ => pts_nil) (fun _ _ _ _ _ => (pe_own c__is_bundle hr gd (by rfl) (pa_cons (pv 2) (pa_cons (pv 1) pa_nil))))) pa_nil)))) (pss_one (ps_ret pe_bl)) pss_nil)
  (pss_one (ps_ret (pe_cmpR op_eq (pe_callB call_lenT (by rfl) B.len (by decide +kernel) (pa_cons (pe_setC (Z := fun a => SetTO P w a []) (add := addT K P w) (own := [("row", 2)]) rfl sc_are_bundles.nd (pi_list (pv 0)) (blkOk_by (N := ["thing", "size", "row"]) (sc := defScope s_are_bundles) (by decide +kernel)) (fun _ _ _ _ _ => (pg_name (i := 2) sc_are_bundles.nd rfl (.inl rfl))) (fun _ _ _ _ _ => pts_nil) (fun _ _ _ _ _ => (pe_tup (pa_cons (pe_ix (r := rIxT K) ix_tup (pv 2) pe_int (fun _ _ => rfl)) (pa_cons (pe_ix (r := rIxT K) ix_tup (pv 2) pe_int (fun _ _ => rfl)) pa_nil)))) (fun _ _ _ _ _ => addT_ok hr.units) freshT) pa_nil)) (pe_callB call_len_seq (by rfl) B.len (by decide +kernel) (pa_cons (pv 0) pa_nil)) (nomark _)))))), ?_⟩
  walk_at "xs"
  refine x_iteNB (fun h => ?_) (fun h => ?_)
  · rw [isT_list] at h
    have e : bundlesD d n = false := by cases d <;> first | rfl | cases h
    walk_at "xs"
    rw [← e]; exact q _ (Same.refl H)
  · rw [isT_list] at h
    cases hd with
    | @lst a xs ds ha hm hxs =>
      have len := few ds rfl
      have lx := hxs.length
      have e0 : bundlesD (.list ds) n = (decide ((xs.length : Int) ≤ 45) && ((ds.map fun d => bundleD d n).all id && decide ((ds.map pairD).Nodup))) := by rw [lx]; rfl
      rw [e0] at q
      walk_at "xs"
      refine x_ite (fun h1 => ?_) (fun h1 => ?_)
      · walk_at "xs"
        rw [decide_eq_false (by omega), Bool.false_and] at q
        exact q _ (Same.refl H)
      · rw [decide_eq_true (by omega), Bool.true_and] at q
        walk_at "xs"
        intro L hL
        have haL : a ≠ L := ne_of_none ha hL
        refine lc_list (K := K) (xs := xs) (fun i H' => H' = upd H L (.lst (((ds.take i).map fun d => bundleD d n).map V.bl))) rfl ?_ ?_ ?_
        · rintro i _ _ rfl
          exact SqL.of (by rw [upd_ne haL]; exact ha)
        · rintro i x _ hx rfl
          obtain ⟨d, hd, dx⟩ := hxs.get hx
          have hi := (List.getElem?_eq_some_iff.mp hx).1
          walk_at "xs"
          refine x_wiped rfl ?_
          walk_at "xs"
          refine x_sp2 (dx.ext (Ext.same (same_upd hL))) ?_
          refine x_acc upd_same ?_ ?_
          · rw [List.length_map, List.length_map, List.length_take, sizeLine_eq]; omega
          · show upd _ L _ = _
            rw [upd_upd]
            congr 2
            rw [List.take_add_one, hd, List.map_append, List.map_append]
            rfl
        · rintro _ rfl
          rw [lx, List.take_length]
          have S1 := same_upd hL (o := .lst ((ds.map fun d => bundleD d n).map V.bl))
          walk_at "xs"
          refine x_iteNB (fun h2 => ?_) (fun h2 => ?_)
          · walk_at "xs"
            rw [h2, Bool.false_and] at q
            exact q _ S1
          · rw [h2, Bool.true_and] at q
            have ha2 := S1 _ _ ha
            have hxs2 := hxs.ext (Ext.same S1)
            generalize upd H L _ = H1 at *
            have lp : (ds.map pairD).length = xs.length := by rw [List.length_map, lx]
            generalize hps : ds.map pairD = ps at *
            walk_at "xs"
            intro S hS
            refine setc_list (K := K) (a := a) (L := S) (Z := fun a => SetTO P w a []) (add := addT K P w) (xs := xs) (fun i H' => ∃ L : List (Addr × List Int), H' S = some (SetTO P w S L) ∧ (∀ q ∈ L, H' q.1 = some (.tup (q.2.map V.int))) ∧ L.length ≤ i ∧ (∀ k, k ∈ L.map (·.2) ↔ k ∈ ps.take i) ∧ (L.length = i ↔ (ps.take i).Nodup) ∧ Same H1 H') ?_ ?_ ?_ ?_
            · exact ⟨[], upd_same, by simp, Nat.le_refl _, by simp, by simp, same_upd hS⟩
            · rintro i H' _ ⟨L, _, _, _, _, _, SS⟩
              exact SqL.of (SS _ _ ha2)
            · rintro i x H' hx ⟨L, hLS, hT, ll, hk, hn, SS⟩
              obtain ⟨p, a', b', c', rfl, hp, hpi⟩ := row_at hxs2 h2 hx
              rw [hps] at hpi
              have hi := (List.getElem?_eq_some_iff.mp hx).1
              have hp := SS _ _ hp
              walk_at "xs"
              refine x_wiped rfl ?_
              walk_at "xs"
              intro t ht
              have tk : ps.take (i + 1) = ps.take i ++ [[a', b']] := by rw [List.take_add_one, hpi]; rfl
              have S2 := same_upd ht (o := .tup [.int a', .int b'])
              refine ⟨t, [a', b'], L, rfl, SqT.of upd_same, S2 _ _ hLS, fun q hq => SqT.of (S2 _ _ (hT q hq)), by omega, fun L' c1 c2 => ?_⟩
              have tS : t ≠ S := ne_of_none2 ht hLS
              have keep : Same H1 (upd (upd H' t (.tup [.int a', .int b'])) S (SetTO P w S L')) := fun z o e => by
                rw [upd_ne (ne_of_none e hS)]; exact S2 _ _ (SS _ _ e)
              have notS : ∀ q : Addr × List Int, H' q.1 = some (.tup (q.2.map V.int)) → q.1 ≠ S := fun q e x => by
                rw [x, hLS] at e; cases e
              have tups : ∀ q ∈ (t, [a', b']) :: L, (upd (upd H' t (.tup [.int a', .int b'])) S (SetTO P w S L')) q.1 = some (.tup (q.2.map V.int)) := by
                intro q hq
                rcases List.mem_cons.mp hq with rfl | hq
                · rw [upd_ne tS, upd_same]; rfl
                · rw [upd_ne (notS q (hT q hq))]; exact S2 _ _ (hT q hq)
              by_cases hin : [a', b'] ∈ L.map (·.2)
              · have e := c1 hin
                subst e
                refine ⟨_, upd_same, fun q hq => tups q (List.mem_cons_of_mem _ hq), by omega, fun k => ?_, ?_, keep⟩
                · rw [tk, List.mem_append, ← hk k]
                  constructor
                  · exact .inl
                  · rintro (h | h)
                    · exact h
                    · simp at h; subst h; exact hin
                · rw [tk]
                  constructor
                  · intro e; omega
                  · intro nd
                    exfalso
                    rw [List.nodup_append] at nd
                    exact nd.2.2 _ ((hk _).mp hin) _ (by simp) rfl
              · have pm := c2 hin
                refine ⟨_, upd_same, fun q hq => tups q (pm.mem_iff.mp hq), by rw [pm.length_eq]; simp; omega, fun k => ?_, ?_, keep⟩
                · rw [tk, List.mem_append, ← hk k, (pm.map (·.2)).mem_iff]
                  simp [or_comm]
                · rw [tk, pm.length_eq]
                  have h3 := hn
                  rw [List.length_cons, Nat.add_right_cancel_iff, hn, List.nodup_append]
                  constructor
                  · intro nd
                    refine ⟨nd, by simp, fun u hu v hv e => ?_⟩
                    simp at hv; subst hv; subst e
                    exact hin ((hk _).mpr hu)
                  · exact fun h => h.1
            · rintro H' ⟨L, hLS, hT, ll, hk, hn, SS⟩
              walk_at "xs"
              refine ⟨S, L, rfl, hLS, fun q hq => SqT.of (hT q hq), ?_⟩
              have ha3 := SS _ _ ha2
              walk_at "xs"
              have e : decide (ps.Nodup) = decide ((L.length : Int) = xs.length) := by
                rw [List.take_of_length_le (by omega)] at hn
                exact decide_eq_decide.mpr (by rw [← hn]; omega)
              rw [← e]
              exact q _ (S1.trans SS)
    | _ => cases h
end
theorem set_map (hs : List Int) (j : Nat) (v : Int) : (hs.map V.int).set j (.int v) = (hs.set j v).map V.int := by
  rw [List.map_set]
theorem repl_int : ∀ n : Nat, (List.replicate n [V.int 0]).flatten = (List.replicate n (0 : Int)).map V.int
  | 0 => rfl
  | n + 1 => by rw [List.replicate_succ, List.flatten_cons, repl_int n, List.replicate_succ, List.map_cons]; rfl
theorem int_at {ls : List Int} {i : Nat} {u : V} (h : (ls.map V.int)[i]? = some u) : ∃ l, ls[i]? = some l ∧ u = .int l := by
  rw [List.getElem?_map] at h
  cases e : ls[i]? with
  | none => rw [e] at h; cases h
  | some m => rw [e] at h; exact ⟨m, rfl, (Option.some.inj h).symm⟩
theorem bundle_row {d : PyData} {n : Int} (h : bundleD d n = true) (hn : n ≤ 10) : ∃ a b c : Int, d = tupD [a, b, c] ∧ 0 ≤ a ∧ a < b ∧ b < n ∧ 1 ≤ c ∧ c ≤ 10 ^ 18 := by
  obtain ⟨a, b, c, rfl⟩ := bundle_at h
  have h : ((decide (1 ≤ c) && decide (c ≤ 10 ^ 18)) && ((decide (0 ≤ a) && decide (a < n)) && ((decide (0 ≤ b) && decide (b < n)) && decide (a < b)))) = true := h
  simp only [Bool.and_eq_true, decide_eq_true_eq] at h
  exact ⟨a, b, c, rfl, h.2.1.1, h.2.2.2, h.2.2.1.2, h.1.1, h.1.2⟩
/-! ### the cluster -/
def F3 (B U N : Addr) : List (Str × V) := putF "_numbers" (.ref N) (putF "_bundles" (.ref U) (putF "_bounds" (.ref B) []))
theorem f3_bundles (B U N : Addr) : (F3 B U N).lookup ("_bundles" : Str) = some (.ref U) := by
  unfold F3
  rw [lookup_putF, if_neg (by decide), lookup_putF, if_pos rfl]
theorem f3_bounds (B U N : Addr) : (F3 B U N).lookup ("_bounds" : Str) = some (.ref B) := by
  unfold F3
  rw [lookup_putF, if_neg (by decide), lookup_putF, if_neg (by decide), lookup_putF, if_pos rfl]
theorem f3_none (B U N : Addr) {f : Str} (a : f ≠ "_numbers") (b : f ≠ "_bundles") (c : f ≠ "_bounds") : (F3 B U N).lookup f = none := by
  unfold F3
  rw [lookup_putF, if_neg a, lookup_putF, if_neg b, lookup_putF, if_neg c]; rfl
theorem f1_len {f : Str} {v : V} : (putF f v []).length < 1000 := by
  have := length_putF f v []
  simp only [List.length_nil] at this
  omega
theorem f2_len {f g : Str} {v u : V} : (putF f v (putF g u [])).length < 1000 := by
  have := length_putF f v (putF g u [])
  have := length_putF g u []
  simp only [List.length_nil] at this
  omega
/-- the class's facts -/
structure Cc (K : PySem.W.Frag) (mg : Str → Option Value) (C : Addr) : Prop where
  ck : Ck K mg "Cluster" C
  bounds : NoAttr K C "_bounds"
  bundles : NoAttr K C "_bundles"
  numbers : NoAttr K C "_numbers"
/-- the places of the first i rows by their brokers -/
def nums (rs : List PyData) : Nat → List (List Key × V)
  | 0 => []
  | i + 1 => match rs[i]? with
    | some (.tuple (.int a :: .int b :: _)) => putK (nums rs i) [.inl a, .inl b] (.int (i : Nat))
    | _ => nums rs i
/-- the same, either way round -/
def nums2 (rs : List PyData) : Nat → List (List Key × V)
  | 0 => []
  | i + 1 => match rs[i]? with
    | some (.tuple (.int a :: .int b :: _)) => putK (putK (nums2 rs i) [.inl a, .inl b] (.int (i : Nat))) [.inl b, .inl a] (.int (i : Nat))
    | _ => nums2 rs i
def numsD : PyData → List (List Key × V)
  | .list rs => nums rs rs.length
  | _ => []
theorem nums2_eq {rs : List PyData} {n : Int} (hall : (rs.map fun d => bundleD d n).all id = true) (i j : Int) : ∀ k, k ≤ rs.length →
    valV (nums2 rs k) [.inl i, .inl j] = valV (nums rs k) [.inl (if j < i then j else i), .inl (if j > i then j else i)]
  | 0, _ => rfl
  | k + 1, hk => by
    have ih := nums2_eq hall i j k (by omega)
    have hd : rs[k]? = some rs[k] := List.getElem?_eq_getElem (by omega)
    have hb : bundleD rs[k] n = true := by
      rw [List.all_eq_true] at hall
      exact hall _ (List.mem_map.mpr ⟨_, List.getElem_mem (by omega), rfl⟩)
    obtain ⟨a, b, c, e⟩ := bundle_at hb
    rw [e] at hd hb
    have hb : (inD 1 (10 ^ 18) (.int c) && (brokerD (.int a) n && (brokerD (.int b) n && decide (a < b)))) = true := hb
    rw [Bool.and_eq_true, Bool.and_eq_true, Bool.and_eq_true, decide_eq_true_eq] at hb
    have ab := hb.2.2.2
    have e1 : nums2 rs (k + 1) = putK (putK (nums2 rs k) [.inl a, .inl b] (.int (k : Nat))) [.inl b, .inl a] (.int (k : Nat)) := by
      show (match rs[k]? with | some (.tuple (.int a :: .int b :: _)) => putK (putK (nums2 rs k) [.inl a, .inl b] (.int (k : Nat))) [.inl b, .inl a] (.int (k : Nat)) | _ => nums2 rs k) = _
      rw [hd]
    have e2 : nums rs (k + 1) = putK (nums rs k) [.inl a, .inl b] (.int (k : Nat)) := by
      show (match rs[k]? with | some (.tuple (.int a :: .int b :: _)) => putK (nums rs k) [.inl a, .inl b] (.int (k : Nat)) | _ => nums rs k) = _
      rw [hd]
    rw [e1, e2, valV_put, valV_put, valV_put, ih]
    have k1 : ([.inl i, .inl j] : List Key) = [.inl b, .inl a] ↔ i = b ∧ j = a := by simp
    have k2 : ([.inl i, .inl j] : List Key) = [.inl a, .inl b] ↔ i = a ∧ j = b := by simp
    have k3 : ([.inl (if j < i then j else i), .inl (if j > i then j else i)] : List Key) = [.inl a, .inl b] ↔ (i = b ∧ j = a) ∨ (i = a ∧ j = b) := by
      simp only [List.cons.injEq, Sum.inl.injEq, and_true]
      by_cases h : j < i
      · rw [if_pos h, if_neg (by omega)]; omega
      · rw [if_neg h]
        by_cases h2 : j > i
        · rw [if_pos h2]; omega
        · rw [if_neg h2]; omega
    by_cases h1 : i = b ∧ j = a
    · rw [if_pos (k1.mpr h1), if_pos (k3.mpr (.inl h1))]
    · rw [if_neg (fun z => h1 (k1.mp z))]
      by_cases h2 : i = a ∧ j = b
      · rw [if_pos (k2.mpr h2), if_pos (k3.mpr (.inr h2))]
      · rw [if_neg (fun z => h2 (k2.mp z)), if_neg (fun z => (k3.mp z).elim h1 h2)]
theorem nums2_len (rs : List PyData) : ∀ i, (nums2 rs i).length ≤ 2 * i
  | 0 => Nat.le_refl _
  | i + 1 => by
    have ih := nums2_len rs i
    show (match rs[i]? with | some (.tuple (.int a :: .int b :: _)) => putK (putK (nums2 rs i) [.inl a, .inl b] (.int (i : Nat))) [.inl b, .inl a] (.int (i : Nat)) | _ => nums2 rs i).length ≤ _
    split
    · rename_i a b r _
      have l1 := length_putK (nums2 rs i) [Sum.inl a, Sum.inl b] (V.int (i : Nat))
      have l2 := length_putK (putK (nums2 rs i) [Sum.inl a, Sum.inl b] (V.int (i : Nat))) [Sum.inl b, Sum.inl a] (V.int (i : Nat))
      omega
    · omega
/-- an instance that keeps these data -/
def Clu (C : Addr) (M : List Addr) (H : Hp) (x : Addr) (d1 d2 : PyData) : Prop := ∃ dx B U N kvs, H x = some (.ins C dx (F3 B U N)) ∧ x ∉ M ∧ Dn M H (.ref B) d1 ∧ Dn M H (.ref U) d2 ∧ H N = some (.dT kvs) ∧ N ∉ M ∧ ∀ i j : Int, valV kvs [.inl i, .inl j] = valV (numsD d2) [.inl (if j < i then j else i), .inl (if j > i then j else i)]
theorem Clu.ext {C : Addr} {M : List Addr} {H H' : Hp} {x : Addr} {d1 d2 : PyData} (c : Clu C M H x d1 d2) (e : Ext M H H') : Clu C M H' x d1 d2 := by
  obtain ⟨dx, B, U, N, kvs, h1, h2, h3, h4, h5, h6, h7⟩ := c
  exact ⟨dx, B, U, N, kvs, e _ _ h2 h1, h2, h3.ext e, h4.ext e, e _ _ h6 h5, h6, h7⟩
/-- a list's items, away from M -/
def Items (M : List Addr) (H : Hp) (v : V) (d : PyData) : Prop := ∀ a xs ds, v = .ref a → H a = some (.lst xs) → d = .list ds → DnAll M H xs ds
theorem Dn.items {M : List Addr} {H : Hp} {v : V} {d : PyData} (h : Dn M H v d) : Items M H v d := by
  rintro a xs ds rfl e rfl
  cases h with
  | lst e1 m A => rw [e1] at e; cases e; exact A
def spKeep (C : Addr) : Sp := fun vs H Q _ => ∃ M x dx v1 v2 ds1 ds2 n, vs = [.ref x, v1, v2] ∧ (∀ m ∈ M, ∃ o, H m = some o) ∧ x ∉ M ∧ H x = some (.ins C dx []) ∧ (∃ a xs, v1 = .ref a ∧ H a = some (.lst xs) ∧ a ≠ x ∧ DnAll (x :: M) H xs ds1) ∧ (∃ a xs, v2 = .ref a ∧ H a = some (.lst xs) ∧ a ≠ x ∧ DnAll (x :: M) H xs ds2) ∧
  (ds2.map fun d => bundleD d n).all id = true ∧ ds2.length ≤ 45 ∧ ∀ H', Ext [x] H H' → Clu C M H' x (.list ds1) (.list ds2) → Q .non H'
def spInit (C : Addr) : Sp := fun vs H Q _ => ∃ M x dx v1 v2 ds1 ds2, vs = [.ref x, v1, v2] ∧ (∀ m ∈ M, ∃ o, H m = some o) ∧ x ∉ M ∧ H x = some (.ins C dx []) ∧ Dn (x :: M) H v1 (.list ds1) ∧ Dn (x :: M) H v2 (.list ds2) ∧
  boundsD (.list ds1) = true ∧ bundlesD (.list ds2) ds1.length = true ∧ ∀ H', Ext [x] H H' → Clu C M H' x (.list ds1) (.list ds2) → Q .non H'
theorem fresh_out {M : List Addr} {H : Hp} {p : Addr} (hM : ∀ m ∈ M, ∃ o, H m = some o) (hp : H p = none) : p ∉ M := fun h => by
  obtain ⟨o, e⟩ := hM p h
  rw [e] at hp; cases hp
theorem bounds_len {ds : List PyData} (h : boundsD (.list ds) = true) : ds.length ≤ 10 := by
  have h : ((decide (2 ≤ (ds.length : Int)) && decide ((ds.length : Int) ≤ 10)) && (ds.map boundD).all id) = true := h
  rw [Bool.and_eq_true, Bool.and_eq_true, decide_eq_true_eq, decide_eq_true_eq] at h
  omega
theorem bundles_len {ds : List PyData} {n : Int} (h : bundlesD (.list ds) n = true) : ds.length ≤ 45 ∧ (ds.map fun d => bundleD d n).all id = true := by
  have h : (decide ((ds.length : Int) ≤ 45) && ((ds.map fun d => bundleD d n).all id && decide ((ds.map pairD).Nodup))) = true := h
  rw [Bool.and_eq_true, Bool.and_eq_true, decide_eq_true_eq] at h
  exact ⟨by omega, h.2.1⟩
section
variable {P : Program} {w : World} {K : PySem.W.Frag} {mg : Str → Option Value} {base : Heap} {t0 t1 t2 t3 t4 : Tok} {C : Addr}
theorem km_keep {k : Nat} (D : Dm K C "_keep" "Cluster._keep" s_Clusterkeep) (B : Bl mg) (cc : Cc K mg C) : Km P w K mg base C "_keep" (k + 1) (spKeep C) := by
  refine km_of D (fun _ _ _ _ _ _ us hl => match us, hl with | [_, _, _], _ => rfl) sc_Clusterkeep (fun vs H Q E h => by obtain ⟨M, x, dx, v1, v2, ds1, ds2, n, rfl, _⟩ := h; rfl) (fun f cd B' fr z H vs Q E hr gd h => ?_)
  obtain ⟨M, x, dx, v1, v2, ds1, ds2, n, rfl, hM, nx, hx, hd1, hd2, hall, hlen, q⟩ := h
  refine ⟨_, (pss_cons (ps_fld (pv 0) (pe_callTy call_list_of (by rfl) B.«list» (by decide +kernel) (pa_cons (pv 1) pa_nil)) (by rfl))
  (pss_cons (ps_fld (pv 0) (pe_callTy call_list_of (by rfl) B.«list» (by decide +kernel) (pa_cons (pv 2) pa_nil)) (by rfl))
  (pss_cons (ps_fld (pv 0) pe_dnewT (by rfl))
  (pss_one (ps_for PassesOwn.never rfl (pi_enum (by rfl) B.enumerate (pa_cons (pv 2) pa_nil)) (pg_tup (by rfl) (pgs_cons (pg_name (i := 3) sc_Clusterkeep.nd rfl (.inl rfl)) (pgs_cons (pg_tup (by rfl) (pgs_cons (pg_name (i := 4) sc_Clusterkeep.nd rfl (.inl rfl)) (pgs_cons (pg_name (i := 5) sc_Clusterkeep.nd rfl (.inl rfl)) (pgs_cons (pg_name (i := 6) sc_Clusterkeep.nd rfl (.inl rfl)) pgs_nil)))) pgs_nil)))
  (pss_cons (ps_asg (pv 3) (pg_sub (pe_fld (pv 0) (by rfl)) (pe_tup (pa_cons (pv 4) (pa_cons (pv 5) pa_nil))) (set_dict (units1 hr.units))))
  (pss_one (ps_asg (pv 3) (pg_sub (pe_fld (pv 0) (by rfl)) (pe_tup (pa_cons (pv 5) (pa_cons (pv 4) pa_nil))) (set_dict (units1 hr.units))))))))))), ?_⟩
  obtain ⟨a1, xs1, rfl, e1, m1, A1⟩ := hd1
  obtain ⟨a2, xs2, rfl, e2, m2, A2⟩ := hd2
  have l2 := A2.length
  walk_at "xs"
  intro B hB
  have bM := fresh_out hM hB
  have bx : B ≠ x := ne_of_none2 hB hx
  walk_at "xs"
  refine x_sAt (show _ = some (HO.ins C dx []) by rw [upd_ne bx.symm]; exact hx) cc.ck.cls cc.bounds (by decide) ?_
  have a2x : a2 ≠ x := m2
  have a2B : a2 ≠ B := ne_of_none e2 hB
  walk_at "xs"
  intro U hU
  have hU0 : H U = none := by
    by_cases hx' : U = x
    · rw [hx', upd_same] at hU; cases hU
    · rw [upd_ne hx'] at hU
      by_cases hb : U = B
      · rw [hb, upd_same] at hU; cases hU
      · rw [upd_ne hb] at hU; exact hU
  have ux : U ≠ x := ne_of_none2 hU0 hx
  have uM := fresh_out hM hU0
  have uB : U ≠ B := fun h => by rw [h, upd_ne bx, upd_same] at hU; cases hU
  walk_at "xs"
  refine x_sAt (show _ = some (HO.ins C dx (putF "_bounds" (.ref B) [])) by rw [upd_ne ux.symm, upd_same]) cc.ck.cls cc.bundles f1_len ?_
  have a2U : a2 ≠ U := ne_of_none e2 hU0
  obtain ⟨H3, e3⟩ : ∃ H3, H3 = upd (upd (upd (upd H B (.lst xs1)) x (.ins C dx (putF "_bounds" (.ref B) []))) U (.lst xs2)) x (.ins C dx (putF "_bundles" (.ref U) (putF "_bounds" (.ref B) []))) := ⟨_, rfl⟩
  have X3 : Ext [x] H H3 := fun z o nz e => by
    have zx : z ≠ x := by simpa using nz
    rw [e3, upd_ne zx, upd_ne (ne_of_none e hU0), upd_ne zx, upd_ne (ne_of_none e hB)]; exact e
  have hx3 : H3 x = some (.ins C dx (putF "_bundles" (.ref U) (putF "_bounds" (.ref B) []))) := by rw [e3, upd_same]
  have hB3 : H3 B = some (.lst xs1) := by rw [e3, upd_ne bx, upd_ne uB.symm, upd_ne bx, upd_same]
  have hU3 : H3 U = some (.lst xs2) := by rw [e3, upd_ne ux, upd_same]
  rw [← e3]
  clear e3 hU
  have X3' : Ext (x :: M) H H3 := X3.mono (by intro z h; simp at h; simp [h])
  have e2' := X3 _ _ (by simpa using m2) e2
  have A1' := A1.ext X3'
  have A2' := A2.ext X3'
  walk_at "xs"
  refine x_dnewT ?_
  intro N hN
  have nN : N ∉ M := fun h => by
    obtain ⟨o, e⟩ := hM N h
    rw [X3 N o (by simpa using fun z => nx (by rw [← z]; exact h)) e] at hN; cases hN
  have nx' : N ≠ x := ne_of_none2 hN hx3
  walk_at "xs"
  refine x_sAt (show _ = some (HO.ins C dx (putF "_bundles" (.ref U) (putF "_bounds" (.ref B) []))) by rw [upd_ne nx'.symm]; exact hx3) cc.ck.cls cc.numbers f2_len ?_
  obtain ⟨H4, e4⟩ : ∃ H4, H4 = upd (upd H3 N (.dT [])) x (.ins C dx (putF "_numbers" (.ref N) (putF "_bundles" (.ref U) (putF "_bounds" (.ref B) [])))) := ⟨_, rfl⟩
  have X4 : Ext [x] H3 H4 := fun z o nz e => by
    rw [e4, upd_ne (by simpa using nz), upd_ne (ne_of_none e hN)]; exact e
  have hx4 : H4 x = some (.ins C dx (F3 B U N)) := by rw [e4, upd_same]; rfl
  have hN4 : H4 N = some (.dT []) := by rw [e4, upd_ne nx', upd_same]
  rw [← e4]
  clear e4
  have X4' : Ext (x :: M) H3 H4 := X4.mono (by intro z h; simp at h; simp [h])
  have e2n : a2 ≠ N := ne_of_none e2' hN
  have e24 := X4 _ _ (by simpa using m2) e2'
  have nB : B ≠ N := ne_of_none hB3 hN
  have nU : U ≠ N := ne_of_none hU3 hN
  have eS : ∀ {H' : Hp}, Ext [N] H4 H' → Ext (x :: M) H3 H' := fun E z o nz e => E _ _ (by simpa using ne_of_none e hN) (X4' _ _ nz e)
  have eU : ∀ (G : Hp) (o : HO), Ext [N] G (upd G N o) := fun _ _ => Ext.upd (by simp)
  walk_at "xs"
  refine for_enum (K := K) (a := a2) (xs := xs2) (fun i σ' H' => ∃ (y3 y4 y5 y6 : Option V), σ' = [some (.ref x), some (.ref a1), some (.ref a2), y3, y4, y5, y6] ∧ Ext [N] H4 H' ∧ H' N = some (.dT (nums2 ds2 i))) ?_ ?_ ?_ ?_
  · exact ⟨_, _, _, _, rfl, Ext.refl _ _, hN4⟩
  · rintro i _ H' _ ⟨_, _, _, _, _, E, _⟩
    exact SqL.of (E _ _ (by simpa using e2n) e24)
  · rintro i y t _ H' hy ⟨y3, y4, y5, y6, rfl, E, hk⟩ ht
    obtain ⟨dR, hdR, dnR⟩ := A2'.get hy
    have hbd : bundleD dR n = true := by
      rw [List.all_eq_true] at hall
      exact hall _ (List.mem_map.mpr ⟨dR, List.mem_of_getElem? hdR, rfl⟩)
    obtain ⟨a', b', c', rfl⟩ := bundle_at hbd
    obtain ⟨p, rfl, np, hp⟩ := (dnR.ext (eS E)).tup3
    have ek1 : nums2 ds2 (i + 1) = putK (putK (nums2 ds2 i) [.inl a', .inl b'] (.int (i : Nat))) [.inl b', .inl a'] (.int (i : Nat)) := by
      show (match ds2[i]? with | some (.tuple (.int a :: .int b :: _)) => putK (putK (nums2 ds2 i) [.inl a, .inl b] (.int (i : Nat))) [.inl b, .inl a] (.int (i : Nat)) | _ => nums2 ds2 i) = _
      rw [hdR]
    have hi := (List.getElem?_eq_some_iff.mp hy).1
    have lk := nums2_len ds2 i
    have lp := length_putK (nums2 ds2 i) [Sum.inl a', Sum.inl b'] (V.int (i : Nat))
    rw [ek1]
    generalize nums2 ds2 i = kvs at *
    have hx' := E _ _ (by simpa using nx'.symm) hx4
    have S1 := same_upd ht (o := .tup [.int (i : Nat), .ref p])
    have hp := S1 _ _ hp
    have hk := S1 _ _ hk
    have hx' := S1 _ _ hx'
    have E := E.trans (Ext.same S1)
    have et := upd_same (H := H') (a := t) (o := .tup [.int (i : Nat), .ref p])
    generalize upd H' t _ = H5 at *
    walk_at "xs"
    refine x_gAt hx' cc.ck.cls cc.numbers (by unfold F3; rw [lookup_putF, if_pos rfl]) ?_
    walk_at "xs"
    intro r hr1
    have S3 := same_upd hr1 (o := .tup [.int a', .int b'])
    have hk := S3 _ _ hk
    have hx' := S3 _ _ hx'
    have E := E.trans (Ext.same S3)
    refine ⟨N, _, rfl, DPut.t hk (k := [.inl a', .inl b']) upd_same (by rw [sizeLine_eq]; omega), ?_⟩
    have E := E.trans (eU _ (.dT (putK kvs [.inl a', .inl b'] (.int (i : Nat)))))
    have hx' : (upd (upd H5 r (.tup [.int a', .int b'])) N (.dT (putK kvs [.inl a', .inl b'] (.int (i : Nat))))) x = some (.ins C dx (F3 B U N)) := by
      rw [upd_ne nx'.symm]; exact hx'
    have hk := upd_same (H := upd H5 r (.tup [.int a', .int b'])) (a := N) (o := .dT (putK kvs [.inl a', .inl b'] (.int (i : Nat))))
    generalize upd (upd H5 r (.tup [.int a', .int b'])) N _ = H6 at *
    walk_at "xs"
    refine x_gAt hx' cc.ck.cls cc.numbers (by unfold F3; rw [lookup_putF, if_pos rfl]) ?_
    walk_at "xs"
    intro r2 hr2
    have S4 := same_upd hr2 (o := .tup [.int b', .int a'])
    have hk := S4 _ _ hk
    have E := E.trans (Ext.same S4)
    refine ⟨N, _, rfl, DPut.t hk (k := [.inl b', .inl a']) upd_same (by rw [sizeLine_eq]; omega), ?_⟩
    have E := E.trans (eU _ (.dT (putK (putK kvs [.inl a', .inl b'] (.int (i : Nat))) [.inl b', .inl a'] (.int (i : Nat)))))
    walk_at "xs"
    exact ⟨_, _, _, _, rfl, E, upd_same⟩
  · rintro _ H' ⟨y3, y4, y5, y6, rfl, E, hk⟩
    walk_at "xs"
    refine q _ (fun z o nz e => ?_) ⟨dx, B, U, N, _, E _ _ (by simpa using nx'.symm) hx4, nx, ?_, ?_, hk, nN, fun i j => ?_⟩
    · have h3 := X3 z o nz e
      exact E _ _ (by simpa using ne_of_none h3 hN) (X4 _ _ nz h3)
    · exact .lst (E _ _ (by simpa using nB) (X4 _ _ (by simpa using bx) hB3)) bM (DnAll.sub (by intro z h; simp [h]) (A1'.ext (eS E)))
    · exact .lst (E _ _ (by simpa using nU) (X4 _ _ (by simpa using ux) hU3)) uM (DnAll.sub (by intro z h; simp [h]) (A2'.ext (eS E)))
    · rw [l2]
      exact nums2_eq hall i j _ (Nat.le_refl _)

theorem dn_its {M : List Addr} {x : Addr} {H : Hp} {v : V} {ds : List PyData} (h : Dn (x :: M) H v (.list ds)) : ∃ a xs, v = .ref a ∧ H a = some (.lst xs) ∧ a ≠ x ∧ DnAll (x :: M) H xs ds := by
  cases h with
  | @lst a xs _ e m A => exact ⟨a, xs, rfl, e, fun z => m (by rw [z]; simp), A⟩
theorem km_init {k : Nat} (D : Dm K C "__init__" "Cluster.__init__" s_Cluster_init) (B : Bl mg) (cc : Cc K mg C) (c_are_bounds : Kn P w K mg base "are_bounds" k spBounds) (c_are_bundles : Kn P w K mg base "are_bundles" k spBundles)
    (m_keep : Km P w K mg base C "_keep" k (spKeep C)) (noKeep : True) : Km P w K mg base C "__init__" (k + 1) (spInit C) := by
  refine km_of D (fun _ _ _ _ _ _ us hl => match us, hl with | [_, _, _], _ => rfl) sc_Cluster_init (fun vs H Q E h => by obtain ⟨M, x, dx, v1, v2, ds1, ds2, rfl, _⟩ := h; rfl) (fun f cd B' fr z H vs Q E hr gd h => ?_)
  obtain ⟨M, x, dx, v1, v2, ds1, ds2, rfl, hM, nx, hx, hd1, hd2, hb1, hb2, q⟩ := h
  have c_Cluster := cc.ck
  refine ⟨_, (pss_cons (ps_if (pt_not (pt_val (pe_own c_are_bounds hr gd (by rfl) (pa_cons (pv 1) pa_nil)))) (pss_one ps_never) pss_nil)
  (pss_cons (ps_if (pt_not (pt_val (pe_own c_are_bundles hr gd (by rfl) (pa_cons (pv 2) (pa_cons (pe_callB call_len_seq (by rfl) B.len (by decide +kernel) (pa_cons (pv 1) pa_nil)) pa_nil))))) (pss_one ps_never) pss_nil)
  (pss_one (ps_expr (pe_ownM (pv 0) c_Cluster.cls m_keep hr gd (pa_cons (pv 1) (pa_cons (pv 2) pa_nil))))))), ?_⟩
  obtain ⟨len2, all2⟩ := bundles_len hb2
  have len1 := bounds_len hb1
  walk_at "xs"
  refine x_bounds hd1 (fun es e => by cases e; omega) ?_
  intro H1 S1
  rw [hb1]
  have hd1 := hd1.ext (Ext.same S1)
  have hd2 := hd2.ext (Ext.same S1)
  have hx := S1 _ _ hx
  have hd1' := hd1
  cases hd1' with
  | @lst a1 xs1 _ e1 m1 A1 =>
  have l1 := A1.length
  walk_at "xs"
  rw [l1]
  refine x_bundles hd2 (fun es e => by cases e; omega) ?_
  intro H2 S2
  rw [hb2]
  have hd1 := hd1.ext (Ext.same S2)
  have hd2 := hd2.ext (Ext.same S2)
  have hx := S2 _ _ hx
  walk_at "xs"
  refine x_mAt hx rfl ?_
  walk_at "xs"
  refine ⟨M, x, dx, _, _, ds1, ds2, _, rfl, fun m hm => ?_, nx, hx, dn_its hd1, dn_its hd2, all2, len2, fun H' X cl => ?_⟩
  · obtain ⟨o, e⟩ := hM m hm
    exact ⟨o, S2 _ _ (S1 _ _ e)⟩
  · walk_at "xs"
    exact q _ (fun z o n e => X _ _ n (S2 _ _ (S1 _ _ e))) cl
def spLen (C : Addr) : Sp := fun vs H Q _ => ∃ x M d1 ds2, vs = [.ref x] ∧ Clu C M H x d1 (.list ds2) ∧ Q (.int ds2.length) H
theorem km_len {k : Nat} (D : Dm K C "__len__" "Cluster.__len__" s_Cluster_len) (B : Bl mg) (cc : Cc K mg C) : Km P w K mg base C "__len__" (k + 1) (spLen C) := by
  refine km_of D (fun _ _ _ _ _ _ us hl => match us, hl with | [_], _ => rfl) sc_Cluster_len (fun vs H Q E h => by obtain ⟨x, M, d1, ds2, rfl, _⟩ := h; rfl) (fun f cd B' fr z H vs Q E hr gd h => ?_)
  obtain ⟨x, M, d1, ds2, rfl, ⟨dx, B0, U0, N0, kvs, hx, nx, hd1, hd2, hN, nN, ek⟩, q⟩ := h
  refine ⟨_, (pss_one (ps_ret (pe_callB call_len_seq (by rfl) B.len (by decide +kernel) (pa_cons (pe_fld (pv 0) (by rfl)) pa_nil)))), ?_⟩
  cases hd2 with
  | @lst a2 xs2 _ e2 m2 A2 =>
  walk_at "xs"
  refine x_gAt hx cc.ck.cls cc.bundles (f3_bundles ..) ?_
  walk_at "xs"
  rw [A2.length]
  exact q
def spCopy (C : Addr) : Sp := fun vs H Q _ => ∃ x M d1 ds2, vs = [.ref x] ∧ Clu C M H x d1 (.list ds2) ∧ ∀ H' l, Same H H' → H l = none → Dn [] H' (.ref l) (.list ds2) → Q (.ref l) H'
theorem km_bundles {k : Nat} (D : Dm K C "bundles" "Cluster.bundles" s_Cluster_bundles) (B : Bl mg) (cc : Cc K mg C) : Km P w K mg base C "bundles" (k + 1) (spCopy C) := by
  refine km_of D (fun _ _ _ _ _ _ us hl => match us, hl with | [_], _ => rfl) sc_Cluster_bundles (fun vs H Q E h => by obtain ⟨x, M, d1, ds2, rfl, _⟩ := h; rfl) (fun f cd B' fr z H vs Q E hr gd h => ?_)
  obtain ⟨x, M, d1, ds2, rfl, ⟨dx, B0, U0, N0, kvs, hx, nx, hd1, hd2, hN, nN, ek⟩, q⟩ := h
  refine ⟨_, (pss_one (ps_ret (pe_callTy call_list_of (by rfl) B.«list» (by decide +kernel) (pa_cons (pe_fld (pv 0) (by rfl)) pa_nil)))), ?_⟩
  cases hd2 with
  | @lst a2 xs2 _ e2 m2 A2 =>
  walk_at "xs"
  refine x_gAt hx cc.ck.cls cc.bundles (f3_bundles ..) ?_
  walk_at "xs"
  intro l hl
  walk_at "xs"
  exact q _ l (same_upd hl) hl (.lst upd_same (by simp) ((A2.sub (by simp)).ext (Ext.same (same_upd hl))))
/-- making one -/
theorem x_clu {H : Hp} {b c : Addr} {v1 v2 : V} {ds1 ds2 : List PyData} {Q : VK} (hB : Bag H b c) (hd1 : Dn [b] H v1 (.list ds1)) (hd2 : Dn [b] H v2 (.list ds2)) (hb1 : boundsD (.list ds1) = true) (hb2 : bundlesD (.list ds2) ds1.length = true)
    (h : ∀ x H', Same H H' → Bag H' b c → H x = none → Clu C [b] H' x (.list ds1) (.list ds2) → Q (.ref x) H') :
    ∀ x dx, H x = none → H dx = none → dx ≠ x → spInit C [.ref x, v1, v2] (upd (upd H dx (.own x)) x (.ins C dx [])) (fun v H2 => v = .non ∧ Q (.ref x) H2) E0 := by
  intro x dx hx hdx ne
  obtain ⟨ob, hob⟩ := hB.at
  have S1 := same_upd hdx (o := .own x)
  have hx1 : (upd H dx (.own x)) x = none := by rw [upd_ne ne.symm]; exact hx
  have S := S1.trans (same_upd hx1 (o := .ins C dx []))
  have nb : x ∉ [b] := new_out (Same.refl H) hob hx
  refine ⟨[b], x, dx, v1, v2, ds1, ds2, rfl, ?_, nb, upd_same, (hd1.more hx).ext (Ext.same S), (hd2.more hx).ext (Ext.same S), hb1, hb2, fun H' X cl => ⟨rfl, ?_⟩⟩
  · intro m hm
    simp at hm; subst hm
    exact ⟨_, S _ _ hob⟩
  · have S' : Same H H' := fun z o e => X _ _ (by simpa using ne_of_none e hx) (S _ _ e)
    exact h x H' S' (hB.ext S') hx cl
theorem x_clu2 {H : Hp} {b c : Addr} {v1 v2 : V} {ds1 ds2 : List PyData} {R : Addr → Hp → Prop} (hB : Bag H b c) (hd1 : Dn [b] H v1 (.list ds1)) (hd2 : Dn [b] H v2 (.list ds2)) (hb1 : boundsD (.list ds1) = true) (hb2 : bundlesD (.list ds2) ds1.length = true)
    (h : ∀ x H', Same H H' → Bag H' b c → H x = none → Clu C [b] H' x (.list ds1) (.list ds2) → R x H') :
    ∀ x dx, H x = none → H dx = none → dx ≠ x → spInit C (.ref x :: ([v1, v2] ++ [])) (upd (upd H dx (.own x)) x (.ins C dx [])) (fun v H2 => v = .non ∧ R x H2) E0 := by
  intro x dx hx hdx ne
  obtain ⟨ob, hob⟩ := hB.at
  have S1 := same_upd hdx (o := .own x)
  have hx1 : (upd H dx (.own x)) x = none := by rw [upd_ne ne.symm]; exact hx
  have S := S1.trans (same_upd hx1 (o := .ins C dx []))
  have nb : x ∉ [b] := new_out (Same.refl H) hob hx
  refine ⟨[b], x, dx, v1, v2, ds1, ds2, rfl, ?_, nb, upd_same, (hd1.more hx).ext (Ext.same S), (hd2.more hx).ext (Ext.same S), hb1, hb2, fun H' X cl => ⟨rfl, ?_⟩⟩
  · intro m hm
    simp at hm; subst hm
    exact ⟨_, S _ _ hob⟩
  · have S' : Same H H' := fun z o e => X _ _ (by simpa using ne_of_none e hx) (S _ _ e)
    exact h x H' S' (hB.ext S') hx cl
end

/-! ### loads, exactly -/
def ldStep (hs : List Int) (l a b c : Int) : List Int := (hs.set a.toNat (hs.getD a.toNat 0 + l)).set b.toNat ((hs.set a.toNat (hs.getD a.toNat 0 + l)).getD b.toNat 0 + c - l)
def ldOf (n : Nat) (rs : List PyData) (ls : List Int) : Nat → List Int
  | 0 => List.replicate n 0
  | i + 1 => match ls[i]?, rs[i]? with
    | some l, some (.tuple [.int a, .int b, .int c]) => ldStep (ldOf n rs ls i) l a b c
    | _, _ => ldOf n rs ls i
theorem ldStep_len (hs : List Int) (l a b c : Int) : (ldStep hs l a b c).length = hs.length := by
  unfold ldStep
  rw [List.length_set, List.length_set]
theorem ld_len (n : Nat) (rs : List PyData) (ls : List Int) : ∀ i, (ldOf n rs ls i).length = n
  | 0 => by rw [ldOf, List.length_replicate]
  | i + 1 => by
    unfold ldOf
    split
    · rw [ldStep_len]; exact ld_len n rs ls i
    · exact ld_len n rs ls i
theorem ld_next {n : Nat} {rs : List PyData} {ls : List Int} {i : Nat} {l a b c : Int} (hl : ls[i]? = some l) (hr : rs[i]? = some (tupD [a, b, c])) : ldOf n rs ls (i + 1) = ldStep (ldOf n rs ls i) l a b c := by
  show (match ls[i]?, rs[i]? with
    | some l, some (.tuple [.int a, .int b, .int c]) => ldStep (ldOf n rs ls i) l a b c
    | _, _ => ldOf n rs ls i) = _
  rw [hl, hr]
  rfl
/-- what was set, summed -/
theorem sum_set : ∀ (hs : List Int) (j : Nat) (v : Int), j < hs.length → (hs.set j (hs.getD j 0 + v)).sum = hs.sum + v
  | [], _, _, h => absurd h (Nat.not_lt_zero _)
  | x :: r, 0, v, _ => by simp only [List.set_cons_zero, List.getD_cons_zero, List.sum_cons]; omega
  | x :: r, j + 1, v, h => by
    have ih := sum_set r j v (by simpa using h)
    simp only [List.set_cons_succ, List.getD_cons_succ, List.sum_cons]
    omega
theorem ldStep_sum {hs : List Int} {l a b c : Int} (ha : a.toNat < hs.length) (hb : b.toNat < hs.length) : (ldStep hs l a b c).sum = hs.sum + c := by
  unfold ldStep
  have e : ∀ x : Int, x + c - l = x + (c - l) := fun x => by omega
  rw [e, sum_set _ _ _ (by rw [List.length_set]; exact hb), sum_set _ _ _ ha]
  omega
theorem getD_of {hs : List Int} {j : Nat} {v : Int} (h : hs[j]? = some v) : hs.getD j 0 = v := by
  rw [List.getD_eq_getElem?_getD, h]; rfl
/-! ### the other methods -/
theorem bound_row {d : PyData} (h : boundD d = true) : ∃ x y : Int, d = tupD [x, y] ∧ 0 ≤ x ∧ x ≤ y ∧ y ≤ 10 ^ 30 := by
  unfold boundD at h
  split at h
  · rename_i u v
    rw [Bool.and_eq_true] at h
    obtain ⟨h1, h2⟩ := h
    obtain ⟨x, rfl⟩ := inD_int h1
    have h2 : inD x (10 ^ 30) v = true := h2
    obtain ⟨y, rfl⟩ := inD_int h2
    have h1 : (decide (0 ≤ x) && decide (x ≤ 10 ^ 30)) = true := h1
    have h2 : (decide (x ≤ y) && decide (y ≤ 10 ^ 30)) = true := h2
    simp only [Bool.and_eq_true, decide_eq_true_eq] at h1 h2
    exact ⟨x, y, rfl, h1.1, h2.1, h2.2⟩
  · cases h
def spSize (C : Addr) : Sp := fun vs H Q _ => ∃ x M ds1 d2, vs = [.ref x] ∧ Clu C M H x (.list ds1) d2 ∧ Q (.int ds1.length) H
def spSide (C : Addr) (hi : Bool) : Sp := fun vs H Q _ => ∃ (x : Addr) (M : List Addr) (ds1 : List PyData) (d2 : PyData) (i : Int) (lo up : Int), vs = [.ref x, .int i] ∧ Clu C M H x (.list ds1) d2 ∧ 0 ≤ i ∧ i < ds1.length ∧ ds1[i.toNat]? = some (tupD [lo, up]) ∧ Q (.int (if hi = true then up else lo)) H
def spOf (C : Addr) : Sp := fun vs H Q _ => ∃ (x : Addr) (M : List Addr) (d1 : PyData) (rs : List PyData) (i j : Int), vs = [.ref x, .int i, .int j] ∧ Clu C M H x d1 (.list rs) ∧
  ∀ H', Same H H' → Q ((valV (nums rs rs.length) [.inl (if j < i then j else i), .inl (if j > i then j else i)]).getD .non) H'
section
variable {P : Program} {w : World} {K : PySem.W.Frag} {mg : Str → Option Value} {base : Heap} {t0 t1 t2 t3 t4 : Tok} {C : Addr}
theorem km_size {k : Nat} (D : Dm K C "size" "Cluster.size" s_Cluster_size) (B : Bl mg) (cc : Cc K mg C) : Km P w K mg base C "size" (k + 1) (spSize C) := by
  refine km_of D (fun _ _ _ _ _ _ us hl => match us, hl with | [_], _ => rfl) sc_Cluster_size (fun vs H Q E h => by obtain ⟨x, M, ds1, d2, rfl, _⟩ := h; rfl) (fun f cd B' fr z H vs Q E hr gd h => ?_)
  obtain ⟨x, M, ds1, d2, rfl, ⟨dx, B0, U0, N0, kvs, hx, nx, hd1, hd2, hN, nN, ek⟩, q⟩ := h
  refine ⟨_, (pss_one (ps_ret (pe_callB call_len_seq (by rfl) B.len (by decide +kernel) (pa_cons (pe_fld (pv 0) (by rfl)) pa_nil)))), ?_⟩
  cases hd1 with
  | @lst a1 xs1 _ e1 m1 A1 =>
  walk_at "xs"
  refine x_gAt hx cc.ck.cls cc.bounds (f3_bounds ..) ?_
  walk_at "xs"
  rw [A1.length]
  exact q
theorem km_floor {k : Nat} (D : Dm K C "floor" "Cluster.floor" s_Cluster_floor) (B : Bl mg) (cc : Cc K mg C) : Km P w K mg base C "floor" (k + 1) (spSide C false) := by
  refine km_of D (fun _ _ _ _ _ _ us hl => match us, hl with | [_, _], _ => rfl) sc_Cluster_floor (fun vs H Q E h => by obtain ⟨x, M, ds1, d2, i, lo, up, rfl, _⟩ := h; rfl) (fun f cd B' fr z H vs Q E hr gd h => ?_)
  obtain ⟨x, M, ds1, d2, i, lo, up, rfl, ⟨dx, B0, U0, N0, kvs, hx, nx, hd1, hd2, hN, nN, ek⟩, i0, i1, hrow, q⟩ := h
  refine ⟨_, (pss_one (ps_ret (pe_ix (r := rIxT K) ix_tup (pe_ix (r := rIxL K) ix_list (pe_fld (pv 0) (by rfl)) (pv 1) (fun _ _ => rfl)) pe_int (fun _ _ => rfl)))), ?_⟩
  cases hd1 with
  | @lst a1 xs1 _ e1 m1 A1 =>
  have l1 := A1.length
  walk_at "xs"
  refine x_gAt hx cc.ck.cls cc.bounds (f3_bounds ..) ?_
  obtain ⟨v, ev, av⟩ := ix_at e1 i0 (by omega)
  obtain ⟨d, hd, dv⟩ := A1.get ev
  rw [hrow] at hd
  cases hd
  cases dv with
  | tup r1 r2 r3 =>
  obtain rfl := DnAll.toInts (ms := [lo, up]) r3
  walk_at "xs"
  refine x_ixL (SqL.of e1) av ?_
  walk_at "xs"
  exact q
theorem km_ceiling {k : Nat} (D : Dm K C "ceiling" "Cluster.ceiling" s_Cluster_ceiling) (B : Bl mg) (cc : Cc K mg C) : Km P w K mg base C "ceiling" (k + 1) (spSide C true) := by
  refine km_of D (fun _ _ _ _ _ _ us hl => match us, hl with | [_, _], _ => rfl) sc_Cluster_ceiling (fun vs H Q E h => by obtain ⟨x, M, ds1, d2, i, lo, up, rfl, _⟩ := h; rfl) (fun f cd B' fr z H vs Q E hr gd h => ?_)
  obtain ⟨x, M, ds1, d2, i, lo, up, rfl, ⟨dx, B0, U0, N0, kvs, hx, nx, hd1, hd2, hN, nN, ek⟩, i0, i1, hrow, q⟩ := h
  refine ⟨_, (pss_one (ps_ret (pe_ix (r := rIxT K) ix_tup (pe_ix (r := rIxL K) ix_list (pe_fld (pv 0) (by rfl)) (pv 1) (fun _ _ => rfl)) pe_int (fun _ _ => rfl)))), ?_⟩
  cases hd1 with
  | @lst a1 xs1 _ e1 m1 A1 =>
  have l1 := A1.length
  walk_at "xs"
  refine x_gAt hx cc.ck.cls cc.bounds (f3_bounds ..) ?_
  obtain ⟨v, ev, av⟩ := ix_at e1 i0 (by omega)
  obtain ⟨d, hd, dv⟩ := A1.get ev
  rw [hrow] at hd
  cases hd
  cases dv with
  | tup r1 r2 r3 =>
  obtain rfl := DnAll.toInts (ms := [lo, up]) r3
  walk_at "xs"
  refine x_ixL (SqL.of e1) av ?_
  walk_at "xs"
  exact q
theorem km_bundle_of {k : Nat} (D : Dm K C "bundle_of" "Cluster.bundle_of" s_Cluster_bundle_of) (B : Bl mg) (cc : Cc K mg C) : Km P w K mg base C "bundle_of" (k + 1) (spOf C) := by
  refine km_of D (fun _ _ _ _ _ _ us hl => match us, hl with | [_, _, _], _ => rfl) sc_Cluster_bundle_of (fun vs H Q E h => by obtain ⟨x, M, d1, rs, i, j, rfl, _⟩ := h; rfl) (fun f cd B' fr z H vs Q E hr gd h => ?_)
  obtain ⟨x, M, d1, rs, i, j, rfl, ⟨dx, B0, U0, N0, kvs, hx, nx, hd1, hd2, hN, nN, ek⟩, q⟩ := h
  refine ⟨_, (pss_one (ps_ret (pe_dget1 (units1 (by exact hr.units)) (pe_fld (pv 0) (by rfl)) (pe_tup (pa_cons (pv 1) (pa_cons (pv 2) pa_nil))) ⟨rfl, rfl, rfl, rfl⟩))), ?_⟩
  walk_at "xs"
  refine x_dg1 ?_
  walk_at "xs"
  refine x_gAt hx cc.ck.cls cc.numbers (by unfold F3; rw [lookup_putF, if_pos rfl]) ?_
  refine ⟨N0, rfl, .inr ⟨_, .inl hN⟩, ?_⟩
  walk_at "xs"
  intro p hp
  have S := same_upd hp (o := .tup [.int i, .int j])
  refine ⟨_, DGet.t (S _ _ hN) (k := [.inl i, .inl j]) upd_same, ?_⟩
  rw [ek]
  exact q _ S
end

/-! ### bounds, is_rigid -/
def spCopyB (C : Addr) : Sp := fun vs H Q _ => ∃ x M ds1 d2, vs = [.ref x] ∧ Clu C M H x (.list ds1) d2 ∧ ∀ H' l, Same H H' → H l = none → Dn [] H' (.ref l) (.list ds1) → Q (.ref l) H'
def spRigid (C : Addr) : Sp := fun vs H Q _ => ∃ (x : Addr) (M : List Addr) (ds1 : List PyData) (d2 : PyData) (i : Int) (lo up : Int), vs = [.ref x, .int i] ∧ Clu C M H x (.list ds1) d2 ∧ 0 ≤ i ∧ i < ds1.length ∧ ds1[i.toNat]? = some (tupD [lo, up]) ∧ Q (.bl (decide (lo = up))) H
section
variable {P : Program} {w : World} {K : PySem.W.Frag} {mg : Str → Option Value} {base : Heap} {t0 t1 t2 t3 t4 : Tok} {C : Addr}
theorem km_bounds {k : Nat} (D : Dm K C "bounds" "Cluster.bounds" s_Cluster_bounds) (B : Bl mg) (cc : Cc K mg C) : Km P w K mg base C "bounds" (k + 1) (spCopyB C) := by
  refine km_of D (fun _ _ _ _ _ _ us hl => match us, hl with | [_], _ => rfl) sc_Cluster_bounds (fun vs H Q E h => by obtain ⟨x, M, ds1, d2, rfl, _⟩ := h; rfl) (fun f cd B' fr z H vs Q E hr gd h => ?_)
  obtain ⟨x, M, ds1, d2, rfl, ⟨dx, B0, U0, N0, kvs, hx, nx, hd1, hd2, hN, nN, ek⟩, q⟩ := h
  refine ⟨_, (pss_one (ps_ret (pe_callTy call_list_of (by rfl) B.«list» (by decide +kernel) (pa_cons (pe_fld (pv 0) (by rfl)) pa_nil)))), ?_⟩
  cases hd1 with
  | @lst a2 xs2 _ e2 m2 A2 =>
  walk_at "xs"
  refine x_gAt hx cc.ck.cls cc.bounds (f3_bounds ..) ?_
  walk_at "xs"
  intro l hl
  walk_at "xs"
  exact q _ l (same_upd hl) hl (.lst upd_same (by simp) ((A2.sub (by simp)).ext (Ext.same (same_upd hl))))
theorem km_rigid {k : Nat} (D : Dm K C "is_rigid" "Cluster.is_rigid" s_Cluster_is_rigid) (B : Bl mg) (cc : Cc K mg C) (m_floor : Km P w K mg base C "floor" k (spSide C false)) (m_ceiling : Km P w K mg base C "ceiling" k (spSide C true)) : Km P w K mg base C "is_rigid" (k + 1) (spRigid C) := by
  refine km_of D (fun _ _ _ _ _ _ us hl => match us, hl with | [_, _], _ => rfl) sc_Cluster_is_rigid (fun vs H Q E h => by obtain ⟨x, M, ds1, d2, i, lo, up, rfl, _⟩ := h; rfl) (fun f cd B' fr z H vs Q E hr gd h => ?_)
  obtain ⟨x, M, ds1, d2, i, lo, up, rfl, cl, i0, i1, hi, q⟩ := h
  have c_Cluster := cc.ck
  obtain ⟨dx, B0, U0, N0, kvs, hx, _⟩ := id cl
  refine ⟨_, (pss_one (ps_ret (pe_cmpR op_eq (pe_ownM (pv 0) c_Cluster.cls m_floor hr gd (pa_cons (pv 1) pa_nil)) (pe_ownM (pv 0) c_Cluster.cls m_ceiling hr gd (pa_cons (pv 1) pa_nil)) (nomark _)))), ?_⟩
  walk_at "xs"
  refine x_mAt hx (f3_none _ _ _ (by decide) (by decide) (by decide)) ?_
  walk_at "xs"
  refine ⟨x, M, ds1, d2, i, lo, up, rfl, cl, i0, i1, hi, ?_⟩
  walk_at "xs"
  refine x_mAt hx (f3_none _ _ _ (by decide) (by decide) (by decide)) ?_
  walk_at "xs"
  refine ⟨x, M, ds1, d2, i, lo, up, rfl, cl, i0, i1, hi, ?_⟩
  walk_at "xs"
  exact q
end

/-! ### loads of the program -/
def spLoadsP (C : Addr) : Sp := fun vs H Q _ => ∃ (x p : Addr) (M : List Addr) (ds1 rs : List PyData) (ls : List Int), vs = [.ref x, .ref p] ∧ Clu C M H x (.list ds1) (.list rs) ∧ H p = some (.tup (ls.map V.int)) ∧ boundsD (.list ds1) = true ∧ bundlesD (.list rs) ds1.length = true ∧ ls.length = rs.length ∧
  ∀ (H' : Hp) (f : Addr), Same H H' → H f = none → H' f = some (.lst ((ldOf ds1.length rs ls ls.length).map V.int)) → Q (.ref f) H'
section
variable {P : Program} {w : World} {K : PySem.W.Frag} {mg : Str → Option Value} {base : Heap} {t0 t1 t2 t3 t4 : Tok} {C : Addr}
theorem kn_loadsP {k : Nat} (D : Df K mg "loads" s_loads) (B : Bl mg) (cc : Cc K mg C) (m_size : Km P w K mg base C "size" k (spSize C)) (m_bundles : Km P w K mg base C "bundles" k (spCopy C)) : Kn P w K mg base "loads" (k + 1) (spLoadsP C) := by
  refine kn_of D (fun _ _ _ _ _ _ us hl => match us, hl with | [_, _], _ => rfl) sc_loads (fun vs H Q E h => by obtain ⟨x, p, M, ds1, rs, ls, rfl, _⟩ := h; rfl) (fun f cd B' fr z H vs Q E hr gd h => ?_)
  obtain ⟨x, p, M, ds1, rs, ls, rfl, hc, hp, hb1, hb, same, q⟩ := h
  have c_Cluster := cc.ck
  refine ⟨_, (pss_cons (ps_set (i := 2) sc_loads.nd rfl (.inl rfl) (pe_op op_rep (pe_lst (pa_cons pe_int pa_nil)) (pe_ownM0 (pv 0) c_Cluster.cls m_size hr gd)))
  (pss_cons (ps_for PassesOwn.never rfl (pi_zipM (by rfl) B.zip (pa_cons (pv 1) (pa_cons (pe_ownM0 (pv 0) c_Cluster.cls m_bundles hr gd) pa_nil))) (pg_tup (by rfl) (pgs_cons (pg_name (i := 3) sc_loads.nd rfl (.inl rfl)) (pgs_cons (pg_tup (by rfl) (pgs_cons (pg_name (i := 4) sc_loads.nd rfl (.inl rfl)) (pgs_cons (pg_name (i := 5) sc_loads.nd rfl (.inl rfl)) (pgs_cons (pg_name (i := 6) sc_loads.nd rfl (.inl rfl)) pgs_nil)))) pgs_nil)))
  (pss_cons (ps_augS (pv 2) (pv 4) get_list (pv 3) ip_add set_list)
  (pss_one (ps_augS (pv 2) (pv 5) get_list (pe_op op_sub (pv 6) (pv 3)) ip_add set_list))))
  (pss_one (ps_ret (pv 2))))), ?_⟩
  obtain ⟨len, all⟩ := bundles_len hb
  have n1 := bounds_len hb1
  obtain ⟨dx, B0, U0, N0, kvs, hx, _⟩ := id hc
  walk_at "xs"
  intro o ho
  have S0 := same_upd ho (o := .lst [.int 0])
  have eo := upd_same (H := H) (a := o) (o := .lst [.int 0])
  have hc0 := hc.ext (Ext.same S0)
  have hx0 := S0 _ _ hx
  generalize upd H o _ = H1 at *
  walk_at "xs"
  refine x_mAt hx0 (f3_none _ _ _ (by decide) (by decide) (by decide)) ?_
  walk_at "xs"
  refine ⟨x, M, ds1, _, rfl, hc0, ?_⟩
  refine x_rep eo (by omega) (by omega) (by rw [sizeLine_eq]; simp only [List.length_cons, List.length_nil]; omega) ?_
  intro F hF
  rw [repl_int, Int.toNat_natCast]
  have hF0 : H F = none := S0.free hF
  have S1 : Same H (upd H1 F (.lst ((List.replicate ds1.length (0 : Int)).map V.int))) := S0.trans (same_upd hF)
  have eF := upd_same (H := H1) (a := F) (o := .lst ((List.replicate ds1.length (0 : Int)).map V.int))
  generalize upd H1 F _ = H2 at *
  have hc2 := hc.ext (Ext.same S1)
  walk_at "xs"
  refine x_mAt (S1 _ _ hx) (f3_none _ _ _ (by decide) (by decide) (by decide)) ?_
  walk_at "xs"
  refine ⟨x, M, .list ds1, rs, rfl, hc2, ?_⟩
  intro H3 a S3 na da
  cases da with
  | @lst _ xs _ ea ma A =>
  have lx := A.length
  have S13 := S1.trans S3
  have hp3 := S13 _ _ hp
  have eF3 := S3 _ _ eF
  have aF : a ≠ F := ne_of_none2 na eF
  walk_at "xs"
  refine for_zipM (K := K) (us := ls.map V.int) (vs := xs) (by rw [List.length_map]; omega) (fun i σ' H' => ∃ (y3 y4 y5 y6 : Option V), σ' = [some (.ref x), some (.ref p), some (.ref F), y3, y4, y5, y6] ∧ H' F = some (.lst ((ldOf ds1.length rs ls i).map V.int)) ∧ (∀ z o, z ≠ F → H3 z = some o → H' z = some o)) ?_ ?_ ?_ ?_
  · exact ⟨_, _, _, _, rfl, eF3, fun z o _ e => e⟩
  · rintro i _ H' ⟨_, _, _, _, _, _, S⟩
    exact ⟨SqT.of (S _ _ (ne_of_none hp hF0) hp3), SqL.of (S _ _ aF ea)⟩
  · rintro i u r t _ H' hu hv ⟨y3, y4, y5, y6, rfl, fd, S⟩ ht
    obtain ⟨l, hl, rfl⟩ := int_at hu
    obtain ⟨dR, hdR, dnR⟩ := A.get hv
    have hbd : bundleD dR ds1.length = true := by
      rw [List.all_eq_true] at all
      exact all _ (List.mem_map.mpr ⟨dR, List.mem_of_getElem? hdR, rfl⟩)
    obtain ⟨a', b', c', rfl, p0, p1, p2, p3, p4⟩ := bundle_row hbd (by omega)
    obtain ⟨r', rfl, _, hr2⟩ := Dn.tup3 (a := a') (b := b') (c := c') dnR
    have rF : r' ≠ F := fun e => by rw [e, eF3] at hr2; cases hr2
    have nx := ld_next (n := ds1.length) hl hdR
    have hn := ld_len ds1.length rs ls i
    generalize ldOf ds1.length rs ls i = hs at *
    have hr3 := S _ _ rF hr2
    have ntF : t ≠ F := ne_of_none2 ht fd
    have nrt : r' ≠ t := ne_of_none hr3 ht
    have fd' : (upd H' t (.tup [.int l, .ref r'])) F = some (.lst (hs.map V.int)) := by rw [upd_ne ntF.symm]; exact fd
    have hr4 : (upd H' t (.tup [.int l, .ref r'])) r' = some (.tup [.int a', .int b', .int c']) := by rw [upd_ne nrt]; exact hr3
    have et := upd_same (H := H') (a := t) (o := .tup [.int l, .ref r'])
    have S2 : ∀ z o, z ≠ F → H3 z = some o → (upd H' t (.tup [.int l, .ref r'])) z = some o := fun z o n e => by rw [upd_ne (ne_of_none (S _ _ n e) ht)]; exact S _ _ n e
    generalize upd H' t _ = H4 at *
    walk_at "xs"
    obtain ⟨v1, hv1, at1⟩ := at_map (hs := hs) p0 (by omega)
    refine x_getL fd' (by omega) (v := .int v1) (by rw [List.getElem?_map, hv1]; rfl) ?_
    walk_at "xs"
    refine x_setL fd' (ixN_of p0 (by rw [List.length_map]; omega)) ?_
    rw [set_map, ← getD_of hv1]
    obtain ⟨hs1, eh1⟩ : ∃ hs1, hs1 = hs.set a'.toNat (hs.getD a'.toNat 0 + l) := ⟨_, rfl⟩
    rw [← eh1]
    have len1 : hs1.length = ds1.length := by rw [eh1, List.length_set]; exact hn
    have S4 : ∀ z o, z ≠ F → H3 z = some o → (upd H4 F (.lst (hs1.map V.int))) z = some o := fun z o n e => by rw [upd_ne n]; exact S2 _ _ n e
    have fd2 := upd_same (H := H4) (a := F) (o := .lst (hs1.map V.int))
    generalize upd H4 F _ = H5 at *
    walk_at "xs"
    obtain ⟨v2, hv2, at2⟩ := at_map (hs := hs1) (i := b') (by omega) (by omega)
    refine x_getL fd2 (by omega) (v := .int v2) (by rw [List.getElem?_map, hv2]; rfl) ?_
    walk_at "xs"
    refine x_setL fd2 (ixN_of (by omega) (by rw [List.length_map]; omega)) ?_
    rw [set_map, ← getD_of hv2]
    walk_at "xs"
    refine ⟨_, _, _, _, rfl, ?_, fun z o n e => by rw [upd_ne n]; exact S4 _ _ n e⟩
    rw [upd_same, nx, eh1]
    unfold ldStep
    rw [show ∀ x : Int, x + (c' - l) = x + c' - l from fun x => by omega]
  · rintro _ H' ⟨y3, y4, y5, y6, rfl, fd, S⟩
    rw [List.length_map] at fd
    walk_at "xs"
    exact q _ F (fun z o e => S _ _ (ne_of_none e hF0) (S13 _ _ e)) hF0 fd
end

/-! ### the first load that its broker's bounds don't allow -/
def OkAt (ds : List PyData) (hs : List Int) (j : Nat) : Prop := ∀ (lo up h : Int), ds[j]? = some (tupD [lo, up]) → hs[j]? = some h → lo ≤ h ∧ h ≤ up
def BadAt (ds : List PyData) (hs : List Int) (j : Nat) : Prop := ∃ (lo up h : Int), ds[j]? = some (tupD [lo, up]) ∧ hs[j]? = some h ∧ ¬ (lo ≤ h ∧ h ≤ up)
def FirstBad (ds : List PyData) (hs : List Int) (v : V) : Prop := (∃ i : Nat, v = .int i ∧ BadAt ds hs i ∧ ∀ j, j < i → OkAt ds hs j) ∨ (v = .non ∧ ∀ j, j < hs.length → OkAt ds hs j)
theorem okbad {ds : List PyData} {hs : List Int} {j : Nat} (a : OkAt ds hs j) (b : BadAt ds hs j) : False := by
  obtain ⟨lo, up, h, e1, e2, n⟩ := b
  exact n (a lo up h e1 e2)
theorem FirstBad.one {ds : List PyData} {hs : List Int} {u v : V} (a : FirstBad ds hs u) (b : FirstBad ds hs v) : u = v := by
  have lt : ∀ {j : Nat}, BadAt ds hs j → j < hs.length := fun ⟨_, _, _, _, e, _⟩ => (List.getElem?_eq_some_iff.mp e).1
  rcases a with ⟨i, rfl, b1, o1⟩ | ⟨rfl, o1⟩
  · rcases b with ⟨j, rfl, b2, o2⟩ | ⟨rfl, o2⟩
    · rcases Nat.lt_trichotomy i j with h | h | h
      · exact (okbad (o2 _ h) b1).elim
      · rw [h]
      · exact (okbad (o1 _ h) b2).elim
    · exact (okbad (o2 _ (lt b1)) b1).elim
  · rcases b with ⟨j, rfl, b2, o2⟩ | ⟨rfl, o2⟩
    · exact (okbad (o1 _ (lt b2)) b2).elim
    · rfl
/-! ### a cluster with leads that fit -/
def cntD : PyData → Int
  | .tuple [_, _, .int c] => c
  | _ => 0
def LeadsOk (rs : List PyData) (ls : List Int) : Prop := ls.length = rs.length ∧ ∀ (i : Nat) (l : Int) (r : PyData), ls[i]? = some l → rs[i]? = some r → 0 ≤ l ∧ l ≤ cntD r
structure Wd (ds rs : List PyData) (ls : List Int) : Prop where
  b1 : boundsD (.list ds) = true
  b2 : bundlesD (.list rs) ds.length = true
  lo : LeadsOk rs ls
  ok : ∀ j, OkAt ds (ldOf ds.length rs ls ls.length) j

/-! ### tuples of ints as data -/
theorem ints_facts : ∀ ms : List Int, PyData.canLayAll0 (ms.map PyData.int) = true ∧ PyData.depthAll (ms.map PyData.int) = 0 ∧ PyData.plainAll (ms.map PyData.int) = true
  | [] => ⟨rfl, rfl, rfl⟩
  | m :: r => by
    obtain ⟨a, b, c⟩ := ints_facts r
    exact ⟨by simp [PyData.canLayAll0, PyData.canLay0, a], by simp [PyData.depthAll, PyData.depth, b], by simp [PyData.plainAll, PyData.plain, c]⟩
theorem tups_facts : ∀ dl : List PyData, (∀ u ∈ dl, ∃ k, u = tupD k) → PyData.canLayAll0 dl = true ∧ PyData.depthAll dl ≤ 1 ∧ PyData.plainAll dl = true
  | [], _ => ⟨rfl, by decide, rfl⟩
  | d :: r, h => by
    obtain ⟨a, b, c⟩ := tups_facts r fun u hu => h u (List.mem_cons_of_mem _ hu)
    obtain ⟨k, rfl⟩ := h d (List.mem_cons_self ..)
    obtain ⟨x, y, z⟩ := ints_facts k
    refine ⟨by simp [PyData.canLayAll0, tupD, PyData.canLay0, a, x], ?_, by simp [PyData.plainAll, tupD, PyData.plain, c, z]⟩
    simp only [PyData.depthAll, tupD, PyData.depth, y]
    omega
theorem eqvAll_ints : ∀ a b : List Int, PyData.eqvAll (a.map PyData.int) (b.map PyData.int) = decide (a = b)
  | [], [] => by simp [PyData.eqvAll]
  | [], _ :: _ => by simp [PyData.eqvAll]
  | _ :: _, [] => by simp [PyData.eqvAll]
  | x :: a, y :: b => by
    simp only [List.map_cons, PyData.eqvAll, PyData.eqv, eqvAll_ints a b]
    rw [Bool.eq_iff_iff]
    simp [Bool.and_eq_true]
theorem eqv_tupD (a b : List Int) : PyData.eqv (tupD a) (tupD b) = decide (a = b) := by
  show PyData.eqvAll _ _ = _
  exact eqvAll_ints a b
theorem shaped_tup (ns : List Int) : SeqAt.shaped (tupD ns) = true := by
  have lay := ints_facts ns
  simp [SeqAt.shaped, tupD, PyData.canLay0, lay.1, PyData.depth, lay.2.1]
theorem DpAll.ints {K : PySem.W.Frag} {H : Hp} : ∀ (ms : List Int), DpAll K H (ms.map V.int) (ms.map PyData.int)
  | [] => .nil
  | m :: r => .cons (.int m) (DpAll.ints r)
theorem x_eqTup {K : PySem.W.Frag} {H : Hp} {Q : VK} {p q : Addr} {a b : List Int} (hp : H p = some (.tup (a.map V.int))) (hq : H q = some (.tup (b.map V.int))) (h : Q (.bl (decide (a = b))) H) : rEqD K (.ref p) (.ref q) H Q := by
  refine ⟨tupD a, tupD b, .tup (SqT.of hp) (DpAll.ints a), .tup (SqT.of hq) (DpAll.ints b), shaped_tup a, shaped_tup b, ?_⟩
  rw [eqv_tupD]; exact h

/-! ### equality of clusters -/
/-- what isinstance asks of a class -/
structure Ci (K : PySem.W.Frag) (C : Addr) : Prop where
  a : PySem.W.findIn K (.ref C) "__class__" = some (some (.builtin "object.__class__"))
  n : PySem.W.specialIn K (.builtin "object.__class__") "__get__" = some (some (.builtin "getset_descriptor.__get__"))
  t : PySem.W.takesIn K (.builtin "object.__class__") = some true
  m : PySem.W.mroIn K C (.type "object") = some true
theorem x_isO {K : PySem.W.Frag} {C x dx : Addr} {fs : List (Str × V)} {H : Hp} {Q : VK} (ci : Ci K C) (cl : Cls K C) (hx : H x = some (.ins C dx fs)) (h : Q (.bl true) H) : rIsi K [.ref x, .ref C] H Q :=
  ⟨.ref x, .ref C, .ref C, .ref C, true, rfl, .own C, .base (.ins hx cl ci.a ci.n ci.t ci.m), by unfold PySem.W.kitOne; rw [if_pos (beq_self_eq_true _)], h⟩
theorem bounds_all {ds : List PyData} (h : boundsD (.list ds) = true) : ∀ d ∈ ds, boundD d = true := by
  have h : ((decide (2 ≤ (ds.length : Int)) && decide ((ds.length : Int) ≤ 10)) && (ds.map boundD).all id) = true := h
  rw [Bool.and_eq_true, List.all_eq_true] at h
  exact fun d hd => h.2 _ (List.mem_map.mpr ⟨d, hd, rfl⟩)
theorem shaped_tups {ds : List PyData} (h : ∀ u ∈ ds, ∃ k, u = tupD k) : SeqAt.shaped (.list ds) = true := by
  obtain ⟨f1, f2, f3⟩ := tups_facts ds h
  have : PyData.depthAll ds + 1 ≤ 64 := by omega
  simp [SeqAt.shaped, PyData.canLay0, f1, PyData.depth, this]
theorem bounds_tups {ds : List PyData} (h : boundsD (.list ds) = true) : ∀ u ∈ ds, ∃ k, u = tupD k := fun u hu => by
  obtain ⟨x, y, e, _⟩ := bound_row (bounds_all h u hu)
  exact ⟨_, e⟩
theorem bundles_tups {ds : List PyData} {n : Int} (h : bundlesD (.list ds) n = true) : ∀ u ∈ ds, ∃ k, u = tupD k := fun u hu => by
  obtain ⟨_, all⟩ := bundles_len h
  rw [List.all_eq_true] at all
  obtain ⟨a, b, c, e⟩ := bundle_at (all _ (List.mem_map.mpr ⟨u, hu, rfl⟩))
  exact ⟨[a, b, c], e⟩
theorem eqv_tups : ∀ {ds : List PyData}, (∀ u ∈ ds, ∃ k, u = tupD k) → PyData.eqv (.list ds) (.list ds) = true := fun h => SeqAt.eqv_refl _ (SeqAt.canLay_of_shaped (shaped_tups h))
theorem x_eqDn {K : PySem.W.Frag} {M N : List Addr} {H : Hp} {Q : VK} {x y : V} {d e : PyData} (hx : Dn M H x d) (hy : Dn N H y e) (s1 : SeqAt.shaped d = true) (s2 : SeqAt.shaped e = true) (h : Q (.bl (PyData.eqv d e)) H) : rEqD K x y H Q :=
  ⟨d, e, hx.dp (PyData.hasDict_of_canLay d (SeqAt.canLay_of_shaped s1)), hy.dp (PyData.hasDict_of_canLay e (SeqAt.canLay_of_shaped s2)), s1, s2, h⟩
theorem x_neDn {K : PySem.W.Frag} {M N : List Addr} {H : Hp} {Q : VK} {x y : V} {d e : PyData} (hx : Dn M H x d) (hy : Dn N H y e) (s1 : SeqAt.shaped d = true) (s2 : SeqAt.shaped e = true) (h : Q (.bl (!PyData.eqv d e)) H) : rNeD K x y H Q :=
  ⟨d, e, hx.dp (PyData.hasDict_of_canLay d (SeqAt.canLay_of_shaped s1)), hy.dp (PyData.hasDict_of_canLay e (SeqAt.canLay_of_shaped s2)), s1, s2, h⟩

def LedIs (rs : List PyData) (ls : List Int) (i j v : Int) : Prop :=
  (∃ (k : Nat) (a b c l : Int), rs[k]? = some (tupD [a, b, c]) ∧ ls[k]? = some l ∧ ((i = a ∧ j = b ∧ v = l) ∨ (i = b ∧ j = a ∧ v = c - l))) ∨
  ((∀ (k : Nat) (a b c : Int), rs[k]? = some (tupD [a, b, c]) → ¬ (i = a ∧ j = b) ∧ ¬ (i = b ∧ j = a)) ∧ v = 0)
theorem LedIs.one {rs : List PyData} {ls : List Int} {i j u v n : Int} (hb : bundlesD (.list rs) n = true) (n1 : n ≤ 10) (a : LedIs rs ls i j u) (b : LedIs rs ls i j v) : u = v := by
  have h : (decide ((rs.length : Int) ≤ 45) && ((rs.map fun d => bundleD d n).all id && decide ((rs.map pairD).Nodup))) = true := hb
  simp only [Bool.and_eq_true, decide_eq_true_eq] at h
  obtain ⟨_, all, nd⟩ := h
  rw [List.all_eq_true] at all
  have rowAt : ∀ (k : Nat) (a b c : Int), rs[k]? = some (tupD [a, b, c]) → a < b := fun k a b c h => by
    have hb : bundleD (tupD [a, b, c]) n = true := all _ (List.mem_map.mpr ⟨tupD [a, b, c], List.mem_of_getElem? h, rfl⟩)
    obtain ⟨a2, b2, c2, e2, _, h, _⟩ := bundle_row hb n1
    have e2 : tupD [a, b, c] = tupD [a2, b2, c2] := e2
    cases e2
    exact h
  rcases a with ⟨k, a, b', c, l, hk, hl, m⟩ | ⟨no, rfl⟩
  · rcases b with ⟨k2, a2, b2, c2, l2, hk2, hl2, m2⟩ | ⟨no, rfl⟩
    · have r1 := rowAt k _ _ _ hk
      have r2 := rowAt k2 _ _ _ hk2
      have eab : a = a2 ∧ b' = b2 := by omega
      have lt1 := (List.getElem?_eq_some_iff.mp hk).1
      have lt2 := (List.getElem?_eq_some_iff.mp hk2).1
      have e1 : (rs.map pairD)[k]? = some [a, b'] := by rw [List.getElem?_map, hk]; rfl
      have e2 : (rs.map pairD)[k2]? = some [a, b'] := by rw [List.getElem?_map, hk2, eab.1, eab.2]; rfl
      have ek : k = k2 := by
        have := (List.getElem?_inj (by rw [List.length_map]; exact lt1) nd).mp (e1.trans e2.symm)
        exact this
      subst ek
      rw [hk] at hk2
      rw [hl] at hl2
      have hk2 : tupD [a, b', c] = tupD [a2, b2, c2] := Option.some.inj hk2
      cases hk2; cases hl2
      omega
    · have := no k a b' c hk
      omega
  · rcases b with ⟨k2, a2, b2, c2, l2, hk2, hl2, m2⟩ | ⟨_, rfl⟩
    · have := no k2 a2 b2 c2 hk2
      omega
    · rfl

/-! ### what a broker leads of a bundle -/
theorem nums_val (rs : List PyData) (a b : Int) : ∀ n, n ≤ rs.length → (∀ w, valV (nums rs n) [.inl a, .inl b] = some w → ∃ k : Nat, k < n ∧ w = .int (k : Nat) ∧ ∃ d, rs[k]? = some d ∧ pairD d = [a, b]) ∧
    (valV (nums rs n) [.inl a, .inl b] = none → ∀ k d, k < n → rs[k]? = some d → pairD d ≠ [a, b])
  | 0, _ => ⟨fun w h => (by cases h), fun _ k d h => absurd h (Nat.not_lt_zero _)⟩
  | n + 1, hn => by
    obtain ⟨i1, i2⟩ := nums_val rs a b n (by omega)
    have e : nums rs (n + 1) = (match rs[n]? with
      | some (.tuple (.int a :: .int b :: _)) => putK (nums rs n) [.inl a, .inl b] (.int (n : Nat))
      | _ => nums rs n) := rfl
    rw [e]
    split
    · rename_i x y r hr
      have hp : pairD (.tuple (.int x :: .int y :: r)) = [x, y] := rfl
      rw [valV_put]
      by_cases h : ([.inl a, .inl b] : List Key) = [.inl x, .inl y]
      · rw [if_pos h]
        have hxy : a = x ∧ b = y := by simpa using h
        refine ⟨fun w hw => ⟨n, by omega, (Option.some.inj hw).symm, _, hr, by rw [hp, hxy.1, hxy.2]⟩, fun hw => by cases hw⟩
      · rw [if_neg h]
        refine ⟨fun w hw => ?_, fun hw k d hk hd => ?_⟩
        · obtain ⟨k, hk, r1, r2⟩ := i1 w hw
          exact ⟨k, by omega, r1, r2⟩
        · by_cases hkn : k < n
          · exact i2 hw k d hkn hd
          · have : k = n := by omega
            subst this
            rw [hr] at hd
            cases hd
            rw [hp]
            intro e2
            apply h
            simp only [List.cons.injEq, and_true] at e2
            rw [e2.1, e2.2]
    · rename_i hr
      refine ⟨fun w hw => ?_, fun hw k d hk hd => ?_⟩
      · obtain ⟨k, hk, r1, r2⟩ := i1 w hw
        exact ⟨k, by omega, r1, r2⟩
      · by_cases hkn : k < n
        · exact i2 hw k d hkn hd
        · have : k = n := by omega
          subst this
          intro e2
          unfold pairD at e2
          split at e2
          · rename_i x y r
            exact hr x y r hd
          · cases e2
def spLed (C : Addr) : Sp := fun vs H Q _ => ∃ (x p : Addr) (M : List Addr) (ds1 rs : List PyData) (ls : List Int) (n i j : Int), vs = [.ref x, .ref p, .int i, .int j] ∧ Clu C M H x (.list ds1) (.list rs) ∧ H p = some (.tup (ls.map V.int)) ∧ bundlesD (.list rs) n = true ∧ n ≤ 10 ∧ ls.length = rs.length ∧ i ≠ j ∧
  ∀ (H' : Hp) (v : Int), Same H H' → LedIs rs ls i j v → Q (.int v) H'
section
variable {P : Program} {w : World} {K : PySem.W.Frag} {mg : Str → Option Value} {base : Heap} {t0 t1 t2 t3 t4 : Tok} {C : Addr}
theorem kn_led {k : Nat} (D : Df K mg "led" s_led) (B : Bl mg) (cc : Cc K mg C) (m_bundle_of : Km P w K mg base C "bundle_of" k (spOf C)) (m_bundles : Km P w K mg base C "bundles" k (spCopy C)) : Kn P w K mg base "led" (k + 1) (spLed C) := by
  refine kn_of D (fun _ _ _ _ _ _ us hl => match us, hl with | [_, _, _, _], _ => rfl) sc_led (fun vs H Q E h => by obtain ⟨x, p, M, ds1, rs, ls, n, i, j, rfl, _⟩ := h; rfl) (fun f cd B' fr z H vs Q E hr gd h => ?_)
  obtain ⟨x, p, M, ds1, rs, ls, n, i, j, rfl, hc, hp, hb, n1, same, nij, q⟩ := h
  have c_Cluster := cc.ck
  refine ⟨_, (pss_cons (ps_set (i := 4) sc_led.nd rfl (.inl rfl) (pe_ownM (pv 0) c_Cluster.cls m_bundle_of hr gd (pa_cons (pv 2) (pa_cons (pv 3) pa_nil))))
  (pss_cons (ps_if (pt_cmpR op_isN (pv 4) pe_non (nomark _)) (pss_one (ps_ret pe_int)) pss_nil)
  (pss_cons (ps_asg (pe_ix (r := rIxL K) ix_list (pe_ownM0 (pv 0) c_Cluster.cls m_bundles hr gd) (pv 4) (fun _ _ => rfl)) (pg_tup (by rfl) (pgs_cons (pg_name (i := 5) sc_led.nd rfl (.inl rfl)) (pgs_cons (pg_name (i := 6) sc_led.nd rfl (.inl rfl)) (pgs_cons (pg_name (i := 7) sc_led.nd rfl (.inl rfl)) pgs_nil)))))
  (pss_cons (ps_if (pt_cmpR op_eq (pv 2) (pv 5) (nomark _)) (pss_one (ps_ret (pe_ix (r := rIxT K) ix_tup (pv 1) (pv 4) (fun _ _ => rfl)))) pss_nil)
  (pss_one (ps_ret (pe_op op_sub (pv 7) (pe_ix (r := rIxT K) ix_tup (pv 1) (pv 4) (fun _ _ => rfl))))))))), ?_⟩
  obtain ⟨len, all⟩ := bundles_len hb
  obtain ⟨dx, B0, U0, N0, kvs, hx, _⟩ := id hc
  walk_at "xs"
  refine x_mAt hx (f3_none _ _ _ (by decide) (by decide) (by decide)) ?_
  walk_at "xs"
  refine ⟨x, M, _, rs, i, j, rfl, hc, ?_⟩
  intro H1 S1
  obtain ⟨v1, v2⟩ := nums_val rs (if j < i then j else i) (if j > i then j else i) rs.length (Nat.le_refl _)
  have rowAt : ∀ (k : Nat) (d : PyData), rs[k]? = some d → ∃ a b c : Int, d = tupD [a, b, c] ∧ 0 ≤ a ∧ a < b ∧ b < n ∧ 1 ≤ c ∧ c ≤ 10 ^ 18 := fun k d h => by
    rw [List.all_eq_true] at all
    exact bundle_row (all _ (List.mem_map.mpr ⟨d, List.mem_of_getElem? h, rfl⟩)) n1
  cases e : valV (nums rs rs.length) [.inl (if j < i then j else i), .inl (if j > i then j else i)] with
  | none =>
    have v2 := v2 e
    show gName 4 V.non _ _ _
    walk_at "xs"
    refine ⟨rfl, ?_⟩
    walk_at "xs"
    refine x_ite (fun _ => ?_) (fun h => absurd rfl h)
    walk_at "xs"
    refine q _ _ S1 (.inr ⟨fun k a b c hk => ?_, rfl⟩)
    have ab : a < b := by
      obtain ⟨a2, b2, c2, e2, _, h, _⟩ := rowAt k _ hk
      have e2 : tupD [a, b, c] = tupD [a2, b2, c2] := e2
      cases e2
      exact h
    have hne := v2 k _ (List.getElem?_eq_some_iff.mp hk).1 hk
    have hne : ([a, b] : List Int) ≠ [if j < i then j else i, if j > i then j else i] := hne
    constructor
    · rintro ⟨rfl, rfl⟩
      apply hne
      rw [if_neg (by omega), if_pos (by omega)]
    · rintro ⟨rfl, rfl⟩
      apply hne
      rw [if_pos (by omega), if_neg (by omega)]
  | some w' =>
    obtain ⟨kk, hk, rfl, d, hd, hpd⟩ := v1 _ e
    obtain ⟨a, b, c, rfl, a0, ab, bn, c0, c1⟩ := rowAt kk d hd
    have hpd : ([a, b] : List Int) = [if j < i then j else i, if j > i then j else i] := hpd
    simp only [List.cons.injEq, and_true] at hpd
    show gName 4 (V.int (kk : Nat)) _ _ _
    walk_at "xs"
    refine ⟨rfl, ?_⟩
    walk_at "xs"
    refine x_ite (fun h => by cases h) (fun _ => ?_)
    walk_at "xs"
    refine x_mAt (S1 _ _ hx) (f3_none _ _ _ (by decide) (by decide) (by decide)) ?_
    walk_at "xs"
    refine ⟨x, M, _, rs, rfl, hc.ext (Ext.same S1), ?_⟩
    intro H2 l S2 nl dl
    have S12 := S1.trans S2
    cases dl with
    | @lst _ xs _ el _ A =>
    have lx := A.length
    obtain ⟨u, eu, au⟩ := ix_at (i := (kk : Int)) el (by omega) (by omega)
    obtain ⟨d2, hd2, dn2⟩ := A.get eu
    rw [Int.toNat_natCast, hd] at hd2
    cases hd2
    obtain ⟨r, rfl, _, hr2⟩ := Dn.tup3 (a := a) (b := b) (c := c) dn2
    walk_at "xs"
    refine x_ixL (SqL.of el) au ?_
    walk_at "xs"
    have hl : kk < ls.length := by omega
    have hp2 := S12 _ _ hp
    have lk : ls[kk]? = some ls[kk] := List.getElem?_eq_getElem hl
    have al : atI (ls.map V.int) (kk : Int) = some (.int ls[kk]) := atI_nat (by rw [List.getElem?_map, lk]; rfl)
    refine x_ite (fun h => ?_) (fun h => ?_)
    · walk_at "xs"
      refine x_ixT (SqT.of hp2) al ?_
      refine q _ _ S12 (.inl ⟨kk, a, b, c, _, hd, lk, .inl ⟨h, ?_, rfl⟩⟩)
      split at hpd <;> split at hpd <;> omega
    · walk_at "xs"
      refine x_ixT (SqT.of hp2) al ?_
      walk_at "xs"
      refine q _ _ S12 (.inl ⟨kk, a, b, c, _, hd, lk, .inr ⟨?_, ?_, rfl⟩⟩)
      · split at hpd <;> split at hpd <;> omega
      · split at hpd <;> split at hpd <;> omega
end

/-! ### in a list of ints -/
theorem inV_int (x : Int) (ms : List Int) : inV (.int x) (ms.map V.int) = decide (x ∈ ms) := by
  induction ms with
  | nil => rfl
  | cons a r ih =>
    have ih : (r.map V.int).any (fun y => eqV y (.int x)) = decide (x ∈ r) := ih
    show ((a == x) || (r.map V.int).any (fun y => eqV y (.int x))) = _
    rw [ih]
    by_cases h : a = x
    · subst h; simp
    · have h' : ¬ x = a := fun e => h e.symm
      simp [h, h']
theorem flat_ints (ms : List Int) : (ms.map V.int).all flatV = true := by
  rw [List.all_eq_true]
  intro v hv
  obtain ⟨m, _, rfl⟩ := List.mem_map.mp hv
  rfl
theorem x_inI {K : PySem.W.Frag} {H : Hp} {Q : VK} {x : Int} {p : Addr} {ms : List Int} (hp : H p = some (.lst (ms.map V.int))) (h : Q (.bl (decide (x ∈ ms))) H) : rIn K false (.int x) (.ref p) H Q :=
  ⟨p, _, rfl, .inl (SqL.of hp), rfl, flat_ints ms, by rw [if_neg Bool.false_ne_true, inV_int]; exact h⟩
theorem x_notInI {K : PySem.W.Frag} {H : Hp} {Q : VK} {x : Int} {p : Addr} {ms : List Int} (hp : H p = some (.lst (ms.map V.int))) (h : Q (.bl (!decide (x ∈ ms))) H) : rIn K true (.int x) (.ref p) H Q :=
  ⟨p, _, rfl, .inl (SqL.of hp), rfl, flat_ints ms, by rw [if_pos rfl, inV_int]; exact h⟩

/-! ### givers, takers, free brokers -/
def upB (ds : List PyData) (hs : List Int) (i : Nat) : Bool := match ds[i]?, hs[i]? with
  | some (.tuple [.int lo, .int _]), some h => decide (h > lo)
  | _, _ => false
def dnB (ds : List PyData) (hs : List Int) (i : Nat) : Bool := match ds[i]?, hs[i]? with
  | some (.tuple [.int _, .int up]), some h => decide (h < up)
  | _, _ => false
def lsB (ds : List PyData) (i : Nat) : Bool := match ds[i]? with
  | some (.tuple [.int lo, .int up]) => decide (lo < up)
  | _ => false
def cI (l : List Nat) : List Int := l.map fun i => ((i : Nat) : Int)
def upL (ds : List PyData) (hs : List Int) : List Int := cI ((List.range ds.length).filter (upB ds hs))
def dnL (ds : List PyData) (hs : List Int) : List Int := cI ((List.range ds.length).filter (dnB ds hs))
def lsL (ds : List PyData) : List Nat := (List.range ds.length).filter (lsB ds)
theorem up_ls {ds : List PyData} {hs : List Int} (ok : ∀ j, OkAt ds hs j) {i : Nat} (h : upB ds hs i = true) : lsB ds i = true := by
  unfold upB at h
  split at h
  · rename_i lo up x e1 e2
    have := ok i lo up x e1 e2
    have h := of_decide_eq_true h
    show (match ds[i]? with
      | some (.tuple [.int lo, .int up]) => decide (lo < up)
      | _ => false) = true
    rw [e1]
    exact decide_eq_true (by omega)
  · cases h
theorem dn_ls {ds : List PyData} {hs : List Int} (ok : ∀ j, OkAt ds hs j) {i : Nat} (h : dnB ds hs i = true) : lsB ds i = true := by
  unfold dnB at h
  split at h
  · rename_i lo up x e1 e2
    have := ok i lo up x e1 e2
    have h := of_decide_eq_true h
    show (match ds[i]? with
      | some (.tuple [.int lo, .int up]) => decide (lo < up)
      | _ => false) = true
    rw [e1]
    exact decide_eq_true (by omega)
  · cases h
theorem up_free {ds : List PyData} {hs : List Int} (ok : ∀ j, OkAt ds hs j) : (lsL ds).filter (upB ds hs) = (List.range ds.length).filter (upB ds hs) := by
  unfold lsL
  rw [List.filter_filter]
  refine List.filter_congr fun i _ => ?_
  cases e : upB ds hs i with
  | true => rw [up_ls ok e]; rfl
  | false => rfl
theorem dn_free {ds : List PyData} {hs : List Int} (ok : ∀ j, OkAt ds hs j) : (lsL ds).filter (dnB ds hs) = (List.range ds.length).filter (dnB ds hs) := by
  unfold lsL
  rw [List.filter_filter]
  refine List.filter_congr fun i _ => ?_
  cases e : dnB ds hs i with
  | true => rw [dn_ls ok e]; rfl
  | false => rfl
theorem cI_len (l : List Nat) : (cI l).length = l.length := List.length_map _
theorem filt_le {p : Nat → Bool} (l : List Nat) : (l.filter p).length ≤ l.length := List.length_filter_le _ _
theorem filt_next {p : Nat → Bool} (l : List Nat) (a : Nat) : (l ++ [a]).filter p = l.filter p ++ (if p a = true then [a] else []) := by
  rw [List.filter_append]
  congr 1
  by_cases h : p a = true
  · rw [if_pos h]; simp [h]
  · rw [if_neg h]; simp [h]
theorem cI_app (a b : List Nat) : cI (a ++ b) = cI a ++ cI b := List.map_append
theorem bound_at {ds : List PyData} (hb : boundsD (.list ds) = true) {i : Nat} (h : i < ds.length) : ∃ lo up : Int, ds[i]? = some (tupD [lo, up]) ∧ 0 ≤ lo ∧ lo ≤ up ∧ up ≤ 10 ^ 30 := by
  obtain ⟨lo, up, e, a⟩ := bound_row (bounds_all hb ds[i] (List.getElem_mem h))
  exact ⟨lo, up, by rw [List.getElem?_eq_getElem h, e], a⟩
section
variable {P : Program} {w : World} {K : PySem.W.Frag} {mg : Str → Option Value} {base : Heap} {t0 t1 t2 t3 t4 : Tok} {C : Addr}
def spFree (C : Addr) : Sp := fun vs H Q _ => ∃ (x : Addr) (M : List Addr) (ds : List PyData) (d2 : PyData), vs = [.ref x] ∧ Clu C M H x (.list ds) d2 ∧ boundsD (.list ds) = true ∧ ∀ H' f, Same H H' → H f = none → H' f = some (.lst ((cI (lsL ds)).map V.int)) → Q (.ref f) H'
theorem kn_free {k : Nat} (D : Df K mg "_free" s__free) (B : Bl mg) (cc : Cc K mg C) (m_size : Km P w K mg base C "size" k (spSize C)) (m_is_rigid : Km P w K mg base C "is_rigid" k (spRigid C)) : Kn P w K mg base "_free" (k + 1) (spFree C) := by
  refine kn_of D (fun _ _ _ _ _ _ us hl => match us, hl with | [_], _ => rfl) sc__free (fun vs H Q E h => by obtain ⟨x, M, ds, d2, rfl, _⟩ := h; rfl) (fun f cd B' fr z H vs Q E hr gd h => ?_)
  obtain ⟨x, M, ds, d2, rfl, cl, hb, q⟩ := h
  have c_Cluster := cc.ck
  refine ⟨_, (pss_one (ps_ret (pe_lc (own := [("broker", 1)]) rfl sc__free.nd (pi_range1 (by rfl) B.range (pa_cons (pe_ownM0 (pv 0) c_Cluster.cls m_size hr gd) pa_nil)) (blkOk_by (N := ["cluster", "broker"]) (sc := defScope s__free) (by decide +kernel)) (fun _ _ _ _ _ => (pg_name (i := 1) sc__free.nd rfl (.inl rfl))) (fun _ _ _ _ _ => (pts_one (pt_not (pt_val (pe_ownM (pv 0) c_Cluster.cls m_is_rigid hr gd (pa_cons (pv 1) pa_nil)))))) (fun _ _ _ _ _ => (pv 1))))), ?_⟩
  have n10 := bounds_len hb
  obtain ⟨dx, B0, U0, N0, kvs, hx, _⟩ := id cl
  walk_at "xs"
  refine x_mAt hx (f3_none _ _ _ (by decide) (by decide) (by decide)) ?_
  walk_at "xs"
  refine ⟨x, M, ds, _, rfl, cl, ?_⟩
  walk_at "xs"
  intro L hL
  rw [Int.toNat_natCast]
  refine lc_range (lo := 0) (n := ds.length) (fun i H' => Same H H' ∧ H' L = some (.lst ((cI ((List.range i).filter (lsB ds))).map V.int))) ?_ ?_ ?_
  · exact ⟨same_upd hL, upd_same⟩
  · rintro i H' hi ⟨S, eL⟩
    have hx := S _ _ hx
    have cl := cl.ext (Ext.same S)
    obtain ⟨lo, up, hrow, _, le, _⟩ := bound_at hb hi
    have hrow' : ds[(0 + (i : Int)).toNat]? = some (tupD [lo, up]) := by rw [show (0 + (i : Int)).toNat = i by omega]; exact hrow
    have ub : lsB ds i = decide (lo < up) := by
      unfold lsB
      rw [hrow]
      rfl
    have rg : (List.range (i + 1)).filter (lsB ds) = (List.range i).filter (lsB ds) ++ (if lsB ds i = true then [i] else []) := by rw [List.range_succ, filt_next]
    have fl := filt_le (p := lsB ds) (List.range i)
    rw [List.length_range] at fl
    walk_at "xs"
    refine x_wiped rfl ?_
    walk_at "xs"
    refine x_mAt hx (f3_none _ _ _ (by decide) (by decide) (by decide)) ?_
    walk_at "xs"
    refine ⟨x, M, ds, _, 0 + (i : Int), lo, up, rfl, cl, by omega, by omega, hrow', ?_⟩
    walk_at "xs"
    refine x_iteN (fun hc => ?_) (fun hc => ?_)
    · walk_at "xs"
      refine x_acc eL (by rw [List.length_map, cI_len, sizeLine_eq]; omega) ?_
      refine ⟨fun z o e => ?_, ?_⟩
      · rw [upd_ne (ne_of_none e hL)]; exact S _ _ e
      · rw [upd_same, rg, ub, if_pos (decide_eq_true (by omega)), cI_app, List.map_append, Int.zero_add]; rfl
    · refine ⟨S, ?_⟩
      rw [rg, ub, if_neg (by rw [decide_eq_false (by omega)]; exact Bool.false_ne_true), List.append_nil]
      exact eL
  · rintro H' ⟨S, eL⟩
    walk_at "xs"
    exact q H' L S hL eL
def spNumsP (C : Addr) (L : List PyData → List Int → List Int) : Sp := fun vs H Q _ => ∃ (x p : Addr) (M : List Addr) (ds rs : List PyData) (ls : List Int), vs = [.ref x, .ref p] ∧ Clu C M H x (.list ds) (.list rs) ∧ H p = some (.tup (ls.map V.int)) ∧ Wd ds rs ls ∧ ∀ H' f, Same H H' → H f = none → H' f = some (.lst ((L ds (ldOf ds.length rs ls ls.length)).map V.int)) → Q (.ref f) H'
theorem int_of_cI {l : List Nat} {i : Nat} {v : V} (h : ((cI l).map V.int)[i]? = some v) : ∃ j : Nat, l[i]? = some j ∧ v = .int (j : Nat) := by
  obtain ⟨m, hm, rfl⟩ := int_at h
  unfold cI at hm
  rw [List.getElem?_map] at hm
  cases e : l[i]? with
  | none => rw [e] at hm; cases hm
  | some j => rw [e] at hm; exact ⟨j, rfl, by rw [← Option.some.inj hm]⟩
theorem kn_takers {k : Nat} (D : Df K mg "takers" s_takers) (B : Bl mg) (cc : Cc K mg C) (c_loads : Kn P w K mg base "loads" k (spLoadsP C)) (c__free : Kn P w K mg base "_free" k (spFree C)) (m_ceiling : Km P w K mg base C "ceiling" k (spSide C true)) : Kn P w K mg base "takers" (k + 1) (spNumsP C dnL) := by
  refine kn_of D (fun _ _ _ _ _ _ us hl => match us, hl with | [_, _], _ => rfl) sc_takers (fun vs H Q E h => by obtain ⟨x, p, M, ds, rs, ls, rfl, _⟩ := h; rfl) (fun f cd B' fr z H vs Q E hr gd h => ?_)
  obtain ⟨x, p, M, ds, rs, ls, rfl, cl, hp, wd, q⟩ := h
  have c_Cluster := cc.ck
  refine ⟨_, (pss_cons (ps_set (i := 2) sc_takers.nd rfl (.inr rfl) (pe_own c_loads hr gd (by rfl) (pa_cons (pv 0) (pa_cons (pv 1) pa_nil))))
  (pss_one (ps_ret (pe_lc (own := [("broker", 3)]) rfl sc_takers.nd (pi_list (pe_own c__free hr gd (by rfl) (pa_cons (pv 0) pa_nil))) (blkOk_by (N := ["cluster", "leads", "have", "broker"]) (sc := defScope s_takers) (by decide +kernel)) (fun _ _ _ _ _ => (pg_name (i := 3) sc_takers.nd rfl (.inl rfl))) (fun _ _ _ _ _ => (pts_one (pt_cmpR op_lt (pe_ix (r := rIxL K) ix_list (pv 2) (pv 3) (fun _ _ => rfl)) (pe_ownM (pv 0) c_Cluster.cls m_ceiling hr gd (pa_cons (pv 3) pa_nil)) (nomark _)))) (fun _ _ _ _ _ => (pv 3)))))), ?_⟩
  have n10 := bounds_len wd.b1
  obtain ⟨dx, B0, U0, N0, kvs, hx, _⟩ := id cl
  walk_at "xs"
  refine ⟨x, p, M, ds, rs, ls, rfl, cl, hp, wd.b1, wd.b2, wd.lo.1, ?_⟩
  intro H1 F S1 nF eF
  have okj := wd.ok
  have hn := ld_len ds.length rs ls ls.length
  generalize ldOf ds.length rs ls ls.length = hs at *
  have cl := cl.ext (Ext.same S1)
  walk_at "xs"
  refine ⟨x, M, ds, _, rfl, cl, wd.b1, ?_⟩
  intro H2 G S2 nG eG
  have cl := cl.ext (Ext.same S2)
  have S12 := S1.trans S2
  have eF := S2 _ _ eF
  walk_at "xs"
  intro L hL
  have hL0 : H L = none := S12.free hL
  refine lc_list (K := K) (a := G) (xs := (cI (lsL ds)).map V.int) (fun i H' => Same H H' ∧ Same H2 H' ∧ H' L = some (.lst ((cI (((lsL ds).take i).filter (dnB ds hs))).map V.int))) ?_ ?_ ?_ ?_
  · exact ⟨S12.trans (same_upd hL), same_upd hL, upd_same⟩
  · rintro i H' _ ⟨S, S', eL⟩
    exact SqL.of (S' _ _ eG)
  · rintro i v H' hv ⟨S, S', eL⟩
    obtain ⟨j, hj, rfl⟩ := int_of_cI hv
    have hi := (List.getElem?_eq_some_iff.mp hj).1
    have hlt : j < ds.length := by
      have hm := List.mem_of_getElem? hj
      unfold lsL at hm
      rw [List.mem_filter, List.mem_range] at hm
      exact hm.1
    have l10 : (lsL ds).length ≤ 10 := by
      have := filt_le (p := lsB ds) (List.range ds.length)
      rw [List.length_range] at this
      exact Nat.le_trans this n10
    have hx := S _ _ hx
    have cl := cl.ext (Ext.same S')
    have eF := S' _ _ eF
    obtain ⟨lo, up, hrow, _⟩ := bound_at wd.b1 hlt
    have hrow' : ds[((j : Nat) : Int).toNat]? = some (tupD [lo, up]) := by rw [Int.toNat_natCast]; exact hrow
    obtain ⟨h0, hh0, ah0⟩ := at_map (hs := hs) (i := (j : Int)) (by omega) (by omega)
    rw [Int.toNat_natCast] at hh0
    have ub : dnB ds hs j = decide (h0 < up) := by
      unfold dnB
      rw [hrow, hh0]
      rfl
    have rg : ((lsL ds).take (i + 1)).filter (dnB ds hs) = ((lsL ds).take i).filter (dnB ds hs) ++ (if dnB ds hs j = true then [j] else []) := by rw [List.take_add_one, hj]; exact filt_next _ _
    have fl := filt_le (p := dnB ds hs) ((lsL ds).take i)
    rw [List.length_take] at fl
    walk_at "xs"
    refine x_wiped rfl ?_
    walk_at "xs"
    refine x_ixL (SqL.of eF) ah0 ?_
    walk_at "xs"
    refine x_mAt hx (f3_none _ _ _ (by decide) (by decide) (by decide)) ?_
    walk_at "xs"
    refine ⟨x, M, ds, _, (j : Int), lo, up, rfl, cl, by omega, by omega, hrow', ?_⟩
    rw [if_pos rfl]
    walk_at "xs"
    refine x_ite (fun hc => ?_) (fun hc => ?_)
    · walk_at "xs"
      refine x_acc eL (by rw [List.length_map, cI_len, sizeLine_eq]; omega) ?_
      refine ⟨fun z o e => ?_, fun z o e => ?_, ?_⟩
      · rw [upd_ne (ne_of_none e hL0)]; exact S _ _ e
      · rw [upd_ne (ne_of_none e hL)]; exact S' _ _ e
      · rw [upd_same, rg, ub, if_pos (decide_eq_true hc), cI_app, List.map_append]; rfl
    · refine ⟨S, S', ?_⟩
      rw [rg, ub, if_neg (by rw [decide_eq_false hc]; exact Bool.false_ne_true), List.append_nil]
      exact eL
  · rintro H' ⟨S, S', eL⟩
    rw [List.length_map, cI_len, List.take_length, dn_free okj] at eL
    walk_at "xs"
    exact q H' L S hL0 eL
end
/-! ### the pairs of a cluster -/
def spPairs (C : Addr) : Sp := fun vs H Q _ => ∃ x M d1 d2, vs = [.ref x] ∧ Clu C M H x d1 d2 ∧ ∀ H' p kvs, Same H H' → H p = none → H' p = some (.dT kvs) → (kvs.map (·.1)).Nodup →
  (∀ i j : Int, valV kvs [.inl i, .inl j] = valV (numsD d2) [.inl (if j < i then j else i), .inl (if j > i then j else i)]) → Q (.ref p) H'
theorem f3_num (B U N : Addr) : (F3 B U N).lookup ("_numbers" : Str) = some (.ref N) := by
  unfold F3
  rw [lookup_putF, if_pos rfl]
section
variable {P : Program} {w : World} {K : PySem.W.Frag} {mg : Str → Option Value} {base : Heap} {t0 t1 t2 t3 t4 : Tok} {C : Addr}
theorem km_pairs {k : Nat} (D : Dm K C "pairs" "Cluster.pairs" s_Cluster_pairs) (B : Bl mg) (cc : Cc K mg C) : Km P w K mg base C "pairs" (k + 1) (spPairs C) := by
  refine km_of D (fun _ _ _ _ _ _ us hl => match us, hl with | [_], _ => rfl) sc_Cluster_pairs (fun vs H Q E h => by obtain ⟨x, M, d1, ds2, rfl, _⟩ := h; rfl) (fun f cd B' fr z H vs Q E hr gd h => ?_)
  obtain ⟨x, M, d1, d2, rfl, ⟨dx, B0, U0, N0, kvs, hx, nx, hd1, hd2, hN, nN, ek⟩, q⟩ := h
  refine ⟨_, (pss_one (ps_ret (pe_lock (pe_dcT (own := [("pair", 1), ("at", 2)]) rfl sc_Cluster_pairs.nd (pi_itemsT (pe_fld (pv 0) (by rfl))) (blkOk_by (N := ["self", "pair", "at"]) (sc := defScope s_Cluster_pairs) (by decide +kernel)) (fun _ _ _ _ _ => (pg_tupK K (n := 2) (pgs_cons (pg_name (i := 1) sc_Cluster_pairs.nd rfl (.inl rfl)) (pgs_cons (pg_name (i := 2) sc_Cluster_pairs.nd rfl (.inl rfl)) pgs_nil)))) (fun _ _ _ _ _ => pts_nil) (fun _ _ _ _ _ => (pv 1)) (fun _ _ _ _ _ => (pv 2)) hr.units)))), ?_⟩
  walk_at "xs"
  have xN : x ≠ N0 := fun e => by rw [e, hN] at hx; cases hx
  refine ⟨N0, .dT kvs, hN, ?_, fun od => ?_⟩
  · exact True.intro
  have hx1 : (upd H N0 (.frz od (.dT kvs))) x = some (.ins C dx (F3 B0 U0 N0)) := by rw [upd_ne xN]; exact hx
  have hN1 := upd_same (H := H) (a := N0) (o := .frz od (.dT kvs))
  refine x_itT ?_
  walk_at "xs"
  refine x_gAt hx1 cc.ck.cls cc.numbers (f3_num ..) ?_
  refine ⟨N0, od, kvs, rfl, hN1, fun nd L hL => ?_⟩
  obtain ⟨nd, lk⟩ := nd
  have nL : L ≠ N0 := fun e => by rw [e, hN1] at hL; cases hL
  have hL0 : H L = none := by rw [upd_ne nL] at hL; exact hL
  refine ⟨fun i m H2 => m = kvs.length - i ∧ i ≤ kvs.length ∧ (∀ z o, H z = some o → z ≠ N0 → H2 z = some o) ∧ H2 N0 = some (.frz od (.dT kvs)) ∧ H2 L = some (.dT (kvs.take i)), ⟨_, rfl, Nat.zero_le _, fun z o e n => ?_, ?_, upd_same⟩, ?_⟩
  · rw [upd_ne (ne_of_none e hL0), upd_ne n]; exact e
  · rw [upd_ne nL.symm]; exact hN1
  rintro i m H2 ⟨rfl, hi, S, e0, eL⟩
  by_cases lt : i < kvs.length
  · refine .inr ⟨⟨e0, lt⟩, fun H3 => i + 1 ≤ kvs.length ∧ (∀ z o, H z = some o → z ≠ N0 → H3 z = some o) ∧ H3 N0 = some (.frz od (.dT kvs)) ∧ H3 L = some (.dT (kvs.take (i + 1))), fun H3 h => ⟨_, by omega, rfl, h.1, h.2.1, h.2.2.1, h.2.2.2⟩, ?_⟩
    rintro y H3 ⟨T, q1, kk, v, hk, rfl, hq, hT, rfl⟩
    have ST := same_upd hT (o := .tup [.ref q1, v])
    have eT := upd_same (H := H2) (a := T) (o := .tup [.ref q1, v])
    have S3 : ∀ z o, H z = some o → z ≠ N0 → (upd H2 T (.tup [.ref q1, v])) z = some o := fun z o e n => ST _ _ (S z o e n)
    have e0 := ST _ _ e0
    have eL := ST _ _ eL
    have hq := ST _ _ hq
    generalize upd H2 T _ = H3 at *
    walk_at "xs"
    refine x_wiped rfl ?_
    walk_at "xs"
    have fresh : valV (kvs.take i) kk = none := by
      cases e : valV (kvs.take i) kk with
      | none => rfl
      | some u =>
        exfalso
        have m1 := valV_in e
        rw [List.map_take] at m1
        obtain ⟨j, hj, ej⟩ := List.mem_take_iff_getElem.mp m1
        have e2 : (kvs.map (·.1))[i]? = some kk := by rw [List.getElem?_map, hk]; rfl
        have e3 : (kvs.map (·.1))[j]? = some kk := by rw [List.getElem?_eq_getElem (by omega), ej]
        have := (List.getElem?_inj (by rw [List.length_map]; exact lt) nd).mp (e2.trans e3.symm)
        omega
    refine ⟨kvs.take i, kk, q1, rfl, eL, hq, by rw [List.length_take]; omega, lt, fun z o e n => ?_, ?_, ?_⟩
    · rw [upd_ne (ne_of_none e hL0)]; exact S3 z o e n
    · rw [upd_ne nL.symm]; exact e0
    · rw [upd_same, putK_new _ fresh, List.take_add_one, hk]; rfl
  · refine .inl ⟨⟨e0, by omega⟩, e0, ?_⟩
    rw [List.take_of_length_le (by omega)] at eL
    refine q _ L kvs (fun z o e => ?_) hL0 (by rw [upd_ne nL]; exact eL) nd ek
    by_cases n : z = N0
    · subst n; rw [upd_same, ← hN, e]
    · rw [upd_ne n]; exact S z o e n
end
/-! ### what is led, summed -/
def ctb (d : PyData) (l i j : Int) : Int := match d with
  | .tuple [.int a, .int b, .int c] => if i = a ∧ j = b then l else if i = b ∧ j = a then c - l else 0
  | _ => 0
def ledS (rs : List PyData) (ls : List Int) (i j : Int) : Nat → Int
  | 0 => 0
  | m + 1 => match ls[m]?, rs[m]? with
    | some l, some d => ledS rs ls i j m + ctb d l i j
    | _, _ => ledS rs ls i j m
theorem ledS_next {rs : List PyData} {ls : List Int} {i j : Int} {m : Nat} {l : Int} {d : PyData} (hl : ls[m]? = some l) (hr : rs[m]? = some d) : ledS rs ls i j (m + 1) = ledS rs ls i j m + ctb d l i j := by
  show (match ls[m]?, rs[m]? with
    | some l, some d => ledS rs ls i j m + ctb d l i j
    | _, _ => ledS rs ls i j m) = _
  rw [hl, hr]
theorem rows_at {rs : List PyData} {n : Int} (hb : bundlesD (.list rs) n = true) (n1 : n ≤ 10) {m : Nat} (hm : m < rs.length) : ∃ a b c : Int, rs[m]? = some (tupD [a, b, c]) ∧ 0 ≤ a ∧ a < b ∧ b < n ∧ 1 ≤ c ∧ c ≤ 10 ^ 18 := by
  obtain ⟨len, all⟩ := bundles_len hb
  rw [List.all_eq_true] at all
  obtain ⟨a, b, c, e, h⟩ := bundle_row (all _ (List.mem_map.mpr ⟨rs[m], List.getElem_mem hm, rfl⟩)) n1
  exact ⟨a, b, c, by rw [List.getElem?_eq_getElem hm, e], h⟩
theorem ledS_at {rs : List PyData} {ls : List Int} {n i j : Int} (hb : bundlesD (.list rs) n = true) (n1 : n ≤ 10) (same : ls.length = rs.length) : ∀ m, m ≤ ls.length →
    (∃ (k : Nat) (a b c l : Int), k < m ∧ rs[k]? = some (tupD [a, b, c]) ∧ ls[k]? = some l ∧ ((i = a ∧ j = b ∧ ledS rs ls i j m = l) ∨ (i = b ∧ j = a ∧ ledS rs ls i j m = c - l))) ∨
    ((∀ (k : Nat) (a b c : Int), k < m → rs[k]? = some (tupD [a, b, c]) → ¬ (i = a ∧ j = b) ∧ ¬ (i = b ∧ j = a)) ∧ ledS rs ls i j m = 0)
  | 0, _ => .inr ⟨fun k _ _ _ h => absurd h (Nat.not_lt_zero _), rfl⟩
  | m + 1, hm => by
    have ih := ledS_at (i := i) (j := j) hb n1 same m (by omega)
    have h : (decide ((rs.length : Int) ≤ 45) && ((rs.map fun d => bundleD d n).all id && decide ((rs.map pairD).Nodup))) = true := hb
    simp only [Bool.and_eq_true, decide_eq_true_eq] at h
    obtain ⟨_, _, nd⟩ := h
    obtain ⟨a, b, c, hr, a0, ab, bn, _⟩ := rows_at hb n1 (m := m) (by omega)
    have hl : ls[m]? = some ls[m] := List.getElem?_eq_getElem (by omega)
    generalize ls[m] = l at *
    rw [ledS_next hl hr]
    have ec : ctb (tupD [a, b, c]) l i j = if i = a ∧ j = b then l else if i = b ∧ j = a then c - l else 0 := rfl
    rw [ec]
    rcases ih with ⟨k, a2, b2, c2, l2, hk, hk1, hk2, hm2⟩ | ⟨no, e0⟩
    · obtain ⟨a3, b3, c3, hr3, a30, ab3, _⟩ := rows_at hb n1 (m := k) (by omega)
      rw [hk1] at hr3
      have hr3 : tupD [a2, b2, c2] = tupD [a3, b3, c3] := Option.some.inj hr3
      cases hr3
      have hne : ¬ (a = a2 ∧ b = b2) := by
        rintro ⟨rfl, rfl⟩
        have e1 : (rs.map pairD)[k]? = some [a, b] := by rw [List.getElem?_map, hk1]; rfl
        have e2 : (rs.map pairD)[m]? = some [a, b] := by rw [List.getElem?_map, hr]; rfl
        have := (List.getElem?_inj (by rw [List.length_map]; omega) nd).mp (e1.trans e2.symm)
        omega
      refine .inl ⟨k, a2, b2, c2, l2, by omega, hk1, hk2, ?_⟩
      rcases hm2 with ⟨h1, h2, h3⟩ | ⟨h1, h2, h3⟩
      · rw [if_neg (by omega), if_neg (by omega)]
        exact .inl ⟨h1, h2, by omega⟩
      · rw [if_neg (by omega), if_neg (by omega)]
        exact .inr ⟨h1, h2, by omega⟩
    · by_cases h1 : i = a ∧ j = b
      · rw [if_pos h1]
        exact .inl ⟨m, a, b, c, l, by omega, hr, hl, .inl ⟨h1.1, h1.2, by omega⟩⟩
      · rw [if_neg h1]
        by_cases h2 : i = b ∧ j = a
        · rw [if_pos h2]
          exact .inl ⟨m, a, b, c, l, by omega, hr, hl, .inr ⟨h2.1, h2.2, by omega⟩⟩
        · rw [if_neg h2]
          refine .inr ⟨fun k a2 b2 c2 hk hk1 => ?_, by omega⟩
          by_cases hkm : k < m
          · exact no k a2 b2 c2 hkm hk1
          · have : k = m := by omega
            subst this
            rw [hr] at hk1
            have hk1 : tupD [a, b, c] = tupD [a2, b2, c2] := Option.some.inj hk1
            cases hk1
            exact ⟨h1, h2⟩
theorem ledS_is {rs : List PyData} {ls : List Int} {n i j : Int} (hb : bundlesD (.list rs) n = true) (n1 : n ≤ 10) (same : ls.length = rs.length) : LedIs rs ls i j (ledS rs ls i j ls.length) := by
  rcases ledS_at (i := i) (j := j) hb n1 same ls.length (Nat.le_refl _) with ⟨k, a, b, c, l, _, h1, h2, h3⟩ | ⟨no, e⟩
  · exact .inl ⟨k, a, b, c, l, h1, h2, h3⟩
  · exact .inr ⟨fun k a b c hk => no k a b c (by have := (List.getElem?_eq_some_iff.mp hk).1; omega) hk, e⟩
/-- the other brokers -/
def oth (i : Int) : Nat → List Int
  | 0 => []
  | j + 1 => if (j : Int) = i then oth i j else oth i j ++ [(j : Int)]
theorem oth_skip {i : Int} {o : Nat} (h : (o : Int) = i) : oth i (o + 1) = oth i o := by
  show (if (o : Int) = i then oth i o else oth i o ++ [(o : Int)]) = _
  rw [if_pos h]
theorem oth_next {i : Int} {o : Nat} (h : ¬ (o : Int) = i) : oth i (o + 1) = oth i o ++ [(o : Int)] := by
  show (if (o : Int) = i then oth i o else oth i o ++ [(o : Int)]) = _
  rw [if_neg h]
theorem oth_len (i : Int) : ∀ n, (oth i n).length ≤ n
  | 0 => Nat.le_refl _
  | n + 1 => by
    have := oth_len i n
    unfold oth
    split
    · omega
    · rw [List.length_append, List.length_singleton]; omega
theorem sum_app (f : Int → Int) (xs : List Int) (y : Int) : ((xs ++ [y]).map f).sum = (xs.map f).sum + f y := by
  rw [List.map_append, List.sum_append]
  simp
theorem sum_add (f g : Int → Int) : ∀ xs : List Int, (xs.map fun j => f j + g j).sum = (xs.map f).sum + (xs.map g).sum
  | [] => rfl
  | x :: r => by
    simp only [List.map_cons, List.sum_cons, sum_add f g r]
    omega
theorem sum_zero : ∀ xs : List Int, (xs.map fun _ => (0 : Int)).sum = 0
  | [] => rfl
  | x :: r => by simp only [List.map_cons, List.sum_cons, sum_zero r]; rfl
theorem sum_if (i b v : Int) (b0 : 0 ≤ b) : ∀ n : Nat, ((oth i n).map fun j => if j = b then v else 0).sum = if b < n ∧ b ≠ i then v else 0
  | 0 => by rw [if_neg (by omega)]; rfl
  | n + 1 => by
    have ih := sum_if i b v b0 n
    unfold oth
    by_cases h : (n : Int) = i
    · rw [if_pos h, ih]
      by_cases h2 : b < n ∧ b ≠ i
      · rw [if_pos h2, if_pos (by omega)]
      · rw [if_neg h2, if_neg (by omega)]
    · rw [if_neg h, sum_app, ih]
      by_cases h2 : (n : Int) = b
      · rw [if_pos h2, if_neg (by omega), if_pos (by omega)]; omega
      · rw [if_neg h2]
        by_cases h3 : b < n ∧ b ≠ i
        · rw [if_pos h3, if_pos (by omega)]; omega
        · rw [if_neg h3, if_neg (by omega)]; rfl
theorem sum_ctb {a b c l i n : Int} (a0 : 0 ≤ a) (ab : a < b) (bn : b < n) : ((oth i n.toNat).map fun j => ctb (tupD [a, b, c]) l i j).sum = if i = a then l else if i = b then c - l else 0 := by
  have e : ∀ j, ctb (tupD [a, b, c]) l i j = if i = a ∧ j = b then l else if i = b ∧ j = a then c - l else 0 := fun j => rfl
  by_cases h1 : i = a
  · rw [if_pos h1]
    have : (fun j => ctb (tupD [a, b, c]) l i j) = fun j => if j = b then l else 0 := by
      funext j
      rw [e]
      by_cases h : j = b
      · rw [if_pos ⟨h1, h⟩, if_pos h]
      · rw [if_neg (by omega), if_neg (by omega), if_neg h]
    rw [this, sum_if i b l (by omega), if_pos (by omega)]
  · rw [if_neg h1]
    by_cases h2 : i = b
    · rw [if_pos h2]
      have : (fun j => ctb (tupD [a, b, c]) l i j) = fun j => if j = a then c - l else 0 := by
        funext j
        rw [e, if_neg (by omega)]
        by_cases h : j = a
        · rw [if_pos ⟨h2, h⟩, if_pos h]
        · rw [if_neg (by omega), if_neg h]
      rw [this, sum_if i a _ a0, if_pos (by omega)]
    · rw [if_neg h2]
      have : (fun j => ctb (tupD [a, b, c]) l i j) = fun _ => 0 := by
        funext j
        rw [e, if_neg (by omega), if_neg (by omega)]
      rw [this, sum_zero]
theorem ldStep_at {hs : List Int} {l a b c i : Int} (a0 : 0 ≤ a) (ab : a < b) (hbn : b.toNat < hs.length) (i0 : 0 ≤ i) : (ldStep hs l a b c).getD i.toNat 0 = hs.getD i.toNat 0 + (if i = a then l else if i = b then c - l else 0) := by
  have g : ∀ (xs : List Int) (j k : Nat) (v : Int), j < xs.length → (xs.set j v).getD k 0 = if j = k then v else xs.getD k 0 := by
    intro xs j k v h
    rw [List.getD_eq_getElem?_getD, List.getElem?_set]
    by_cases e : j = k
    · subst e; rw [if_pos rfl, if_pos rfl, if_pos h]; rfl
    · rw [if_neg e, if_neg e, List.getD_eq_getElem?_getD]
  unfold ldStep
  rw [g _ _ _ _ (by rw [List.length_set]; exact hbn), g _ _ _ _ (by omega), g _ _ _ _ (by omega)]
  by_cases h1 : i = a
  · subst h1
    rw [if_neg (by omega), if_pos rfl, if_pos rfl]
  · rw [if_neg h1]
    by_cases h2 : i = b
    · subst h2
      rw [if_pos rfl, if_neg (by omega), if_pos rfl]; omega
    · rw [if_neg (by omega), if_neg (by omega), if_neg h2]; omega
theorem led_sum {rs : List PyData} {ls : List Int} {n i : Int} (hb : bundlesD (.list rs) n = true) (n1 : n ≤ 10) (same : ls.length = rs.length) (i0 : 0 ≤ i) (i1 : i < n) : ∀ m, m ≤ ls.length →
    ((oth i n.toNat).map fun j => ledS rs ls i j m).sum = (ldOf n.toNat rs ls m).getD i.toNat 0
  | 0, _ => by
    have e : (fun j : Int => ledS rs ls i j 0) = fun _ => 0 := by funext j; rfl
    rw [e, sum_zero, ldOf, List.getD_eq_getElem?_getD, List.getElem?_replicate]
    split <;> rfl
  | m + 1, hm => by
    have ih := led_sum hb n1 same i0 i1 m (by omega)
    obtain ⟨a, b, c, hr, a0, ab, bn, _⟩ := rows_at hb n1 (m := m) (by omega)
    have hl : ls[m]? = some ls[m] := List.getElem?_eq_getElem (by omega)
    generalize ls[m] = l at *
    have e : (fun j => ledS rs ls i j (m + 1)) = fun j => ledS rs ls i j m + ctb (tupD [a, b, c]) l i j := by
      funext j; exact ledS_next hl hr
    rw [e, sum_add, ih, sum_ctb a0 ab bn, ld_next hl hr, ldStep_at a0 ab (by rw [ld_len]; omega) i0]
theorem ld_sum {rs : List PyData} {ls : List Int} {n : Int} (hb : bundlesD (.list rs) n = true) (n1 : n ≤ 10) (same : ls.length = rs.length) : ∀ m, m ≤ ls.length → (ldOf n.toNat rs ls m).sum = ((rs.take m).map cntD).sum
  | 0, _ => by
    rw [ldOf]
    have : ∀ k : Nat, (List.replicate k (0 : Int)).sum = 0 := by
      intro k
      induction k with
      | zero => rfl
      | succ k ih => rw [List.replicate_succ, List.sum_cons, ih]; rfl
    rw [this]; rfl
  | m + 1, hm => by
    have ih := ld_sum hb n1 same m (by omega)
    obtain ⟨a, b, c, hr, a0, ab, bn, _⟩ := rows_at hb n1 (m := m) (by omega)
    have hl : ls[m]? = some ls[m] := List.getElem?_eq_getElem (by omega)
    generalize ls[m] = l at *
    rw [ld_next hl hr, ldStep_sum (by rw [ld_len]; omega) (by rw [ld_len]; omega), ih, List.take_add_one, hr]
    simp only [Option.toList_some, List.map_append, List.sum_append, List.map_cons, List.map_nil, List.sum_cons, List.sum_nil]
    show _ + c = _ + (c + 0)
    omega

/-! ### a walk: its fields -/
theorem putF_len {f : Str} {v : V} : ∀ {fs : List (Str × V)} {u : V}, fs.lookup f = some u → (putF f v fs).length = fs.length
  | [], _, h => by cases h
  | (k, x) :: r, u, h => by
    rw [show putF f v ((k, x) :: r) = (if k = f then (k, v) :: r else (k, x) :: putF f v r) from rfl]
    by_cases hk : k = f
    · rw [if_pos hk]; rfl
    · rw [if_neg hk, List.length_cons, List.length_cons]
      have hb : (f == k) = false := beq_eq_false_iff_ne.mpr (fun e => hk e.symm)
      simp only [List.lookup, hb] at h
      rw [putF_len h]
theorem putF_le {f : Str} {v : V} {fs : List (Str × V)} {n : Nat} (h : fs.length ≤ n) : (putF f v fs).length ≤ n + 1 := Nat.le_trans (length_putF ..) (by omega)
theorem new1 {x a : Addr} {H H1 : Hp} {o : HO} (E : Ext [x] H H1) (hx : H1 x = some o) (n : H1 a = none) : a ∉ [x] ∧ H a = none := by
  have nx : a ∉ [x] := fun m => by rw [List.mem_singleton] at m; rw [m, hx] at n; cases n
  refine ⟨nx, ?_⟩
  cases e : H a with
  | none => rfl
  | some o => rw [E _ _ nx e] at n; cases n
structure WkF (fs : List (Str × V)) (c l h p pa fl ce : Addr) : Prop where
  cl : fs.lookup ("_cluster" : Str) = some (.ref c)
  le : fs.lookup ("_leads" : Str) = some (.ref l)
  lo : fs.lookup ("_loads" : Str) = some (.ref h)
  pr : fs.lookup ("_pairs" : Str) = some (.ref p)
  pt : fs.lookup ("_partitions" : Str) = some (.ref pa)
  fl : fs.lookup ("_floors" : Str) = some (.ref fl)
  ce : fs.lookup ("_ceilings" : Str) = some (.ref ce)
  n : fs.length < 100
  d : fs.lookup ("do" : Str) = none
  t : fs.lookup ("_turn" : Str) = none
  g : fs.lookup ("leads" : Str) = none
theorem lk_ne {f g : Str} {v : V} {fs : List (Str × V)} {o : Option V} (n : g ≠ f) (h : fs.lookup g = o) : (putF f v fs).lookup g = o := by rw [lookup_putF, if_neg n]; exact h
theorem lk_eq {f : Str} {v : V} {fs : List (Str × V)} : (putF f v fs).lookup f = some v := by rw [lookup_putF, if_pos rfl]
theorem WkF.leads {fs : List (Str × V)} {c l h p pa fl ce : Addr} (w : WkF fs c l h p pa fl ce) (l' : Addr) : WkF (putF "_leads" (.ref l') fs) c l' h p pa fl ce :=
  ⟨lk_ne (by decide) w.cl, lk_eq, lk_ne (by decide) w.lo, lk_ne (by decide) w.pr, lk_ne (by decide) w.pt, lk_ne (by decide) w.fl, lk_ne (by decide) w.ce, by rw [putF_len w.le]; exact w.n, lk_ne (by decide) w.d, lk_ne (by decide) w.t, lk_ne (by decide) w.g⟩
theorem WkF.loads {fs : List (Str × V)} {c l h p pa fl ce : Addr} (w : WkF fs c l h p pa fl ce) (h' : Addr) : WkF (putF "_loads" (.ref h') fs) c l h' p pa fl ce :=
  ⟨lk_ne (by decide) w.cl, lk_ne (by decide) w.le, lk_eq, lk_ne (by decide) w.pr, lk_ne (by decide) w.pt, lk_ne (by decide) w.fl, lk_ne (by decide) w.ce, by rw [putF_len w.lo]; exact w.n, lk_ne (by decide) w.d, lk_ne (by decide) w.t, lk_ne (by decide) w.g⟩
/-- the class's facts -/
structure Cw (K : PySem.W.Frag) (mg : Str → Option Value) (W : Addr) : Prop where
  ck : Ck K mg "Walk" W
  cl : NoAttr K W "_cluster"
  le : NoAttr K W "_leads"
  lo : NoAttr K W "_loads"
  pr : NoAttr K W "_pairs"
  pt : NoAttr K W "_partitions"
  fl : NoAttr K W "_floors"
  ce : NoAttr K W "_ceilings"
def floD : PyData → Int
  | .tuple (.int a :: _) => a
  | _ => 0
def ceiD : PyData → Int
  | .tuple [_, .int b] => b
  | _ => 0
/-- a walk that stands at these leads and loads -/
structure Wlk (W : Addr) (H : Hp) (x l h : Addr) (ds rs : List PyData) (ls hs : List Int) : Prop where
  ex : ∃ dx fs c p pa fl ce kvs, H x = some (.ins W dx fs) ∧ WkF fs c l h p pa fl ce ∧ H l = some (.lst (ls.map V.int)) ∧ H h = some (.lst (hs.map V.int)) ∧ H p = some (.dT kvs) ∧
    (∀ i j : Int, valV kvs [.inl i, .inl j] = valV (numsD (.list rs)) [.inl (if j < i then j else i), .inl (if j > i then j else i)]) ∧
    H pa = some (.lst ((rs.map cntD).map V.int)) ∧ H fl = some (.lst ((ds.map floD).map V.int)) ∧ H ce = some (.lst ((ds.map ceiD).map V.int)) ∧
    l ≠ h ∧ pa ≠ l ∧ pa ≠ h ∧ fl ≠ l ∧ fl ≠ h ∧ ce ≠ l ∧ ce ≠ h
theorem Wlk.same {W : Addr} {H H' : Hp} {x l h : Addr} {ds rs : List PyData} {ls hs : List Int} (w : Wlk W H x l h ds rs ls hs) (S : Same H H') : Wlk W H' x l h ds rs ls hs := by
  obtain ⟨dx, fs, c, p, pa, fl, ce, kvs, e1, f, e2, e3, e4, e5, e6, e7, e8, e9⟩ := w.ex
  exact ⟨dx, fs, c, p, pa, fl, ce, kvs, S _ _ e1, f, S _ _ e2, S _ _ e3, S _ _ e4, e5, S _ _ e6, S _ _ e7, S _ _ e8, e9⟩
def spWI (W C : Addr) : Sp := fun vs H Q _ => ∃ (x dx k g : Addr) (ds rs : List PyData) (ls : List Int), vs = [.ref x, .ref k, .ref g] ∧ H x = some (.ins W dx []) ∧ Clu C [x] H k (.list ds) (.list rs) ∧ H g = some (.tup (ls.map V.int)) ∧
  boundsD (.list ds) = true ∧ bundlesD (.list rs) ds.length = true ∧ ls.length = rs.length ∧
  ∀ H' l h, Ext [x] H H' → H l = none → H h = none → Wlk W H' x l h ds rs ls (ldOf ds.length rs ls ls.length) → Q .non H'
def spWL (W : Addr) : Sp := fun vs H Q _ => ∃ (x l h : Addr) (ds rs : List PyData) (ls hs : List Int), vs = [.ref x] ∧ Wlk W H x l h ds rs ls hs ∧ ∀ H' p, Same H H' → H p = none → H' p = some (.tup (ls.map V.int)) → Q (.ref p) H'
section
variable {P : Program} {w : World} {K : PySem.W.Frag} {mg : Str → Option Value} {base : Heap} {t0 t1 t2 t3 t4 : Tok} {C W : Addr}
theorem km_wleads {k : Nat} (D : Dm K W "leads" "Walk.leads" s_Walk_leads) (B : Bl mg) (cw : Cw K mg W) : Km P w K mg base W "leads" (k + 1) (spWL W) := by
  refine km_of D (fun _ _ _ _ _ _ us hl => match us, hl with | [_], _ => rfl) sc_Walk_leads (fun vs H Q E h => by obtain ⟨x, l, h, ds, rs, ls, hs, rfl, _⟩ := h; rfl) (fun f cd B' fr z H vs Q E hr gd h => ?_)
  obtain ⟨x, l, h, ds, rs, ls, hs, rfl, wk, q⟩ := h
  refine ⟨_, (pss_one (ps_ret (pe_callTy call_tuple_of (by rfl) B.«tuple» (by decide +kernel) (pa_cons (pe_fld (pv 0) (by rfl)) pa_nil)))), ?_⟩
  obtain ⟨dx, fs, c, p, pa, fl, ce, kvs, e1, ff, e2, e3, e4, e5, e6, e7, e8, e9⟩ := wk.ex
  walk_at "xs"
  refine x_gAt e1 cw.ck.cls cw.le ff.le ?_
  walk_at "xs"
  intro p' hp'
  walk_at "xs"
  exact q _ p' (same_upd hp') hp' upd_same
theorem km_winit {k : Nat} (D : Dm K W "__init__" "Walk.__init__" s_Walk_init) (B : Bl mg) (cc : Cc K mg C) (cw : Cw K mg W) (c_loads : Kn P w K mg base "loads" k (spLoadsP C)) (m_pairs : Km P w K mg base C "pairs" k (spPairs C)) (m_bundles : Km P w K mg base C "bundles" k (spCopy C)) (m_bounds : Km P w K mg base C "bounds" k (spCopyB C)) : Km P w K mg base W "__init__" (k + 1) (spWI W C) := by
  refine km_of D (fun _ _ _ _ _ _ us hl => match us, hl with | [_, _, _], _ => rfl) sc_Walk_init (fun vs H Q E h => by obtain ⟨x, dx, k, g, ds, rs, ls, rfl, _⟩ := h; rfl) (fun f cd B' fr z H vs Q E hr gd h => ?_)
  obtain ⟨x, dx, k', g, ds, rs, ls, rfl, hx, cl, hg, b1, b2, same, q⟩ := h
  have c_Cluster := cc.ck
  have c_Walk := cw.ck
  refine ⟨_, (pss_cons (ps_fld (pv 0) (pv 1) (by rfl))
  (pss_cons (ps_fld (pv 0) (pe_callTy call_list_of (by rfl) B.«list» (by decide +kernel) (pa_cons (pv 2) pa_nil)) (by rfl))
  (pss_cons (ps_fld (pv 0) (pe_own c_loads hr gd (by rfl) (pa_cons (pv 1) (pa_cons (pv 2) pa_nil))) (by rfl))
  (pss_cons (ps_fld (pv 0) (pe_ownM0 (pv 1) c_Cluster.cls m_pairs hr gd) (by rfl))
  (pss_cons (ps_fld (pv 0) (pe_lc (own := [("_", 3), ("_", 3), ("partitions", 4)]) rfl sc_Walk_init.nd (pi_list (pe_ownM0 (pv 1) c_Cluster.cls m_bundles hr gd)) (blkOk_by (N := ["self", "cluster", "leads", "_", "partitions", "floor", "ceiling"]) (sc := defScope s_Walk_init) (by decide +kernel)) (fun _ _ _ _ _ => (pg_tupK K (n := 3) (pgs_cons (pg_name (i := 3) sc_Walk_init.nd rfl (.inl rfl)) (pgs_cons (pg_name (i := 3) sc_Walk_init.nd rfl (.inl rfl)) (pgs_cons (pg_name (i := 4) sc_Walk_init.nd rfl (.inl rfl)) pgs_nil))))) (fun _ _ _ _ _ => pts_nil) (fun _ _ _ _ _ => (pv 4))) (by rfl))
  (pss_cons (ps_fld (pv 0) (pe_lc (own := [("floor", 5), ("_", 3)]) rfl sc_Walk_init.nd (pi_list (pe_ownM0 (pv 1) c_Cluster.cls m_bounds hr gd)) (blkOk_by (N := ["self", "cluster", "leads", "_", "partitions", "floor", "ceiling"]) (sc := defScope s_Walk_init) (by decide +kernel)) (fun _ _ _ _ _ => (pg_tupK K (n := 2) (pgs_cons (pg_name (i := 5) sc_Walk_init.nd rfl (.inl rfl)) (pgs_cons (pg_name (i := 3) sc_Walk_init.nd rfl (.inl rfl)) pgs_nil)))) (fun _ _ _ _ _ => pts_nil) (fun _ _ _ _ _ => (pv 5))) (by rfl))
  (pss_one (ps_fld (pv 0) (pe_lc (own := [("_", 3), ("ceiling", 6)]) rfl sc_Walk_init.nd (pi_list (pe_ownM0 (pv 1) c_Cluster.cls m_bounds hr gd)) (blkOk_by (N := ["self", "cluster", "leads", "_", "partitions", "floor", "ceiling"]) (sc := defScope s_Walk_init) (by decide +kernel)) (fun _ _ _ _ _ => (pg_tupK K (n := 2) (pgs_cons (pg_name (i := 3) sc_Walk_init.nd rfl (.inl rfl)) (pgs_cons (pg_name (i := 6) sc_Walk_init.nd rfl (.inl rfl)) pgs_nil)))) (fun _ _ _ _ _ => pts_nil) (fun _ _ _ _ _ => (pv 6))) (by rfl))))))))), ?_⟩
  have xg : g ∉ [x] := fun m => by rw [List.mem_singleton] at m; rw [m, hx] at hg; cases hg
  walk_at "xs"
  refine ⟨x, W, dx, _, rfl, hx, cw.ck.cls, cw.cl, by simp, ?_⟩
  have E1 : Ext [x] H (upd H x (.ins W dx (putF "_cluster" (.ref k') []))) := Ext.upd (by simp)
  have hxH1 := upd_same (H := H) (a := x) (o := .ins W dx (putF "_cluster" (.ref k') []))
  have hg1 := E1 _ _ xg hg
  generalize upd H x _ = H1 at *
  clear hx
  walk_at "xs"
  intro l hl
  have S2 := same_upd hl (o := .lst (ls.map V.int))
  have el := upd_same (H := H1) (a := l) (o := .lst (ls.map V.int))
  obtain ⟨nlx, hl0⟩ := new1 E1 hxH1 hl
  have hx2 := S2 _ _ hxH1
  have E2 := E1.trans (Ext.same S2)
  clear hxH1 hg1
  generalize upd H1 l _ = H2 at *
  clear S2 hl
  walk_at "xs"
  refine ⟨x, W, dx, _, rfl, hx2, cw.ck.cls, cw.le, (Nat.lt_of_le_of_lt (putF_le (Nat.le_refl 0)) (by decide)), ?_⟩
  have X2 : Ext [x] H2 (upd H2 x (.ins W dx (putF "_leads" (.ref l) (putF "_cluster" (.ref k') [])))) := Ext.upd (by simp)
  have hxH3 := upd_same (H := H2) (a := x) (o := .ins W dx (putF "_leads" (.ref l) (putF "_cluster" (.ref k') [])))
  have E3 := E2.trans X2
  have elH3 := X2 _ _ nlx el
  clear hx2
  generalize upd H2 x _ = H3 at *
  clear X2
  clear el
  have hgH3 := E3 _ _ xg hg
  walk_at "xs"
  refine ⟨k', g, [x], ds, rs, ls, rfl, cl.ext E3, hgH3, b1, b2, same, ?_⟩
  intro H4 h S4 nh eh
  obtain ⟨nhx, hh0⟩ := new1 E3 hxH3 nh
  have nlh : l ≠ h := fun e => by rw [e, nh] at elH3; cases elH3
  have E4 := E3.trans (Ext.same S4)
  have hx4 := S4 _ _ hxH3
  have el4 := S4 _ _ elH3
  clear hxH3 elH3 hgH3 S4 nh
  walk_at "xs"
  refine ⟨x, W, dx, _, rfl, hx4, cw.ck.cls, cw.lo, (Nat.lt_of_le_of_lt (putF_le (putF_le (Nat.le_refl 0))) (by decide)), ?_⟩
  have X3 : Ext [x] H4 (upd H4 x (.ins W dx (putF "_loads" (.ref h) (putF "_leads" (.ref l) (putF "_cluster" (.ref k') []))))) := Ext.upd (by simp)
  have hxH5 := upd_same (H := H4) (a := x) (o := .ins W dx (putF "_loads" (.ref h) (putF "_leads" (.ref l) (putF "_cluster" (.ref k') []))))
  have E5 := E4.trans X3
  have elH5 := X3 _ _ nlx el4
  have ehH5 := X3 _ _ nhx eh
  clear hx4
  generalize upd H4 x _ = H5 at *
  clear X3
  clear el4 eh
  have clH5 := cl.ext E5
  obtain ⟨dxc, Bc, Uc, Nc, kvc, hxc, _⟩ := id clH5
  walk_at "xs"
  refine x_mAt hxc (f3_none _ _ _ (by decide) (by decide) (by decide)) ?_
  walk_at "xs"
  refine ⟨k', [x], _, _, rfl, clH5, ?_⟩
  intro H6 p kvs S6 np ep nd ek
  obtain ⟨npx, _⟩ := new1 E5 hxH5 np
  have E6 := E5.trans (Ext.same S6)
  have hx6 := S6 _ _ hxH5
  have el6 := S6 _ _ elH5
  have eh6 := S6 _ _ ehH5
  clear hxH5 elH5 ehH5 hxc S6 np clH5
  walk_at "xs"
  refine ⟨x, W, dx, _, rfl, hx6, cw.ck.cls, cw.pr, (Nat.lt_of_le_of_lt (putF_le (putF_le (putF_le (Nat.le_refl 0)))) (by decide)), ?_⟩
  have X4 : Ext [x] H6 (upd H6 x (.ins W dx (putF "_pairs" (.ref p) (putF "_loads" (.ref h) (putF "_leads" (.ref l) (putF "_cluster" (.ref k') [])))))) := Ext.upd (by simp)
  have hxH7 := upd_same (H := H6) (a := x) (o := .ins W dx (putF "_pairs" (.ref p) (putF "_loads" (.ref h) (putF "_leads" (.ref l) (putF "_cluster" (.ref k') [])))))
  have E7 := E6.trans X4
  have elH7 := X4 _ _ nlx el6
  have ehH7 := X4 _ _ nhx eh6
  have epH7 := X4 _ _ npx ep
  clear hx6
  generalize upd H6 x _ = H7 at *
  clear X4
  clear el6 eh6 ep
  have n10 := bounds_len b1
  have len := (bundles_len b2).1
  have clH7 := cl.ext E7
  obtain ⟨dxc, Bc, Uc, Nc, kvc, hxc, _⟩ := id clH7
  walk_at "xs"
  refine x_mAt hxc (f3_none _ _ _ (by decide) (by decide) (by decide)) ?_
  walk_at "xs"
  refine ⟨k', [x], _, _, rfl, clH7, ?_⟩
  intro H8 u S8 nu du
  have E8 := E7.trans (Ext.same S8)
  have hx8 := S8 _ _ hxH7
  have el8 := S8 _ _ elH7
  have eh8 := S8 _ _ ehH7
  have ep8 := S8 _ _ epH7
  clear hxH7 elH7 ehH7 epH7 hxc S8 nu clH7
  cases du with
  | @lst _ uxs _ eu _ AU =>
  have lU := AU.length
  walk_at "xs"
  intro pa hpa
  obtain ⟨nxpa, _⟩ := new1 E8 hx8 hpa
  have nlpa : pa ≠ l := fun e => by rw [e, el8] at hpa; cases hpa
  have nhpa : pa ≠ h := fun e => by rw [e, eh8] at hpa; cases hpa
  refine lc_list (K := K) (a := u) (xs := uxs) (fun j H' => Same H8 H' ∧ H' pa = some (.lst (((rs.map cntD).take j).map V.int))) ?_ ?_ ?_ ?_
  · exact ⟨same_upd hpa, upd_same⟩
  · rintro j H' _ ⟨S, _⟩
    exact SqL.of (S _ _ eu)
  · rintro j v H' hv ⟨S, eL⟩
    have hj := (List.getElem?_eq_some_iff.mp hv).1
    obtain ⟨dR, hdR, dnR⟩ := (AU.ext (Ext.same S)).get hv
    obtain ⟨a, b, c, hr, _⟩ := rows_at b2 (by omega) (show j < rs.length by omega)
    rw [hr] at hdR
    obtain rfl : tupD [a, b, c] = dR := Option.some.inj hdR
    obtain ⟨r', rfl, _, hr2⟩ := Dn.tup3 (a := a) (b := b) (c := c) dnR
    walk_at "xs"
    refine x_wiped rfl ?_
    walk_at "xs"
    refine x_acc eL (by rw [List.length_map, List.length_take, List.length_map, sizeLine_eq]; omega) ?_
    refine ⟨fun z o e => ?_, ?_⟩
    · rw [upd_ne (ne_of_none e hpa)]; exact S _ _ e
    · rw [upd_same, List.take_add_one, List.getElem?_map, hr, List.map_append]; rfl
  rintro H9 ⟨S9, eL9⟩
  rw [lU, show rs.length = (rs.map cntD).length by rw [List.length_map], List.take_length] at eL9
  have E9 := E8.trans (Ext.same S9)
  have hx9 := S9 _ _ hx8
  have el9 := S9 _ _ el8
  have eh9 := S9 _ _ eh8
  have ep9 := S9 _ _ ep8
  clear hx8 el8 eh8 ep8 eu AU lU hpa S9
  walk_at "xs"
  refine ⟨x, W, dx, _, rfl, hx9, cw.ck.cls, cw.pt, (Nat.lt_of_le_of_lt (putF_le (putF_le (putF_le (putF_le (Nat.le_refl 0))))) (by decide)), ?_⟩
  have X5 : Ext [x] H9 (upd H9 x (.ins W dx (putF "_partitions" (.ref pa) (putF "_pairs" (.ref p) (putF "_loads" (.ref h) (putF "_leads" (.ref l) (putF "_cluster" (.ref k') []))))))) := Ext.upd (by simp)
  have hxH10 := upd_same (H := H9) (a := x) (o := .ins W dx (putF "_partitions" (.ref pa) (putF "_pairs" (.ref p) (putF "_loads" (.ref h) (putF "_leads" (.ref l) (putF "_cluster" (.ref k') []))))))
  have E10 := E9.trans X5
  have elH10 := X5 _ _ nlx el9
  have ehH10 := X5 _ _ nhx eh9
  have epH10 := X5 _ _ npx ep9
  have eaH10 := X5 _ _ nxpa eL9
  clear hx9
  generalize upd H9 x _ = H10 at *
  clear X5
  clear el9 eh9 ep9 eL9
  have clH10 := cl.ext E10
  obtain ⟨dxc, Bc, Uc, Nc, kvc, hxc, _⟩ := id clH10
  walk_at "xs"
  refine x_mAt hxc (f3_none _ _ _ (by decide) (by decide) (by decide)) ?_
  walk_at "xs"
  refine ⟨k', [x], _, _, rfl, clH10, ?_⟩
  intro H11 u S11 nu du
  have E11 := E10.trans (Ext.same S11)
  have hx11 := S11 _ _ hxH10
  have el11 := S11 _ _ elH10
  have eh11 := S11 _ _ ehH10
  have ep11 := S11 _ _ epH10
  have ea11 := S11 _ _ eaH10
  clear hxH10 elH10 ehH10 epH10 eaH10 hxc S11 nu clH10
  cases du with
  | @lst _ uxs _ eu _ AU =>
  have lU := AU.length
  walk_at "xs"
  intro fl hfl
  obtain ⟨nxfl, _⟩ := new1 E11 hx11 hfl
  have nlfl : fl ≠ l := fun e => by rw [e, el11] at hfl; cases hfl
  have nhfl : fl ≠ h := fun e => by rw [e, eh11] at hfl; cases hfl
  refine lc_list (K := K) (a := u) (xs := uxs) (fun j H' => Same H11 H' ∧ H' fl = some (.lst (((ds.map floD).take j).map V.int))) ?_ ?_ ?_ ?_
  · exact ⟨same_upd hfl, upd_same⟩
  · rintro j H' _ ⟨S, _⟩
    exact SqL.of (S _ _ eu)
  · rintro j v H' hv ⟨S, eL⟩
    have hj := (List.getElem?_eq_some_iff.mp hv).1
    obtain ⟨dR, hdR, dnR⟩ := (AU.ext (Ext.same S)).get hv
    obtain ⟨lw, up, hr, _⟩ := bound_at b1 (i := j) (by omega)
    rw [hr] at hdR
    obtain rfl : tupD [lw, up] = dR := Option.some.inj hdR
    obtain ⟨r', rfl, _, hr2⟩ := Dn.pair (p := (lw, up)) dnR
    walk_at "xs"
    refine x_wiped rfl ?_
    walk_at "xs"
    refine x_acc eL (by rw [List.length_map, List.length_take, List.length_map, sizeLine_eq]; omega) ?_
    refine ⟨fun z o e => ?_, ?_⟩
    · rw [upd_ne (ne_of_none e hfl)]; exact S _ _ e
    · rw [upd_same, List.take_add_one, List.getElem?_map, hr, List.map_append]; rfl
  rintro H12 ⟨S12, eL12⟩
  rw [lU, show ds.length = (ds.map floD).length by rw [List.length_map], List.take_length] at eL12
  have E12 := E11.trans (Ext.same S12)
  have hx12 := S12 _ _ hx11
  have el12 := S12 _ _ el11
  have eh12 := S12 _ _ eh11
  have ep12 := S12 _ _ ep11
  have ea12 := S12 _ _ ea11
  clear hx11 el11 eh11 ep11 ea11 eu AU lU hfl S12
  walk_at "xs"
  refine ⟨x, W, dx, _, rfl, hx12, cw.ck.cls, cw.fl, (Nat.lt_of_le_of_lt (putF_le (putF_le (putF_le (putF_le (putF_le (Nat.le_refl 0)))))) (by decide)), ?_⟩
  have X6 : Ext [x] H12 (upd H12 x (.ins W dx (putF "_floors" (.ref fl) (putF "_partitions" (.ref pa) (putF "_pairs" (.ref p) (putF "_loads" (.ref h) (putF "_leads" (.ref l) (putF "_cluster" (.ref k') [])))))))) := Ext.upd (by simp)
  have hxH13 := upd_same (H := H12) (a := x) (o := .ins W dx (putF "_floors" (.ref fl) (putF "_partitions" (.ref pa) (putF "_pairs" (.ref p) (putF "_loads" (.ref h) (putF "_leads" (.ref l) (putF "_cluster" (.ref k') [])))))))
  have E13 := E12.trans X6
  have elH13 := X6 _ _ nlx el12
  have ehH13 := X6 _ _ nhx eh12
  have epH13 := X6 _ _ npx ep12
  have eaH13 := X6 _ _ nxpa ea12
  have efH13 := X6 _ _ nxfl eL12
  clear hx12
  generalize upd H12 x _ = H13 at *
  clear X6
  clear el12 eh12 ep12 ea12 eL12
  have clH13 := cl.ext E13
  obtain ⟨dxc, Bc, Uc, Nc, kvc, hxc, _⟩ := id clH13
  walk_at "xs"
  refine x_mAt hxc (f3_none _ _ _ (by decide) (by decide) (by decide)) ?_
  walk_at "xs"
  refine ⟨k', [x], _, _, rfl, clH13, ?_⟩
  intro H14 u S14 nu du
  have E14 := E13.trans (Ext.same S14)
  have hx14 := S14 _ _ hxH13
  have el14 := S14 _ _ elH13
  have eh14 := S14 _ _ ehH13
  have ep14 := S14 _ _ epH13
  have ea14 := S14 _ _ eaH13
  have ef14 := S14 _ _ efH13
  clear hxH13 elH13 ehH13 epH13 eaH13 efH13 hxc S14 nu clH13
  cases du with
  | @lst _ uxs _ eu _ AU =>
  have lU := AU.length
  walk_at "xs"
  intro ce hce
  obtain ⟨nxce, _⟩ := new1 E14 hx14 hce
  have nlce : ce ≠ l := fun e => by rw [e, el14] at hce; cases hce
  have nhce : ce ≠ h := fun e => by rw [e, eh14] at hce; cases hce
  refine lc_list (K := K) (a := u) (xs := uxs) (fun j H' => Same H14 H' ∧ H' ce = some (.lst (((ds.map ceiD).take j).map V.int))) ?_ ?_ ?_ ?_
  · exact ⟨same_upd hce, upd_same⟩
  · rintro j H' _ ⟨S, _⟩
    exact SqL.of (S _ _ eu)
  · rintro j v H' hv ⟨S, eL⟩
    have hj := (List.getElem?_eq_some_iff.mp hv).1
    obtain ⟨dR, hdR, dnR⟩ := (AU.ext (Ext.same S)).get hv
    obtain ⟨lw, up, hr, _⟩ := bound_at b1 (i := j) (by omega)
    rw [hr] at hdR
    obtain rfl : tupD [lw, up] = dR := Option.some.inj hdR
    obtain ⟨r', rfl, _, hr2⟩ := Dn.pair (p := (lw, up)) dnR
    walk_at "xs"
    refine x_wiped rfl ?_
    walk_at "xs"
    refine x_acc eL (by rw [List.length_map, List.length_take, List.length_map, sizeLine_eq]; omega) ?_
    refine ⟨fun z o e => ?_, ?_⟩
    · rw [upd_ne (ne_of_none e hce)]; exact S _ _ e
    · rw [upd_same, List.take_add_one, List.getElem?_map, hr, List.map_append]; rfl
  rintro H15 ⟨S15, eL15⟩
  rw [lU, show ds.length = (ds.map ceiD).length by rw [List.length_map], List.take_length] at eL15
  have E15 := E14.trans (Ext.same S15)
  have hx15 := S15 _ _ hx14
  have el15 := S15 _ _ el14
  have eh15 := S15 _ _ eh14
  have ep15 := S15 _ _ ep14
  have ea15 := S15 _ _ ea14
  have ef15 := S15 _ _ ef14
  clear hx14 el14 eh14 ep14 ea14 ef14 eu AU lU hce S15
  walk_at "xs"
  refine ⟨x, W, dx, _, rfl, hx15, cw.ck.cls, cw.ce, (Nat.lt_of_le_of_lt (putF_le (putF_le (putF_le (putF_le (putF_le (putF_le (Nat.le_refl 0))))))) (by decide)), ?_⟩
  have X7 : Ext [x] H15 (upd H15 x (.ins W dx (putF "_ceilings" (.ref ce) (putF "_floors" (.ref fl) (putF "_partitions" (.ref pa) (putF "_pairs" (.ref p) (putF "_loads" (.ref h) (putF "_leads" (.ref l) (putF "_cluster" (.ref k') []))))))))) := Ext.upd (by simp)
  have hxH16 := upd_same (H := H15) (a := x) (o := .ins W dx (putF "_ceilings" (.ref ce) (putF "_floors" (.ref fl) (putF "_partitions" (.ref pa) (putF "_pairs" (.ref p) (putF "_loads" (.ref h) (putF "_leads" (.ref l) (putF "_cluster" (.ref k') []))))))))
  have E16 := E15.trans X7
  have elH16 := X7 _ _ nlx el15
  have ehH16 := X7 _ _ nhx eh15
  have epH16 := X7 _ _ npx ep15
  have eaH16 := X7 _ _ nxpa ea15
  have efH16 := X7 _ _ nxfl ef15
  have ecH16 := X7 _ _ nxce eL15
  clear hx15
  generalize upd H15 x _ = H16 at *
  clear X7
  walk_at "xs"
  exact q _ l h E16 hl0 hh0 ⟨dx, _, k', p, pa, fl, ce, kvs, hxH16, ⟨(lk_ne (by decide) (lk_ne (by decide) (lk_ne (by decide) (lk_ne (by decide) (lk_ne (by decide) (lk_ne (by decide) lk_eq)))))), (lk_ne (by decide) (lk_ne (by decide) (lk_ne (by decide) (lk_ne (by decide) (lk_ne (by decide) lk_eq))))), (lk_ne (by decide) (lk_ne (by decide) (lk_ne (by decide) (lk_ne (by decide) lk_eq)))), (lk_ne (by decide) (lk_ne (by decide) (lk_ne (by decide) lk_eq))), (lk_ne (by decide) (lk_ne (by decide) lk_eq)), (lk_ne (by decide) lk_eq), lk_eq, Nat.lt_of_le_of_lt (putF_le (putF_le (putF_le (putF_le (putF_le (putF_le (putF_le (Nat.le_refl 0)))))))) (by decide), (lk_ne (by decide) (lk_ne (by decide) (lk_ne (by decide) (lk_ne (by decide) (lk_ne (by decide) (lk_ne (by decide) (lk_ne (by decide) rfl))))))), (lk_ne (by decide) (lk_ne (by decide) (lk_ne (by decide) (lk_ne (by decide) (lk_ne (by decide) (lk_ne (by decide) (lk_ne (by decide) rfl))))))), (lk_ne (by decide) (lk_ne (by decide) (lk_ne (by decide) (lk_ne (by decide) (lk_ne (by decide) (lk_ne (by decide) (lk_ne (by decide) rfl)))))))⟩, elH16, ehH16, epH16, ek, eaH16, efH16, ecH16, nlh, nlpa, nhpa, nlfl, nhfl, nlce, nhce⟩
end
/-! ### moved leads -/
def mv1 (d : PyData) (l i j t : Int) : Int := match d with
  | .tuple [.int a, .int b, .int _] => if a = i ∧ b = j then l - t else if a = j ∧ b = i then l + t else l
  | _ => l
def mvL (rs : List PyData) (ls : List Int) (i j t : Int) : List Int := List.zipWith (fun l d => mv1 d l i j t) ls rs
theorem mvL_len {rs : List PyData} {ls : List Int} {i j t : Int} (same : ls.length = rs.length) : (mvL rs ls i j t).length = rs.length := by
  unfold mvL; rw [List.length_zipWith]; omega
theorem mvL_at {rs : List PyData} {ls : List Int} {i j t : Int} {m : Nat} {l : Int} {d : PyData} (hl : ls[m]? = some l) (hd : rs[m]? = some d) : (mvL rs ls i j t)[m]? = some (mv1 d l i j t) := by
  unfold mvL; rw [List.getElem?_zipWith, hl, hd]
def spMoved : Sp := fun vs H Q _ => ∃ (u : V) (p : Addr) (M : List Addr) (rs : List PyData) (ls : List Int) (n i j t : Int), vs = [u, .ref p, .int i, .int j, .int t] ∧ Dn M H u (.list rs) ∧ H p = some (.tup (ls.map V.int)) ∧ bundlesD (.list rs) n = true ∧ n ≤ 10 ∧ ls.length = rs.length ∧
  ∀ (H' : Hp) (f : Addr), Same H H' → H f = none → H' f = some (.tup ((mvL rs ls i j t).map V.int)) → Q (.ref f) H'
section
variable {P : Program} {w : World} {K : PySem.W.Frag} {mg : Str → Option Value} {base : Heap} {t0 t1 t2 t3 t4 : Tok} {C : Addr}
theorem kn_moved {k : Nat} (D : Df K mg "_law_moved" s_Lmoved) (B : Bl mg) : Kn P w K mg base "_law_moved" (k + 1) spMoved := by
  refine kn_of D (fun _ _ _ _ _ _ us hl => match us, hl with | [_, _, _, _, _], _ => rfl) sc_Lmoved (fun vs H Q E h => by obtain ⟨u, p, M, rs, ls, n, i, j, t, rfl, _⟩ := h; rfl) (fun f cd B' fr z H vs Q E hr gd h => ?_)
  obtain ⟨u, p, M, rs, ls, n, i, j, t, rfl, hu, hp, hb, n1, same, q⟩ := h
  refine ⟨_, (pss_cons (ps_set (i := 5) sc_Lmoved.nd rfl (.inl rfl) (pe_lst pa_nil))
  (pss_cons (ps_for PassesOwn.never rfl (pi_zipM (by rfl) B.zip (pa_cons (pv 1) (pa_cons (pv 0) pa_nil))) (pg_tup (by rfl) (pgs_cons (pg_name (i := 6) sc_Lmoved.nd rfl (.inl rfl)) (pgs_cons (pg_tup (by rfl) (pgs_cons (pg_name (i := 7) sc_Lmoved.nd rfl (.inl rfl)) (pgs_cons (pg_name (i := 8) sc_Lmoved.nd rfl (.inl rfl)) (pgs_cons (pg_name (i := 9) sc_Lmoved.nd rfl (.inl rfl)) pgs_nil)))) pgs_nil)))
  (pss_cons (ps_if (pt_cmpR (op_eqD hr.units) (pe_tup (pa_cons (pv 7) (pa_cons (pv 8) pa_nil))) (pe_tup (pa_cons (pv 2) (pa_cons (pv 3) pa_nil))) (nomark _)) (pss_one (ps_set (i := 6) sc_Lmoved.nd rfl (.inl rfl) (pe_op op_sub (pv 6) (pv 4)))) (pss_one (ps_if (pt_cmpR (op_eqD hr.units) (pe_tup (pa_cons (pv 7) (pa_cons (pv 8) pa_nil))) (pe_tup (pa_cons (pv 3) (pa_cons (pv 2) pa_nil))) (nomark _)) (pss_one (ps_set (i := 6) sc_Lmoved.nd rfl (.inl rfl) (pe_op op_add (pv 6) (pv 4)))) pss_nil)))
  (pss_one (ps_expr (pe_bm PySem.F.plainAttrs_list PySem.F.slot_list_append PySem.F.type_list_append mt_append (pv 5) (pa_cons (pv 6) pa_nil))))))
  (pss_one (ps_ret (pe_callTy call_tuple_of (by rfl) B.«tuple» (by decide +kernel) (pa_cons (pv 5) pa_nil)))))), ?_⟩
  obtain ⟨len, all⟩ := bundles_len hb
  cases hu with
  | @lst a xs _ ea ma A =>
  have lx := A.length
  walk_at "xs"
  intro F hF
  have S0 := same_upd hF (o := .lst [])
  have e0 := upd_same (H := H) (a := F) (o := .lst [])
  have ea0 := S0 _ _ ea
  have hp0 := S0 _ _ hp
  generalize upd H F _ = H0 at *
  have ml := mvL_len (i := i) (j := j) (t := t) same
  walk_at "xs"
  refine for_zipM (K := K) (us := ls.map V.int) (vs := xs) (by rw [List.length_map]; omega) (fun m σ' H' => ∃ (y6 y7 y8 y9 : Option V), σ' = [some (.ref a), some (.ref p), some (.int i), some (.int j), some (.int t), some (.ref F), y6, y7, y8, y9] ∧ Same H H' ∧ H' F = some (.lst (((mvL rs ls i j t).take m).map V.int))) ?_ ?_ ?_ ?_
  · exact ⟨_, _, _, _, rfl, S0, e0⟩
  · rintro m _ H' ⟨_, _, _, _, _, S, _⟩
    exact ⟨SqT.of (S _ _ hp), SqL.of (S _ _ ea)⟩
  · rintro m v r s _ H' hv hr' ⟨y6, y7, y8, y9, rfl, S, eF⟩ hs
    obtain ⟨l, hl, rfl⟩ := int_at hv
    obtain ⟨dR, hdR, dnR⟩ := A.get hr'
    have hm := (List.getElem?_eq_some_iff.mp hl).1
    have hbd : bundleD dR n = true := by
      rw [List.all_eq_true] at all
      exact all _ (List.mem_map.mpr ⟨dR, List.mem_of_getElem? hdR, rfl⟩)
    obtain ⟨a', b', c', rfl, p0, p1, p2, p3, p4⟩ := bundle_row hbd n1
    obtain ⟨r', rfl, _, hr2⟩ := Dn.tup3 (a := a') (b := b') (c := c') dnR
    have ma' := mvL_at (i := i) (j := j) (t := t) hl hdR
    have em : mv1 (tupD [a', b', c']) l i j t = if a' = i ∧ b' = j then l - t else if a' = j ∧ b' = i then l + t else l := rfl
    have ma' : (mvL rs ls i j t)[m]? = some (mv1 (tupD [a', b', c']) l i j t) := ma'
    rw [em] at ma'
    have S2 := S.trans (same_upd hs (o := .tup [.int l, .ref r']))
    have eF := same_upd hs (o := .tup [.int l, .ref r']) _ _ eF
    have et := upd_same (H := H') (a := s) (o := .tup [.int l, .ref r'])
    generalize upd H' s _ = H4 at *
    have hr4 := S2 _ _ hr2
    have fin : ∀ (H6 : Hp) (v : Int), Same H4 H6 → (if a' = i ∧ b' = j then l - t else if a' = j ∧ b' = i then l + t else l) = v → H6 F = some (.lst (((mvL rs ls i j t).take m).map V.int)) ∧ Same H (upd H6 F (.lst (((mvL rs ls i j t).take m).map V.int ++ [.int v]))) ∧ (upd H6 F (.lst (((mvL rs ls i j t).take m).map V.int ++ [.int v]))) F = some (.lst (((mvL rs ls i j t).take (m + 1)).map V.int)) := by
      intro H6 v S6 e
      refine ⟨S6 _ _ eF, fun z o e => by rw [upd_ne (ne_of_none e hF)]; exact S6 _ _ (S2 _ _ e), ?_⟩
      rw [upd_same, List.take_add_one, ma', e, List.map_append]
      rfl
    have sz : (((mvL rs ls i j t).take m).map V.int).length < sizeLine := by rw [sizeLine_eq, List.length_map, List.length_take]; omega
    walk_at "xs"
    intro q1 hq1
    have S3 := same_upd hq1 (o := .tup [.int a', .int b'])
    have e1 : upd H4 q1 (.tup [.int a', .int b']) q1 = some (.tup ([a', b'].map V.int)) := upd_same
    generalize upd H4 q1 _ = H5 at *
    walk_at "xs"
    intro q2 hq2
    have S4 := same_upd hq2 (o := .tup [.int i, .int j])
    have e2 : upd H5 q2 (.tup [.int i, .int j]) q2 = some (.tup ([i, j].map V.int)) := upd_same
    have e1 := S4 _ _ e1
    generalize upd H5 q2 _ = H6 at *
    refine x_eqTup e1 e2 ?_
    walk_at "xs"
    refine x_ite (fun h => ?_) (fun h => ?_)
    · simp only [List.cons.injEq, and_true] at h
      obtain ⟨f1, f2, f3⟩ := fin H6 (l - t) (S3.trans S4) (by rw [if_pos h])
      walk_at "xs"
      refine x_app f1 sz ?_
      walk_at "xs"
      exact ⟨_, _, _, _, rfl, f2, f3⟩
    · walk_at "xs"
      intro q3 hq3
      have S5 := same_upd hq3 (o := .tup [.int a', .int b'])
      have e3 : upd H6 q3 (.tup [.int a', .int b']) q3 = some (.tup ([a', b'].map V.int)) := upd_same
      generalize upd H6 q3 _ = H7 at *
      walk_at "xs"
      intro q4 hq4
      have S6 := same_upd hq4 (o := .tup [.int j, .int i])
      have e4 : upd H7 q4 (.tup [.int j, .int i]) q4 = some (.tup ([j, i].map V.int)) := upd_same
      have e3 := S6 _ _ e3
      generalize upd H7 q4 _ = H8 at *
      refine x_eqTup e3 e4 ?_
      walk_at "xs"
      refine x_ite (fun h2 => ?_) (fun h2 => ?_)
      · simp only [List.cons.injEq, and_true] at h h2
        obtain ⟨f1, f2, f3⟩ := fin H8 (l + t) (S3.trans (S4.trans (S5.trans S6))) (by rw [if_neg h, if_pos h2])
        walk_at "xs"
        refine x_app f1 sz ?_
        walk_at "xs"
        exact ⟨_, _, _, _, rfl, f2, f3⟩
      · simp only [List.cons.injEq, and_true] at h h2
        obtain ⟨f1, f2, f3⟩ := fin H8 l (S3.trans (S4.trans (S5.trans S6))) (by rw [if_neg h, if_neg h2])
        walk_at "xs"
        refine x_app f1 sz ?_
        walk_at "xs"
        exact ⟨_, _, _, _, rfl, f2, f3⟩
  · rintro _ H' ⟨y6, y7, y8, y9, rfl, S, eF⟩
    rw [List.length_map, same, ← ml, List.take_length] at eF
    walk_at "xs"
    intro g hg
    have S1 := same_upd hg (o := .tup ((mvL rs ls i j t).map V.int))
    walk_at "xs"
    exact q _ g (S.trans S1) (S.free hg) upd_same
end

def pairIn (rs : List PyData) (i j : Int) : Prop := ∃ (k : Nat) (a b c : Int), rs[k]? = some (tupD [a, b, c]) ∧ ((i = a ∧ j = b) ∨ (i = b ∧ j = a))
theorem mvL_set {rs : List PyData} {ls : List Int} {n i j t : Int} {k : Nat} {a b c l : Int} (hb : bundlesD (.list rs) n = true) (n1 : n ≤ 10) (same : ls.length = rs.length) (hk : rs[k]? = some (tupD [a, b, c])) (m : (i = a ∧ j = b) ∨ (i = b ∧ j = a)) (hl : ls[k]? = some l) :
    mvL rs ls i j t = ls.set k (if i < j then l - t else l + t) := by
  have h : (decide ((rs.length : Int) ≤ 45) && ((rs.map fun d => bundleD d n).all id && decide ((rs.map pairD).Nodup))) = true := hb
  simp only [Bool.and_eq_true, decide_eq_true_eq] at h
  obtain ⟨_, _, nd⟩ := h
  have lk := (List.getElem?_eq_some_iff.mp hk).1
  apply List.ext_getElem?
  intro q
  by_cases hq : q < ls.length
  · obtain ⟨a', b', c', hr, a0, ab, bn, _⟩ := rows_at hb n1 (m := q) (by omega)
    have hlq : ls[q]? = some ls[q] := List.getElem?_eq_getElem hq
    rw [mvL_at hlq hr, List.getElem?_set]
    have e1 : mv1 (tupD [a', b', c']) ls[q] i j t = if a' = i ∧ b' = j then ls[q] - t else if a' = j ∧ b' = i then ls[q] + t else ls[q] := rfl
    have e1 : mv1 (.tuple [.int a', .int b', .int c']) ls[q] i j t = if a' = i ∧ b' = j then ls[q] - t else if a' = j ∧ b' = i then ls[q] + t else ls[q] := e1
    show some (mv1 (tupD [a', b', c']) ls[q] i j t) = _
    by_cases e : k = q
    · subst e
      rw [hk] at hr
      have hr : tupD [a, b, c] = tupD [a', b', c'] := Option.some.inj hr
      cases hr
      rw [if_pos rfl, if_pos (by omega)]
      rw [hlq] at hl
      cases hl
      show some (if a = i ∧ b = j then _ else _) = _
      rcases m with ⟨rfl, rfl⟩ | ⟨rfl, rfl⟩
      · rw [if_pos ⟨rfl, rfl⟩, if_pos ab]
      · rw [if_neg (by omega), if_pos ⟨rfl, rfl⟩, if_neg (by omega)]
    · rw [if_neg e, hlq]
      show some (if a' = i ∧ b' = j then _ else _) = _
      have ne : ¬ (a' = a ∧ b' = b) := by
        rintro ⟨rfl, rfl⟩
        have e1 : (rs.map pairD)[k]? = some [a', b'] := by rw [List.getElem?_map, hk]; rfl
        have e2 : (rs.map pairD)[q]? = some [a', b'] := by rw [List.getElem?_map, hr]; rfl
        exact e ((List.getElem?_inj (by rw [List.length_map]; omega) nd).mp (e1.trans e2.symm))
      obtain ⟨a3, b3, c3, hr3, _, ab3, _⟩ := rows_at hb n1 lk
      rw [hk] at hr3
      have hr3 : tupD [a, b, c] = tupD [a3, b3, c3] := Option.some.inj hr3
      cases hr3
      rw [if_neg (by omega), if_neg (by omega)]
  · rw [List.getElem?_eq_none (by rw [mvL_len same]; omega), List.getElem?_eq_none (by rw [List.length_set]; omega)]

/-! ### leads after a switch -/
theorem pair_row {rs : List PyData} {n i j : Int} {k k' : Nat} {a b c a' b' c' : Int} (hb : bundlesD (.list rs) n = true) (n1 : n ≤ 10) (hk : rs[k]? = some (tupD [a, b, c])) (hk' : rs[k']? = some (tupD [a', b', c'])) (m : (i = a ∧ j = b) ∨ (i = b ∧ j = a)) (m' : (i = a' ∧ j = b') ∨ (i = b' ∧ j = a')) : k = k' := by
  have h : (decide ((rs.length : Int) ≤ 45) && ((rs.map fun d => bundleD d n).all id && decide ((rs.map pairD).Nodup))) = true := hb
  simp only [Bool.and_eq_true, decide_eq_true_eq] at h
  obtain ⟨_, _, nd⟩ := h
  have lk := (List.getElem?_eq_some_iff.mp hk).1
  have lk' := (List.getElem?_eq_some_iff.mp hk').1
  obtain ⟨a3, b3, c3, hr3, _, ab3, _⟩ := rows_at hb n1 lk
  rw [hk] at hr3
  have hr3 : tupD [a, b, c] = tupD [a3, b3, c3] := Option.some.inj hr3
  cases hr3
  obtain ⟨a4, b4, c4, hr4, _, ab4, _⟩ := rows_at hb n1 lk'
  rw [hk'] at hr4
  have hr4 : tupD [a', b', c'] = tupD [a4, b4, c4] := Option.some.inj hr4
  cases hr4
  have e : a = a' ∧ b = b' := by omega
  have e1 : (rs.map pairD)[k]? = some [a, b] := by rw [List.getElem?_map, hk]; rfl
  have e2 : (rs.map pairD)[k']? = some [a, b] := by rw [List.getElem?_map, hk', e.1, e.2]; rfl
  exact (List.getElem?_inj (by rw [List.length_map]; exact lk) nd).mp (e1.trans e2.symm)

/-! ### a turn of runs -/
abbrev Run := Int × Int × Int
abbrev WSt := List Int × List Int
def runQ (q : Run) : PyData := .tuple [.int q.1, .int q.2.1, .int q.2.2]
def mvQ (rs : List PyData) (s : WSt) (q : Run) : WSt := (mvL rs s.1 q.1 q.2.1 q.2.2, (s.2.set q.1.toNat (s.2.getD q.1.toNat 0 - q.2.2)).set q.2.1.toNat (s.2.getD q.2.1.toNat 0 + q.2.2))
def trn (rs : List PyData) (s : WSt) (qs : List Run) : WSt := qs.foldl (mvQ rs) s
structure QIn (ds rs : List PyData) (q : Run) : Prop where
  i0 : 0 ≤ q.1
  i1 : q.1 < ds.length
  j0 : 0 ≤ q.2.1
  j1 : q.2.1 < ds.length
  p : pairIn rs q.1 q.2.1
def Rok (ds rs : List PyData) (s : WSt) (q : Run) : Prop := ∃ (k : Nat) (a b c l : Int), rs[k]? = some (tupD [a, b, c]) ∧ s.1[k]? = some l ∧ ((q.1 = a ∧ q.2.1 = b) ∨ (q.1 = b ∧ q.2.1 = a)) ∧
  (0 ≤ (if q.1 < q.2.1 then l - q.2.2 else l + q.2.2) ∧ (if q.1 < q.2.1 then l - q.2.2 else l + q.2.2) ≤ c) ∧ (ds.map floD).getD q.1.toNat 0 ≤ s.2.getD q.1.toNat 0 - q.2.2 ∧ s.2.getD q.2.1.toNat 0 + q.2.2 ≤ (ds.map ceiD).getD q.2.1.toNat 0
theorem trn_next {rs : List PyData} {s : WSt} {qs : List Run} {m : Nat} {q : Run} (h : qs[m]? = some q) : trn rs s (qs.take (m + 1)) = mvQ rs (trn rs s (qs.take m)) q := by
  unfold trn
  rw [List.take_add_one, h, List.foldl_append]
  rfl
theorem mvQ_len {rs : List PyData} {s : WSt} {q : Run} {n : Nat} (h1 : s.1.length = rs.length) (h2 : s.2.length = n) : (mvQ rs s q).1.length = rs.length ∧ (mvQ rs s q).2.length = n := by
  refine ⟨mvL_len h1, ?_⟩
  show ((s.2.set _ _).set _ _).length = n
  rw [List.length_set, List.length_set, h2]
theorem trn_len {rs : List PyData} {n : Nat} : ∀ {qs : List Run} {s : WSt}, s.1.length = rs.length → s.2.length = n → (trn rs s qs).1.length = rs.length ∧ (trn rs s qs).2.length = n
  | [], s, h1, h2 => ⟨h1, h2⟩
  | q :: qs, s, h1, h2 => trn_len (qs := qs) (mvQ_len h1 h2).1 (mvQ_len h1 h2).2
theorem x_par3 {i j l : Nat} {tr : TA} {σ : L2.St} {H : Hp} {D : Ends} (h : tr σ H fun vs H1 => ∃ u v w, vs = [u, v, w] ∧ D.nx (((σ.set i (some u)).set j (some v)).set l (some w)) H1) : tPar3 i j l tr D σ H := h
theorem x_par3v {u v w : V} {P : V → V → V → Hp → Prop} {H : Hp} (h : P u v w H) : ∃ u' v' w', [u, v, w] = [u', v', w'] ∧ P u' v' w' H := ⟨u, v, w, rfl, h⟩
theorem pair_num {ds rs : List PyData} {q : Run} (hb : bundlesD (.list rs) ds.length = true) (n1 : ds.length ≤ 10) (qi : QIn ds rs q) : ∃ (k : Nat) (a b c : Int), rs[k]? = some (tupD [a, b, c]) ∧ ((q.1 = a ∧ q.2.1 = b) ∨ (q.1 = b ∧ q.2.1 = a)) ∧ q.1 ≠ q.2.1 ∧
    valV (numsD (.list rs)) [.inl (if q.2.1 < q.1 then q.2.1 else q.1), .inl (if q.2.1 > q.1 then q.2.1 else q.1)] = some (.int (k : Nat)) := by
  obtain ⟨k0, a0, b0, c0, h0, m0⟩ := qi.p
  have lk := (List.getElem?_eq_some_iff.mp h0).1
  obtain ⟨a1, b1, c1, h1, _, ab, _⟩ := rows_at hb (by omega) lk
  rw [h0] at h1
  have h1 : tupD [a0, b0, c0] = tupD [a1, b1, c1] := Option.some.inj h1
  cases h1
  have ne : q.1 ≠ q.2.1 := by omega
  obtain ⟨v1, v2⟩ := nums_val rs a0 b0 rs.length (Nat.le_refl _)
  have e : ([.inl (if q.2.1 < q.1 then q.2.1 else q.1), .inl (if q.2.1 > q.1 then q.2.1 else q.1)] : List Key) = [.inl a0, .inl b0] := by
    rcases m0 with ⟨h, h'⟩ | ⟨h, h'⟩
    · rw [if_neg (by omega), if_pos (by omega), h, h']
    · rw [if_pos (by omega), if_neg (by omega), h, h']
  rw [e]
  cases hv : valV (nums rs rs.length) [.inl a0, .inl b0] with
  | none => exact absurd rfl (v2 hv k0 _ lk h0)
  | some w =>
    obtain ⟨k, hk, rfl, d, hd, hp⟩ := v1 w hv
    obtain ⟨a2, b2, c2, h2, _⟩ := rows_at hb (by omega) hk
    rw [hd] at h2
    have h2 : d = tupD [a2, b2, c2] := Option.some.inj h2
    subst h2
    have hp : [a2, b2] = [a0, b0] := hp
    injection hp with p1 p2
    injection p2 with p2 _
    subst p1 p2
    exact ⟨k, a2, b2, c2, hd, m0, ne, hv⟩
theorem atV {ls : List Int} {k : Nat} {l : Int} (h : ls[k]? = some l) : atI (ls.map V.int) (k : Int) = some (.int l) := atI_nat (by rw [List.getElem?_map, h]; rfl)
theorem atVi {ls : List Int} {i : Int} (h0 : 0 ≤ i) (h1 : i < ls.length) : atI (ls.map V.int) i = some (.int (ls.getD i.toNat 0)) := by
  have := atV (k := i.toNat) (ls := ls) (List.getElem?_eq_getElem (by omega))
  rw [Int.toNat_of_nonneg h0] at this
  rw [this, List.getD_eq_getElem?_getD, List.getElem?_eq_getElem (by omega)]
  rfl
def spTurn (W : Addr) : Sp := fun vs H Q _ => ∃ (x l h r : Addr) (ds rs : List PyData) (s : WSt) (qs : List Run), vs = [.ref x, .ref r] ∧ Wlk W H x l h ds rs s.1 s.2 ∧ boundsD (.list ds) = true ∧ bundlesD (.list rs) ds.length = true ∧ s.1.length = rs.length ∧ s.2.length = ds.length ∧
  Dn [l, h] H (.ref r) (.list (qs.map runQ)) ∧ (∀ q ∈ qs, QIn ds rs q) ∧
  ∀ H' v m, Ext [l, h] H H' → Wlk W H' x l h ds rs (trn rs s (qs.take m)).1 (trn rs s (qs.take m)).2 → m ≤ qs.length → (∀ i q, i < m → qs[i]? = some q → Rok ds rs (trn rs s (qs.take i)) q) →
    ((m = qs.length ∧ v = .non) ∨ (∃ q, qs[m]? = some q ∧ v = .int (m : Nat) ∧ ¬ Rok ds rs (trn rs s (qs.take m)) q)) → Q v H'
section
variable {P : Program} {w : World} {K : PySem.W.Frag} {mg : Str → Option Value} {base : Heap} {t0 t1 t2 t3 t4 : Tok} {C W : Addr}
theorem km_turn {k : Nat} (D : Dm K W "_turn" "Walk._turn" s_Walkturn) (B : Bl mg) (cw : Cw K mg W) : Km P w K mg base W "_turn" (k + 1) (spTurn W) := by
  refine km_of D (fun _ _ _ _ _ _ us hl => match us, hl with | [_, _], _ => rfl) sc_Walkturn (fun vs H Q E h => by obtain ⟨x, l, h, r, ds, rs, s, qs, rfl, _⟩ := h; rfl) (fun f cd B' fr z H vs Q E hr gd h => ?_)
  obtain ⟨x, l, h, r, ds, rs, s, qs, rfl, wk, b1, b2, l1, l2, hq, qin, q⟩ := h
  have c_Walk := cw.ck
  refine ⟨_, (pss_cons (ps_par3 (i := 2) (j := 3) (l := 4) (by rfl) sc_Walkturn.nd rfl rfl rfl (by decide) (by decide) (by decide) rfl rfl rfl (pa_cons (pe_fld (pv 0) (by rfl)) (pa_cons (pe_fld (pv 0) (by rfl)) (pa_cons (pe_fld (pv 0) (by rfl)) pa_nil))) (by rfl))
  (pss_cons (ps_par3 (i := 5) (j := 6) (l := 7) (by rfl) sc_Walkturn.nd rfl rfl rfl (by decide) (by decide) (by decide) rfl rfl rfl (pa_cons (pe_fld (pv 0) (by rfl)) (pa_cons (pe_fld (pv 0) (by rfl)) (pa_cons (pe_fld (pv 0) (by rfl)) pa_nil))) (by rfl))
  (pss_cons (ps_for PassesOwn.never rfl (pi_enum (by rfl) B.enumerate (pa_cons (pv 1) pa_nil)) (pg_tup (by rfl) (pgs_cons (pg_name (i := 8) sc_Walkturn.nd rfl (.inl rfl)) (pgs_cons (pg_tup (by rfl) (pgs_cons (pg_name (i := 9) sc_Walkturn.nd rfl (.inl rfl)) (pgs_cons (pg_name (i := 10) sc_Walkturn.nd rfl (.inl rfl)) (pgs_cons (pg_name (i := 11) sc_Walkturn.nd rfl (.inl rfl)) pgs_nil)))) pgs_nil)))
  (pss_cons (ps_set (i := 12) sc_Walkturn.nd rfl (.inl rfl) (pe_dget (units1 (by exact hr.units)) (pv 4) (pe_tup (pa_cons (pv 9) (pa_cons (pv 10) pa_nil))) (fun _ _ => rfl)))
  (pss_cons (ps_set (i := 13) sc_Walkturn.nd rfl (.inl rfl) (pe_ifExp (pt_cmpR op_lt (pv 9) (pv 10) (nomark _)) (pe_op op_sub (pe_ix (r := rIxL K) ix_list (pv 2) (pv 12) (fun _ _ => rfl)) (pv 11)) (pe_op op_add (pe_ix (r := rIxL K) ix_list (pv 2) (pv 12) (fun _ _ => rfl)) (pv 11))))
  (pss_cons (ps_par (i := 14) (j := 15) (by rfl) sc_Walkturn.nd rfl rfl (by decide) rfl rfl (pa_cons (pe_op op_sub (pe_ix (r := rIxL K) ix_list (pv 3) (pv 9) (fun _ _ => rfl)) (pv 11)) (pa_cons (pe_op op_add (pe_ix (r := rIxL K) ix_list (pv 3) (pv 10) (fun _ _ => rfl)) (pv 11)) pa_nil)) (by rfl))
  (pss_cons (ps_if (PW.pt (pw_or (pt_not (pt_chain op_le op_le pe_int (pv 13) (pe_ix (r := rIxL K) ix_list (pv 5) (pv 12) (fun _ _ => rfl)))) (pw_or (pt_cmpR op_lt (pv 14) (pe_ix (r := rIxL K) ix_list (pv 6) (pv 9) (fun _ _ => rfl)) (nomark _)) (pw_or1 (pt_cmpR op_gt (pv 15) (pe_ix (r := rIxL K) ix_list (pv 7) (pv 10) (fun _ _ => rfl)) (nomark _)))))) (pss_one (ps_ret (pv 8))) pss_nil)
  (pss_cons (ps_asg (pv 13) (pg_sub (pv 2) (pv 12) set_list))
  (pss_cons (ps_asg (pv 14) (pg_sub (pv 3) (pv 9) set_list))
  (pss_one (ps_asg (pv 15) (pg_sub (pv 3) (pv 10) set_list))))))))))
  (pss_one (ps_ret pe_non))))), ?_⟩
  have n10 := bounds_len b1
  obtain ⟨dx, fs, c', p, pa, fl, ce, kvs, e1, ff, e2, e3, e4, e5, e6, e7, e8, n1, n2, n3, n4, n5, n6, n7⟩ := wk.ex
  walk_at "xs"
  refine x_par3 ?_
  walk_at "xs"
  refine x_gAt e1 cw.ck.cls cw.le ff.le ?_
  walk_at "xs"
  refine x_gAt e1 cw.ck.cls cw.lo ff.lo ?_
  walk_at "xs"
  refine x_gAt e1 cw.ck.cls cw.pr ff.pr ?_
  walk_at "xs"
  refine ⟨_, _, _, rfl, ?_⟩
  walk_at "xs"
  refine x_par3 ?_
  walk_at "xs"
  refine x_gAt e1 cw.ck.cls cw.pt ff.pt ?_
  walk_at "xs"
  refine x_gAt e1 cw.ck.cls cw.fl ff.fl ?_
  walk_at "xs"
  refine x_gAt e1 cw.ck.cls cw.ce ff.ce ?_
  walk_at "xs"
  refine ⟨_, _, _, rfl, ?_⟩
  cases hq with
  | @lst _ rxs _ er nr AR =>
  have lR := AR.length
  rw [List.length_map] at lR
  have nxl : x ≠ l := fun e => by rw [e, e2] at e1; cases e1
  have nxh : x ≠ h := fun e => by rw [e, e3] at e1; cases e1
  have npl : p ≠ l := fun e => by rw [e, e2] at e4; cases e4
  have nph : p ≠ h := fun e => by rw [e, e3] at e4; cases e4
  have out : ∀ a, a ≠ l → a ≠ h → a ∉ [l, h] := fun a h1 h2 m => by
    simp only [List.mem_cons, List.not_mem_nil, or_false] at m
    rcases m with rfl | rfl
    · exact h1 rfl
    · exact h2 rfl
  walk_at "xs"
  refine for_enum (K := K) (a := r) (xs := rxs) (fun m σ' H' => ∃ (y8 y9 y10 y11 y12 y13 y14 y15 : Option V), σ' = [some (.ref x), some (.ref r), some (.ref l), some (.ref h), some (.ref p), some (.ref pa), some (.ref fl), some (.ref ce), y8, y9, y10, y11, y12, y13, y14, y15] ∧ Ext [l, h] H H' ∧ H' l = some (.lst ((trn rs s (qs.take m)).1.map V.int)) ∧ H' h = some (.lst ((trn rs s (qs.take m)).2.map V.int)) ∧ ∀ i q, i < m → qs[i]? = some q → Rok ds rs (trn rs s (qs.take i)) q) ?_ ?_ ?_ ?_
  · exact ⟨_, _, _, _, _, _, _, _, rfl, Ext.refl _ _, e2, e3, fun i q h => absurd h (Nat.not_lt_zero _)⟩
  · rintro m _ H' _ ⟨_, _, _, _, _, _, _, _, _, E, _⟩
    exact SqL.of (E _ _ nr er)
  · rintro m v t _ H' hv ⟨y8, y9, y10, y11, y12, y13, y14, y15, rfl, E, el, eh, ok⟩ ht
    obtain ⟨dR, hdR, dnR⟩ := AR.get hv
    rw [List.getElem?_map] at hdR
    cases hq0 : qs[m]? with
    | none => rw [hq0] at hdR; cases hdR
    | some q0 =>
    rw [hq0] at hdR
    cases hdR
    have qi := qin _ (List.mem_of_getElem? hq0)
    obtain ⟨r', rfl, nr', hr'⟩ := Dn.tup3 (a := q0.1) (b := q0.2.1) (c := q0.2.2) (dnR.ext E)
    have hm := (List.getElem?_eq_some_iff.mp hq0).1
    obtain ⟨ln1, ln2⟩ := trn_len (qs := qs.take m) l1 l2
    have tn := trn_next (rs := rs) (s := s) hq0
    generalize hs0 : trn rs s (qs.take m) = s0 at *
    have St := same_upd ht (o := .tup [.int (m : Nat), .ref r'])
    have nl := ne_of_none2 ht el
    have nh := ne_of_none2 ht eh
    have EE := E.trans (Ext.same St)
    have el := St _ _ el
    have eh := St _ _ eh
    have hr' := St _ _ hr'
    have et := upd_same (H := H') (a := t) (o := .tup [.int (m : Nat), .ref r'])
    generalize upd H' t _ = H1 at *
    have e4' := EE _ _ (out _ npl nph) e4
    have e6' := EE _ _ (out _ n2 n3) e6
    have e7' := EE _ _ (out _ n4 n5) e7
    have e8' := EE _ _ (out _ n6 n7) e8
    obtain ⟨kk, a, b, c, hrow, hab, nij, hval⟩ := pair_num b2 n10 qi
    have hk := (List.getElem?_eq_some_iff.mp hrow).1
    walk_at "xs"
    intro p1 hp1
    refine ⟨p, .int (kk : Nat), rfl, ?_, ?_⟩
    · have g := DGet.t (k := [.inl q0.1, .inl q0.2.1]) (same_upd hp1 (o := .tup [.int q0.1, .int q0.2.1]) _ _ e4') upd_same
      rw [e5, hval] at g
      exact g
    have S2 := same_upd hp1 (o := .tup [.int q0.1, .int q0.2.1])
    have E2 := EE.trans (Ext.same S2)
    have el := S2 _ _ el
    have eh := S2 _ _ eh
    have e6' := S2 _ _ e6'
    have e7' := S2 _ _ e7'
    have e8' := S2 _ _ e8'
    clear e4' hr' et
    generalize upd H1 p1 _ = H2 at *
    have hl0 : s0.1[kk]? = some s0.1[kk] := List.getElem?_eq_getElem (by omega)
    generalize s0.1[kk] = l0 at *
    have atl := atV hl0
    have hi := atVi (ls := s0.2) qi.i0 (by rw [ln2]; exact qi.i1)
    have hj := atVi (ls := s0.2) qi.j0 (by rw [ln2]; exact qi.j1)
    have hfl := atVi (ls := ds.map floD) qi.i0 (by rw [List.length_map]; exact qi.i1)
    have hce := atVi (ls := ds.map ceiD) qi.j0 (by rw [List.length_map]; exact qi.j1)
    have hpa := atV (ls := rs.map cntD) (k := kk) (l := c) (by rw [List.getElem?_map, hrow]; rfl)
    have rok : Rok ds rs s0 q0 ↔ (0 ≤ (if q0.1 < q0.2.1 then l0 - q0.2.2 else l0 + q0.2.2) ∧ (if q0.1 < q0.2.1 then l0 - q0.2.2 else l0 + q0.2.2) ≤ c) ∧ (ds.map floD).getD q0.1.toNat 0 ≤ s0.2.getD q0.1.toNat 0 - q0.2.2 ∧ s0.2.getD q0.2.1.toNat 0 + q0.2.2 ≤ (ds.map ceiD).getD q0.2.1.toNat 0 := by
      constructor
      · rintro ⟨k', a', b', c', l', h1, h2, h3, h4⟩
        obtain rfl := pair_row b2 (by omega) hrow h1 hab h3
        rw [hrow] at h1
        have h1 : tupD [a, b, c] = tupD [a', b', c'] := Option.some.inj h1
        cases h1
        rw [hl0] at h2
        cases h2
        exact h4
      · exact fun h => ⟨kk, a, b, c, l0, hrow, hl0, hab, h⟩
    have mvq : mvQ rs s0 q0 = (s0.1.set kk (if q0.1 < q0.2.1 then l0 - q0.2.2 else l0 + q0.2.2), (s0.2.set q0.1.toNat (s0.2.getD q0.1.toNat 0 - q0.2.2)).set q0.2.1.toNat (s0.2.getD q0.2.1.toNat 0 + q0.2.2)) := by
      unfold mvQ
      rw [mvL_set b2 (by omega) ln1 hrow hab hl0]
    have bad : ¬ Rok ds rs s0 q0 → Q (.int (m : Nat)) H2 := fun nr => q H2 _ m E2 (by rw [hs0]; exact ⟨dx, fs, c', p, pa, fl, ce, kvs, E2 _ _ (out _ nxl nxh) e1, ff, el, eh, E2 _ _ (out _ npl nph) e4, e5, e6', e7', e8', n1, n2, n3, n4, n5, n6, n7⟩) (by omega) ok (.inr ⟨q0, hq0, rfl, by rw [hs0]; exact nr⟩)
    walk_at "xs"
    refine x_ite (fun c1 => ?ka) (fun c1 => ?kb)
    case' ka =>
      walk_at "xs"
      refine x_ixL (SqL.of el) atl ?_
      have hn : (if q0.1 < q0.2.1 then l0 - q0.2.2 else l0 + q0.2.2) = l0 - q0.2.2 := if_pos c1
      walk_at "xs"
      rw [← hn]
    case' kb =>
      walk_at "xs"
      refine x_ixL (SqL.of el) atl ?_
      have hn : (if q0.1 < q0.2.1 then l0 - q0.2.2 else l0 + q0.2.2) = l0 + q0.2.2 := if_neg c1
      walk_at "xs"
      rw [← hn]
    all_goals
      clear hn
      generalize (if q0.1 < q0.2.1 then l0 - q0.2.2 else l0 + q0.2.2) = num at *
      refine x_ixL (SqL.of eh) hi ?_
      walk_at "xs"
      refine x_ixL (SqL.of eh) hj ?_
      walk_at "xs"
      refine x_ite (fun d1 => ?_) (fun d1 => ?_)
      · walk_at "xs"
        refine x_ixL (SqL.of e6') hpa ?_
        walk_at "xs"
        refine x_iteN (fun d2 => ?_) (fun d2 => ?_)
        · walk_at "xs"
          exact bad (fun h => d2 (rok.mp h).1.2)
        walk_at "xs"
        refine x_ixL (SqL.of e7') hfl ?_
        walk_at "xs"
        refine x_ite (fun d3 => ?_) (fun d3 => ?_)
        · walk_at "xs"
          exact bad (fun h => by have := (rok.mp h).2.1; omega)
        walk_at "xs"
        refine x_ixL (SqL.of e8') hce ?_
        walk_at "xs"
        refine x_ite (fun d4 => ?_) (fun d4 => ?_)
        · walk_at "xs"
          exact bad (fun h => by have := (rok.mp h).2.2; omega)
        have rk : Rok ds rs s0 q0 := rok.mpr ⟨⟨d1, d2⟩, by omega, by omega⟩
        clear bad
        walk_at "xs"
        refine x_setL el (ixN_of (by omega) (by rw [List.length_map]; omega)) ?_
        rw [Int.toNat_natCast, set_map]
        have X1 : Ext [l, h] H2 (upd H2 l (.lst ((s0.1.set kk num).map V.int))) := Ext.upd (by simp)
        have el5 := upd_same (H := H2) (a := l) (o := .lst ((s0.1.set kk num).map V.int))
        have eh5 : (upd H2 l (.lst ((s0.1.set kk num).map V.int))) h = some (.lst (s0.2.map V.int)) := by rw [upd_ne n1.symm]; exact eh
        have E5 := E2.trans X1
        clear X1 el eh
        generalize upd H2 l _ = H5 at *
        walk_at "xs"
        refine x_setL eh5 (ixN_of qi.i0 (by rw [List.length_map, ln2]; exact qi.i1)) ?_
        rw [set_map]
        have X2 : Ext [l, h] H5 (upd H5 h (.lst ((s0.2.set q0.1.toNat (s0.2.getD q0.1.toNat 0 - q0.2.2)).map V.int))) := Ext.upd (by simp)
        have eh6 := upd_same (H := H5) (a := h) (o := .lst ((s0.2.set q0.1.toNat (s0.2.getD q0.1.toNat 0 - q0.2.2)).map V.int))
        have el6 : (upd H5 h (.lst ((s0.2.set q0.1.toNat (s0.2.getD q0.1.toNat 0 - q0.2.2)).map V.int))) l = some (.lst ((s0.1.set kk num).map V.int)) := by rw [upd_ne n1]; exact el5
        have E6 := E5.trans X2
        clear X2 el5 eh5
        generalize upd H5 h _ = H6 at *
        walk_at "xs"
        refine x_setL eh6 (ixN_of qi.j0 (by rw [List.length_map, List.length_set, ln2]; exact qi.j1)) ?_
        rw [set_map]
        walk_at "xs"
        refine ⟨_, _, _, _, _, _, _, _, rfl, E6.trans (Ext.upd (by simp)), ?_, ?_, fun i q' hi' hq' => ?_⟩
        · rw [upd_ne n1, tn, mvq]; exact el6
        · rw [upd_same, tn, mvq]
        · by_cases e : i = m
          · subst e
            rw [hq0] at hq'
            cases hq'
            rw [hs0]; exact rk
          · exact ok i q' (by omega) hq'
      · walk_at "xs"
        exact bad (fun h => d1 (rok.mp h).1.1)
  · rintro _ H' ⟨_, _, _, _, _, _, _, _, rfl, E, el, eh, ok⟩
    walk_at "xs"
    rw [lR] at el eh ok
    exact q H' .non qs.length E ⟨dx, fs, c', p, pa, fl, ce, kvs, E _ _ (out _ nxl nxh) e1, ff, el, eh, E _ _ (out _ npl nph) e4, e5, E _ _ (out _ n2 n3) e6, E _ _ (out _ n4 n5) e7, E _ _ (out _ n6 n7) e8, n1, n2, n3, n4, n5, n6, n7⟩ (Nat.le_refl _) ok (.inl ⟨rfl, rfl⟩)
end
theorem shaped_ints (ms : List Int) : SeqAt.shaped (.list (ms.map PyData.int)) = true := by
  obtain ⟨a, b, _⟩ := ints_facts ms
  simp [SeqAt.shaped, PyData.canLay0, a, PyData.depth, b]
theorem shows_ints {ms : List Int} (h : ∀ m ∈ ms, m.natAbs < 2 ^ 200) (n : ms.length ≤ 100) : Shows (.list (ms.map PyData.int)) := by
  have := sz_list (p := 201) (q := 0) (ds := ms.map PyData.int) (fun d hd => by obtain ⟨m, hm, rfl⟩ := List.mem_map.mp hd; exact sz_int (h m hm))
  rw [List.length_map] at this
  exact this.shows (by omega) (by decide)

/-- a comprehension over zip of two lists -/
theorem lc_zip {K : PySem.W.Frag} {a b : Addr} {xs ys : List V} {g : TG} {tt : TT} {te : TE} {vs : List Nat} {σ : L2.St} {H1 : Hp} {D : Addr} {Qd : Hp → Prop} (Pv : Nat → Hp → Prop) (h0 : Pv 0 (upd H1 D (.lst []))) (hq : ∀ i H, Pv i H → SqL K H a xs ∧ SqL K H b ys)
    (hs : ∀ i x y T H, xs[i]? = some x → ys[i]? = some y → Pv i H → H T = none → g (.ref T) (wipe σ vs) (upd H T (.tup [x, y])) fun σ2 H2 => wipe σ2 vs = wipe σ vs ∧ tt σ2 H2 fun b H3 =>
      if b = true then te σ2 H3 fun y H4 => ∃ acc, H4 D = some (.lst acc) ∧ acc.length < sizeLine ∧ Pv (i + 1) (upd H4 D (.lst (acc ++ [y]))) else Pv (i + 1) H3) (hd : ∀ H, Pv (min xs.length ys.length) H → Qd H) :
    ∃ W : Nat → Nat → Hp → Prop, (∃ m, W 0 m (upd H1 D (.lst []))) ∧ ∀ i m H, W i m H →
      ((Itz K a b).stop i H ∧ Qd H) ∨ ((Itz K a b).go i H ∧ ∃ Nx : Hp → Prop, (∀ H', Nx H' → ∃ m', m' < m ∧ W (i + 1) m' H') ∧ ∀ x H', (Itz K a b).yld i H x H' → g x (wipe σ vs) H' fun σ2 H2 => wipe σ2 vs = wipe σ vs ∧ tt σ2 H2 fun b H3 =>
        if b = true then te σ2 H3 fun y H4 => ∃ acc, H4 D = some (.lst acc) ∧ acc.length < sizeLine ∧ Nx (upd H4 D (.lst (acc ++ [y]))) else Nx H3) := by
  refine ⟨fun i m H => m = min xs.length ys.length - i ∧ i ≤ min xs.length ys.length ∧ Pv i H, ⟨_, rfl, Nat.zero_le _, h0⟩, ?_⟩
  rintro i m H ⟨rfl, hi, p⟩
  obtain ⟨qx, qy⟩ := hq i H p
  by_cases hlt : i < min xs.length ys.length
  · have hlt1 : i < xs.length := by omega
    have hlt2 : i < ys.length := by omega
    have hx : xs[i]? = some xs[i] := List.getElem?_eq_getElem hlt1
    have hy : ys[i]? = some ys[i] := List.getElem?_eq_getElem hlt2
    refine .inr ⟨⟨xs, ys, _, _, qx, qy, hx, hy⟩, Pv (i + 1), fun H' p' => ⟨min xs.length ys.length - (i + 1), by omega, rfl, hlt, p'⟩, fun v H' y => ?_⟩
    obtain ⟨T, x', y', rfl, hT, rfl, f1, f2⟩ := y
    exact hs i x' y' T H (f1 xs qx) (f2 ys qy) p hT
  · have e : i = min xs.length ys.length := by omega
    refine .inl ⟨⟨xs, ys, qx, qy, by omega⟩, hd H (by rw [← e]; exact p)⟩

/-! ### a block: the first turn, the jump, the last turn -/
def TOk (ds rs : List PyData) (s : WSt) (qs : List Run) : Prop := ∀ i q, qs[i]? = some q → Rok ds rs (trn rs s (qs.take i)) q
def jmL (t : Int) (a b : List Int) : List Int := List.zipWith (fun x y => x + (t - 1) * (y - x)) a b
def jmp (t : Int) (s s1 : WSt) : WSt := (jmL t s.1 s1.1, jmL t s.2 s1.2)
def dn (rs : List PyData) (t : Int) (s : WSt) (qs : List Run) : WSt := if t = 1 ∨ (trn rs s qs).1 = s.1 then trn rs s qs else trn rs (jmp t s (trn rs s qs)) qs
def spNo : Sp := fun _ _ _ _ => False
def spDo (W : Addr) : Sp := fun vs H Q _ => ∃ (x l h r : Addr) (t : Int) (ds rs : List PyData) (s : WSt) (qs : List Run), vs = [.ref x, .int t, .ref r] ∧ Wlk W H x l h ds rs s.1 s.2 ∧ boundsD (.list ds) = true ∧ bundlesD (.list rs) ds.length = true ∧ s.1.length = rs.length ∧ s.2.length = ds.length ∧
  Dn [x, l, h] H (.ref r) (.list (qs.map runQ)) ∧ (∀ q ∈ qs, QIn ds rs q) ∧ 1 ≤ t ∧ t ≤ 1000000000000000000 ∧ TOk ds rs s qs ∧ (t ≠ 1 → (trn rs s qs).1 ≠ s.1 → TOk ds rs (jmp t s (trn rs s qs)) qs) ∧
  ∀ H' l' h', Ext [x, l, h] H H' → (l' = l ∨ H l' = none) → (h' = h ∨ H h' = none) → Wlk W H' x l' h' ds rs (dn rs t s qs).1 (dn rs t s qs).2 → Q .non H'
theorem jmL_len {t : Int} {a b : List Int} {n : Nat} (h1 : a.length = n) (h2 : b.length = n) : (jmL t a b).length = n := by
  unfold jmL
  rw [List.length_zipWith]
  omega
theorem freshN {N : List Addr} {H H1 : Hp} {p : Addr} (hN : ∀ m ∈ N, ∃ o, H1 m = some o) (E : Ext N H H1) (n : H1 p = none) : H p = none := by
  cases e : H p with
  | none => rfl
  | some o =>
    by_cases h : p ∈ N
    · obtain ⟨o', e'⟩ := hN p h
      rw [n] at e'; cases e'
    · rw [E _ _ h e] at n; cases n
theorem tk_all {rs : List PyData} {s : WSt} {qs : List Run} : trn rs s (qs.take qs.length) = trn rs s qs := by rw [List.take_length]
section
variable {P : Program} {w : World} {K : PySem.W.Frag} {mg : Str → Option Value} {base : Heap} {t0 t1 t2 t3 t4 : Tok} {C W : Addr}
theorem kn_no {k : Nat} (D : Df K mg "_first_stop" s__first_stop) : Kn P w K mg base "_first_stop" (k + 1) spNo := by
  exact kn_of D (fun _ _ _ _ _ _ us hl => match us, hl with | [_, _, _], _ => rfl) sc__first_stop (fun vs H Q E h => h.elim) (fun f cd B' fr z H vs Q E hr gd h => h.elim)
theorem km_do {k : Nat} (D : Dm K W "do" "Walk.do" s_Walk_do) (B : Bl mg) (cw : Cw K mg W) (m_turn : Km P w K mg base W "_turn" k (spTurn W)) (c__first_stop : Kn P w K mg base "_first_stop" k spNo) : Km P w K mg base W "do" (k + 1) (spDo W) := by
  refine km_of D (fun _ _ _ _ _ _ us hl => match us, hl with | [_, _, _], _ => rfl) sc_Walk_do (fun vs H Q E h => by obtain ⟨x, l, h, r, t, ds, rs, s, qs, rfl, _⟩ := h; rfl) (fun f cd B' fr z H vs Q E hr gd h => ?_)
  obtain ⟨x, l, h, r, t, ds, rs, s, qs, rfl, wk, b1, b2, l1, l2, hq, qin, tt1, tt2, ok1, ok2, q⟩ := h
  have c_Walk := cw.ck
  refine ⟨_, (pss_cons (ps_par (i := 3) (j := 4) (by rfl) sc_Walk_do.nd rfl rfl (by decide) rfl rfl (pa_cons (pe_callTy call_list_of (by rfl) B.«list» (by decide +kernel) (pa_cons (pe_fld (pv 0) (by rfl)) pa_nil)) (pa_cons (pe_callTy call_list_of (by rfl) B.«list» (by decide +kernel) (pa_cons (pe_fld (pv 0) (by rfl)) pa_nil)) pa_nil)) (by rfl))
  (pss_cons (ps_set (i := 5) sc_Walk_do.nd rfl (.inl rfl) (pe_ownM (pv 0) c_Walk.cls m_turn hr gd (pa_cons (pv 2) pa_nil)))
  (pss_cons (ps_if (pt_cmpR op_notN (pv 5) pe_non (nomark _)) (pss_one (ps_ret (pe_tup (pa_cons pe_int (pa_cons (pv 5) pa_nil))))) pss_nil)
  (pss_cons (ps_if (PW.pt (pw_or (pt_cmpR op_eq (pv 1) pe_int (nomark _)) (pw_or1 (pt_cmpR (op_eqD hr.units) (pe_fld (pv 0) (by rfl)) (pv 3) (nomark _))))) (pss_one (ps_ret pe_non)) pss_nil)
  (pss_cons (ps_fld (pv 0) (pe_lc (own := [("before", 6), ("now", 7)]) rfl sc_Walk_do.nd (pi_zip (by rfl) B.zip (pa_cons (pv 3) (pa_cons (pe_fld (pv 0) (by rfl)) pa_nil))) (blkOk_by (N := ["self", "turns", "runs", "leads", "have", "run", "before", "now"]) (sc := defScope s_Walk_do) (by decide +kernel)) (fun _ _ _ _ _ => (pg_tupK K (n := 2) (pgs_cons (pg_name (i := 6) sc_Walk_do.nd rfl (.inl rfl)) (pgs_cons (pg_name (i := 7) sc_Walk_do.nd rfl (.inl rfl)) pgs_nil)))) (fun _ _ _ _ _ => pts_nil) (fun _ _ _ _ _ => (pe_op op_add (pv 6) (pe_op op_mul (pe_op op_sub (pv 1) pe_int) (pe_op op_sub (pv 7) (pv 6)))))) (by rfl))
  (pss_cons (ps_fld (pv 0) (pe_lc (own := [("before", 6), ("now", 7)]) rfl sc_Walk_do.nd (pi_zip (by rfl) B.zip (pa_cons (pv 4) (pa_cons (pe_fld (pv 0) (by rfl)) pa_nil))) (blkOk_by (N := ["self", "turns", "runs", "leads", "have", "run", "before", "now"]) (sc := defScope s_Walk_do) (by decide +kernel)) (fun _ _ _ _ _ => (pg_tupK K (n := 2) (pgs_cons (pg_name (i := 6) sc_Walk_do.nd rfl (.inl rfl)) (pgs_cons (pg_name (i := 7) sc_Walk_do.nd rfl (.inl rfl)) pgs_nil)))) (fun _ _ _ _ _ => pts_nil) (fun _ _ _ _ _ => (pe_op op_add (pv 6) (pe_op op_mul (pe_op op_sub (pv 1) pe_int) (pe_op op_sub (pv 7) (pv 6)))))) (by rfl))
  (pss_cons (ps_if (pt_cmpR op_isN (pe_ownM (pv 0) c_Walk.cls m_turn hr gd (pa_cons (pv 2) pa_nil)) pe_non (nomark _)) (pss_one (ps_ret pe_non)) pss_nil)
  (pss_one (ps_ret (pe_own c__first_stop hr gd (by rfl) (pa_cons (pe_fld (pv 0) (by rfl)) (pa_cons (pe_callTy call_tuple_of (by rfl) B.«tuple» (by decide +kernel) (pa_cons (pv 3) pa_nil)) (pa_cons (pv 2) pa_nil))))))))))))), ?_⟩
  have n10 := bounds_len b1
  have len := (bundles_len b2).1
  obtain ⟨dx, fs, c, p, pa, fl, ce, kvs, e1, ff, e2, e3, e4, e5, e6, e7, e8, n1, n2, n3, n4, n5, n6, n7⟩ := id wk.ex
  have nxl : x ≠ l := fun e => by rw [e, e2] at e1; cases e1
  have nxh : x ≠ h := fun e => by rw [e, e3] at e1; cases e1
  walk_at "xs"
  refine x_gAt e1 cw.ck.cls cw.le ff.le ?_
  walk_at "xs"
  intro a1 ha1
  have S1 := same_upd ha1 (o := .lst (s.1.map V.int))
  have ea1 := upd_same (H := H) (a := a1) (o := .lst (s.1.map V.int))
  have na1l : a1 ≠ l := ne_of_none2 ha1 e2
  have na1h : a1 ≠ h := ne_of_none2 ha1 e3
  have na1x : a1 ≠ x := ne_of_none2 ha1 e1
  have e1' := S1 _ _ e1
  have e3' := S1 _ _ e3
  generalize upd H a1 _ = H1 at *
  walk_at "xs"
  refine x_gAt e1' cw.ck.cls cw.lo ff.lo ?_
  walk_at "xs"
  intro a2 ha2
  have S2 := same_upd ha2 (o := .lst (s.2.map V.int))
  have ea2 := upd_same (H := H1) (a := a2) (o := .lst (s.2.map V.int))
  have na2l : a2 ≠ l := ne_of_none2 ha2 (S1 _ _ e2)
  have na2h : a2 ≠ h := ne_of_none2 ha2 e3'
  have na2x : a2 ≠ x := ne_of_none2 ha2 e1'
  have ea1 := S2 _ _ ea1
  have e1' := S2 _ _ e1'
  have S12 := S1.trans S2
  clear e3'
  generalize upd H1 a2 _ = H2 at *
  walk_at "xs"
  refine x_mAt e1' ff.t ?_
  walk_at "xs"
  refine ⟨x, l, h, r, ds, rs, s, qs, rfl, wk.same S12, b1, b2, l1, l2, (hq.ext (Ext.same S12)).sub (fun a m => List.mem_cons_of_mem _ m), qin, ?_⟩
  intro H3 v m E3 wk3 le ok fin
  obtain ⟨rfl, rfl⟩ : m = qs.length ∧ v = .non := by
    rcases fin with h | ⟨q0, hq0, _, no⟩
    · exact h
    · exact absurd (ok1 _ _ hq0) no
  rw [tk_all] at wk3
  have ea1 := E3 _ _ (by simp [na1l, na1h]) ea1
  have ea2 := E3 _ _ (by simp [na2l, na2h]) ea2
  have E03 : Ext [x, l, h] H H3 := (Ext.same S12).trans (E3.mono (fun a m => List.mem_cons_of_mem _ m))
  obtain ⟨lt1, lt2⟩ := trn_len (qs := qs) l1 l2
  obtain ⟨dx3, fs3, c3, p3, pa3, fl3, ce3, kvs3, g1, gf, g2, g3, g4, g5, g6, g7, g8, _, m2, m3, m4, m5, m6, m7⟩ := id wk3.ex
  walk_at "xs"
  refine ⟨rfl, _, rfl, ?_⟩
  refine x_iteN (fun h => absurd rfl h) (fun _ => ?_)
  walk_at "xs"
  refine x_ite (fun t1 => ?_) (fun t1 => ?_)
  · walk_at "xs"
    have e : dn rs t s qs = trn rs s qs := if_pos (.inl t1)
    exact q H3 l h E03 (.inl rfl) (.inl rfl) (by rw [e]; exact wk3)
  walk_at "xs"
  refine x_gAt g1 cw.ck.cls cw.le gf.le ?_
  walk_at "xs"
  refine x_eqDn (M := []) (N := []) (.lst g2 (by simp) (DnAll.ints _)) (.lst ea1 (by simp) (DnAll.ints _)) (shaped_ints _) (shaped_ints _) ?_
  rw [show PyData.eqv (.list ((trn rs s qs).1.map PyData.int)) (.list (s.1.map PyData.int)) = decide ((trn rs s qs).1 = s.1) from eqvAll_ints _ _]
  refine ⟨_, rfl, ?_⟩
  refine x_ite (fun t2 => ?_) (fun t2 => ?_)
  · walk_at "xs"
    have e : dn rs t s qs = trn rs s qs := if_pos (.inr t2)
    exact q H3 l h E03 (.inl rfl) (.inl rfl) (by rw [e]; exact wk3)
  walk_at "xs"
  refine x_gAt g1 cw.ck.cls cw.le gf.le ?_
  walk_at "xs"
  have jl1 : (jmL t s.1 (trn rs s qs).1).length = rs.length := jmL_len l1 lt1
  have jl2 : (jmL t s.2 (trn rs s qs).2).length = ds.length := jmL_len l2 lt2
  intro L1 hL1
  refine lc_zip (K := K) (a := a1) (b := l) (xs := s.1.map V.int) (ys := (trn rs s qs).1.map V.int) (fun j H' => Same H3 H' ∧ H' L1 = some (.lst (((jmL t s.1 (trn rs s qs).1).take j).map V.int))) ?_ ?_ ?_ ?_
  · exact ⟨same_upd hL1, upd_same⟩
  · rintro j H' ⟨S, _⟩
    exact ⟨SqL.of (S _ _ ea1), SqL.of (S _ _ g2)⟩
  · rintro j xx yy T H' hx hy ⟨S, eL⟩ hT
    obtain ⟨u, hu, rfl⟩ := int_at hx
    obtain ⟨v, hv, rfl⟩ := int_at hy
    have hj := (List.getElem?_eq_some_iff.mp hu).1
    have hz : (jmL t s.1 (trn rs s qs).1)[j]? = some (u + (t - 1) * (v - u)) := by
      unfold jmL
      rw [List.getElem?_zipWith, hu, hv]
    have ST := same_upd hT (o := .tup [.int u, .int v])
    have eT := upd_same (H := H') (a := T) (o := .tup [.int u, .int v])
    have eL := ST _ _ eL
    have S2 := S.trans ST
    generalize upd H' T _ = H5 at *
    walk_at "xs"
    refine x_wiped rfl ?_
    walk_at "xs"
    refine x_acc eL (by rw [List.length_map, List.length_take, sizeLine_eq]; omega) ?_
    refine ⟨fun z o e => ?_, ?_⟩
    · rw [upd_ne (ne_of_none e hL1)]; exact S2 _ _ e
    · rw [upd_same, List.take_add_one, hz, List.map_append]; rfl
  rintro H4 ⟨S4, eL1⟩
  rw [List.length_map, List.length_map, l1, lt1, Nat.min_self, ← jl1, List.take_length] at eL1
  have live3 : ∀ m ∈ [x, l, h], ∃ o, H3 m = some o := fun m hm => by
    simp only [List.mem_cons, List.not_mem_nil, or_false] at hm
    rcases hm with rfl | rfl | rfl
    · exact ⟨_, g1⟩
    · exact ⟨_, g2⟩
    · exact ⟨_, g3⟩
  have L1x : L1 ≠ x := ne_of_none2 hL1 g1
  have L1l : L1 ≠ l := ne_of_none2 hL1 g2
  have L1h : L1 ≠ h := ne_of_none2 hL1 g3
  have L1p : L1 ≠ pa3 := ne_of_none2 hL1 g6
  have L1f : L1 ≠ fl3 := ne_of_none2 hL1 g7
  have L1c : L1 ≠ ce3 := ne_of_none2 hL1 g8
  have L1a : L1 ≠ a2 := ne_of_none2 hL1 ea2
  have L10 : H L1 = none := freshN live3 E03 hL1
  have k1 := S4 _ _ g1
  walk_at "xs"
  refine ⟨x, W, dx3, _, rfl, k1, cw.ck.cls, cw.le, by have := gf.n; omega, ?_⟩
  have X5 : Ext [x] H4 (upd H4 x (.ins W dx3 (putF "_leads" (.ref L1) fs3))) := Ext.upd (by simp)
  have k1 := upd_same (H := H4) (a := x) (o := .ins W dx3 (putF "_leads" (.ref L1) fs3))
  have gf5 := gf.leads L1
  have eL1 := X5 _ _ (by simp [L1x]) eL1
  have np3 : p3 ≠ x := fun e => by rw [e, g1] at g4; cases g4
  have npa3 : pa3 ≠ x := fun e => by rw [e, g1] at g6; cases g6
  have nfl3 : fl3 ≠ x := fun e => by rw [e, g1] at g7; cases g7
  have nce3 : ce3 ≠ x := fun e => by rw [e, g1] at g8; cases g8
  have g3 := X5 _ _ (by simp [nxh.symm]) (S4 _ _ g3)
  have g4 := X5 _ _ (by simp [np3]) (S4 _ _ g4)
  have g6 := X5 _ _ (by simp [npa3]) (S4 _ _ g6)
  have g7 := X5 _ _ (by simp [nfl3]) (S4 _ _ g7)
  have g8 := X5 _ _ (by simp [nce3]) (S4 _ _ g8)
  have ea2 := X5 _ _ (by simp [na2x]) (S4 _ _ ea2)
  have E05 : Ext [x, l, h] H (upd H4 x (.ins W dx3 (putF "_leads" (.ref L1) fs3))) := (E03.trans (Ext.same S4)).trans (X5.mono (by simp))
  have live5 : ∀ m ∈ [x, l, h], ∃ o, (upd H4 x (.ins W dx3 (putF "_leads" (.ref L1) fs3))) m = some o := fun m hm => by
    by_cases e : m = x
    · rw [e]; exact ⟨_, k1⟩
    · obtain ⟨o, ho⟩ := live3 m hm
      exact ⟨o, X5 _ _ (by simpa using e) (S4 _ _ ho)⟩
  clear X5 S4 hL1 g1 g2 ea1 wk3 live3
  generalize upd H4 x _ = H5 at *
  walk_at "xs"
  refine x_gAt k1 cw.ck.cls cw.lo gf5.lo ?_
  walk_at "xs"
  intro L2 hL2
  refine lc_zip (K := K) (a := a2) (b := h) (xs := s.2.map V.int) (ys := (trn rs s qs).2.map V.int) (fun j H' => Same H5 H' ∧ H' L2 = some (.lst (((jmL t s.2 (trn rs s qs).2).take j).map V.int))) ?_ ?_ ?_ ?_
  · exact ⟨same_upd hL2, upd_same⟩
  · rintro j H' ⟨S, _⟩
    exact ⟨SqL.of (S _ _ ea2), SqL.of (S _ _ g3)⟩
  · rintro j xx yy T H' hx hy ⟨S, eL⟩ hT
    obtain ⟨u, hu, rfl⟩ := int_at hx
    obtain ⟨v, hv, rfl⟩ := int_at hy
    have hj := (List.getElem?_eq_some_iff.mp hu).1
    have hz : (jmL t s.2 (trn rs s qs).2)[j]? = some (u + (t - 1) * (v - u)) := by
      unfold jmL
      rw [List.getElem?_zipWith, hu, hv]
    have ST := same_upd hT (o := .tup [.int u, .int v])
    have eT := upd_same (H := H') (a := T) (o := .tup [.int u, .int v])
    have eL := ST _ _ eL
    have S2 := S.trans ST
    generalize upd H' T _ = H6 at *
    walk_at "xs"
    refine x_wiped rfl ?_
    walk_at "xs"
    refine x_acc eL (by rw [List.length_map, List.length_take, sizeLine_eq]; omega) ?_
    refine ⟨fun z o e => ?_, ?_⟩
    · rw [upd_ne (ne_of_none e hL2)]; exact S2 _ _ e
    · rw [upd_same, List.take_add_one, hz, List.map_append]; rfl
  rintro H6 ⟨S6, eL2⟩
  rw [List.length_map, List.length_map, l2, lt2, Nat.min_self, ← jl2, List.take_length] at eL2
  have L2x : L2 ≠ x := ne_of_none2 hL2 k1
  have L2p : L2 ≠ pa3 := ne_of_none2 hL2 g6
  have L2f : L2 ≠ fl3 := ne_of_none2 hL2 g7
  have L2c : L2 ≠ ce3 := ne_of_none2 hL2 g8
  have L2L : L2 ≠ L1 := ne_of_none2 hL2 eL1
  have L20 : H L2 = none := freshN live5 E05 hL2
  have k2 := S6 _ _ k1
  walk_at "xs"
  refine ⟨x, W, dx3, _, rfl, k2, cw.ck.cls, cw.lo, by have := gf5.n; omega, ?_⟩
  have X7 : Ext [x] H6 (upd H6 x (.ins W dx3 (putF "_loads" (.ref L2) (putF "_leads" (.ref L1) fs3)))) := Ext.upd (by simp)
  have k2 := upd_same (H := H6) (a := x) (o := .ins W dx3 (putF "_loads" (.ref L2) (putF "_leads" (.ref L1) fs3)))
  have gf7 := gf5.loads L2
  have wk7 : Wlk W (upd H6 x (.ins W dx3 (putF "_loads" (.ref L2) (putF "_leads" (.ref L1) fs3)))) x L1 L2 ds rs (jmp t s (trn rs s qs)).1 (jmp t s (trn rs s qs)).2 :=
    ⟨dx3, _, c3, p3, pa3, fl3, ce3, kvs3, k2, gf7, X7 _ _ (by simp [L1x]) (S6 _ _ eL1), X7 _ _ (by simp [L2x]) eL2, X7 _ _ (by simp [np3]) (S6 _ _ g4), g5, X7 _ _ (by simp [npa3]) (S6 _ _ g6), X7 _ _ (by simp [nfl3]) (S6 _ _ g7), X7 _ _ (by simp [nce3]) (S6 _ _ g8), L2L.symm, L1p.symm, L2p.symm, L1f.symm, L2f.symm, L1c.symm, L2c.symm⟩
  have E07 : Ext [x, l, h] H (upd H6 x (.ins W dx3 (putF "_loads" (.ref L2) (putF "_leads" (.ref L1) fs3)))) := (E05.trans (Ext.same S6)).trans (X7.mono (by simp))
  clear X7 S6 hL2 k1 g3 g4 g6 g7 g8 ea2 live5 eL1 eL2
  generalize upd H6 x _ = H7 at *
  have hq7 : Dn [L1, L2] H7 (.ref r) (.list (qs.map runQ)) := (((hq.more L20).more L10).ext (E07.mono (by intro a m; exact List.mem_cons_of_mem _ (List.mem_cons_of_mem _ m)))).sub (by
    intro a m
    simp only [List.mem_cons, List.not_mem_nil, or_false] at m ⊢
    rcases m with rfl | rfl <;> simp)
  walk_at "xs"
  refine x_mAt k2 gf7.t ?_
  walk_at "xs"
  refine ⟨x, L1, L2, r, ds, rs, jmp t s (trn rs s qs), qs, rfl, wk7, b1, b2, jl1, jl2, hq7, qin, ?_⟩
  intro H8 v m E8 wk8 le8 ok8 fin8
  obtain ⟨rfl, rfl⟩ : m = qs.length ∧ v = .non := by
    rcases fin8 with h | ⟨q0, hq0, _, no⟩
    · exact h
    · exact absurd (ok2 t1 t2 _ _ hq0) no
  rw [tk_all] at wk8
  have e : dn rs t s qs = trn rs (jmp t s (trn rs s qs)) qs := if_neg (fun h => h.elim t1 t2)
  have E08 : Ext [x, l, h] H H8 := fun z o n hz => E8 _ _ (by
    intro m
    simp only [List.mem_cons, List.not_mem_nil, or_false] at m
    rcases m with rfl | rfl
    · rw [L10] at hz; cases hz
    · rw [L20] at hz; cases hz) (E07 _ _ n hz)
  walk_at "xs"
  refine ⟨rfl, _, rfl, ?_⟩
  refine x_ite (fun _ => ?_) (fun h => absurd rfl h)
  walk_at "xs"
  exact q H8 L1 L2 E08 (.inr L10) (.inr L20) (by rw [e]; exact wk8)
end
theorem Clu.more {C : Addr} {M : List Addr} {H : Hp} {x p : Addr} {d1 d2 : PyData} (hp : H p = none) (c : Clu C M H x d1 d2) : Clu C (p :: M) H x d1 d2 := by
  obtain ⟨dx, B, U, N, kvs, h1, h2, h3, h4, h5, h6, h7⟩ := c
  have nm : ∀ q o, q ∉ M → H q = some o → q ∉ p :: M := fun q o h e m => by
    rcases List.mem_cons.mp m with rfl | m
    · rw [hp] at e; cases e
    · exact h m
  exact ⟨dx, B, U, N, kvs, h1, nm _ _ h2 h1, h3.more hp, h4.more hp, h5, nm _ _ h6 h5, h7⟩
theorem Clu.sub {C : Addr} {M N : List Addr} {H : Hp} {x : Addr} {d1 d2 : PyData} (h : ∀ a, a ∈ N → a ∈ M) (c : Clu C M H x d1 d2) : Clu C N H x d1 d2 := by
  obtain ⟨dx, B, U, Nn, kvs, h1, h2, h3, h4, h5, h6, h7⟩ := c
  exact ⟨dx, B, U, Nn, kvs, h1, fun m => h2 (h _ m), h3.sub h, h4.sub h, h5, fun m => h6 (h _ m), h7⟩

/-! ### play, where all is legal -/
abbrev Blk := Int × List Run
def blkQ (b : Blk) : PyData := .tuple [.int b.1, .list (b.2.map runQ)]
def pln (rs : List PyData) (s : WSt) (bs : List Blk) : WSt := bs.foldl (fun s b => dn rs b.1 s b.2) s
structure BIn (ds rs : List PyData) (b : Blk) : Prop where
  t1 : 1 ≤ b.1
  t2 : b.1 ≤ 1000000000000000000
  q : ∀ q ∈ b.2, QIn ds rs q
def BOk (ds rs : List PyData) (s : WSt) (b : Blk) : Prop := TOk ds rs s b.2 ∧ (b.1 ≠ 1 → (trn rs s b.2).1 ≠ s.1 → TOk ds rs (jmp b.1 s (trn rs s b.2)) b.2)
def POk (ds rs : List PyData) (s : WSt) (bs : List Blk) : Prop := ∀ i b, bs[i]? = some b → BOk ds rs (pln rs s (bs.take i)) b
theorem pln_next {rs : List PyData} {s : WSt} {bs : List Blk} {m : Nat} {b : Blk} (h : bs[m]? = some b) : pln rs s (bs.take (m + 1)) = dn rs b.1 (pln rs s (bs.take m)) b.2 := by
  unfold pln
  rw [List.take_add_one, h, List.foldl_append]
  rfl
theorem dn_len {rs : List PyData} {n : Nat} {t : Int} {s : WSt} {qs : List Run} (h1 : s.1.length = rs.length) (h2 : s.2.length = n) : (dn rs t s qs).1.length = rs.length ∧ (dn rs t s qs).2.length = n := by
  obtain ⟨g1, g2⟩ := trn_len (qs := qs) h1 h2
  unfold dn
  split
  · exact ⟨g1, g2⟩
  · exact trn_len (jmL_len h1 g1) (jmL_len h2 g2)
theorem pln_len {rs : List PyData} {n : Nat} : ∀ {bs : List Blk} {s : WSt}, s.1.length = rs.length → s.2.length = n → (pln rs s bs).1.length = rs.length ∧ (pln rs s bs).2.length = n
  | [], s, h1, h2 => ⟨h1, h2⟩
  | b :: bs, s, h1, h2 => pln_len (bs := bs) (dn_len h1 h2).1 (dn_len h1 h2).2
def spPlay (C : Addr) : Sp := fun vs H Q _ => ∃ (k g p : Addr) (M : List Addr) (ds rs : List PyData) (ls : List Int) (bs : List Blk), vs = [.ref k, .ref g, .ref p] ∧ Clu C M H k (.list ds) (.list rs) ∧ H g = some (.tup (ls.map V.int)) ∧ boundsD (.list ds) = true ∧ bundlesD (.list rs) ds.length = true ∧ ls.length = rs.length ∧
  Dn [] H (.ref p) (.list (bs.map blkQ)) ∧ (∀ b ∈ bs, BIn ds rs b) ∧ POk ds rs (ls, ldOf ds.length rs ls ls.length) bs ∧
  ∀ H' f, Same H H' → H f = none → H' f = some (.tup ((pln rs (ls, ldOf ds.length rs ls ls.length) bs).1.map V.int)) → Q (.ref f) H'
section
variable {P : Program} {w : World} {K : PySem.W.Frag} {mg : Str → Option Value} {base : Heap} {t0 t1 t2 t3 t4 : Tok} {C W : Addr}
theorem kn_play {k : Nat} (D : Df K mg "play" s_play) (B : Bl mg) (cw : Cw K mg W) (m_init : Km P w K mg base W "__init__" k (spWI W C)) (m_do : Km P w K mg base W "do" (k + 1) (spDo W)) (m_leads : Km P w K mg base W "leads" (k + 1) (spWL W)) : Kn P w K mg base "play" (k + 1 + 1) (spPlay C) := by
  refine kn_of D (fun _ _ _ _ _ _ us hl => match us, hl with | [_, _, _], _ => rfl) sc_play (fun vs H Q E h => by obtain ⟨k', g, p, M, ds, rs, ls, bs, rfl, _⟩ := h; rfl) (fun f cd B' fr z H vs Q E hr gd h => ?_)
  obtain ⟨k', g, p, M, ds, rs, ls, bs, rfl, cl, hg, b1, b2, same, hp, bin, pok, q⟩ := h
  have c_Walk := cw.ck
  refine ⟨_, (pss_cons (ps_set (i := 3) sc_play.nd rfl (.inl rfl) (pe_ownMk c_Walk m_init hr gd (by rfl) (pa_cons (pv 0) (pa_cons (pv 1) pa_nil))))
  (pss_cons (ps_for PassesOwn.never rfl (pi_enum (by rfl) B.enumerate (pa_cons (pv 2) pa_nil)) (pg_tup (by rfl) (pgs_cons (pg_name (i := 4) sc_play.nd rfl (.inl rfl)) (pgs_cons (pg_tup (by rfl) (pgs_cons (pg_name (i := 5) sc_play.nd rfl (.inl rfl)) (pgs_cons (pg_name (i := 6) sc_play.nd rfl (.inl rfl)) pgs_nil))) pgs_nil)))
  (pss_cons (ps_set (i := 7) sc_play.nd rfl (.inl rfl) (pe_ownM (pv 3) c_Walk.cls m_do hr gd (pa_cons (pv 5) (pa_cons (pv 6) pa_nil))))
  (pss_one (ps_if (pt_cmpR op_notN (pv 7) pe_non (nomark _)) (pss_one ps_never) pss_nil))))
  (pss_one (ps_ret (pe_ownM0 (pv 3) c_Walk.cls m_leads hr gd))))), ?_⟩
  have n10 := bounds_len b1
  have hl2 : (ldOf ds.length rs ls ls.length).length = ds.length := ld_len ..
  obtain ⟨s0, hs0⟩ : ∃ s0 : WSt, s0 = (ls, ldOf ds.length rs ls ls.length) := ⟨_, rfl⟩
  have ln1 : s0.1.length = rs.length := by rw [hs0]; exact same
  have ln2 : s0.2.length = ds.length := by rw [hs0]; exact hl2
  rw [← hs0] at pok q
  cases hp with
  | @lst _ pxs _ ep _ AP =>
  have lP := AP.length
  rw [List.length_map] at lP
  walk_at "xs"
  intro x dx hx hdx ne
  have S1 := same_upd hdx (o := .own x)
  have hx1 : (upd H dx (.own x)) x = none := by rw [upd_ne ne.symm]; exact hx
  have S := S1.trans (same_upd hx1 (o := .ins W dx []))
  have ex := upd_same (H := upd H dx (.own x)) (a := x) (o := .ins W dx [])
  have free : ∀ {z}, (upd (upd H dx (.own x)) x (.ins W dx [])) z = none → H z = none := fun {z} e => S.free e
  refine ⟨x, dx, k', g, ds, rs, ls, rfl, ex, ((cl.sub (N := []) (by simp)).more hx).ext (Ext.same S), S _ _ hg, b1, b2, same, ?_⟩
  intro H2 l h E2 hl hh wk
  have S2 : Same H H2 := fun z o e => E2 _ _ (by simpa using ne_of_none e hx) (S _ _ e)
  have hl := free hl
  have hh := free hh
  refine ⟨rfl, ?_⟩
  clear free S ex hx1 S1 hdx E2
  have ep2 := S2 _ _ ep
  have wk0 : Wlk W H2 x l h ds rs s0.1 s0.2 := by rw [hs0]; exact wk
  walk_at "xs"
  refine for_enum (K := K) (a := p) (xs := pxs) (fun m σ' H' => ∃ (l h : Addr) (y4 y5 y6 y7 : Option V), σ' = [some (.ref k'), some (.ref g), some (.ref p), some (.ref x), y4, y5, y6, y7] ∧ Same H H' ∧ H l = none ∧ H h = none ∧ Wlk W H' x l h ds rs (pln rs s0 (bs.take m)).1 (pln rs s0 (bs.take m)).2) ?_ ?_ ?_ ?_
  · exact ⟨l, h, _, _, _, _, rfl, S2, hl, hh, wk0⟩
  · rintro m _ H' _ ⟨_, _, _, _, _, _, _, S, _⟩
    exact SqL.of (S _ _ ep)
  · rintro m v t _ H' hv ⟨l, h, y4, y5, y6, y7, rfl, S3, hl, hh, wk3⟩ ht
    obtain ⟨dR, hdR, dnR⟩ := AP.get hv
    rw [List.getElem?_map] at hdR
    cases hb0 : bs[m]? with
    | none => rw [hb0] at hdR; cases hdR
    | some b0 =>
    rw [hb0] at hdR
    cases hdR
    have bi := bin _ (List.mem_of_getElem? hb0)
    have bo := pok _ _ hb0
    have pn := pln_next (rs := rs) (s := s0) hb0
    obtain ⟨lm1, lm2⟩ := pln_len (bs := bs.take m) ln1 ln2
    generalize pln rs s0 (bs.take m) = s3 at *
    obtain ⟨r', q', rfl, er', dq⟩ : ∃ r' q', v = .ref r' ∧ H r' = some (.tup [.int b0.1, q']) ∧ Dn [] H q' (.list (b0.2.map runQ)) := by
      cases dnR with
      | @tup r' xs _ e _ A =>
        cases A with
        | cons h1 A =>
          cases A with
          | cons h2 A =>
            cases A
            cases h1
            exact ⟨r', _, rfl, e, h2⟩
    obtain ⟨r2, rfl⟩ : ∃ r2, q' = .ref r2 := by
      cases dq with
      | lst _ _ _ => exact ⟨_, rfl⟩
    have St := same_upd ht (o := .tup [.int (m : Nat), .ref r'])
    have er3 := St _ _ (S3 _ _ er')
    have et := upd_same (H := H') (a := t) (o := .tup [.int (m : Nat), .ref r'])
    have wk4 := wk3.same St
    have S4 := S3.trans St
    generalize upd H' t _ = H4 at *
    obtain ⟨dx4, fs, c, p4, pa, fl, ce, kvs, e1, ff, _⟩ := id wk4.ex
    have dq4 : Dn [x, l, h] H4 (.ref r2) (.list (b0.2.map runQ)) := (((dq.more hh).more hl).more hx).ext (Ext.same S4)
    walk_at "xs"
    refine x_mAt e1 ff.d ?_
    walk_at "xs"
    refine ⟨x, l, h, r2, b0.1, ds, rs, s3, b0.2, rfl, wk4, b1, b2, lm1, lm2, dq4, bi.q, bi.t1, bi.t2, bo.1, bo.2, ?_⟩
    intro H5 l' h' E5 hl' hh' wk5
    have S5 : Same H H5 := fun z o e => E5 _ _ (by
      intro m
      simp only [List.mem_cons, List.not_mem_nil, or_false] at m
      rcases m with rfl | rfl | rfl
      · rw [hx] at e; cases e
      · rw [hl] at e; cases e
      · rw [hh] at e; cases e) (S4 _ _ e)
    have hl'' : H l' = none := by
      rcases hl' with rfl | hl'
      · exact hl
      · exact S4.free hl'
    have hh'' : H h' = none := by
      rcases hh' with rfl | hh'
      · exact hh
      · exact S4.free hh'
    walk_at "xs"
    refine ⟨rfl, _, rfl, ?_⟩
    refine x_iteN (fun h => absurd rfl h) (fun _ => ?_)
    walk_at "xs"
    exact ⟨l', h', _, _, _, _, rfl, S5, hl'', hh'', by rw [pn]; exact wk5⟩
  · rintro _ H3 ⟨l, h, y4, y5, y6, y7, rfl, S3, hl, hh, wk3⟩
    rw [lP, List.take_length] at wk3
    obtain ⟨dx4, fs, c, p4, pa, fl, ce, kvs, e1, ff, _⟩ := id wk3.ex
    walk_at "xs"
    refine x_mAt e1 ff.g ?_
    walk_at "xs"
    refine ⟨x, l, h, ds, rs, _, _, rfl, wk3, ?_⟩
    intro H4 f4 S4 nf ef
    walk_at "xs"
    exact q H4 f4 (S3.trans S4) (S3.free nf) ef
end
/-! ### pairs of a way, runs -/
def pairsOf (bs : List Int) : List (Int × Int) := bs.zip bs.tail
def runD (p : Int × Int) : PyData := .tuple [.int p.1, .int p.2, .int 1]
theorem cutV_from (xs : List V) (k : Nat) : cutV xs (some (k : Int)) none = xs.drop k := by
  unfold cutV
  rw [HT.sIx_nat, HT.sIx_none]
  by_cases h : k ≤ xs.length
  · rw [Nat.min_eq_left h, List.take_of_length_le (by rw [List.length_drop]; omega)]
  · rw [Nat.min_eq_right (by omega), List.drop_length, List.take_nil, List.drop_eq_nil_of_le (by omega)]
theorem cutV_to (xs : List V) (k : Nat) : cutV xs none (some (k : Int)) = xs.take k := by
  unfold cutV
  rw [HT.sIx_nat, HT.sIx_none, List.drop_zero, Nat.sub_zero]
  by_cases h : k ≤ xs.length
  · rw [Nat.min_eq_left h]
  · rw [Nat.min_eq_right (by omega), List.take_length, List.take_of_length_le (by omega)]
theorem x_joinS {b : Bool} {A : TS} {D : Ends} {σ : L2.St} {H : Hp} (R : L2.St → Hp → Prop) (rest : ∀ σ' H', R σ' H' → D.nx σ' H') (h1 : b = true → (∀ σ' H', R σ' H' → D.nx σ' H') → A D σ H) (h2 : b = false → R σ H) : if b = true then A D σ H else tNext D σ H := by
  cases b with
  | true => exact h1 rfl rest
  | false => exact rest _ _ (h2 rfl)
def spWayP : Sp := fun vs H Q _ => ∃ (p : Addr) (bs : List Int), vs = [.ref p] ∧ H p = some (.lst (bs.map V.int)) ∧ bs.length ≤ 20 ∧ ∀ H' q, Same H H' → H q = none → Dn [] H' (.ref q) (.list ((pairsOf bs).map prD)) → Q (.ref q) H'
def spRingP : Sp := fun vs H Q _ => ∃ (p : Addr) (bs : List Int), vs = [.ref p] ∧ H p = some (.lst (bs.map V.int)) ∧ bs.length ≤ 18 ∧ ∀ H' q, Same H H' → Dn [] H' (.ref q) (.list ((pairsOf (bs ++ bs.take 1)).map prD)) → Q (.ref q) H'
/-- the runs in the order in which each is legal -/
def rgo (fs : List Int) : List (Int × Int) → List (Int × Int) → List (Int × Int)
  | held, [] => held.reverse
  | held, p :: r => if p.1 ∈ fs then held.reverse ++ rgo fs [p] r else rgo fs (held ++ [p]) r
theorem rgo_len (fs : List Int) : ∀ (ps held : List (Int × Int)), (rgo fs held ps).length = held.length + ps.length
  | [], held => by
    show held.reverse.length = _
    rw [List.length_reverse]; rfl
  | p :: r, held => by
    unfold rgo
    split
    · rw [List.length_append, rgo_len fs r, List.length_reverse]
      simp only [List.length_cons, List.length_nil]
      omega
    · rw [rgo_len fs r, List.length_append]
      simp only [List.length_cons, List.length_nil]
      omega
def spRuns : Sp := fun vs H Q _ => ∃ (p s : Addr) (ps : List (Int × Int)) (fs : List Int), vs = [.ref p, .ref s] ∧ Dn [] H (.ref p) (.list (ps.map prD)) ∧ ps.length ≤ 20 ∧ H s = some (.lst (fs.map V.int)) ∧
  ∀ H' q, Same H H' → H q = none → Dn [] H' (.ref q) (.list ((rgo fs [] ps).map runD)) → Q (.ref q) H'
theorem x_wayP {H : Hp} {Q : VK} {E : XK} {p : Addr} {bs : List Int} (hp : H p = some (.lst (bs.map V.int))) (l : bs.length ≤ 20) (h : ∀ H' q, Same H H' → H q = none → Dn [] H' (.ref q) (.list ((pairsOf bs).map prD)) → Q (.ref q) H') : spWayP [.ref p] H Q E := ⟨p, bs, rfl, hp, l, h⟩
theorem x_ringP {H : Hp} {Q : VK} {E : XK} {p : Addr} {bs : List Int} (hp : H p = some (.lst (bs.map V.int))) (l : bs.length ≤ 18) (h : ∀ H' q, Same H H' → Dn [] H' (.ref q) (.list ((pairsOf (bs ++ bs.take 1)).map prD)) → Q (.ref q) H') : spRingP [.ref p] H Q E := ⟨p, bs, rfl, hp, l, h⟩
theorem x_runs {H : Hp} {Q : VK} {E : XK} {p s : Addr} {ps : List (Int × Int)} {fs : List Int} (hp : Dn [] H (.ref p) (.list (ps.map prD))) (l : ps.length ≤ 20) (hs : H s = some (.lst (fs.map V.int)))
    (h : ∀ H' q, Same H H' → H q = none → Dn [] H' (.ref q) (.list ((rgo fs [] ps).map runD)) → Q (.ref q) H') : spRuns [.ref p, .ref s] H Q E := ⟨p, s, ps, fs, rfl, hp, l, hs, h⟩
section
variable {P : Program} {w : World} {K : PySem.W.Frag} {mg : Str → Option Value} {base : Heap} {t0 t1 t2 t3 t4 : Tok} {C : Addr}
theorem kn_wayP {k : Nat} (D : Df K mg "way_pairs" s_way_pairs) (B : Bl mg) : Kn P w K mg base "way_pairs" (k + 1) spWayP := by
  refine kn_of D (fun _ _ _ _ _ _ us hl => match us, hl with | [_], _ => rfl) sc_way_pairs (fun vs H Q E h => by obtain ⟨p, bs, rfl, _⟩ := h; rfl) (fun f cd B' fr z H vs Q E hr gd h => ?_)
  obtain ⟨p, bs, rfl, hp, ll, q⟩ := h
  refine ⟨_, (pss_one (ps_ret (pe_lc (own := [("one", 1), ("other", 2)]) rfl sc_way_pairs.nd (pi_zip (by rfl) B.zip (pa_cons (pv 0) (pa_cons (pe_slice (r := rSlL K) sl_list (pv 0) (po_some pe_int) po_none) pa_nil))) (blkOk_by (N := ["brokers", "one", "other"]) (sc := defScope s_way_pairs) (by decide +kernel)) (fun _ _ _ _ _ => (pg_tupK K (n := 2) (pgs_cons (pg_name (i := 1) sc_way_pairs.nd rfl (.inl rfl)) (pgs_cons (pg_name (i := 2) sc_way_pairs.nd rfl (.inl rfl)) pgs_nil)))) (fun _ _ _ _ _ => pts_nil) (fun _ _ _ _ _ => (pe_tup (pa_cons (pv 1) (pa_cons (pv 2) pa_nil))))))), ?_⟩
  have cf : cutV (bs.map V.int) (some 1) none = (bs.tail).map V.int := by rw [show (1 : Int) = ((1 : Nat) : Int) from rfl, cutV_from, ← List.map_drop, List.drop_one]
  walk_at "xs"
  rw [cf]
  intro p1 hp1
  have S1 := same_upd hp1 (o := .lst (bs.tail.map V.int))
  have e1 := upd_same (H := H) (a := p1) (o := .lst (bs.tail.map V.int))
  have hp := S1 _ _ hp
  generalize upd H p1 _ = H1 at *
  walk_at "xs"
  intro L hL
  refine lc_zip (K := K) (a := p) (b := p1) (xs := bs.map V.int) (ys := bs.tail.map V.int) (fun j H' => Same H1 H' ∧ ∃ acc, H' L = some (.lst acc) ∧ DnAll [L] H' acc (((pairsOf bs).take j).map prD) ∧ acc.length = j) ?_ ?_ ?_ ?_
  · exact ⟨same_upd hL, [], upd_same, .nil, rfl⟩
  · rintro j H' ⟨S, _⟩
    exact ⟨SqL.of (S _ _ hp), SqL.of (S _ _ e1)⟩
  · rintro j x y T H' hx hy ⟨S, acc, eL, Y, lj⟩ hT
    obtain ⟨i1, h1, rfl⟩ := int_at hx
    obtain ⟨i2, h2, rfl⟩ := int_at hy
    have hj := (List.getElem?_eq_some_iff.mp h1).1
    have hz : (pairsOf bs)[j]? = some (i1, i2) := by
      unfold pairsOf
      rw [List.getElem?_zip_eq_some]
      exact ⟨h1, h2⟩
    have ST := same_upd hT (o := .tup [.int i1, .int i2])
    have eT := upd_same (H := H') (a := T) (o := .tup [.int i1, .int i2])
    have eL := ST _ _ eL
    have Y := Y.ext (Ext.same ST)
    have S2 := S.trans ST
    generalize upd H' T _ = H2 at *
    walk_at "xs"
    refine x_wiped rfl ?_
    walk_at "xs"
    intro t ht
    have St := same_upd ht (o := .tup [.int i1, .int i2])
    have nt : t ∉ [L] := fun m => by
      simp only [List.mem_singleton] at m
      rw [m, eL] at ht; cases ht
    have dt : Dn [L] (upd H2 t (.tup [.int i1, .int i2])) (.ref t) (prD (i1, i2)) := .tup upd_same nt (.cons (.int _) (.cons (.int _) .nil))
    have Y := Y.ext (Ext.same St)
    have eL := St _ _ eL
    have S3 := S2.trans St
    generalize upd H2 t _ = H3 at *
    refine x_acc eL (by rw [sizeLine_eq]; omega) ?_
    have X : Ext [L] H3 (upd H3 L (.lst (acc ++ [.ref t]))) := Ext.upd (by simp)
    refine ⟨fun z o e => ?_, _, upd_same, ?_, by rw [List.length_append, lj]; rfl⟩
    · rw [upd_ne (ne_of_none e hL)]; exact S3 _ _ e
    · rw [List.take_add_one, hz, List.map_append]
      exact (Y.ext X).app (.cons (dt.ext X) .nil)
  · rintro H2 ⟨S2, acc, eL, Y, lj⟩
    have lp : (pairsOf bs).length = min (bs.map V.int).length (bs.tail.map V.int).length := by unfold pairsOf; rw [List.length_zip, List.length_map, List.length_map]
    rw [← lp, List.take_length] at Y
    walk_at "xs"
    exact q _ L (S1.trans S2) (S1.free hL) (.lst eL (by simp) (Y.sub (by simp)))
theorem kn_runs {k : Nat} (D : Df K mg "_runs" s__runs) (B : Bl mg) : Kn P w K mg base "_runs" (k + 1) spRuns := by
  refine kn_of D (fun _ _ _ _ _ _ us hl => match us, hl with | [_, _], _ => rfl) sc__runs (fun vs H Q E h => by obtain ⟨p, s, ps, fs, rfl, _⟩ := h; rfl) (fun f cd B' fr z H vs Q E hr gd h => ?_)
  obtain ⟨p, s, ps, fs, rfl, hp, ll, hs, q⟩ := h
  refine ⟨_, (pss_cons (ps_par (i := 2) (j := 3) (by rfl) sc__runs.nd rfl rfl (by decide) rfl rfl (pa_cons (pe_lst pa_nil) (pa_cons (pe_lst pa_nil) pa_nil)) (by rfl))
  (pss_cons (ps_for PassesOwn.never rfl (pi_list (pv 0)) (pg_name (i := 4) sc__runs.nd rfl (.inl rfl))
  (pss_cons (ps_if (pt_cmpR (op_inSK K) (pe_ix (r := rIxT K) ix_tup (pv 4) pe_int (fun _ _ => rfl)) (pv 1) (by rfl)) (pss_cons (ps_set (i := 2) sc__runs.nd rfl (.inl rfl) (pe_op op_cat (pv 2) (pe_revL (pv 3))))
  (pss_one (ps_set (i := 3) sc__runs.nd rfl (.inl rfl) (pe_lst pa_nil)))) pss_nil)
  (pss_one (ps_expr (pe_bm PySem.F.plainAttrs_list PySem.F.slot_list_append PySem.F.type_list_append mt_append (pv 3) (pa_cons (pv 4) pa_nil))))))
  (pss_one (ps_ret (pe_lc (own := [("one", 5), ("other", 6)]) rfl sc__runs.nd (pi_list (pe_op op_cat (pv 2) (pe_revL (pv 3)))) (blkOk_by (N := ["pairs", "firsts", "order", "held", "pair", "one", "other"]) (sc := defScope s__runs) (by decide +kernel)) (fun _ _ _ _ _ => (pg_tupK K (n := 2) (pgs_cons (pg_name (i := 5) sc__runs.nd rfl (.inl rfl)) (pgs_cons (pg_name (i := 6) sc__runs.nd rfl (.inl rfl)) pgs_nil)))) (fun _ _ _ _ _ => pts_nil) (fun _ _ _ _ _ => (pe_tup (pa_cons (pv 5) (pa_cons (pv 6) (pa_cons pe_int pa_nil)))))))))), ?_⟩
  cases hp with
  | @lst _ pxs _ ep _ AP =>
  have lP := AP.length
  rw [List.length_map] at lP
  walk_at "xs"
  intro O0 hO0
  have S1 := same_upd hO0 (o := .lst [])
  have eO := upd_same (H := H) (a := O0) (o := .lst [])
  generalize upd H O0 _ = H1 at *
  walk_at "xs"
  intro G0 hG0
  have S2 := same_upd hG0 (o := .lst [])
  have eG := upd_same (H := H1) (a := G0) (o := .lst [])
  have eO := S2 _ _ eO
  have nOG : O0 ≠ G0 := ne_of_none (by assumption) hG0
  have S02 := S1.trans S2
  have hG0' := S1.free hG0
  generalize upd H1 G0 _ = H2 at *
  have ep2 := S02 _ _ ep
  walk_at "xs"
  refine for_list (K := K) (a := p) (xs := pxs) (fun j σ' H' => ∃ (O Hd : Addr) (os gs : List V) (dos dgs : List (Int × Int)) (y4 : Option V), σ' = [some (.ref p), some (.ref s), some (.ref O), some (.ref Hd), y4, none, none] ∧ Same H H' ∧ H' O = some (.lst os) ∧ H' Hd = some (.lst gs) ∧ O ≠ Hd ∧ H Hd = none ∧ DnAll [Hd] H' os (dos.map prD) ∧ DnAll [Hd] H' gs (dgs.map prD) ∧ dos ++ rgo fs dgs (ps.drop j) = rgo fs [] ps ∧ dos.length + dgs.length = j) ?_ ?_ ?_ ?_
  · exact ⟨O0, G0, [], [], [], [], _, rfl, S02, eO, eG, nOG, hG0', .nil, .nil, rfl, rfl⟩
  · rintro j _ H' _ ⟨_, _, _, _, _, _, _, _, S, _⟩
    exact SqL.of (S _ _ ep)
  · rintro j v _ H3 hv ⟨O, Hd, os, gs, dos, dgs, y4, rfl, S3, eO, eG, nOG, hHd, AO, AG, pm, pl⟩
    obtain ⟨dP, hdP, dnP0⟩ := AP.get hv
    rw [List.getElem?_map] at hdP
    cases hpr : ps[j]? with
    | none => rw [hpr] at hdP; cases hdP
    | some pr =>
    rw [hpr] at hdP
    cases hdP
    have dnP := dnP0.ext (Ext.same S3)
    obtain ⟨r2, rfl, nr2, hr5⟩ := dnP.pair
    have hj := (List.getElem?_eq_some_iff.mp hpr).1
    have dr : ps.drop j = pr :: ps.drop (j + 1) := by
      have := List.drop_eq_getElem_cons hj
      rw [(List.getElem?_eq_some_iff.mp hpr).2] at this
      exact this
    rw [dr] at pm
    have lO := AO.length
    have lG := AG.length
    rw [List.length_map] at lO lG
    have hs3 := S3 _ _ hs
    walk_at "xs"
    refine x_inI hs3 ?_
    walk_at "xs"
    refine x_joinS (fun σ' H' => ∃ (O Hd : Addr) (os gs : List V) (dos' dgs' : List (Int × Int)), σ' = [some (.ref p), some (.ref s), some (.ref O), some (.ref Hd), some (.ref r2), none, none] ∧ Same H H' ∧ H' O = some (.lst os) ∧ H' Hd = some (.lst gs) ∧ O ≠ Hd ∧ H Hd = none ∧ DnAll [Hd] H' os (dos'.map prD) ∧ DnAll [Hd] H' gs (dgs'.map prD) ∧ dos' ++ rgo fs (dgs' ++ [pr]) (ps.drop (j + 1)) = rgo fs [] ps ∧ dos'.length + dgs'.length = j) ?_ (fun hb hjoin => ?_) (fun hb => ?_)
    · rintro _ H4 ⟨O', Hd', os', gs', dos', dgs', rfl, S4, eO4, eG4, nOG4, hHd4, AO4, AG4, pm4, pl4⟩
      have lG4 := AG4.length
      rw [List.length_map] at lG4
      walk_at "xs"
      refine x_app eG4 (by rw [sizeLine_eq]; omega) ?_
      have X : Ext [Hd'] H4 (upd H4 Hd' (.lst (gs' ++ [.ref r2]))) := Ext.upd (by simp)
      have dv := ((dnP0.more hHd4).ext (Ext.same S4))
      walk_at "xs"
      refine ⟨O', Hd', os', _, dos', dgs' ++ [pr], _, rfl, fun z o e => ?_, ?_, upd_same, nOG4, hHd4, AO4.ext X, ?_, pm4, by rw [List.length_append]; simp only [List.length_cons, List.length_nil]; omega⟩
      · rw [upd_ne (ne_of_none e hHd4)]; exact S4 _ _ e
      · rw [upd_ne nOG4]; exact eO4
      · rw [List.map_append]
        exact (AG4.ext X).app (.cons (dv.ext X) .nil)
    · walk_at "xs"
      refine x_revL (SqL.of eG) ?_
      intro l hl
      have Sl := same_upd hl (o := .lst gs.reverse)
      have el := upd_same (H := H3) (a := l) (o := .lst gs.reverse)
      have eO := Sl _ _ eO
      have AO := AO.ext (Ext.same Sl)
      have AG := AG.ext (Ext.same Sl)
      have S4 := S3.trans Sl
      clear eG
      generalize upd H3 l _ = H4 at *
      refine x_cat eO el (by rw [List.length_reverse, sizeLine_eq]; omega) ?_
      intro O2 hO2
      have S5 := same_upd hO2 (o := .lst (os ++ gs.reverse))
      have eO2 := upd_same (H := H4) (a := O2) (o := .lst (os ++ gs.reverse))
      have AO := AO.ext (Ext.same S5)
      have AG := AG.ext (Ext.same S5)
      have S45 := S4.trans S5
      clear el eO
      generalize upd H4 O2 _ = H5 at *
      walk_at "xs"
      intro G2 hG2
      have S6 := same_upd hG2 (o := .lst [])
      have w : ∀ {us : List V} {d : List PyData}, DnAll [Hd] H5 us d → DnAll [G2] (upd H5 G2 (.lst [])) us d := fun h => ((h.sub (M' := []) (by simp)).avoid fun a o _ e m => by
        simp only [List.mem_singleton] at m
        rw [m, hG2] at e; cases e).ext (Ext.same S6)
      refine hjoin _ _ ⟨O2, G2, _, [], dos ++ dgs.reverse, [], rfl, S45.trans S6, S6 _ _ eO2, upd_same, ne_of_none eO2 hG2, S45.free hG2, ?_, .nil, ?_, ?_⟩
      · rw [List.map_append, List.map_reverse]
        exact (w AO).app (w AG).rev
      · rw [rgo, if_pos (of_decide_eq_true hb)] at pm
        rw [List.append_assoc]
        exact pm
      · rw [List.length_append, List.length_reverse]
        exact pl
    · rw [rgo, if_neg (of_decide_eq_false hb)] at pm
      exact ⟨O, Hd, os, gs, dos, dgs, rfl, S3, eO, eG, nOG, hHd, AO, AG, pm, pl⟩
  · rintro _ H3 ⟨O, Hd, os, gs, dos, dgs, y4, rfl, S3, eO, eG, nOG, hHd, AO, AG, pm, pl⟩
    rw [lP, List.drop_length] at pm
    rw [lP] at pl
    have lO := AO.length
    have lG := AG.length
    rw [List.length_map] at lO lG
    have AO := AO.sub (M' := []) (by simp)
    have AG := AG.sub (M' := []) (by simp)
    walk_at "xs"
    refine x_revL (SqL.of eG) ?_
    intro l hl
    have Sl := same_upd hl (o := .lst gs.reverse)
    have el := upd_same (H := H3) (a := l) (o := .lst gs.reverse)
    have eO := Sl _ _ eO
    have AO := AO.ext (Ext.same Sl)
    have AG := AG.ext (Ext.same Sl)
    have S4 := S3.trans Sl
    clear eG
    generalize upd H3 l _ = H4 at *
    refine x_cat eO el (by rw [List.length_reverse, sizeLine_eq]; omega) ?_
    intro O2 hO2
    have S5 := same_upd hO2 (o := .lst (os ++ gs.reverse))
    have eO2 := upd_same (H := H4) (a := O2) (o := .lst (os ++ gs.reverse))
    obtain ⟨rs, hrs⟩ : ∃ rs, rs = dos ++ dgs.reverse := ⟨_, rfl⟩
    have hrg : rs = rgo fs [] ps := hrs.trans pm
    have AA : DnAll [] (upd H4 O2 (.lst (os ++ gs.reverse))) (os ++ gs.reverse) (rs.map prD) := by
      rw [hrs, List.map_append, List.map_reverse]
      exact (AO.app AG.rev).ext (Ext.same S5)
    have S45 := S4.trans S5
    have lrs : rs.length = ps.length := by rw [hrg, rgo_len]; simp
    have lA := AA.length
    rw [List.length_map] at lA
    clear el eO AO AG hrs
    generalize upd H4 O2 _ = H5 at *
    generalize os ++ gs.reverse = us at *
    walk_at "xs"
    intro L hL
    refine lc_list (K := K) (a := O2) (xs := us) (fun j H' => Same H5 H' ∧ ∃ acc, H' L = some (.lst acc) ∧ DnAll [L] H' acc ((rs.take j).map runD) ∧ acc.length = j) ?_ ?_ ?_ ?_
    · exact ⟨same_upd hL, [], upd_same, .nil, rfl⟩
    · rintro j H' _ ⟨S, _⟩
      exact SqL.of (S _ _ eO2)
    · rintro j v H' hv ⟨S, acc, eL, Y, lj⟩
      obtain ⟨dP, hdP, dnP⟩ := (AA.ext (Ext.same S)).get hv
      rw [List.getElem?_map] at hdP
      cases hpr : rs[j]? with
      | none => rw [hpr] at hdP; cases hdP
      | some pr =>
      rw [hpr] at hdP
      cases hdP
      obtain ⟨r2, rfl, nr2, hr5⟩ := dnP.pair
      have hj := (List.getElem?_eq_some_iff.mp hpr).1
      walk_at "xs"
      refine x_wiped rfl ?_
      walk_at "xs"
      intro t ht
      have St := same_upd ht (o := .tup [.int pr.1, .int pr.2, .int 1])
      have nt : t ∉ [L] := fun m => by
        simp only [List.mem_singleton] at m
        rw [m, eL] at ht; cases ht
      have dt : Dn [L] (upd H' t (.tup [.int pr.1, .int pr.2, .int 1])) (.ref t) (runD pr) := .tup upd_same nt (.cons (.int _) (.cons (.int _) (.cons (.int _) .nil)))
      have Y := Y.ext (Ext.same St)
      have eL := St _ _ eL
      have S3 := S.trans St
      generalize upd H' t _ = H3 at *
      refine x_acc eL (by rw [sizeLine_eq]; omega) ?_
      have X : Ext [L] H3 (upd H3 L (.lst (acc ++ [.ref t]))) := Ext.upd (by simp)
      refine ⟨fun z o e => ?_, _, upd_same, ?_, by rw [List.length_append, lj]; rfl⟩
      · rw [upd_ne (ne_of_none e hL)]; exact S3 _ _ e
      · rw [List.take_add_one, hpr, List.map_append]
        exact (Y.ext X).app (.cons (dt.ext X) .nil)
    · rintro H6 ⟨S6, acc, eL, Y, lj⟩
      rw [lA, List.take_length] at Y
      walk_at "xs"
      rw [hrg] at Y
      exact q _ L (S45.trans S6) (S45.free hL) (.lst eL (by simp) (Y.sub (by simp)))
end
/-! ### a way's block, a ring's block -/
def planD (t : Int) (rs : List (Int × Int)) : PyData := .tuple [.int t, .list (rs.map runD)]
def spWayB : Sp := fun vs H Q _ => ∃ (p s : Addr) (t : Int) (bs fs : List Int), vs = [.ref p, .int t, .ref s] ∧ H p = some (.lst (bs.map V.int)) ∧ bs.length ≤ 18 ∧ H s = some (.lst (fs.map V.int)) ∧
  ∀ H' q r, Same H H' → H r = none → H' q = some (.tup [.int t, .ref r]) → Dn [] H' (.ref r) (.list ((rgo fs [] (pairsOf bs)).map runD)) → Q (.ref q) H'
theorem x_wayB {H : Hp} {Q : VK} {E : XK} {p s : Addr} {t : Int} {bs fs : List Int} (hp : H p = some (.lst (bs.map V.int))) (l : bs.length ≤ 18) (hs : H s = some (.lst (fs.map V.int)))
    (h : ∀ H' q r, Same H H' → H r = none → H' q = some (.tup [.int t, .ref r]) → Dn [] H' (.ref r) (.list ((rgo fs [] (pairsOf bs)).map runD)) → Q (.ref q) H') : spWayB [.ref p, .int t, .ref s] H Q E := ⟨p, s, t, bs, fs, rfl, hp, l, hs, h⟩
theorem pairs_len (bs : List Int) : (pairsOf bs).length = bs.length - 1 := by
  unfold pairsOf
  rw [List.length_zip, List.length_tail]
  omega
section
variable {P : Program} {w : World} {K : PySem.W.Frag} {mg : Str → Option Value} {base : Heap} {t0 t1 t2 t3 t4 : Tok} {C : Addr}
theorem kn_wayB {k : Nat} (D : Df K mg "way_block" s_way_block) (B : Bl mg) (c_runs : Kn P w K mg base "_runs" k spRuns) (c_way_pairs : Kn P w K mg base "way_pairs" k spWayP) : Kn P w K mg base "way_block" (k + 1) spWayB := by
  refine kn_of D (fun _ _ _ _ _ _ us hl => match us, hl with | [_, _, _], _ => rfl) sc_way_block (fun vs H Q E h => by obtain ⟨p, s, t, bs, fs, rfl, _⟩ := h; rfl) (fun f cd B' fr z H vs Q E hr gd h => ?_)
  obtain ⟨p, s, t, bs, fs, rfl, hp, ll, hs, q⟩ := h
  have c__runs := c_runs
  refine ⟨_, (pss_one (ps_ret (pe_tup (pa_cons (pv 1) (pa_cons (pe_own c__runs hr gd (by rfl) (pa_cons (pe_own c_way_pairs hr gd (by rfl) (pa_cons (pv 0) pa_nil)) (pa_cons (pv 2) pa_nil))) pa_nil))))), ?_⟩
  walk_at "xs"
  refine x_wayP hp (by omega) ?_
  intro H1 p1 S1 _ d1
  walk_at "xs"
  refine x_runs d1 (by rw [pairs_len]; omega) (S1 _ _ hs) ?_
  intro H2 q2 S2 n2 d2
  walk_at "xs"
  intro u hu
  have S3 := same_upd hu (o := .tup [.int t, .ref q2])
  exact q _ u q2 (S1.trans (S2.trans S3)) (S1.free n2) upd_same (d2.ext (Ext.same S3))
end
/-! ### can leads be handed; a plan, its length -/
theorem ls_at {ds : List PyData} {i : Nat} {lo up : Int} (h : ds[i]? = some (tupD [lo, up])) : lsB ds i = decide (lo < up) := by
  unfold lsB
  rw [h]
  rfl
theorem ls_bnd {ds : List PyData} {a : Int} (hb : boundsD (.list ds) = true) (a0 : 0 ≤ a) (a1 : a < ds.length) : ∃ lw up, ds[a.toNat]? = some (tupD [lw, up]) ∧ decide (lw = up) = !lsB ds a.toNat := by
  obtain ⟨lw, up, hrow, _, le, _⟩ := bound_at hb (i := a.toNat) (by omega)
  refine ⟨lw, up, hrow, ?_⟩
  rw [ls_at hrow]
  by_cases h : lw = up
  · rw [decide_eq_true h, decide_eq_false (by omega)]; rfl
  · rw [decide_eq_false h, decide_eq_true (by omega)]; rfl
def CanP (ds rs : List PyData) (ls : List Int) (t : Int) (p : Int × Int) : Prop := lsB ds p.1.toNat = true ∧ lsB ds p.2.toNat = true ∧ ∃ v, LedIs rs ls p.1 p.2 v ∧ t ≤ v
def spCan (C : Addr) : Sp := fun vs H Q _ => ∃ (M N : List Addr) (x p g : Addr) (t : Int) (ds rs : List PyData) (ls : List Int) (ps : List (Int × Int)), vs = [.ref x, .ref p, .ref g, .int t] ∧ Clu C M H x (.list ds) (.list rs) ∧ H p = some (.tup (ls.map V.int)) ∧ boundsD (.list ds) = true ∧ bundlesD (.list rs) ds.length = true ∧ ls.length = rs.length ∧
  Dn N H (.ref g) (.list (ps.map prD)) ∧ (∀ pr ∈ ps, (0 ≤ pr.1 ∧ pr.1 < ds.length) ∧ (0 ≤ pr.2 ∧ pr.2 < ds.length) ∧ pr.1 ≠ pr.2) ∧ ∀ H' b, Same H H' → (b = true ↔ ∀ pr ∈ ps, CanP ds rs ls t pr) → Q (.bl b) H'
def spAreRuns : Sp := fun vs H Q _ => ∃ (p q : Addr) (kvs : List (List L2.Key × V)) (rs : List (Int × Int)), vs = [.ref p, .ref q] ∧ H p = some (.dT kvs) ∧ Dn [] H (.ref q) (.list (rs.map runD)) ∧ (∀ r ∈ rs, (valV kvs [.inl r.1, .inl r.2]).isSome = true) ∧ ∀ H', Same H H' → Q (.bl true) H'
def spPlanOf : Sp := fun vs H Q _ => ∃ (p q : Addr) (kvs : List (List L2.Key × V)) (t : Int) (rs : List (Int × Int)), vs = [.ref p, .ref q] ∧ H p = some (.dT kvs) ∧ Dn [] H (.ref q) (.list [planD t rs]) ∧ (∀ r ∈ rs, (valV kvs [.inl r.1, .inl r.2]).isSome = true) ∧ 1 ≤ t ∧ t ≤ 1000000000000000000 ∧ 1 ≤ rs.length ∧ rs.length ≤ 20 ∧ ∀ H', Same H H' → Q (.bl true) H'
def spIsPlan (C : Addr) : Sp := fun vs H Q _ => ∃ (M : List Addr) (x q : Addr) (d1 : PyData) (rs0 : List PyData) (t : Int) (rs : List (Int × Int)), vs = [.ref x, .ref q] ∧ Clu C M H x d1 (.list rs0) ∧ Dn [] H (.ref q) (.list [planD t rs]) ∧
  (∀ r ∈ rs, (valV (numsD (.list rs0)) [.inl (if r.2 < r.1 then r.2 else r.1), .inl (if r.2 > r.1 then r.2 else r.1)]).isSome = true) ∧ 1 ≤ t ∧ t ≤ 1000000000000000000 ∧ 1 ≤ rs.length ∧ rs.length ≤ 20 ∧ ∀ H', Same H H' → Q (.bl true) H'
def spLength : Sp := fun vs H Q _ => ∃ (q : Addr) (t : Int) (rs : List (Int × Int)), vs = [.ref q] ∧ Dn [] H (.ref q) (.list [planD t rs]) ∧ rs.length ≤ 20 ∧ 0 ≤ t ∧ t ≤ 1000000000000000000 ∧ ∀ H', Same H H' → Q (.int (t * rs.length)) H'
section
variable {P : Program} {w : World} {K : PySem.W.Frag} {mg : Str → Option Value} {base : Heap} {t0 t1 t2 t3 t4 : Tok} {C : Addr}
theorem kn_can {k : Nat} (D : Df K mg "_can_hand" s__can_hand) (B : Bl mg) (cc : Cc K mg C) (m_is_rigid : Km P w K mg base C "is_rigid" k (spRigid C)) (c_led : Kn P w K mg base "led" k (spLed C)) : Kn P w K mg base "_can_hand" (k + 1) (spCan C) := by
  refine kn_of D (fun _ _ _ _ _ _ us hl => match us, hl with | [_, _, _, _], _ => rfl) sc__can_hand (fun vs H Q E h => by obtain ⟨M, N, x, p, g, t, ds, rs, ls, ps, rfl, _⟩ := h; rfl) (fun f cd B' fr z H vs Q E hr gd h => ?_)
  obtain ⟨M, N, x, p, g, t, ds, rs, ls, ps, rfl, cl, hp, b1, b2, same, dg, inn, q⟩ := h
  have c_Cluster := cc.ck
  refine ⟨_, (pss_cons (ps_for PassesOwn.never rfl (pi_list (pv 2)) (pg_tup (by rfl) (pgs_cons (pg_name (i := 4) sc__can_hand.nd rfl (.inl rfl)) (pgs_cons (pg_name (i := 5) sc__can_hand.nd rfl (.inl rfl)) pgs_nil)))
  (pss_one (ps_if (PW.pt (pw_or (pt_val (pe_ownM (pv 0) c_Cluster.cls m_is_rigid hr gd (pa_cons (pv 4) pa_nil))) (pw_or (pt_val (pe_ownM (pv 0) c_Cluster.cls m_is_rigid hr gd (pa_cons (pv 5) pa_nil))) (pw_or1 (pt_cmpR op_lt (pe_own c_led hr gd (by rfl) (pa_cons (pv 0) (pa_cons (pv 1) (pa_cons (pv 4) (pa_cons (pv 5) pa_nil))))) (pv 3) (nomark _)))))) (pss_one (ps_ret pe_bl)) pss_nil)))
  (pss_one (ps_ret pe_bl))), ?_⟩
  have n10 := bounds_len b1
  obtain ⟨dx, B0, U0, N0, kvs, hx, _⟩ := id cl
  cases dg with
  | @lst _ gxs _ eg mg' A =>
  have lA := A.length
  rw [List.length_map] at lA
  walk_at "xs"
  refine for_list (K := K) (a := g) (xs := gxs) (fun j σ' H' => ∃ y4 y5, σ' = [some (.ref x), some (.ref p), some (.ref g), some (.int t), y4, y5] ∧ Same H H' ∧ ∀ i pr, i < j → ps[i]? = some pr → CanP ds rs ls t pr) ?_ ?_ ?_ ?_
  · exact ⟨_, _, rfl, Same.refl _, fun i _ h => absurd h (Nat.not_lt_zero _)⟩
  · rintro j _ H' _ ⟨_, _, _, S, _⟩
    exact SqL.of (S _ _ eg)
  · rintro j v _ H1 hv ⟨y4, y5, rfl, S1, done⟩
    obtain ⟨dP, hdP, dnP⟩ := (A.ext (Ext.same S1)).get hv
    rw [List.getElem?_map] at hdP
    cases hpr : ps[j]? with
    | none => rw [hpr] at hdP; cases hdP
    | some pr =>
    rw [hpr] at hdP
    cases hdP
    obtain ⟨r2, rfl, nr2, hr5⟩ := dnP.pair
    obtain ⟨⟨a0, a1⟩, ⟨c0, c1⟩, ne⟩ := inn pr (List.mem_of_getElem? hpr)
    have hx1 := S1 _ _ hx
    have cl1 := cl.ext (Ext.same S1)
    obtain ⟨lw, up', hrow, eb⟩ := ls_bnd b1 a0 a1
    obtain ⟨lw2, up2, hrow2, eb2⟩ := ls_bnd b1 c0 c1
    have no : ¬ CanP ds rs ls t pr → ∀ {H'}, Same H1 H' → Q (.bl false) H' := fun h H' S => q H' false (S1.trans S) ⟨fun h => (by cases h), fun h2 => absurd (h2 pr (List.mem_of_getElem? hpr)) h⟩
    walk_at "xs"
    refine x_mAt hx1 (f3_none _ _ _ (by decide) (by decide) (by decide)) ?_
    walk_at "xs"
    refine ⟨x, M, ds, _, pr.1, lw, up', rfl, cl1, a0, a1, hrow, ?_⟩
    rw [eb]
    cases e1 : lsB ds pr.1.toNat with
    | false =>
      walk_at "xs"
      exact no (fun h => by rw [h.1] at e1; cases e1) (Same.refl _)
    | true =>
    walk_at "xs"
    refine x_mAt hx1 (f3_none _ _ _ (by decide) (by decide) (by decide)) ?_
    walk_at "xs"
    refine ⟨x, M, ds, _, pr.2, lw2, up2, rfl, cl1, c0, c1, hrow2, ?_⟩
    rw [eb2]
    cases e2 : lsB ds pr.2.toNat with
    | false =>
      walk_at "xs"
      exact no (fun h => by rw [h.2.1] at e2; cases e2) (Same.refl _)
    | true =>
    walk_at "xs"
    refine ⟨x, p, M, ds, rs, ls, ds.length, pr.1, pr.2, rfl, cl1, S1 _ _ hp, b2, by omega, same, ne, fun H2 lv S2 hled => ?_⟩
    walk_at "xs"
    refine x_ite (fun c => ?_) (fun c => ?_)
    · walk_at "xs"
      refine no (fun h => ?_) S2
      obtain ⟨_, _, v', hv', le⟩ := h
      have := LedIs.one b2 (by omega) hled hv'
      omega
    · walk_at "xs"
      refine ⟨_, _, rfl, S1.trans S2, fun i pr' hi hp' => ?_⟩
      by_cases e : i = j
      · subst e
        rw [hpr] at hp'
        cases hp'
        exact ⟨e1, e2, lv, hled, by omega⟩
      · exact done i pr' (by omega) hp'
  · rintro _ H1 ⟨y4, y5, rfl, S1, done⟩
    walk_at "xs"
    refine q _ true S1 ⟨fun _ pr hpr => ?_, fun _ => rfl⟩
    obtain ⟨i, hi, e⟩ := List.mem_iff_getElem.mp hpr
    exact done i pr (by rw [lA]; exact hi) (by rw [List.getElem?_eq_getElem hi, e])
end
/-! ### a plan is one; its length -/
theorem x_areR {H : Hp} {Q : VK} {E : XK} {p q : Addr} {kvs : List (List L2.Key × V)} {rs : List (Int × Int)} (hp : H p = some (.dT kvs)) (hq : Dn [] H (.ref q) (.list (rs.map runD))) (ok : ∀ r ∈ rs, (valV kvs [.inl r.1, .inl r.2]).isSome = true) (h : ∀ H', Same H H' → Q (.bl true) H') : spAreRuns [.ref p, .ref q] H Q E := ⟨p, q, kvs, rs, rfl, hp, hq, ok, h⟩
section
variable {P : Program} {w : World} {K : PySem.W.Frag} {mg : Str → Option Value} {base : Heap} {t0 t1 t2 t3 t4 : Tok} {C : Addr}
theorem kn_areR {k : Nat} (D : Df K mg "_are_runs" s__are_runs) (B : Bl mg) (CS : Cs mg t0 t1 t2 t3 t4) : Kn P w K mg base "_are_runs" (k + 1) spAreRuns := by
  refine kn_of D (fun _ _ _ _ _ _ us hl => match us, hl with | [_, _], _ => rfl) sc__are_runs (fun vs H Q E h => by obtain ⟨p, q, kvs, rs, rfl, _⟩ := h; rfl) (fun f cd B' fr z H vs Q E hr gd h => ?_)
  obtain ⟨p, g, kvs, rs, rfl, hp, hg, ok, q⟩ := h
  refine ⟨_, (pss_cons (ps_for PassesOwn.never rfl (pi_list (pv 1)) (pg_name (i := 2) sc__are_runs.nd rfl (.inl rfl))
  (pss_cons (ps_if (PW.pt (pw_or (pt_not (pt_val (pe_callB call_isD (by rfl) B.isinstance (by decide +kernel) (pa_cons (pv 2) (pa_cons (pe_bltn (v := .ty "tuple") (u := .type "tuple") (by rfl) B.«tuple» (by decide +kernel) rfl) pa_nil))))) (pw_or1 (pt_cmpR op_ne (pe_callB call_len_seq (by rfl) B.len (by decide +kernel) (pa_cons (pv 2) pa_nil)) pe_int (nomark _))))) (pss_one (ps_ret pe_bl)) pss_nil)
  (pss_cons (ps_asg (pv 2) (pg_tup (by rfl) (pgs_cons (pg_name (i := 3) sc__are_runs.nd rfl (.inl rfl)) (pgs_cons (pg_name (i := 4) sc__are_runs.nd rfl (.inl rfl)) (pgs_cons (pg_name (i := 5) sc__are_runs.nd rfl (.inl rfl)) pgs_nil)))))
  (pss_cons (ps_if (PW.pt (pw_or (pt_not (pt_val (pe_callB call_isD (by rfl) B.isinstance (by decide +kernel) (pa_cons (pv 3) (pa_cons (pe_bltn (v := .ty "int") (u := .type "int") (by rfl) B.«int» (by decide +kernel) rfl) pa_nil))))) (pw_or (pt_not (pt_val (pe_callB call_isD (by rfl) B.isinstance (by decide +kernel) (pa_cons (pv 4) (pa_cons (pe_bltn (v := .ty "int") (u := .type "int") (by rfl) B.«int» (by decide +kernel) rfl) pa_nil))))) (pw_or1 (pt_not (pt_val (pe_callB call_isD (by rfl) B.isinstance (by decide +kernel) (pa_cons (pv 5) (pa_cons (pe_bltn (v := .ty "int") (u := .type "int") (by rfl) B.«int» (by decide +kernel) rfl) pa_nil))))))))) (pss_one (ps_ret pe_bl)) pss_nil)
  (pss_cons (ps_if (PW.pt (pw_or (pt_val (pe_callB call_isD (by rfl) B.isinstance (by decide +kernel) (pa_cons (pv 3) (pa_cons (pe_bltn (v := .ty "bool") (u := .type "bool") (by rfl) B.«bool» (by decide +kernel) rfl) pa_nil)))) (pw_or (pt_val (pe_callB call_isD (by rfl) B.isinstance (by decide +kernel) (pa_cons (pv 4) (pa_cons (pe_bltn (v := .ty "bool") (u := .type "bool") (by rfl) B.«bool» (by decide +kernel) rfl) pa_nil)))) (pw_or1 (pt_val (pe_callB call_isD (by rfl) B.isinstance (by decide +kernel) (pa_cons (pv 5) (pa_cons (pe_bltn (v := .ty "bool") (u := .type "bool") (by rfl) B.«bool» (by decide +kernel) rfl) pa_nil)))))))) (pss_one (ps_ret pe_bl)) pss_nil)
  (pss_one (ps_if (PW.pt (pw_or (pt_not (pt_chain op_le op_le pe_int (pv 5) (pe_glob (v := .int (10 ^ 18)) (by rfl) CS.MOST_COUNT ⟨_, rfl⟩))) (pw_or1 (pt_cmp (pc_dnotin (units1 (by exact hr.units)) (pe_tup (pa_cons (pv 3) (pa_cons (pv 4) pa_nil))) (pv 0)) (by rfl))))) (pss_one (ps_ret pe_bl)) pss_nil)))))))
  (pss_one (ps_ret pe_bl))), ?_⟩
  cases hg with
  | @lst _ gxs _ eg _ A =>
  have lA := A.length
  rw [List.length_map] at lA
  walk_at "xs"
  refine for_list (K := K) (a := g) (xs := gxs) (fun j σ' H' => ∃ y2 y3 y4 y5, σ' = [some (.ref p), some (.ref g), y2, y3, y4, y5] ∧ Same H H') ?_ ?_ ?_ ?_
  · exact ⟨_, _, _, _, rfl, Same.refl _⟩
  · rintro j _ H' _ ⟨_, _, _, _, _, S⟩
    exact SqL.of (S _ _ eg)
  · rintro j v _ H1 hv ⟨y2, y3, y4, y5, rfl, S1⟩
    obtain ⟨dP, hdP, dnP⟩ := (A.ext (Ext.same S1)).get hv
    rw [List.getElem?_map] at hdP
    cases hpr : rs[j]? with
    | none => rw [hpr] at hdP; cases hdP
    | some pr =>
    rw [hpr] at hdP
    cases hdP
    have okr := ok pr (List.mem_of_getElem? hpr)
    obtain ⟨r2, rfl, nr2, hr5⟩ := Dn.tup3 (a := pr.1) (b := pr.2) (c := 1) dnP
    have hp1 := S1 _ _ hp
    walk_at "xs"
    refine x_iteNB (fun h => ?_) (fun _ => ?_)
    · rw [isT_tuple] at h; cases h
    walk_at "xs"
    refine x_iteN (fun h => absurd rfl h) (fun _ => ?_)
    have di : ∀ i : Int, Dn [] H1 (.int i) (.int i) := fun i => .int i
    have d1 := di pr.1
    have d2 := di pr.2
    have d3 := di 1
    walk_at "xs"
    refine x_iteNB (fun h => ?_) (fun _ => ?_)
    · rw [isT_int] at h; cases h
    walk_at "xs"
    refine x_iteNB (fun h => ?_) (fun _ => ?_)
    · rw [isT_int] at h; cases h
    walk_at "xs"
    refine x_iteNB (fun h => ?_) (fun _ => ?_)
    · rw [isT_int] at h; cases h
    walk_at "xs"
    refine x_iteB (fun h => ?_) (fun _ => ?_)
    · rw [isT_bool] at h; cases h
    walk_at "xs"
    refine x_iteB (fun h => ?_) (fun _ => ?_)
    · rw [isT_bool] at h; cases h
    walk_at "xs"
    refine x_iteB (fun h => ?_) (fun _ => ?_)
    · rw [isT_bool] at h; cases h
    walk_at "xs"
    refine x_ite (fun _ => ?_) (fun h => absurd (by decide) h)
    walk_at "xs"
    refine x_iteNB (fun h => ?_) (fun _ => ?_)
    · rw [decide_eq_false_iff_not] at h
      exact absurd (by decide) h
    walk_at "xs"
    intro tk htk
    have Sk := same_upd htk (o := .tup [.int pr.1, .int pr.2])
    have ek := upd_same (H := H1) (a := tk) (o := .tup [.int pr.1, .int pr.2])
    have hp2 := Sk _ _ hp1
    generalize upd H1 tk _ = H2 at *
    walk_at "xs"
    refine ⟨p, _, rfl, .inr ⟨kvs, [.inl pr.1, .inl pr.2], tk, .inl hp2, rfl, ek, rfl⟩, ?_⟩
    rw [okr]
    walk_at "xs"
    exact ⟨_, _, _, _, rfl, S1.trans Sk⟩
  · rintro _ H1 ⟨y2, y3, y4, y5, rfl, S1⟩
    walk_at "xs"
    exact q _ S1
theorem kn_planOf {k : Nat} (D : Df K mg "is_plan_of" s_is_plan_of) (B : Bl mg) (CS : Cs mg t0 t1 t2 t3 t4) (c_is_count : Kn P w K mg base "is_count" k (sp1 (inD 1 (10 ^ 18)))) (c__are_runs : Kn P w K mg base "_are_runs" k spAreRuns) : Kn P w K mg base "is_plan_of" (k + 1) spPlanOf := by
  refine kn_of D (fun _ _ _ _ _ _ us hl => match us, hl with | [_, _], _ => rfl) sc_is_plan_of (fun vs H Q E h => by obtain ⟨p, q, kvs, t, rs, rfl, _⟩ := h; rfl) (fun f cd B' fr z H vs Q E hr gd h => ?_)
  obtain ⟨p, g, kvs, t, rs, rfl, hp, hg, ok, t0', t1', r0, r1, q⟩ := h
  refine ⟨_, (pss_cons (ps_if (PW.pt (pw_or (pt_not (pt_val (pe_callB call_isD (by rfl) B.isinstance (by decide +kernel) (pa_cons (pv 1) (pa_cons (pe_bltn (v := .ty "list") (u := .type "list") (by rfl) B.«list» (by decide +kernel) rfl) pa_nil))))) (pw_or1 (pt_cmpR op_gt (pe_callB call_len_seq (by rfl) B.len (by decide +kernel) (pa_cons (pv 1) pa_nil)) (pe_glob (v := .int (400)) (by rfl) CS.MOST_BLOCKS ⟨_, rfl⟩) (nomark _))))) (pss_one (ps_ret pe_bl)) pss_nil)
  (pss_cons (ps_set (i := 2) sc_is_plan_of.nd rfl (.inl rfl) pe_int)
  (pss_cons (ps_for PassesOwn.never rfl (pi_list (pv 1)) (pg_name (i := 3) sc_is_plan_of.nd rfl (.inl rfl))
  (pss_cons (ps_if (PW.pt (pw_or (pt_not (pt_val (pe_callB call_isD (by rfl) B.isinstance (by decide +kernel) (pa_cons (pv 3) (pa_cons (pe_bltn (v := .ty "tuple") (u := .type "tuple") (by rfl) B.«tuple» (by decide +kernel) rfl) pa_nil))))) (pw_or1 (pt_cmpR op_ne (pe_callB call_len_seq (by rfl) B.len (by decide +kernel) (pa_cons (pv 3) pa_nil)) pe_int (nomark _))))) (pss_one (ps_ret pe_bl)) pss_nil)
  (pss_cons (ps_asg (pv 3) (pg_tup (by rfl) (pgs_cons (pg_name (i := 4) sc_is_plan_of.nd rfl (.inl rfl)) (pgs_cons (pg_name (i := 5) sc_is_plan_of.nd rfl (.inl rfl)) pgs_nil))))
  (pss_cons (ps_if (PW.pt (pw_or (pt_not (pt_val (pe_own c_is_count hr gd (by rfl) (pa_cons (pv 4) pa_nil)))) (pw_or (pt_not (pt_val (pe_callB call_isD (by rfl) B.isinstance (by decide +kernel) (pa_cons (pv 5) (pa_cons (pe_bltn (v := .ty "list") (u := .type "list") (by rfl) B.«list» (by decide +kernel) rfl) pa_nil))))) (pw_or1 (pt_not (pt_chain op_le op_le pe_int (pe_callB call_len_seq (by rfl) B.len (by decide +kernel) (pa_cons (pv 5) pa_nil)) (pe_glob (v := .int (1000)) (by rfl) CS.MOST_RUNS_OF_A_BLOCK ⟨_, rfl⟩))))))) (pss_one (ps_ret pe_bl)) pss_nil)
  (pss_cons (ps_if (pt_not (pt_val (pe_own c__are_runs hr gd (by rfl) (pa_cons (pv 0) (pa_cons (pv 5) pa_nil))))) (pss_one (ps_ret pe_bl)) pss_nil)
  (pss_one (ps_aug (i := 2) sc_is_plan_of.nd rfl (.inl rfl) (pe_callB call_len_seq (by rfl) B.len (by decide +kernel) (pa_cons (pv 5) pa_nil)) ip_add)))))))
  (pss_one (ps_ret (pe_cmpR op_le (pv 2) (pe_glob (v := .int (4000)) (by rfl) CS.MOST_RUNS ⟨_, rfl⟩) (nomark _))))))), ?_⟩
  have hg' := hg
  cases hg' with
  | @lst _ gxs _ eg _ A =>
  have lA := A.length
  walk_at "xs"
  refine x_iteNB (fun h => ?_) (fun _ => ?_)
  · rw [isT_list] at h; cases h
  walk_at "xs"
  have lA : gxs.length = 1 := lA
  rw [lA]
  refine x_ite (fun h => absurd h (by decide)) (fun _ => ?_)
  walk_at "xs"
  refine for_list (K := K) (a := g) (xs := gxs) (fun j σ' H' => ∃ y3 y4 y5, σ' = [some (.ref p), some (.ref g), some (.int (if j = 0 then 0 else rs.length)), y3, y4, y5] ∧ Same H H') ?_ ?_ ?_ ?_
  · exact ⟨_, _, _, rfl, Same.refl _⟩
  · rintro j _ H' _ ⟨_, _, _, _, S⟩
    exact SqL.of (S _ _ eg)
  · rintro j v _ H1 hv ⟨y3, y4, y5, rfl, S1⟩
    obtain ⟨d, hd, dv⟩ := (A.ext (Ext.same S1)).get hv
    have hj := (List.getElem?_eq_some_iff.mp hd).1
    have hj : j < 1 := hj
    obtain rfl : j = 0 := by omega
    cases hd
    have dv' := dv
    obtain ⟨r, r1, rxs, rfl, er, e1, AR⟩ : ∃ (r r1 : Addr) (rxs : List V), v = .ref r ∧ H1 r = some (.tup [.int t, .ref r1]) ∧ H1 r1 = some (.lst rxs) ∧ DnAll [] H1 rxs (rs.map runD) := by
      unfold planD at dv
      cases dv with
      | tup e1 n1 A1 =>
      cases A1 with
      | cons a A2 =>
      cases a
      cases A2 with
      | cons b A3 =>
      cases A3
      cases b with
      | lst e2 n2 A4 => exact ⟨_, _, _, rfl, e1, e2, A4⟩
    have lR := AR.length
    rw [List.length_map] at lR
    have hp1 := S1 _ _ hp
    walk_at "xs"
    refine x_iteNB (fun h => ?_) (fun _ => ?_)
    · rw [isT_tuple] at h; cases h
    walk_at "xs"
    refine x_iteN (fun h => absurd rfl h) (fun _ => ?_)
    have dr : Dn [] H1 (.ref r1) (.list (rs.map runD)) := .lst e1 (by simp) AR
    walk_at "xs"
    refine x_sp1 (Dn.int (M := []) t) ?_
    rw [show inD 1 (10 ^ 18) (.int t) = true from by show (decide (1 ≤ t) && decide (t ≤ 10 ^ 18)) = true; rw [decide_eq_true t0', decide_eq_true (by have : (10 : Int) ^ 18 = 1000000000000000000 := by decide
                                                                                                                                                      omega)]; rfl]
    walk_at "xs"
    refine x_iteNB (fun h => ?_) (fun _ => ?_)
    · rw [isT_list] at h; cases h
    walk_at "xs"
    rw [lR]
    refine x_ite (fun _ => ?_) (fun h => absurd (show (1 : Int) ≤ rs.length by omega) h)
    walk_at "xs"
    refine x_iteNB (fun h => ?_) (fun _ => ?_)
    · rw [decide_eq_false_iff_not] at h
      exact absurd (show (rs.length : Int) ≤ 1000 by omega) h
    walk_at "xs"
    refine x_areR hp1 dr ok ?_
    intro H2 S2
    have e2 := S2 _ _ e1
    walk_at "xs"
    refine x_aug (x := .int 0) rfl ?_
    walk_at "xs"
    refine ⟨some (.ref r), some (.int t), some (.ref r1), ?_, S1.trans S2⟩
    rw [lR]
    simp [List.set]
  · rintro _ H1 ⟨y3, y4, y5, rfl, S1⟩
    rw [lA]
    walk_at "xs"
    rw [show decide ((if 1 = 0 then 0 else (rs.length : Int)) ≤ 4000) = true from decide_eq_true (by rw [if_neg (by decide)]; omega)]
    exact q _ S1
theorem kn_isPlan {k : Nat} (D : Df K mg "is_plan" s_is_plan) (B : Bl mg) (cc : Cc K mg C) (m_pairs : Km P w K mg base C "pairs" k (spPairs C)) (c_is_plan_of : Kn P w K mg base "is_plan_of" k spPlanOf) : Kn P w K mg base "is_plan" (k + 1) (spIsPlan C) := by
  refine kn_of D (fun _ _ _ _ _ _ us hl => match us, hl with | [_, _], _ => rfl) sc_is_plan (fun vs H Q E h => by obtain ⟨M, x, q, d1, rs0, t, rs, rfl, _⟩ := h; rfl) (fun f cd B' fr z H vs Q E hr gd h => ?_)
  obtain ⟨M, x, g, d1, rs0, t, rs, rfl, cl, hg, ok, t0', t1', r0, r1, q⟩ := h
  have c_Cluster := cc.ck
  refine ⟨_, (pss_one (ps_ret (pe_own c_is_plan_of hr gd (by rfl) (pa_cons (pe_ownM0 (pv 0) c_Cluster.cls m_pairs hr gd) (pa_cons (pv 1) pa_nil))))), ?_⟩
  obtain ⟨dx, B0, U0, N0, kvs, hx, _⟩ := id cl
  walk_at "xs"
  refine x_mAt hx (f3_none _ _ _ (by decide) (by decide) (by decide)) ?_
  walk_at "xs"
  refine ⟨x, M, d1, _, rfl, cl, ?_⟩
  intro H1 p kvs1 S1 np ep nd ek
  walk_at "xs"
  refine ⟨p, g, kvs1, t, rs, rfl, ep, hg.ext (Ext.same S1), fun r hr => ?_, t0', t1', r0, r1, ?_⟩
  · rw [ek]; exact ok r hr
  · intro H2 S2
    exact q _ (S1.trans S2)
end
/-! ### a plan's length -/
section
variable {P : Program} {w : World} {K : PySem.W.Frag} {mg : Str → Option Value} {base : Heap} {t0 t1 t2 t3 t4 : Tok} {C : Addr}
theorem kn_length {k : Nat} (D : Df K mg "length" s_length) (B : Bl mg) : Kn P w K mg base "length" (k + 1) spLength := by
  refine kn_of D (fun _ _ _ _ _ _ us hl => match us, hl with | [_], _ => rfl) sc_length (fun vs H Q E h => by obtain ⟨q, t, rs, rfl, _⟩ := h; rfl) (fun f cd B' fr z H vs Q E hr gd h => ?_)
  obtain ⟨g, t, rs, rfl, hg, l20, t0', t1', q⟩ := h
  refine ⟨_, (pss_one (ps_ret (pe_callB (cr_sum rfl) (by rfl) B.sum (by decide +kernel) (pa_cons (pe_lc (own := [("turns", 1), ("runs", 2)]) rfl sc_length.nd (pi_list (pv 0)) (blkOk_by (N := ["plan", "turns", "runs", "_", "times"]) (sc := defScope s_length) (by decide +kernel)) (fun _ _ _ _ _ => (pg_tupK K (n := 2) (pgs_cons (pg_name (i := 1) sc_length.nd rfl (.inl rfl)) (pgs_cons (pg_name (i := 2) sc_length.nd rfl (.inl rfl)) pgs_nil)))) (fun _ _ _ _ _ => pts_nil) (fun _ _ _ _ _ => (pe_op op_mul (pv 1) (pe_callB (cr_sumK K rfl) (by rfl) B.sum (by decide +kernel) (pa_cons (pe_lc (own := [("_", 3), ("_", 3), ("times", 4)]) rfl sc_length.nd (pi_listK K (pv 2)) (by exact blkOk_by (N := ["plan", "turns", "runs", "_", "times"]) (Eq.refl true)) (fun _ _ _ _ _ => (pg_tupK K (n := 3) (pgs_cons (pg_name (i := 3) sc_length.nd rfl (.inl rfl)) (pgs_cons (pg_name (i := 3) sc_length.nd rfl (.inl rfl)) (pgs_cons (pg_name (i := 4) sc_length.nd rfl (.inl rfl)) pgs_nil))))) (fun _ _ _ _ _ => pts_nil) (fun _ _ _ _ _ => (pv 4))) pa_nil))))) pa_nil)))), ?_⟩
  cases hg with
  | @lst _ gxs _ eg _ A =>
  have lA := A.length
  walk_at "xs"
  intro L hL
  refine lc_list (K := K) (a := g) (xs := gxs) (fun j H' => Same H H' ∧ H' L = some (.lst ((List.replicate j (t * (rs.length : Int))).map V.int))) ?_ ?_ ?_ ?_
  · exact ⟨same_upd hL, upd_same⟩
  · rintro j H' _ ⟨S, _⟩
    exact SqL.of (S _ _ eg)
  · rintro j v H' hv ⟨S, eL⟩
    obtain ⟨d, hd, dv⟩ := (A.ext (Ext.same S)).get hv
    have hj := (List.getElem?_eq_some_iff.mp hd).1
    have hj : j < 1 := hj
    obtain rfl : j = 0 := by omega
    cases hd
    obtain ⟨r, r1, rxs, rfl, er, e1, AR⟩ : ∃ (r r1 : Addr) (rxs : List V), v = .ref r ∧ H' r = some (.tup [.int t, .ref r1]) ∧ H' r1 = some (.lst rxs) ∧ DnAll [] H' rxs (rs.map runD) := by
      unfold planD at dv
      cases dv with
      | tup e1 n1 A1 =>
      cases A1 with
      | cons a A2 =>
      cases a
      cases A2 with
      | cons b A3 =>
      cases A3
      cases b with
      | lst e2 n2 A4 => exact ⟨_, _, _, rfl, e1, e2, A4⟩
    have lR := AR.length
    rw [List.length_map] at lR
    walk_at "xs"
    refine x_wiped rfl ?_
    walk_at "xs"
    intro L2 hL2
    refine lc_list (K := K) (a := r1) (xs := rxs) (fun i H2 => Same H' H2 ∧ H2 L2 = some (.lst ((List.replicate i (1 : Int)).map V.int))) ?_ ?_ ?_ ?_
    · exact ⟨same_upd hL2, upd_same⟩
    · rintro i H2 _ ⟨S2, _⟩
      exact SqL.of (S2 _ _ e1)
    · rintro i u H2 hu ⟨S2, eL2⟩
      obtain ⟨dP, hdP, dnP⟩ := (AR.ext (Ext.same S2)).get hu
      rw [List.getElem?_map] at hdP
      cases hpr : rs[i]? with
      | none => rw [hpr] at hdP; cases hdP
      | some pr =>
      rw [hpr] at hdP
      cases hdP
      obtain ⟨r2, rfl, nr2, hr5⟩ := Dn.tup3 (a := pr.1) (b := pr.2) (c := 1) dnP
      have hi := (List.getElem?_eq_some_iff.mp hpr).1
      walk_at "xs"
      refine x_wiped rfl ?_
      walk_at "xs"
      refine x_acc eL2 (by rw [List.length_map, List.length_replicate, sizeLine_eq]; omega) ?_
      refine ⟨fun z o e => ?_, ?_⟩
      · rw [upd_ne (ne_of_none e hL2)]; exact S2 _ _ e
      · rw [upd_same, List.replicate_succ', List.map_append]; rfl
    · rintro H2 ⟨S2, eL2⟩
      rw [lR] at eL2
      have sm : (List.replicate rs.length (1 : Int)).sum = (rs.length : Int) := by
        induction rs.length with
        | zero => rfl
        | succ n ih => rw [List.replicate_succ, List.sum_cons, ih]; omega
      have eL := S2 _ _ eL
      walk_at "xs"
      refine ⟨L2, _, rfl, SqL.of eL2, ?_⟩
      rw [sm]
      walk_at "xs"
      refine ⟨[], eL, by rw [sizeLine_eq]; decide, fun z o e => ?_, upd_same⟩
      rw [upd_ne (ne_of_none e hL)]; exact S2 _ _ (S _ _ e)
  · rintro H' ⟨S, eL⟩
    have lA : gxs.length = 1 := lA
    rw [lA] at eL
    walk_at "xs"
    refine ⟨L, _, rfl, SqL.of eL, ?_⟩
    have e : (List.replicate 1 (t * (rs.length : Int))).sum = t * rs.length := by simp
    rw [e]
    exact q _ S
end
/-! ### along: any way of brokers -/
def AlOk (ds rs : List PyData) (ls bs : List Int) (b0 bl t : Int) : Prop := (∀ pr ∈ pairsOf bs, CanP ds rs ls t pr) ∧
  (ds.map floD).getD b0.toNat 0 ≤ (ldOf ds.length rs ls ls.length).getD b0.toNat 0 - t ∧ (ldOf ds.length rs ls ls.length).getD bl.toNat 0 + t ≤ (ds.map ceiD).getD bl.toNat 0
theorem at_first {bs : List Int} {b0 : Int} (h : bs.head? = some b0) : atI (bs.map V.int) 0 = some (.int b0) := by
  cases bs with
  | nil => cases h
  | cons a r =>
    cases h
    exact atV (ls := b0 :: r) (k := 0) rfl
theorem at_last {bs : List Int} {bl : Int} (h : bs.getLast? = some bl) : atI (bs.map V.int) (-1) = some (.int bl) := by
  obtain ⟨v, rfl⟩ := List.getLast?_eq_some_iff.mp h
  rw [List.map_append]
  exact atI_last _ _
theorem first_in {n : Int} {bs : List Int} {b0 : Int} (h : ∀ pr ∈ pairsOf bs, (0 ≤ pr.1 ∧ pr.1 < n) ∧ (0 ≤ pr.2 ∧ pr.2 < n) ∧ pr.1 ≠ pr.2) (m : 2 ≤ bs.length) (e : bs.head? = some b0) : 0 ≤ b0 ∧ b0 < n := by
  match bs, m, e, h with
  | a :: b :: r, _, e, h =>
    cases e
    exact (h (b0, b) (by unfold pairsOf; simp)).1
theorem last_in {n : Int} {bs : List Int} {bl : Int} (h : ∀ pr ∈ pairsOf bs, (0 ≤ pr.1 ∧ pr.1 < n) ∧ (0 ≤ pr.2 ∧ pr.2 < n) ∧ pr.1 ≠ pr.2) (m : 2 ≤ bs.length) (e : bs.getLast? = some bl) : 0 ≤ bl ∧ bl < n := by
  have hi : bs[bs.length - 1]? = some bl := by rw [← List.getLast?_eq_getElem?]; exact e
  have ht : (pairsOf bs)[bs.length - 2]? = some (bs[bs.length - 2]'(by omega), bl) := by
    unfold pairsOf
    rw [List.getElem?_zip_eq_some]
    refine ⟨List.getElem?_eq_getElem _, ?_⟩
    rw [List.getElem?_tail, show bs.length - 2 + 1 = bs.length - 1 by omega]
    exact hi
  exact (h _ (List.mem_of_getElem? ht)).2.1
def spAlong (C CL : Addr) : Sp := fun vs H Q E => ∃ (M : List Addr) (x p q : Addr) (t : Int) (ds rs : List PyData) (ls bs : List Int) (b0 bl : Int), vs = [.ref x, .ref p, .ref q, .int t] ∧ Clu C M H x (.list ds) (.list rs) ∧ H p = some (.tup (ls.map V.int)) ∧ Wd ds rs ls ∧
  H q = some (.lst (bs.map V.int)) ∧ 2 ≤ bs.length ∧ bs.length ≤ 10 ∧ bs.head? = some b0 ∧ bs.getLast? = some bl ∧ (∀ pr ∈ pairsOf bs, (0 ≤ pr.1 ∧ pr.1 < ds.length) ∧ (0 ≤ pr.2 ∧ pr.2 < ds.length) ∧ pr.1 ≠ pr.2) ∧
  (AlOk ds rs ls bs b0 bl t → ∀ H' u v r, Same H H' → H u = none → H r = none → H' u = some (.lst [.ref v]) → H' v = some (.tup [.int t, .ref r]) → Dn [] H' (.ref r) (.list ((rgo (dnL ds (ldOf ds.length rs ls ls.length)) [] (pairsOf bs)).map runD)) → Q (.ref u) H') ∧
  (¬ AlOk ds rs ls bs b0 bl t → ∀ H', Same H H' → E (.ref CL) none H')
section
variable {P : Program} {w : World} {K : PySem.W.Frag} {mg : Str → Option Value} {base : Heap} {t0 t1 t2 t3 t4 : Tok} {C CL : Addr}
theorem kx_along {k : Nat} (D : Df K mg "along" s_along) (B : Bl mg) (cc : Cc K mg C) (ex_NotLegal : Ex0 K mg "NotLegal" CL) (c_loads : Kn P w K mg base "loads" k (spLoadsP C)) (c__can_hand : Kn P w K mg base "_can_hand" k (spCan C)) (c_way_pairs : Kn P w K mg base "way_pairs" k spWayP) (c_way_block : Kn P w K mg base "way_block" k spWayB) (c_takers : Kn P w K mg base "takers" k (spNumsP C dnL)) (m_floor : Km P w K mg base C "floor" k (spSide C false)) (m_ceiling : Km P w K mg base C "ceiling" k (spSide C true)) : Kx P w K mg base "along" (k + 1) (spAlong C CL) := by
  refine kx_of D (fun _ _ _ _ _ _ us hl => match us, hl with | [_, _, _, _], _ => rfl) sc_along (fun vs H Q E h => by obtain ⟨M, x, p, q, t, ds, rs, ls, bs, b0, bl, rfl, _⟩ := h; rfl) (fun f cd B' fr z H vs Q E hr gd h => ?_)
  obtain ⟨M, x, p, g, t, ds, rs, ls, bs, b0, bl, rfl, cl, hp, wd, hg, m0, m1, hb0, hbl, hin, q, qn⟩ := h
  have c_Cluster := cc.ck
  refine ⟨_, (pss_cons (ps_par3 (i := 4) (j := 5) (l := 6) (by rfl) sc_along.nd rfl rfl rfl (by decide) (by decide) (by decide) rfl rfl rfl (pa_cons (pe_own c_loads hr gd (by rfl) (pa_cons (pv 0) (pa_cons (pv 1) pa_nil))) (pa_cons (pe_ix (r := rIxL K) ix_list (pv 2) pe_int (fun _ _ => rfl)) (pa_cons (pe_ix (r := rIxL K) ix_list (pv 2) (pe_un un_neg pe_int) (fun _ _ => rfl)) pa_nil))) (by rfl))
  (pss_cons (ps_if (pt_not (pt_val (pe_own c__can_hand hr gd (by rfl) (pa_cons (pv 0) (pa_cons (pv 1) (pa_cons (pe_own c_way_pairs hr gd (by rfl) (pa_cons (pv 2) pa_nil)) (pa_cons (pv 3) pa_nil))))))) (pss_one (ps_raise rfl (takes_of rfl rfl rfl rfl) (pmk_ex0 ex_NotLegal (by rfl)))) pss_nil)
  (pss_cons (ps_if (PW.pt (pw_or (pt_cmpR op_lt (pe_op op_sub (pe_ix (r := rIxL K) ix_list (pv 4) (pv 5) (fun _ _ => rfl)) (pv 3)) (pe_ownM (pv 0) c_Cluster.cls m_floor hr gd (pa_cons (pv 5) pa_nil)) (nomark _)) (pw_or1 (pt_cmpR op_gt (pe_op op_add (pe_ix (r := rIxL K) ix_list (pv 4) (pv 6) (fun _ _ => rfl)) (pv 3)) (pe_ownM (pv 0) c_Cluster.cls m_ceiling hr gd (pa_cons (pv 6) pa_nil)) (nomark _))))) (pss_one (ps_raise rfl (takes_of rfl rfl rfl rfl) (pmk_ex0 ex_NotLegal (by rfl)))) pss_nil)
  (pss_one (ps_ret (pe_lst (pa_cons (pe_own c_way_block hr gd (by rfl) (pa_cons (pv 2) (pa_cons (pv 3) (pa_cons (pe_own c_takers hr gd (by rfl) (pa_cons (pv 0) (pa_cons (pv 1) pa_nil))) pa_nil)))) pa_nil))))))), ?_⟩
  have n10 := bounds_len wd.b1
  obtain ⟨dx, B0, U0, N0, kvs, hx, _⟩ := id cl
  walk_at "xs"
  refine x_par3 ?_
  walk_at "xs"
  refine ⟨x, p, M, ds, rs, ls, rfl, cl, hp, wd.b1, wd.b2, wd.lo.1, ?_⟩
  intro H1 F S1 nF eF
  have hg1 := S1 _ _ hg
  walk_at "xs"
  refine x_ixL (SqL.of hg1) (at_first hb0) ?_
  walk_at "xs"
  refine x_ixL (SqL.of hg1) (at_last hbl) ?_
  walk_at "xs"
  refine ⟨_, _, _, rfl, ?_⟩
  walk_at "xs"
  refine x_wayP hg1 (by omega) ?_
  intro H2 q2 S2 _ d2
  have S12 := S1.trans S2
  walk_at "xs"
  refine ⟨M, [], x, p, q2, t, ds, rs, ls, _, rfl, cl.ext (Ext.same S12), S12 _ _ hp, wd.b1, wd.b2, wd.lo.1, d2, hin, ?_⟩
  intro H3 b S3 hb
  have S13 := S12.trans S3
  have eF3 := (S2.trans S3) _ _ eF
  have hx3 := S13 _ _ hx
  have cl3 := cl.ext (Ext.same S13)
  have lld := ld_len ds.length rs ls ls.length
  walk_at "xs"
  refine x_iteNB (fun c => ?_) (fun c => ?_)
  · walk_at "xs"
    exact qn (fun ok => by rw [hb.mpr ok.1] at c; cases c) _ S13
  have can := hb.mp c
  obtain ⟨r0, r1⟩ := first_in hin m0 hb0
  obtain ⟨r2, r3⟩ := last_in hin m0 hbl
  obtain ⟨lo0, up0, hrow0, le0, _⟩ := bound_at wd.b1 (i := b0.toNat) (by omega)
  obtain ⟨lo1, up1, hrow1, le1, _⟩ := bound_at wd.b1 (i := bl.toNat) (by omega)
  have au0 := atVi (ls := ldOf ds.length rs ls ls.length) r0 (by rw [lld]; exact r1)
  have au1 := atVi (ls := ldOf ds.length rs ls ls.length) r2 (by rw [lld]; exact r3)
  have f0 : (ds.map floD).getD b0.toNat 0 = lo0 := by rw [List.getD_eq_getElem?_getD, List.getElem?_map, hrow0]; rfl
  have f1 : (ds.map ceiD).getD bl.toNat 0 = up1 := by rw [List.getD_eq_getElem?_getD, List.getElem?_map, hrow1]; rfl
  have iff1 : AlOk ds rs ls bs b0 bl t ↔ lo0 ≤ (ldOf ds.length rs ls ls.length).getD b0.toNat 0 - t ∧ (ldOf ds.length rs ls ls.length).getD bl.toNat 0 + t ≤ up1 := by
    unfold AlOk
    rw [f0, f1]
    exact ⟨fun h => h.2, fun h => ⟨can, h⟩⟩
  generalize (ldOf ds.length rs ls ls.length).getD b0.toNat 0 = h0 at *
  generalize (ldOf ds.length rs ls ls.length).getD bl.toNat 0 = h1 at *
  walk_at "xs"
  refine x_ixL (SqL.of eF3) au0 ?_
  walk_at "xs"
  refine x_mAt hx3 (f3_none _ _ _ (by decide) (by decide) (by decide)) ?_
  walk_at "xs"
  refine ⟨x, M, ds, _, b0, lo0, up0, rfl, cl3, r0, r1, hrow0, ?_⟩
  walk_at "xs"
  refine x_ite (fun c1 => ?_) (fun c1 => ?_)
  · exact qn (fun ok => by
      have := (iff1.mp ok).1
      have c1 : h0 - t < lo0 := c1
      omega) _ S13
  have c1 : ¬ h0 - t < lo0 := c1
  walk_at "xs"
  refine x_ixL (SqL.of eF3) au1 ?_
  walk_at "xs"
  refine x_mAt hx3 (f3_none _ _ _ (by decide) (by decide) (by decide)) ?_
  walk_at "xs"
  refine ⟨x, M, ds, _, bl, lo1, up1, rfl, cl3, r2, r3, hrow1, ?_⟩
  walk_at "xs"
  refine x_ite (fun c2 => ?_) (fun c2 => ?_)
  · refine qn (fun ok => ?_) _ S13
    have := (iff1.mp ok).2
    have c2 : up1 < h1 + t := c2
    omega
  have c2 : ¬ up1 < h1 + t := c2
  walk_at "xs"
  refine ⟨x, p, M, ds, rs, ls, rfl, cl3, S13 _ _ hp, wd, ?_⟩
  intro H4 T S4 _ eT
  have S14 := S13.trans S4
  walk_at "xs"
  refine x_wayB (S14 _ _ hg) (by omega) eT ?_
  intro H5 q5 r5 S5 n5 e5 d5
  walk_at "xs"
  intro u hu
  have S6 := same_upd hu (o := .lst [.ref q5])
  have S15 := S14.trans S5
  walk_at "xs"
  exact q (iff1.mpr ⟨by omega, by omega⟩) _ u q5 r5 (S15.trans S6) (S15.free hu) (S14.free n5) upd_same (S6 _ _ e5) (d5.ext (Ext.same S6))
end
/-! ### a way's runs are legal, turn by turn -/
def gi (x : Int) (p : Int × Int) : Int := (if x = p.2 then 1 else 0) - (if x = p.1 then 1 else 0)
def dl (d : PyData) (p : Int × Int) : Int := match d with
  | .tuple [.int a, .int b, .int _] => if a = p.1 ∧ b = p.2 then -1 else if a = p.2 ∧ b = p.1 then 1 else 0
  | _ => 0
theorem mv1_dl (d : PyData) (l i j t : Int) : mv1 d l i j t = l + t * dl d (i, j) := by
  unfold mv1 dl
  split
  · dsimp only
    split
    · omega
    · split
      · omega
      · omega
  · rename_i h
    first
    | omega
    | (dsimp only
       split
       · exact absurd rfl (h _ _ _)
       · omega)
theorem perm_sum {α : Type} {f : α → Int} {a b : List α} (h : a.Perm b) : (a.map f).sum = (b.map f).sum := by
  induction h with
  | nil => rfl
  | cons x _ ih => rw [List.map_cons, List.map_cons, List.sum_cons, List.sum_cons, ih]
  | swap x y l => simp only [List.map_cons, List.sum_cons]; omega
  | trans _ _ h1 h2 => exact h1.trans h2
abbrev pr2 (q : Run) : Int × Int := (q.1, q.2.1)
theorem trn_le {rs : List PyData} {k : Nat} {d : PyData} (hd : rs[k]? = some d) : ∀ {qs : List Run} {s : WSt} {l : Int}, s.1[k]? = some l → (trn rs s qs).1[k]? = some (l + (qs.map fun q => q.2.2 * dl d (pr2 q)).sum)
  | [], s, l, h => by rw [show trn rs s [] = s from rfl, h]; simp
  | q :: qs, s, l, h => by
    have h1 : (mvQ rs s q).1[k]? = some (mv1 d l q.1 q.2.1 q.2.2) := mvL_at h hd
    have := trn_le hd (qs := qs) h1
    rw [show trn rs s (q :: qs) = trn rs (mvQ rs s q) qs from rfl, this, mv1_dl, List.map_cons, List.sum_cons, show dl d (pr2 q) = dl d (q.1, q.2.1) from rfl]
    congr 1
    omega
theorem set2_at {hs : List Int} {i j x t : Int} (i0 : 0 ≤ i) (i1 : i < hs.length) (j0 : 0 ≤ j) (j1 : j < hs.length) (ij : i ≠ j) (x0 : 0 ≤ x) (x1 : x < hs.length) :
    ((hs.set i.toNat (hs.getD i.toNat 0 - t)).set j.toNat (hs.getD j.toNat 0 + t)).getD x.toNat 0 = hs.getD x.toNat 0 + t * gi x (i, j) := by
  unfold gi
  simp only [List.getD_eq_getElem?_getD, List.getElem?_set, List.length_set]
  by_cases h1 : x = j
  · subst h1
    rw [if_pos rfl, if_pos (by omega), if_pos rfl, if_neg (fun h => ij h.symm)]
    simp
  · rw [if_neg (by omega), if_neg h1]
    by_cases h2 : x = i
    · subst h2
      rw [if_pos rfl, if_pos (by omega), if_pos rfl]
      simp
      omega
    · rw [if_neg (by omega), if_neg h2]
      simp
structure QRng (n : Nat) (q : Run) : Prop where
  i0 : 0 ≤ q.1
  i1 : q.1 < n
  j0 : 0 ≤ q.2.1
  j1 : q.2.1 < n
  ij : q.1 ≠ q.2.1
theorem trn_hs {rs : List PyData} {n : Nat} {x : Int} (x0 : 0 ≤ x) (x1 : x < n) : ∀ {qs : List Run} {s : WSt}, s.2.length = n → (∀ q ∈ qs, QRng n q) → (trn rs s qs).2.getD x.toNat 0 = s.2.getD x.toNat 0 + (qs.map fun q => q.2.2 * gi x (pr2 q)).sum
  | [], s, h, _ => by simp [trn]
  | q :: qs, s, h, hq => by
    have r := hq q (List.mem_cons_self ..)
    have e : (mvQ rs s q).2.getD x.toNat 0 = s.2.getD x.toNat 0 + q.2.2 * gi x (pr2 q) := set2_at r.i0 (by rw [h]; exact r.i1) r.j0 (by rw [h]; exact r.j1) r.ij x0 (by rw [h]; exact x1)
    have hl : (mvQ rs s q).2.length = n := by
      show ((s.2.set _ _).set _ _).length = n
      rw [List.length_set, List.length_set, h]
    have := trn_hs (rs := rs) x0 x1 (qs := qs) hl (fun q' h' => hq q' (List.mem_cons_of_mem _ h'))
    rw [show trn rs s (q :: qs) = trn rs (mvQ rs s q) qs from rfl, this, e, List.map_cons, List.sum_cons]
    omega
/-! the order of the runs -/
theorem rgo_perm (fs : List Int) : ∀ (ps held : List (Int × Int)), (rgo fs held ps).Perm (held ++ ps)
  | [], held => by
    rw [List.append_nil]
    exact List.reverse_perm held
  | p :: r, held => by
    unfold rgo
    split
    · exact ((List.reverse_perm held).append ((rgo_perm fs r [p]))).trans (by simp)
    · exact (rgo_perm fs r (held ++ [p])).trans (by simp)
theorem rgo_held (fs : List Int) : ∀ (ps held : List (Int × Int)), ∃ U V, rgo fs held ps = U ++ (held.reverse ++ V)
  | [], held => ⟨[], [], by simp [rgo]⟩
  | p :: r, held => by
    unfold rgo
    split
    · exact ⟨[], _, rfl⟩
    · obtain ⟨U, V, e⟩ := rgo_held fs r (held ++ [p])
      exact ⟨U ++ [p], V, by rw [e]; simp⟩
theorem rgo_order (fs : List Int) (p q : Int × Int) (B : List (Int × Int)) : ∀ (A held : List (Int × Int)),
    (q.1 ∈ fs → ∃ U V, rgo fs held (A ++ p :: q :: B) = U ++ V ∧ p ∈ U ∧ q ∈ V) ∧ (q.1 ∉ fs → ∃ U V, rgo fs held (A ++ p :: q :: B) = U ++ V ∧ q ∈ U ∧ p ∈ V)
  | a :: A, held => by
    show (_ → ∃ U V, (if a.1 ∈ fs then held.reverse ++ rgo fs [a] (A ++ p :: q :: B) else rgo fs (held ++ [a]) (A ++ p :: q :: B)) = _ ∧ _) ∧ (_ → ∃ U V, (if a.1 ∈ fs then held.reverse ++ rgo fs [a] (A ++ p :: q :: B) else rgo fs (held ++ [a]) (A ++ p :: q :: B)) = _ ∧ _)
    split
    · obtain ⟨h1, h2⟩ := rgo_order fs p q B A [a]
      refine ⟨fun h => ?_, fun h => ?_⟩
      · obtain ⟨U, V, e, m1, m2⟩ := h1 h
        exact ⟨held.reverse ++ U, V, by rw [e, List.append_assoc], List.mem_append.mpr (.inr m1), m2⟩
      · obtain ⟨U, V, e, m1, m2⟩ := h2 h
        exact ⟨held.reverse ++ U, V, by rw [e, List.append_assoc], List.mem_append.mpr (.inr m1), m2⟩
    · exact rgo_order fs p q B A (held ++ [a])
  | [], held => by
    have key : ∀ X : List (Int × Int), (q.1 ∈ fs → ∃ U V, rgo fs (X ++ [p]) (q :: B) = U ++ V ∧ p ∈ U ∧ q ∈ V) ∧ (q.1 ∉ fs → ∃ U V, rgo fs (X ++ [p]) (q :: B) = U ++ V ∧ q ∈ U ∧ p ∈ V) := by
      intro X
      refine ⟨fun h => ?_, fun h => ?_⟩
      · rw [rgo, if_pos h]
        exact ⟨_, _, rfl, by simp, (rgo_perm fs B [q]).mem_iff.mpr (by simp)⟩
      · rw [rgo, if_neg h]
        obtain ⟨U, V, e⟩ := rgo_held fs B (X ++ [p] ++ [q])
        refine ⟨U ++ [q], p :: X.reverse ++ V, ?_, by simp, by simp⟩
        rw [e]; simp
    show (_ → ∃ U V, (if p.1 ∈ fs then held.reverse ++ rgo fs [p] (q :: B) else rgo fs (held ++ [p]) (q :: B)) = _ ∧ _) ∧ (_ → ∃ U V, (if p.1 ∈ fs then held.reverse ++ rgo fs [p] (q :: B) else rgo fs (held ++ [p]) (q :: B)) = _ ∧ _)
    split
    · obtain ⟨h1, h2⟩ := key []
      refine ⟨fun h => ?_, fun h => ?_⟩
      · obtain ⟨U, V, e, m1, m2⟩ := h1 h
        exact ⟨held.reverse ++ U, V, by rw [List.nil_append] at e; rw [e, List.append_assoc], List.mem_append.mpr (.inr m1), m2⟩
      · obtain ⟨U, V, e, m1, m2⟩ := h2 h
        exact ⟨held.reverse ++ U, V, by rw [List.nil_append] at e; rw [e, List.append_assoc], List.mem_append.mpr (.inr m1), m2⟩
    · exact key held
/-! ### pairs along a way of different brokers -/
theorem pr_at {bs : List Int} {i : Nat} {p : Int × Int} : (pairsOf bs)[i]? = some p ↔ bs[i]? = some p.1 ∧ bs[i + 1]? = some p.2 := by
  unfold pairsOf
  rw [List.getElem?_zip_eq_some, List.getElem?_tail]
theorem pr_mem {bs : List Int} {p : Int × Int} (h : p ∈ pairsOf bs) : ∃ i, bs[i]? = some p.1 ∧ bs[i + 1]? = some p.2 := by
  obtain ⟨i, hi⟩ := List.mem_iff_getElem?.mp h
  exact ⟨i, pr_at.mp hi⟩
theorem nd_at {bs : List Int} (nd : bs.Nodup) {i j : Nat} {x : Int} (h1 : bs[i]? = some x) (h2 : bs[j]? = some x) : i = j :=
  (List.getElem?_inj (List.getElem?_eq_some_iff.mp h1).1 nd).mp (h1.trans h2.symm)
theorem tele (x : Int) : ∀ {bs : List Int} {b0 bl : Int}, bs.head? = some b0 → bs.getLast? = some bl → ((pairsOf bs).map (gi x)).sum = (if x = bl then 1 else 0) - (if x = b0 then 1 else 0)
  | [], _, _, h, _ => by cases h
  | [a], b0, bl, h1, h2 => by
    cases h1
    have h2 : some a = some bl := h2
    cases h2
    show (0 : Int) = _
    omega
  | a :: b :: r, b0, bl, h1, h2 => by
    cases h1
    have ih := tele x (bs := b :: r) (b0 := b) (bl := bl) rfl (by rw [← h2]; rfl)
    rw [show pairsOf (_ :: b :: r) = (_, b) :: pairsOf (b :: r) from rfl, List.map_cons, List.sum_cons, ih]
    unfold gi
    dsimp only
    omega
theorem split2 {α : Type} {l : List α} {i : Nat} {p q : α} (h1 : l[i]? = some p) (h2 : l[i + 1]? = some q) : ∃ A B, l = A ++ p :: q :: B := by
  obtain ⟨a1, e1⟩ := List.getElem?_eq_some_iff.mp h1
  obtain ⟨a2, e2⟩ := List.getElem?_eq_some_iff.mp h2
  refine ⟨l.take i, l.drop (i + 2), ?_⟩
  have d1 := List.drop_eq_getElem_cons a1
  have d2 := List.drop_eq_getElem_cons a2
  rw [← e1, ← e2, ← d2, ← d1, List.take_append_drop]
section
variable {bs : List Int} {b0 bl : Int}
theorem pr_ne (nd : bs.Nodup) {p : Int × Int} (h : p ∈ pairsOf bs) : p.1 ≠ p.2 := fun e => by
  obtain ⟨i, h1, h2⟩ := pr_mem h
  rw [← e] at h2
  have := nd_at nd h1 h2
  omega
theorem pr_fst (nd : bs.Nodup) {p q : Int × Int} (h : p ∈ pairsOf bs) (h' : q ∈ pairsOf bs) (e : p.1 = q.1) : p = q := by
  obtain ⟨i, h1, h2⟩ := pr_mem h
  obtain ⟨j, g1, g2⟩ := pr_mem h'
  rw [e] at h1
  have := nd_at nd h1 g1
  subst this
  rw [h2] at g2
  exact Prod.ext e (Option.some.inj g2)
theorem pr_snd (nd : bs.Nodup) {p q : Int × Int} (h : p ∈ pairsOf bs) (h' : q ∈ pairsOf bs) (e : p.2 = q.2) : p = q := by
  obtain ⟨i, h1, h2⟩ := pr_mem h
  obtain ⟨j, g1, g2⟩ := pr_mem h'
  rw [e] at h2
  have := nd_at nd h2 g2
  have : i = j := by omega
  subst this
  rw [h1] at g1
  exact Prod.ext (Option.some.inj g1) e
theorem pr_swap (nd : bs.Nodup) {p q : Int × Int} (h : p ∈ pairsOf bs) (h' : q ∈ pairsOf bs) : ¬ (p.1 = q.2 ∧ p.2 = q.1) := by
  rintro ⟨e1, e2⟩
  obtain ⟨i, h1, h2⟩ := pr_mem h
  obtain ⟨j, g1, g2⟩ := pr_mem h'
  rw [e1] at h1
  rw [e2] at h2
  have := nd_at nd h1 g2
  have := nd_at nd h2 g1
  omega
theorem pr_nodup (nd : bs.Nodup) : (pairsOf bs).Nodup := by
  refine List.pairwise_iff_getElem.mpr fun i j hi hj hij e => ?_
  have g1 := pr_at.mp (List.getElem?_eq_getElem hi)
  have g2 := pr_at.mp (List.getElem?_eq_getElem hj)
  rw [e] at g1
  have := nd_at nd g1.1 g2.1
  omega
theorem pr_pred (nd : bs.Nodup) (h0 : bs.head? = some b0) (hl : bs.getLast? = some bl) {q : Int × Int} (h : q ∈ pairsOf bs) : q.1 = b0 ∨ (q.1 ∈ bs ∧ q.1 ≠ b0 ∧ q.1 ≠ bl ∧ ∃ A p B, pairsOf bs = A ++ p :: q :: B ∧ p.2 = q.1) := by
  obtain ⟨i, hi⟩ := List.mem_iff_getElem?.mp h
  obtain ⟨h1, h2⟩ := pr_at.mp hi
  rw [List.head?_eq_getElem?] at h0
  rw [List.getLast?_eq_getElem?] at hl
  cases i with
  | zero =>
    rw [h0] at h1
    exact .inl (Option.some.inj h1).symm
  | succ i =>
    have hlt := (List.getElem?_eq_some_iff.mp h2).1
    obtain ⟨x, hx⟩ : ∃ x, bs[i]? = some x := ⟨_, List.getElem?_eq_getElem (by omega)⟩
    obtain ⟨A, B, e⟩ := split2 ((pr_at (p := (x, q.1))).mpr ⟨hx, h1⟩) hi
    refine .inr ⟨List.mem_of_getElem? h1, fun e => ?_, fun e => ?_, A, _, B, e, rfl⟩
    · rw [e] at h1
      have := nd_at nd h1 h0
      omega
    · rw [e] at h1
      have := nd_at nd h1 hl
      omega
theorem pr_succ (nd : bs.Nodup) (h0 : bs.head? = some b0) (hl : bs.getLast? = some bl) {p : Int × Int} (h : p ∈ pairsOf bs) : p.2 = bl ∨ (p.2 ∈ bs ∧ p.2 ≠ b0 ∧ p.2 ≠ bl ∧ ∃ A q B, pairsOf bs = A ++ p :: q :: B ∧ q.1 = p.2) := by
  obtain ⟨i, hi⟩ := List.mem_iff_getElem?.mp h
  obtain ⟨h1, h2⟩ := pr_at.mp hi
  rw [List.head?_eq_getElem?] at h0
  rw [List.getLast?_eq_getElem?] at hl
  have hlt := (List.getElem?_eq_some_iff.mp h2).1
  by_cases e : i + 2 = bs.length
  · rw [show bs.length - 1 = i + 1 by omega, h2] at hl
    exact .inl (Option.some.inj hl)
  · obtain ⟨x, hx⟩ : ∃ x, bs[i + 2]? = some x := ⟨_, List.getElem?_eq_getElem (by omega)⟩
    obtain ⟨A, B, e'⟩ := split2 hi ((pr_at (p := (p.2, x))).mpr ⟨h2, hx⟩)
    refine .inr ⟨List.mem_of_getElem? h2, fun e => ?_, fun e => ?_, A, _, B, e', rfl⟩
    · rw [e] at h2
      have := nd_at nd h2 h0
      omega
    · rw [e] at h2
      have := nd_at nd h2 hl
      omega
end
theorem sum_nn {α : Type} {f : α → Int} : ∀ {l : List α}, (∀ a ∈ l, 0 ≤ f a) → 0 ≤ (l.map f).sum
  | [], _ => Int.le_refl _
  | a :: l, h => by
    have := sum_nn (l := l) (fun x hx => h x (List.mem_cons_of_mem _ hx))
    have := h a (List.mem_cons_self ..)
    rw [List.map_cons, List.sum_cons]
    omega
theorem sum_at {α : Type} {f : α → Int} {a : α} : ∀ {l : List α}, (∀ a ∈ l, 0 ≤ f a) → a ∈ l → f a ≤ (l.map f).sum
  | [], _, m => by cases m
  | b :: l, h, m => by
    have h1 := sum_nn (l := l) (fun x hx => h x (List.mem_cons_of_mem _ hx))
    have h2 := h b (List.mem_cons_self ..)
    rw [List.map_cons, List.sum_cons]
    rcases List.mem_cons.mp m with rfl | m
    · omega
    · have := sum_at (l := l) (fun x hx => h x (List.mem_cons_of_mem _ hx)) m
      omega
theorem sum_np {α : Type} {f : α → Int} {l : List α} (h : ∀ a ∈ l, f a ≤ 0) : (l.map f).sum ≤ 0 := by
  have := sum_nn (f := fun a => - f a) (l := l) (fun a ha => by have := h a ha; omega)
  have e : ∀ l : List α, (l.map fun a => - f a).sum = - (l.map f).sum := fun l => by
    induction l with
    | nil => rfl
    | cons a l ih => rw [List.map_cons, List.map_cons, List.sum_cons, List.sum_cons, ih]; omega
  rw [e] at this
  omega
theorem sum_an {α : Type} {f : α → Int} {a : α} {l : List α} (h : ∀ a ∈ l, f a ≤ 0) (m : a ∈ l) : (l.map f).sum ≤ f a := by
  have := sum_at (f := fun a => - f a) (l := l) (fun a ha => by have := h a ha; omega) m
  have e : ∀ l : List α, (l.map fun a => - f a).sum = - (l.map f).sum := fun l => by
    induction l with
    | nil => rfl
    | cons a l ih => rw [List.map_cons, List.map_cons, List.sum_cons, List.sum_cons, ih]; omega
  rw [e] at this
  omega
theorem before {α : Type} {O U V : List α} {i : Nat} {p w : α} (nd : O.Nodup) (e : O = U ++ V) (hp : O[i]? = some p) (hv : p ∈ V) (hw : w ∈ U) : w ∈ O.take i := by
  have hi : U.length ≤ i := by
    apply Decidable.byContradiction
    intro h
    subst e
    rw [List.getElem?_append_left (by omega)] at hp
    rw [List.nodup_append] at nd
    exact nd.2.2 p (List.mem_of_getElem? hp) p hv rfl
  subst e
  rw [List.take_append]
  exact List.mem_append.mpr (.inl (by rw [List.take_of_length_le hi]; exact hw))
/-! ### a way's turn is legal -/
def q1 (p : Int × Int) : Run := (p.1, p.2, 1)
structure WayS (ds rs : List PyData) (fs bs : List Int) (b0 bl : Int) (s : WSt) : Prop where
  nd : bs.Nodup
  h0 : bs.head? = some b0
  hl : bs.getLast? = some bl
  rng : ∀ x ∈ bs, 0 ≤ x ∧ x < ds.length
  led : ∀ p ∈ pairsOf bs, ∃ (k : Nat) (a b c l : Int), rs[k]? = some (tupD [a, b, c]) ∧ s.1[k]? = some l ∧ ((p.1 = a ∧ p.2 = b) ∨ (p.1 = b ∧ p.2 = a)) ∧ (0 ≤ (if p.1 < p.2 then l - 1 else l + 1) ∧ (if p.1 < p.2 then l - 1 else l + 1) ≤ c)
  fst : (ds.map floD).getD b0.toNat 0 ≤ s.2.getD b0.toNat 0 - 1
  lst : s.2.getD bl.toNat 0 + 1 ≤ (ds.map ceiD).getD bl.toNat 0
  mid : ∀ x ∈ bs, x ≠ b0 → x ≠ bl → (x ∈ fs → (ds.map floD).getD x.toNat 0 ≤ s.2.getD x.toNat 0 ∧ s.2.getD x.toNat 0 + 1 ≤ (ds.map ceiD).getD x.toNat 0) ∧ (x ∉ fs → (ds.map floD).getD x.toNat 0 ≤ s.2.getD x.toNat 0 - 1 ∧ s.2.getD x.toNat 0 ≤ (ds.map ceiD).getD x.toNat 0)
theorem sum_q1 {f : Run → Int} {g : Int × Int → Int} (h : ∀ p, f (q1 p) = g p) : ∀ l : List (Int × Int), ((l.map q1).map f).sum = (l.map g).sum
  | [] => rfl
  | p :: l => by rw [List.map_cons, List.map_cons, List.map_cons, List.sum_cons, List.sum_cons, h, sum_q1 h l]
theorem prs_in {bs : List Int} {p : Int × Int} (h : p ∈ pairsOf bs) : p.1 ∈ bs ∧ p.2 ∈ bs := by
  obtain ⟨i, h1, h2⟩ := pr_mem h
  exact ⟨List.mem_of_getElem? h1, List.mem_of_getElem? h2⟩
theorem way_rng {ds : List PyData} {bs : List Int} (nd : bs.Nodup) (rng : ∀ x ∈ bs, 0 ≤ x ∧ x < ds.length) {l : List (Int × Int)} (h : ∀ p ∈ l, p ∈ pairsOf bs) : ∀ q ∈ l.map q1, QRng ds.length q := fun q hq => by
  obtain ⟨p, hp, rfl⟩ := List.mem_map.mp hq
  have m := h p hp
  obtain ⟨m1, m2⟩ := prs_in m
  exact ⟨(rng _ m1).1, (rng _ m1).2, (rng _ m2).1, (rng _ m2).2, pr_ne nd m⟩
theorem way_tok {ds rs : List PyData} {fs bs : List Int} {b0 bl : Int} {s : WSt} (w : WayS ds rs fs bs b0 bl s) (hb : bundlesD (.list rs) ds.length = true) (n1 : ds.length ≤ 10) (l2 : s.2.length = ds.length) :
    TOk ds rs s ((rgo fs [] (pairsOf bs)).map q1) := by
  intro i q hq
  have nd := w.nd
  have pm : (rgo fs [] (pairsOf bs)).Perm (pairsOf bs) := (rgo_perm fs (pairsOf bs) []).trans (by simp)
  have ond : (rgo fs [] (pairsOf bs)).Nodup := pm.nodup_iff.mpr (pr_nodup nd)
  rw [List.getElem?_map] at hq
  have ord := fun p q A B (e : pairsOf bs = A ++ p :: q :: B) => rgo_order fs p q B A []
  generalize hO : rgo fs [] (pairsOf bs) = O at *
  cases hp : O[i]? with
  | none => rw [hp] at hq; cases hq
  | some p =>
  rw [hp] at hq
  cases hq
  have pin : p ∈ pairsOf bs := pm.mem_iff.mp (List.mem_of_getElem? hp)
  have sub : ∀ p' ∈ O.take i, p' ∈ pairsOf bs := fun p' h => pm.mem_iff.mp (List.mem_of_mem_take h)
  have pno : ∀ p' ∈ O.take i, p' ≠ p := fun p' h e => by
    subst e
    obtain ⟨j, hj⟩ := List.mem_iff_getElem?.mp h
    rw [List.getElem?_take] at hj
    split at hj
    · rename_i lt
      have := (List.getElem?_inj (List.getElem?_eq_some_iff.mp hj).1 ond).mp (hj.trans hp.symm)
      omega
    · cases hj
  obtain ⟨m1, m2⟩ := prs_in pin
  rw [← List.map_take]
  have qr := way_rng nd w.rng sub
  have hx := trn_hs (rs := rs) (w.rng _ m1).1 (w.rng _ m1).2 l2 qr
  have hy := trn_hs (rs := rs) (w.rng _ m2).1 (w.rng _ m2).2 l2 qr
  rw [sum_q1 (g := gi p.1) (fun p' => Int.one_mul _)] at hx
  rw [sum_q1 (g := gi p.2) (fun p' => Int.one_mul _)] at hy
  have nn : ∀ p' ∈ O.take i, 0 ≤ gi p.1 p' := fun p' h => by
    have : p.1 ≠ p'.1 := fun e => pno p' h (pr_fst nd (sub p' h) pin e.symm)
    unfold gi
    rw [if_neg this]
    split <;> omega
  have np : ∀ p' ∈ O.take i, gi p.2 p' ≤ 0 := fun p' h => by
    have : p.2 ≠ p'.2 := fun e => pno p' h (pr_snd nd (sub p' h) pin e.symm)
    unfold gi
    rw [if_neg this]
    split <;> omega
  obtain ⟨k, a, b, c, l, hr, hl, hab, hle⟩ := w.led p pin
  have hle2 := trn_le hr (qs := (O.take i).map q1) hl
  rw [sum_q1 (g := dl (tupD [a, b, c])) (fun p' => Int.one_mul _)] at hle2
  have z : ∀ p' ∈ O.take i, dl (tupD [a, b, c]) p' = 0 := fun p' h => by
    have n1 := pr_swap nd (sub p' h) pin
    have n2 : ¬ (p'.1 = p.1 ∧ p'.2 = p.2) := fun e => pno p' h (Prod.ext e.1 e.2)
    show (if a = p'.1 ∧ b = p'.2 then (-1 : Int) else if a = p'.2 ∧ b = p'.1 then 1 else 0) = 0
    rw [if_neg (by omega), if_neg (by omega)]
  have z1 := sum_nn (f := dl (tupD [a, b, c])) (l := O.take i) (fun p' h => by rw [z p' h]; omega)
  have z2 := sum_np (f := dl (tupD [a, b, c])) (l := O.take i) (fun p' h => by rw [z p' h]; omega)
  rw [show l + ((O.take i).map (dl (tupD [a, b, c]))).sum = l by omega] at hle2
  refine ⟨k, a, b, c, l, hr, hle2, hab, hle, ?_, ?_⟩
  · show _ ≤ (trn rs s ((O.take i).map q1)).2.getD p.1.toNat 0 - 1
    rw [hx]
    have sn := sum_nn nn
    show (ds.map floD).getD p.1.toNat 0 ≤ _
    rcases pr_pred nd w.h0 w.hl pin with e | ⟨mb, n0, nl, A, w', B, e, e2⟩
    · have := w.fst
      rw [← e] at this
      omega
    · obtain ⟨g1, g2⟩ := w.mid _ mb n0 nl
      by_cases hf : p.1 ∈ fs
      · obtain ⟨U, V, eo, u1, u2⟩ := (ord _ _ _ _ e).1 hf
        rw [← e, hO] at eo
        have bf := before ond eo hp u2 u1
        have s1 := sum_at nn bf
        have gw : gi p.1 w' = 1 := by
          have : p.1 ≠ w'.1 := fun e => pno w' bf (pr_fst nd (sub w' bf) pin e.symm)
          unfold gi
          rw [if_pos e2.symm, if_neg this]; rfl
        have := g1 hf
        omega
      · have := g2 hf
        omega
  · show (trn rs s ((O.take i).map q1)).2.getD p.2.toNat 0 + 1 ≤ _
    rw [hy]
    have sn := sum_np np
    show _ ≤ (ds.map ceiD).getD p.2.toNat 0
    rcases pr_succ nd w.h0 w.hl pin with e | ⟨mb, n0, nl, A, w', B, e, e2⟩
    · have := w.lst
      rw [← e] at this
      omega
    · obtain ⟨g1, g2⟩ := w.mid _ mb n0 nl
      by_cases hf : p.2 ∈ fs
      · have := g1 hf
        omega
      · rw [← e2] at hf
        obtain ⟨U, V, eo, u1, u2⟩ := (ord _ _ _ _ e).2 hf
        rw [← e, hO] at eo
        have bf := before ond eo hp u2 u1
        have s1 := sum_an np bf
        have gw : gi p.2 w' = -1 := by
          have : p.2 ≠ w'.2 := fun e => pno w' bf (pr_snd nd (sub w' bf) pin e.symm)
          unfold gi
          rw [if_neg this, if_pos e2.symm]; rfl
        rw [e2] at hf
        have := g2 hf
        omega
theorem cI_mem {l : List Nat} {i : Nat} : ((i : Nat) : Int) ∈ cI l ↔ i ∈ l := by
  unfold cI
  rw [List.mem_map]
  constructor
  · rintro ⟨j, hj, e⟩
    have : j = i := by omega
    exact this ▸ hj
  · exact fun h => ⟨i, h, rfl⟩
theorem up_iff {hs : List Int} (lh : hs.length = ds.length) {k : Nat} {lo u : Int} (h : ds[k]? = some (tupD [lo, u])) : ((k : Nat) : Int) ∈ upL ds hs ↔ lo < hs.getD k 0 := by
  have hk := (List.getElem?_eq_some_iff.mp h).1
  have hh : hs[k]? = some hs[k] := List.getElem?_eq_getElem (by omega)
  unfold upL
  rw [cI_mem, List.mem_filter, List.mem_range, List.getD_eq_getElem?_getD, hh]
  have e : upB ds hs k = decide (hs[k] > lo) := by
    unfold upB
    rw [h, hh]
    rfl
  rw [e, decide_eq_true_iff]
  exact ⟨fun h => h.2, fun h => ⟨hk, h⟩⟩
theorem dn_iff {hs : List Int} (lh : hs.length = ds.length) {k : Nat} {lo u : Int} (h : ds[k]? = some (tupD [lo, u])) : ((k : Nat) : Int) ∈ dnL ds hs ↔ hs.getD k 0 < u := by
  have hk := (List.getElem?_eq_some_iff.mp h).1
  have hh : hs[k]? = some hs[k] := List.getElem?_eq_getElem (by omega)
  unfold dnL
  rw [cI_mem, List.mem_filter, List.mem_range, List.getD_eq_getElem?_getD, hh]
  have e : dnB ds hs k = decide (hs[k] < u) := by
    unfold dnB
    rw [h, hh]
    rfl
  rw [e, decide_eq_true_iff]
  exact ⟨fun h => h.2, fun h => ⟨hk, h⟩⟩

/-! ### a way's whole block is legal, and what it moves -/
theorem sum_one {α : Type} {f : α → Int} {p : α} : ∀ {l : List α}, l.Nodup → p ∈ l → (∀ q ∈ l, q ≠ p → f q = 0) → (l.map f).sum = f p
  | [], _, m, _ => by cases m
  | a :: l, nd, m, h => by
    rw [List.nodup_cons] at nd
    rw [List.map_cons, List.sum_cons]
    rcases List.mem_cons.mp m with rfl | m
    · have z : ∀ q ∈ l, f q = 0 := fun q hq => h q (List.mem_cons_of_mem _ hq) (fun e => nd.1 (e ▸ hq))
      have z1 := sum_nn (f := f) (l := l) (fun q hq => by rw [z q hq]; omega)
      have z2 := sum_np (f := f) (l := l) (fun q hq => by rw [z q hq]; omega)
      omega
    · rw [sum_one nd.2 m (fun q hq => h q (List.mem_cons_of_mem _ hq)), h a (List.mem_cons_self ..) (fun e => nd.1 (e ▸ m))]
      omega
def qt (t : Int) (p : Int × Int) : Run := (p.1, p.2, t)
theorem sum_qt {t : Int} {g : Int × Int → Int} : ∀ l : List (Int × Int), ((l.map (qt t)).map fun q => q.2.2 * g (pr2 q)).sum = t * (l.map g).sum
  | [] => by simp
  | p :: l => by
    rw [List.map_cons, List.map_cons, List.map_cons, List.sum_cons, List.sum_cons, sum_qt l, Int.mul_add]
    rfl
/-- what a row's lead gains in a turn -/
def Dl (bs : List Int) (d : PyData) : Int := ((pairsOf bs).map (dl d)).sum
def Dh (b0 bl x : Int) : Int := (if x = bl then 1 else 0) - (if x = b0 then 1 else 0)
structure Aft (ds rs : List PyData) (ls bs : List Int) (b0 bl j : Int) (s : WSt) : Prop where
  l1 : s.1.length = rs.length
  l2 : s.2.length = ds.length
  le : ∀ (k : Nat) (d : PyData) (l : Int), rs[k]? = some d → ls[k]? = some l → s.1[k]? = some (l + j * Dl bs d)
  hs : ∀ x : Int, 0 ≤ x → x < ds.length → s.2.getD x.toNat 0 = (ldOf ds.length rs ls ls.length).getD x.toNat 0 + j * Dh b0 bl x
section
variable {ds rs : List PyData} {ls bs : List Int} {b0 bl t : Int}
theorem bl_ne (nd : bs.Nodup) (h0 : bs.head? = some b0) (hl : bs.getLast? = some bl) (m : 2 ≤ bs.length) : b0 ≠ bl := fun e => by
  rw [List.head?_eq_getElem?] at h0
  rw [List.getLast?_eq_getElem?] at hl
  rw [e] at h0
  have := nd_at nd h0 hl
  omega
theorem in_pair (m : 2 ≤ bs.length) {x : Int} (hx : x ∈ bs) : ∃ p ∈ pairsOf bs, x = p.1 ∨ x = p.2 := by
  obtain ⟨i, hi⟩ := List.mem_iff_getElem?.mp hx
  have lt := (List.getElem?_eq_some_iff.mp hi).1
  by_cases e : i + 1 < bs.length
  · exact ⟨(x, bs[i + 1]), List.mem_of_getElem? ((pr_at (p := (x, bs[i + 1]))).mpr ⟨hi, List.getElem?_eq_getElem e⟩), .inl rfl⟩
  · obtain ⟨j, rfl⟩ : ∃ j, i = j + 1 := ⟨i - 1, by omega⟩
    exact ⟨(bs[j]'(by omega), x), List.mem_of_getElem? ((pr_at (p := (bs[j]'(by omega), x))).mpr ⟨List.getElem?_eq_getElem (by omega), hi⟩), .inr rfl⟩
theorem aft_way (wd : Wd ds rs ls) (nd : bs.Nodup) (h0 : bs.head? = some b0) (hl : bs.getLast? = some bl) (m : 2 ≤ bs.length) (rng : ∀ x ∈ bs, 0 ≤ x ∧ x < ds.length) (t1 : 1 ≤ t) (ok : AlOk ds rs ls bs b0 bl t)
    {j : Int} (j0 : 0 ≤ j) (j1 : j + 1 ≤ t) {s : WSt} (a : Aft ds rs ls bs b0 bl j s) : WayS ds rs (dnL ds (ldOf ds.length rs ls ls.length)) bs b0 bl s := by
  have n10 := bounds_len wd.b1
  have lld := ld_len ds.length rs ls ls.length
  have ne := bl_ne nd h0 hl m
  have b0in : b0 ∈ bs := List.mem_of_mem_head? h0
  have blin : bl ∈ bs := List.mem_of_getLast? hl
  refine ⟨nd, h0, hl, rng, fun p hp => ?_, ?_, ?_, fun x hx n0 nl => ?_⟩
  · obtain ⟨_, _, v, lv, tv⟩ := ok.1 p hp
    rcases lv with ⟨k, a', b', c', l, hr, hl', hv⟩ | ⟨_, rfl⟩
    · have lk := (List.getElem?_eq_some_iff.mp hr).1
      obtain ⟨a3, b3, c3, hr3, _, ab3, _⟩ := rows_at wd.b2 (by omega) lk
      rw [hr] at hr3
      have hr3 : tupD [a', b', c'] = tupD [a3, b3, c3] := Option.some.inj hr3
      cases hr3
      obtain ⟨lo1, lo2⟩ := wd.lo.2 k l _ hl' hr
      have lo2 : l ≤ c' := lo2
      have hs := a.le k _ l hr hl'
      have one : Dl bs (tupD [a', b', c']) = dl (tupD [a', b', c']) p := sum_one (pr_nodup nd) hp (fun q hq nq => by
        have n1 := pr_swap nd hq hp
        have n2 : ¬ (q.1 = p.1 ∧ q.2 = p.2) := fun e => nq (Prod.ext e.1 e.2)
        show (if a' = q.1 ∧ b' = q.2 then (-1 : Int) else if a' = q.2 ∧ b' = q.1 then 1 else 0) = 0
        rw [if_neg (by omega), if_neg (by omega)])
      rw [one] at hs
      have dp : dl (tupD [a', b', c']) p = if a' = p.1 ∧ b' = p.2 then -1 else if a' = p.2 ∧ b' = p.1 then 1 else 0 := rfl
      refine ⟨k, a', b', c', _, hr, hs, by omega, ?_⟩
      rcases hv with ⟨e1, e2, e3⟩ | ⟨e1, e2, e3⟩
      · have dv : dl (tupD [a', b', c']) p = -1 := by rw [dp, if_pos ⟨e1.symm, e2.symm⟩]
        rw [dv, if_pos (show p.1 < p.2 by omega)]
        omega
      · have dv : dl (tupD [a', b', c']) p = 1 := by rw [dp, if_neg (by omega), if_pos ⟨e2.symm, e1.symm⟩]
        rw [dv, if_neg (show ¬ p.1 < p.2 by omega)]
        omega
    · omega
  · have := a.hs b0 (rng _ b0in).1 (rng _ b0in).2
    unfold Dh at this
    rw [if_neg ne, if_pos rfl] at this
    have := ok.2.1
    omega
  · have := a.hs bl (rng _ blin).1 (rng _ blin).2
    unfold Dh at this
    rw [if_pos rfl, if_neg ne.symm] at this
    have := ok.2.2
    omega
  · have hx' := a.hs x (rng _ hx).1 (rng _ hx).2
    unfold Dh at hx'
    rw [if_neg nl, if_neg n0] at hx'
    have hx' : s.2.getD x.toNat 0 = (ldOf ds.length rs ls ls.length).getD x.toNat 0 := by omega
    obtain ⟨r0, r1⟩ := rng _ hx
    obtain ⟨lo, up, hrow, _⟩ := bound_at wd.b1 (i := x.toNat) (by omega)
    have hg : (ldOf ds.length rs ls ls.length)[x.toNat]? = some ((ldOf ds.length rs ls ls.length).getD x.toNat 0) := by
      rw [List.getD_eq_getElem?_getD, List.getElem?_eq_getElem (by omega)]; rfl
    obtain ⟨o1, o2⟩ := wd.ok x.toNat lo up _ hrow hg
    have f0 : (ds.map floD).getD x.toNat 0 = lo := by rw [List.getD_eq_getElem?_getD, List.getElem?_map, hrow]; rfl
    have f1 : (ds.map ceiD).getD x.toNat 0 = up := by rw [List.getD_eq_getElem?_getD, List.getElem?_map, hrow]; rfl
    have iff := dn_iff (ds := ds) (hs := ldOf ds.length rs ls ls.length) lld hrow
    rw [show ((x.toNat : Nat) : Int) = x by omega] at iff
    have free : lsB ds x.toNat = true := by
      obtain ⟨p, hp, e⟩ := in_pair m hx
      obtain ⟨c1, c2, _⟩ := ok.1 p hp
      rcases e with e | e
      · rw [e]; exact c1
      · rw [e]; exact c2
    rw [ls_at hrow] at free
    have free := of_decide_eq_true free
    rw [f0, f1, hx']
    refine ⟨fun h => ?_, fun h => ?_⟩
    · have := iff.mp h
      omega
    · rw [iff] at h
      omega
theorem aft_zero (wd : Wd ds rs ls) : Aft ds rs ls bs b0 bl 0 (ls, ldOf ds.length rs ls ls.length) :=
  ⟨wd.lo.1, ld_len .., fun k d l h1 h2 => by rw [h2, Int.zero_mul, Int.add_zero], fun x _ _ => by rw [Int.zero_mul, Int.add_zero]⟩
theorem aft_turn (nd : bs.Nodup) (h0 : bs.head? = some b0) (hl : bs.getLast? = some bl) (rng : ∀ x ∈ bs, 0 ≤ x ∧ x < ds.length) (fs : List Int) {j : Int} {s : WSt} (a : Aft ds rs ls bs b0 bl j s) :
    Aft ds rs ls bs b0 bl (j + 1) (trn rs s ((rgo fs [] (pairsOf bs)).map q1)) := by
  have pm : (rgo fs [] (pairsOf bs)).Perm (pairsOf bs) := (rgo_perm fs (pairsOf bs) []).trans (by simp)
  obtain ⟨g1, g2⟩ := trn_len (qs := (rgo fs [] (pairsOf bs)).map q1) a.l1 a.l2
  refine ⟨g1, g2, fun k d l h1 h2 => ?_, fun x x0 x1 => ?_⟩
  · rw [trn_le h1 (a.le k d l h1 h2), sum_q1 (g := dl d) (fun p' => Int.one_mul _), perm_sum pm]
    congr 1
    rw [Int.add_mul, Int.one_mul]
    show _ + _ + Dl bs d = _
    omega
  · rw [trn_hs x0 x1 a.l2 (way_rng nd rng (fun p h => pm.mem_iff.mp h)), sum_q1 (g := gi x) (fun p' => Int.one_mul _), perm_sum pm, tele x h0 hl, a.hs x x0 x1, Int.add_mul, Int.one_mul]
    unfold Dh
    omega
theorem aft_jmp (n10 : ls.length = rs.length) {s s1 : WSt} (a : Aft ds rs ls bs b0 bl 0 s) (b : Aft ds rs ls bs b0 bl 1 s1) : Aft ds rs ls bs b0 bl (t - 1) (jmp t s s1) := by
  refine ⟨jmL_len a.l1 b.l1, jmL_len a.l2 b.l2, fun k d l h1 h2 => ?_, fun x x0 x1 => ?_⟩
  · show (jmL t s.1 s1.1)[k]? = _
    unfold jmL
    rw [List.getElem?_zipWith, a.le k d l h1 h2, b.le k d l h1 h2]
    dsimp only
    congr 1
    rw [Int.zero_mul, Int.one_mul, Int.add_zero, show l + Dl bs d - l = Dl bs d by omega]
  · show (jmL t s.2 s1.2).getD x.toNat 0 = _
    have e1 := a.hs x x0 x1
    have e2 := b.hs x x0 x1
    have g1 : s.2[x.toNat]? = some (s.2.getD x.toNat 0) := by rw [List.getD_eq_getElem?_getD, List.getElem?_eq_getElem (by have := a.l2; omega)]; rfl
    have g2 : s1.2[x.toNat]? = some (s1.2.getD x.toNat 0) := by rw [List.getD_eq_getElem?_getD, List.getElem?_eq_getElem (by have := b.l2; omega)]; rfl
    rw [List.getD_eq_getElem?_getD]
    unfold jmL
    rw [List.getElem?_zipWith, g1, g2]
    dsimp only [Option.getD]
    rw [e1, e2, Int.zero_mul, Int.one_mul, Int.add_zero]
    congr 2
    omega
/-- the block that along tells: legal, and it moves what the law moves -/
theorem way_pok (wd : Wd ds rs ls) (nd : bs.Nodup) (h0 : bs.head? = some b0) (hl : bs.getLast? = some bl) (m : 2 ≤ bs.length) (rng : ∀ x ∈ bs, 0 ≤ x ∧ x < ds.length) (t1 : 1 ≤ t) (ok : AlOk ds rs ls bs b0 bl t) :
    POk ds rs (ls, ldOf ds.length rs ls ls.length) [(t, (rgo (dnL ds (ldOf ds.length rs ls ls.length)) [] (pairsOf bs)).map q1)] ∧
    (pln rs (ls, ldOf ds.length rs ls ls.length) [(t, (rgo (dnL ds (ldOf ds.length rs ls ls.length)) [] (pairsOf bs)).map q1)]).1 = (trn rs (ls, ldOf ds.length rs ls ls.length) ((pairsOf bs).map (qt t))).1 := by
  have n10 := bounds_len wd.b1
  have a0 := aft_zero (bs := bs) (b0 := b0) (bl := bl) wd
  have a1 := aft_turn nd h0 hl rng (dnL ds (ldOf ds.length rs ls ls.length)) a0
  rw [Int.zero_add] at a1
  have aj := aft_jmp (t := t) wd.lo.1 a0 a1
  have k0 := way_tok (aft_way wd nd h0 hl m rng t1 ok (Int.le_refl 0) (by omega) a0) wd.b2 n10 a0.l2
  have kj := way_tok (aft_way wd nd h0 hl m rng t1 ok (by omega) (by omega) aj) wd.b2 n10 aj.l2
  have a2 := aft_turn nd h0 hl rng (dnL ds (ldOf ds.length rs ls ls.length)) aj
  refine ⟨fun i b hb => ?_, ?_⟩
  · cases i with
    | succ i => cases hb
    | zero =>
      cases hb
      exact ⟨k0, fun _ _ => kj⟩
  · show (dn rs t _ _).1 = _
    have lens : ∀ s : WSt, s.1.length = rs.length → ∀ k : Nat, k < rs.length → ∃ d l, rs[k]? = some d ∧ ls[k]? = some l := fun s _ k hk => ⟨_, _, List.getElem?_eq_getElem hk, List.getElem?_eq_getElem (by rw [wd.lo.1]; exact hk)⟩
    have due : ∀ (k : Nat) (d : PyData) (l : Int), rs[k]? = some d → ls[k]? = some l → (trn rs (ls, ldOf ds.length rs ls ls.length) ((pairsOf bs).map (qt t))).1[k]? = some (l + t * Dl bs d) := fun k d l h1 h2 => by
      rw [trn_le h1 h2, sum_qt]
      rfl
    have ld := (trn_len (rs := rs) (qs := (pairsOf bs).map (qt t)) (s := (ls, ldOf ds.length rs ls ls.length)) wd.lo.1 (ld_len ..)).1
    obtain ⟨dl1, _⟩ := dn_len (rs := rs) (t := t) (qs := (rgo (dnL ds (ldOf ds.length rs ls ls.length)) [] (pairsOf bs)).map q1) (s := (ls, ldOf ds.length rs ls ls.length)) wd.lo.1 (ld_len ..)
    apply List.ext_getElem?
    intro k
    by_cases hk : k < rs.length
    · obtain ⟨d, l, h1, h2⟩ := lens (ls, []) wd.lo.1 k hk
      rw [due k d l h1 h2]
      unfold dn
      split
      · rename_i h
        rw [a1.le k d l h1 h2]
        rcases h with rfl | h
        · rfl
        · have e := a1.le k d l h1 h2
          rw [h] at e
          have e : some l = some (l + 1 * Dl bs d) := by rw [← e]; exact h2.symm
          have e := Option.some.inj e
          have : Dl bs d = 0 := by omega
          rw [this, Int.mul_zero, Int.mul_zero]
      · rw [a2.le k d l h1 h2, show t - 1 + 1 = t by omega]
    · rw [List.getElem?_eq_none (Nat.le_trans (Nat.le_of_eq dl1) (by omega)), List.getElem?_eq_none (Nat.le_trans (Nat.le_of_eq ld) (by omega))]
end
/-! ### rows that are built -/
def RowD (d : PyData) : Prop := ∃ ns : List Int, d = tupD ns ∧ 0 < ns.length ∧ ns.length ≤ 3 ∧ ∀ n ∈ ns, n.natAbs < 2 ^ 200
structure Rb (H0 : Hp) (b c f : Addr) (acc : List V) (ds : List PyData) (H : Hp) : Prop where
  e : Ext [b] H0 H
  bag : Bag H b c
  fd : H f = some (.lst acc)
  ne : f ∉ [b]
  nc : c ≠ f
  f0 : H0 f = none
  rows : DnAll [b, f] H acc ds
  row : ∀ d ∈ ds, RowD d
theorem Rb.step {H0 H H' : Hp} {b c f : Addr} {acc : List V} {ds : List PyData} (r : Rb H0 b c f acc ds H) (E : Ext [b] H H') (B : Bag H' b c) : Rb H0 b c f acc ds H' :=
  ⟨r.e.trans E, B, E _ _ r.ne r.fd, r.ne, r.nc, r.f0, r.rows.ext (E.mono (by intro x h; simp at h ⊢; exact .inl h)), r.row⟩
theorem Rb.new {H0 H : Hp} {b c f p : Addr} {acc : List V} {ds : List PyData} (u : HO) (r : Rb H0 b c f acc ds H) (hp : H p = none) : Rb H0 b c f acc ds (upd H p u) ∧ p ∉ [b] ∧ p ∉ [b, f] ∧ upd H p u p = some u := by
  obtain ⟨ob, hob⟩ := r.bag.at
  have h1 := new_out (o := ob) (Same.refl H) hob hp
  have h2 : p ≠ f := ne_of_none2 hp r.fd
  exact ⟨r.step (Ext.same (same_upd hp)) (r.bag.ext (same_upd hp)), h1, by simp at h1 ⊢; exact ⟨h1, h2⟩, upd_same⟩
theorem Rb.app {H0 H : Hp} {b c f : Addr} {acc : List V} {ds : List PyData} {v : V} {d : PyData} (r : Rb H0 b c f acc ds H) (hv : Dn [b, f] H v d) (hd : RowD d) :
    Rb H0 b c f (acc ++ [v]) (ds ++ [d]) (upd H f (.lst (acc ++ [v]))) := by
  have X1 : Ext [b, f] H (upd H f (.lst (acc ++ [v]))) := Ext.upd (by simp)
  have nb : b ≠ f := fun e => r.ne (by rw [e]; simp)
  refine ⟨fun a o n e => ?_, ?_, upd_same, r.ne, r.nc, r.f0, (r.rows.ext X1).app (.cons (hv.ext X1) .nil), ?_⟩
  · rw [upd_ne (ne_of_none e r.f0)]; exact r.e _ _ n e
  · obtain ⟨x, y, k, cs, h1, h2, h3⟩ := r.bag
    exact ⟨x, y, k, cs, by rw [upd_ne nb]; exact h1, by rw [upd_ne r.nc]; exact h2, h3⟩
  · intro u hu
    rcases List.mem_append.mp hu with h | h
    · exact r.row u h
    · simp at h; subst h; exact hd
theorem Rb.dn {H0 H : Hp} {b c f : Addr} {acc : List V} {ds : List PyData} (r : Rb H0 b c f acc ds H) : Dn [b] H (.ref f) (.list ds) := .lst r.fd r.ne (r.rows.sub (by intro x h; simp at h ⊢; exact .inl h))
theorem Rb.mk0 {H0 : Hp} {b c f : Addr} (hB : Bag H0 b c) (hf : H0 f = none) : Rb H0 b c f [] [] (upd H0 f (.lst [])) := by
  obtain ⟨ob, hob⟩ := hB.at
  refine ⟨Ext.same (same_upd hf), hB.ext (same_upd hf), upd_same, new_out (Same.refl H0) hob hf, ?_, hf, .nil, by simp⟩
  obtain ⟨x, y, k, cs, h1, h2, h3⟩ := hB
  exact ne_of_none h2 hf
theorem in3 {x y : V} {a b c : Int} {k : Nat} (h : x ∈ [V.int a, V.int b, V.int c]) (ha : a.natAbs < k) (hb : b.natAbs < k) (hc : c.natAbs < k) : ∃ i, x = .int i ∧ i.natAbs < k := by
  simp only [List.mem_cons, List.not_mem_nil, or_false] at h
  rcases h with rfl | rfl | rfl
  · exact ⟨_, rfl, ha⟩
  · exact ⟨_, rfl, hb⟩
  · exact ⟨_, rfl, hc⟩

/-! ### drawn clusters -/
def spAmount : Sp := fun vs H Q _ => ∃ b c g, vs = [.ref b, .bl g] ∧ Bag H b c ∧ ∀ H' v, Ext [b] H H' → Bag H' b c → 1 ≤ v → v ≤ 10 ^ 18 → Q (.int v) H'
theorem x_amount {H : Hp} {Q : VK} {E : XK} {b c : Addr} {g : Bool} (hb : Bag H b c) (h : ∀ H' v, Ext [b] H H' → Bag H' b c → 1 ≤ v → v ≤ 10 ^ 18 → Q (.int v) H') : spAmount [.ref b, .bl g] H Q E := ⟨b, c, g, rfl, hb, h⟩
/-- places of pairs so far -/
def tri (n : Nat) : Nat → Nat
  | 0 => 0
  | i + 1 => tri n i + (n - (i + 1))
theorem tri_le : ∀ n, n ≤ 10 → tri n n ≤ 45 := by decide
theorem tri_mono (n : Nat) : ∀ i, tri n i ≤ tri n (i + 1) := fun i => Nat.le_add_right _ _
structure Good (n i j : Int) (ds : List PyData) : Prop where
  all : (ds.map fun d => bundleD d n).all id = true
  nd : (ds.map pairD).Nodup
  lt : ∀ d ∈ ds, ∃ a b, pairD d = [a, b] ∧ (a < i ∨ (a = i ∧ b < j))
theorem Good.skip {n i j j' : Int} {ds : List PyData} (g : Good n i j ds) (h : j ≤ j') : Good n i j' ds := ⟨g.all, g.nd, fun d hd => by
  obtain ⟨a, b, e, c⟩ := g.lt d hd
  exact ⟨a, b, e, by omega⟩⟩
theorem Good.next {n i j i' j' : Int} {ds : List PyData} (g : Good n i j ds) (h : i < i') : Good n i' j' ds := ⟨g.all, g.nd, fun d hd => by
  obtain ⟨a, b, e, c⟩ := g.lt d hd
  exact ⟨a, b, e, by omega⟩⟩
theorem good_one {n i j c : Int} (h0 : 0 ≤ i) (h1 : i < j) (h2 : j < n) (c0 : 1 ≤ c) (c1 : c ≤ 10 ^ 18) : bundleD (tupD [i, j, c]) n = true := by
  show (inD 1 (10 ^ 18) (.int c) && (brokerD (.int i) n && (brokerD (.int j) n && ltD (.int i) (.int j)))) = true
  show ((decide (1 ≤ c) && decide (c ≤ 10 ^ 18)) && ((decide (0 ≤ i) && decide (i < n)) && ((decide (0 ≤ j) && decide (j < n)) && decide (i < j)))) = true
  simp only [Bool.and_eq_true, decide_eq_true_eq]
  exact ⟨⟨c0, c1⟩, ⟨h0, by omega⟩, ⟨by omega, h2⟩, h1⟩
theorem Good.add {n i j c : Int} {ds : List PyData} (g : Good n i j ds) (h0 : 0 ≤ i) (h1 : i < j) (h2 : j < n) (c0 : 1 ≤ c) (c1 : c ≤ 10 ^ 18) : Good n i (j + 1) (ds ++ [tupD [i, j, c]]) := by
  refine ⟨?_, ?_, ?_⟩
  · rw [List.map_append, List.all_append, g.all]
    simp [good_one h0 h1 h2 c0 c1]
  · rw [List.map_append, List.nodup_append]
    refine ⟨g.nd, by simp, fun u hu v hv e => ?_⟩
    simp only [List.map_cons, List.map_nil, List.mem_cons, List.not_mem_nil, or_false] at hv
    obtain ⟨d, hd, rfl⟩ := List.mem_map.mp hu
    obtain ⟨a, b, e2, k⟩ := g.lt d hd
    rw [e2, hv] at e
    have e : [a, b] = [i, j] := e
    simp only [List.cons.injEq, and_true] at e
    omega
  · intro d hd
    rcases List.mem_append.mp hd with h | h
    · obtain ⟨a, b, e, k⟩ := g.lt d h
      exact ⟨a, b, e, by omega⟩
    · simp only [List.mem_cons, List.not_mem_nil, or_false] at h
      subst h
      exact ⟨i, j, rfl, by omega⟩
theorem Good.done {n i j : Int} {ds : List PyData} (g : Good n i j ds) (h : ds.length ≤ 45) : bundlesD (.list ds) n = true := by
  show (decide ((ds.length : Int) ≤ 45) && ((ds.map fun d => bundleD d n).all id && decide ((ds.map pairD).Nodup))) = true
  simp only [Bool.and_eq_true, decide_eq_true_eq]
  exact ⟨by omega, g.all, g.nd⟩
theorem bundles_rev {n : Int} {ds : List PyData} (h : bundlesD (.list ds) n = true) : bundlesD (.list ds.reverse) n = true := by
  have h : (decide ((ds.length : Int) ≤ 45) && ((ds.map fun d => bundleD d n).all id && decide ((ds.map pairD).Nodup))) = true := h
  show (decide ((ds.reverse.length : Int) ≤ 45) && ((ds.reverse.map fun d => bundleD d n).all id && decide ((ds.reverse.map pairD).Nodup))) = true
  simp only [Bool.and_eq_true, decide_eq_true_eq] at h ⊢
  refine ⟨by rw [List.length_reverse]; exact h.1, ?_, ?_⟩
  · rw [List.map_reverse, List.all_reverse]; exact h.2.1
  · rw [List.map_reverse]; exact (List.reverse_perm _).nodup_iff.mpr h.2.2
theorem row_of {i j c : Int} (h0 : 0 ≤ i) (h1 : i < j) (h2 : j < 10) (c0 : 1 ≤ c) (c1 : c ≤ 10 ^ 18) : RowD (tupD [i, j, c]) := by
  have big : (10 : Int) ^ 18 < 2 ^ 150 := by decide
  have big2 : (2 : Nat) ^ 150 + 100 < 2 ^ 200 := by decide
  refine ⟨_, rfl, Nat.le_of_ble_eq_true rfl, Nat.le_of_ble_eq_true rfl, ?_⟩
  intro m hm
  simp only [List.mem_cons, List.not_mem_nil, or_false] at hm
  rcases hm with rfl | rfl | rfl <;> omega
def spNetB : Sp := fun vs H Q _ => ∃ b c n g, vs = [.ref b, .int n, .bl g] ∧ Bag H b c ∧ 2 ≤ n ∧ n ≤ 10 ∧ ∀ H' f ds, Ext [b] H H' → Bag H' b c → Dn [b] H' (.ref f) (.list ds) → bundlesD (.list ds) n = true → 0 < ds.length → Q (.ref f) H'
theorem x_netB {H : Hp} {Q : VK} {E : XK} {b c : Addr} {n : Int} {g : Bool} (hb : Bag H b c) (n0 : 2 ≤ n) (n1 : n ≤ 10) (h : ∀ H' f ds, Ext [b] H H' → Bag H' b c → Dn [b] H' (.ref f) (.list ds) → bundlesD (.list ds) n = true → 0 < ds.length → Q (.ref f) H') : spNetB [.ref b, .int n, .bl g] H Q E := ⟨b, c, n, g, rfl, hb, n0, n1, h⟩
section
variable {P : Program} {w : World} {K : PySem.W.Frag} {mg : Str → Option Value} {base : Heap} {t0 t1 t2 t3 t4 : Tok}
theorem kn_amount {k : Nat} (D : Df K mg "_law_amount" s_Lamount) (B : Bl mg) (c_Ltake : Kn P w K mg base "_law_take" k spTake) : Kn P w K mg base "_law_amount" (k + 1) spAmount := by
  refine kn_of D (fun _ _ _ _ _ _ us hl => match us, hl with | [_, _], _ => rfl) sc_Lamount (fun vs H Q E h => by obtain ⟨b, c, g, rfl, _⟩ := h; rfl) (fun f cd B' fr z H vs Q E hr gd h => ?_)
  obtain ⟨b, c, g, rfl, hB, q⟩ := h
  refine ⟨_, (pss_cut (ps_if (PW.pt (pw_and (pt_val (pv 1)) (pw_and1 (pt_cmpR op_eq (pe_own c_Ltake hr gd (by rfl) (pa_cons (pv 0) (pa_cons pe_int pa_nil))) pe_int (nomark _))))) (pss_one (ps_ret (pe_ix (r := rIxL K) ix_list (pe_lst (pa_cons (pe_op op_sub (pe_op op_pow pe_int pe_int) (pe_own c_Ltake hr gd (by rfl) (pa_cons (pv 0) (pa_cons pe_int pa_nil)))) (pa_cons (pe_op op_add pe_int (pe_own c_Ltake hr gd (by rfl) (pa_cons (pv 0) (pa_cons (pe_op op_pow pe_int pe_int) pa_nil)))) pa_nil))) (pe_own c_Ltake hr gd (by rfl) (pa_cons (pv 0) (pa_cons pe_int pa_nil))) (fun _ _ => rfl)))) pss_nil)
  (pss_one (ps_ret (pe_op op_add pe_int (pe_own c_Ltake hr gd (by rfl) (pa_cons (pv 0) (pa_cons (pe_ix (r := rIxL K) ix_list (pe_lst (pa_cons pe_int (pa_cons pe_int (pa_cons pe_int pa_nil)))) (pe_own c_Ltake hr gd (by rfl) (pa_cons (pv 0) (pa_cons pe_int pa_nil))) (fun _ _ => rfl)) pa_nil))))))), ?_⟩
  have big : (3 : Int) < (10 : Int) ^ (18 : Int).toNat := by decide
  refine x_cut (fun σ' H' => σ' = [some (.ref b), some (.bl g)] ∧ Ext [b] H H' ∧ Bag H' b c) ?_ ?_
  · walk_at "xs"
    refine x_iteB (fun h => ?_) (fun h => ?_)
    · walk_at "xs"
      refine x_take hB (by decide) (by decide) ?_
      intro H1 v1 E1 B1 a1 c1
      walk_at "xs"
      refine x_ite (fun h => ?_) (fun h => ?_)
      · walk_at "xs"
        refine x_take B1 (by decide) (by decide) ?_
        intro H2 v2 E2 B2 a2 c2
        walk_at "xs"
        refine x_take B2 (by decide) (by decide) ?_
        intro H3 v3 E3 B3 a3 c3
        walk_at "xs"
        intro p hp
        obtain ⟨ob, hob⟩ := B3.at
        have np := new_out (Same.refl H3) hob hp
        have S := same_upd hp (o := .lst [.int (10 ^ (18 : Int).toNat - v2), .int (1 + v3)])
        have B4 := B3.ext S
        have ep := upd_same (H := H3) (a := p) (o := .lst [.int (10 ^ (18 : Int).toNat - v2), .int (1 + v3)])
        generalize upd H3 p _ = H4 at *
        walk_at "xs"
        refine x_take B4 (by decide) (by decide) ?_
        intro H5 v4 E5 B5 a4 c4
        have ep := E5 _ _ np ep
        obtain ⟨x, ex, ax⟩ := ix_at ep a4 c4
        refine x_ixL (SqL.of ep) ax ?_
        have X := E1.trans (E2.trans (E3.trans ((Ext.same S).trans E5)))
        have hm := List.mem_of_getElem? ex
        simp only [List.mem_cons, List.not_mem_nil, or_false] at hm
        rcases hm with rfl | rfl
        · exact q _ _ X B5 (by omega) (show (10 : Int) ^ (18 : Int).toNat - v2 ≤ 10 ^ (18 : Int).toNat by omega)
        · exact q _ _ X B5 (by omega) (show 1 + v3 ≤ 10 ^ (18 : Int).toNat by omega)
      · walk_at "xs"
        exact ⟨rfl, E1, B1⟩
    · walk_at "xs"
      exact ⟨rfl, Ext.refl _ _, hB⟩
  · rintro _ H1 ⟨rfl, E1, B1⟩
    walk_at "xs"
    intro p hp
    obtain ⟨ob, hob⟩ := B1.at
    have np := new_out (Same.refl H1) hob hp
    have S := same_upd hp (o := .lst [.int 1, .int 3, .int 9])
    have B4 := B1.ext S
    have ep := upd_same (H := H1) (a := p) (o := .lst [.int 1, .int 3, .int 9])
    generalize upd H1 p _ = H4 at *
    walk_at "xs"
    refine x_take B4 (by decide) (by decide) ?_
    intro H5 v4 E5 B5 a4 c4
    have ep := E5 _ _ np ep
    obtain ⟨x, ex, ax⟩ := ix_at ep a4 c4
    refine x_ixL (SqL.of ep) ax ?_
    have hm : ∃ m : Int, x = .int m ∧ 1 ≤ m ∧ m ≤ 9 := by
      have hm := List.mem_of_getElem? ex
      simp only [List.mem_cons, List.not_mem_nil, or_false] at hm
      rcases hm with rfl | rfl | rfl <;> exact ⟨_, rfl, by decide, by decide⟩
    obtain ⟨m, rfl, m0, m1⟩ := hm
    walk_at "xs"
    have big2 : (10 : Nat) < 2 ^ 200 := by decide
    refine x_take B5 (by omega) (by omega) ?_
    intro H6 v5 E6 B6 a5 c5
    walk_at "xs"
    have big3 : (20 : Int) < (10 : Int) ^ 18 := by decide
    exact q _ _ (E1.trans ((Ext.same S).trans (E5.trans E6))) B6 (by omega) (by omega)
theorem kn_netB {k : Nat} (D : Df K mg "_law_bundles" s_Lbundles) (B : Bl mg) (c_Ltake : Kn P w K mg base "_law_take" k spTake) (c_Lamount : Kn P w K mg base "_law_amount" k spAmount) : Kn P w K mg base "_law_bundles" (k + 1) spNetB := by
  refine kn_of D (fun _ _ _ _ _ _ us hl => match us, hl with | [_, _, _], _ => rfl) sc_Lbundles (fun vs H Q E h => by obtain ⟨b, c, n, g, rfl, _⟩ := h; rfl) (fun f cd B' fr z H vs Q E hr gd h => ?_)
  obtain ⟨b, c, n, g, rfl, hB, n0, n1, q⟩ := h
  refine ⟨_, (pss_cons (ps_par (i := 3) (j := 4) (by rfl) sc_Lbundles.nd rfl rfl (by decide) rfl rfl (pa_cons (pe_op op_add pe_int (pe_own c_Ltake hr gd (by rfl) (pa_cons (pv 0) (pa_cons pe_int pa_nil)))) (pa_cons (pe_lst pa_nil) pa_nil)) (by rfl))
  (pss_cons (ps_for PassesOwn.never rfl (pi_range1 (by rfl) B.range (pa_cons (pv 1) pa_nil)) (pg_name (i := 5) sc_Lbundles.nd rfl (.inl rfl))
  (pss_one (ps_for PassesOwn.never rfl (pi_range2 (by rfl) B.range (pa_cons (pe_op op_add (pv 5) pe_int) (pa_cons (pv 1) pa_nil))) (pg_name (i := 6) sc_Lbundles.nd rfl (.inl rfl))
  (pss_one (ps_if (pt_cmpR op_eq (pe_own c_Ltake hr gd (by rfl) (pa_cons (pv 0) (pa_cons (pv 3) pa_nil))) pe_int (nomark _)) (pss_one (ps_expr (pe_bm PySem.F.plainAttrs_list PySem.F.slot_list_append PySem.F.type_list_append mt_append (pv 4) (pa_cons (pe_tup (pa_cons (pv 5) (pa_cons (pv 6) (pa_cons (pe_own c_Lamount hr gd (by rfl) (pa_cons (pv 0) (pa_cons (pv 2) pa_nil))) pa_nil)))) pa_nil)))) pss_nil)))))
  (pss_cons (ps_set (i := 4) sc_Lbundles.nd rfl (.inl rfl) (pe_orT (pv 4) (pe_one (pe_lst (pa_cons (pe_tup (pa_cons pe_int (pa_cons pe_int (pa_cons (pe_own c_Lamount hr gd (by rfl) (pa_cons (pv 0) (pa_cons (pv 2) pa_nil))) pa_nil)))) pa_nil)))))
  (pss_one (ps_ret (pe_ifExp (pt_cmpR op_eq (pe_own c_Ltake hr gd (by rfl) (pa_cons (pv 0) (pa_cons pe_int pa_nil))) pe_int (nomark _)) (pe_revL (pv 4)) (pv 4))))))), ?_⟩
  walk_at "xs"
  refine x_take hB (by decide) (by decide) ?_
  intro H1 v1 E1 B1 a1 c1
  walk_at "xs"
  intro F hF
  have rb := Rb.mk0 B1 hF
  generalize upd H1 F _ = H2 at *
  have rare : (0 : Int) < 1 + v1 := by omega
  have big : (10 : Nat) < 2 ^ 200 := by decide
  walk_at "xs"
  refine for_range (lo := 0) (n := n.toNat) (fun i σ' H' => ∃ y5 y6 acc ds, σ' = [some (.ref b), some (.int n), some (.bl g), some (.int (1 + v1)), some (.ref F), y5, y6] ∧ Rb H1 b c F acc ds H' ∧ ds.length ≤ tri n.toNat i ∧ Good n i 0 ds) ?_ ?_ ?_
  · exact ⟨_, _, _, _, rfl, rb, Nat.le_refl _, rfl, by simp, by simp⟩
  · rintro i _ H3 hi ⟨y5, y6, acc, ds, rfl, rb, ll, gd0⟩
    walk_at "xs"
    refine for_range (lo := 0 + (i : Int) + 1) (n := (n - (0 + (i : Int) + 1)).toNat) (fun j σ' H' => ∃ y6 acc ds, σ' = [some (.ref b), some (.int n), some (.bl g), some (.int (1 + v1)), some (.ref F), some (.int (0 + (i : Int))), y6] ∧ Rb H1 b c F acc ds H' ∧ ds.length ≤ tri n.toNat i + j ∧ Good n i (i + 1 + j) ds) ?_ ?_ ?_
    · exact ⟨_, _, _, rfl, rb, ll, gd0.skip (by omega)⟩
    · rintro j _ H4 hj ⟨y6, acc, ds, rfl, rb, ll, gd1⟩
      walk_at "xs"
      refine x_take rb.bag rare (by omega) ?_
      intro H5 v2 E5 B5 a2 c2
      have rb := rb.step E5 B5
      have fd := rb.fd
      walk_at "xs"
      refine x_ite (fun h => ?_) (fun h => ?_)
      · walk_at "xs"
        refine x_amount rb.bag ?_
        intro H6 ct E6 B6 ct0 ct1
        have rb := rb.step E6 B6
        walk_at "xs"
        intro p3 hp3
        obtain ⟨rb, np3, np3', ep3⟩ := rb.new (.tup [.int (0 + (i : Int)), .int (0 + (i : Int) + 1 + (j : Int)), .int ct]) hp3
        generalize upd H6 p3 _ = H9 at *
        have la := rb.rows.length
        have tl : tri n.toNat i + j ≤ 100 := by
          have h1 : tri n.toNat i + j ≤ tri n.toNat (i + 1) := by show _ ≤ tri n.toNat i + (n.toNat - (i + 1)); omega
          have h2 : ∀ n, n ≤ 10 → ∀ i, i < n → tri n (i + 1) ≤ 45 := by decide
          have := h2 n.toNat (by omega) i hi
          omega
        walk_at "xs"
        refine x_app rb.fd (by rw [sizeLine_eq]; omega) ?_
        have g2 := gd1.add (c := ct) (by omega) (by omega) (by omega) ct0 ct1
        have rb := rb.app (v := .ref p3) (d := tupD [(i : Int), (i : Int) + 1 + (j : Int), ct]) (.tup (by rw [ep3, Int.zero_add]; rfl) np3' (DnAll.ints [(i : Int), (i : Int) + 1 + (j : Int), ct])) (row_of (by omega) (by omega) (by omega) ct0 ct1)
        walk_at "xs"
        exact ⟨_, _, _, rfl, rb, by rw [List.length_append, List.length_singleton]; omega, g2.skip (by omega)⟩
      · walk_at "xs"
        exact ⟨_, _, _, rfl, rb, by omega, gd1.skip (by omega)⟩
    · rintro _ H4 ⟨y6, acc, ds, rfl, rb, ll, gd1⟩
      exact ⟨_, _, _, _, rfl, rb, by show _ ≤ tri n.toNat i + (n.toNat - (i + 1)); omega, gd1.next (by omega)⟩
  · rintro _ H3 ⟨y5, y6, acc, ds, rfl, rb, ll, gd0⟩
    have l45 := tri_le n.toNat (by omega)
    have la := rb.rows.length
    have fd := rb.fd
    walk_at "xs"
    have tail : ∀ (H4 : Hp) (G : Addr) (xs : List V) (es : List PyData), Ext [b] H H4 → Bag H4 b c → H4 G = some (.lst xs) → G ∉ [b] → DnAll [b] H4 xs es → bundlesD (.list es) n = true → 0 < es.length → (∀ (H5 : Hp) (v : Int), Ext [b] H4 H5 → Bag H5 b c → 0 ≤ v → v < 3 → (v = 0 → ∀ l, H5 l = none → Q (.ref l) (upd H5 l (.lst xs.reverse))) ∧ (v ≠ 0 → Q (.ref G) H5)) := by
      intro H4 G xs es X4 B4 e4 n4 A4 hb4 h4 H5 v E5 B5 v0 v1
      refine ⟨fun _ l hl => ?_, fun _ => q _ _ es (X4.trans E5) B5 (.lst (E5 _ _ n4 e4) n4 (A4.ext E5)) hb4 h4⟩
      obtain ⟨ob, hob⟩ := B5.at
      have S := same_upd hl (o := .lst xs.reverse)
      exact q _ _ es.reverse (X4.trans (E5.trans (Ext.same S))) (B5.ext S) (.lst upd_same (new_out (Same.refl H5) hob hl) ((A4.ext E5).rev.ext (Ext.same S))) (bundles_rev hb4) (by rw [List.length_reverse]; exact h4)
    refine ⟨!acc.isEmpty, .inl ⟨acc, SqL.of fd, rfl⟩, ?_⟩
    cases acc with
    | cons a0 ar =>
      have pos : 0 < ds.length := by rw [← la]; exact Nat.succ_pos _
      have T := tail H3 F _ ds (E1.trans rb.e) rb.bag rb.fd rb.ne (rb.rows.sub (by intro x h; simp at h ⊢; exact .inl h)) (gd0.done (by omega)) pos
      rw [show (!(a0 :: ar).isEmpty) = true from rfl]
      walk_at "xs"
      refine x_take rb.bag (by decide) (by decide) ?_
      intro H5 v E5 B5 v0 v1'
      have fd5 := E5 _ _ rb.ne fd
      obtain ⟨Ta, Tb⟩ := T H5 v E5 B5 v0 v1'
      walk_at "xs"
      refine x_ite (fun h => ?_) (fun h => ?_)
      · walk_at "xs"
        refine x_revL (SqL.of fd5) ?_
        intro l hl
        exact Ta h l hl
      · walk_at "xs"
        exact Tb h
    | nil =>
      rw [show (!([] : List V).isEmpty) = false from rfl]
      walk_at "xs"
      refine x_amount rb.bag ?_
      intro H4 ct E4 B4 ct0 ct1
      walk_at "xs"
      intro p1 hp1
      obtain ⟨ob, hob⟩ := B4.at
      have np1 := new_out (Same.refl H4) hob hp1
      have S1 := same_upd hp1 (o := .tup [.int 0, .int 1, .int ct])
      have e1 := upd_same (H := H4) (a := p1) (o := .tup [.int 0, .int 1, .int ct])
      have B5 := B4.ext S1
      generalize upd H4 p1 _ = H5 at *
      walk_at "xs"
      intro p2 hp2
      have np2 := new_out (Same.refl H5) (S1 _ _ hob) hp2
      have S2 := same_upd hp2 (o := .lst [.ref p1])
      have e2 := upd_same (H := H5) (a := p2) (o := .lst [.ref p1])
      have e1 := S2 _ _ e1
      have B6 := B5.ext S2
      generalize upd H5 p2 _ = H6 at *
      have g1 : Good n 0 (1 + 1) [tupD [0, 1, ct]] := Good.add (ds := []) ⟨rfl, by simp, by simp⟩ (by omega) (by omega) (by omega) ct0 ct1
      have T := tail H6 p2 _ [tupD [0, 1, ct]] (E1.trans (rb.e.trans (E4.trans (Ext.same (S1.trans S2))))) B6 e2 np2 (.cons (.tup e1 np1 (DnAll.ints [0, 1, ct])) .nil) (g1.done (Nat.le_of_ble_eq_true rfl)) (Nat.le_of_ble_eq_true rfl)
      walk_at "xs"
      refine x_take B6 (by decide) (by decide) ?_
      intro H7 v E7 B7 v0 v1'
      have e7 := E7 _ _ np2 e2
      obtain ⟨Ta, Tb⟩ := T H7 v E7 B7 v0 v1'
      walk_at "xs"
      refine x_ite (fun h => ?_) (fun h => ?_)
      · walk_at "xs"
        refine x_revL (SqL.of e7) ?_
        intro l hl
        exact Ta h l hl
      · walk_at "xs"
        exact Tb h
end
/-! ### loads, exactly -/
/-- what was set, summed -/
def spLoadsX (K : PySem.W.Frag) : Sp := fun vs H Q _ => ∃ (k : Bool) (M : List Addr) (n : Int) (u : V) (p : Addr) (rs : List PyData) (ls : List Int), vs = [.int n, u, .ref p] ∧ Dn M H u (.list rs) ∧ (if k = true then H p = some (.tup (ls.map V.int)) else H p = some (.lst (ls.map V.int))) ∧ bundlesD (.list rs) n = true ∧ 2 ≤ n ∧ n ≤ 10 ∧ ls.length = rs.length ∧
  ∀ (H' : Hp) (f : Addr), Same H H' → H f = none → H' f = some (.lst ((ldOf n.toNat rs ls ls.length).map V.int)) → Q (.ref f) H'
section
variable {P : Program} {w : World} {K : PySem.W.Frag} {mg : Str → Option Value} {base : Heap} {t0 t1 t2 t3 t4 : Tok} {C : Addr}
theorem kn_loadsX {k : Nat} (D : Df K mg "_law_loads" s_Lloads) (B : Bl mg) : Kn P w K mg base "_law_loads" (k + 1) (spLoadsX K) := by
  refine kn_of D (fun _ _ _ _ _ _ us hl => match us, hl with | [_, _, _], _ => rfl) sc_Lloads (fun vs H Q E h => by obtain ⟨kk, M, n, u, p, rs, ls, rfl, _⟩ := h; rfl) (fun f cd B' fr z H vs Q E hr gd h => ?_)
  obtain ⟨kk, M, n, u, p, rs, ls, rfl, hu, hp, hb, n0, n1, same, q⟩ := h
  refine ⟨_, (pss_cons (ps_set (i := 3) sc_Lloads.nd rfl (.inl rfl) (pe_op op_rep (pe_lst (pa_cons pe_int pa_nil)) (pv 0)))
  (pss_cons (ps_for PassesOwn.never rfl (pi_zipX (by rfl) B.zip (pa_cons (pv 2) (pa_cons (pv 1) pa_nil))) (pg_tup (by rfl) (pgs_cons (pg_name (i := 4) sc_Lloads.nd rfl (.inl rfl)) (pgs_cons (pg_tup (by rfl) (pgs_cons (pg_name (i := 5) sc_Lloads.nd rfl (.inl rfl)) (pgs_cons (pg_name (i := 6) sc_Lloads.nd rfl (.inl rfl)) (pgs_cons (pg_name (i := 7) sc_Lloads.nd rfl (.inl rfl)) pgs_nil)))) pgs_nil)))
  (pss_cons (ps_asg (pe_op op_add (pe_ix (r := rIxL K) ix_list (pv 3) (pv 5) (fun _ _ => rfl)) (pv 4)) (pg_sub (pv 3) (pv 5) set_list))
  (pss_one (ps_asg (pe_op op_sub (pe_op op_add (pe_ix (r := rIxL K) ix_list (pv 3) (pv 6) (fun _ _ => rfl)) (pv 7)) (pv 4)) (pg_sub (pv 3) (pv 6) set_list)))))
  (pss_one (ps_ret (pv 3))))), ?_⟩
  obtain ⟨len, all⟩ := bundles_len hb
  cases hu with
  | @lst a xs _ ea ma A =>
  have lx := A.length
  walk_at "xs"
  intro o ho
  have S0 := same_upd ho (o := .lst [.int 0])
  have eo := upd_same (H := H) (a := o) (o := .lst [.int 0])
  generalize upd H o _ = H1 at *
  walk_at "xs"
  refine x_rep eo (by omega) (by omega) (by rw [sizeLine_eq]; simp only [List.length_cons, List.length_nil]; omega) ?_
  intro F hF
  rw [repl_int]
  have hF0 : H F = none := S0.free hF
  have S1 : Same H (upd H1 F (.lst ((List.replicate n.toNat (0 : Int)).map V.int))) := S0.trans (same_upd hF)
  have eF := upd_same (H := H1) (a := F) (o := .lst ((List.replicate n.toNat (0 : Int)).map V.int))
  generalize upd H1 F _ = H2 at *
  have keepX : ∀ H' : Hp, Same H H' → SqX kk K H' p (ls.map V.int) := by
    intro H' S
    cases kk with
    | true => exact SqT.of (S _ _ hp)
    | false => exact SqL.of (S _ _ hp)
  have ea2 := S1 _ _ ea
  walk_at "xs"
  refine ⟨kk, p, a, ls.map V.int, xs, rfl, keepX _ S1, SqL.of ea2, ?_⟩
  walk_at "xs"
  refine for_zipX (K := K) (us := ls.map V.int) (vs := xs) (by rw [List.length_map]; omega) (fun i σ' H' => ∃ (y4 y5 y6 y7 : Option V), σ' = [some (.int n), some (.ref a), some (.ref p), some (.ref F), y4, y5, y6, y7] ∧ H' F = some (.lst ((ldOf n.toNat rs ls i).map V.int)) ∧ Same H H') ?_ ?_ ?_ ?_
  · exact ⟨_, _, _, _, rfl, eF, S1⟩
  · rintro i _ H' ⟨_, _, _, _, _, _, S⟩
    exact ⟨keepX _ S, SqL.of (S _ _ ea)⟩
  · rintro i u r t _ H' hu hv ⟨y4, y5, y6, y7, rfl, fd, S⟩ ht
    obtain ⟨l, hl, rfl⟩ := int_at hu
    obtain ⟨dR, hdR, dnR⟩ := A.get hv
    have hbd : bundleD dR n = true := by
      rw [List.all_eq_true] at all
      exact all _ (List.mem_map.mpr ⟨dR, List.mem_of_getElem? hdR, rfl⟩)
    obtain ⟨a', b', c', rfl, p0, p1, p2, p3, p4⟩ := bundle_row hbd n1
    obtain ⟨r', rfl, _, hr2⟩ := Dn.tup3 (a := a') (b := b') (c := c') dnR
    have nx := ld_next (n := n.toNat) hl hdR
    have hn := ld_len n.toNat rs ls i
    generalize ldOf n.toNat rs ls i = hs at *
    have hr3 := S _ _ hr2
    have ntF : t ≠ F := ne_of_none2 ht fd
    have nrt : r' ≠ t := ne_of_none hr3 ht
    have fd' : (upd H' t (.tup [.int l, .ref r'])) F = some (.lst (hs.map V.int)) := by rw [upd_ne ntF.symm]; exact fd
    have hr4 : (upd H' t (.tup [.int l, .ref r'])) r' = some (.tup [.int a', .int b', .int c']) := by rw [upd_ne nrt]; exact hr3
    have et := upd_same (H := H') (a := t) (o := .tup [.int l, .ref r'])
    have S2 : Same H (upd H' t (.tup [.int l, .ref r'])) := S.trans (same_upd ht)
    generalize upd H' t _ = H4 at *
    walk_at "xs"
    obtain ⟨v1, hv1, at1⟩ := at_map (hs := hs) p0 (by omega)
    refine x_ixL (SqL.of fd') at1 ?_
    walk_at "xs"
    refine x_setL fd' (ixN_of p0 (by rw [List.length_map]; omega)) ?_
    rw [set_map, ← getD_of hv1]
    obtain ⟨hs1, eh1⟩ : ∃ hs1, hs1 = hs.set a'.toNat (hs.getD a'.toNat 0 + l) := ⟨_, rfl⟩
    rw [← eh1]
    have len1 : hs1.length = n.toNat := by rw [eh1, List.length_set]; exact hn
    have S3 : Same H (upd H4 F (.lst (hs1.map V.int))) := fun z o e => by rw [upd_ne (ne_of_none e hF0)]; exact S2 _ _ e
    have fd2 := upd_same (H := H4) (a := F) (o := .lst (hs1.map V.int))
    generalize upd H4 F _ = H5 at *
    walk_at "xs"
    obtain ⟨v2, hv2, at2⟩ := at_map (hs := hs1) (i := b') (by omega) (by omega)
    refine x_ixL (SqL.of fd2) at2 ?_
    walk_at "xs"
    refine x_setL fd2 (ixN_of (by omega) (by rw [List.length_map]; omega)) ?_
    rw [set_map, ← getD_of hv2]
    walk_at "xs"
    refine ⟨_, _, _, _, rfl, ?_, fun z o e => by rw [upd_ne (ne_of_none e hF0)]; exact S3 _ _ e⟩
    rw [upd_same, nx, eh1]
    rfl
  · rintro _ H' ⟨y4, y5, y6, y7, rfl, fd, S⟩
    rw [List.length_map] at fd
    walk_at "xs"
    exact q _ F S hF0 fd
end

/-! ### loads, bounds, the whole -/
theorem e18 : (10 : Int) ^ 18 = 1000000000000000000 := by decide
/-- the exact loads are small -/
theorem ld_small {n : Int} {rs : List PyData} {ls : List Int} (hb : bundlesD (.list rs) n = true) (n1 : n ≤ 10) (ok : LeadsOk rs ls) : ∀ i, i ≤ ls.length → ∀ h ∈ ldOf n.toNat rs ls i, 0 ≤ h ∧ h ≤ 2 * (i : Int) * 1000000000000000000
  | 0, _, h, hh => by
    obtain rfl := (List.mem_replicate.mp hh).2
    omega
  | i + 1, hi, h, hh => by
    have ih := ld_small hb n1 ok i (by omega)
    obtain ⟨same, hls⟩ := ok
    obtain ⟨len, all⟩ := bundles_len hb
    have hl : ls[i]? = some ls[i] := List.getElem?_eq_getElem (by omega)
    have hi2 : i < rs.length := by omega
    have hr : rs[i]? = some rs[i] := List.getElem?_eq_getElem hi2
    have hbd : bundleD rs[i] n = true := by
      rw [List.all_eq_true] at all
      exact all _ (List.mem_map.mpr ⟨rs[i], List.getElem_mem hi2, rfl⟩)
    obtain ⟨a, b, c, e, p0, p1, p2, p3, p4⟩ := bundle_row hbd n1
    rw [e] at hr
    obtain ⟨l0, l1⟩ := hls i _ _ hl hr
    have l1 : ls[i] ≤ c := l1
    rw [e18] at p4
    have hn := ld_len n.toNat rs ls i
    rw [ld_next hl hr] at hh
    generalize ls[i] = l at *
    generalize ldOf n.toNat rs ls i = hs at *
    have gb : ∀ (xs : List Int) (j : Nat) (m : Int), j < xs.length → (∀ h ∈ xs, 0 ≤ h ∧ h ≤ m) → 0 ≤ xs.getD j 0 ∧ xs.getD j 0 ≤ m := by
      intro xs j m hj hx
      rw [List.getD_eq_getElem?_getD, List.getElem?_eq_getElem hj]
      exact hx _ (List.getElem_mem hj)
    have g1 := gb hs a.toNat _ (by omega) ih
    have m1 : ∀ h ∈ hs.set a.toNat (hs.getD a.toNat 0 + l), 0 ≤ h ∧ h ≤ 2 * (i : Int) * 1000000000000000000 + 1000000000000000000 := by
      intro h hm
      rcases List.mem_or_eq_of_mem_set hm with hm | rfl
      · have := ih h hm; omega
      · omega
    have g2 := gb _ b.toNat _ (by rw [List.length_set]; omega) m1
    unfold ldStep at hh
    rcases List.mem_or_eq_of_mem_set hh with hm | rfl
    · have := m1 h hm; omega
    · omega
section
variable {P : Program} {w : World} {K : PySem.W.Frag} {mg : Str → Option Value} {base : Heap} {t0 t1 t2 t3 t4 : Tok}
def spBnd : Sp := fun vs H Q _ => ∃ (b c p : Addr) (hs : List Int), vs = [.ref b, .ref p] ∧ Bag H b c ∧ H p = some (.lst (hs.map V.int)) ∧ p ∉ [b] ∧ 2 ≤ hs.length ∧ hs.length ≤ 10 ∧ (∀ h ∈ hs, 0 ≤ h ∧ h ≤ 1000000000000000000000) ∧
  ∀ H' f ds, Ext [b] H H' → Bag H' b c → Dn [b] H' (.ref f) (.list ds) → boundsD (.list ds) = true → ds.length = hs.length → (∀ j, OkAt ds hs j) → Q (.ref f) H'
theorem x_bnd {H : Hp} {Q : VK} {E : XK} {b c p : Addr} {hs : List Int} (hb : Bag H b c) (hp : H p = some (.lst (hs.map V.int))) (np : p ∉ [b]) (l0 : 2 ≤ hs.length) (l1 : hs.length ≤ 10) (hh : ∀ h ∈ hs, 0 ≤ h ∧ h ≤ 1000000000000000000000)
    (h : ∀ H' f ds, Ext [b] H H' → Bag H' b c → Dn [b] H' (.ref f) (.list ds) → boundsD (.list ds) = true → ds.length = hs.length → (∀ j, OkAt ds hs j) → Q (.ref f) H') : spBnd [.ref b, .ref p] H Q E := ⟨b, c, p, hs, rfl, hb, hp, np, l0, l1, hh, h⟩
theorem bound_ok {x y : Int} (h0 : 0 ≤ x) (h1 : x ≤ y) (h2 : y ≤ 10 ^ 30) : boundD (tupD [x, y]) = true := by
  show ((decide (0 ≤ x) && decide (x ≤ 10 ^ 30)) && (decide (x ≤ y) && decide (y ≤ 10 ^ 30))) = true
  simp only [Bool.and_eq_true, decide_eq_true_eq]
  exact ⟨⟨h0, by omega⟩, h1, h2⟩
theorem in5 {x : V} {a b c d e m : Int} (h : x ∈ [V.int a, V.int b, V.int c, V.int d, V.int e]) (ha : 0 ≤ a ∧ a ≤ m) (hb : 0 ≤ b ∧ b ≤ m) (hc : 0 ≤ c ∧ c ≤ m) (hd : 0 ≤ d ∧ d ≤ m) (he : 0 ≤ e ∧ e ≤ m) : ∃ i, x = .int i ∧ 0 ≤ i ∧ i ≤ m := by
  simp only [List.mem_cons, List.not_mem_nil, or_false] at h
  rcases h with rfl | rfl | rfl | rfl | rfl
  · exact ⟨_, rfl, ha⟩
  · exact ⟨_, rfl, hb⟩
  · exact ⟨_, rfl, hc⟩
  · exact ⟨_, rfl, hd⟩
  · exact ⟨_, rfl, he⟩
theorem kn_bnd {k : Nat} (D : Df K mg "_law_bounds" s_Lbounds) (B : Bl mg) (c_Ltake : Kn P w K mg base "_law_take" k spTake) : Kn P w K mg base "_law_bounds" (k + 1) spBnd := by
  refine kn_of D (fun _ _ _ _ _ _ us hl => match us, hl with | [_, _], _ => rfl) sc_Lbounds (fun vs H Q E h => by obtain ⟨b, c, p, hs, rfl, _⟩ := h; rfl) (fun f cd B' fr z H vs Q E hr gd h => ?_)
  obtain ⟨b, c, p, hs, rfl, hB, hp, np, l0, l1, hh, q⟩ := h
  refine ⟨_, (pss_cons (ps_set (i := 2) sc_Lbounds.nd rfl (.inl rfl) (pe_lst pa_nil))
  (pss_cons (ps_for PassesOwn.never rfl (pi_list (pv 1)) (pg_name (i := 3) sc_Lbounds.nd rfl (.inl rfl))
  (pss_cons (ps_set (i := 4) sc_Lbounds.nd rfl (.inl rfl) (pe_ix (r := rIxL K) ix_list (pe_lst (pa_cons pe_int (pa_cons pe_int (pa_cons pe_int (pa_cons (pe_own c_Ltake hr gd (by rfl) (pa_cons (pv 0) (pa_cons pe_int pa_nil))) (pa_cons (pv 3) pa_nil)))))) (pe_own c_Ltake hr gd (by rfl) (pa_cons (pv 0) (pa_cons pe_int pa_nil))) (fun _ _ => rfl)))
  (pss_cons (ps_set (i := 5) sc_Lbounds.nd rfl (.inl rfl) (pe_ix (r := rIxL K) ix_list (pe_lst (pa_cons pe_int (pa_cons pe_int (pa_cons pe_int (pa_cons (pe_own c_Ltake hr gd (by rfl) (pa_cons (pv 0) (pa_cons pe_int pa_nil))) (pa_cons (pe_op op_pow pe_int pe_int) pa_nil)))))) (pe_own c_Ltake hr gd (by rfl) (pa_cons (pv 0) (pa_cons pe_int pa_nil))) (fun _ _ => rfl)))
  (pss_one (ps_expr (pe_bm PySem.F.plainAttrs_list PySem.F.slot_list_append PySem.F.type_list_append mt_append (pv 2) (pa_cons (pe_tup (pa_cons (pe_callB (call_max2 rfl) (by rfl) B.max (by decide +kernel) (pa_cons pe_int (pa_cons (pe_op op_sub (pv 3) (pv 4)) pa_nil))) (pa_cons (pe_op op_add (pv 3) (pv 5)) pa_nil))) pa_nil)))))))
  (pss_one (ps_ret (pv 2))))), ?_⟩
  walk_at "xs"
  intro F hF
  have rb := Rb.mk0 hB hF
  have hp1 := same_upd hF (o := .lst []) _ _ hp
  generalize upd H F _ = H1 at *
  walk_at "xs"
  have big : (1000000000000000000000 : Int) + 10 ^ (19 : Int).toNat < 10 ^ 30 := by decide
  have big2 : (10 : Int) ^ 30 < 2 ^ 150 := by decide
  have big3 : (2 : Nat) ^ 150 < 2 ^ 200 := by decide
  refine for_list (K := K) (a := p) (xs := hs.map V.int) (fun i σ' H' => ∃ y3 y4 y5 acc ds, σ' = [some (.ref b), some (.ref p), some (.ref F), y3, y4, y5] ∧ Rb H b c F acc ds H' ∧ ds.length = i ∧ (ds.map boundD).all id = true ∧ ∀ j, OkAt ds hs j) ?_ ?_ ?_ ?_
  · exact ⟨_, _, _, _, _, rfl, rb, rfl, rfl, fun j lo up h e => by simp at e⟩
  · rintro i _ H' _ ⟨_, _, _, _, _, _, rb, _⟩
    exact SqL.of (rb.e _ _ np hp)
  · rintro i x _ H3 hx ⟨y3, y4, y5, acc, ds, rfl, rb, ll, all, okj⟩
    obtain ⟨ld, hld, rfl⟩ := int_at hx
    have b0 := hh ld (List.mem_of_getElem? hld)
    have hi := (List.getElem?_eq_some_iff.mp hld).1
    walk_at "xs"
    refine x_take rb.bag (by decide) (by decide) ?_
    intro H4 v1 E4 B4 a1 c1
    have rb := rb.step E4 B4
    walk_at "xs"
    intro p1 hp1
    obtain ⟨rb, n1, _, e1⟩ := rb.new (.lst [.int 0, .int 0, .int 1, .int v1, .int ld]) hp1
    generalize upd H4 p1 _ = H5 at *
    walk_at "xs"
    refine x_take rb.bag (by decide) (by decide) ?_
    intro H6 v2 E6 B6 a2 c2
    have rb := rb.step E6 B6
    have e1 := E6 _ _ n1 e1
    obtain ⟨x, ex, ax⟩ := ix_at e1 a2 c2
    refine x_ixL (SqL.of e1) ax ?_
    obtain ⟨ud, rfl, u0, u1⟩ := in5 (m := 1000000000000000000000) (List.mem_of_getElem? ex) (by omega) (by omega) (by omega) (by omega) (by omega)
    walk_at "xs"
    refine x_take rb.bag (by decide) (by decide) ?_
    intro H7 v3 E7 B7 a3 c3
    have rb := rb.step E7 B7
    walk_at "xs"
    intro p2 hp2
    obtain ⟨rb, n2, _, e2⟩ := rb.new (.lst [.int 0, .int 0, .int 1, .int v3, .int (10 ^ (19 : Int).toNat)]) hp2
    generalize upd H7 p2 _ = H8 at *
    walk_at "xs"
    refine x_take rb.bag (by decide) (by decide) ?_
    intro H9 v4 E9 B9 a4 c4
    have rb := rb.step E9 B9
    have e2 := E9 _ _ n2 e2
    obtain ⟨x, ex, ax⟩ := ix_at e2 a4 c4
    refine x_ixL (SqL.of e2) ax ?_
    have t19 : (5 : Int) ≤ 10 ^ (19 : Int).toNat := by decide
    obtain ⟨ov, rfl, o0, o1⟩ := in5 (m := 10 ^ (19 : Int).toNat) (List.mem_of_getElem? ex) (by omega) (by omega) (by omega) (by omega) (by omega)
    have fd := rb.fd
    walk_at "xs"
    have mx : 0 ≤ (if ld - ud > 0 then ld - ud else 0) ∧ (if ld - ud > 0 then ld - ud else 0) ≤ ld := by split <;> omega
    generalize (if ld - ud > 0 then ld - ud else 0) = fl at *
    walk_at "xs"
    intro p3 hp3
    obtain ⟨rb, np3, np3', ep3⟩ := rb.new (.tup [.int fl, .int (ld + ov)]) hp3
    generalize upd H9 p3 _ = H11 at *
    have la := rb.rows.length
    walk_at "xs"
    refine x_app rb.fd (by rw [sizeLine_eq]; omega) ?_
    have rb := rb.app (v := .ref p3) (d := tupD [fl, ld + ov]) (.tup ep3 np3' (DnAll.ints [fl, ld + ov])) ⟨[fl, ld + ov], rfl, Nat.le_of_ble_eq_true rfl, Nat.le_of_ble_eq_true rfl, by
      intro n hn
      simp only [List.mem_cons, List.not_mem_nil, or_false] at hn
      rcases hn with rfl | rfl <;> omega⟩
    walk_at "xs"
    refine ⟨_, _, _, _, _, rfl, rb, by rw [List.length_append, List.length_singleton]; omega, ?_, ?_⟩
    · rw [List.map_append, List.all_append, all]
      simp [bound_ok (x := fl) (y := ld + ov) (by omega) (by omega) (by omega)]
    · intro j lo up h e1 e2
      by_cases hji : j < ds.length
      · rw [List.getElem?_append_left hji] at e1
        exact okj j lo up h e1 e2
      · have ej : j = ds.length := by
          have := (List.getElem?_eq_some_iff.mp e1).1
          rw [List.length_append, List.length_singleton] at this
          omega
        subst ej
        rw [List.getElem?_append_right (Nat.le_refl _), Nat.sub_self] at e1
        have e1 : tupD [fl, ld + ov] = tupD [lo, up] := Option.some.inj e1
        rw [ll, hld] at e2
        cases e1; cases e2
        omega
  · rintro _ H3 ⟨y3, y4, y5, acc, ds, rfl, rb, ll, all, okj⟩
    rw [List.length_map] at ll
    walk_at "xs"
    refine q _ _ _ rb.e rb.bag rb.dn ?_ ll okj
    show ((decide (2 ≤ (ds.length : Int)) && decide ((ds.length : Int) ≤ 10)) && (ds.map boundD).all id) = true
    rw [all, decide_eq_true (by omega), decide_eq_true (by omega)]; rfl
theorem Cb.app {H0 H : Hp} {b c f : Addr} {xs : List V} (v : V) (cb : Cb H0 b c f xs H) (nc : c ≠ f) (f0 : H0 f = none) : Cb H0 b c f (xs ++ [v]) (upd H f (.lst (xs ++ [v]))) := by
  have nb : b ≠ f := fun e => cb.ne (by rw [e]; simp)
  refine ⟨fun a o n e => ?_, ?_, upd_same, cb.ne⟩
  · rw [upd_ne (ne_of_none e f0)]; exact cb.e _ _ n e
  · obtain ⟨x, y, k, cs, h1, h2, h3⟩ := cb.bag
    exact ⟨x, y, k, cs, by rw [upd_ne nb]; exact h1, by rw [upd_ne nc]; exact h2, h3⟩
theorem Bag.cne {H : Hp} {b c f : Addr} (h : Bag H b c) (hf : H f = none) : c ≠ f := by
  obtain ⟨x, y, k, cs, h1, h2, _⟩ := h
  exact ne_of_none h2 hf
def spNet : Sp := fun vs H Q _ => ∃ b c m g, vs = [.ref b, .int m, .bl g] ∧ Bag H b c ∧ 2 ≤ m ∧ m ≤ 10 ∧ ∀ H' T f1 f2 f3 ds rs ls, Ext [b] H H' → Bag H' b c → H' T = some (.tup [.ref f1, .ref f2, .ref f3]) → T ∉ [b] →
  Dn [b] H' (.ref f1) (.list ds) → Dn [b] H' (.ref f2) (.list rs) → Dn [b] H' (.ref f3) (tupD ls) → boundsD (.list ds) = true → bundlesD (.list rs) ds.length = true → 0 < rs.length → LeadsOk rs ls → (∀ j, OkAt ds (ldOf ds.length rs ls ls.length) j) → Q (.ref T) H'
theorem x_net {H : Hp} {Q : VK} {E : XK} {b c : Addr} {m : Int} {g : Bool} (hb : Bag H b c) (m0 : 2 ≤ m) (m1 : m ≤ 10) (h : ∀ H' T f1 f2 f3 ds rs ls, Ext [b] H H' → Bag H' b c → H' T = some (.tup [.ref f1, .ref f2, .ref f3]) → T ∉ [b] →
  Dn [b] H' (.ref f1) (.list ds) → Dn [b] H' (.ref f2) (.list rs) → Dn [b] H' (.ref f3) (tupD ls) → boundsD (.list ds) = true → bundlesD (.list rs) ds.length = true → 0 < rs.length → LeadsOk rs ls → (∀ j, OkAt ds (ldOf ds.length rs ls ls.length) j) → Q (.ref T) H') : spNet [.ref b, .int m, .bl g] H Q E := ⟨b, c, m, g, rfl, hb, m0, m1, h⟩
theorem kn_net {k : Nat} (D : Df K mg "_law_net" s_Lnet) (B : Bl mg) (c_Ltake : Kn P w K mg base "_law_take" k spTake) (c_Lbundles : Kn P w K mg base "_law_bundles" k spNetB) (c_Lbounds : Kn P w K mg base "_law_bounds" k spBnd) (c_Lloads : Kn P w K mg base "_law_loads" k (spLoadsX K)) :
    Kn P w K mg base "_law_net" (k + 1) spNet := by
  refine kn_of D (fun _ _ _ _ _ _ us hl => match us, hl with | [_, _, _], _ => rfl) sc_Lnet (fun vs H Q E h => by obtain ⟨b, c, m, g, rfl, _⟩ := h; rfl) (fun f cd B' fr z H vs Q E hr gd h => ?_)
  obtain ⟨b, c, m, g, rfl, hB, m0, m1, q⟩ := h
  refine ⟨_, (pss_cons (ps_set (i := 3) sc_Lnet.nd rfl (.inl rfl) (pe_op op_add pe_int (pe_own c_Ltake hr gd (by rfl) (pa_cons (pv 0) (pa_cons (pe_op op_sub (pv 1) pe_int) pa_nil)))))
  (pss_cons (ps_set (i := 4) sc_Lnet.nd rfl (.inl rfl) (pe_own c_Lbundles hr gd (by rfl) (pa_cons (pv 0) (pa_cons (pv 3) (pa_cons (pv 2) pa_nil)))))
  (pss_cons (ps_set (i := 5) sc_Lnet.nd rfl (.inl rfl) (pe_lst pa_nil))
  (pss_cons (ps_for PassesOwn.never rfl (pi_list (pv 4)) (pg_tup (by rfl) (pgs_cons (pg_name (i := 6) sc_Lnet.nd rfl (.inl rfl)) (pgs_cons (pg_name (i := 7) sc_Lnet.nd rfl (.inl rfl)) (pgs_cons (pg_name (i := 8) sc_Lnet.nd rfl (.inl rfl)) pgs_nil))))
  (pss_one (ps_expr (pe_bm PySem.F.plainAttrs_list PySem.F.slot_list_append PySem.F.type_list_append mt_append (pv 5) (pa_cons (pe_ix (r := rIxL K) ix_list (pe_lst (pa_cons pe_int (pa_cons (pv 8) (pa_cons (pe_own c_Ltake hr gd (by rfl) (pa_cons (pv 0) (pa_cons (pe_op op_add (pv 8) pe_int) pa_nil))) pa_nil)))) (pe_own c_Ltake hr gd (by rfl) (pa_cons (pv 0) (pa_cons pe_int pa_nil))) (fun _ _ => rfl)) pa_nil)))))
  (pss_one (ps_ret (pe_tup (pa_cons (pe_own c_Lbounds hr gd (by rfl) (pa_cons (pv 0) (pa_cons (pe_own c_Lloads hr gd (by rfl) (pa_cons (pv 3) (pa_cons (pv 4) (pa_cons (pv 5) pa_nil)))) pa_nil))) (pa_cons (pv 4) (pa_cons (pe_callTy call_tuple_of (by rfl) B.«tuple» (by decide +kernel) (pa_cons (pv 5) pa_nil)) pa_nil)))))))))), ?_⟩
  have big : (20 : Nat) < 2 ^ 200 := by decide
  have big2 : (1000000000000000000 : Nat) + 10 < 2 ^ 200 := by decide
  walk_at "xs"
  refine x_take hB (by omega) (by omega) ?_
  intro H1 v1 E1 B1 a1 c1
  walk_at "xs"
  refine x_netB B1 (by omega) (by omega) ?_
  intro H2 f2 rs E2 B2 d2 hb2 pos
  walk_at "xs"
  intro F hF
  obtain ⟨ob, hob⟩ := B2.at
  have nF := new_out (Same.refl H2) hob hF
  have nc := B2.cne hF
  have S3 := same_upd hF (o := .lst [])
  have cb : Cb H2 b c F [] (upd H2 F (.lst [])) := ⟨Ext.same S3, B2.ext S3, upd_same, nF⟩
  generalize upd H2 F _ = H3 at *
  obtain ⟨len, all⟩ := bundles_len hb2
  have d2' := d2
  cases d2' with
  | @lst _ xs _ e2 m2 A =>
  have lx := A.length
  have e23 := cb.e _ _ m2 e2
  walk_at "xs"
  refine for_list (K := K) (a := f2) (xs := xs) (fun i σ' H' => ∃ (y6 y7 y8 : Option V) (ls : List Int), σ' = [some (.ref b), some (.int m), some (.bl g), some (.int (2 + v1)), some (.ref f2), some (.ref F), y6, y7, y8] ∧ Cb H2 b c F (ls.map V.int) H' ∧ ls.length = i ∧ ∀ (j : Nat) (l : Int) (r : PyData), ls[j]? = some l → rs[j]? = some r → 0 ≤ l ∧ l ≤ cntD r) ?_ ?_ ?_ ?_
  · exact ⟨_, _, _, [], rfl, cb, rfl, by simp⟩
  · rintro i _ H' _ ⟨_, _, _, _, _, cb, _⟩
    exact SqL.of (cb.e _ _ m2 e2)
  · rintro i x _ H4 hx ⟨y6, y7, y8, ls, rfl, cb, ll, hls⟩
    obtain ⟨dR, hdR, dnR⟩ := A.get hx
    have hi := (List.getElem?_eq_some_iff.mp hx).1
    have hbd : bundleD dR (2 + v1) = true := by
      rw [List.all_eq_true] at all
      exact all _ (List.mem_map.mpr ⟨dR, List.mem_of_getElem? hdR, rfl⟩)
    obtain ⟨a', b', c', rfl, p0, p1, p2, p3, p4⟩ := bundle_row hbd (by omega)
    rw [e18] at p4
    obtain ⟨r', rfl, nr, hr2⟩ := Dn.tup3 (a := a') (b := b') (c := c') dnR
    have hr3 := cb.e _ _ nr hr2
    have fd := cb.fd
    walk_at "xs"
    refine x_take cb.bag (by omega) (by omega) ?_
    intro H5 v2 E5 B5 a2 c2
    have cb := cb.step E5 B5
    walk_at "xs"
    intro p1' hp1
    obtain ⟨cb, n1, e1⟩ := cb.new (.lst [.int 0, .int c', .int v2]) hp1
    generalize upd H5 p1' _ = H6 at *
    walk_at "xs"
    refine x_take cb.bag (by decide) (by decide) ?_
    intro H7 v3 E7 B7 a3 c3
    have cb := cb.step E7 B7
    have e1 := E7 _ _ n1 e1
    obtain ⟨x, ex, ax⟩ := ix_at e1 a3 c3
    refine x_ixL (SqL.of e1) ax ?_
    have hv : ∃ l : Int, x = .int l ∧ 0 ≤ l ∧ l ≤ c' := by
      have hm := List.mem_of_getElem? ex
      simp only [List.mem_cons, List.not_mem_nil, or_false] at hm
      rcases hm with rfl | rfl | rfl
      · exact ⟨_, rfl, by omega, by omega⟩
      · exact ⟨_, rfl, by omega, by omega⟩
      · exact ⟨_, rfl, by omega, by omega⟩
    obtain ⟨l, rfl, l0, l1⟩ := hv
    walk_at "xs"
    refine x_app cb.fd (by rw [sizeLine_eq, List.length_map]; omega) ?_
    have cb := cb.app (.int l) nc hF
    walk_at "xs"
    refine ⟨_, _, _, ls ++ [l], rfl, by rw [List.map_append]; exact cb, by rw [List.length_append, List.length_singleton]; omega, ?_⟩
    intro j lj r hj hr'
    by_cases hji : j < ls.length
    · rw [List.getElem?_append_left hji] at hj
      exact hls j lj r hj hr'
    · have e : j = ls.length := by
        have := (List.getElem?_eq_some_iff.mp hj).1
        rw [List.length_append, List.length_singleton] at this
        omega
      subst e
      rw [List.getElem?_append_right (Nat.le_refl _), Nat.sub_self] at hj
      rw [ll, hdR] at hr'
      cases hj; cases hr'
      exact ⟨l0, l1⟩
  · rintro _ H4 ⟨y6, y7, y8, ls, rfl, cb, ll, hls⟩
    have d2 := d2.ext cb.e
    have ok : LeadsOk rs ls := ⟨by omega, hls⟩
    walk_at "xs"
    refine ⟨false, [b], 2 + v1, .ref f2, F, rs, ls, rfl, d2, by rw [if_neg Bool.false_ne_true]; exact cb.fd, hb2, by omega, by omega, ok.1, ?_⟩
    intro H5 fh S5 nfh eh
    have lh := ld_len (2 + v1).toNat rs ls ls.length
    have hh : ∀ h ∈ ldOf (2 + v1).toNat rs ls ls.length, 0 ≤ h ∧ h ≤ 1000000000000000000000 := fun h hm => by
      have := ld_small hb2 (by omega) ok ls.length (Nat.le_refl _) h hm
      have := ok.1
      omega
    obtain ⟨hs, ehs⟩ : ∃ hs, hs = ldOf (2 + v1).toNat rs ls ls.length := ⟨_, rfl⟩
    rw [← ehs] at eh lh hh
    have cb5 := cb.step (Ext.same S5) (cb.bag.ext S5)
    have d2 := d2.ext (Ext.same S5)
    obtain ⟨ob, hob⟩ := cb.bag.at
    have nh := new_out (Same.refl H4) hob nfh
    walk_at "xs"
    refine x_bnd cb5.bag eh nh (by omega) (by omega) hh ?_
    intro H6 f1 ds E6 B6 d1 hb1 l6 okj
    have cb6 := cb5.step E6 B6
    have d2 := d2.ext E6
    have fd6 := cb6.fd
    walk_at "xs"
    intro f3 hf3
    have S7 := same_upd hf3 (o := .tup (ls.map V.int))
    have n3 : f3 ∉ [b] := by
      obtain ⟨ob, hob⟩ := cb6.bag.at
      exact new_out (Same.refl H6) hob hf3
    have d3 : Dn [b] (upd H6 f3 (.tup (ls.map V.int))) (.ref f3) (tupD ls) := .tup upd_same n3 (DnAll.ints ls)
    have cb7 := cb6.step (Ext.same S7) (cb6.bag.ext S7)
    have d2 := d2.ext (Ext.same S7)
    have d1 := d1.ext (Ext.same S7)
    generalize upd H6 f3 _ = H7 at *
    walk_at "xs"
    intro T hT
    have S8 := same_upd hT (o := .tup [.ref f1, .ref f2, .ref f3])
    have nT : T ∉ [b] := by
      obtain ⟨ob, hob⟩ := cb7.bag.at
      exact new_out (Same.refl H7) hob hT
    have cb8 := cb7.step (Ext.same S8) (cb7.bag.ext S8)
    refine q _ T f1 f2 f3 ds rs ls (E1.trans (E2.trans cb8.e)) cb8.bag upd_same nT (d1.ext (Ext.same S8)) (d2.ext (Ext.same S8)) (d3.ext (Ext.same S8)) hb1 (by rw [show (ds.length : Int) = 2 + v1 by omega]; exact hb2) pos ok (by rw [show ds.length = (2 + v1).toNat by omega, ← ehs]; exact okj)
end
def spLedL : Sp := fun vs H Q _ => ∃ (u : V) (p : Addr) (M : List Addr) (rs : List PyData) (ls : List Int) (n i j : Int), vs = [u, .ref p, .int i, .int j] ∧ Dn M H u (.list rs) ∧ H p = some (.tup (ls.map V.int)) ∧ bundlesD (.list rs) n = true ∧ n ≤ 10 ∧ ls.length = rs.length ∧
  ∀ (H' : Hp) (v : Int), Same H H' → LedIs rs ls i j v → Q (.int v) H'
section
variable {P : Program} {w : World} {K : PySem.W.Frag} {mg : Str → Option Value} {base : Heap} {t0 t1 t2 t3 t4 : Tok} {C : Addr}
theorem kn_ledL {k : Nat} (D : Df K mg "_law_led" s_Lled) (B : Bl mg) : Kn P w K mg base "_law_led" (k + 1) spLedL := by
  refine kn_of D (fun _ _ _ _ _ _ us hl => match us, hl with | [_, _, _, _], _ => rfl) sc_Lled (fun vs H Q E h => by obtain ⟨u, p, M, rs, ls, n, i, j, rfl, _⟩ := h; rfl) (fun f cd B' fr z H vs Q E hr gd h => ?_)
  obtain ⟨u, p, M, rs, ls, n, i, j, rfl, hu, hp, hb, n1, same, q⟩ := h
  refine ⟨_, (pss_cons (ps_for PassesOwn.never rfl (pi_zipM (by rfl) B.zip (pa_cons (pv 1) (pa_cons (pv 0) pa_nil))) (pg_tup (by rfl) (pgs_cons (pg_name (i := 4) sc_Lled.nd rfl (.inl rfl)) (pgs_cons (pg_tup (by rfl) (pgs_cons (pg_name (i := 5) sc_Lled.nd rfl (.inl rfl)) (pgs_cons (pg_name (i := 6) sc_Lled.nd rfl (.inl rfl)) (pgs_cons (pg_name (i := 7) sc_Lled.nd rfl (.inl rfl)) pgs_nil)))) pgs_nil)))
  (pss_cons (ps_if (pt_cmpR (op_eqD hr.units) (pe_tup (pa_cons (pv 5) (pa_cons (pv 6) pa_nil))) (pe_tup (pa_cons (pv 2) (pa_cons (pv 3) pa_nil))) (nomark _)) (pss_one (ps_ret (pv 4))) pss_nil)
  (pss_one (ps_if (pt_cmpR (op_eqD hr.units) (pe_tup (pa_cons (pv 5) (pa_cons (pv 6) pa_nil))) (pe_tup (pa_cons (pv 3) (pa_cons (pv 2) pa_nil))) (nomark _)) (pss_one (ps_ret (pe_op op_sub (pv 7) (pv 4)))) pss_nil))))
  (pss_one (ps_ret pe_int))), ?_⟩
  obtain ⟨len, all⟩ := bundles_len hb
  cases hu with
  | @lst a xs _ ea ma A =>
  have lx := A.length
  walk_at "xs"
  refine for_zipM (K := K) (us := ls.map V.int) (vs := xs) (by rw [List.length_map]; omega) (fun m σ' H' => ∃ (y4 y5 y6 y7 : Option V), σ' = [some (.ref a), some (.ref p), some (.int i), some (.int j), y4, y5, y6, y7] ∧ Same H H' ∧ ∀ (k : Nat) (a b c : Int), k < m → rs[k]? = some (tupD [a, b, c]) → ¬ (i = a ∧ j = b) ∧ ¬ (i = b ∧ j = a)) ?_ ?_ ?_ ?_
  · exact ⟨_, _, _, _, rfl, Same.refl _, fun k _ _ _ h => absurd h (Nat.not_lt_zero _)⟩
  · rintro m _ H' ⟨_, _, _, _, _, S, _⟩
    exact ⟨SqT.of (S _ _ hp), SqL.of (S _ _ ea)⟩
  · rintro m u r t _ H' hu hv ⟨y4, y5, y6, y7, rfl, S, no⟩ ht
    obtain ⟨l, hl, rfl⟩ := int_at hu
    obtain ⟨dR, hdR, dnR⟩ := A.get hv
    have hbd : bundleD dR n = true := by
      rw [List.all_eq_true] at all
      exact all _ (List.mem_map.mpr ⟨dR, List.mem_of_getElem? hdR, rfl⟩)
    obtain ⟨a', b', c', rfl, p0, p1, p2, p3, p4⟩ := bundle_row hbd n1
    obtain ⟨r', rfl, _, hr2⟩ := Dn.tup3 (a := a') (b := b') (c := c') dnR
    have S2 := S.trans (same_upd ht (o := .tup [.int l, .ref r']))
    have et := upd_same (H := H') (a := t) (o := .tup [.int l, .ref r'])
    generalize upd H' t _ = H4 at *
    have hr4 := S2 _ _ hr2
    walk_at "xs"
    intro q1 hq1
    have S3 := same_upd hq1 (o := .tup [.int a', .int b'])
    have e1 : upd H4 q1 (.tup [.int a', .int b']) q1 = some (.tup ([a', b'].map V.int)) := upd_same
    generalize upd H4 q1 _ = H5 at *
    walk_at "xs"
    intro q2 hq2
    have S4 := same_upd hq2 (o := .tup [.int i, .int j])
    have e2 : upd H5 q2 (.tup [.int i, .int j]) q2 = some (.tup ([i, j].map V.int)) := upd_same
    have e1 := S4 _ _ e1
    generalize upd H5 q2 _ = H6 at *
    refine x_eqTup e1 e2 ?_
    walk_at "xs"
    refine x_ite (fun h => ?_) (fun h => ?_)
    · simp only [List.cons.injEq, and_true] at h
      walk_at "xs"
      exact q _ _ (S2.trans (S3.trans S4)) (.inl ⟨m, a', b', c', l, hdR, hl, .inl ⟨h.1.symm, h.2.symm, rfl⟩⟩)
    · walk_at "xs"
      intro q3 hq3
      have S5 := same_upd hq3 (o := .tup [.int a', .int b'])
      have e3 : upd H6 q3 (.tup [.int a', .int b']) q3 = some (.tup ([a', b'].map V.int)) := upd_same
      generalize upd H6 q3 _ = H7 at *
      walk_at "xs"
      intro q4 hq4
      have S6 := same_upd hq4 (o := .tup [.int j, .int i])
      have e4 : upd H7 q4 (.tup [.int j, .int i]) q4 = some (.tup ([j, i].map V.int)) := upd_same
      have e3 := S6 _ _ e3
      generalize upd H7 q4 _ = H8 at *
      have S8 := S2.trans (S3.trans (S4.trans (S5.trans S6)))
      refine x_eqTup e3 e4 ?_
      walk_at "xs"
      refine x_ite (fun h2 => ?_) (fun h2 => ?_)
      · simp only [List.cons.injEq, and_true] at h2
        walk_at "xs"
        exact q _ _ S8 (.inl ⟨m, a', b', c', l, hdR, hl, .inr ⟨h2.2.symm, h2.1.symm, rfl⟩⟩)
      · walk_at "xs"
        refine ⟨_, _, _, _, rfl, S8, fun k a b c hk hr => ?_⟩
        by_cases hkm : k < m
        · exact no k a b c hkm hr
        · have : k = m := by omega
          subst this
          rw [hdR] at hr
          have hr : tupD [a', b', c'] = tupD [a, b, c] := Option.some.inj hr
          cases hr
          simp only [List.cons.injEq, and_true] at h h2
          omega
  · rintro _ H' ⟨y4, y5, y6, y7, rfl, S, no⟩
    rw [List.length_map] at no
    walk_at "xs"
    exact q _ _ S (.inr ⟨fun k a b c h => no k a b c (by rw [same]; exact (List.getElem?_eq_some_iff.mp h).1) h, rfl⟩)
end
/-! ### the law's pairs, ways, brokers -/
def prOf2 : PyData → List (Int × Int)
  | .tuple [.int a, .int b, .int _] => [(a, b), (b, a)]
  | _ => []
def bpr (rs : List PyData) : List (Int × Int) := (rs.map prOf2).flatten
theorem bpr_app (a b : List PyData) : bpr (a ++ b) = bpr a ++ bpr b := by
  unfold bpr
  rw [List.map_append, List.flatten_append]
theorem bpr_mem {rs : List PyData} {p : Int × Int} : p ∈ bpr rs ↔ ∃ (k : Nat) (a b c : Int), rs[k]? = some (tupD [a, b, c]) ∧ ((p.1 = a ∧ p.2 = b) ∨ (p.1 = b ∧ p.2 = a)) := by
  unfold bpr
  rw [List.mem_flatten]
  constructor
  · rintro ⟨l, hl, hp⟩
    obtain ⟨d, hd, rfl⟩ := List.mem_map.mp hl
    obtain ⟨k, hk⟩ := List.mem_iff_getElem?.mp hd
    unfold prOf2 at hp
    split at hp
    · rename_i a b c
      refine ⟨k, a, b, c, hk, ?_⟩
      simp only [List.mem_cons, List.not_mem_nil, or_false] at hp
      rcases hp with rfl | rfl
      · exact .inl ⟨rfl, rfl⟩
      · exact .inr ⟨rfl, rfl⟩
    · cases hp
  · rintro ⟨k, a, b, c, hk, h⟩
    refine ⟨_, List.mem_map.mpr ⟨_, List.mem_of_getElem? hk, rfl⟩, ?_⟩
    show p ∈ [(a, b), (b, a)]
    simp only [List.mem_cons, List.not_mem_nil, or_false]
    rcases h with ⟨h1, h2⟩ | ⟨h1, h2⟩
    · exact .inl (Prod.ext h1 h2)
    · exact .inr (Prod.ext h1 h2)
theorem bpr_len {rs : List PyData} : (bpr rs).length ≤ 2 * rs.length := by
  induction rs with
  | nil => exact Nat.le_refl _
  | cons d r ih =>
    rw [show bpr (d :: r) = prOf2 d ++ bpr r from rfl, List.length_append, List.length_cons]
    have : (prOf2 d).length ≤ 2 := by
      unfold prOf2
      split <;> simp
    omega
def spPairsL : Sp := fun vs H Q _ => ∃ (u : Addr) (M : List Addr) (rs : List PyData) (n : Int), vs = [.ref u] ∧ Dn M H (.ref u) (.list rs) ∧ bundlesD (.list rs) n = true ∧ n ≤ 10 ∧ ∀ H' f, Same H H' → H f = none → Dn [] H' (.ref f) (.list ((bpr rs).map prD)) → Q (.ref f) H'
section
variable {P : Program} {w : World} {K : PySem.W.Frag} {mg : Str → Option Value} {base : Heap} {t0 t1 t2 t3 t4 : Tok} {C : Addr}
theorem kn_pairsL {k : Nat} (D : Df K mg "_law_pairs" s_Lpairs) (B : Bl mg) : Kn P w K mg base "_law_pairs" (k + 1) spPairsL := by
  refine kn_of D (fun _ _ _ _ _ _ us hl => match us, hl with | [_], _ => rfl) sc_Lpairs (fun vs H Q E h => by obtain ⟨u, M, rs, n, rfl, _⟩ := h; rfl) (fun f cd B' fr z H vs Q E hr gd h => ?_)
  obtain ⟨u, M, rs, n, rfl, hu, hb, n1, q⟩ := h
  refine ⟨_, (pss_cons (ps_set (i := 1) sc_Lpairs.nd rfl (.inl rfl) (pe_lst pa_nil))
  (pss_cons (ps_for PassesOwn.never rfl (pi_list (pv 0)) (pg_tup (by rfl) (pgs_cons (pg_name (i := 2) sc_Lpairs.nd rfl (.inl rfl)) (pgs_cons (pg_name (i := 3) sc_Lpairs.nd rfl (.inl rfl)) (pgs_cons (pg_name (i := 4) sc_Lpairs.nd rfl (.inl rfl)) pgs_nil))))
  (pss_one (ps_set (i := 1) sc_Lpairs.nd rfl (.inl rfl) (pe_op op_cat (pv 1) (pe_lst (pa_cons (pe_tup (pa_cons (pv 2) (pa_cons (pv 3) pa_nil))) (pa_cons (pe_tup (pa_cons (pv 3) (pa_cons (pv 2) pa_nil))) pa_nil)))))))
  (pss_one (ps_ret (pv 1))))), ?_⟩
  have len := (bundles_len hb).1
  cases hu with
  | @lst _ uxs _ eu _ AU =>
  have lU := AU.length
  walk_at "xs"
  intro F0 hF0
  have S0 := same_upd hF0 (o := .lst [])
  have e0 := upd_same (H := H) (a := F0) (o := .lst [])
  generalize upd H F0 _ = H0 at *
  have eu0 := S0 _ _ eu
  walk_at "xs"
  refine for_list (K := K) (a := u) (xs := uxs) (fun j σ' H' => ∃ (F : Addr) (fs : List V) (y2 y3 y4 : Option V), σ' = [some (.ref u), some (.ref F), y2, y3, y4] ∧ Same H H' ∧ H F = none ∧ H' F = some (.lst fs) ∧ DnAll [] H' fs ((bpr (rs.take j)).map prD)) ?_ ?_ ?_ ?_
  · exact ⟨F0, [], _, _, _, rfl, S0, hF0, e0, .nil⟩
  · rintro j _ H' _ ⟨_, _, _, _, _, _, S, _⟩
    exact SqL.of (S _ _ eu)
  · rintro j v _ H' hv ⟨F, fs, y2, y3, y4, rfl, S, nF, eF, AF⟩
    have hj := (List.getElem?_eq_some_iff.mp hv).1
    obtain ⟨dR, hdR, dnR⟩ := (AU.ext (Ext.same S)).get hv
    obtain ⟨a, b, c, hr', _⟩ := rows_at hb n1 (show j < rs.length by omega)
    have hr2 := hr'
    rw [hr'] at hdR
    obtain rfl : tupD [a, b, c] = dR := Option.some.inj hdR
    obtain ⟨r', rfl, _, hr3⟩ := Dn.tup3 (a := a) (b := b) (c := c) dnR
    have lF := AF.length
    rw [List.length_map] at lF
    have lb := bpr_len (rs := rs.take j)
    rw [List.length_take] at lb
    walk_at "xs"
    intro t1 ht1
    have S1 := same_upd ht1 (o := .tup [.int a, .int b])
    have et1 := upd_same (H := H') (a := t1) (o := .tup [.int a, .int b])
    have eF := S1 _ _ eF
    have AF := AF.ext (Ext.same S1)
    have SS := S.trans S1
    clear hr3 dnR
    generalize upd H' t1 _ = H1 at *
    walk_at "xs"
    intro t2 ht2
    have S2 := same_upd ht2 (o := .tup [.int b, .int a])
    have et2 := upd_same (H := H1) (a := t2) (o := .tup [.int b, .int a])
    have et1 := S2 _ _ et1
    have eF := S2 _ _ eF
    have AF := AF.ext (Ext.same S2)
    have SS := SS.trans S2
    generalize upd H1 t2 _ = H2 at *
    walk_at "xs"
    intro l hl
    have S3 := same_upd hl (o := .lst [.ref t1, .ref t2])
    have el := upd_same (H := H2) (a := l) (o := .lst [.ref t1, .ref t2])
    have et1 := S3 _ _ et1
    have et2 := S3 _ _ et2
    have eF := S3 _ _ eF
    have AF := AF.ext (Ext.same S3)
    have SS := SS.trans S3
    generalize upd H2 l _ = H3 at *
    refine x_cat eF el (by simp only [List.length_cons, List.length_nil]; rw [lF, sizeLine_eq]; omega) ?_
    intro F2 hF2
    have S4 := same_upd hF2 (o := .lst (fs ++ [.ref t1, .ref t2]))
    walk_at "xs"
    refine ⟨F2, _, _, _, _, rfl, SS.trans S4, SS.free hF2, upd_same, ?_⟩
    rw [List.take_add_one, hr2, bpr_app, List.map_append]
    exact (AF.ext (Ext.same S4)).app (.cons (.tup (S4 _ _ et1) (by simp) (.cons (.int _) (.cons (.int _) .nil))) (.cons (.tup (S4 _ _ et2) (by simp) (.cons (.int _) (.cons (.int _) .nil))) .nil))
  · rintro _ H' ⟨F, fs, y2, y3, y4, rfl, S, nF, eF, AF⟩
    rw [lU, List.take_length] at AF
    walk_at "xs"
    exact q H' F S nF (.lst eF (by simp) AF)
end
/-! ### ways that the law draws -/
structure PathIn (rs : List PyData) (n : Int) (bs : List Int) : Prop where
  nd : bs.Nodup
  prs : ∀ p ∈ pairsOf bs, p ∈ bpr rs
  rng : ∀ x ∈ bs, 0 ≤ x ∧ x < n
theorem eqv_nil40 {ds : List PyData} : PyData.eqv (.list ds) (.list []) = decide (ds = []) := by
  cases ds <;> simp [PyData.eqv, PyData.eqvAll]
theorem pairs_snoc {bs : List Int} {x y : Int} (hl : bs.getLast? = some x) {p : Int × Int} (h : p ∈ pairsOf (bs ++ [y])) : p ∈ pairsOf bs ∨ p = (x, y) := by
  obtain ⟨i, h1, h2⟩ := pr_mem h
  have lt := (List.getElem?_eq_some_iff.mp h2).1
  rw [List.length_append] at lt
  have lt : i + 1 < bs.length + 1 := lt
  by_cases e : i + 1 < bs.length
  · rw [List.getElem?_append_left (by omega)] at h1 h2
    exact .inl (List.mem_of_getElem? (pr_at.mpr ⟨h1, h2⟩))
  · rw [List.getElem?_append_left (by omega)] at h1
    rw [List.getElem?_append_right (by omega), show i + 1 - bs.length = 0 by omega] at h2
    rw [List.getLast?_eq_getElem?, show bs.length - 1 = i by omega, h1] at hl
    exact .inr (Prod.ext (Option.some.inj hl) (Option.some.inj h2).symm)
theorem bpr_rng {rs : List PyData} {n : Int} (hb : bundlesD (.list rs) n = true) (n1 : n ≤ 10) {p : Int × Int} (h : p ∈ bpr rs) : (0 ≤ p.1 ∧ p.1 < n) ∧ (0 ≤ p.2 ∧ p.2 < n) ∧ p.1 ≠ p.2 := by
  obtain ⟨k, a, b, c, hr, hab⟩ := bpr_mem.mp h
  obtain ⟨a', b', c', hr', a0, ab, bn, _⟩ := rows_at hb n1 (List.getElem?_eq_some_iff.mp hr).1
  rw [hr] at hr'
  have hr' : tupD [a, b, c] = tupD [a', b', c'] := Option.some.inj hr'
  cases hr'
  omega
theorem PathIn.snoc {rs : List PyData} {n : Int} {bs : List Int} {x y : Int} (h : PathIn rs n bs) (hb : bundlesD (.list rs) n = true) (n1 : n ≤ 10) (hl : bs.getLast? = some x) (hy : (x, y) ∈ bpr rs) (no : y ∉ bs) : PathIn rs n (bs ++ [y]) := by
  refine ⟨?_, fun p hp => ?_, fun z hz => ?_⟩
  · rw [List.nodup_append]
    refine ⟨h.nd, by simp, fun a ha b hb => ?_⟩
    rw [List.mem_singleton] at hb
    subst hb
    exact fun e => no (e ▸ ha)
  · rcases pairs_snoc hl hp with hp | rfl
    · exact h.prs p hp
    · exact hy
  · rcases List.mem_append.mp hz with hz | hz
    · exact h.rng z hz
    · rw [List.mem_singleton] at hz
      subst hz
      exact (bpr_rng hb n1 hy).2.1
theorem PathIn.one {rs : List PyData} {n x : Int} (h0 : 0 ≤ x) (h1 : x < n) : PathIn rs n [x] :=
  ⟨by simp, fun p hp => (by cases hp), fun y hy => by rw [List.mem_singleton] at hy; subst hy; exact ⟨h0, h1⟩⟩
theorem Bag.nb {b c r : Addr} {H : Hp} (B : Bag H b c) (n : H r = none) : r ∉ [b] := by
  obtain ⟨ob, hob⟩ := B.at
  exact new_out (Same.refl H) hob n
theorem Bag.put' {b c p : Addr} {H : Hp} {o : HO} (h : Bag H b c) (n : p ∉ [b]) (m : c ≠ p) : Bag (upd H p o) b c := by
  obtain ⟨x, y, k, cs, e1, e2, h⟩ := h
  exact ⟨x, y, k, cs, by rw [upd_ne (by rintro rfl; exact n (by simp))]; exact e1, by rw [upd_ne m]; exact e2, h⟩
def spPathL : Sp := fun vs H Q _ => ∃ (b c u : Addr) (rs : List PyData) (n beg most : Int), vs = [.ref b, .ref u, .int beg, .int most] ∧ Bag H b c ∧ Dn [b] H (.ref u) (.list rs) ∧ bundlesD (.list rs) n = true ∧ n ≤ 10 ∧ 0 ≤ beg ∧ beg < n ∧ 1 ≤ most ∧ most ≤ 9 ∧
  ∀ H' f bs, Ext [b] H H' → Bag H' b c → H f = none → H' f = some (.lst (bs.map V.int)) → PathIn rs n bs → bs.length ≤ 10 → 1 ≤ bs.length → Q (.ref f) H'
/-- the brokers behind the last one, that are not on the way -/
def nxtB (ps : List (Int × Int)) (bs : List Int) (x : Int) : List Int := (ps.filter fun p => decide (p.1 = x) && !decide (p.2 ∈ bs)).map (·.2)
theorem nxt_mem {ps : List (Int × Int)} {bs : List Int} {x y : Int} (h : y ∈ nxtB ps bs x) : (x, y) ∈ ps ∧ y ∉ bs := by
  obtain ⟨p, hp, rfl⟩ := List.mem_map.mp h
  obtain ⟨h1, h2⟩ := List.mem_filter.mp hp
  rw [Bool.and_eq_true, decide_eq_true_iff, Bool.not_eq_true', decide_eq_false_iff_not] at h2
  rw [← h2.1]
  exact ⟨h1, h2.2⟩
section
variable {P : Program} {w : World} {K : PySem.W.Frag} {mg : Str → Option Value} {base : Heap} {t0 t1 t2 t3 t4 : Tok} {C : Addr}
theorem kn_pathL {k : Nat} (D : Df K mg "_law_path" s_Lpath) (B : Bl mg) (c_Ltake : Kn P w K mg base "_law_take" k spTake) (c_Lpairs : Kn P w K mg base "_law_pairs" k spPairsL) : Kn P w K mg base "_law_path" (k + 1) spPathL := by
  refine kn_of D (fun _ _ _ _ _ _ us hl => match us, hl with | [_, _, _, _], _ => rfl) sc_Lpath (fun vs H Q E h => by obtain ⟨b, c, u, rs, n, beg, most, rfl, _⟩ := h; rfl) (fun f cd B' fr z H vs Q E hr gd h => ?_)
  obtain ⟨b, c, u, rs, n, beg, most, rfl, hB, hu, hb, n1, g0, g1, m0, m1, q⟩ := h
  refine ⟨_, (pss_cons (ps_set (i := 4) sc_Lpath.nd rfl (.inr rfl) (pe_lst (pa_cons (pv 2) pa_nil)))
  (pss_cons (ps_for PassesOwn.never rfl (pi_range1 (by rfl) B.range (pa_cons (pe_own c_Ltake hr gd (by rfl) (pa_cons (pv 0) (pa_cons (pv 3) pa_nil))) pa_nil)) (pg_name (i := 5) sc_Lpath.nd rfl (.inl rfl))
  (pss_cons (ps_setLc (i := 6) (own := [("_law_one", 7), ("_law_other", 8)]) rfl sc_Lpath.nd rfl rfl (sw_true rfl rfl rfl (by decide +kernel)) (pi_list (pe_own c_Lpairs hr gd (by rfl) (pa_cons (pv 1) pa_nil))) (blkOk_by (N := ["_law_bag_here", "_law_bundles_here", "_law_begin", "_law_most", "_law_found", "_law_k", "_law_some", "_law_one", "_law_other"]) (sc := defScope s_Lpath) (by decide +kernel)) (fun _ _ _ _ _ => (pg_tupK K (n := 2) (pgs_cons (pg_name (i := 7) sc_Lpath.nd rfl (.inl rfl)) (pgs_cons (pg_name (i := 8) sc_Lpath.nd rfl (.inl rfl)) pgs_nil)))) (fun _ _ _ _ _ => (pts_one (PW.pt (pw_and (pt_cmpR op_eq (pv 7) (pe_ix (r := rIxL K) ix_list (pv 4) (pe_un un_neg pe_int) (fun _ _ => rfl)) (nomark _)) (pw_and1 (pt_cmpR (op_notInSK K) (pv 8) (pv 4) (by rfl))))))) (fun _ _ _ _ _ => (pv 8)))
  (pss_one (ps_if (pt_cmpR (op_neD hr.units) (pv 6) (pe_lst pa_nil) (nomark _)) (pss_one (ps_expr (pe_bm PySem.F.plainAttrs_list PySem.F.slot_list_append PySem.F.type_list_append mt_append (pv 4) (pa_cons (pe_ix (r := rIxL K) ix_list (pv 6) (pe_own c_Ltake hr gd (by rfl) (pa_cons (pv 0) (pa_cons (pe_callB call_len_seq (by rfl) B.len (by decide +kernel) (pa_cons (pv 6) pa_nil)) pa_nil))) (fun _ _ => rfl)) pa_nil)))) pss_nil))))
  (pss_one (ps_ret (pv 4))))), ?_⟩
  have big : (200 : Nat) < 2 ^ 200 := by decide
  have len := (bundles_len hb).1
  walk_at "xs"
  intro F hF
  have S0 := same_upd hF (o := .lst [.int beg])
  have eF := upd_same (H := H) (a := F) (o := .lst [.int beg])
  have nFb : F ∉ [b] := by
    obtain ⟨o, e⟩ := hB.at
    exact new_out (Same.refl H) e hF
  have nFc := hB.cne hF
  have B0 := hB.ext S0
  generalize upd H F _ = H0 at *
  have stay : ∀ {H1 : Hp} {o : HO}, Ext [b] H H1 → Ext [b] H (upd H1 F o) := fun {H1 o} E z o' nz e => by
    rw [upd_ne (ne_of_none e hF)]; exact E _ _ nz e
  walk_at "xs"
  refine x_take B0 (by omega) (by omega) ?_
  intro H1 v1 E1 B1 a1 c1
  have eF1 := E1 _ _ nFb eF
  walk_at "xs"
  refine for_range (lo := 0) (n := v1.toNat) (fun i σ' H' => ∃ (y5 y6 : Option V) (bs : List Int), σ' = [some (.ref b), some (.ref u), some (.int beg), some (.int most), some (.ref F), y5, y6, none, none] ∧ Ext [b] H H' ∧ Bag H' b c ∧ H' F = some (.lst (bs.map V.int)) ∧ PathIn rs n bs ∧ 1 ≤ bs.length ∧ bs.length ≤ i + 1) ?_ ?_ ?_
  · exact ⟨_, _, [beg], rfl, (Ext.same S0).trans E1, B1, eF1, .one g0 g1, by simp, by simp⟩
  · rintro i _ H2 hi ⟨y5, y6, bs, rfl, E2, B2, eF2, pa, lb, lb2⟩
    obtain ⟨x, hx⟩ : ∃ x, bs.getLast? = some x := by
      cases e : bs.getLast? with
      | some x => exact ⟨x, rfl⟩
      | none =>
        rw [List.getLast?_eq_none_iff] at e
        rw [e] at lb
        simp at lb
    walk_at "xs"
    refine ⟨u, [b], rs, n, rfl, hu.ext E2, hb, n1, ?_⟩
    intro H3 g S3 ng dg
    cases dg with
    | @lst _ gxs _ eg _ AG =>
    have lG := AG.length
    rw [List.length_map] at lG
    have lbp := bpr_len (rs := rs)
    have eF3 := S3 _ _ eF2
    walk_at "xs"
    intro L hL
    have nLb : L ∉ [b] := (B2.ext S3).nb hL
    refine lc_list (K := K) (a := g) (xs := gxs) (fun j H' => Same H3 H' ∧ H' L = some (.lst ((nxtB ((bpr rs).take j) bs x).map V.int))) ?_ ?_ ?_ ?_
    · exact ⟨same_upd hL, upd_same⟩
    · rintro j H' _ ⟨S, _⟩
      exact SqL.of (S _ _ eg)
    · rintro j v H' hv ⟨S, eL⟩
      obtain ⟨dP, hdP, dnP⟩ := (AG.ext (Ext.same S)).get hv
      rw [List.getElem?_map] at hdP
      cases hpr : (bpr rs)[j]? with
      | none => rw [hpr] at hdP; cases hdP
      | some pr =>
      rw [hpr] at hdP
      cases hdP
      have hj := (List.getElem?_eq_some_iff.mp hpr).1
      obtain ⟨r2, rfl, nr2, hr5⟩ := dnP.pair
      have fl : (nxtB ((bpr rs).take j) bs x).length ≤ j := by
        unfold nxtB
        rw [List.length_map]
        refine Nat.le_trans (List.length_filter_le _ _) ?_
        rw [List.length_take]; omega
      have fs : nxtB ((bpr rs).take (j + 1)) bs x = nxtB ((bpr rs).take j) bs x ++ (if (decide (pr.1 = x) && !decide (pr.2 ∈ bs)) = true then [pr.2] else []) := by
        unfold nxtB
        rw [List.take_add_one, hpr, List.filter_append, List.map_append]
        congr 1
        show (List.filter _ [pr]).map _ = _
        rw [List.filter_cons]
        split <;> rfl
      have eF' := S _ _ eF3
      walk_at "xs"
      refine x_wiped rfl ?_
      walk_at "xs"
      refine x_ixL (SqL.of eF') (at_last hx) ?_
      walk_at "xs"
      refine x_ite (fun d1 => ?_) (fun d1 => ?_)
      · walk_at "xs"
        refine x_notInI eF' ?_
        refine ⟨_, rfl, ?_⟩
        refine x_iteN (fun d2 => ?_) (fun d2 => ?_)
        · walk_at "xs"
          refine x_acc eL (by rw [List.length_map, sizeLine_eq]; omega) ?_
          refine ⟨fun z o e => ?_, ?_⟩
          · rw [upd_ne (ne_of_none e hL)]; exact S _ _ e
          · rw [upd_same, fs, if_pos (by rw [decide_eq_true d1, decide_eq_false d2]; rfl), List.map_append]; rfl
        · refine ⟨S, ?_⟩
          rw [fs, if_neg (by rw [decide_eq_true d2]; simp), List.append_nil]
          exact eL
      · refine ⟨S, ?_⟩
        rw [fs, if_neg (by rw [decide_eq_false d1]; simp), List.append_nil]
        exact eL
    · rintro H4 ⟨S4, eL⟩
      rw [lG, List.take_length] at eL
      have lN : (nxtB (bpr rs) bs x).length ≤ 90 := by
        unfold nxtB
        rw [List.length_map]
        exact Nat.le_trans (List.length_filter_le _ _) (by omega)
      have S34 := S3.trans S4
      walk_at "xs"
      intro p0 hp0
      have S5 := same_upd hp0 (o := .lst [])
      refine x_neDn (M := []) (N := []) (.lst (S5 _ _ eL) (by simp) (DnAll.ints _)) (.lst upd_same (by simp) .nil) (shaped_ints _) rfl ?_
      rw [eqv_nil40]
      refine ⟨_, rfl, ?_⟩
      have S35 := S34.trans S5
      have eL5 := S5 _ _ eL
      have eF5 := S35 _ _ eF2
      have E5 := E2.trans (Ext.same S35)
      have B5 := B2.ext S35
      clear eL
      generalize upd H4 p0 _ = H5 at *
      refine x_iteN (fun ne => ?_) (fun _ => ?_)
      · have lp : 0 < (nxtB (bpr rs) bs x).length := by
          cases e : nxtB (bpr rs) bs x with
          | nil => rw [e] at ne; exact absurd rfl ne
          | cons _ _ => simp
        walk_at "xs"
        rw [List.length_map]
        refine x_take B5 (by omega) (by omega) ?_
        intro H6 v6 E6 B6 a6 c6
        have eL6 := E6 _ _ nLb eL5
        have eF6 := E6 _ _ nFb eF5
        walk_at "xs"
        obtain ⟨u', eu', au'⟩ := ix_at eL6 a6 (by rw [List.length_map]; exact c6)
        obtain ⟨y, hy, rfl⟩ := int_at eu'
        refine x_ixL (SqL.of eL6) au' ?_
        obtain ⟨my, noy⟩ := nxt_mem (List.mem_of_getElem? hy)
        walk_at "xs"
        refine x_app eF6 (by rw [List.length_map, sizeLine_eq]; omega) ?_
        walk_at "xs"
        refine ⟨_, _, bs ++ [y], rfl, stay (E5.trans E6), B6.put' nFb nFc, ?_, pa.snoc hb n1 hx my noy, by rw [List.length_append]; omega, by rw [List.length_append]; show _ + 1 ≤ _; omega⟩
        rw [upd_same, List.map_append]; rfl
      · walk_at "xs"
        exact ⟨_, _, bs, rfl, E5, B5, eF5, pa, lb, by omega⟩
  · rintro _ H2 ⟨y5, y6, bs, rfl, E2, B2, eF2, pa, lb, lb2⟩
    walk_at "xs"
    exact q H2 F bs E2 B2 hF eF2 pa (by omega) lb
end
/-! ### brokers that the law draws -/
def spBrokL : Sp := fun vs H Q _ => ∃ (b c u g : Addr) (rs : List PyData) (ls : List Int) (n : Int), vs = [.ref b, .ref u, .ref g] ∧ Bag H b c ∧ Dn [b] H (.ref u) (.list rs) ∧ bundlesD (.list rs) n = true ∧ n ≤ 10 ∧ 0 < rs.length ∧ H g = some (.tup (ls.map V.int)) ∧ g ∉ [b] ∧ ls.length = rs.length ∧
  ∀ H' f bs, Ext [b] H H' → Bag H' b c → H f = none → H' f = some (.lst (bs.map V.int)) → PathIn rs n bs → bs.length ≤ 10 → 1 ≤ bs.length → Q (.ref f) H'
section
variable {P : Program} {w : World} {K : PySem.W.Frag} {mg : Str → Option Value} {base : Heap} {t0 t1 t2 t3 t4 : Tok} {C : Addr}
theorem kn_brokL {k : Nat} (D : Df K mg "_law_brokers" s_Lbrokers) (B : Bl mg) (c_Ltake : Kn P w K mg base "_law_take" k spTake) (c_Lpath : Kn P w K mg base "_law_path" k spPathL) (c_Lpairs : Kn P w K mg base "_law_pairs" k spPairsL) (c_Lled : Kn P w K mg base "_law_led" k spLedL) : Kn P w K mg base "_law_brokers" (k + 1) spBrokL := by
  refine kn_of D (fun _ _ _ _ _ _ us hl => match us, hl with | [_, _, _], _ => rfl) sc_Lbrokers (fun vs H Q E h => by obtain ⟨b, c, u, g, rs, ls, n, rfl, _⟩ := h; rfl) (fun f cd B' fr z H vs Q E hr gd h => ?_)
  obtain ⟨b, c, u, g, rs, ls, n, rfl, hB, hu, hb, n1, lp, hg, ng, same, q⟩ := h
  refine ⟨_, (pss_cons (ps_set (i := 3) sc_Lbrokers.nd rfl (.inl rfl) (pe_ix (r := rIxL K) ix_list (pv 1) (pe_own c_Ltake hr gd (by rfl) (pa_cons (pv 0) (pa_cons (pe_callB call_len_seq (by rfl) B.len (by decide +kernel) (pa_cons (pv 1) pa_nil)) pa_nil))) (fun _ _ => rfl)))
  (pss_cons (ps_set (i := 4) sc_Lbrokers.nd rfl (.inr rfl) (pe_lst (pa_cons (pe_ix (r := rIxT K) ix_tup (pv 3) (pe_own c_Ltake hr gd (by rfl) (pa_cons (pv 0) (pa_cons pe_int pa_nil))) (fun _ _ => rfl)) pa_nil)))
  (pss_cons (ps_if (pt_cmpR op_eq (pe_own c_Ltake hr gd (by rfl) (pa_cons (pv 0) (pa_cons pe_int pa_nil))) pe_int (nomark _)) (pss_one (ps_ret (pe_own c_Lpath hr gd (by rfl) (pa_cons (pv 0) (pa_cons (pv 1) (pa_cons (pe_ix (r := rIxL K) ix_list (pv 4) pe_int (fun _ _ => rfl)) (pa_cons pe_int pa_nil))))))) pss_nil)
  (pss_cons (ps_for PassesOwn.never rfl (pi_range1 (by rfl) B.range (pa_cons (pe_op op_add pe_int (pe_own c_Ltake hr gd (by rfl) (pa_cons (pv 0) (pa_cons pe_int pa_nil)))) pa_nil)) (pg_name (i := 5) sc_Lbrokers.nd rfl (.inl rfl))
  (pss_cons (ps_setLc (i := 6) (own := [("_law_pair", 8)]) rfl sc_Lbrokers.nd rfl rfl (sw_true rfl rfl rfl (by decide +kernel)) (pi_list (pe_own c_Lpairs hr gd (by rfl) (pa_cons (pv 1) pa_nil))) (blkOk_by (N := ["_law_bag_here", "_law_bundles_here", "_law_leads", "_law_row", "_law_found", "_law_k", "_law_open_ones", "_law_later", "_law_pair", "_law_one", "_law_other"]) (sc := defScope s_Lbrokers) (by decide +kernel)) (fun _ _ _ _ _ => (pg_name (i := 8) sc_Lbrokers.nd rfl (.inl rfl))) (fun _ _ _ _ _ => (pts_one (pt_cmpR op_gt (pe_own c_Lled hr gd (by rfl) (pa_cons (pv 1) (pa_cons (pv 2) (pa_cons (pe_ix (r := rIxT K) ix_tup (pv 8) pe_int (fun _ _ => rfl)) (pa_cons (pe_ix (r := rIxT K) ix_tup (pv 8) pe_int (fun _ _ => rfl)) pa_nil))))) pe_int (nomark _)))) (fun _ _ _ _ _ => (pv 8)))
  (pss_cons (ps_setLc (i := 7) (own := [("_law_one", 9), ("_law_other", 10)]) rfl sc_Lbrokers.nd rfl rfl (sw_true rfl rfl rfl (by decide +kernel)) (pi_list (pv 6)) (blkOk_by (N := ["_law_bag_here", "_law_bundles_here", "_law_leads", "_law_row", "_law_found", "_law_k", "_law_open_ones", "_law_later", "_law_pair", "_law_one", "_law_other"]) (sc := defScope s_Lbrokers) (by decide +kernel)) (fun _ _ _ _ _ => (pg_tupK K (n := 2) (pgs_cons (pg_name (i := 9) sc_Lbrokers.nd rfl (.inl rfl)) (pgs_cons (pg_name (i := 10) sc_Lbrokers.nd rfl (.inl rfl)) pgs_nil)))) (fun _ _ _ _ _ => (pts_one (PW.pt (pw_and (pt_cmpR op_eq (pv 9) (pe_ix (r := rIxL K) ix_list (pv 4) (pe_un un_neg pe_int) (fun _ _ => rfl)) (nomark _)) (pw_and1 (pt_cmpR (op_notInSK K) (pv 10) (pv 4) (by rfl))))))) (fun _ _ _ _ _ => (pv 10)))
  (pss_one (ps_if (pt_cmpR (op_neD hr.units) (pv 7) (pe_lst pa_nil) (nomark _)) (pss_one (ps_expr (pe_bm PySem.F.plainAttrs_list PySem.F.slot_list_append PySem.F.type_list_append mt_append (pv 4) (pa_cons (pe_ix (r := rIxL K) ix_list (pv 7) (pe_own c_Ltake hr gd (by rfl) (pa_cons (pv 0) (pa_cons (pe_callB call_len_seq (by rfl) B.len (by decide +kernel) (pa_cons (pv 7) pa_nil)) pa_nil))) (fun _ _ => rfl)) pa_nil)))) pss_nil)))))
  (pss_one (ps_ret (pv 4))))))), ?_⟩
  have big : (200 : Nat) < 2 ^ 200 := by decide
  have len := (bundles_len hb).1
  have hu' := hu
  cases hu' with
  | @lst _ uxs _ eu mu AU =>
  have lU := AU.length
  walk_at "xs"
  rw [lU]
  refine x_take hB (by omega) (by omega) ?_
  intro H1 v1 E1 B1 a1 c1
  have eu1 := E1 _ _ mu eu
  walk_at "xs"
  obtain ⟨r0, er0, ar0⟩ := ix_at eu1 a1 (by rw [lU]; exact c1)
  refine x_ixL (SqL.of eu1) ar0 ?_
  obtain ⟨dR, hdR, dnR⟩ := (AU.ext E1).get er0
  obtain ⟨ra, rb, rc, hrow, p0, p1, p2, _⟩ := rows_at hb n1 (show v1.toNat < rs.length by omega)
  rw [hrow] at hdR
  obtain rfl : tupD [ra, rb, rc] = dR := Option.some.inj hdR
  obtain ⟨r', rfl, nr', hr'⟩ := Dn.tup3 (a := ra) (b := rb) (c := rc) dnR
  walk_at "xs"
  refine x_take B1 (by decide) (by decide) ?_
  intro H2 v2 E2 B2 a2 c2
  have hr2 := E2 _ _ nr' hr'
  have E02 := E1.trans E2
  obtain ⟨x0, ax0, x00, x01⟩ : ∃ x0, atI [V.int ra, V.int rb, V.int rc] v2 = some (.int x0) ∧ 0 ≤ x0 ∧ x0 < n := by
    have : v2 = 0 ∨ v2 = 1 := by omega
    rcases this with rfl | rfl
    · exact ⟨ra, rfl, by omega, by omega⟩
    · exact ⟨rb, rfl, by omega, by omega⟩
  walk_at "xs"
  refine x_ixT (SqT.of hr2) ax0 ?_
  walk_at "xs"
  intro F hF
  have S3 := same_upd hF (o := .lst [.int x0])
  have eF := upd_same (H := H2) (a := F) (o := .lst [.int x0])
  have nFb : F ∉ [b] := B2.nb hF
  have nFc := B2.cne hF
  have hF0 : H F = none := by
    cases e : H F with
    | none => rfl
    | some o => rw [E02 _ _ nFb e] at hF; cases hF
  have B3 := B2.ext S3
  have E03 := E02.trans (Ext.same S3)
  clear hr2 hr' dnR hF
  generalize upd H2 F _ = H3 at *
  have stay : ∀ {H1 : Hp} {o : HO}, Ext [b] H H1 → Ext [b] H (upd H1 F o) := fun {H1 o} E z o' nz e => by
    rw [upd_ne (ne_of_none e hF0)]; exact E _ _ nz e
  walk_at "xs"
  refine x_take B3 (by decide) (by decide) ?_
  intro H4 v4 E4 B4 a4 c4
  have eF4 := E4 _ _ nFb eF
  have E04 := E03.trans E4
  walk_at "xs"
  refine x_ite (fun _ => ?_) (fun _ => ?_)
  · walk_at "xs"
    refine ⟨b, c, u, rs, n, x0, 9, rfl, B4, hu.ext E04, hb, n1, x00, x01, by decide, by decide, ?_⟩
    intro H5 f5 bs E5 B5 nf ef pa l1 l2
    have nf0 : H f5 = none := by
      cases e : H f5 with
      | none => rfl
      | some o => rw [E04 _ _ (B4.nb nf) e] at nf; cases nf
    exact q H5 f5 bs (E04.trans E5) B5 nf0 ef pa l1 l2
  walk_at "xs"
  refine x_take B4 (by decide) (by decide) ?_
  intro H5 v5 E5 B5 a5 c5
  have eF5 := E5 _ _ nFb eF4
  have E05 := E04.trans E5
  walk_at "xs"
  refine for_range (lo := 0) (n := (1 + v5).toNat) (fun i σ' H' => ∃ (y5 y6 y7 : Option V) (bs : List Int), σ' = [some (.ref b), some (.ref u), some (.ref g), some (.ref r'), some (.ref F), y5, y6, y7, none, none, none] ∧ Ext [b] H H' ∧ Bag H' b c ∧ H' F = some (.lst (bs.map V.int)) ∧ PathIn rs n bs ∧ 1 ≤ bs.length ∧ bs.length ≤ i + 1) ?_ ?_ ?_
  · exact ⟨_, _, _, [x0], rfl, E05, B5, eF5, .one x00 x01, by simp, by simp⟩
  · rintro i _ H6 hi ⟨y5, y6, y7, bs, rfl, E6, B6, eF6, pa, lb, lb2⟩
    obtain ⟨x, hx⟩ : ∃ x, bs.getLast? = some x := by
      cases e : bs.getLast? with
      | some x => exact ⟨x, rfl⟩
      | none =>
        rw [List.getLast?_eq_none_iff] at e
        rw [e] at lb
        simp at lb
    walk_at "xs"
    refine ⟨u, [b], rs, n, rfl, hu.ext E6, hb, n1, ?_⟩
    intro H7 g7 S7 ng7 dg
    cases dg with
    | @lst _ gxs _ eg _ AG =>
    have lG := AG.length
    rw [List.length_map] at lG
    have lbp := bpr_len (rs := rs)
    have eF7 := S7 _ _ eF6
    have E07 := E6.trans (Ext.same S7)
    have hg7 := E07 _ _ ng hg
    have hu7 := hu.ext E07
    walk_at "xs"
    intro L hL
    have nLb : L ∉ [b] := (B6.ext S7).nb hL
    refine lc_list (K := K) (a := g7) (xs := gxs) (fun j H' => Same H7 H' ∧ ∃ (acc : List V) (qs : List (Int × Int)), H' L = some (.lst acc) ∧ DnAll [] H7 acc (qs.map prD) ∧ (∀ q ∈ qs, q ∈ bpr rs) ∧ qs.length ≤ j) ?_ ?_ ?_ ?_
    · exact ⟨same_upd hL, [], [], upd_same, .nil, fun q h => (by cases h), Nat.zero_le _⟩
    · rintro j H' _ ⟨S, _⟩
      exact SqL.of (S _ _ eg)
    · rintro j v H' hv ⟨S, acc, qs, eL, AQ, sub, lq⟩
      obtain ⟨dP, hdP, dnP0⟩ := AG.get hv
      have dnP := dnP0.ext (Ext.same S)
      rw [List.getElem?_map] at hdP
      cases hpr : (bpr rs)[j]? with
      | none => rw [hpr] at hdP; cases hdP
      | some pr =>
      rw [hpr] at hdP
      cases hdP
      have hj := (List.getElem?_eq_some_iff.mp hpr).1
      obtain ⟨r2, rfl, nr2, hr5⟩ := dnP.pair
      have lA := AQ.length
      rw [List.length_map] at lA
      walk_at "xs"
      refine x_wiped rfl ?_
      walk_at "xs"
      refine ⟨.ref u, g, [b], rs, ls, n, pr.1, pr.2, rfl, hu7.ext (Ext.same S), S _ _ hg7, hb, n1, same, ?_⟩
      intro H8 v8 S8 _
      walk_at "xs"
      have eL8 := S8 _ _ eL
      refine x_ite (fun _ => ?_) (fun _ => ?_)
      · walk_at "xs"
        refine x_acc eL8 (by rw [lA, sizeLine_eq]; omega) ?_
        refine ⟨fun z o e => ?_, acc ++ [.ref r2], qs ++ [pr], upd_same, ?_, ?_, by rw [List.length_append]; show _ + 1 ≤ _; omega⟩
        · rw [upd_ne (ne_of_none e hL)]; exact S8 _ _ (S _ _ e)
        · rw [List.map_append]
          exact AQ.app (.cons dnP0 .nil)
        · intro q hq
          rcases List.mem_append.mp hq with hq | hq
          · exact sub q hq
          · rw [List.mem_singleton] at hq; subst hq
            exact List.mem_of_getElem? hpr
      · exact ⟨S.trans S8, acc, qs, eL8, AQ, sub, by omega⟩
    · rintro H8 ⟨S8, acc, qs, eL, AQ, sub, lq⟩
      rw [lG] at lq
      have AQ := AQ.ext (Ext.same S8)
      have lA := AQ.length
      rw [List.length_map] at lA
      have S78 := S7.trans S8
      have eF8 := S78 _ _ eF6
      walk_at "xs"
      intro L2 hL2
      have nL2b : L2 ∉ [b] := (B6.ext S78).nb hL2
      refine lc_list (K := K) (a := L) (xs := acc) (fun j H' => Same H8 H' ∧ H' L2 = some (.lst ((nxtB (qs.take j) bs x).map V.int))) ?_ ?_ ?_ ?_
      · exact ⟨same_upd hL2, upd_same⟩
      · rintro j H' _ ⟨S, _⟩
        exact SqL.of (S _ _ eL)
      · rintro j v H' hv ⟨S, eL2⟩
        obtain ⟨dP, hdP, dnP⟩ := (AQ.ext (Ext.same S)).get hv
        rw [List.getElem?_map] at hdP
        cases hpr : qs[j]? with
        | none => rw [hpr] at hdP; cases hdP
        | some pr =>
        rw [hpr] at hdP
        cases hdP
        have hj := (List.getElem?_eq_some_iff.mp hpr).1
        obtain ⟨r2, rfl, nr2, hr5⟩ := dnP.pair
        have fl : (nxtB (qs.take j) bs x).length ≤ j := by
          unfold nxtB
          rw [List.length_map]
          refine Nat.le_trans (List.length_filter_le _ _) ?_
          rw [List.length_take]; omega
        have fs : nxtB (qs.take (j + 1)) bs x = nxtB (qs.take j) bs x ++ (if (decide (pr.1 = x) && !decide (pr.2 ∈ bs)) = true then [pr.2] else []) := by
          unfold nxtB
          rw [List.take_add_one, hpr, List.filter_append, List.map_append]
          congr 1
          show (List.filter _ [pr]).map _ = _
          rw [List.filter_cons]
          split <;> rfl
        have eF' := S _ _ eF8
        walk_at "xs"
        refine x_wiped rfl ?_
        walk_at "xs"
        refine x_ixL (SqL.of eF') (at_last hx) ?_
        walk_at "xs"
        refine x_ite (fun d1 => ?_) (fun d1 => ?_)
        · walk_at "xs"
          refine x_notInI eF' ?_
          refine ⟨_, rfl, ?_⟩
          refine x_iteN (fun d2 => ?_) (fun d2 => ?_)
          · walk_at "xs"
            refine x_acc eL2 (by rw [List.length_map, sizeLine_eq]; omega) ?_
            refine ⟨fun z o e => ?_, ?_⟩
            · rw [upd_ne (ne_of_none e hL2)]; exact S _ _ e
            · rw [upd_same, fs, if_pos (by rw [decide_eq_true d1, decide_eq_false d2]; rfl), List.map_append]; rfl
          · refine ⟨S, ?_⟩
            rw [fs, if_neg (by rw [decide_eq_true d2]; simp), List.append_nil]
            exact eL2
        · refine ⟨S, ?_⟩
          rw [fs, if_neg (by rw [decide_eq_false d1]; simp), List.append_nil]
          exact eL2
      · rintro H9 ⟨S9, eL2⟩
        rw [lA, List.take_length] at eL2
        have lN : (nxtB qs bs x).length ≤ 90 := by
          unfold nxtB
          rw [List.length_map]
          exact Nat.le_trans (List.length_filter_le _ _) (by omega)
        have S39 := S78.trans S9
        walk_at "xs"
        intro p0' hp0
        have S10 := same_upd hp0 (o := .lst [])
        refine x_neDn (M := []) (N := []) (.lst (S10 _ _ eL2) (by simp) (DnAll.ints _)) (.lst upd_same (by simp) .nil) (shaped_ints _) rfl ?_
        rw [eqv_nil40]
        refine ⟨_, rfl, ?_⟩
        have S310 := S39.trans S10
        have eL10 := S10 _ _ eL2
        have eF10 := S310 _ _ eF6
        have E10 := E6.trans (Ext.same S310)
        have B10 := B6.ext S310
        clear eL2
        generalize upd H9 p0' _ = H10 at *
        refine x_iteN (fun ne => ?_) (fun _ => ?_)
        · have lp : 0 < (nxtB qs bs x).length := by
            cases e : nxtB qs bs x with
            | nil => rw [e] at ne; exact absurd rfl ne
            | cons _ _ => simp
          walk_at "xs"
          rw [List.length_map]
          refine x_take B10 (by omega) (by omega) ?_
          intro H11 v11 E11 B11 a11 c11
          have eL11 := E11 _ _ nL2b eL10
          have eF11 := E11 _ _ nFb eF10
          walk_at "xs"
          obtain ⟨u', eu', au'⟩ := ix_at eL11 a11 (by rw [List.length_map]; exact c11)
          obtain ⟨y, hy, rfl⟩ := int_at eu'
          refine x_ixL (SqL.of eL11) au' ?_
          obtain ⟨my, noy⟩ := nxt_mem (List.mem_of_getElem? hy)
          walk_at "xs"
          refine x_app eF11 (by rw [List.length_map, sizeLine_eq]; omega) ?_
          walk_at "xs"
          refine ⟨_, _, _, bs ++ [y], rfl, stay (E10.trans E11), B11.put' nFb nFc, ?_, pa.snoc hb n1 hx (sub _ my) noy, by rw [List.length_append]; omega, by rw [List.length_append]; show _ + 1 ≤ _; omega⟩
          rw [upd_same, List.map_append]; rfl
        · walk_at "xs"
          exact ⟨_, _, _, bs, rfl, E10, B10, eF10, pa, lb, by omega⟩
  · rintro _ H6 ⟨y5, y6, y7, bs, rfl, E6, B6, eF6, pa, lb, lb2⟩
    walk_at "xs"
    exact q H6 F bs E6 B6 hF0 eF6 pa (by omega) lb
end
/-! ### the most that can be handed, by the law -/
theorem bounds_two {ds : List PyData} (h : boundsD (.list ds) = true) : 2 ≤ ds.length := by
  have h : ((decide (2 ≤ (ds.length : Int)) && decide ((ds.length : Int) ≤ 10)) && (ds.map boundD).all id) = true := h
  rw [Bool.and_eq_true, Bool.and_eq_true, decide_eq_true_eq, decide_eq_true_eq] at h
  omega
theorem PathIn.in_ {rs : List PyData} {n : Int} {bs : List Int} (h : PathIn rs n bs) (hb : bundlesD (.list rs) n = true) (n1 : n ≤ 10) : ∀ pr ∈ pairsOf bs, (0 ≤ pr.1 ∧ pr.1 < n) ∧ (0 ≤ pr.2 ∧ pr.2 < n) ∧ pr.1 ≠ pr.2 := fun pr hp => bpr_rng hb n1 (h.prs pr hp)
def spTopL : Sp := fun vs H Q _ => ∃ (M N : List Addr) (f1 u g p : Addr) (ds rs : List PyData) (ls bs : List Int) (b0 bl : Int), vs = [.ref f1, .ref u, .ref g, .ref p] ∧ Dn M H (.ref f1) (.list ds) ∧ Dn N H (.ref u) (.list rs) ∧ H g = some (.tup (ls.map V.int)) ∧ Wd ds rs ls ∧ H p = some (.lst (bs.map V.int)) ∧
  PathIn rs ds.length bs ∧ 2 ≤ bs.length ∧ bs.length ≤ 10 ∧ bs.head? = some b0 ∧ bs.getLast? = some bl ∧ ∀ H' top, Same H H' → 0 ≤ top → (∀ t, 1 ≤ t → (t ≤ top ↔ AlOk ds rs ls bs b0 bl t)) → Q (.int top) H'
section
variable {P : Program} {w : World} {K : PySem.W.Frag} {mg : Str → Option Value} {base : Heap} {t0 t1 t2 t3 t4 : Tok} {C : Addr}
theorem kn_topL {k : Nat} (D : Df K mg "_law_top" s_Ltop) (B : Bl mg) (c_Lloads : Kn P w K mg base "_law_loads" k (spLoadsX K)) (c_Lled : Kn P w K mg base "_law_led" k spLedL) : Kn P w K mg base "_law_top" (k + 1) spTopL := by
  refine kn_of D (fun _ _ _ _ _ _ us hl => match us, hl with | [_, _, _, _], _ => rfl) sc_Ltop (fun vs H Q E h => by obtain ⟨M, N, f1, u, g, p, ds, rs, ls, bs, b0, bl, rfl, _⟩ := h; rfl) (fun f cd B' fr z H vs Q E hr gd h => ?_)
  obtain ⟨M, N, f1, u, g, p, ds, rs, ls, bs, b0, bl, rfl, hd, hu, hg, wd, hp, pa, m0, m1, hb0, hbl, q⟩ := h
  refine ⟨_, (pss_cons (ps_set (i := 4) sc_Ltop.nd rfl (.inl rfl) (pe_own c_Lloads hr gd (by rfl) (pa_cons (pe_callB call_len_seq (by rfl) B.len (by decide +kernel) (pa_cons (pv 0) pa_nil)) (pa_cons (pv 1) (pa_cons (pv 2) pa_nil)))))
  (pss_cons (ps_if (pt_cmpR (op_neD hr.units) (pe_lc (own := [("_law_broker", 8)]) rfl sc_Ltop.nd (pi_list (pv 3)) (blkOk_by (N := ["_law_bounds_here", "_law_bundles_here", "_law_leads", "_law_brokers_here", "_law_held", "_law_rooms", "_law_above", "_law_below", "_law_broker", "_law_one", "_law_other"]) (sc := defScope s_Ltop) (by decide +kernel)) (fun _ _ _ _ _ => (pg_name (i := 8) sc_Ltop.nd rfl (.inl rfl))) (fun _ _ _ _ _ => (pts_one (pt_cmpR op_eq (pe_ix (r := rIxT K) ix_tup (pe_ix (r := rIxL K) ix_list (pv 0) (pv 8) (fun _ _ => rfl)) pe_int (fun _ _ => rfl)) (pe_ix (r := rIxT K) ix_tup (pe_ix (r := rIxL K) ix_list (pv 0) (pv 8) (fun _ _ => rfl)) pe_int (fun _ _ => rfl)) (nomark _)))) (fun _ _ _ _ _ => (pv 8))) (pe_lst pa_nil) (nomark _)) (pss_one (ps_ret pe_int)) pss_nil)
  (pss_cons (ps_setLc (i := 5) (own := [("_law_one", 9), ("_law_other", 10)]) rfl sc_Ltop.nd rfl rfl (sw_true rfl rfl rfl (by decide +kernel)) (pi_zip (by rfl) B.zip (pa_cons (pv 3) (pa_cons (pe_slice (r := rSlL K) sl_list (pv 3) (po_some pe_int) po_none) pa_nil))) (blkOk_by (N := ["_law_bounds_here", "_law_bundles_here", "_law_leads", "_law_brokers_here", "_law_held", "_law_rooms", "_law_above", "_law_below", "_law_broker", "_law_one", "_law_other"]) (sc := defScope s_Ltop) (by decide +kernel)) (fun _ _ _ _ _ => (pg_tupK K (n := 2) (pgs_cons (pg_name (i := 9) sc_Ltop.nd rfl (.inl rfl)) (pgs_cons (pg_name (i := 10) sc_Ltop.nd rfl (.inl rfl)) pgs_nil)))) (fun _ _ _ _ _ => pts_nil) (fun _ _ _ _ _ => (pe_own c_Lled hr gd (by rfl) (pa_cons (pv 1) (pa_cons (pv 2) (pa_cons (pv 9) (pa_cons (pv 10) pa_nil)))))))
  (pss_cons (ps_set (i := 6) sc_Ltop.nd rfl (.inl rfl) (pe_op op_sub (pe_ix (r := rIxL K) ix_list (pv 4) (pe_ix (r := rIxL K) ix_list (pv 3) pe_int (fun _ _ => rfl)) (fun _ _ => rfl)) (pe_ix (r := rIxT K) ix_tup (pe_ix (r := rIxL K) ix_list (pv 0) (pe_ix (r := rIxL K) ix_list (pv 3) pe_int (fun _ _ => rfl)) (fun _ _ => rfl)) pe_int (fun _ _ => rfl))))
  (pss_cons (ps_set (i := 7) sc_Ltop.nd rfl (.inl rfl) (pe_op op_sub (pe_ix (r := rIxT K) ix_tup (pe_ix (r := rIxL K) ix_list (pv 0) (pe_ix (r := rIxL K) ix_list (pv 3) (pe_un un_neg pe_int) (fun _ _ => rfl)) (fun _ _ => rfl)) pe_int (fun _ _ => rfl)) (pe_ix (r := rIxL K) ix_list (pv 4) (pe_ix (r := rIxL K) ix_list (pv 3) (pe_un un_neg pe_int) (fun _ _ => rfl)) (fun _ _ => rfl))))
  (pss_one (ps_ret (pe_callB (cr_min rfl) (by rfl) B.min (by decide +kernel) (pa_cons (pe_op op_cat (pv 5) (pe_lst (pa_cons (pv 6) (pa_cons (pv 7) pa_nil)))) pa_nil))))))))), ?_⟩
  have n10 := bounds_len wd.b1
  have n2 := bounds_two wd.b1
  have lld := ld_len ds.length rs ls ls.length
  have hin := pa.in_ wd.b2 (by omega)
  cases hd with
  | @lst _ dxs _ ed md AD =>
  have lD := AD.length
  have row : ∀ {H' : Hp}, Same H H' → ∀ x : Int, 0 ≤ x → x < ds.length → ∃ (r : Addr) (lo up : Int), atI dxs x = some (.ref r) ∧ H' r = some (.tup [.int lo, .int up]) ∧ ds[x.toNat]? = some (tupD [lo, up]) ∧ lo ≤ up ∧ 0 ≤ lo := fun {H'} S x x0 x1 => by
    obtain ⟨v, hv, av⟩ := atI_of (xs := dxs) x0 (by rw [lD]; exact x1)
    obtain ⟨dR, hdR, dnR⟩ := AD.get hv
    obtain ⟨lo, up, hrow, l0, le, _⟩ := bound_at wd.b1 (i := x.toNat) (by omega)
    rw [hrow] at hdR
    obtain rfl : tupD [lo, up] = dR := Option.some.inj hdR
    obtain ⟨r, rfl, _, hr2⟩ := Dn.pair (p := (lo, up)) dnR
    exact ⟨r, lo, up, av, S _ _ hr2, hrow, le, l0⟩
  walk_at "xs"
  rw [lD]
  refine ⟨true, N, ds.length, .ref u, g, rs, ls, rfl, hu, by rw [if_pos rfl]; exact hg, wd.b2, by omega, by omega, wd.lo.1, ?_⟩
  intro H1 F S1 nF eF
  rw [Int.toNat_natCast] at eF
  have hp1 := S1 _ _ hp
  have ed1 := S1 _ _ ed
  walk_at "xs"
  intro L hL
  refine lc_list (K := K) (a := p) (xs := bs.map V.int) (fun j H' => Same H1 H' ∧ H' L = some (.lst (((bs.take j).filter fun x => !lsB ds x.toNat).map V.int))) ?_ ?_ ?_ ?_
  · exact ⟨same_upd hL, upd_same⟩
  · rintro j H' _ ⟨S, _⟩
    exact SqL.of (S _ _ hp1)
  · rintro j v H' hv ⟨S, eL⟩
    obtain ⟨x, hx, rfl⟩ := int_at hv
    obtain ⟨x0, x1⟩ := pa.rng x (List.mem_of_getElem? hx)
    obtain ⟨r, lo, up, ar, er, hrow, le, _⟩ := row (S1.trans S) x x0 x1
    have ed' := S _ _ ed1
    have fl := List.length_filter_le (fun x : Int => !lsB ds x.toNat) (bs.take j)
    rw [List.length_take] at fl
    have fs : (bs.take (j + 1)).filter (fun x => !lsB ds x.toNat) = (bs.take j).filter (fun x => !lsB ds x.toNat) ++ (if (!lsB ds x.toNat) = true then [x] else []) := by
      rw [List.take_add_one, hx, List.filter_append]
      congr 1
      show List.filter _ [x] = _
      rw [List.filter_cons]
      rfl
    have eb : decide (lo = up) = !lsB ds x.toNat := by
      rw [ls_at hrow]
      by_cases h : lo = up
      · rw [decide_eq_true h, decide_eq_false (by omega)]; rfl
      · rw [decide_eq_false h, decide_eq_true (by omega)]; rfl
    walk_at "xs"
    refine x_wiped rfl ?_
    walk_at "xs"
    refine x_ixL (SqL.of ed') ar ?_
    walk_at "xs"
    refine x_ixL (SqL.of ed') ar ?_
    walk_at "xs"
    rw [eb]
    cases e : !lsB ds x.toNat with
    | true =>
      rw [e] at fs
      walk_at "xs"
      refine x_acc eL (by rw [List.length_map, sizeLine_eq]; omega) ?_
      refine ⟨fun z o e => ?_, ?_⟩
      · rw [upd_ne (ne_of_none e hL)]; exact S _ _ e
      · rw [upd_same, fs, if_pos rfl, List.map_append]; rfl
    | false =>
      rw [e] at fs
      walk_at "xs"
      refine ⟨S, ?_⟩
      rw [fs, if_neg Bool.false_ne_true, List.append_nil]
      exact eL
  rintro H2 ⟨S2, eL⟩
  rw [List.length_map, List.take_length] at eL
  have S12 := S1.trans S2
  walk_at "xs"
  intro p0 hp0
  have S3 := same_upd hp0 (o := .lst [])
  refine x_neDn (M := []) (N := []) (.lst (S3 _ _ eL) (by simp) (DnAll.ints _)) (.lst upd_same (by simp) .nil) (shaped_ints _) rfl ?_
  rw [eqv_nil40]
  refine ⟨_, rfl, ?_⟩
  have S13 := S12.trans S3
  have S23 := S2.trans S3
  clear eL
  generalize upd H2 p0 _ = H3 at *
  refine x_iteN (fun ne => ?_) (fun all => ?_)
  · walk_at "xs"
    refine q H3 0 S13 (Int.le_refl _) (fun t ht => ⟨fun h => absurd h (by omega), fun ok => ?_⟩)
    exfalso
    apply ne
    rw [List.map_eq_nil_iff, List.filter_eq_nil_iff]
    intro x hx
    obtain ⟨pr, hpr, e⟩ := in_pair m0 hx
    obtain ⟨c1, c2, _⟩ := ok.1 pr hpr
    rcases e with e | e
    · rw [e, c1]; decide
    · rw [e, c2]; decide
  have free : ∀ x ∈ bs, lsB ds x.toNat = true := fun x hx => by
    rw [List.map_eq_nil_iff, List.filter_eq_nil_iff] at all
    have := all x hx
    cases e : lsB ds x.toNat with
    | true => rfl
    | false => rw [e] at this; exact absurd rfl this
  have hp3 := S13 _ _ hp
  have eF3 := S23 _ _ eF
  have ed3 := S13 _ _ ed
  have cf : cutV (bs.map V.int) (some 1) none = (bs.tail).map V.int := by rw [show (1 : Int) = ((1 : Nat) : Int) from rfl, cutV_from, ← List.map_drop, List.drop_one]
  walk_at "xs"
  rw [cf]
  intro p1 hp1'
  have S4 := same_upd hp1' (o := .lst (bs.tail.map V.int))
  have e1 := upd_same (H := H3) (a := p1) (o := .lst (bs.tail.map V.int))
  have hp4 := S4 _ _ hp3
  have S14 := S13.trans S4
  have S34 := S23.trans S4
  generalize upd H3 p1 _ = H4 at *
  walk_at "xs"
  intro L2 hL2
  refine lc_zip (K := K) (a := p) (b := p1) (xs := bs.map V.int) (ys := bs.tail.map V.int) (fun j H' => Same H4 H' ∧ ∃ vs : List Int, H' L2 = some (.lst (vs.map V.int)) ∧ vs.length = j ∧ ∀ (i : Nat) (pr : Int × Int) (v : Int), (pairsOf bs)[i]? = some pr → vs[i]? = some v → LedIs rs ls pr.1 pr.2 v) ?_ ?_ ?_ ?_
  · exact ⟨same_upd hL2, [], upd_same, rfl, fun i pr v _ h => (by cases h)⟩
  · rintro j H' ⟨S, _⟩
    exact ⟨SqL.of (S _ _ hp4), SqL.of (S _ _ e1)⟩
  · rintro j x y T H' hx hy ⟨S, vs, eL, lv, led⟩ hT
    obtain ⟨i1, h1, rfl⟩ := int_at hx
    obtain ⟨i2, h2, rfl⟩ := int_at hy
    have hj := (List.getElem?_eq_some_iff.mp h1).1
    have hz : (pairsOf bs)[j]? = some (i1, i2) := by
      unfold pairsOf
      rw [List.getElem?_zip_eq_some]
      exact ⟨h1, h2⟩
    have ST := same_upd hT (o := .tup [.int i1, .int i2])
    have eT := upd_same (H := H') (a := T) (o := .tup [.int i1, .int i2])
    have eL := ST _ _ eL
    have S5 := S.trans ST
    have S15 := S14.trans S5
    generalize upd H' T _ = H5 at *
    walk_at "xs"
    refine x_wiped rfl ?_
    walk_at "xs"
    refine ⟨.ref u, g, N, rs, ls, ds.length, i1, i2, rfl, hu.ext (Ext.same S15), S15 _ _ hg, wd.b2, by omega, wd.lo.1, ?_⟩
    intro H6 v S6 lv'
    have eL6 := S6 _ _ eL
    refine x_acc eL6 (by rw [List.length_map, sizeLine_eq]; omega) ?_
    refine ⟨fun z o e => ?_, vs ++ [v], ?_, by rw [List.length_append, lv]; rfl, fun i pr v' hpr hv' => ?_⟩
    · rw [upd_ne (ne_of_none e hL2)]; exact S6 _ _ (S5 _ _ e)
    · rw [upd_same, List.map_append]; rfl
    · by_cases e : i < j
      · rw [List.getElem?_append_left (by omega)] at hv'
        exact led i pr v' hpr hv'
      · have lt := (List.getElem?_eq_some_iff.mp hv').1
        rw [List.length_append] at lt
        have lt : i < vs.length + 1 := lt
        obtain rfl : i = j := by omega
        rw [hz] at hpr
        cases hpr
        rw [List.getElem?_append_right (by omega), show i - vs.length = 0 by omega] at hv'
        cases hv'
        exact lv'
  rintro H5 ⟨S5, vs, eL2, lv, led⟩
  have lp : (pairsOf bs).length = min (bs.map V.int).length (bs.tail.map V.int).length := by unfold pairsOf; rw [List.length_zip, List.length_map, List.length_map]
  rw [← lp] at lv
  have lpl : (pairsOf bs).length = bs.length - 1 := pairs_len bs
  have S15 := S14.trans S5
  have hp5 := S5 _ _ hp4
  have eF5 := S5 _ _ (S34 _ _ eF)
  have ed5 := S15 _ _ ed
  obtain ⟨r0, r1⟩ := first_in hin m0 hb0
  obtain ⟨r2, r3⟩ := last_in hin m0 hbl
  have au0 := atVi (ls := ldOf ds.length rs ls ls.length) r0 (by rw [lld]; exact r1)
  have au1 := atVi (ls := ldOf ds.length rs ls ls.length) r2 (by rw [lld]; exact r3)
  obtain ⟨ra, lo0, up0, ar0, er0, hrow0, le0, _⟩ := row S15 b0 r0 r1
  obtain ⟨rb, lo1, up1, ar1, er1, hrow1, le1, _⟩ := row S15 bl r2 r3
  walk_at "xs"
  refine x_ixL (SqL.of hp5) (at_first hb0) ?_
  walk_at "xs"
  refine x_ixL (SqL.of eF5) au0 ?_
  walk_at "xs"
  refine x_ixL (SqL.of hp5) (at_first hb0) ?_
  walk_at "xs"
  refine x_ixL (SqL.of ed5) ar0 ?_
  walk_at "xs"
  refine x_ixL (SqL.of hp5) (at_last hbl) ?_
  walk_at "xs"
  refine x_ixL (SqL.of ed5) ar1 ?_
  walk_at "xs"
  refine x_ixL (SqL.of hp5) (at_last hbl) ?_
  walk_at "xs"
  refine x_ixL (SqL.of eF5) au1 ?_
  walk_at "xs"
  have f0 : (ds.map floD).getD b0.toNat 0 = lo0 := by rw [List.getD_eq_getElem?_getD, List.getElem?_map, hrow0]; rfl
  have f1' : (ds.map ceiD).getD bl.toNat 0 = up1 := by rw [List.getD_eq_getElem?_getD, List.getElem?_map, hrow1]; rfl
  have g0 : (ldOf ds.length rs ls ls.length)[b0.toNat]? = some ((ldOf ds.length rs ls ls.length).getD b0.toNat 0) := by
    rw [List.getD_eq_getElem?_getD, List.getElem?_eq_getElem (by omega)]; rfl
  have g1 : (ldOf ds.length rs ls ls.length)[bl.toNat]? = some ((ldOf ds.length rs ls ls.length).getD bl.toNat 0) := by
    rw [List.getD_eq_getElem?_getD, List.getElem?_eq_getElem (by omega)]; rfl
  obtain ⟨o1, _⟩ := wd.ok _ _ _ _ hrow0 g0
  obtain ⟨_, o2⟩ := wd.ok _ _ _ _ hrow1 g1
  have alok : ∀ t, AlOk ds rs ls bs b0 bl t ↔ (∀ pr ∈ pairsOf bs, CanP ds rs ls t pr) ∧ lo0 ≤ (ldOf ds.length rs ls ls.length).getD b0.toNat 0 - t ∧ (ldOf ds.length rs ls ls.length).getD bl.toNat 0 + t ≤ up1 := fun t => by
    unfold AlOk
    rw [f0, f1']
  generalize (ldOf ds.length rs ls ls.length).getD b0.toNat 0 = h0 at *
  generalize (ldOf ds.length rs ls ls.length).getD bl.toNat 0 = h1 at *
  intro l hl
  have S6 := same_upd hl (o := .lst [.int (h0 - lo0), .int (up1 - h1)])
  have el := upd_same (H := H5) (a := l) (o := .lst [.int (h0 - lo0), .int (up1 - h1)])
  have eL2 := S6 _ _ eL2
  have S16 := S15.trans S6
  generalize upd H5 l _ = H6 at *
  refine x_cat eL2 el (by rw [List.length_map]; simp only [List.length_cons, List.length_nil]; rw [sizeLine_eq]; omega) ?_
  intro l2 hl2
  have S7 := same_upd hl2 (o := .lst (vs.map V.int ++ [.int (h0 - lo0), .int (up1 - h1)]))
  have el2 := upd_same (H := H6) (a := l2) (o := .lst (vs.map V.int ++ [.int (h0 - lo0), .int (up1 - h1)]))
  walk_at "xs"
  refine ⟨l2, vs ++ [h0 - lo0, up1 - h1], rfl, SqL.of (by rw [el2, List.map_append]; rfl), by rw [List.length_append]; simp, fun m hm hle => ?_⟩
  have nn : ∀ (i : Nat) (v : Int), vs[i]? = some v → 0 ≤ v := fun i v hv => by
    have lt := (List.getElem?_eq_some_iff.mp hv).1
    obtain ⟨pr, hpr⟩ : ∃ pr, (pairsOf bs)[i]? = some pr := ⟨_, List.getElem?_eq_getElem (by omega)⟩
    rcases led i pr v hpr hv with ⟨k, a, b, c, l, e1, e2, h⟩ | ⟨_, rfl⟩
    · obtain ⟨g1, g2⟩ := wd.lo.2 k l _ e2 e1
      have g2 : l ≤ c := g2
      omega
    · exact Int.le_refl _
  refine q _ m (S16.trans S7) ?_ (fun t ht => ?_)
  · rcases List.mem_append.mp hm with hm | hm
    · obtain ⟨i, hi⟩ := List.mem_iff_getElem?.mp hm
      exact nn i m hi
    · simp only [List.mem_cons, List.not_mem_nil, or_false] at hm
      omega
  rw [alok]
  constructor
  · intro h
    have k1 := hle (h0 - lo0) (by simp)
    have k2 := hle (up1 - h1) (by simp)
    refine ⟨fun pr hpr => ?_, by omega, by omega⟩
    obtain ⟨i, hi⟩ := List.mem_iff_getElem?.mp hpr
    have lt := (List.getElem?_eq_some_iff.mp hi).1
    obtain ⟨v, hv⟩ : ∃ v, vs[i]? = some v := ⟨_, List.getElem?_eq_getElem (by omega)⟩
    have k3 := hle v (List.mem_append.mpr (.inl (List.mem_of_getElem? hv)))
    obtain ⟨m1, m2⟩ := prs_in hpr
    exact ⟨free _ m1, free _ m2, v, led i pr v hi hv, by omega⟩
  · rintro ⟨c1, c2, c3⟩
    rcases List.mem_append.mp hm with hm | hm
    · obtain ⟨i, hi⟩ := List.mem_iff_getElem?.mp hm
      have lt := (List.getElem?_eq_some_iff.mp hi).1
      obtain ⟨pr, hpr⟩ : ∃ pr, (pairsOf bs)[i]? = some pr := ⟨_, List.getElem?_eq_getElem (by omega)⟩
      obtain ⟨_, _, v', lv', le'⟩ := c1 pr (List.mem_of_getElem? hpr)
      rw [LedIs.one (n := ds.length) wd.b2 (by omega) (led i pr m hpr hi) lv']
      exact le'
    · simp only [List.mem_cons, List.not_mem_nil, or_false] at hm
      omega
end
/-! ### what along tells -/
structure GA (mg : Str → Option Value) (nm : Str) (C : Addr) : Prop where
  at_ : mg nm = some (.ref C)
structure Xa (K : PySem.W.Frag) (mg : Str → Option Value) (CE CL CF CB CV : Addr) : Prop where
  gE : mg "LeadError" = some (.ref CE)
  gL : mg "NotLegal" = some (.ref CL)
  gF : mg "Frozen" = some (.ref CF)
  gB : mg "NoBundle" = some (.ref CB)
  gV : mg "NotValid" = some (.ref CV)
  exL : ExcC K CL
  m2 : PySem.W.exmOne K (.ref CL) (.ref CE) = some true
  k1 : PySem.W.kitAny K (.ref CL) [.ref CF, .ref CB, .ref CV] = some false
  ex0 : Ex0 K mg "NotLegal" CL
def spToldL (C : Addr) : Sp := fun vs H Q _ => ∃ (M : List Addr) (x p q : Addr) (t : Int) (ds rs : List PyData) (ls bs : List Int) (b0 bl : Int), vs = [.ref x, .ref p, .ref q, .int t] ∧ Clu C M H x (.list ds) (.list rs) ∧ H p = some (.tup (ls.map V.int)) ∧ Wd ds rs ls ∧
  H q = some (.lst (bs.map V.int)) ∧ 2 ≤ bs.length ∧ bs.length ≤ 10 ∧ bs.head? = some b0 ∧ bs.getLast? = some bl ∧ (∀ pr ∈ pairsOf bs, (0 ≤ pr.1 ∧ pr.1 < ds.length) ∧ (0 ≤ pr.2 ∧ pr.2 < ds.length) ∧ pr.1 ≠ pr.2) ∧
  (AlOk ds rs ls bs b0 bl t → ∀ H' u v r, Same H H' → H u = none → H r = none → H' u = some (.lst [.ref v]) → H' v = some (.tup [.int t, .ref r]) → Dn [] H' (.ref r) (.list ((rgo (dnL ds (ldOf ds.length rs ls ls.length)) [] (pairsOf bs)).map runD)) → Q (.ref u) H') ∧
  (¬ AlOk ds rs ls bs b0 bl t → ∀ H', Same H H' → Q (.str "not legal") H')
section
variable {P : Program} {w : World} {K : PySem.W.Frag} {mg : Str → Option Value} {base : Heap} {t0 t1 t2 t3 t4 : Tok} {C CE CL CF CB CV : Addr}
theorem kn_toldL {k : Nat} (D : Df K mg "_law_told" s_Ltold) (B : Bl mg) (xa : Xa K mg CE CL CF CB CV) (c_along : Kx P w K mg base "along" k (spAlong C CL)) : Kn P w K mg base "_law_told" (k + 1) (spToldL C) := by
  refine kn_of D (fun _ _ _ _ _ _ us hl => match us, hl with | [_, _, _, _], _ => rfl) sc_Ltold (fun vs H Q E h => by obtain ⟨M, x, p, q, t, ds, rs, ls, bs, b0, bl, rfl, _⟩ := h; rfl) (fun f cd B' fr z H vs Q E hr gd h => ?_)
  obtain ⟨M, x, p, g, t, ds, rs, ls, bs, b0, bl, rfl, cl, hp, wd, hg, m0, m1, hb0, hbl, hin, q1, q2⟩ := h
  have g_LeadError := xa.gE
  have g_NotLegal := xa.gL
  have c_Frozen : GA mg "Frozen" CF := ⟨xa.gF⟩
  have c_NoBundle : GA mg "NoBundle" CB := ⟨xa.gB⟩
  have c_NotValid : GA mg "NotValid" CV := ⟨xa.gV⟩
  refine ⟨_, (pss_cons (ps_try_as (i := 4) rfl rfl sc_Ltold.nd rfl rfl ⟨rfl, by decide, .inl g_LeadError⟩ takes0 (fun W pn xe tk _ =>
  (pss_one (ps_ret (pe_ownX c_along hr gd tk (by rfl) (pa_cons (pv 0) (pa_cons (pv 1) (pa_cons (pv 2) (pa_cons (pv 3) pa_nil)))))))) (fun a oe cls d pn hz hf =>
  (pss_one (ps_if (PW.pt (pw_and (pt_val (pe_callB (call_isF hz hf) (by rfl) B.isinstance (by decide +kernel) (pa_cons (pv 4) (pa_cons (pe_glob (v := .ref _) (by rfl) g_NotLegal rfl) pa_nil)))) (pw_and1 (pt_not (pt_val (pe_callB (call_isFT hz hf) (by rfl) B.isinstance (by decide +kernel) (pa_cons (pv 4) (pa_cons (pe_tup (pa_cons (pe_glob (v := .ref _) (by rfl) c_Frozen.at_ rfl) (pa_cons (pe_glob (v := .ref _) (by rfl) c_NoBundle.at_ rfl) (pa_cons (pe_glob (v := .ref _) (by rfl) c_NotValid.at_ rfl) pa_nil)))) pa_nil)))))))) (pss_one (ps_ret pe_str)) pss_nil))))
  (pss_one (ps_ret pe_str))), ?_⟩
  walk_at "xs"
  refine x_callS ?_
  walk_at "xs"
  refine ⟨M, x, p, g, t, ds, rs, ls, bs, b0, bl, rfl, cl, hp, wd, hg, m0, m1, hb0, hbl, hin, fun ok H' u v r S n1 n2 e1 e2 d => ?_, fun no H' S => ?_⟩
  · walk_at "xs"
    exact q1 ok H' u v r S n1 n2 e1 e2 d
  · refine ⟨true, xa.m2, fun _ a na => ?_, fun h => by cases h⟩
    walk_at "xs"
    refine ⟨CL, .ref CL, .ref CL, true, rfl, xa.exL, rfl, .own CL, fun d e => (by cases e), by unfold PySem.W.kitOne; rw [if_pos (beq_self_eq_true _)], ?_⟩
    walk_at "xs"
    intro tp htp
    refine ⟨CL, tp, _, [.ref CF, .ref CB, .ref CV], false, rfl, xa.exL, rfl, upd_same, .cons (.own CF) (.cons (.own CB) (.cons (.own CV) .nil)), fun d e => (by cases e), xa.k1, ?_⟩
    walk_at "xs"
    exact q2 no _ (S.trans (same_upd htp))
end
/-- a loop over zip of two lists, of any lengths -/
theorem for_zipN {K : PySem.W.Frag} {a b : Addr} {xs ys : List V} {g : TG} {tb : TS} {D : Ends} {σ : L2.St} {H : Hp} (Pv : Nat → L2.St → Hp → Prop) (h0 : Pv 0 σ H) (hq : ∀ i σ H, Pv i σ H → SqL K H a xs ∧ SqL K H b ys)
    (hs : ∀ (i : Nat) (x y : V) (T : Addr) (σ : L2.St) (H : Hp), xs[i]? = some x → ys[i]? = some y → Pv i σ H → H T = none → g (.ref T) σ (upd H T (.tup [x, y])) fun σ2 H2 => tb { D with nx := Pv (i + 1), ct := Pv (i + 1), bk := D.nx } σ2 H2) (hd : ∀ σ H, Pv (min xs.length ys.length) σ H → D.nx σ H) :
    ∃ W : Nat → Nat → L2.St → Hp → Prop, (∃ m, W 0 m σ H) ∧ ∀ i m σ H, W i m σ H →
      ((Itz K a b).stop i H ∧ D.nx σ H) ∨ ((Itz K a b).go i H ∧ ∃ N : L2.St → Hp → Prop, (∀ σ' H', N σ' H' → ∃ m', m' < m ∧ W (i + 1) m' σ' H') ∧ ∀ v H', (Itz K a b).yld i H v H' → g v σ H' fun σ2 H2 => tb { D with nx := N, ct := N, bk := D.nx } σ2 H2) := by
  refine ⟨fun i m σ H => m = min xs.length ys.length - i ∧ i ≤ min xs.length ys.length ∧ Pv i σ H, ⟨_, rfl, Nat.zero_le _, h0⟩, ?_⟩
  rintro i m σ H ⟨rfl, hi, p⟩
  obtain ⟨qx, qy⟩ := hq i σ H p
  by_cases hlt : i < min xs.length ys.length
  · have hlt1 : i < xs.length := by omega
    have hlt2 : i < ys.length := by omega
    have hx : xs[i]? = some xs[i] := List.getElem?_eq_getElem hlt1
    have hy : ys[i]? = some ys[i] := List.getElem?_eq_getElem hlt2
    refine .inr ⟨⟨xs, ys, _, _, qx, qy, hx, hy⟩, Pv (i + 1), fun σ' H' p' => ⟨min xs.length ys.length - (i + 1), by omega, rfl, hlt, p'⟩, fun v H' y => ?_⟩
    obtain ⟨T, x', y', rfl, hT, rfl, f1, f2⟩ := y
    exact hs i x' y' T σ H (f1 xs qx) (f2 ys qy) p hT
  · have e : i = min xs.length ys.length := by omega
    refine .inl ⟨⟨xs, ys, qx, qy, by omega⟩, hd σ H (by rw [← e]; exact p)⟩

/-! ### one hand along a way, held against the law -/
theorem sz_list40 {p q n : Nat} {ds : List PyData} (h : ∀ d ∈ ds, Sz d p q) (hn : ds.length ≤ n) : Sz (.list ds) (n * (p + 2) + 3) (q + 1) :=
  (sz_list h).mono (Nat.add_le_add_right (Nat.mul_le_mul_right _ hn) 3) (Nat.le_refl _)
theorem sz_tup40 {p q n : Nat} {ds : List PyData} (h : ∀ d ∈ ds, Sz d p q) (hn : ds.length ≤ n) : Sz (.tuple ds) (n * (p + 2) + 3) (q + 1) :=
  (sz_tuple h).mono (Nat.add_le_add_right (Nat.mul_le_mul_right _ hn) 3) (Nat.le_refl _)
theorem sz_nums40 {ms : List Int} (hm : ∀ m ∈ ms, m.natAbs < 2 ^ 200) (l : ms.length ≤ 48) : Sz (.list (ms.map PyData.int)) 10000 1 :=
  (sz_list40 (n := 48) (p := 201) (q := 0) (fun d hd => by obtain ⟨m, hx, rfl⟩ := List.mem_map.mp hd; exact sz_int (hm m hx)) (by rw [List.length_map]; exact l)).mono (by decide) (by decide)
theorem sz_tupn40 {ms : List Int} (hm : ∀ m ∈ ms, m.natAbs < 2 ^ 200) (l : ms.length ≤ 48) : Sz (tupD ms) 10000 1 :=
  (sz_tup40 (n := 48) (p := 201) (q := 0) (fun d hd => by obtain ⟨m, hx, rfl⟩ := List.mem_map.mp hd; exact sz_int (hm m hx)) (by rw [List.length_map]; exact l)).mono (by decide) (by decide)
theorem shows_lb {ls bs : List Int} (h1 : ∀ m ∈ ls, m.natAbs < 2 ^ 200) (l1 : ls.length ≤ 48) (h2 : ∀ m ∈ bs, m.natAbs < 2 ^ 200) (l2 : bs.length ≤ 48) : Shows (.list [tupD ls, .list (bs.map PyData.int)]) :=
  (sz_list40 (n := 2) (p := 10000) (q := 1) (fun d hd => by
    simp only [List.mem_cons, List.not_mem_nil, or_false] at hd
    rcases hd with rfl | rfl
    · exact sz_tupn40 h1 l1
    · exact sz_nums40 h2 l2) (Nat.le_refl _)).shows (by decide) (by decide)
theorem shows_plan {t : Int} {rs : List (Int × Int)} (ht : t.natAbs < 2 ^ 200) (h : ∀ p ∈ rs, p.1.natAbs < 2 ^ 200 ∧ p.2.natAbs < 2 ^ 200) (l : rs.length ≤ 20) : Shows (.list [planD t rs]) := by
  have one : (1 : Int).natAbs < 2 ^ 200 := by decide
  have h1 : ∀ d ∈ rs.map runD, Sz d 612 1 := fun d hd => by
    obtain ⟨p, hp, rfl⟩ := List.mem_map.mp hd
    refine (sz_tup40 (n := 3) (p := 201) (q := 0) (ds := [.int p.1, .int p.2, .int 1]) (fun d hd => ?_) (Nat.le_refl _)).mono (by decide) (by decide)
    simp only [List.mem_cons, List.not_mem_nil, or_false] at hd
    rcases hd with rfl | rfl | rfl
    · exact sz_int (h p hp).1
    · exact sz_int (h p hp).2
    · exact sz_int one
  have h2 : Sz (.list (rs.map runD)) 20000 2 := (sz_list40 (n := 20) h1 (by rw [List.length_map]; exact l)).mono (by decide) (by decide)
  have h3 : Sz (planD t rs) 50000 3 := (sz_tup40 (n := 2) (p := 20000) (q := 2) (ds := [.int t, .list (rs.map runD)]) (fun d hd => by
    simp only [List.mem_cons, List.not_mem_nil, or_false] at hd
    rcases hd with rfl | rfl
    · exact (sz_int ht).mono (by decide) (by decide)
    · exact h2) (Nat.le_refl _)).mono (by decide) (by decide)
  exact (sz_list40 (n := 1) (p := 50000) (q := 3) (ds := [planD t rs]) (fun d hd => by
    simp only [List.mem_cons, List.not_mem_nil, or_false] at hd
    rw [hd]; exact h3) (Nat.le_refl _)).shows (by decide) (by decide)
theorem shows_tup40 {ls : List Int} (h1 : ∀ m ∈ ls, m.natAbs < 2 ^ 200) (l1 : ls.length ≤ 48) : Shows (tupD ls) := (sz_tupn40 h1 l1).shows (by decide) (by decide)
theorem shaped_tup40 (ls : List Int) : SeqAt.shaped (tupD ls) = true := by
  obtain ⟨g1, g2, g3⟩ := ints_facts ls
  have : SeqAt.shaped (.tuple (ls.map PyData.int)) = true := by
    simp [SeqAt.shaped, PyData.canLay0, g1, PyData.depth, g2]
  exact this
theorem dl_small (d : PyData) (p : Int × Int) : -1 ≤ dl d p ∧ dl d p ≤ 1 := by
  unfold dl
  split
  · split
    · omega
    · split <;> omega
  · omega
theorem Dl_small (d : PyData) : ∀ ps : List (Int × Int), -(ps.length : Int) ≤ (ps.map (dl d)).sum ∧ (ps.map (dl d)).sum ≤ ps.length
  | [] => by simp
  | p :: ps => by
    have ih := Dl_small d ps
    have := dl_small d p
    rw [List.map_cons, List.sum_cons, List.length_cons]
    omega
def dueL (rs : List PyData) (ls : List Int) (ps : List (Int × Int)) (t : Int) : List Int := (trn rs (ls, []) (ps.map (qt t))).1
theorem trn_fst {rs : List PyData} : ∀ {qs : List Run} {l a b : List Int}, (trn rs (l, a) qs).1 = (trn rs (l, b) qs).1
  | [], _, _, _ => rfl
  | q :: qs, l, a, b => trn_fst (qs := qs)
theorem due_next {rs : List PyData} {ls : List Int} {ps : List (Int × Int)} {t : Int} {j : Nat} {p : Int × Int} (h : ps[j]? = some p) : dueL rs ls (ps.take (j + 1)) t = mvL rs (dueL rs ls (ps.take j) t) p.1 p.2 t := by
  unfold dueL
  rw [List.map_take, List.map_take, trn_next (q := qt t p) (by rw [List.getElem?_map, h]; rfl)]
  rfl
theorem due_len {rs : List PyData} {ls : List Int} {ps : List (Int × Int)} {t : Int} (h : ls.length = rs.length) : (dueL rs ls ps t).length = rs.length := (trn_len (n := 0) h rfl).1
theorem due_at {rs : List PyData} {ls : List Int} {ps : List (Int × Int)} {t : Int} {k : Nat} {d : PyData} {l : Int} (h1 : rs[k]? = some d) (h2 : ls[k]? = some l) : (dueL rs ls ps t)[k]? = some (l + t * (ps.map (dl d)).sum) := by
  unfold dueL
  rw [trn_le h1 h2, sum_qt]
theorem leads_le {ds rs : List PyData} {ls : List Int} (wd : Wd ds rs ls) : ∀ l ∈ ls, 0 ≤ l ∧ l ≤ 1000000000000000000 := fun l hl => by
  obtain ⟨k, hk⟩ := List.mem_iff_getElem?.mp hl
  have lt := (List.getElem?_eq_some_iff.mp hk).1
  have n10 := bounds_len wd.b1
  obtain ⟨a, b, c, hr, _, _, _, _, c1⟩ := rows_at wd.b2 (by omega) (show k < rs.length by have := wd.lo.1; omega)
  obtain ⟨g1, g2⟩ := wd.lo.2 k l _ hk hr
  have g2 : l ≤ c := g2
  have e : (10 : Int) ^ 18 = 1000000000000000000 := by decide
  omega
theorem due_small {ds rs : List PyData} {ls : List Int} {ps : List (Int × Int)} {t : Int} (wd : Wd ds rs ls) (lp : ps.length ≤ 10) (t0 : 0 ≤ t) (t1 : t ≤ 1000000000000000000) : ∀ m ∈ dueL rs ls ps t, m.natAbs < 2 ^ 200 := fun m hm => by
  have big : (20000000000000000000 : Nat) < 2 ^ 200 := by decide
  obtain ⟨k, hk⟩ := List.mem_iff_getElem?.mp hm
  have lt := (List.getElem?_eq_some_iff.mp hk).1
  rw [due_len wd.lo.1] at lt
  obtain ⟨l, hl⟩ : ∃ l, ls[k]? = some l := ⟨_, List.getElem?_eq_getElem (by have := wd.lo.1; omega)⟩
  rw [due_at (List.getElem?_eq_getElem lt) hl] at hk
  have e := (Option.some.inj hk).symm
  obtain ⟨g1, g2⟩ := leads_le wd l (List.mem_of_getElem? hl)
  obtain ⟨s1, s2⟩ := Dl_small rs[k] ps
  have b1 : t * (ps.map (dl rs[k])).sum ≤ t * 10 := Int.mul_le_mul_of_nonneg_left (by omega) t0
  have b2 : t * (-10) ≤ t * (ps.map (dl rs[k])).sum := Int.mul_le_mul_of_nonneg_left (by omega) t0
  omega
def spRightL (C : Addr) : Sp := fun vs H Q _ => ∃ (M : List Addr) (x f1 u g p : Addr) (t : Int) (ds rs : List PyData) (ls bs : List Int) (b0 bl : Int), vs = [.ref x, .ref f1, .ref u, .ref g, .ref p, .int t] ∧ Clu C M H x (.list ds) (.list rs) ∧ Dn M H (.ref f1) (.list ds) ∧ Dn M H (.ref u) (.list rs) ∧ H g = some (.tup (ls.map V.int)) ∧ Wd ds rs ls ∧ H p = some (.lst (bs.map V.int)) ∧
  PathIn rs ds.length bs ∧ 2 ≤ bs.length ∧ bs.length ≤ 10 ∧ bs.head? = some b0 ∧ bs.getLast? = some bl ∧ 1 ≤ t ∧ t ≤ 1000000000000000000 ∧ ∀ H', Same H H' → Q (.bl true) H'
theorem x_topL {H : Hp} {Q : VK} {E : XK} {M N : List Addr} {f1 u g p : Addr} {ds rs : List PyData} {ls bs : List Int} {b0 bl : Int} (h1 : Dn M H (.ref f1) (.list ds)) (h2 : Dn N H (.ref u) (.list rs)) (h3 : H g = some (.tup (ls.map V.int))) (wd : Wd ds rs ls) (h4 : H p = some (.lst (bs.map V.int)))
    (pa : PathIn rs ds.length bs) (m0 : 2 ≤ bs.length) (m1 : bs.length ≤ 10) (hb0 : bs.head? = some b0) (hbl : bs.getLast? = some bl) (h : ∀ H' top, Same H H' → 0 ≤ top → (∀ t, 1 ≤ t → (t ≤ top ↔ AlOk ds rs ls bs b0 bl t)) → Q (.int top) H') : spTopL [.ref f1, .ref u, .ref g, .ref p] H Q E :=
  ⟨M, N, f1, u, g, p, ds, rs, ls, bs, b0, bl, rfl, h1, h2, h3, wd, h4, pa, m0, m1, hb0, hbl, h⟩
section
variable {P : Program} {w : World} {K : PySem.W.Frag} {mg : Str → Option Value} {base : Heap} {t0 t1 t2 t3 t4 : Tok} {C : Addr}
theorem kn_rightL {k : Nat} (D : Df K mg "_law_right" s_Lright) (B : Bl mg) (sys : ∃ o, base.get? sysModules = some o) (c_Ltop : Kn P w K mg base "_law_top" k spTopL) (c_Ltold : Kn P w K mg base "_law_told" k (spToldL C)) (c_Lmoved : Kn P w K mg base "_law_moved" k spMoved) (c_is_plan : Kn P w K mg base "is_plan" k (spIsPlan C)) (c_length : Kn P w K mg base "length" k spLength) (c_Lalike : Kn P w K mg base "_law_alike" k spAlike) (c_play : Kn P w K mg base "play" k (spPlay C)) : Kn P w K mg base "_law_right" (k + 1) (spRightL C) := by
  refine kn_of D (fun _ _ _ _ _ _ us hl => match us, hl with | [_, _, _, _, _, _], _ => rfl) sc_Lright (fun vs H Q E h => by obtain ⟨M, x, f1, u, g, p, t, ds, rs, ls, bs, b0, bl, rfl, _⟩ := h; rfl) (fun f cd B' fr z H vs Q E hr gd h => ?_)
  obtain ⟨M, x, f1, u, g, p, t, ds, rs, ls, bs, b0, bl, rfl, cl, hd, hu, hg, wd, hp, pa, m0, m1, hb0, hbl, t1', t2', q⟩ := h
  refine ⟨_, (pss_cons (ps_set (i := 6) sc_Lright.nd rfl (.inl rfl) (pe_callB (call_reprD gd hr.units sys) (by rfl) B.repr (by decide +kernel) (pa_cons (pe_lst (pa_cons (pv 3) (pa_cons (pv 4) pa_nil))) pa_nil)))
  (pss_cons (ps_set (i := 7) sc_Lright.nd rfl (.inl rfl) (pe_own c_Ltop hr gd (by rfl) (pa_cons (pv 1) (pa_cons (pv 2) (pa_cons (pv 3) (pa_cons (pv 4) pa_nil))))))
  (pss_cons (ps_set (i := 8) sc_Lright.nd rfl (.inl rfl) (pe_own c_Ltold hr gd (by rfl) (pa_cons (pv 0) (pa_cons (pv 3) (pa_cons (pv 4) (pa_cons (pv 5) pa_nil))))))
  (pss_cons (ps_if (pt_cmpR op_gt (pv 5) (pv 7) (nomark _)) (pss_one (ps_ret (pe_and (pe_cmpR (op_eqD hr.units) (pv 8) pe_str (nomark _)) (pe_one (pe_cmpR op_eq (pe_callB (call_reprD gd hr.units sys) (by rfl) B.repr (by decide +kernel) (pa_cons (pe_lst (pa_cons (pv 3) (pa_cons (pv 4) pa_nil))) pa_nil)) (pv 6) (nomark _)))))) pss_nil)
  (pss_cons (ps_set (i := 9) sc_Lright.nd rfl (.inl rfl) (pv 3))
  (pss_cons (ps_for PassesOwn.never rfl (pi_zip (by rfl) B.zip (pa_cons (pv 4) (pa_cons (pe_slice (r := rSlL K) sl_list (pv 4) (po_some pe_int) po_none) pa_nil))) (pg_tup (by rfl) (pgs_cons (pg_name (i := 10) sc_Lright.nd rfl (.inl rfl)) (pgs_cons (pg_name (i := 11) sc_Lright.nd rfl (.inl rfl)) pgs_nil)))
  (pss_one (ps_set (i := 9) sc_Lright.nd rfl (.inl rfl) (pe_own c_Lmoved hr gd (by rfl) (pa_cons (pv 2) (pa_cons (pv 9) (pa_cons (pv 10) (pa_cons (pv 11) (pa_cons (pv 5) pa_nil)))))))))
  (pss_cons (ps_if (PW.pt (pw_or (pt_not (pt_val (pe_own c_is_plan hr gd (by rfl) (pa_cons (pv 0) (pa_cons (pv 8) pa_nil))))) (pw_or (pt_cmpR op_ne (pe_callB call_len_seq (by rfl) B.len (by decide +kernel) (pa_cons (pv 8) pa_nil)) pe_int (nomark _)) (pw_or1 (pt_cmpR op_ne (pe_own c_length hr gd (by rfl) (pa_cons (pv 8) pa_nil)) (pe_op op_mul (pv 5) (pe_op op_sub (pe_callB call_len_seq (by rfl) B.len (by decide +kernel) (pa_cons (pv 4) pa_nil)) pe_int)) (nomark _)))))) (pss_one (ps_ret pe_bl)) pss_nil)
  (pss_cons (ps_if (pt_not (pt_val (pe_own c_Lalike hr gd (by rfl) (pa_cons (pe_own c_play hr gd (by rfl) (pa_cons (pv 0) (pa_cons (pv 3) (pa_cons (pv 8) pa_nil)))) (pa_cons (pv 9) pa_nil))))) (pss_one (ps_ret pe_bl)) pss_nil)
  (pss_cons (ps_set (i := 12) sc_Lright.nd rfl (.inl rfl) (pe_callB (call_reprD gd hr.units sys) (by rfl) B.repr (by decide +kernel) (pa_cons (pv 8) pa_nil)))
  (pss_cons (ps_for PassesOwn.never rfl (pi_range1 (by rfl) B.range (pa_cons pe_int pa_nil)) (pg_name (i := 13) sc_Lright.nd rfl (.inl rfl))
  (pss_cons (ps_expr (pe_bm PySem.F.plainAttrs_list PySem.F.slot_list_append PySem.F.type_list_append mt_append (pe_ix (r := rIxT K) ix_tup (pe_ix (r := rIxL K) ix_list (pv 8) pe_int (fun _ _ => rfl)) pe_int (fun _ _ => rfl)) (pa_cons pe_non pa_nil)))
  (pss_cons (ps_expr (pe_bm PySem.F.plainAttrs_list PySem.F.slot_list_append PySem.F.type_list_append mt_append (pv 8) (pa_cons pe_non pa_nil)))
  (pss_cons (ps_set (i := 8) sc_Lright.nd rfl (.inl rfl) (pe_own c_Ltold hr gd (by rfl) (pa_cons (pv 0) (pa_cons (pv 3) (pa_cons (pv 4) (pa_cons (pv 5) pa_nil))))))
  (pss_one (ps_if (pt_cmpR op_ne (pe_callB (call_reprD gd hr.units sys) (by rfl) B.repr (by decide +kernel) (pa_cons (pv 8) pa_nil)) (pv 12) (nomark _)) (pss_one (ps_ret pe_bl)) pss_nil))))))
  (pss_one (ps_ret (pe_cmpR op_eq (pe_callB (call_reprD gd hr.units sys) (by rfl) B.repr (by decide +kernel) (pa_cons (pe_lst (pa_cons (pv 3) (pa_cons (pv 4) pa_nil))) pa_nil)) (pv 6) (nomark _)))))))))))))), ?_⟩
  have big : (20000000000000000000 : Nat) < 2 ^ 200 := by decide
  have n10 := bounds_len wd.b1
  have len := (bundles_len wd.b2).1
  have hin := pa.in_ wd.b2 (by omega)
  have cl0 := cl.sub (N := []) (by simp)
  have lss : ∀ m ∈ ls, m.natAbs < 2 ^ 200 := fun m hm => by have := leads_le wd m hm; omega
  have bss : ∀ m ∈ bs, m.natAbs < 2 ^ 200 := fun m hm => by have := pa.rng m hm; omega
  have sh := shows_lb lss (by have := wd.lo.1; omega) bss (by omega)
  have dlb : ∀ {H' : Hp} {l : Addr}, Same H H' → H' l = some (.lst [.ref g, .ref p]) → Dn [] H' (.ref l) (.list [tupD ls, .list (bs.map PyData.int)]) := fun {H' l} S e =>
    .lst e (by simp) (.cons (.tup (S _ _ hg) (by simp) (DnAll.ints _)) (.cons (.lst (S _ _ hp) (by simp) (DnAll.ints _)) .nil))
  walk_at "xs"
  intro l1 hl1
  have S1 := same_upd hl1 (o := .lst [.ref g, .ref p])
  have el1 := upd_same (H := H) (a := l1) (o := .lst [.ref g, .ref p])
  generalize upd H l1 _ = H1 at *
  walk_at "xs"
  refine x_repr (dlb S1 el1) sh ?_
  walk_at "xs"
  refine x_topL (hd.ext (Ext.same S1)) (hu.ext (Ext.same S1)) (S1 _ _ hg) wd (S1 _ _ hp) pa m0 m1 hb0 hbl ?_
  intro H2 top S2 top0 htop
  have S12 := S1.trans S2
  walk_at "xs"
  refine ⟨M, x, g, p, t, ds, rs, ls, bs, b0, bl, rfl, cl.ext (Ext.same S12), S12 _ _ hg, wd, S12 _ _ hp, m0, m1, hb0, hbl, hin, fun ok H3 v1 v2 r S3 n1 n3 e1 e2 d => ?_, fun no H3 S3 => ?_⟩
  · have S13 := S12.trans S3
    have tl : ¬ top < t := by
      have := (htop t t1').mpr ok
      omega
    walk_at "xs"
    rw [decide_eq_false tl]
    have hp3 := S13 _ _ hp
    have cf : cutV (bs.map V.int) (some 1) none = (bs.tail).map V.int := by rw [show (1 : Int) = ((1 : Nat) : Int) from rfl, cutV_from, ← List.map_drop, List.drop_one]
    have lpl : (pairsOf bs).length = bs.length - 1 := pairs_len bs
    obtain ⟨rn, hrn⟩ : ∃ rn, rn = rgo (dnL ds (ldOf ds.length rs ls ls.length)) [] (pairsOf bs) := ⟨_, rfl⟩
    have lrn : rn.length = bs.length - 1 := by rw [hrn, rgo_len, lpl]; simp
    have rin : ∀ p ∈ rn, p ∈ pairsOf bs := fun p hp => by
      rw [hrn] at hp
      exact ((rgo_perm _ (pairsOf bs) []).trans (by simp)).mem_iff.mp hp
    obtain ⟨wp, we⟩ := way_pok wd pa.nd hb0 hbl m0 pa.rng t1' ok
    rw [← hrn] at d wp we
    have dplan : ∀ {H' : Hp} {a b c : Addr}, H' a = some (.lst [.ref b]) → H' b = some (.tup [.int t, .ref c]) → Dn [] H' (.ref c) (.list (rn.map runD)) → Dn [] H' (.ref a) (.list [planD t rn]) := fun ea eb dc =>
      .lst ea (by simp) (.cons (.tup eb (by simp) (.cons (.int _) (.cons dc .nil))) .nil)
    have sw : Shows (.list [planD t rn]) := shows_plan (by omega) (fun p hp => by have := hin p (rin p hp); omega) (by omega)
    walk_at "xs"
    rw [cf]
    intro p1 hp1
    have S4 := same_upd hp1 (o := .lst (bs.tail.map V.int))
    have ep1 := upd_same (H := H3) (a := p1) (o := .lst (bs.tail.map V.int))
    have S14 := S13.trans S4
    have e1 := S4 _ _ e1
    have e2 := S4 _ _ e2
    have d := d.ext (Ext.same S4)
    have n1 := S12.free n1
    have n3 := S12.free n3
    clear hp3
    generalize upd H3 p1 _ = H4 at *
    have hp4 := S14 _ _ hp
    walk_at "xs"
    refine for_zipN (K := K) (a := p) (b := p1) (xs := bs.map V.int) (ys := bs.tail.map V.int) (fun j σ' H' => ∃ (dd : Addr) (y10 y11 : Option V), σ' = [some (.ref x), some (.ref f1), some (.ref u), some (.ref g), some (.ref p), some (.int t), some (.str (PyData.list [tupD ls, PyData.list (List.map PyData.int bs)]).shown), some (.int top), some (.ref v1), some (.ref dd), y10, y11, none, none] ∧ Same H4 H' ∧ H' dd = some (.tup ((dueL rs ls ((pairsOf bs).take j) t).map V.int))) ?_ ?_ ?_ ?_
    · exact ⟨g, _, _, rfl, Same.refl _, S14 _ _ hg⟩
    · rintro j _ H' ⟨_, _, _, _, S, _⟩
      exact ⟨SqL.of (S _ _ hp4), SqL.of (S _ _ ep1)⟩
    · rintro j xx yy T _ H' hx hy ⟨dd, y10, y11, rfl, S, ed⟩ hT
      obtain ⟨i1, h1, rfl⟩ := int_at hx
      obtain ⟨i2, h2, rfl⟩ := int_at hy
      have hz : (pairsOf bs)[j]? = some (i1, i2) := by
        unfold pairsOf
        rw [List.getElem?_zip_eq_some]
        exact ⟨h1, h2⟩
      have ST := same_upd hT (o := .tup [.int i1, .int i2])
      have eT := upd_same (H := H') (a := T) (o := .tup [.int i1, .int i2])
      have ed := ST _ _ ed
      have S5 := S.trans ST
      generalize upd H' T _ = H5 at *
      walk_at "xs"
      refine ⟨.ref u, dd, M, rs, dueL rs ls ((pairsOf bs).take j) t, ds.length, i1, i2, t, rfl, hu.ext (Ext.same (S14.trans S5)), ed, wd.b2, by omega, due_len wd.lo.1, ?_⟩
      intro H6 f6 S6 _ e6
      walk_at "xs"
      exact ⟨f6, _, _, rfl, S5.trans S6, by rw [due_next hz]; exact e6⟩
    rintro _ H5 ⟨dd, y10, y11, rfl, S5, ed⟩
    have lp : (pairsOf bs).length = min (bs.map V.int).length (bs.tail.map V.int).length := by unfold pairsOf; rw [List.length_zip, List.length_map, List.length_map]
    rw [← lp, List.take_length] at ed
    have S15 := S14.trans S5
    have e1 := S5 _ _ e1
    have e2 := S5 _ _ e2
    have d := d.ext (Ext.same S5)
    have dp := dplan e1 e2 d
    walk_at "xs"
    refine ⟨M, x, v1, _, rs, t, rn, rfl, cl.ext (Ext.same S15), dp, fun r' hr' => ?_, t1', t2', by omega, by omega, ?_⟩
    · have hpr := rin r' hr'
      obtain ⟨k', a', b', c', hrow, hab⟩ := bpr_mem.mp (pa.prs r' hpr)
      have hr3 := hin r' hpr
      obtain ⟨_, _, _, _, _, _, _, hv⟩ := pair_num wd.b2 n10 (q := q1 r') ⟨hr3.1.1, hr3.1.2, hr3.2.1.1, hr3.2.1.2, ⟨k', a', b', c', hrow, hab⟩⟩
      rw [show (q1 r').1 = r'.1 from rfl, show (q1 r').2.1 = r'.2 from rfl] at hv
      rw [hv]; rfl
    intro H6 S6
    have e1 := S6 _ _ e1
    have e2 := S6 _ _ e2
    have d := d.ext (Ext.same S6)
    have dp := dp.ext (Ext.same S6)
    have S16 := S15.trans S6
    have ed := S6 _ _ ed
    have hp6 := S16 _ _ hp
    walk_at "xs"
    refine x_iteN (fun h => absurd rfl h) (fun _ => ?_)
    walk_at "xs"
    refine ⟨v1, t, rn, rfl, dp, by omega, by omega, t2', ?_⟩
    intro H7 S7
    have hp7 := S7 _ _ hp6
    walk_at "xs"
    refine x_iteN (fun h => absurd (by rw [List.length_map, lrn]; congr 1; omega) h) (fun _ => ?_)
    have S17 := S16.trans S7
    have e1 := S7 _ _ e1
    have e2 := S7 _ _ e2
    have d := d.ext (Ext.same S7)
    have dp := dp.ext (Ext.same S7)
    have ed := S7 _ _ ed
    have eqd : (rn.map runD) = ((rn.map q1).map runQ) := by rw [List.map_map]; rfl
    have dpB : Dn [] H7 (.ref v1) (.list ([(t, rn.map q1)].map blkQ)) := by
      have e : [(t, rn.map q1)].map blkQ = [planD t rn] := by
        show [PyData.tuple [.int t, .list ((rn.map q1).map runQ)]] = [.tuple [.int t, .list (rn.map runD)]]
        rw [eqd]
      rw [e]; exact dp
    have binB : ∀ b ∈ [((t, rn.map q1) : Blk)], BIn ds rs b := fun b hb => by
      rw [List.mem_singleton] at hb
      subst hb
      refine ⟨t1', t2', fun q0 hq => ?_⟩
      obtain ⟨r', hr', rfl⟩ := List.mem_map.mp hq
      have hpr := rin r' hr'
      obtain ⟨k', a', b', c', hrow, hab⟩ := bpr_mem.mp (pa.prs r' hpr)
      have hr3 := hin r' hpr
      exact ⟨hr3.1.1, hr3.1.2, hr3.2.1.1, hr3.2.1.2, ⟨k', a', b', c', hrow, hab⟩⟩
    walk_at "xs"
    refine ⟨x, g, v1, M, ds, rs, ls, [(t, rn.map q1)], rfl, cl.ext (Ext.same S17), S17 _ _ hg, wd.b1, wd.b2, wd.lo.1, dpB, binB, wp, ?_⟩
    intro H8 f8 S8 n8 e8
    have due : (pln rs (ls, ldOf ds.length rs ls ls.length) [(t, rn.map q1)]).1 = dueL rs ls (pairsOf bs) t := by
      rw [we]
      exact trn_fst
    rw [due] at e8
    have ed8 := S8 _ _ ed
    walk_at "xs"
    refine x_alike (M := []) (d := tupD (dueL rs ls (pairsOf bs) t)) (.tup e8 (by simp) (DnAll.ints _)) (.tup ed8 (by simp) (DnAll.ints _)) (shaped_tup40 _) (shows_tup40 (due_small wd (by omega) (by omega) t2') (by rw [due_len wd.lo.1]; omega)) ?_
    have e1 := S8 _ _ e1
    have e2 := S8 _ _ e2
    have d := d.ext (Ext.same S8)
    have dp := dp.ext (Ext.same S8)
    have S18 := S17.trans S8
    clear ed8 ed e8 dpB
    walk_at "xs"
    refine x_repr dp sw ?_
    walk_at "xs"
    refine for_range (lo := 0) (n := (2 : Int).toNat) (fun i σ' H' => ∃ (w1 w2 w3 : Addr) (y9 y10 y11 y13 : Option V), σ' = [some (.ref x), some (.ref f1), some (.ref u), some (.ref g), some (.ref p), some (.int t), some (.str (PyData.list [tupD ls, PyData.list (List.map PyData.int bs)]).shown), some (.int top), some (.ref w1), y9, y10, y11, some (.str (PyData.list [planD t rn]).shown), y13] ∧ Same H H' ∧ H w1 = none ∧ H w3 = none ∧ H' w1 = some (.lst [.ref w2]) ∧ H' w2 = some (.tup [.int t, .ref w3]) ∧ Dn [] H' (.ref w3) (.list (rn.map runD))) ?_ ?_ ?_
    · exact ⟨v1, v2, r, _, _, _, _, rfl, S18, n1, n3, e1, e2, d⟩
    · rintro i _ H9 hi ⟨w1, w2, w3, y9, y10, y11, y13, rfl, S9, m1', m3', g1, g2, dg⟩
      cases dg with
      | @lst _ rxs _ g3 _ AR =>
      have lR := AR.length
      rw [List.length_map] at lR
      have n12 : w1 ≠ w3 := fun e => by
        subst e
        rw [g1] at g3
        have g3 : rxs = [V.ref w2] := by injection g3 with g3; injection g3 with g3; exact g3.symm
        subst g3
        cases hrn' : rn with
        | nil => rw [hrn'] at lrn; simp at lrn; omega
        | cons r0 rest =>
          rw [hrn'] at AR
          cases AR with
          | cons h1 _ =>
            have h1 : Dn [] H9 (.ref w2) (runD r0) := h1
            cases h1 with
            | tup e _ A =>
              rw [g2] at e
              have e := Option.some.inj e
              injection e with e
              subst e
              cases A with
              | cons _ A =>
                cases A with
                | cons h2 _ => cases h2
      walk_at "xs"
      refine x_app g3 (by rw [lR, lrn, sizeLine_eq]; omega) ?_
      have S10 : Same H (upd H9 w3 (.lst (rxs ++ [.non]))) := fun z o e => by
        rw [upd_ne (ne_of_none e m3')]; exact S9 _ _ e
      have g1' : (upd H9 w3 (.lst (rxs ++ [.non]))) w1 = some (.lst [.ref w2]) := by rw [upd_ne n12]; exact g1
      clear g1 g2 g3 AR S9
      generalize upd H9 w3 _ = H10 at *
      walk_at "xs"
      refine x_app g1' (by rw [sizeLine_eq]; simp) ?_
      have S11 : Same H (upd H10 w1 (.lst ([.ref w2] ++ [.non]))) := fun z o e => by
        rw [upd_ne (ne_of_none e m1')]; exact S10 _ _ e
      clear g1' S10
      generalize upd H10 w1 _ = H11 at *
      walk_at "xs"
      refine ⟨M, x, g, p, t, ds, rs, ls, bs, b0, bl, rfl, cl.ext (Ext.same S11), S11 _ _ hg, wd, S11 _ _ hp, m0, m1, hb0, hbl, hin, fun _ H12 w1' w2' w3' S12' k1 k3 h1 h2 dd' => ?_, fun no => absurd ok no⟩
      rw [← hrn] at dd'
      walk_at "xs"
      refine x_repr (dplan h1 h2 dd') sw ?_
      walk_at "xs"
      rw [decide_eq_true rfl]
      walk_at "xs"
      exact ⟨w1', w2', w3', _, _, _, _, rfl, S11.trans S12', S11.free k1, S11.free k3, h1, h2, dd'⟩
    rintro _ H9 ⟨w1, w2, w3, y9, y10, y11, y13, rfl, S9, m1', m3', g1, g2, dg⟩
    walk_at "xs"
    intro l2 hl2
    have S10 := same_upd hl2 (o := .lst [.ref g, .ref p])
    have el2 := upd_same (H := H9) (a := l2) (o := .lst [.ref g, .ref p])
    walk_at "xs"
    refine x_repr (dlb (S9.trans S10) el2) sh ?_
    walk_at "xs"
    rw [decide_eq_true rfl]
    exact q _ (S9.trans S10)
  · have tl : top < t := by
      apply Decidable.byContradiction
      intro h
      exact no ((htop t t1').mp (by omega))
    have S13 := S12.trans S3
    walk_at "xs"
    rw [decide_eq_true tl]
    have sR : SeqAt.shaped (.str "not legal") = true := by
      have c : PyData.strOk (Str.ofString "not legal") = true := by decide +kernel
      simp [SeqAt.shaped, PyData.canLay0, PyData.depth]
      exact c
    walk_at "xs"
    refine x_eqDn (M := []) (N := []) (.str _) (.str _) sR sR ?_
    rw [SeqAt.eqv_refl _ (SeqAt.canLay_of_shaped sR)]
    walk_at "xs"
    intro l2 hl2
    have S4 := same_upd hl2 (o := .lst [.ref g, .ref p])
    have el2 := upd_same (H := H3) (a := l2) (o := .lst [.ref g, .ref p])
    walk_at "xs"
    refine x_repr (dlb (S13.trans S4) el2) sh ?_
    walk_at "xs"
    rw [decide_eq_true rfl]
    exact q _ (S13.trans S4)
end
/-! ### leads after a switch -/
theorem mvL_off {rs : List PyData} {ls : List Int} {n i j t : Int} {k k' : Nat} {a b c : Int} (hb : bundlesD (.list rs) n = true) (n1 : n ≤ 10) (same : ls.length = rs.length) (hk : rs[k]? = some (tupD [a, b, c])) (m : (i = a ∧ j = b) ∨ (i = b ∧ j = a)) (ne : k ≠ k') : (mvL rs ls i j t)[k']? = ls[k']? := by
  have lk := (List.getElem?_eq_some_iff.mp hk).1
  rw [mvL_set hb n1 same hk m (List.getElem?_eq_getElem (show k < ls.length by omega)), List.getElem?_set, if_neg ne]
theorem ledS_mv {rs : List PyData} {ls : List Int} {n i j : Int} (hb : bundlesD (.list rs) n = true) (n1 : n ≤ 10) (same : ls.length = rs.length) (pin : pairIn rs i j) (nij : i ≠ j) (x y : Int) :
    ledS rs (mvL rs ls i j 1) x y (mvL rs ls i j 1).length = ledS rs ls x y ls.length + (if x = i ∧ y = j then -1 else if x = j ∧ y = i then 1 else 0) := by
  obtain ⟨k, a, b, c, hk, m⟩ := pin
  have lk := (List.getElem?_eq_some_iff.mp hk).1
  have hl : ls[k]? = some ls[k] := List.getElem?_eq_getElem (by omega)
  have hset := mvL_set (t := 1) hb n1 same hk m hl
  have sm : (mvL rs ls i j 1).length = rs.length := mvL_len same
  have hl' : (mvL rs ls i j 1)[k]? = some (if i < j then ls[k] - 1 else ls[k] + 1) := by rw [hset, List.getElem?_set, if_pos rfl, if_pos (by omega)]
  obtain ⟨a3, b3, c3, hr3, _, ab3, _⟩ := rows_at hb n1 lk
  rw [hk] at hr3
  have hr3 : tupD [a, b, c] = tupD [a3, b3, c3] := Option.some.inj hr3
  cases hr3
  have il := ledS_is (i := x) (j := y) hb n1 same
  have il' := ledS_is (i := x) (j := y) hb n1 sm
  generalize ledS rs ls x y ls.length = v at *
  generalize ledS rs (mvL rs ls i j 1) x y (mvL rs ls i j 1).length = v' at *
  generalize ls[k] = l at *
  rcases il with ⟨k', a', b', c', l', h1, h2, h3⟩ | ⟨no, rfl⟩
  · have mm : (x = a' ∧ y = b') ∨ (x = b' ∧ y = a') := by omega
    by_cases e : k = k'
    · subst e
      rw [hk] at h1
      have h1 : tupD [a, b, c] = tupD [a', b', c'] := Option.some.inj h1
      cases h1
      rw [hl] at h2
      cases h2
      have key : LedIs rs (mvL rs ls i j 1) x y (v + (if x = i ∧ y = j then -1 else if x = j ∧ y = i then 1 else 0)) := by
        refine .inl ⟨k, a, b, c, _, hk, hl', ?_⟩
        rcases m with m | m
        · rw [if_pos (show i < j by omega)]
          rcases h3 with h3 | h3
          · rw [if_pos (show x = i ∧ y = j by omega)]; exact .inl ⟨h3.1, h3.2.1, by omega⟩
          · rw [if_neg (show ¬ (x = i ∧ y = j) by omega), if_pos (show x = j ∧ y = i by omega)]; exact .inr ⟨h3.1, h3.2.1, by omega⟩
        · rw [if_neg (show ¬ i < j by omega)]
          rcases h3 with h3 | h3
          · rw [if_neg (show ¬ (x = i ∧ y = j) by omega), if_pos (show x = j ∧ y = i by omega)]; exact .inl ⟨h3.1, h3.2.1, by omega⟩
          · rw [if_pos (show x = i ∧ y = j by omega)]; exact .inr ⟨h3.1, h3.2.1, by omega⟩
      exact LedIs.one hb n1 il' key
    · have e1 : ¬ (x = i ∧ y = j) := fun h => e (pair_row hb n1 hk h1 m (by omega))
      have e2 : ¬ (x = j ∧ y = i) := fun h => e (pair_row hb n1 hk h1 m (by omega))
      rw [if_neg e1, if_neg e2]
      have key : LedIs rs (mvL rs ls i j 1) x y v := .inl ⟨k', a', b', c', l', h1, by rw [mvL_off hb n1 same hk m e]; exact h2, h3⟩
      rw [LedIs.one hb n1 il' key]; omega
  · have e1 := no k a b c hk
    rw [if_neg (by omega), if_neg (by omega)]
    have key : LedIs rs (mvL rs ls i j 1) x y 0 := .inr ⟨no, rfl⟩
    rw [LedIs.one hb n1 il' key]; rfl
theorem ld_mv {rs : List PyData} {ls : List Int} {n i j x : Int} (hb : bundlesD (.list rs) n = true) (n1 : n ≤ 10) (same : ls.length = rs.length) (pin : pairIn rs i j) (nij : i ≠ j) (i0 : 0 ≤ i) (i1 : i < n) (j0 : 0 ≤ j) (j1 : j < n) (x0 : 0 ≤ x) (x1 : x < n) :
    (ldOf n.toNat rs (mvL rs ls i j 1) (mvL rs ls i j 1).length).getD x.toNat 0 = (ldOf n.toNat rs ls ls.length).getD x.toNat 0 + (if x = i then -1 else if x = j then 1 else 0) := by
  have sm : (mvL rs ls i j 1).length = rs.length := mvL_len same
  rw [← led_sum hb n1 sm x0 x1 _ (Nat.le_refl _), ← led_sum hb n1 same x0 x1 _ (Nat.le_refl _)]
  have e : (fun y => ledS rs (mvL rs ls i j 1) x y (mvL rs ls i j 1).length) = fun y => ledS rs ls x y ls.length + (if x = i ∧ y = j then -1 else if x = j ∧ y = i then 1 else 0) := by
    funext y; exact ledS_mv hb n1 same pin nij x y
  rw [e, sum_add]
  congr 1
  by_cases h1 : x = i
  · rw [if_pos h1]
    have : (fun y : Int => if x = i ∧ y = j then (-1 : Int) else if x = j ∧ y = i then 1 else 0) = fun y => if y = j then -1 else 0 := by
      funext y
      by_cases h : y = j
      · rw [if_pos ⟨h1, h⟩, if_pos h]
      · rw [if_neg (by omega), if_neg (by omega), if_neg h]
    rw [this, sum_if x j _ j0, if_pos (by omega)]
  · rw [if_neg h1]
    by_cases h2 : x = j
    · rw [if_pos h2]
      have : (fun y : Int => if x = i ∧ y = j then (-1 : Int) else if x = j ∧ y = i then 1 else 0) = fun y => if y = i then 1 else 0 := by
        funext y
        rw [if_neg (by omega)]
        by_cases h : y = i
        · rw [if_pos ⟨h2, h⟩, if_pos h]
        · rw [if_neg (by omega), if_neg h]
      rw [this, sum_if x i _ i0, if_pos (by omega)]
    · rw [if_neg h2]
      have : (fun y : Int => if x = i ∧ y = j then (-1 : Int) else if x = j ∧ y = i then 1 else 0) = fun _ => 0 := by
        funext y
        rw [if_neg (by omega), if_neg (by omega)]
      rw [this, sum_zero]
theorem led_nn {rs : List PyData} {ls : List Int} {i j v : Int} (ok : LeadsOk rs ls) (h : LedIs rs ls i j v) : 0 ≤ v := by
  rcases h with ⟨k, a, b, c, l, h1, h2, h3⟩ | ⟨_, rfl⟩
  · obtain ⟨l0, l1⟩ := ok.2 k l _ h2 h1
    have l1 : l ≤ c := l1
    omega
  · exact Int.le_refl 0
/-! ### leads after one of each was handed; a way turned round -/
theorem due_ld {ds rs : List PyData} {ls bs : List Int} (wd : Wd ds rs ls) (hin : ∀ p ∈ pairsOf bs, (0 ≤ p.1 ∧ p.1 < (ds.length : Int)) ∧ (0 ≤ p.2 ∧ p.2 < (ds.length : Int)) ∧ p.1 ≠ p.2) (pin : ∀ p ∈ pairsOf bs, pairIn rs p.1 p.2) {x : Int} (x0 : 0 ≤ x) (x1 : x < ds.length) : ∀ j, j ≤ (pairsOf bs).length →
    (ldOf ds.length rs (dueL rs ls ((pairsOf bs).take j) 1) (dueL rs ls ((pairsOf bs).take j) 1).length).getD x.toNat 0 = (ldOf ds.length rs ls ls.length).getD x.toNat 0 + (((pairsOf bs).take j).map (gi x)).sum
  | 0, _ => by
    rw [List.take_zero, show dueL rs ls [] 1 = ls from rfl]
    simp
  | j + 1, hj => by
    have n10 := bounds_len wd.b1
    have ih := due_ld wd hin pin x0 x1 j (by omega)
    obtain ⟨p, hp⟩ : ∃ p, (pairsOf bs)[j]? = some p := ⟨_, List.getElem?_eq_getElem (by omega)⟩
    have mp := List.mem_of_getElem? hp
    obtain ⟨⟨a0, a1⟩, ⟨b0, b1⟩, ne⟩ := hin p mp
    have := ld_mv (n := ds.length) wd.b2 (by omega) (due_len (ps := (pairsOf bs).take j) (t := 1) wd.lo.1) (pin p mp) ne a0 a1 b0 b1 x0 x1
    rw [Int.toNat_natCast] at this
    rw [due_next hp, this, ih, List.take_add_one, hp, List.map_append, List.sum_append]
    show _ + _ + _ = _ + (_ + (gi x p + 0))
    have e : (if x = p.1 then (-1 : Int) else if x = p.2 then 1 else 0) = gi x p := by
      unfold gi
      by_cases h1 : x = p.1
      · rw [if_pos h1, if_pos h1, if_neg (fun h => ne (h1.symm.trans h))]
        omega
      · rw [if_neg h1, if_neg h1]
        omega
    omega
theorem later_wd {ds rs : List PyData} {ls bs : List Int} {b0 bl : Int} (wd : Wd ds rs ls) (pa : PathIn rs ds.length bs) (h0 : bs.head? = some b0) (hl : bs.getLast? = some bl) (m : 2 ≤ bs.length) (ok : AlOk ds rs ls bs b0 bl 1) : Wd ds rs (dueL rs ls (pairsOf bs) 1) := by
  have n10 := bounds_len wd.b1
  have nd := pa.nd
  have hin := pa.in_ wd.b2 (by omega)
  have lld := ld_len ds.length rs ls ls.length
  have ne := bl_ne nd h0 hl m
  refine ⟨wd.b1, wd.b2, ⟨due_len wd.lo.1, fun k l' r hl' hr => ?_⟩, fun j lo up hv hrow hh => ?_⟩
  · have lk := (List.getElem?_eq_some_iff.mp hr).1
    obtain ⟨l, hl0⟩ : ∃ l, ls[k]? = some l := ⟨_, List.getElem?_eq_getElem (by have := wd.lo.1; omega)⟩
    rw [due_at hr hl0] at hl'
    have e := (Option.some.inj hl').symm
    rw [Int.one_mul] at e
    obtain ⟨g1, g2⟩ := wd.lo.2 k l r hl0 hr
    obtain ⟨a', b', c', hr3, _, ab3, _⟩ := rows_at wd.b2 (by omega) lk
    rw [hr] at hr3
    have hr3 : r = tupD [a', b', c'] := Option.some.inj hr3
    subst hr3
    have g2 : l ≤ c' := g2
    show 0 ≤ l' ∧ l' ≤ c'
    have df : ∀ p : Int × Int, dl (tupD [a', b', c']) p = if a' = p.1 ∧ b' = p.2 then -1 else if a' = p.2 ∧ b' = p.1 then 1 else 0 := fun p => rfl
    by_cases hz : ∃ p ∈ pairsOf bs, (p.1 = a' ∧ p.2 = b') ∨ (p.1 = b' ∧ p.2 = a')
    · obtain ⟨p, hp, hab⟩ := hz
      have one : ((pairsOf bs).map (dl (tupD [a', b', c']))).sum = dl (tupD [a', b', c']) p := sum_one (pr_nodup nd) hp (fun q hq nq => by
        have n1 := pr_swap nd hq hp
        have n2 : ¬ (q.1 = p.1 ∧ q.2 = p.2) := fun e => nq (Prod.ext e.1 e.2)
        rw [df, if_neg (by omega), if_neg (by omega)])
      rw [one, df] at e
      obtain ⟨_, _, v, lv, tv⟩ := ok.1 p hp
      rcases lv with ⟨k2, a2, b2, c2, l2, hr2, hl2, hv⟩ | ⟨no, _⟩
      · obtain rfl := pair_row wd.b2 (by omega) hr hr2 hab (by omega)
        rw [hr] at hr2
        have hr2 : tupD [a', b', c'] = tupD [a2, b2, c2] := Option.some.inj hr2
        cases hr2
        rw [hl0] at hl2
        cases hl2
        rcases hab with ⟨e1, e2⟩ | ⟨e1, e2⟩
        · rw [if_pos ⟨e1.symm, e2.symm⟩] at e
          omega
        · rw [if_neg (by omega), if_pos ⟨e2.symm, e1.symm⟩] at e
          omega
      · have := no k a' b' c' hr
        omega
    · have z : ∀ p ∈ pairsOf bs, dl (tupD [a', b', c']) p = 0 := fun p hp => by
        have : ¬ ((p.1 = a' ∧ p.2 = b') ∨ (p.1 = b' ∧ p.2 = a')) := fun h => hz ⟨p, hp, h⟩
        rw [df, if_neg (by omega), if_neg (by omega)]
      have z1 := sum_nn (f := dl (tupD [a', b', c'])) (l := pairsOf bs) (fun p' h => by rw [z p' h]; omega)
      have z2 := sum_np (f := dl (tupD [a', b', c'])) (l := pairsOf bs) (fun p' h => by rw [z p' h]; omega)
      omega
  · have jl : j < ds.length := (List.getElem?_eq_some_iff.mp hrow).1
    have pin : ∀ p ∈ pairsOf bs, pairIn rs p.1 p.2 := fun p hp => by
      obtain ⟨k, a, b, c, hr, hab⟩ := bpr_mem.mp (pa.prs p hp)
      exact ⟨k, a, b, c, hr, hab⟩
    have := due_ld wd hin pin (x := (j : Nat)) (by omega) (by omega) (pairsOf bs).length (Nat.le_refl _)
    rw [List.take_length, tele _ h0 hl, Int.toNat_natCast, List.getD_eq_getElem?_getD, hh] at this
    have this : hv = (ldOf ds.length rs ls ls.length).getD j 0 + ((if ((j : Nat) : Int) = bl then 1 else 0) - (if ((j : Nat) : Int) = b0 then 1 else 0)) := this
    have hg : (ldOf ds.length rs ls ls.length)[j]? = some ((ldOf ds.length rs ls ls.length).getD j 0) := by
      rw [List.getD_eq_getElem?_getD, List.getElem?_eq_getElem (by omega)]; rfl
    obtain ⟨o1, o2⟩ := wd.ok j lo up _ hrow hg
    have k1 := ok.2.1
    have k2 := ok.2.2
    have f0 : (ds.map floD).getD j 0 = lo := by rw [List.getD_eq_getElem?_getD, List.getElem?_map, hrow]; rfl
    have f1 : (ds.map ceiD).getD j 0 = up := by rw [List.getD_eq_getElem?_getD, List.getElem?_map, hrow]; rfl
    by_cases c1 : ((j : Nat) : Int) = b0
    · rw [← c1, Int.toNat_natCast, f0] at k1
      rw [if_neg (fun h => ne (c1.symm.trans h)), if_pos c1] at this
      omega
    · rw [if_neg c1] at this
      by_cases c2 : ((j : Nat) : Int) = bl
      · rw [← c2, Int.toNat_natCast, f1] at k2
        rw [if_pos c2] at this
        omega
      · rw [if_neg c2] at this
        omega
theorem rev_pr {bs : List Int} {p : Int × Int} (h : p ∈ pairsOf bs.reverse) : (p.2, p.1) ∈ pairsOf bs := by
  obtain ⟨i, h1, h2⟩ := pr_mem h
  have lt := (List.getElem?_eq_some_iff.mp h2).1
  rw [List.length_reverse] at lt
  rw [List.getElem?_reverse (by omega)] at h1 h2
  refine List.mem_of_getElem? (i := bs.length - 1 - (i + 1)) ((pr_at (p := (p.2, p.1))).mpr ⟨h2, ?_⟩)
  rw [show bs.length - 1 - (i + 1) + 1 = bs.length - 1 - i by omega]
  exact h1
theorem PathIn.rev {rs : List PyData} {n : Int} {bs : List Int} (h : PathIn rs n bs) : PathIn rs n bs.reverse := by
  refine ⟨(List.reverse_perm bs).nodup_iff.mpr h.nd, fun p hp => ?_, fun x hx => h.rng x (List.mem_reverse.mp hx)⟩
  obtain ⟨k, a, b, c, hr, hab⟩ := bpr_mem.mp (h.prs _ (rev_pr hp))
  refine bpr_mem.mpr ⟨k, a, b, c, hr, ?_⟩
  rcases hab with ⟨e1, e2⟩ | ⟨e1, e2⟩
  · exact .inr ⟨e2, e1⟩
  · exact .inl ⟨e2, e1⟩
/-! ### the last bound, lifted -/
def liftD (ds : List PyData) (lo : Int) : List PyData := ds.set (ds.length - 1) (tupD [lo, 1000000000000000000000000000000])
theorem lift_len (ds : List PyData) (lo : Int) : (liftD ds lo).length = ds.length := List.length_set
theorem lift_last {ds : List PyData} (h : boundsD (.list ds) = true) : ∃ lo up : Int, ds[ds.length - 1]? = some (tupD [lo, up]) ∧ 0 ≤ lo ∧ lo ≤ up ∧ up ≤ 1000000000000000000000000000000 := by
  have h0 : ((decide (2 ≤ (ds.length : Int)) && decide ((ds.length : Int) ≤ 10)) && (ds.map boundD).all id) = true := h
  rw [Bool.and_eq_true, Bool.and_eq_true, decide_eq_true_eq] at h0
  have l : ds.length - 1 < ds.length := by omega
  obtain ⟨x, y, e, a, b, c⟩ := bound_row (bounds_all h ds[ds.length - 1] (List.getElem_mem l))
  exact ⟨x, y, by rw [List.getElem?_eq_getElem l, e], a, b, by rw [show (1000000000000000000000000000000 : Int) = 10 ^ 30 from by decide]; exact c⟩
theorem lift_bounds {ds : List PyData} {lo up : Int} (h : boundsD (.list ds) = true) (l0 : 0 ≤ lo) (l1 : lo ≤ up) (l2 : up ≤ 1000000000000000000000000000000) : boundsD (.list (liftD ds lo)) = true := by
  have h0 : ((decide (2 ≤ (ds.length : Int)) && decide ((ds.length : Int) ≤ 10)) && (ds.map boundD).all id) = true := h
  show ((decide (2 ≤ ((liftD ds lo).length : Int)) && decide (((liftD ds lo).length : Int) ≤ 10)) && ((liftD ds lo).map boundD).all id) = true
  rw [lift_len]
  rw [Bool.and_eq_true] at h0 ⊢
  refine ⟨h0.1, ?_⟩
  rw [List.all_eq_true]
  intro v hv
  obtain ⟨d, hd, rfl⟩ := List.mem_map.mp hv
  rcases List.mem_or_eq_of_mem_set hd with hd | rfl
  · exact bounds_all h d hd
  · have e30 : (10 : Int) ^ 30 = 1000000000000000000000000000000 := by decide
    show ((decide ((0 : Int) ≤ lo) && decide (lo ≤ 10 ^ 30)) && (decide (lo ≤ 1000000000000000000000000000000) && decide ((1000000000000000000000000000000 : Int) ≤ 10 ^ 30))) = true
    rw [e30]
    simp only [Bool.and_eq_true, decide_eq_true_eq]
    omega
theorem lift_ok {ds : List PyData} {hs : List Int} {lo up : Int} {k : Nat} (e : ds[ds.length - 1]? = some (tupD [lo, up])) (u : up ≤ 1000000000000000000000000000000) (h : OkAt ds hs k) : OkAt (liftD ds lo) hs k := by
  intro lo' up' x e1 e2
  by_cases ek : ds.length - 1 = k
  · subst ek
    have l := (List.getElem?_eq_some_iff.mp e).1
    have e1 : (ds.set (ds.length - 1) (tupD [lo, 1000000000000000000000000000000]))[ds.length - 1]? = some (tupD [lo', up']) := e1
    rw [List.getElem?_set, if_pos rfl, if_pos l] at e1
    have e1 : tupD [lo, 1000000000000000000000000000000] = tupD [lo', up'] := Option.some.inj e1
    cases e1
    have := h lo up x e e2
    omega
  · have e1 : (ds.set (ds.length - 1) (tupD [lo, 1000000000000000000000000000000]))[k]? = some (tupD [lo', up']) := e1
    rw [List.getElem?_set, if_neg ek] at e1
    exact h lo' up' x e1 e2
theorem DnAll.far {M : List Addr} {H : Hp} {f : Addr} {ys : List V} (hf : H f = some (.lst ys)) : ∀ {xs : List V} {ds : List PyData}, DnAll M H xs ds → (∀ u ∈ ds, ∃ k, u = tupD k) → DnAll (f :: M) H xs ds
  | _, _, .nil, _ => .nil
  | _, _, .cons (v := v) (d := d) h1 h2, t => by
    refine .cons ?_ (DnAll.far hf h2 fun u hu => t u (List.mem_cons_of_mem _ hu))
    obtain ⟨k, rfl⟩ := t d (List.mem_cons_self ..)
    cases h1 with
    | tup e n A =>
      obtain rfl := DnAll.toInts A
      refine .tup e (fun m => ?_) (DnAll.ints k)
      rcases List.mem_cons.mp m with rfl | m
      · rw [hf] at e; cases e
      · exact n m
theorem DnAll.set {M : List Addr} {H : Hp} {v : V} {d : PyData} (hd : Dn M H v d) : ∀ {xs : List V} {ds : List PyData} (i : Nat), DnAll M H xs ds → DnAll M H (xs.set i v) (ds.set i d)
  | _, _, _, .nil => .nil
  | _, _, 0, .cons _ b => .cons hd b
  | _, _, i + 1, .cons a b => .cons a (DnAll.set hd i b)
theorem ixN_neg1 {n : Nat} (h : 0 < n) : ixN n (-1) = some (n - 1) := by
  unfold ixN
  rw [if_neg (by decide), if_pos (by omega)]
  congr 1
  omega
theorem lift_heap {b c f1 f2 f3 t : Addr} {H : Hp} {ds rs : List PyData} {ls : List Int} {xs : List V} {lo : Int} (hB : Bag H b c) (d1 : Dn [b] H (.ref f1) (.list ds)) (d2 : Dn [b] H (.ref f2) (.list rs)) (e3 : H f3 = some (.tup (ls.map V.int)))
    (hb1 : boundsD (.list ds) = true) (hb2 : bundlesD (.list rs) ds.length = true) (pos : 0 < rs.length) (e1 : H f1 = some (.lst xs)) (ht : H t = some (.tup [.int lo, .int 1000000000000000000000000000000])) (nt : t ∉ [b]) :
    Bag (upd H f1 (.lst (xs.set (xs.length - 1) (.ref t)))) b c ∧ Dn [b] (upd H f1 (.lst (xs.set (xs.length - 1) (.ref t)))) (.ref f1) (.list (liftD ds lo)) ∧ Dn [b] (upd H f1 (.lst (xs.set (xs.length - 1) (.ref t)))) (.ref f2) (.list rs) ∧
      (upd H f1 (.lst (xs.set (xs.length - 1) (.ref t)))) f3 = some (.tup (ls.map V.int)) := by
  have n10 := bounds_len hb1
  have n10' : (ds.length : Int) ≤ 10 := by omega
  have h0 : ((decide (2 ≤ (ds.length : Int)) && decide ((ds.length : Int) ≤ 10)) && (ds.map boundD).all id) = true := hb1
  rw [Bool.and_eq_true, Bool.and_eq_true, decide_eq_true_eq] at h0
  cases d1 with
  | @lst _ xs1 _ eb1 mb1 A1 =>
  rw [e1] at eb1
  cases eb1
  have l1 := A1.length
  have hx0 : xs[0]? = some xs[0] := List.getElem?_eq_getElem (by omega)
  obtain ⟨y0, hy0, dy0⟩ := A1.get hx0
  obtain ⟨p, q, rfl, _⟩ := bound_row (bounds_all hb1 y0 (List.mem_of_getElem? hy0))
  obtain ⟨r, er, hr⟩ : ∃ r, xs[0] = .ref r ∧ H r = some (.tup [.int p, .int q]) := by
    generalize xs[0] = z at dy0
    cases dy0 with
    | tup e n A =>
      obtain rfl := DnAll.toInts (ms := [p, q]) A
      exact ⟨_, rfl, e⟩
  cases d2 with
  | @lst _ xs2 _ eb2 mb2 A2 =>
  have f12 : f2 ≠ f1 := by
    rintro rfl
    rw [e1] at eb2
    cases eb2
    obtain ⟨z0, hz0, dz0⟩ := A2.get hx0
    obtain ⟨a', b', c', hr', _⟩ := rows_at hb2 n10' (m := 0) pos
    rw [hr'] at hz0
    cases hz0
    rw [er] at dz0
    obtain ⟨r', er', _, hr2⟩ := Dn.tup3 (a := a') (b := b') (c := c') dz0
    cases er'
    rw [hr] at hr2
    cases hr2
  have X : Ext [f1] H (upd H f1 (.lst (xs.set (xs.length - 1) (.ref t)))) := Ext.upd (by simp)
  have X1 : Ext [f1, b] H (upd H f1 (.lst (xs.set (xs.length - 1) (.ref t)))) := Ext.upd (by simp)
  have B1 := A1.far e1 (bounds_tups hb1)
  have B2 := A2.far e1 (bundles_tups hb2)
  have tf : t ≠ f1 := fun e => by rw [e, e1] at ht; cases ht
  refine ⟨?_, ?_, ?_, ?_⟩
  · obtain ⟨x, y, k, cs, g1, g2, g3⟩ := hB
    have bf : b ≠ f1 := fun e => mb1 (by simp [e])
    have cf : c ≠ f1 := fun e => by
      rw [e, e1] at g2
      obtain rfl : xs = cs.map V.int := HO.lst.inj (Option.some.inj g2)
      have : (cs.map V.int)[0]? = some (.ref r) := by rw [hx0, er]
      rw [List.getElem?_map] at this
      cases h : cs[0]? with
      | none => rw [h] at this; cases this
      | some v => rw [h] at this; cases this
    exact ⟨x, y, k, cs, by rw [upd_ne bf]; exact g1, by rw [upd_ne cf]; exact g2, g3⟩
  · refine .lst upd_same mb1 ?_
    have D : Dn [b] (upd H f1 (.lst (xs.set (xs.length - 1) (.ref t)))) (.ref t) (tupD [lo, 1000000000000000000000000000000]) := .tup (by rw [upd_ne tf]; exact ht) nt (DnAll.ints [lo, 1000000000000000000000000000000])
    have := DnAll.set D (xs.length - 1) ((B1.ext X1).sub (fun a h => List.mem_cons_of_mem _ h))
    unfold liftD
    rw [← l1]
    exact this
  · exact .lst (by rw [upd_ne f12]; exact eb2) mb2 ((B2.ext X1).sub (fun a h => List.mem_cons_of_mem _ h))
  · rw [upd_ne (fun e => by rw [e, e1] at e3; cases e3)]
    exact e3
theorem Dn.duo {M : List Addr} {H : Hp} {v : V} {a b : Int} (h : Dn M H v (tupD [a, b])) : ∃ p, v = .ref p ∧ p ∉ M ∧ H p = some (.tup [.int a, .int b]) := by
  cases h with
  | tup h1 h2 h3 =>
    obtain rfl := DnAll.toInts (ms := [a, b]) h3
    exact ⟨_, rfl, h2, h1⟩

/-! ### the law -/
theorem x_join {b : Bool} {A : TS} {D : Ends} {σ : L2.St} {H : Hp} (R : Hp → Prop) (rest : ∀ H', R H' → D.nx σ H') (h1 : b = true → (∀ H', R H' → D.nx σ H') → A D σ H) (h2 : b = false → R H) : if b = true then A D σ H else tNext D σ H := by
  cases b with
  | true => exact h1 rfl rest
  | false => exact rest _ (h2 rfl)
/-- what a turn starts from -/
structure Wn (b c f1 f2 f3 : Addr) (ds rs : List PyData) (ls : List Int) (H : Hp) : Prop where
  bag : Bag H b c
  d1 : Dn [b] H (.ref f1) (.list ds)
  d2 : Dn [b] H (.ref f2) (.list rs)
  e3 : H f3 = some (.tup (ls.map V.int))
  n3 : f3 ∉ [b]
  wd : Wd ds rs ls
  pos : 0 < rs.length
theorem Wn.ext {b c f1 f2 f3 : Addr} {ds rs : List PyData} {ls : List Int} {H H' : Hp} (w : Wn b c f1 f2 f3 ds rs ls H) (E : Ext [b] H H') (B : Bag H' b c) : Wn b c f1 f2 f3 ds rs ls H' := ⟨B, w.d1.ext E, w.d2.ext E, E _ _ w.n3 w.e3, w.n3, w.wd, w.pos⟩
def spLaw (K : PySem.W.Frag) : Sp := fun vs H Q _ => ∃ (a : Addr) (ns : List Int), vs = [.ref a] ∧ SqL K H a (ns.map V.int) ∧ ∀ H', Q (.bl true) H'
theorem x_bag {K : PySem.W.Frag} {H : Hp} {Q : VK} {E : XK} {a : Addr} {ns : List Int} (ha : SqL K H a (ns.map V.int)) (h : ∀ H' b c, Same H H' → H b = none → Bag H' b c → Q (.ref b) H') : spBag K [.ref a] H Q E := ⟨a, ns, rfl, ha, h⟩
theorem x_brokL {H : Hp} {Q : VK} {E : XK} {b c u g : Addr} {rs : List PyData} {ls : List Int} {n : Int} (hB : Bag H b c) (hu : Dn [b] H (.ref u) (.list rs)) (hb : bundlesD (.list rs) n = true) (n1 : n ≤ 10) (pos : 0 < rs.length) (hg : H g = some (.tup (ls.map V.int))) (ng : g ∉ [b]) (same : ls.length = rs.length)
    (h : ∀ H' f bs, Ext [b] H H' → Bag H' b c → H f = none → H' f = some (.lst (bs.map V.int)) → PathIn rs n bs → bs.length ≤ 10 → 1 ≤ bs.length → Q (.ref f) H') : spBrokL [.ref b, .ref u, .ref g] H Q E := ⟨b, c, u, g, rs, ls, n, rfl, hB, hu, hb, n1, pos, hg, ng, same, h⟩
theorem x_rightL {C : Addr} {H : Hp} {Q : VK} {E : XK} {M : List Addr} {x f1 u g p : Addr} {t : Int} {ds rs : List PyData} {ls bs : List Int} {b0 bl : Int} (cl : Clu C M H x (.list ds) (.list rs)) (hd : Dn M H (.ref f1) (.list ds)) (hu : Dn M H (.ref u) (.list rs)) (hg : H g = some (.tup (ls.map V.int))) (wd : Wd ds rs ls) (hp : H p = some (.lst (bs.map V.int)))
    (pa : PathIn rs ds.length bs) (m0 : 2 ≤ bs.length) (m1 : bs.length ≤ 10) (h0 : bs.head? = some b0) (hl : bs.getLast? = some bl) (t1 : 1 ≤ t) (t2 : t ≤ 1000000000000000000) (h : ∀ H', Same H H' → Q (.bl true) H') : spRightL C [.ref x, .ref f1, .ref u, .ref g, .ref p, .int t] H Q E :=
  ⟨M, x, f1, u, g, p, t, ds, rs, ls, bs, b0, bl, rfl, cl, hd, hu, hg, wd, hp, pa, m0, m1, h0, hl, t1, t2, h⟩
section
variable {P : Program} {w : World} {K : PySem.W.Frag} {mg : Str → Option Value} {t0 t1 t2 t3 t4 : Tok} {C : Addr}
theorem ok_law {base : Heap} (B : Bl mg) (cc : Cc K mg C) {k : Nat}
    (c_Lbag : Kn P w K mg base "_law_bag" (k + 1) (spBag K)) (c_Ltake : Kn P w K mg base "_law_take" (k + 1) spTake) (c_Lnet : Kn P w K mg base "_law_net" (k + 1) spNet) (m_init : Km P w K mg base C "__init__" k (spInit C)) (c_Lbrokers : Kn P w K mg base "_law_brokers" (k + 1) spBrokL) (c_Ltop : Kn P w K mg base "_law_top" (k + 1) spTopL) (c_Lmoved : Kn P w K mg base "_law_moved" (k + 1) spMoved) (c_Lright : Kn P w K mg base "_law_right" (k + 1) (spRightL C))
    (f : Addr) (cd : Value) (B' : Around) (fr : List Env) (z : Shared) (H : Hp) (vs : List V) (Q : VK) (E : XK)
    (hr : Room (k + 1) (B'.deeper (envOfC "law" (defScope s_law) z.heap.objs.size f cd))) (gd : (B'.deeper (envOfC "law" (defScope s_law) z.heap.objs.size f cd)).guards = some []) (h : spLaw K vs H Q E) :
    ∃ t, PSs (bodyX P w K mg base ["_law_script", "_law_bag_here", "_law_k", "_law_bounds_here", "_law_bundles_here", "_law_leads", "_law_cluster", "_law_brokers_here", "_law_top_here", "_law_times", "_law_later", "_law_one", "_law_other"] "law" s_law f cd B' fr z H E) (defBody s_law) t ∧
      t { nx := fun _ H' => Q .non H', rt := Q } (start ["_law_script", "_law_bag_here", "_law_k", "_law_bounds_here", "_law_bundles_here", "_law_leads", "_law_cluster", "_law_brokers_here", "_law_top_here", "_law_times", "_law_later", "_law_one", "_law_other"] vs) H := by
  obtain ⟨a, ns, rfl, ha, q⟩ := h
  have c_Cluster := cc.ck
  refine ⟨_, (pss_cons (ps_set (i := 1) sc_law.nd rfl (.inl rfl) (pe_own c_Lbag hr gd (by rfl) (pa_cons (pv 0) pa_nil)))
  (pss_cons (ps_for PassesOwn.never rfl (pi_range1 (by rfl) B.range (pa_cons pe_int pa_nil)) (pg_name (i := 2) sc_law.nd rfl (.inl rfl))
  (pss_cons (ps_asg (pe_own c_Lnet hr gd (by rfl) (pa_cons (pv 1) (pa_cons pe_int (pa_cons pe_bl pa_nil)))) (pg_tup (by rfl) (pgs_cons (pg_name (i := 3) sc_law.nd rfl (.inl rfl)) (pgs_cons (pg_name (i := 4) sc_law.nd rfl (.inl rfl)) (pgs_cons (pg_name (i := 5) sc_law.nd rfl (.inl rfl)) pgs_nil)))))
  (pss_cons (ps_if (pt_cmpR op_eq (pe_own c_Ltake hr gd (by rfl) (pa_cons (pv 1) (pa_cons pe_int pa_nil))) pe_int (nomark _)) (pss_one (ps_asg (pe_tup (pa_cons (pe_ix (r := rIxT K) ix_tup (pe_ix (r := rIxL K) ix_list (pv 3) (pe_un un_neg pe_int) (fun _ _ => rfl)) pe_int (fun _ _ => rfl)) (pa_cons (pe_op op_pow pe_int pe_int) pa_nil))) (pg_sub (pv 3) (pe_un un_neg pe_int) set_list))) pss_nil)
  (pss_cons (ps_set (i := 6) sc_law.nd rfl (.inl rfl) (pe_ownMk c_Cluster m_init hr gd (by rfl) (pa_cons (pv 3) (pa_cons (pv 4) pa_nil))))
  (pss_cons (ps_set (i := 7) sc_law.nd rfl (.inl rfl) (pe_own c_Lbrokers hr gd (by rfl) (pa_cons (pv 1) (pa_cons (pv 4) (pa_cons (pv 5) pa_nil)))))
  (pss_one (ps_if (pt_cmpR op_gt (pe_callB call_len_seq (by rfl) B.len (by decide +kernel) (pa_cons (pv 7) pa_nil)) pe_int (nomark _)) (pss_cons (ps_set (i := 8) sc_law.nd rfl (.inl rfl) (pe_callB (call_min2 rfl) (by rfl) B.min (by decide +kernel) (pa_cons (pe_op op_sub (pe_op op_pow pe_int pe_int) pe_int) (pa_cons (pe_own c_Ltop hr gd (by rfl) (pa_cons (pv 3) (pa_cons (pv 4) (pa_cons (pv 5) (pa_cons (pv 7) pa_nil))))) pa_nil))))
  (pss_cons (ps_set (i := 9) sc_law.nd rfl (.inl rfl) (pe_ix (r := rIxL K) ix_list (pe_lst (pa_cons pe_int (pa_cons (pe_callB (call_max2 rfl) (by rfl) B.max (by decide +kernel) (pa_cons pe_int (pa_cons (pv 8) pa_nil))) (pa_cons (pe_op op_add (pv 8) pe_int) (pa_cons (pe_op op_add pe_int (pe_own c_Ltake hr gd (by rfl) (pa_cons (pv 1) (pa_cons (pe_op op_pow pe_int pe_int) pa_nil)))) pa_nil))))) (pe_own c_Ltake hr gd (by rfl) (pa_cons (pv 1) (pa_cons pe_int pa_nil))) (fun _ _ => rfl)))
  (pss_cons (ps_if (pt_not (pt_val (pe_own c_Lright hr gd (by rfl) (pa_cons (pv 6) (pa_cons (pv 3) (pa_cons (pv 4) (pa_cons (pv 5) (pa_cons (pv 7) (pa_cons (pv 9) pa_nil))))))))) (pss_one (ps_ret pe_bl)) pss_nil)
  (pss_one (ps_if (pt_cmpR op_gt (pv 8) pe_int (nomark _)) (pss_cons (ps_set (i := 10) sc_law.nd rfl (.inl rfl) (pv 5))
  (pss_cons (ps_for PassesOwn.never rfl (pi_zip (by rfl) B.zip (pa_cons (pv 7) (pa_cons (pe_slice (r := rSlL K) sl_list (pv 7) (po_some pe_int) po_none) pa_nil))) (pg_tup (by rfl) (pgs_cons (pg_name (i := 11) sc_law.nd rfl (.inl rfl)) (pgs_cons (pg_name (i := 12) sc_law.nd rfl (.inl rfl)) pgs_nil)))
  (pss_one (ps_set (i := 10) sc_law.nd rfl (.inl rfl) (pe_own c_Lmoved hr gd (by rfl) (pa_cons (pv 4) (pa_cons (pv 10) (pa_cons (pv 11) (pa_cons (pv 12) (pa_cons pe_int pa_nil)))))))))
  (pss_cons (ps_if (pt_not (pt_val (pe_own c_Lright hr gd (by rfl) (pa_cons (pv 6) (pa_cons (pv 3) (pa_cons (pv 4) (pa_cons (pv 10) (pa_cons (pv 7) (pa_cons (pv 9) pa_nil))))))))) (pss_one (ps_ret pe_bl)) pss_nil)
  (pss_one (ps_if (pt_not (pt_val (pe_own c_Lright hr gd (by rfl) (pa_cons (pv 6) (pa_cons (pv 3) (pa_cons (pv 4) (pa_cons (pv 10) (pa_cons (pe_revL (pv 7)) (pa_cons pe_int pa_nil))))))))) (pss_one (ps_ret pe_bl)) pss_nil))))) pss_nil))))) pss_nil)))))))
  (pss_one (ps_ret pe_bl)))), ?_⟩
  have e18 : (10 : Int) ^ (18 : Int).toNat = 1000000000000000000 := by decide
  have e30 : (10 : Int) ^ (30 : Int).toNat = 1000000000000000000000000000000 := by decide
  have big : (1000000000000000000 : Nat) < 2 ^ 200 := by decide
  walk_at "xs"
  refine x_bag ha ?_
  intro H1 b c S1 nb hB
  walk_at "xs"
  refine for_range (lo := 0) (n := (8 : Int).toNat) (fun i σ' H' => ∃ y2 y3 y4 y5 y6 y7 y8 y9 y10 y11 y12, σ' = [some (.ref a), some (.ref b), y2, y3, y4, y5, y6, y7, y8, y9, y10, y11, y12] ∧ Bag H' b c) ?_ ?_ ?_
  · exact ⟨_, _, _, _, _, _, _, _, _, _, _, rfl, hB⟩
  · rintro i _ H2 hi ⟨y2, y3, y4, y5, y6, y7, y8, y9, y10, y11, y12, rfl, hB⟩
    walk_at "xs"
    refine x_net hB (by decide) (by decide) ?_
    intro H3 T f1 f2 f3 ds rs ls E3 hB eT nT d1 d2 d3 hb1 hb2 pos ok okAt
    cases d3 with
    | tup e3 n3 A3 =>
    obtain rfl := DnAll.toInts A3
    have wn : Wn b c f1 f2 f3 ds rs ls H3 := ⟨hB, d1, d2, e3, n3, ⟨hb1, hb2, ok, okAt⟩, pos⟩
    clear A3
    walk_at "xs"
    refine x_take hB (by decide) (by decide) ?_
    intro H4 v E4 B4 v0 v1
    have wn := wn.ext E4 B4
    clear d1 d2 e3 hb1 hb2 pos eT ok okAt n3
    walk_at "xs"
    refine x_join (fun H' => ∃ ds', Wn b c f1 f2 f3 ds' rs ls H') ?_ ?_ (fun _ => ⟨_, wn⟩)
    rotate_left
    · intro _ rest
      have d1 := wn.d1
      cases d1 with
      | @lst _ xs _ e1 m1 A1 =>
      have l1 := A1.length
      obtain ⟨lo, up, eL, p0, p1, p2⟩ := lift_last wn.wd.b1
      have n2 := bounds_two wn.wd.b1
      have lx : xs.length - 1 < xs.length := by omega
      obtain ⟨dR, hdR, dnR⟩ := A1.get (List.getElem?_eq_getElem lx)
      rw [l1, eL] at hdR
      cases hdR
      have ex : atI xs (-1) = some xs[xs.length - 1] := by
        unfold atI
        rw [ixN_neg1 (by omega)]
        exact List.getElem?_eq_getElem lx
      generalize xs[xs.length - 1] = u at *
      obtain ⟨q', rfl, nq, eq⟩ := dnR.duo
      walk_at "xs"
      refine x_ixL (SqL.of e1) ex ?_
      walk_at "xs"
      intro t ht
      rw [e30]
      have S5 := same_upd ht (o := .tup [.int lo, .int 1000000000000000000000000000000])
      have et := upd_same (H := H4) (a := t) (o := .tup [.int lo, .int 1000000000000000000000000000000])
      have nt : t ∉ [b] := wn.bag.nb ht
      have LH := lift_heap (lo := lo) (wn.bag.ext S5) (wn.d1.ext (Ext.same S5)) (wn.d2.ext (Ext.same S5)) (S5 _ _ wn.e3) wn.wd.b1 wn.wd.b2 wn.pos (S5 _ _ e1) et nt
      have e1' := S5 _ _ e1
      generalize upd H4 t _ = H5 at *
      walk_at "xs"
      refine x_setL e1' (ixN_neg1 (by omega)) ?_
      have wn : Wn b c f1 f2 f3 (liftD ds lo) rs ls (upd H5 f1 (.lst (xs.set (xs.length - 1) (.ref t)))) :=
        ⟨LH.1, LH.2.1, LH.2.2.1, LH.2.2.2, wn.n3, ⟨lift_bounds wn.wd.b1 p0 p1 p2, by rw [lift_len]; exact wn.wd.b2, wn.wd.lo, fun k => by
          rw [lift_len]
          exact lift_ok eL p2 (wn.wd.ok k)⟩, wn.pos⟩
      generalize upd H5 f1 _ = H6 at *
      exact rest _ ⟨_, wn⟩
    · clear wn
      rintro H5 ⟨ds, wn⟩
      have wd := wn.wd
      have n10 := bounds_len wd.b1
      walk_at "xs"
      refine x_clu2 wn.bag wn.d1 wn.d2 wd.b1 wd.b2 ?_
      intro x H6 S6 B6 hx cl
      have wn := wn.ext (Ext.same S6) B6
      clear hx S6
      walk_at "xs"
      refine x_brokL B6 wn.d2 wd.b2 (by omega) wn.pos wn.e3 wn.n3 wd.lo.1 ?_
      intro H7 F bs E7 B7 nF eF pa m1 m0
      have wn := wn.ext E7 B7
      have cl := cl.ext E7
      have nFb : F ∉ [b] := B6.nb nF
      walk_at "xs"
      refine x_ite (fun c1 => ?_) (fun c1 => ?_)
      · rw [List.length_map] at c1
        have m0 : 2 ≤ bs.length := by omega
        obtain ⟨b0, h0⟩ : ∃ b0, bs.head? = some b0 := by
          cases bs with
          | nil => simp at m0
          | cons b0 _ => exact ⟨b0, rfl⟩
        obtain ⟨bl, hl⟩ : ∃ bl, bs.getLast? = some bl := by
          cases e : bs.getLast? with
          | some x => exact ⟨x, rfl⟩
          | none =>
            rw [List.getLast?_eq_none_iff] at e
            rw [e] at m0
            simp at m0
        walk_at "xs"
        refine x_topL wn.d1 wn.d2 wn.e3 wd eF pa m0 m1 h0 hl ?_
        intro H8 top S8 top0 htop
        have B8 := B7.ext S8
        have wn := wn.ext (Ext.same S8) B8
        have cl := cl.ext (Ext.same S8)
        have eF := S8 _ _ eF
        walk_at "xs"
        obtain ⟨th, hth⟩ : ∃ th, th = (if top < 10 ^ Int.toNat 18 - 1 then top else 10 ^ Int.toNat 18 - 1) := ⟨_, rfl⟩
        rw [← hth]
        have th0 : 0 ≤ th ∧ th ≤ 999999999999999999 ∧ th ≤ top := by
          rw [hth, e18]
          split <;> omega
        clear hth
        rw [e18]
        refine x_take B8 (by decide) (by decide) ?_
        intro H9 v9 E9 B9 a9 c9
        have wn := wn.ext E9 B9
        have cl := cl.ext E9
        have eF := E9 _ _ nFb eF
        walk_at "xs"
        intro p4 hp4
        have S10 := same_upd hp4 (o := .lst [.int 1, .int (if th > 1 then th else 1), .int (th + 1), .int (1 + v9)])
        have ep4 := upd_same (H := H9) (a := p4) (o := .lst [.int 1, .int (if th > 1 then th else 1), .int (th + 1), .int (1 + v9)])
        have np4 : p4 ∉ [b] := B9.nb hp4
        have B10 := B9.ext S10
        have wn := wn.ext (Ext.same S10) B10
        have cl := cl.ext (Ext.same S10)
        have eF := S10 _ _ eF
        clear hp4
        generalize upd H9 p4 _ = H10 at *
        walk_at "xs"
        refine x_take B10 (by decide) (by decide) ?_
        intro H11 v11 E11 B11 a11 c11
        have wn := wn.ext E11 B11
        have cl := cl.ext E11
        have eF := E11 _ _ nFb eF
        have ep4 := E11 _ _ np4 ep4
        walk_at "xs"
        obtain ⟨u4, eu4, au4⟩ := ix_at ep4 a11 c11
        refine x_ixL (SqL.of ep4) au4 ?_
        obtain ⟨t, rfl, t1, t2⟩ : ∃ t, u4 = .int t ∧ 1 ≤ t ∧ t ≤ 1000000000000000000 := by
          have hm := List.mem_of_getElem? eu4
          simp only [List.mem_cons, List.not_mem_nil, or_false] at hm
          rcases hm with rfl | rfl | rfl | rfl
          · exact ⟨_, rfl, by omega, by omega⟩
          · refine ⟨_, rfl, ?_, ?_⟩ <;> split <;> omega
          · exact ⟨_, rfl, by omega, by omega⟩
          · exact ⟨_, rfl, by omega, by omega⟩
        clear eu4 au4 ep4
        walk_at "xs"
        refine x_rightL cl wn.d1 wn.d2 wn.e3 wd eF pa m0 m1 h0 hl t1 t2 ?_
        intro H12 S12
        have B12 := B11.ext S12
        have wn := wn.ext (Ext.same S12) B12
        have cl := cl.ext (Ext.same S12)
        have eF := S12 _ _ eF
        walk_at "xs"
        refine x_ite (fun c2 => ?_) (fun c2 => ?_)
        · have ok : AlOk ds rs ls bs b0 bl 1 := (htop 1 (Int.le_refl _)).mp (by omega)
          have wd2 := later_wd wd pa h0 hl m0 ok
          have cf : cutV (bs.map V.int) (some 1) none = (bs.tail).map V.int := by rw [show (1 : Int) = ((1 : Nat) : Int) from rfl, cutV_from, ← List.map_drop, List.drop_one]
          walk_at "xs"
          rw [cf]
          intro p5 hp5
          have S13 := same_upd hp5 (o := .lst (bs.tail.map V.int))
          have ep5 := upd_same (H := H12) (a := p5) (o := .lst (bs.tail.map V.int))
          have B13 := B12.ext S13
          have wn := wn.ext (Ext.same S13) B13
          have cl := cl.ext (Ext.same S13)
          have eF := S13 _ _ eF
          clear hp5
          generalize upd H12 p5 _ = H13 at *
          walk_at "xs"
          refine for_zipN (K := K) (a := F) (b := p5) (xs := bs.map V.int) (ys := bs.tail.map V.int) (fun j σ' H' => ∃ (dd : Addr) (y11 y12 : Option V), σ' = [some (.ref a), some (.ref b), some (.int (0 + (i : Int))), some (.ref f1), some (.ref f2), some (.ref f3), some (.ref x), some (.ref F), some (.int th), some (.int t), some (.ref dd), y11, y12] ∧ Same H13 H' ∧ H' dd = some (.tup ((dueL rs ls ((pairsOf bs).take j) 1).map V.int))) ?_ ?_ ?_ ?_
          · exact ⟨f3, _, _, rfl, Same.refl _, wn.e3⟩
          · rintro j _ H' ⟨_, _, _, _, S, _⟩
            exact ⟨SqL.of (S _ _ eF), SqL.of (S _ _ ep5)⟩
          · rintro j xx yy T _ H' hx hy ⟨dd, y11, y12, rfl, S, ed⟩ hT
            obtain ⟨i1, g1, rfl⟩ := int_at hx
            obtain ⟨i2, g2, rfl⟩ := int_at hy
            have hz : (pairsOf bs)[j]? = some (i1, i2) := by
              unfold pairsOf
              rw [List.getElem?_zip_eq_some]
              exact ⟨g1, g2⟩
            have ST := same_upd hT (o := .tup [.int i1, .int i2])
            have eT := upd_same (H := H') (a := T) (o := .tup [.int i1, .int i2])
            have ed := ST _ _ ed
            have S5 := S.trans ST
            generalize upd H' T _ = H5 at *
            walk_at "xs"
            refine ⟨.ref f2, dd, [b], rs, dueL rs ls ((pairsOf bs).take j) 1, ds.length, i1, i2, 1, rfl, wn.d2.ext (Ext.same S5), ed, wd.b2, by omega, due_len wd.lo.1, ?_⟩
            intro H6 f6 S6 _ e6
            walk_at "xs"
            exact ⟨f6, _, _, rfl, S5.trans S6, by rw [due_next hz]; exact e6⟩
          rintro _ H14 ⟨dd, y11, y12, rfl, S14, ed⟩
          have lp : (pairsOf bs).length = min (bs.map V.int).length (bs.tail.map V.int).length := by unfold pairsOf; rw [List.length_zip, List.length_map, List.length_map]
          rw [← lp, List.take_length] at ed
          have B14 := B13.ext S14
          have wn := wn.ext (Ext.same S14) B14
          have cl := cl.ext (Ext.same S14)
          have eF := S14 _ _ eF
          walk_at "xs"
          refine x_rightL cl wn.d1 wn.d2 ed wd2 eF pa m0 m1 h0 hl t1 t2 ?_
          intro H15 S15
          have B15 := B14.ext S15
          have wn := wn.ext (Ext.same S15) B15
          have cl := cl.ext (Ext.same S15)
          have eF := S15 _ _ eF
          have ed := S15 _ _ ed
          walk_at "xs"
          refine x_revL (SqL.of eF) ?_
          intro R hR
          have S16 := same_upd hR (o := .lst (bs.map V.int).reverse)
          have eR := upd_same (H := H15) (a := R) (o := .lst (bs.map V.int).reverse)
          rw [← List.map_reverse] at eR
          have B16 := B15.ext S16
          have wn := wn.ext (Ext.same S16) B16
          have cl := cl.ext (Ext.same S16)
          have ed := S16 _ _ ed
          clear hR
          rw [← List.map_reverse] at *
          generalize upd H15 R _ = H16 at *
          walk_at "xs"
          refine x_rightL cl wn.d1 wn.d2 ed wd2 eR pa.rev (by rw [List.length_reverse]; exact m0) (by rw [List.length_reverse]; exact m1) (b0 := bl) (bl := b0) (by rw [List.head?_reverse]; exact hl) (by rw [List.getLast?_reverse]; exact h0) (Int.le_refl _) (by decide) ?_
          intro H17 S17
          walk_at "xs"
          exact ⟨_, _, _, _, _, _, _, _, _, _, _, rfl, B16.ext S17⟩
        · walk_at "xs"
          exact ⟨_, _, _, _, _, _, _, _, _, _, _, rfl, B12⟩
      · walk_at "xs"
        exact ⟨_, _, _, _, _, _, _, _, _, _, _, rfl, B7⟩
  · rintro _ H2 ⟨y2, y3, y4, y5, y6, y7, y8, y9, y10, y11, y12, rfl, hB⟩
    walk_at "xs"
    exact q H2
end
theorem cc_mk {K : PySem.W.Frag} {h : Heap} {mg : Str → Option Value} {C : Addr} (X : K.In h) (G : h.Ns mainGlobals mg)
    (a : PySem.W.nsIn K mainGlobals "Cluster" = some (some (.ref C))) (p1 : PySem.W.plainGet K C Str.empty = true) (p2 : PySem.W.hasDictIn K C = true) (p3 : PySem.W.plainOver K C = true)
    (p4 : PySem.W.findIn K (.ref C) "__setattr__" = some (some (.builtin "object.__setattr__"))) (m : PySem.W.makesIn K C = true) (k : PySem.W.keepIn K (.ref C) = true)
    (n1 : PySem.W.findIn K (.ref C) "_bounds" = some none) (n2 : PySem.W.findIn K (.ref C) "_bundles" = some none) (n3 : PySem.W.findIn K (.ref C) "_numbers" = some none) : Cc K mg C :=
  ⟨⟨⟨p1, p2, p3, p4⟩, m, k, PySem.W.mg_of X G a⟩, n1, n2, n3⟩
theorem len1 {K : PySem.W.Frag} : ∀ vs H Q E, spLaw K vs H Q E → vs.length = (["_law_script"] : List Str).length := fun vs H Q E h => by obtain ⟨a, ns, rfl, _⟩ := h; rfl
theorem cw_mk {K : PySem.W.Frag} {h : Heap} {mg : Str → Option Value} {C : Addr} (X : K.In h) (G : h.Ns mainGlobals mg) (a : PySem.W.nsIn K mainGlobals "Walk" = some (some (.ref C))) (p1 : PySem.W.plainGet K C Str.empty = true) (p2 : PySem.W.hasDictIn K C = true) (p3 : PySem.W.plainOver K C = true)
    (p4 : PySem.W.findIn K (.ref C) "__setattr__" = some (some (.builtin "object.__setattr__"))) (m : PySem.W.makesIn K C = true) (k : PySem.W.keepIn K (.ref C) = true) (n0 : PySem.W.findIn K (.ref C) "_cluster" = some none) (n1 : PySem.W.findIn K (.ref C) "_leads" = some none) (n2 : PySem.W.findIn K (.ref C) "_loads" = some none) (n3 : PySem.W.findIn K (.ref C) "_pairs" = some none) (n4 : PySem.W.findIn K (.ref C) "_partitions" = some none) (n5 : PySem.W.findIn K (.ref C) "_floors" = some none) (n6 : PySem.W.findIn K (.ref C) "_ceilings" = some none) : Cw K mg C :=
  ⟨⟨⟨p1, p2, p3, p4⟩, m, k, PySem.W.mg_of X G a⟩, n0, n1, n2, n3, n4, n5, n6⟩
theorem kit_mk {K : PySem.W.Frag} {A C : Addr} {b : Bool} (n : (Value.ref A == Value.ref C) = false) (i : PySem.W.isClsIn K C = true) (t : PySem.W.typeIn K (.ref C) = some (.type "type")) (s : PySem.W.subIn K (.ref A) (.ref C) = some b) : PySem.W.kitOne K (.ref A) (.ref C) = some b := by
  unfold PySem.W.kitOne
  rw [if_neg (by rw [n]; decide)]
  unfold PySem.W.kitCls
  unfold PySem.W.isClsIn at i
  show (if ((PySem.W.clsIn K C).isSome && PySem.W.typeIn K (.ref C) == some (.type "type")) = true then PySem.W.subIn K (.ref A) (.ref C) else none) = some b
  rw [i, t]
  exact s
theorem kit_bt {K : PySem.W.Frag} {A : Addr} (s : PySem.W.subIn K (.ref A) (.type "ValueError") = some true) : PySem.W.kitOne K (.ref A) (.type "ValueError") = some true := by
  unfold PySem.W.kitOne
  rw [if_neg (by intro h; cases (beq_iff_eq.mp h))]
  show (if PySem.W.kitMeta "ValueError" = true then PySem.W.subIn K (.ref A) (.type "ValueError") else none) = some true
  rw [if_pos (by decide +kernel)]
  exact s
theorem xa_mk {K : PySem.W.Frag} {h : Heap} {mg : Str → Option Value} {CE CL CF CB CV : Addr} (X : K.In h) (G : h.Ns mainGlobals mg) (aE : PySem.W.nsIn K mainGlobals "LeadError" = some (some (.ref CE))) (aL : PySem.W.nsIn K mainGlobals "NotLegal" = some (some (.ref CL))) (aF : PySem.W.nsIn K mainGlobals "Frozen" = some (some (.ref CF))) (aB : PySem.W.nsIn K mainGlobals "NoBundle" = some (some (.ref CB))) (aV : PySem.W.nsIn K mainGlobals "NotValid" = some (some (.ref CV))) (hgL : PySem.W.findIn K (.ref CL) "__getattribute__" = some (some (.builtin "BaseException.__getattribute__"))) (hkL : PySem.W.findIn K (.ref CL) "__getattr__" = some none) (hsL : PySem.W.subIn K (.ref CL) (.type "BaseException") = some true) (hdL : PySem.W.hasDictIn K CL = true) (haL : PySem.W.findIn K (.ref CL) "__class__" = some (some (.builtin "object.__class__"))) (hmL : PySem.W.mroIn K CL (.type "object") = some true) (hn : PySem.W.specialIn K (.builtin "object.__class__") "__get__" = some (some (.builtin "getset_descriptor.__get__"))) (ht : PySem.W.takesIn K (.builtin "object.__class__") = some true) (bE : PySem.W.subIn K (.ref CE) (.type "BaseException") = some true) (hE : PySem.W.hasDictIn K CE = true) (tE : PySem.W.typeIn K (.ref CE) = some (.type "type")) (sLE : PySem.W.subIn K (.ref CL) (.ref CE) = some true) (tL : PySem.W.typeIn K (.ref CL) = some (.type "type")) (qL : PySem.W.excIn K CL [.type "ValueError", .type "Exception", .type "BaseException", .type "object"] "ValueError.__new__" = true) (kL : PySem.W.keepIn K (.ref CL) = true) (iF : PySem.W.isClsIn K CF = true) (tF : PySem.W.typeIn K (.ref CF) = some (.type "type")) (sLF : PySem.W.subIn K (.ref CL) (.ref CF) = some false) (nLF : (Value.ref CL == Value.ref CF) = false) (iB : PySem.W.isClsIn K CB = true) (tB : PySem.W.typeIn K (.ref CB) = some (.type "type")) (sLB : PySem.W.subIn K (.ref CL) (.ref CB) = some false) (nLB : (Value.ref CL == Value.ref CB) = false) (iV : PySem.W.isClsIn K CV = true) (tV : PySem.W.typeIn K (.ref CV) = some (.type "type")) (sLV : PySem.W.subIn K (.ref CL) (.ref CV) = some false) (nLV : (Value.ref CL == Value.ref CV) = false) : Xa K mg CE CL CF CB CV :=
  ⟨PySem.W.mg_of X G aE, PySem.W.mg_of X G aL, PySem.W.mg_of X G aF, PySem.W.mg_of X G aB, PySem.W.mg_of X G aV, ⟨hgL, hkL, hsL, hdL, haL, hn, ht, hmL⟩, PySem.W.exm_ref bE hE tE sLE,
    (by simp only [PySem.W.kitAny, kit_mk nLF iF tF sLF, kit_mk nLB iB tB sLB, kit_mk nLV iV tV sLV]), ⟨qL, PySem.W.mg_of X G aL, kL, hsL, tL⟩⟩
theorem all_mk {P : Program} {w : World} {K : PySem.W.Frag} {mg : Str → Option Value} {fa C CE CL CF CB CV CWk : Addr} {t0 t1 t2 t3 t4 : Tok} (hfa : mg "law" = some (.ref fa)) (cc : Cc K mg C) (xa : Xa K mg CE CL CF CB CV) (cw : Cw K mg CWk) (w_init : Dm K CWk "__init__" "Walk.__init__" s_Walk_init) (w_leads : Dm K CWk "leads" "Walk.leads" s_Walk_leads) (w_do : Dm K CWk "do" "Walk.do" s_Walk_do) (w_turn : Dm K CWk "_turn" "Walk._turn" s_Walkturn)
    (m_init : Dm K C "__init__" "Cluster.__init__" s_Cluster_init) (m_keep : Dm K C "_keep" "Cluster._keep" s_Clusterkeep) (m_size : Dm K C "size" "Cluster.size" s_Cluster_size) (m_bundles : Dm K C "bundles" "Cluster.bundles" s_Cluster_bundles) (m_bounds : Dm K C "bounds" "Cluster.bounds" s_Cluster_bounds) (m_floor : Dm K C "floor" "Cluster.floor" s_Cluster_floor) (m_ceiling : Dm K C "ceiling" "Cluster.ceiling" s_Cluster_ceiling) (m_is_rigid : Dm K C "is_rigid" "Cluster.is_rigid" s_Cluster_is_rigid) (m_bundle_of : Dm K C "bundle_of" "Cluster.bundle_of" s_Cluster_bundle_of) (m_pairs : Dm K C "pairs" "Cluster.pairs" s_Cluster_pairs)
    (d_is_integer : Df K mg "is_integer" s_is_integer) (d_is_amount : Df K mg "is_amount" s_is_amount) (d_is_count : Df K mg "is_count" s_is_count) (d_is_broker : Df K mg "is_broker" s_is_broker) (d__is_bound : Df K mg "_is_bound" s__is_bound) (d_are_bounds : Df K mg "are_bounds" s_are_bounds) (d__is_bundle : Df K mg "_is_bundle" s__is_bundle) (d_are_bundles : Df K mg "are_bundles" s_are_bundles) (d_led : Df K mg "led" s_led) (d_loads : Df K mg "loads" s_loads) (d_way_pairs : Df K mg "way_pairs" s_way_pairs) (d_takers : Df K mg "takers" s_takers) (d__free : Df K mg "_free" s__free) (d_way_block : Df K mg "way_block" s_way_block) (d__runs : Df K mg "_runs" s__runs) (d_along : Df K mg "along" s_along) (d__can_hand : Df K mg "_can_hand" s__can_hand) (d_is_plan : Df K mg "is_plan" s_is_plan) (d_is_plan_of : Df K mg "is_plan_of" s_is_plan_of) (d__are_runs : Df K mg "_are_runs" s__are_runs) (d_length : Df K mg "length" s_length) (d_play : Df K mg "play" s_play) (d__first_stop : Df K mg "_first_stop" s__first_stop) (d_Lbag : Df K mg "_law_bag" s_Lbag) (d_Ltake : Df K mg "_law_take" s_Ltake) (d_Lalike : Df K mg "_law_alike" s_Lalike) (d_Lamount : Df K mg "_law_amount" s_Lamount) (d_Lbundles : Df K mg "_law_bundles" s_Lbundles) (d_Lloads : Df K mg "_law_loads" s_Lloads) (d_Lbounds : Df K mg "_law_bounds" s_Lbounds) (d_Lnet : Df K mg "_law_net" s_Lnet) (d_Lled : Df K mg "_law_led" s_Lled) (d_Lpairs : Df K mg "_law_pairs" s_Lpairs) (d_Lmoved : Df K mg "_law_moved" s_Lmoved) (d_Lpath : Df K mg "_law_path" s_Lpath) (d_Ltold : Df K mg "_law_told" s_Ltold) (d_Ltop : Df K mg "_law_top" s_Ltop) (d_Lbrokers : Df K mg "_law_brokers" s_Lbrokers) (d_Lright : Df K mg "_law_right" s_Lright) (d_law : Df K mg "law" s_law)
    (B : Bl mg) (CS : Cs mg t0 t1 t2 t3 t4) :
    ∃ fd : FuncData, (∀ (s : Shared) (u : Value), BindsTo s fd ⟨[u], []⟩ [("_law_script", u)]) ∧
      ∀ base : Heap, K.In base → base.Ns mainGlobals mg → (∃ o, base.get? sysModules = some o) → FnG P w K mg base (7 + 1) fa fd ["_law_script"] (spLaw K) := by
  refine law_of d_law hfa (fun _ _ _ _ _ _ us hl => match us, hl with | [_], _ => rfl) sc_law len1 (fun base sys f cd B' fr z H vs Q E hr gd h => ?_)
  have i1 : Kn P w K mg base "is_integer" 1 (sp1 isIntD) := kn_is_integer d_is_integer B
  have i2 := kn_is_amount d_is_amount B CS i1
  have i3 := kn_is_count d_is_count B CS i1
  have i4 := kn_is_broker d_is_broker B i1
  have i5 := kn__is_bound d__is_bound B i2
  have i6 := kn_are_bounds d_are_bounds B CS i5
  have i7 := kn__is_bundle d__is_bundle B i4 i3
  have i8 := kn_are_bundles d_are_bundles B CS i7
  have e1 : Km P w K mg base C "_keep" 1 (spKeep C) := km_keep m_keep B cc
  have e2 := km_init m_init B cc i6 i8 (e1.up (by decide)) trivial
  have e3 : Km P w K mg base C "size" 1 (spSize C) := km_size m_size B cc
  have e4 : Km P w K mg base C "bundles" 1 (spCopy C) := km_bundles m_bundles B cc
  have e5 : Km P w K mg base C "floor" 1 (spSide C false) := km_floor m_floor B cc
  have e6 : Km P w K mg base C "ceiling" 1 (spSide C true) := km_ceiling m_ceiling B cc
  have e7 : Km P w K mg base C "bundle_of" 1 (spOf C) := km_bundle_of m_bundle_of B cc
  have e8 : Km P w K mg base C "pairs" 1 (spPairs C) := km_pairs m_pairs B cc
  have e9 : Km P w K mg base C "bounds" 1 (spCopyB C) := km_bounds m_bounds B cc
  have e10 := km_rigid m_is_rigid B cc e5 e6
  have p1 := kn_loadsP d_loads B cc e3 e4
  have p2 := kn_led d_led B cc e7 e4
  have p3 := kn_free d__free B cc (e3.up (by decide)) e10
  have p5 := kn_takers d_takers B cc (p1.up (by decide)) p3 (e6.up (by decide))
  have q1 : Kn P w K mg base "way_pairs" 1 spWayP := kn_wayP d_way_pairs B
  have q3 : Kn P w K mg base "_runs" 1 spRuns := kn_runs d__runs B
  have q4 := kn_wayB d_way_block B q3 q1
  have q6 := kn_can d__can_hand B cc e10 p2
  have r1 : Kn P w K mg base "_are_runs" 1 spAreRuns := kn_areR d__are_runs B CS
  have r2 := kn_planOf d_is_plan_of B CS i3 (r1.up (by decide))
  have r3 := kn_isPlan d_is_plan B cc (e8.up (by decide)) r2
  have r4 : Kn P w K mg base "length" 1 spLength := kn_length d_length B
  have r5 := kx_along d_along B cc xa.ex0 (p1.up (by decide)) (q6.up (by decide)) (q1.up (by decide)) (q4.up (by decide)) p5 (e5.up (by decide)) (e6.up (by decide))
  have z1 : Kn P w K mg base "_first_stop" 1 spNo := kn_no d__first_stop
  have z2 : Km P w K mg base CWk "leads" 1 (spWL CWk) := km_wleads w_leads B cw
  have z3 : Km P w K mg base CWk "_turn" 1 (spTurn CWk) := km_turn w_turn B cw
  have z4 := km_do w_do B cw z3 z1
  have z5 := km_winit w_init B cc cw p1 (e8.up (by decide)) (e4.up (by decide)) (e9.up (by decide))
  have z6 := kn_play d_play B cw z5 (z4.up (by decide)) (z2.up (by decide))
  have t2 : Kn P w K mg base "_law_alike" 1 spAlike := kn_alike d_Lalike B sys
  have u1 : Kn P w K mg base "_law_take" 1 spTake := kn_take d_Ltake B
  have u2 := kn_amount d_Lamount B u1
  have u3 := kn_netB d_Lbundles B (u1.up (by decide)) u2
  have u4 : Kn P w K mg base "_law_loads" 1 (spLoadsX K) := kn_loadsX d_Lloads B
  have u5 := kn_bnd d_Lbounds B u1
  have u6 := kn_net d_Lnet B (u1.up (by decide)) u3 (u5.up (by decide)) (u4.up (by decide))
  have u7 : Kn P w K mg base "_law_led" 1 spLedL := kn_ledL d_Lled B
  have u11 : Kn P w K mg base "_law_moved" 1 spMoved := kn_moved d_Lmoved B
  have v1 : Kn P w K mg base "_law_pairs" 1 spPairsL := kn_pairsL d_Lpairs B
  have v2 := kn_pathL d_Lpath B u1 v1
  have v3 := kn_brokL d_Lbrokers B (u1.up (by decide)) v2 (v1.up (by decide)) (u7.up (by decide))
  have v4 := kn_topL d_Ltop B u4 u7
  have v5 := kn_toldL d_Ltold B xa r5
  have v6 := kn_rightL (k := 6) d_Lright B sys (v4.up (by decide)) (v5.up (by decide)) (u11.up (by decide)) (r3.up (by decide)) (r4.up (by decide)) (t2.up (by decide)) (z6.up (by decide))
  exact ok_law (k := 6) B cc ((kn_bag d_Lbag B (k := 0)).up (by decide)) (u1.up (by decide)) (u6.up (by decide)) (e2.up (by decide)) (v3.up (by decide)) (v4.up (by decide)) (u11.up (by decide)) v6 f cd B' fr z H vs Q E hr gd h
end Lw
open PySem PySem.W PyProof.Rows
local macro_rules | `(tactic| walk_at "df") => `(tactic| (refine' Lw.df_mk (by assumption) (by assumption) ?za ?zl ?zc ?zk; (case za => k_is); (case zl => k_is); (case zc => k_is); (case zk => k_is)))
local macro_rules | `(tactic| walk_at "dm") => `(tactic| (refine' Lw.dm_mk ?za ?zi ?zl ?zc ?zk; (case za => k_is); (case zi => k_is); (case zl => k_is); (case zc => k_is); (case zk => k_is)))
set_option maxRecDepth 100000 in
set_option maxHeartbeats 0 in
theorem PySem.Challenge.cw_leadswitch_k40_along_holds : PySem.Challenge.rw_leadswitch_k40_along.Holds := by
  w_on; o_law; k_head; (case hw => w_witness2)
  k_fill
  refine Lw.walk_g (l := PySem.Challenge.rw_leadswitch_k40_along) (n := 63) (k := 8) (x := "_law_script") (sp := Lw.spLaw) rfl (by decide) rfl ⟨rfl, by decide, by decide⟩ (by decide +kernel) (fun w h Y => PySem.W.kIn_of Y) ?F (fun K H a ns hl hS => ⟨a, ns, rfl, hS, fun _ => rfl⟩)
  case F =>
    intro w mg fa h KX G hmg
    refine' Lw.all_mk hmg ?cl ?xa ?cw ?w_init ?w_leads ?w_do ?w_turn ?m_init ?m_keep ?m_size ?m_bundles ?m_bounds ?m_floor ?m_ceiling ?m_is_rigid ?m_bundle_of ?m_pairs ?d_is_integer ?d_is_amount ?d_is_count ?d_is_broker ?d__is_bound ?d_are_bounds ?d__is_bundle ?d_are_bundles ?d_led ?d_loads ?d_way_pairs ?d_takers ?d__free ?d_way_block ?d__runs ?d_along ?d__can_hand ?d_is_plan ?d_is_plan_of ?d__are_runs ?d_length ?d_play ?d__first_stop ?d_Lbag ?d_Ltake ?d_Lalike ?d_Lamount ?d_Lbundles ?d_Lloads ?d_Lbounds ?d_Lnet ?d_Lled ?d_Lpairs ?d_Lmoved ?d_Lpath ?d_Ltold ?d_Ltop ?d_Lbrokers ?d_Lright ?d_law ?bb ?cs
    case cl =>
      refine' Lw.cc_mk KX G ?x0 ?x1 ?x2 ?x3 ?x4 ?x5 ?x6 ?x7 ?x8 ?x9
      (case x0 => k_is); (case x1 => k_is); (case x2 => k_is); (case x3 => k_is); (case x4 => k_is); (case x5 => k_is); (case x6 => k_is); (case x7 => k_is); (case x8 => k_is); (case x9 => k_is)
    case xa =>
      refine' Lw.xa_mk KX G ?x_aE ?x_aL ?x_aF ?x_aB ?x_aV ?x_hgL ?x_hkL ?x_hsL ?x_hdL ?x_haL ?x_hmL ?x_hn ?x_ht ?x_bE ?x_hE ?x_tE ?x_sLE ?x_tL ?x_qL ?x_kL ?x_iF ?x_tF ?x_sLF ?x_nLF ?x_iB ?x_tB ?x_sLB ?x_nLB ?x_iV ?x_tV ?x_sLV ?x_nLV
      (case x_aE => k_is)
      (case x_aL => k_is)
      (case x_aF => k_is)
      (case x_aB => k_is)
      (case x_aV => k_is)
      (case x_hgL => k_is)
      (case x_hkL => k_is)
      (case x_hsL => k_is)
      (case x_hdL => k_is)
      (case x_haL => k_is)
      (case x_hmL => k_is)
      (case x_hn => k_is)
      (case x_ht => k_is)
      (case x_bE => k_is)
      (case x_hE => k_is)
      (case x_tE => k_is)
      (case x_sLE => k_is)
      (case x_tL => k_is)
      (case x_qL => k_exc)
      (case x_kL => k_is)
      (case x_iF => k_is)
      (case x_tF => k_is)
      (case x_sLF => k_is)
      (case x_nLF => first | rfl | decide +kernel)
      (case x_iB => k_is)
      (case x_tB => k_is)
      (case x_sLB => k_is)
      (case x_nLB => first | rfl | decide +kernel)
      (case x_iV => k_is)
      (case x_tV => k_is)
      (case x_sLV => k_is)
      (case x_nLV => first | rfl | decide +kernel)
    case cw =>
      refine' Lw.cw_mk KX G ?x0 ?x1 ?x2 ?x3 ?x4 ?x5 ?x6 ?x7 ?x8 ?x9 ?x10 ?x11 ?x12 ?x13
      (case x0 => k_is); (case x1 => k_is); (case x2 => k_is); (case x3 => k_is); (case x4 => k_is); (case x5 => k_is); (case x6 => k_is); (case x7 => k_is); (case x8 => k_is); (case x9 => k_is); (case x10 => k_is); (case x11 => k_is); (case x12 => k_is); (case x13 => k_is)
    (case w_init => walk_at "dm")
    (case w_leads => walk_at "dm")
    (case w_do => walk_at "dm")
    (case w_turn => walk_at "dm")
    (case m_init => walk_at "dm")
    (case m_keep => walk_at "dm")
    (case m_size => walk_at "dm")
    (case m_bundles => walk_at "dm")
    (case m_bounds => walk_at "dm")
    (case m_floor => walk_at "dm")
    (case m_ceiling => walk_at "dm")
    (case m_is_rigid => walk_at "dm")
    (case m_bundle_of => walk_at "dm")
    (case m_pairs => walk_at "dm")
    (case d_is_integer => walk_at "df")
    (case d_is_amount => walk_at "df")
    (case d_is_count => walk_at "df")
    (case d_is_broker => walk_at "df")
    (case d__is_bound => walk_at "df")
    (case d_are_bounds => walk_at "df")
    (case d__is_bundle => walk_at "df")
    (case d_are_bundles => walk_at "df")
    (case d_led => walk_at "df")
    (case d_loads => walk_at "df")
    (case d_way_pairs => walk_at "df")
    (case d_takers => walk_at "df")
    (case d__free => walk_at "df")
    (case d_way_block => walk_at "df")
    (case d__runs => walk_at "df")
    (case d_along => walk_at "df")
    (case d__can_hand => walk_at "df")
    (case d_is_plan => walk_at "df")
    (case d_is_plan_of => walk_at "df")
    (case d__are_runs => walk_at "df")
    (case d_length => walk_at "df")
    (case d_play => walk_at "df")
    (case d__first_stop => walk_at "df")
    (case d_Lbag => walk_at "df")
    (case d_Ltake => walk_at "df")
    (case d_Lalike => walk_at "df")
    (case d_Lamount => walk_at "df")
    (case d_Lbundles => walk_at "df")
    (case d_Lloads => walk_at "df")
    (case d_Lbounds => walk_at "df")
    (case d_Lnet => walk_at "df")
    (case d_Lled => walk_at "df")
    (case d_Lpairs => walk_at "df")
    (case d_Lmoved => walk_at "df")
    (case d_Lpath => walk_at "df")
    (case d_Ltold => walk_at "df")
    (case d_Ltop => walk_at "df")
    (case d_Lbrokers => walk_at "df")
    (case d_Lright => walk_at "df")
    (case d_law => walk_at "df")
    case bb =>
      refine' Lw.bl_mk KX G ?z0 ?z1 ?z2 ?z3 ?z4 ?z5 ?z6 ?z7 ?z8 ?z9 ?z10 ?z11 ?z12 ?z13 ?z14 ?z15 ?z16 ?z17 ?z18 ?z19
      (case z0 => k_is); (case z1 => k_is); (case z2 => k_is); (case z3 => k_is); (case z4 => k_is); (case z5 => k_is); (case z6 => k_is); (case z7 => k_is); (case z8 => k_is); (case z9 => k_is); (case z10 => k_is); (case z11 => k_is); (case z12 => k_is); (case z13 => k_is); (case z14 => k_is); (case z15 => k_is); (case z16 => k_is); (case z17 => k_is); (case z18 => k_is); (case z19 => k_is)
    case cs =>
      refine' Lw.cs_mk KX G ?y0 ?y1 ?y2 ?y3 ?y4 ?y5 ?y6 ?y7
      (case y0 => k_is); (case y1 => k_is); (case y2 => k_is); (case y3 => k_is); (case y4 => k_is); (case y5 => k_is); (case y6 => k_is); (case y7 => k_is)
