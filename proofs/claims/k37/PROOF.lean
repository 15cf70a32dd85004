import PyProof.Rows.All
import Wide.All
import OpenK.AllK
import Wide.FinOn
import HandS.ForMost
import HandS.Wide
import HandS.IsInst
import HandS.Flow
import PyProof.ReprRoads
import HandS.Style
import HandS.SetBool
import HandS.TupSets
import KE.DataFind
import HandS.TupAny
import KE.KOwnIter
import HandS.NamedTupGet
import HandS.DictComp
import HandS.Zip
import HandS.Iter
import HandS.Zip0
import HandS.Small
import PyProof.InstEq
import HandS.SortRule
import HandS.More
import HandS.Exc
import HandS.ExcOwn
import HandS.ExcInit
import HandS.ExcField
import HandS.ExcIs
import HandS.WordsExc
import PyProof.Rows.SetFrom
import PyProof.SetRoads
import PyProof.FactsAll.list_1
import KE.SortData
import KE.SortLaws
import HandS.Conv
import HandS.SetFor
import HandS.Sort
import HandS.Strs
import PySem.Challenge.RW_leadswitch_k37_whole_asked_by_turns
set_option Elab.async false
set_option linter.all false
set_option maxRecDepth 100000
set_option maxHeartbeats 4000000
namespace Lw
open PySem PySem.Spec PyProof.Rows L2
/-! Calls whose surroundings have no open guard (repr asks for that). -/

/-- a def's promise, for surroundings without open guards -/
structure FnG (P : Program) (w : World) (K : PySem.W.Frag) (mg : Str → Option Value) (base : Heap)
    (k : Nat) (f : Addr) (fd : FuncData) (ps : List Str) (sp : Sp) : Prop where
  len : ∀ vs H Q E, sp vs H Q E → vs.length = ps.length
  go : ∀ (B : Around) (fr : List Env) (z : Shared) (H : Hp) (ar : Args) (us : List Value) (vs : List V) (Q : VK) (E : XK),
    Room k B → B.guards = some [] → Env0 P w K mg base B fr z H → BindsTo z fd ar (ps.zip us) → Vals vs us →
    sp vs H Q E → codeAny (model P w) B (.call (.ref f) ar) (CR CX0 fr P w H z Q E) z

section
variable {P : Program} {w : World} {K : PySem.W.Frag} {mg : Str → Option Value} {base : Heap}
theorem FnG.of {k : Nat} {f : Addr} {fd : FuncData} {ps : List Str} {sp : Sp}
    (F : FnOk P w K mg base CX0 k f fd ps sp) : FnG P w K mg base k f fd ps sp :=
  ⟨F.len, fun B fr z H ar us vs Q E r _ => F.run B fr z H ar us vs Q E r⟩
theorem FnG.up {j k : Nat} {f : Addr} {fd : FuncData} {ps : List Str} {sp : Sp}
    (F : FnG P w K mg base j f fd ps sp) (h : j ≤ k) : FnG P w K mg base k f fd ps sp :=
  ⟨F.len, fun B fr z H ar us vs Q E r => F.go B fr z H ar us vs Q E (r.mono h)⟩

/-- the context of a body -/
abbrev bodyX (P : Program) (w : World) (K : PySem.W.Frag) (mg : Str → Option Value) (base : Heap) (N : List Str) (qual : Str)
    (st : Stmt) (f : Addr) (cd : Value) (B : Around) (fr : List Env) (z : Shared) (H : Hp) (E : XK) : Cx :=
  (cxOf CX0 P w K mg base N qual (defScope st) f cd B fr z H E).nox

theorem FnG.mk' {x qual : Str} {st : Stmt} {f : Addr} {fd : FuncData} {N ps : List Str} {k : Nat} {sp : Sp}
    (F : Fun K x qual st f fd) (S : FnScope N ps (defScope st)) (len : ∀ vs H Q E, sp vs H Q E → vs.length = ps.length)
    (body : ∀ (cd : Value) (B : Around) (fr : List Env) (z : Shared) (H : Hp) (vs : List V) (Q : VK) (E : XK),
      Room k (B.deeper (envOfC qual (defScope st) z.heap.objs.size f cd)) →
      (B.deeper (envOfC qual (defScope st) z.heap.objs.size f cd)).guards = some [] → sp vs H Q E →
      ∃ t, PSs (bodyX P w K mg base N qual st f cd B fr z H E) (defBody st) t ∧
        t { nx := fun _ H' => Q .non H', rt := Q } (start N vs) H) : FnG P w K mg base (k + 1) f fd ps sp := by
  obtain ⟨oc, od, kV, doc, pm, an, cd, ct, osl, rfl, lk, hc⟩ := F.ex
  constructor
  · exact len
  intro B fr z H ar us vs Q E room guard env bind rel want
  have n1 := len _ _ _ _ want
  have kin : K.In z.heap := env.mod.kin.keeps fun b o e => (env.bs b o e).1
  have lim : z.heap.NoLimit :=
    env.mod.nolimit.keeps fun b o e => (env.bs b o e).1
  have kinds : ∀ y ∈ ps.zip us, (defScope st).names.lookup y.1 = some .local ∨
      ((defScope st).names.lookup y.1 = some .cell ∧
        ((cellsFrom (z.heap.objs.size + 1) (defScope st).names []).lookup y.1).isSome = true) := by
    intro y hy
    rcases S.par y.1 (List.of_mem_zip (show (y.1, y.2) ∈ ps.zip us from hy)).1 with h | h
    · exact Or.inl h
    · exact Or.inr ⟨h, PySem.W.cellsFrom_some _ _ _ (.inl h)⟩
  apply codeAny_call_function room.depth (kin _ _ lk) rfl S.co S.gen rfl (PySem.W.codeRec_of kin hc)
  apply bind
  apply wpAny_newFunctionEnv_cells S.kind kinds
  intro e he z1 ic
  subst he
  refine ⟨lim.keeps ic.toInCall.keep, codeAny_func ?_⟩
  obtain ⟨t, ht, hq⟩ := body cd B fr z H vs Q E (room.deeper _) guard want
  have I0 := inv_start (CX := CX0) (E := E) S room.hd env n1 rel ic
  refine wpAny_mono (ht.nox.run [] z1 (start N vs) H _ I0 hq) ?_ (fun _ _ h => h)
  intro fl z2 h2
  match fl, h2 with
  | .ret u, h2 =>
    obtain ⟨v, σ2, H2, J, rv, q⟩ := h2
    exact ⟨v, H2, J.os, J.bare, J.base, J.hok, rv, q⟩
  | .next, h2 =>
    obtain ⟨σ2, H2, J, q⟩ := h2
    exact ⟨V.non, H2, J.os, J.bare, J.base, J.hok, rfl, q⟩
  | .brk, h2 =>
    obtain ⟨_, _, _, q⟩ := h2
    exact q.elim
  | .cont, h2 =>
    obtain ⟨_, _, _, q⟩ := h2
    exact q.elim

/-- a def of the module, known by its name -/
structure Kn (P : Program) (w : World) (K : PySem.W.Frag) (mg : Str → Option Value) (base : Heap) (nm : Str) (k : Nat) (sp : Sp) : Prop where
  ex : ∃ f fd ps, FnG P w K mg base k f fd ps sp ∧ mg nm = some (.ref f) ∧ PySem.W.keepIn K (.ref f) = true ∧ Binds K fd ps []
theorem Kn.up {nm : Str} {j k : Nat} {sp : Sp} (F : Kn P w K mg base nm j sp) (h : j ≤ k) : Kn P w K mg base nm k sp := by
  obtain ⟨f, fd, ps, a, b⟩ := F.ex
  exact ⟨f, fd, ps, a.up h, b⟩
end

section
variable {X : Cx} {k : Nat} {sp : Sp} {nm : Str} {p pos : Pos} {e : Expr} {es : List Expr} {t : TA}
theorem run_own {pins : List (Addr × Obj)} {σ : L2.St} {H : Hp} {s : Shared} {Q : VK} {us : List Value} {vs : List V} {f : Addr} {fd : FuncData} {ps : List Str}
    (F : FnG X.prog X.w X.K X.mg X.base k f fd ps sp) (room : Room k X.A) (gd : X.A.guards = some []) (hb : Binds X.K fd ps [])
    (I : Inv X pins σ H s) (r : Vals vs us) (h : sp vs H Q E0) : wpAny (model X.prog X.w) X.A (call (.ref f) us) (EP X pins σ Q) X.xe s := by
  have n1 : us.length = ps.length := r.length.symm.trans (F.len _ _ _ _ h)
  have bt := hb s us I.kIn (by rw [List.append_nil]; exact n1)
  rw [List.append_nil] at bt
  apply wpAny_call
  refine codeAny_mono (F.go X.A X.stack s H ⟨us, []⟩ us vs Q E0 room gd I.env0 bt r h) ?_
  intro res z hz
  match res, hz with
  | .error e, hz => exact False.elim hz
  | .ok (.ret u), hz => exact I.after hz
  | .ok .next, hz => exact False.elim hz
  | .ok .brk, hz => exact False.elim hz
  | .ok .cont, hz => exact False.elim hz

theorem pe_own (c : Kn X.prog X.w X.K X.mg X.base nm k sp) (room : Room k X.A) (gd : X.A.guards = some []) (hg : Gl X nm)
    (ha : PA X (e :: es) t) (hdb : (nm == ("__debug__" : Str)) = false := by decide)
    (he : starEach (e :: es) X.env = (false, eval e X.env) :: starEach es X.env := by rfl)
    (hp : (backTo pos (starEach es X.env)).any (·.1) = false := by rfl) : PE X (.Call (.Name nm p) (e :: es) [] pos) (tCall sp [] E0 t) := by
  obtain ⟨f, fd, ps, F, hm, hk, hb⟩ := c.ex
  constructor
  intro pins s σ H Q I h
  apply wpAny_Call_Name_kw
  refine ld_glob I hg hm ?_ hdb
  refine PySem.W.callWith_K (h₀ := X.base) I.ok.mod.kin hk ?_ he hp
  refine thn (ha.run pos pins s σ H _ I h) ?_
  rintro us s1 ⟨vs, H1, I1, r, q⟩
  rw [List.append_nil] at q
  exact ⟨I1.kIn, run_own F room gd hb I1 r q⟩
end
/-! Data in the abstract heap; what repr, isinstance and an item's in-place operator ask of it. -/

/-! ### values that hold data; none of their objects stands in M -/
mutual
inductive Dn (M : List Addr) (H : Hp) : V → PyData → Prop
  | non : Dn M H .non .none
  | bl (b : Bool) : Dn M H (.bl b) (.bool b)
  | int (i : Int) : Dn M H (.int i) (.int i)
  | str (x : Str) : Dn M H (.str x) (.str x)
  | lst {a : Addr} {xs : List V} {ds : List PyData} : H a = some (.lst xs) → a ∉ M → DnAll M H xs ds → Dn M H (.ref a) (.list ds)
  | tup {a : Addr} {xs : List V} {ds : List PyData} : H a = some (.tup xs) → a ∉ M → DnAll M H xs ds → Dn M H (.ref a) (.tuple ds)
  | dic {a : Addr} {kvs : List (Key × V)} {ds : List (PyData × PyData)} : H a = some (.dK kvs) → a ∉ M → DnAll M H (kvs.map fun p => kV p.1) (ds.map (·.1)) → DnAll M H (kvs.map (·.2)) (ds.map (·.2)) → Dn M H (.ref a) (.dict ds)
inductive DnAll (M : List Addr) (H : Hp) : List V → List PyData → Prop
  | nil : DnAll M H [] []
  | cons {v : V} {vs : List V} {d : PyData} {ds : List PyData} : Dn M H v d → DnAll M H vs ds → DnAll M H (v :: vs) (d :: ds)
end

/-- all that was tracked outside M is as it was -/
def Ext (M : List Addr) (H H' : Hp) : Prop := ∀ a o, a ∉ M → H a = some o → H' a = some o
theorem Ext.refl (M : List Addr) (H : Hp) : Ext M H H := fun _ _ _ h => h
theorem Ext.trans {M : List Addr} {H H1 H2 : Hp} (a : Ext M H H1) (b : Ext M H1 H2) : Ext M H H2 := fun c o n h => b c o n (a c o n h)
theorem Ext.mono {M M' : List Addr} {H H1 : Hp} (a : Ext M H H1) (h : ∀ c, c ∈ M → c ∈ M') : Ext M' H H1 := fun c o n e => a c o (fun m => n (h c m)) e
theorem Ext.same {M : List Addr} {H H1 : Hp} (a : Same H H1) : Ext M H H1 := fun c o _ h => a c o h
theorem Ext.toSame {H H1 : Hp} (a : Ext [] H H1) : Same H H1 := fun c o h => a c o (by simp) h
theorem same_upd {H : Hp} {p : Addr} {o : HO} (h : H p = none) : Same H (upd H p o) := fun b x e => by
  rw [upd_ne (ne_of_none e h)]; exact e
theorem Ext.upd {M : List Addr} {H : Hp} {p : Addr} {o : HO} (h : p ∈ M) : Ext M H (upd H p o) := fun b x n e => by
  rw [upd_ne (show b ≠ p from fun z => n (by rw [z]; exact h))]; exact e

mutual
theorem Dn.ext {M : List Addr} {H H' : Hp} (e : Ext M H H') : ∀ {v : V} {d : PyData}, Dn M H v d → Dn M H' v d
  | _, _, .non => .non
  | _, _, .bl b => .bl b
  | _, _, .int i => .int i
  | _, _, .str x => .str x
  | _, _, .lst h n a => .lst (e _ _ n h) n (DnAll.ext e a)
  | _, _, .tup h n a => .tup (e _ _ n h) n (DnAll.ext e a)
  | _, _, .dic h n a b => .dic (e _ _ n h) n (DnAll.ext e a) (DnAll.ext e b)
theorem DnAll.ext {M : List Addr} {H H' : Hp} (e : Ext M H H') : ∀ {v : List V} {d : List PyData}, DnAll M H v d → DnAll M H' v d
  | _, _, .nil => .nil
  | _, _, .cons a b => .cons (Dn.ext e a) (DnAll.ext e b)
end
/-! the avoided addresses may be others, where none of the data's objects stands in them -/
mutual
theorem Dn.avoid {M M' : List Addr} {H : Hp} (h : ∀ a o, a ∉ M → H a = some o → a ∉ M') : ∀ {v : V} {d : PyData}, Dn M H v d → Dn M' H v d
  | _, _, .non => .non
  | _, _, .bl b => .bl b
  | _, _, .int i => .int i
  | _, _, .str x => .str x
  | _, _, .lst e n a => .lst e (h _ _ n e) (DnAll.avoid h a)
  | _, _, .tup e n a => .tup e (h _ _ n e) (DnAll.avoid h a)
  | _, _, .dic e n a b => .dic e (h _ _ n e) (DnAll.avoid h a) (DnAll.avoid h b)
theorem DnAll.avoid {M M' : List Addr} {H : Hp} (h : ∀ a o, a ∉ M → H a = some o → a ∉ M') : ∀ {v : List V} {d : List PyData}, DnAll M H v d → DnAll M' H v d
  | _, _, .nil => .nil
  | _, _, .cons a b => .cons (Dn.avoid h a) (DnAll.avoid h b)
end
theorem Dn.sub {M M' : List Addr} {H : Hp} (h : ∀ a, a ∈ M' → a ∈ M) {v : V} {d : PyData} (x : Dn M H v d) : Dn M' H v d := x.avoid fun a _ n _ m => n (h a m)
theorem DnAll.sub {M M' : List Addr} {H : Hp} (h : ∀ a, a ∈ M' → a ∈ M) {v : List V} {d : List PyData} (x : DnAll M H v d) : DnAll M' H v d := x.avoid fun a _ n _ m => n (h a m)
theorem Dn.more {M : List Addr} {H : Hp} {p : Addr} (hp : H p = none) {v : V} {d : PyData} (x : Dn M H v d) : Dn (p :: M) H v d := x.avoid fun a o n e m => by
  rcases List.mem_cons.mp m with rfl | m
  · rw [hp] at e; cases e
  · exact n m
theorem DnAll.length {M : List Addr} {H : Hp} : ∀ {v : List V} {d : List PyData}, DnAll M H v d → v.length = d.length
  | _, _, .nil => rfl
  | _, _, .cons _ b => by simp [DnAll.length b]
theorem DnAll.get {M : List Addr} {H : Hp} : ∀ {v : List V} {d : List PyData} {i : Nat} {x : V}, DnAll M H v d → v[i]? = some x → ∃ y, d[i]? = some y ∧ Dn M H x y
  | _, _, _, _, .nil, e => by simp at e
  | _, _, 0, _, .cons a _, e => by simp at e; subst e; exact ⟨_, rfl, a⟩
  | _, _, i + 1, x, .cons _ b, e => by
    obtain ⟨y, h1, h2⟩ := DnAll.get (i := i) (x := x) b (by simpa using e)
    exact ⟨y, by simpa using h1, h2⟩
theorem DnAll.app {M : List Addr} {H : Hp} : ∀ {v w : List V} {d e : List PyData}, DnAll M H v d → DnAll M H w e → DnAll M H (v ++ w) (d ++ e)
  | _, _, _, _, .nil, s => s
  | _, _, _, _, .cons a b, s => .cons a (DnAll.app b s)
theorem DnAll.take {M : List Addr} {H : Hp} : ∀ {v : List V} {d : List PyData} (n : Nat), DnAll M H v d → DnAll M H (v.take n) (d.take n)
  | _, _, 0, _ => .nil
  | _, _, _ + 1, .nil => .nil
  | _, _, n + 1, .cons a b => .cons a (DnAll.take n b)
theorem DnAll.drop {M : List Addr} {H : Hp} : ∀ {v : List V} {d : List PyData} (n : Nat), DnAll M H v d → DnAll M H (v.drop n) (d.drop n)
  | _, _, 0, r => r
  | _, _, _ + 1, .nil => .nil
  | _, _, n + 1, .cons _ b => DnAll.drop n b
theorem DnAll.ints {M : List Addr} {H : Hp} : ∀ (ns : List Int), DnAll M H (ns.map V.int) (ns.map PyData.int)
  | [] => .nil
  | n :: r => .cons (.int n) (DnAll.ints r)

/-! ### the library's reading of such a value -/
section
variable {X : Cx} {pins : List (Addr × Obj)} {σ : L2.St} {H : Hp} {s : Shared} {M : List Addr}
theorem pairs_split {P : Program} {w : World} : ∀ {es : List DictEntry} {kvs : List (Key × V)} {vs : List (Key × Value)}, KV kvs vs → Pairs (mixKind P w) es vs →
    Vals (kvs.map fun p => kV p.1) (es.map (·.key)) ∧ Vals (kvs.map (·.2)) (es.map (·.val))
  | _, _, _, .nil, .nil => ⟨.nil, .nil⟩
  | _, _, _, .cons (a := p) (b := q) r t, .cons (e := e) h1 h2 h3 => by
    obtain ⟨a, b⟩ := pairs_split t h3
    have h1 : keyIs q.1 e.key = true := h1
    rw [← r.1] at h1
    refine ⟨.cons (show RelV (kV p.1) e.key from ?_) a, .cons (show RelV p.2 e.val from by rw [h2]; exact r.2) b⟩
    rcases keyIs_shape h1 with ⟨i, u, e1, e2⟩ | ⟨x, u, e1, e2⟩
    · rw [e1, e2]; exact ⟨u, rfl⟩
    · rw [e1, e2]; exact ⟨u, rfl⟩
mutual
theorem Dn.reads (I : Inv X pins σ H s) : ∀ (d : PyData) (v : V) (u : Value), Dn M H v d → RelV v u → ∃ as, Reads s.heap u d as ∧ ∀ a ∈ as, H a ≠ none
  | .none, _, _, h, r => by cases h; cases r; exact ⟨_, .none, by simp⟩
  | .bool b, _, _, h, r => by cases h; cases r; exact ⟨_, .bool b, by simp⟩
  | .int i, _, _, h, r => by
    cases h
    obtain ⟨t, rfl⟩ := r
    exact ⟨_, .int i t, by simp⟩
  | .str x, _, _, h, r => by
    cases h
    obtain ⟨t, rfl⟩ := r
    exact ⟨_, .str x t, by simp⟩
  | .list ds, _, _, h, r => by
    cases h with
    | lst e _ ha =>
      cases r
      obtain ⟨_, its, n, rv, ho⟩ := I.hok _ _ e
      obtain ⟨as, hr, hn⟩ := DnAll.reads I ds _ its ha rv
      refine ⟨_, .list ho rfl rfl hr, fun b hb => ?_⟩
      rcases List.mem_cons.mp hb with rfl | hb
      · rw [e]; simp
      · exact hn b hb
  | .tuple ds, _, _, h, r => by
    cases h with
    | tup e _ ha =>
      cases r
      obtain ⟨_, its, rv, ⟨o, ho, hc, n, hd⟩⟩ := I.hok _ _ e
      obtain ⟨as, hr, hn⟩ := DnAll.reads I ds _ its ha rv
      exact ⟨_, .tuple ho hc hd hr, hn⟩
  | .dict ds, _, _, h, r => by
    cases h with
    | dic e _ ha hb =>
      cases r
      obtain ⟨_, _, vs, kv, o, es, ep, ho, ex, hd, hk, hp, _⟩ := I.hok _ _ e
      obtain ⟨r1, r2⟩ := pairs_split kv hp
      obtain ⟨as, q1, n1⟩ := Dn.readsK I ds _ _ ha r1
      obtain ⟨bs, q2, n2⟩ := Dn.readsV I ds _ _ hb r2
      refine ⟨_, .dict ho ex.1 hd q1 q2, fun b hb => ?_⟩
      rcases List.mem_append.mp hb with hb | hb
      · rcases List.mem_cons.mp hb with rfl | hb
        · rw [e]; simp
        · exact n1 b hb
      · exact n2 b hb
theorem DnAll.reads (I : Inv X pins σ H s) : ∀ (ds : List PyData) (vs : List V) (us : List Value), DnAll M H vs ds → Vals vs us → ∃ as, ReadsAll s.heap us ds as ∧ ∀ a ∈ as, H a ≠ none
  | [], _, _, h, r => by cases h; cases r; exact ⟨_, .nil, by simp⟩
  | d :: ds, _, _, h, r => by
    cases h with
    | cons h1 h2 =>
      cases r with
      | cons r1 r2 =>
        obtain ⟨as, q1, n1⟩ := Dn.reads I d _ _ h1 r1
        obtain ⟨bs, q2, n2⟩ := DnAll.reads I ds _ _ h2 r2
        exact ⟨_, .cons q1 q2, fun b hb => (List.mem_append.mp hb).elim (n1 b) (n2 b)⟩
theorem Dn.readsK (I : Inv X pins σ H s) : ∀ (ds : List (PyData × PyData)) (vs : List V) (us : List Value), DnAll M H vs (ds.map (·.1)) → Vals vs us → ∃ as, ReadsAll s.heap us (ds.map (·.1)) as ∧ ∀ a ∈ as, H a ≠ none
  | [], _, _, h, r => by cases h; cases r; exact ⟨_, .nil, by simp⟩
  | (d, _) :: ds, _, _, h, r => by
    cases h with
    | cons h1 h2 =>
      cases r with
      | cons r1 r2 =>
        obtain ⟨as, q1, n1⟩ := Dn.reads I d _ _ h1 r1
        obtain ⟨bs, q2, n2⟩ := Dn.readsK I ds _ _ h2 r2
        exact ⟨_, .cons q1 q2, fun b hb => (List.mem_append.mp hb).elim (n1 b) (n2 b)⟩
theorem Dn.readsV (I : Inv X pins σ H s) : ∀ (ds : List (PyData × PyData)) (vs : List V) (us : List Value), DnAll M H vs (ds.map (·.2)) → Vals vs us → ∃ as, ReadsAll s.heap us (ds.map (·.2)) as ∧ ∀ a ∈ as, H a ≠ none
  | [], _, _, h, r => by cases h; cases r; exact ⟨_, .nil, by simp⟩
  | (_, d) :: ds, _, _, h, r => by
    cases h with
    | cons h1 h2 =>
      cases r with
      | cons r1 r2 =>
        obtain ⟨as, q1, n1⟩ := Dn.reads I d _ _ h1 r1
        obtain ⟨bs, q2, n2⟩ := Dn.readsV I ds _ _ h2 r2
        exact ⟨_, .cons q1 q2, fun b hb => (List.mem_append.mp hb).elim (n1 b) (n2 b)⟩
end

/-! ### repr of data -/
/-- data that repr shows within the model's limits -/
structure Shows (d : PyData) : Prop where
  sh : d.showable = true
  sz : d.shown.length ≤ 8000000
  dp : d.depth ≤ 20
def rRepr : List V → Hp → VK → Prop := fun xs H Q => ∃ x d M, xs = [x] ∧ Dn M H x d ∧ Shows d ∧ Q (.str d.shown) H
theorem call_reprD (gd : X.A.guards = some []) (hu : X.A.units + 64 < cLine) (sys : ∃ o, X.base.get? sysModules = some o) : CallR X (.builtin "repr") rRepr := by
  intro pins s σ H xs us Q I r h
  obtain ⟨x, d, M, rfl, hd, hs, q⟩ := h
  obtain ⟨u, rfl, rx⟩ := vals1 r
  obtain ⟨as, rd, hn⟩ := Dn.reads I d x u hd rx
  obtain ⟨o, ho⟩ := sys
  have hm : sysModules ∉ as := fun m => hn _ m (I.bs _ _ ho).2
  have hz : d.shown.length ≤ sizeLine := Nat.le_trans hs.sz (by decide)
  have big : ∀ {a : Addr}, u = .ref a → wpAny (model X.prog X.w) X.A (call (.builtin "repr") [u]) (EP X pins σ Q) X.xe s := by
    rintro a rfl
    refine repr_of_reads' rd hs.sh (fun _ => hm) gd (by have := hs.dp; omega) (fun _ _ e => e) (fun h' u tk hk => ?_) hz
    exact ⟨.str d.shown, H, I.kept hk, ⟨u, rfl⟩, q⟩
  cases rd with
  | none => exact P.repr_of_none ⟨.str _, H, I.tok _, ⟨_, rfl⟩, by simpa only [PyData.shown] using q⟩
  | bool b => exact P.repr_of_bool ⟨.str _, H, I.tok _, ⟨_, rfl⟩, by simpa only [PyData.shown] using q⟩
  | int i t => exact P.repr_of_int (by simpa [PyData.showable] using hs.sh) ⟨.str _, H, I.tok _, ⟨_, rfl⟩, by simpa only [PyData.shown] using q⟩
  | str y t => exact P.repr_of_str ⟨.str _, H, I.tok _, ⟨_, rfl⟩, by simpa only [PyData.shown] using q⟩ (by simpa only [PyData.shown] using hz)
  | list _ _ _ _ => exact big rfl
  | tuple _ _ _ _ => exact big rfl
  | dict _ _ _ _ _ => exact big rfl

/-! ### isinstance of data -/
def tyD : PyData → String
  | .none => "NoneType"
  | .bool _ => "bool"
  | .int _ => "int"
  | .str _ => "str"
  | .list _ => "list"
  | .tuple _ => "tuple"
  | .dict _ => "dict"
theorem Dn.ty {K : PySem.W.Frag} {v : V} {d : PyData} (h : Dn M H v d) : TyX K H v (.type (tyD d)) := by
  cases h with
  | non => exact .base .non
  | bl b => exact .base (.bl b)
  | int i => exact .base (.int i)
  | str x => exact .base (.str x)
  | lst e _ _ => exact .base (.lst e)
  | tup e _ _ => exact .base (.tup e)
  | dic e _ _ _ => exact .base (.dK e)
/-- isinstance(x, int), .. of data -/
def isT (T : String) (d : PyData) : Bool := (kitB (tyD d) T).getD false
theorem kit_isT {T : String} (hT : T = "int" ∨ T = "bool" ∨ T = "list" ∨ T = "tuple" ∨ T = "str" ∨ T = "dict") : ∀ d : PyData, kitB (tyD d) T = some (isT T d) := by
  intro d
  rcases hT with rfl | rfl | rfl | rfl | rfl | rfl <;> cases d <;> simp only [tyD, isT] <;> decide +kernel
theorem isT_int : ∀ d, isT "int" d = (match d with | .int _ => true | .bool _ => true | _ => false) := by intro d; cases d <;> simp only [tyD, isT] <;> decide +kernel
theorem isT_bool : ∀ d, isT "bool" d = (match d with | .bool _ => true | _ => false) := by intro d; cases d <;> simp only [tyD, isT] <;> decide +kernel
theorem isT_list : ∀ d, isT "list" d = (match d with | .list _ => true | _ => false) := by intro d; cases d <;> simp only [tyD, isT] <;> decide +kernel
theorem isT_tuple : ∀ d, isT "tuple" d = (match d with | .tuple _ => true | _ => false) := by intro d; cases d <;> simp only [tyD, isT] <;> decide +kernel
def rIsD : List V → Hp → VK → Prop := fun xs H Q => ∃ x T d M, xs = [x, .ty T] ∧ Dn M H x d ∧ (T = "int" ∨ T = "bool" ∨ T = "list" ∨ T = "tuple" ∨ T = "str" ∨ T = "dict") ∧ Q (.bl (isT T d)) H
theorem call_isD : CallR X (.builtin "isinstance") rIsD := by
  intro pins s σ H xs us Q I r h
  obtain ⟨x, T, d, M, rfl, hd, hT, q⟩ := h
  exact call_isi pins s σ H _ us Q I r ⟨x, .ty T, .type (tyD d), .type T, isT T d, rfl, .ty T, hd.ty, kit_ty (kit_isT hT d), q⟩

/-! ### xs[i] op= e of a list -/
def rGetL : V → V → Hp → VK → Prop := fun x y H Q => ∃ p xs i j v, x = .ref p ∧ y = .int i ∧ H p = some (.lst xs) ∧ i = (j : Nat) ∧ xs[j]? = some v ∧ Q v H
theorem get_list : PGet X rGetL := by
  intro pins s σ H x y u v Q I rx ry h
  obtain ⟨p, xs, i, j, z, rfl, rfl, hp, rfl, hj, q⟩ := h
  cases rx
  obtain ⟨t, rfl⟩ := ry
  obtain ⟨its, r, pl, hz⟩ := I.list (SqL.of hp)
  obtain ⟨w, ew, rw'⟩ := r.get hj
  have hn := line63
  have hl : j < xs.length := (List.getElem?_eq_some_iff.mp hj).1
  exact wpAny_getItem_list pl.isList (by omega) (by omega) (by simpa using ew) ⟨z, H, I, rw', q⟩
end
/-! Readings, one step each. -/

section
variable {X : Cx} {K : PySem.W.Frag} {σ : L2.St} {H : Hp} {Q : VK} {D : Ends} {t u : TS} {te ta tb tc : TE} {tr : TA} {c d : TT} {QT : Bool → Hp → Prop} {QA : List V → Hp → Prop}
-- statements
theorem x_seq (h : t { D with nx := u D } σ H) : tSeq t u D σ H := h
theorem x_next (h : D.nx σ H) : tNext D σ H := h
theorem x_asg {g : TG} (h : te σ H fun x H1 => g x σ H1 D.nx) : tAsg te g D σ H := h
theorem x_name {i : Nat} {v : V} {Qs : L2.St → Hp → Prop} (h : Qs (σ.set i (some v)) H) : gName i v σ H Qs := h
theorem x_drop (h : te σ H fun _ H1 => D.nx σ H1) : tDrop te D σ H := h
theorem x_ret (h : te σ H D.rt) : tRet te D σ H := h
theorem x_retN (h : D.rt .non H) : tRetN D σ H := h
theorem x_ifS (h : c σ H fun b H1 => if b = true then t D σ H1 else u D σ H1) : tIfS c t u D σ H := h
theorem x_break (h : D.bk σ H) : tBreak D σ H := h
theorem x_cont (h : D.ct σ H) : tCont D σ H := h
theorem x_aug {i : Nat} {x : V} {ti : TIp} (e : σ[i]? = some (some x)) (h : te σ H fun y H1 => ti x y H1 fun z H2 => D.nx (σ.set i (some z)) H2) : tAug i te ti D σ H := ⟨x, e, h⟩
theorem x_augS {to ti : TE} {g : V → V → Hp → VK → Prop} {p : TIp} {s : TSet} (h : to σ H fun o H1 => ti σ H1 fun i H2 => g o i H2 fun x H3 => te σ H3 fun y H4 => p x y H4 fun z H5 => s o i z H5 fun H6 => D.nx σ H6) : tAugS to ti te g p s D σ H := h
theorem x_par {i j : Nat} (h : tr σ H fun vs H1 => ∃ v w, vs = [v, w] ∧ D.nx ((σ.set i (some v)).set j (some w)) H1) : tPar i j tr D σ H := h
theorem x_par2 {v w : V} {P : V → V → Hp → Prop} (h : P v w H) : ∃ v' w', [v, w] = [v', w'] ∧ P v' w' H := ⟨v, w, rfl, h⟩
theorem x_gsub {to ti : TE} {s : TSet} {v : V} {Qs : L2.St → Hp → Prop} (h : to σ H fun o H1 => ti σ H1 fun i H2 => s o i v H2 fun H3 => Qs σ H3) : gSub to ti s v σ H Qs := h
-- expressions
theorem x_var {i : Nat} {v : V} (e : σ[i]? = some (some v)) (h : Q v H) : tVar i σ H Q := ⟨v, e, h⟩
theorem x_c {v : V} (h : Q v H) : tC v σ H Q := h
theorem x_op {r : R2} (h : ta σ H fun x H1 => tb σ H1 fun y H2 => r x y H2 Q) : tOp r ta tb σ H Q := h
theorem x_un {r : V → Hp → VK → Prop} (h : ta σ H fun x H1 => r x H1 Q) : tUn r ta σ H Q := h
theorem x_call {sp : Sp} {E : XK} (h : tr σ H fun vs H1 => sp vs H1 Q E) : tCall sp [] E tr σ H Q := by
  have e : (fun vs H1 => sp (vs ++ []) H1 Q E) = fun vs H1 => sp vs H1 Q E := by funext vs H1; rw [List.append_nil]
  show tr σ H fun vs H1 => sp (vs ++ []) H1 Q E
  rw [e]; exact h
theorem x_cb {r : List V → Hp → VK → Prop} (h : tr σ H fun vs H1 => r vs H1 Q) : tCB r tr σ H Q := h
theorem x_nil (h : QA [] H) : tNil σ H QA := h
theorem x_cons (h : te σ H fun x H1 => tr σ H1 fun xs H2 => QA (x :: xs) H2) : tCons te tr σ H QA := h
theorem x_tup (h : tr σ H fun xs H1 => xs.length ≤ sizeLine ∧ ∀ p, H1 p = none → Q (.ref p) (upd H1 p (.tup xs))) : tTup tr σ H Q := h
theorem x_lst (h : tr σ H fun xs H1 => xs.length ≤ sizeLine ∧ ∀ p, H1 p = none → Q (.ref p) (upd H1 p (.lst xs))) : tLst tr σ H Q := h
theorem x_new {xs : List V} {P : Prop} (z : xs.length ≤ 100000) (h : P) : xs.length ≤ sizeLine ∧ P := ⟨Nat.le_trans z (by decide), h⟩
theorem x_if (h : c σ H fun b H1 => if b = true then ta σ H1 Q else tb σ H1 Q) : tIf c ta tb σ H Q := h
theorem x_andV (h : ta σ H fun x H1 => ∃ k, x = .bl k ∧ if k = true then tb σ H1 Q else Q (.bl false) H1) : tAndV ta tb σ H Q := h
theorem x_orV (h : ta σ H fun x H1 => ∃ k, x = .bl k ∧ if k = true then Q (.bl true) H1 else tb σ H1 Q) : tOrV ta tb σ H Q := h
theorem x_andP {b1 b2 : Bool} (ha : ∀ Q : VK, Q (.bl b1) H → ta σ H Q) (hb : b1 = true → ∀ Q : VK, Q (.bl b2) H → tb σ H Q) (h : Q (.bl (b1 && b2)) H) : tAndV ta tb σ H Q := by
  refine ha _ ⟨b1, rfl, ?_⟩
  cases b1
  · rw [if_neg Bool.false_ne_true]; exact h
  · rw [if_pos rfl]; exact hb rfl _ (by rw [Bool.true_and] at h; exact h)
theorem x_notV (h : ta σ H fun x H1 => ∃ k, x = .bl k ∧ Q (.bl (!k)) H1) : tNotV ta σ H Q := h
theorem x_chain {r r' : R2} (h : ta σ H fun x H1 => tb σ H1 fun y H2 => r x y H2 fun z H3 => ∃ k, z = .bl k ∧ if k = true then tc σ H3 fun z H4 => r' y z H4 Q else Q (.bl false) H3) : tChain r r' ta tb tc σ H Q := h
-- tests
theorem x_test (h : te σ H fun x H1 => ∃ k, x = .bl k ∧ QT k H1) : tTest te σ H QT := h
theorem x_B (h : te σ H fun x H1 => ∃ k, x = .bl k ∧ QT k H1) : tB te σ H QT := h
theorem x_and (h : c σ H fun b H1 => if b = true then d σ H1 QT else QT false H1) : tAnd c d σ H QT := h
theorem x_or (h : c σ H fun b H1 => if b = true then QT true H1 else d σ H1 QT) : tOr c d σ H QT := h
theorem x_not (h : c σ H fun b H1 => QT (!b) H1) : tNot c σ H QT := h
theorem x_yes (h : QT true H) : tYes σ H QT := h
theorem x_bl {b : Bool} {P : Bool → Prop} (h : P b) : ∃ k, V.bl b = V.bl k ∧ P k := ⟨b, rfl, h⟩
theorem x_ite {p : Prop} [Decidable p] {A B : Prop} (h1 : p → A) (h2 : ¬ p → B) : if decide p = true then A else B := by
  by_cases h : p
  · rw [if_pos (decide_eq_true h)]; exact h1 h
  · rw [if_neg (by rw [decide_eq_false h]; exact Bool.false_ne_true)]; exact h2 h
theorem x_iteN {p : Prop} [Decidable p] {A B : Prop} (h1 : ¬ p → A) (h2 : p → B) : if (!decide p) = true then A else B := by
  by_cases h : p
  · rw [if_neg (by rw [decide_eq_true h]; decide)]; exact h2 h
  · rw [if_pos (by rw [decide_eq_false h]; rfl)]; exact h1 h
theorem x_iteB {b : Bool} {A B : Prop} (h1 : b = true → A) (h2 : b = false → B) : if b = true then A else B := by
  cases b
  · rw [if_neg Bool.false_ne_true]; exact h2 rfl
  · rw [if_pos rfl]; exact h1 rfl
theorem x_iteNB {b : Bool} {A B : Prop} (h1 : b = false → A) (h2 : b = true → B) : if (!b) = true then A else B := by
  cases b
  · rw [if_pos (show (!false) = true from rfl)]; exact h1 rfl
  · rw [if_neg (show ¬ (!true) = true by decide)]; exact h2 rfl
theorem x_iteT {A B : Prop} (h : A) : if true = true then A else B := by rw [if_pos rfl]; exact h
theorem x_iteF {A B : Prop} (h : B) : if false = true then A else B := by rw [if_neg Bool.false_ne_true]; exact h
theorem x_iteNF {A B : Prop} (h : A) : if (!false) = true then A else B := by rw [if_pos (show (!false) = true from rfl)]; exact h
theorem x_iteNT {A B : Prop} (h : B) : if (!true) = true then A else B := by rw [if_neg (by decide)]; exact h
-- values
theorem x_I0 {g : Int → Int → V} {i j : Int} (h : Q (g i j) H) : rI0 g (.int i) (.int j) H Q := ⟨i, j, rfl, rfl, h⟩
theorem x_U {g : Int → V} {i : Int} (h : Q (g i) H) : rU g (.int i) H Q := ⟨i, rfl, h⟩
theorem x_ipI {f : Int → Int → Int} {i j : Int} (h : Q (.int (f i j)) H) : ipI f (.int i) (.int j) H Q := ⟨i, j, rfl, rfl, h⟩
theorem x_eqI {i j : Int} (h : Q (.bl (decide (i = j))) H) : rEq (.int i) (.int j) H Q := by
  refine ⟨rfl, ?_⟩
  have e : decide (V.int i = V.int j) = decide (i = j) := by
    by_cases h : i = j
    · subst h; simp
    · rw [decide_eq_false h, decide_eq_false (fun z => h (V.int.inj z))]
  rw [e]; exact h
theorem x_neI {i j : Int} (h : Q (.bl (!decide (i = j))) H) : rNe (.int i) (.int j) H Q := by
  refine ⟨rfl, ?_⟩
  have e : decide (V.int i = V.int j) = decide (i = j) := by
    by_cases h : i = j
    · subst h; simp
    · rw [decide_eq_false h, decide_eq_false (fun z => h (V.int.inj z))]
  rw [e]; exact h
theorem x_eqS {i j : Str} (h : Q (.bl (decide (i = j))) H) : rEq (.str i) (.str j) H Q := by
  refine ⟨rfl, ?_⟩
  have e : decide (V.str i = V.str j) = decide (i = j) := by
    by_cases h : i = j
    · subst h; simp
    · rw [decide_eq_false h, decide_eq_false (fun z => h (V.str.inj z))]
  rw [e]; exact h
theorem x_neS {i j : Str} (h : Q (.bl (!decide (i = j))) H) : rNe (.str i) (.str j) H Q := by
  refine ⟨rfl, ?_⟩
  have e : decide (V.str i = V.str j) = decide (i = j) := by
    by_cases h : i = j
    · subst h; simp
    · rw [decide_eq_false h, decide_eq_false (fun z => h (V.str.inj z))]
  rw [e]; exact h
theorem x_ixL {p : Addr} {xs : List V} {i : Int} {v : V} (hp : SqL K H p xs) (e : atI xs i = some v) (h : Q v H) : rIxL K (.ref p) (.int i) H Q := ⟨p, xs, i, v, rfl, rfl, hp, e, h⟩
theorem x_ixT {p : Addr} {xs : List V} {i : Int} {v : V} (hp : SqT K H p xs) (e : atI xs i = some v) (h : Q v H) : rIxT K (.ref p) (.int i) H Q := ⟨p, xs, i, v, rfl, rfl, hp, e, h⟩
theorem x_getL {p : Addr} {xs : List V} {i : Int} {v : V} (hp : H p = some (.lst xs)) (hi : i = (i.toNat : Nat)) (e : xs[i.toNat]? = some v) (h : Q v H) : rGetL (.ref p) (.int i) H Q := ⟨p, xs, i, i.toNat, v, rfl, rfl, hp, hi, e, h⟩
theorem x_setL {p : Addr} {xs : List V} {i : Int} {j : Nat} {v : V} {P : Hp → Prop} (hp : H p = some (.lst xs)) (e : ixN xs.length i = some j) (h : P (upd H p (.lst (xs.set j v)))) : rSetL (.ref p) (.int i) v H P := ⟨p, xs, i, j, rfl, rfl, hp, e, h⟩
theorem x_len {p : Addr} {xs : List V} {Z : List V → Prop} (hp : SqL K H p xs) (h : Z xs) : ∃ p' ys, [V.ref p] = [V.ref p'] ∧ (SqL K H p' ys ∨ SqT K H p' ys) ∧ Z ys := ⟨p, xs, rfl, .inl hp, h⟩
theorem x_lenT {p : Addr} {xs : List V} {Z : List V → Prop} (hp : SqT K H p xs) (h : Z xs) : ∃ p' ys, [V.ref p] = [V.ref p'] ∧ (SqL K H p' ys ∨ SqT K H p' ys) ∧ Z ys := ⟨p, xs, rfl, .inr hp, h⟩
theorem x_int1 {i : Int} {Z : Int → Prop} (h : Z i) : ∃ j, [V.int i] = [V.int j] ∧ Z j := ⟨i, rfl, h⟩
theorem x_toTup {p : Addr} {xs : List V} {Z : List V → Prop} {Y : Addr → List V → Prop} (hp : SqL K H p xs) (h : Z xs) : ∃ p' ys, [V.ref p] = [V.ref p'] ∧ ((SqL K H p' ys ∧ Z ys) ∨ Y p' ys) := ⟨p, xs, rfl, .inl ⟨hp, h⟩⟩
theorem x_all {p : Addr} {bs : List Bool} (hp : SqL K H p (bs.map V.bl)) (h : Q (.bl (bs.all id)) H) : rAll K [.ref p] H Q := ⟨p, bs, rfl, hp, h⟩
theorem x_cat {p q : Addr} {xs ys : List V} (hp : H p = some (.lst xs)) (hq : H q = some (.lst ys)) (z : xs.length + ys.length ≤ sizeLine) (h : ∀ l, H l = none → Q (.ref l) (upd H l (.lst (xs ++ ys)))) : rCat (.ref p) (.ref q) H Q := ⟨p, q, xs, ys, rfl, rfl, hp, hq, z, h⟩
theorem x_rep {p : Addr} {k : Int} {xs : List V} (hp : H p = some (.lst xs)) (h1 : -(2 ^ 63) ≤ k) (h2 : k < 2 ^ 63) (z : xs.length * k.toNat ≤ sizeLine) (h : ∀ l, H l = none → Q (.ref l) (upd H l (.lst (List.replicate k.toNat xs).flatten))) : rRep (.ref p) (.int k) H Q := ⟨p, k, xs, rfl, rfl, hp, h1, h2, z, h⟩
theorem x_slL {p : Addr} {xs : List V} {lo hi : Option Int} (hp : SqL K H p xs) (h : ∀ l, H l = none → Q (.ref l) (upd H l (.lst (cutV xs lo hi)))) : rSlL K (.ref p) lo hi H Q := ⟨p, xs, rfl, hp, h⟩
theorem x_sl {r : V → Option Int → Option Int → Hp → VK → Prop} {tl th : TO} (h : te σ H fun x H1 => tl σ H1 fun l H2 => th σ H2 fun u H3 => r x l u H3 Q) : tSl r te tl th σ H Q := h
theorem x_noPart {QO : Option Int → Hp → Prop} (h : QO none H) : tNoPart σ H QO := h
theorem x_part {QO : Option Int → Hp → Prop} (h : te σ H fun x H1 => ∃ i, x = .int i ∧ QO (some i) H1) : tPart te σ H QO := h
theorem x_isI {i : Int} {Z : Int → Prop} (h : Z i) : ∃ j, V.int i = V.int j ∧ Z j := ⟨i, rfl, h⟩
theorem x_isD {M : List Addr} {x : V} {T : String} {d : PyData} (hd : Dn M H x d) (hT : T = "int" ∨ T = "bool" ∨ T = "list" ∨ T = "tuple" ∨ T = "str" ∨ T = "dict") (h : Q (.bl (isT T d)) H) : rIsD [x, .ty T] H Q := ⟨x, T, d, M, rfl, hd, hT, h⟩
theorem x_repr {M : List Addr} {x : V} {d : PyData} (hd : Dn M H x d) (hs : Shows d) (h : Q (.str d.shown) H) : rRepr [x] H Q := ⟨x, d, M, rfl, hd, hs, h⟩
theorem x_dnew {H : Hp} {Q : VK} {σ : L2.St} (h : ∀ p, H p = none → Q (.ref p) (upd H p (.dK []))) : tDNewK σ H Q := h
theorem x_disp {H : Hp} {Q : VK} {σ : L2.St} {trs : List (TE × TE)} (h : ∀ p, H p = none → tPairs trs σ (upd H p (.dK [])) fun ps H2 => H2 p = some (.dK []) ∧ ∃ kvs : List (Key × V), ps = kvs.map (fun kv => (kV kv.1, kv.2)) ∧ kvs.length ≤ 15 ∧ Q (.ref p) (upd H2 p (.dK (mergeK [] kvs)))) : tDisp trs σ H Q := h
-- loops
theorem x_for {wi : TI} {g : TG} {tb : TS} (h : wi σ H fun J H1 => ∃ W : Nat → Nat → L2.St → Hp → Prop, (∃ m, W 0 m σ H1) ∧ ∀ i m σ H, W i m σ H →
    (J.stop i H ∧ D.nx σ H) ∨ (J.go i H ∧ ∃ N : L2.St → Hp → Prop, (∀ σ' H', N σ' H' → ∃ m', m' < m ∧ W (i + 1) m' σ' H') ∧ ∀ x H', J.yld i H x H' → g x σ H' fun σ2 H2 => tb { D with nx := N, ct := N, bk := D.nx } σ2 H2)) : tFor wi g tb D σ H := h
theorem x_iL {tl : TE} {R : It → Hp → Prop} (h : tl σ H fun x H1 => ∃ a, x = .ref a ∧ (∃ xs, SqL K H1 a xs) ∧ R (Itl K a) H1) : iList K tl σ H R := h
theorem x_iT {tl : TE} {R : It → Hp → Prop} (h : tl σ H fun x H1 => ∃ a, x = .ref a ∧ (∃ xs, SqT K H1 a xs) ∧ R (Itt K a) H1) : iTup K tl σ H R := h
theorem x_r1 {R : It → Hp → Prop} (h : tr σ H fun vs H1 => ∃ j : Int, vs = [.int j] ∧ -(2 ^ 62) ≤ j ∧ j < 2 ^ 62 ∧ R (Itr 0 j.toNat) H1) : iRng1 tr σ H R := h
theorem x_r2 {R : It → Hp → Prop} (h : tr σ H fun vs H1 => ∃ i j : Int, vs = [.int i, .int j] ∧ (-(2 ^ 62) ≤ i ∧ i < 2 ^ 62 ∧ -(2 ^ 62) ≤ j ∧ j < 2 ^ 62) ∧ R (Itr i (j - i).toNat) H1) : iRng2 tr σ H R := h
theorem x_lp {p : Addr} {xs : List V} {Z : Addr → Prop} (hp : SqL K H p xs) (h : Z p) : ∃ a, V.ref p = V.ref a ∧ (∃ xs, SqL K H a xs) ∧ Z a := ⟨p, rfl, ⟨xs, hp⟩, h⟩
theorem x_tp {p : Addr} {xs : List V} {Z : Addr → Prop} (hp : SqT K H p xs) (h : Z p) : ∃ a, V.ref p = V.ref a ∧ (∃ xs, SqT K H a xs) ∧ Z a := ⟨p, rfl, ⟨xs, hp⟩, h⟩
theorem x_rg {j : Int} {Z : Int → Prop} (h1 : -(2 ^ 62) ≤ j) (h2 : j < 2 ^ 62) (h : Z j) : ∃ j' : Int, [V.int j] = [V.int j'] ∧ -(2 ^ 62) ≤ j' ∧ j' < 2 ^ 62 ∧ Z j' := ⟨j, rfl, h1, h2, h⟩
theorem x_rg2 {i j : Int} {Z : Int → Int → Prop} (h1 : -(2 ^ 62) ≤ i ∧ i < 2 ^ 62 ∧ -(2 ^ 62) ≤ j ∧ j < 2 ^ 62) (h : Z i j) : ∃ i' j' : Int, [V.int i, V.int j] = [V.int i', V.int j'] ∧ (-(2 ^ 62) ≤ i' ∧ i' < 2 ^ 62 ∧ -(2 ^ 62) ≤ j' ∧ j' < 2 ^ 62) ∧ Z i' j' := ⟨i, j, rfl, h1, h⟩
theorem x_lc {wi : TI} {g : TG} {tt : TT} {vs : List Nat} (h : wi σ H fun J H1 => ∀ L, H1 L = none → ∃ W : Nat → Nat → Hp → Prop, (∃ m, W 0 m (upd H1 L (.lst []))) ∧ ∀ i m H, W i m H →
    (J.stop i H ∧ Q (.ref L) H) ∨ (J.go i H ∧ ∃ N : Hp → Prop, (∀ H', N H' → ∃ m', m' < m ∧ W (i + 1) m' H') ∧ ∀ x H', J.yld i H x H' → g x (wipe σ vs) H' fun σ2 H2 => wipe σ2 vs = wipe σ vs ∧ tt σ2 H2 fun b H3 =>
      if b = true then te σ2 H3 fun y H4 => ∃ acc, H4 L = some (.lst acc) ∧ acc.length < sizeLine ∧ N (upd H4 L (.lst (acc ++ [y]))) else N H3)) : tLc wi g tt te vs σ H Q := h
theorem x_acc {L : Addr} {acc : List V} {Z : List V → Prop} (hl : H L = some (.lst acc)) (z : acc.length < sizeLine) (h : Z acc) : ∃ acc, H L = some (.lst acc) ∧ acc.length < sizeLine ∧ Z acc := ⟨acc, hl, z, h⟩
theorem x_wiped {A B : L2.St} {Z : Prop} (e : A = B) (h : Z) : A = B ∧ Z := ⟨e, h⟩
/-- a statement and what follows it, with a word of one's own between them -/
def tCut (t u : TS) : TS := fun D σ H => ∃ M : L2.St → Hp → Prop, (∀ σ1 H1, M σ1 H1 → u D σ1 H1) ∧ t { D with nx := M } σ H
theorem pss_cut {st : Stmt} {more : List Stmt} (a : PS X st t) (b : PSs X more u) : PSs X (st :: more) (tCut t u) := by
  constructor
  rintro pins s σ H D I ⟨M, hu, ht⟩
  apply wpAny_execs_cons
  refine thn (a.run pins s σ H _ I ht) fun f s1 h => ?_
  match f, h with
  | .next, ⟨σ1, H1, I1, m⟩ => exact b.run pins s1 σ1 H1 D I1 (hu σ1 H1 m)
  | .ret _, h => exact h
  | .brk, h => exact h
  | .cont, h => exact h
theorem x_cut (M : L2.St → Hp → Prop) (h : t { D with nx := M } σ H) (k : ∀ σ1 H1, M σ1 H1 → u D σ1 H1) : tCut t u D σ H := ⟨M, k, h⟩
theorem x_mod {g : Int → Int → V} {i j : Int} (hj : 0 < j) (h : Q (g i j) H) : rI (fun _ j => 0 < j) g (.int i) (.int j) H Q := ⟨i, j, rfl, rfl, hj, h⟩
theorem x_mul {g : Int → Int → V} {i j : Int} (hj : CMul i j) (h : Q (g i j) H) : rI CMul g (.int i) (.int j) H Q := ⟨i, j, rfl, rfl, hj, h⟩
theorem x_div {g : Int → Int → V} {i j : Int} (hj : CDivW i j) (h : Q (g i j) H) : rI CDivW g (.int i) (.int j) H Q := ⟨i, j, rfl, rfl, hj, h⟩
theorem x_pow {g : Int → Int → V} {i j : Int} (hj : CPow i j) (h : Q (g i j) H) : rI CPow g (.int i) (.int j) H Q := ⟨i, j, rfl, rfl, hj, h⟩
theorem ne_of_none2 {p q : Addr} {o : HO} (h : H p = none) (h' : H q = some o) : p ≠ q := fun e => by rw [e, h'] at h; cases h
theorem upd_ne2 {p q : Addr} {o : HO} {r : Option HO} (h : p ≠ q) (e : H p = r) : upd H q o p = r := (upd_ne h).trans e
end
/-! From the law's promise to the row's end; defs by their names. -/

/-- nothing is tracked but the script -/
def scriptH (K : PySem.W.Frag) (a : Addr) (o : Obj) (ns : List Int) : Hp :=
  fun b => if b = a ∧ K.lookup a = none then some (.frz o (.lst (ns.map V.int))) else none

section
variable {P : Program} {w : World} {K : PySem.W.Frag} {mg mb : Str → Option Value}
theorem script_run {k : Nat} {fa a : Addr} {fd : FuncData} {x : Str} {sp : Sp} {z : Shared} {vs : List Value} {ns : List Int}
    (kin : K.In z.heap) (gl : z.heap.Ns mainGlobals mg) (bl : z.heap.Ns builtinsNs mb) (bb : ∀ y : Str, y ≠ "__name__" → mb y = bootBuiltins y)
    (lim : z.heap.NoLimit) (sys : ∃ mm, z.heap.Ns sysModules mm) (gens : z.gens = #[])
    (ha : z.heap.get? a = some { cls := .type "list", data := .seq vs.toArray }) (hi : IntsAre vs ns) (few : ns.length ≤ sizeLine) (room : Room k callerA)
    (F : ∀ base : Heap, K.In base → base.Ns mainGlobals mg → (∃ o, base.get? sysModules = some o) → FnG P w K mg base k fa fd [x] sp)
    (bind : ∀ (s : Shared) (u : Value), BindsTo s fd ⟨[u], []⟩ [(x, u)])
    (want : ∀ H : Hp, SqL K H a (ns.map V.int) → sp [.ref a] H (fun v _ => v = .bl true) E0) :
    codeAny (model P w) callerA (.call (.ref fa) ⟨[.ref a], []⟩)
      (fun r z' => r = .ok (.ret (.bool true)) ∧ OldK z.heap z'.heap ∧ z'.os = z.os ∧ AllBare z'.gens) z := by
  have rv : Vals (ns.map V.int) vs := vals_of_ints hi
  let ob : Obj := { cls := .type "list", data := .seq vs.toArray }
  let H := scriptH K a ob ns
  have only : ∀ b u, H b = some u → b = a ∧ K.lookup a = none ∧ u = .frz ob (.lst (ns.map V.int)) := by
    intro b u e
    show b = a ∧ _
    have e : (if b = a ∧ K.lookup a = none then some (HO.frz ob (.lst (ns.map V.int))) else none) = some u := e
    split at e
    · rename_i h; cases e; exact ⟨h.1, h.2, rfl⟩
    · cases e
  have seen : SqL K H a (ns.map V.int) := by
    cases q : K.lookup a with
    | none => exact .inl (.inr ⟨ob, if_pos ⟨rfl, q⟩⟩)
    | some o =>
      have e := kin a o q
      rw [ha] at e
      cases e
      exact .inr ⟨_, vs.toArray, _, q, rfl, rfl, rfl, by rw [List.size_toArray, hi.length]; exact few, by simpa using rv⟩
  have hok : HOk P w H z.heap := by
    intro b u e
    obtain ⟨rfl, _, rfl⟩ := only b u e
    exact ⟨ha, by rw [List.length_map]; exact few, vs, _, rv, ha⟩
  have notDict : ∀ {b : Addr} {o : Obj} {es : Array DictEntry} {ep : Nat}, z.heap.get? b = some o → o.data = .dict es ep → H b = none := by
    intro b o es ep e d
    cases q : H b with
    | none => rfl
    | some u =>
      obtain ⟨rfl, _, _⟩ := only b u q
      rw [ha] at e; cases e; cases d
  have ns_ : ∀ {b : Addr} {m : Str → Option Value}, z.heap.Ns b m → (hidT z.heap H).Ns b m := by
    rintro b m ⟨o, es, ep, e, d, r⟩
    exact ⟨o, es, ep, hidT_get e (notDict e d), d, r⟩
  have kin' : K.In (hidT z.heap H) := by
    intro b o e
    refine hidT_get (kin b o e) ?_
    cases q : H b with
    | none => rfl
    | some u =>
      obtain ⟨rfl, n, _⟩ := only b u q
      rw [n] at e; cases e
  have modu : Mod K mg (hidT z.heap H) :=
    ⟨kin', ns_ gl, ⟨mb, ns_ bl, bb⟩, by obtain ⟨mc, h1, h2⟩ := lim; exact ⟨mc, ns_ h1, h2⟩⟩
  have sys' : ∃ o, (hidT z.heap H).get? sysModules = some o := by
    obtain ⟨mm, h⟩ := sys
    obtain ⟨o, _, _, e, _⟩ := ns_ h
    exact ⟨o, e⟩
  have entry : Env0 P w K mg (hidT z.heap H) callerA [] z H :=
    ⟨rfl, modu, fun b o e => of_hidT e, Nat.le_of_eq (hidT_size _ _), trivial, fun b hb => absurd hb (by simp [frs]), hok, .of_eq gens⟩
  refine codeAny_mono ((F _ kin' (ns_ gl) sys').go callerA [] z H ⟨[.ref a], []⟩ [.ref a] [.ref a] _ _ room rfl entry (bind z (.ref a)) (.cons rfl .nil) (want H seen)) ?_
  intro r z' h
  match r, h with
  | .error e, h => exact False.elim h
  | .ok .next, h => exact False.elim h
  | .ok .brk, h => exact False.elim h
  | .ok .cont, h => exact False.elim h
  | .ok (.ret u), h =>
    obtain ⟨v, H', os, bare, un, hok', rv', q⟩ := h
    have q : v = .bl true := q
    subst q
    have rv' : u = Value.bool true := rv'
    subst rv'
    refine ⟨rfl, OldK.of_keep ?_, os, bare⟩
    intro b o e
    cases q : H b with
    | none => exact un.keep b o e q (by simp [frs]) (by simp)
    | some u =>
      obtain ⟨rfl, _, rfl⟩ := only b u q
      have e1 := (hok b _ q).1
      have e2 := (hok' b _ (un.frzs b ob _ q)).1
      rw [e] at e1; cases e1
      exact e2

theorem walk_g {l : PySem.W.OpenLaw} {n k : Nat} {q : Program} {loose : List Str} {XP : (Str → Option Value) → Heap → Prop} {YP : World → Heap → Prop} {d : DefRec} {KK : Params → PySem.W.Frag} {sp : PySem.W.Frag → Sp} {x : Str}
    (hn : l.most = some n) (small : n ≤ sizeLine) (hdf : d.params.defaults = []) (room : Room k callerA) (none_ : importsNone q = true)
    (hY : ∀ (w : World) (h : Heap), YP w h → (KK w.params).In h)
    (F : ∀ (w : World) (mg : Str → Option Value) (fa : Addr) (h : Heap), (KK w.params).In h → h.Ns mainGlobals mg → mg d.name = some (.ref fa) →
      ∃ fd : FuncData, (∀ (s : Shared) (u : Value), BindsTo s fd ⟨[u], []⟩ [(x, u)]) ∧
        ∀ base : Heap, (KK w.params).In base → base.Ns mainGlobals mg → (∃ o, base.get? sysModules = some o) → FnG l.prog w (KK w.params) mg base k fa fd [x] (sp (KK w.params)))
    (want : ∀ (K : PySem.W.Frag) (H : Hp) (a : Addr) (ns : List Int), ns.length ≤ n → SqL K H a (ns.map V.int) → sp K [.ref a] H (fun v _ => v = .bl true) E0) :
    PySem.W.WalkO q loose XP YP l.row.toRowW d [] (fun f vs => PySem.call f vs) := by
  refine Att.attach_call hn hdf ?_
  intro w s0 z mg mb fa o pm cd doc a vs ns G Y ho hd hcd hmg hobj hints hlen hg
  have kin := hY w _ Y
  obtain ⟨fd, hb, hF⟩ := F w mg fa _ kin G.T.g hmg
  have sys : ∃ mm, z.heap.Ns sysModules mm := by
    obtain ⟨mm, h, _⟩ := (G.T.seer none_).mods
    exact ⟨mm, h⟩
  exact script_run kin G.T.g G.T.b G.T.builtins G.T.nolimit sys hg hobj hints (Nat.le_trans hlen small) room hF hb (fun H hS => want _ H a ns hlen hS)

/-! ### defs by name -/
structure Df (K : PySem.W.Frag) (mg : Str → Option Value) (nm : Str) (st : Stmt) : Prop where
  ex : ∃ f fd, Fun K nm nm st f fd ∧ mg nm = some (.ref f)
theorem df_mk {h : Heap} {nm : Str} {st : Stmt} {f : Addr} {oc : Value} {od an : Option Addr} {osl : Array (Option Value)} {kV doc pm cdv ct : Value} (X : K.In h) (G : h.Ns mainGlobals mg)
    (a : PySem.W.nsIn K mainGlobals nm = some (some (.ref f)))
    (l : K.lookup f = some ⟨oc, od, .func (PySem.W.fnOf nm nm (defArgs st) (defBody st) (defScope st) .none kV doc pm an cdv ct), osl⟩)
    (c : PySem.W.codeIn K cdv nm = true) (k : PySem.W.keepIn K (.ref f) = true) : Df K mg nm st :=
  ⟨f, _, fun_mk l c k, PySem.W.mg_of X G a⟩

theorem kn_of {base : Heap} {nm : Str} {st : Stmt} {N ps : List Str} {k : Nat} {sp : Sp} (D : Df K mg nm st)
    (bd : ∀ (kV doc pm : Value) (an : Option Addr) (cdv ct : Value) (us : List Value), us.length = ps.length → bindArgs (PySem.W.fnOf nm nm (defArgs st) (defBody st) (defScope st) .none kV doc pm an cdv ct) ⟨us, []⟩ = pure (ps.zip us))
    (S : FnScope N ps (defScope st)) (len : ∀ vs H Q E, sp vs H Q E → vs.length = ps.length)
    (body : ∀ (f : Addr) (cd : Value) (B : Around) (fr : List Env) (z : Shared) (H : Hp) (vs : List V) (Q : VK) (E : XK),
      Room k (B.deeper (envOfC nm (defScope st) z.heap.objs.size f cd)) →
      (B.deeper (envOfC nm (defScope st) z.heap.objs.size f cd)).guards = some [] → sp vs H Q E →
      ∃ t, PSs (bodyX P w K mg base N nm st f cd B fr z H E) (defBody st) t ∧
        t { nx := fun _ H' => Q .non H', rt := Q } (start N vs) H) : Kn P w K mg base nm (k + 1) sp := by
  obtain ⟨f, fd, F, hm⟩ := D.ex
  exact ⟨f, fd, ps, FnG.mk' F S len (body f), hm, F.kp, F.binds bd⟩
/-- the law's own def, for the row's end -/
theorem law_of {nm x : Str} {st : Stmt} {N : List Str} {k : Nat} {sp : Sp} {fa : Addr} (D : Df K mg nm st) (hfa : mg nm = some (.ref fa))
    (bd : ∀ (kV doc pm : Value) (an : Option Addr) (cdv ct : Value) (us : List Value), us.length = ([x] : List Str).length → bindArgs (PySem.W.fnOf nm nm (defArgs st) (defBody st) (defScope st) .none kV doc pm an cdv ct) ⟨us, []⟩ = pure (([x] : List Str).zip us))
    (S : FnScope N [x] (defScope st)) (len : ∀ vs H Q E, sp vs H Q E → vs.length = ([x] : List Str).length)
    (body : ∀ (base : Heap), (∃ o, base.get? sysModules = some o) → ∀ (f : Addr) (cd : Value) (B : Around) (fr : List Env) (z : Shared) (H : Hp) (vs : List V) (Q : VK) (E : XK),
      Room k (B.deeper (envOfC nm (defScope st) z.heap.objs.size f cd)) →
      (B.deeper (envOfC nm (defScope st) z.heap.objs.size f cd)).guards = some [] → sp vs H Q E →
      ∃ t, PSs (bodyX P w K mg base N nm st f cd B fr z H E) (defBody st) t ∧
        t { nx := fun _ H' => Q .non H', rt := Q } (start N vs) H) :
    ∃ fd : FuncData, (∀ (s : Shared) (u : Value), BindsTo s fd ⟨[u], []⟩ [(x, u)]) ∧
      ∀ base : Heap, K.In base → base.Ns mainGlobals mg → (∃ o, base.get? sysModules = some o) → FnG P w K mg base (k + 1) fa fd [x] sp := by
  obtain ⟨f, fd, F, hm⟩ := D.ex
  cases hfa.symm.trans hm
  refine ⟨fd, fun s u => ?_, fun base _ _ sys => FnG.mk' F S len (body base sys fa)⟩
  obtain ⟨oc, od, kV, doc, pm, an, cd, ct, osl, rfl, lk, hc⟩ := F.ex
  exact .of_eq (bd kV doc pm an cd ct [u] rfl)
end
/-! What data show; texts times a number; data as the deep equality wants them. -/

/-! ### sizes of what is shown -/
structure Sz (d : PyData) (p q : Nat) : Prop where
  sh : d.showable = true
  sz : d.shown.length ≤ p
  dp : d.depth ≤ q
theorem Sz.shows {d : PyData} {p q : Nat} (h : Sz d p q) (hp : p ≤ 8000000) (hq : q ≤ 20) : Shows d := ⟨h.sh, Nat.le_trans h.sz hp, Nat.le_trans h.dp hq⟩
theorem Sz.mono {d : PyData} {p q p' q' : Nat} (h : Sz d p q) (hp : p ≤ p') (hq : q ≤ q') : Sz d p' q' := ⟨h.sh, Nat.le_trans h.sz hp, Nat.le_trans h.dp hq⟩
theorem piled_le {p : Nat} : ∀ {ts : List Str}, (∀ t ∈ ts, t.length ≤ p) → piled ts ≤ ts.length * (p + 2)
  | [], _ => by simp [piled]
  | t :: r, h => by
    rw [piled_cons]
    have h1 := h t (by simp)
    have h2 := piled_le (p := p) (ts := r) fun u hu => h u (by simp [hu])
    rw [List.length_cons, Nat.succ_mul]
    omega
theorem textFrom_le : ∀ (ts : List Str) (k : Nat) (acc : Str), (textFrom k acc ts).length ≤ acc.length + piled ts
  | [], k, acc => by rw [piled_nil]; exact Nat.le_refl _
  | t :: r, k, acc => by
    have h := textFrom_le r (k + 1) (acc ++ (if k > 0 then ", " else "" : String) ++ t)
    have e : (acc ++ (if k > 0 then ", " else "" : String) ++ t).length ≤ acc.length + 2 + t.length := by
      rw [strLen_append, strLen_append]
      split
      · exact Nat.le_of_eq rfl
      · show acc.length + 0 + t.length ≤ _; omega
    rw [piled_cons]
    show (textFrom (k + 1) _ r).length ≤ _
    omega
theorem listText_le (ts : List Str) : (listText ts).length ≤ piled ts + 2 := by
  unfold listText
  rw [strLen_append]
  have h := textFrom_le ts 0 "["
  have e : (("[" : String) : Str).length = 1 := rfl
  have e2 : (("]" : String) : Str).length = 1 := rfl
  omega
theorem join_le (ts : List Str) : (Str.join ", " ts).length ≤ piled ts := by
  cases ts with
  | nil => exact Nat.zero_le _
  | cons t r => have := join_length_add (t :: r) (by simp); omega
theorem tupleText_le (ts : List Str) : (tupleText ts).length ≤ piled ts + 3 := by
  unfold tupleText
  rw [strLen_append, strLen_append]
  have h := join_le ts
  have e : (("(" : String) : Str).length = 1 := rfl
  have e2 : (((if ts.length == 1 then ",)" else ")" : String)) : Str).length ≤ 2 := by split <;> decide
  omega
theorem dictText_le (ts : List Str) : (dictText ts).length ≤ piled ts + 2 := by
  unfold dictText
  rw [strLen_append, strLen_append]
  have h := join_le ts
  have e : (("{" : String) : Str).length = 1 := rfl
  have e2 : (("}" : String) : Str).length = 1 := rfl
  omega
theorem all_sz {p q : Nat} : ∀ {ds : List PyData}, (∀ d ∈ ds, Sz d p q) → PyData.showableAll ds = true ∧ (∀ t ∈ PyData.shownAll ds, t.length ≤ p) ∧ PyData.depthAll ds ≤ q ∧ (PyData.shownAll ds).length = ds.length
  | [], _ => ⟨rfl, by simp [PyData.shownAll], Nat.zero_le _, rfl⟩
  | d :: r, h => by
    obtain ⟨a, b, c, e⟩ := all_sz (p := p) (q := q) (ds := r) fun u hu => h u (by simp [hu])
    have hd := h d (by simp)
    refine ⟨by simp only [PyData.showableAll, hd.sh, a, Bool.and_self], ?_, by simp only [PyData.depthAll]; exact Nat.max_le.mpr ⟨hd.dp, c⟩, by simp [PyData.shownAll, e]⟩
    intro t ht
    simp only [PyData.shownAll] at ht
    rcases List.mem_cons.mp ht with rfl | ht
    · exact hd.sz
    · exact b t ht
theorem sz_list {p q : Nat} {ds : List PyData} (h : ∀ d ∈ ds, Sz d p q) : Sz (.list ds) (ds.length * (p + 2) + 3) (q + 1) := by
  obtain ⟨a, b, c, e⟩ := all_sz h
  refine ⟨by simpa only [PyData.showable] using a, ?_, by simp only [PyData.depth]; omega⟩
  simp only [PyData.shown]
  have h1 := listText_le (PyData.shownAll ds)
  have h2 := piled_le b
  rw [e] at h2
  omega
theorem sz_tuple {p q : Nat} {ds : List PyData} (h : ∀ d ∈ ds, Sz d p q) : Sz (.tuple ds) (ds.length * (p + 2) + 3) (q + 1) := by
  obtain ⟨a, b, c, e⟩ := all_sz h
  refine ⟨by simpa only [PyData.showable] using a, ?_, by simp only [PyData.depth]; omega⟩
  simp only [PyData.shown]
  have h1 := tupleText_le (PyData.shownAll ds)
  have h2 := piled_le b
  rw [e] at h2
  omega
theorem sz_none : Sz .none 5 0 := ⟨rfl, by decide, by decide⟩
theorem sz_bool (b : Bool) : Sz (.bool b) 5 0 := ⟨rfl, by cases b <;> decide, by cases b <;> decide⟩
theorem sz_int {i : Int} (h : i.natAbs < 2 ^ 200) : Sz (.int i) 201 0 := by
  have hl : i.natAbs.log2 < 1920 := Nat.lt_of_le_of_lt (by
    by_cases h0 : i.natAbs = 0
    · rw [h0]; decide
    · exact Nat.le_of_lt ((Nat.log2_lt h0).mpr h)) (by decide : 200 < 1920)
  refine ⟨by simpa only [PyData.showable] using decide_eq_true hl, ?_, Nat.le_refl _⟩
  simp only [PyData.shown]
  show (Str.ofString (toString i)).length ≤ _
  rw [PySem.ofString_length]
  cases i with
  | ofNat n =>
    show (Nat.repr n).length ≤ _
    exact Nat.le_trans (nat_repr_length_le (by decide) h) (by decide)
  | negSucc n =>
    show ("-" ++ Nat.repr (n + 1)).length ≤ _
    rw [String.length_append]
    have := nat_repr_length_le (n := n + 1) (k := 200) (by decide) h
    have e : ("-" : String).length = 1 := by decide
    omega
theorem sz_zero : Sz (.int 0) 1 0 := ⟨by decide, by decide, by decide⟩

/-! ### 'a' * n -/
section
variable {X : Cx}
def rMulStr : R2 := fun x y H Q => ∃ s n, x = .str s ∧ y = .int n ∧ MulOk s n ∧ Q (.str (Txt.mul s n)) H
theorem op_mulStr : OpR X (binaryOp .Mult) rMulStr := by
  intro pins s σ H x y v u Q I rx ry h
  obtain ⟨z, n, rfl, rfl, ok, q⟩ := h
  obtain ⟨t, rfl⟩ := rx
  obtain ⟨t', rfl⟩ := ry
  exact SB.mul ok fun t' k => ⟨.str _, H, I.tok _, ⟨_, rfl⟩, q⟩
theorem x_mulS {H : Hp} {Q : VK} {s : Str} {n : Int} (ok : MulOk s n) (h : Q (.str (Txt.mul s n)) H) : rMulStr (.str s) (.int n) H Q := ⟨s, n, rfl, rfl, ok, h⟩
end

/-! ### data without dicts, for == -/
mutual
theorem Dn.dp {K : PySem.W.Frag} {M : List Addr} {H : Hp} : ∀ {v : V} {d : PyData}, Dn M H v d → d.hasDict = false → Dp K H v d
  | _, _, .non, _ => .non
  | _, _, .bl b, _ => .bl b
  | _, _, .int i, _ => .int i
  | _, _, .str x, _ => .str x
  | _, _, .lst e _ a, h => .lst (SqL.of e) (DnAll.dp a (by simpa only [PyData.hasDict] using h))
  | _, _, .tup e _ a, h => .tup (SqT.of e) (DnAll.dp a (by simpa only [PyData.hasDict] using h))
  | _, _, .dic _ _ _ _, h => by simp only [PyData.hasDict] at h; cases h
theorem DnAll.dp {K : PySem.W.Frag} {M : List Addr} {H : Hp} : ∀ {v : List V} {d : List PyData}, DnAll M H v d → PyData.hasDictAll d = false → DpAll K H v d
  | _, _, .nil, _ => .nil
  | _, _, .cons a b, h => by
    simp only [PyData.hasDictAll, Bool.or_eq_false_iff] at h
    exact .cons (Dn.dp a h.1) (DnAll.dp b h.2)
end
/-- equal data are equal -/
theorem x_eqSame {K : PySem.W.Frag} {M : List Addr} {H : Hp} {Q : VK} {x y : V} {d : PyData} (hx : Dn M H x d) (hy : Dn M H y d) (sh : SeqAt.shaped d = true) (h : Q (.bl true) H) : rEqD K x y H Q := by
  have c := SeqAt.canLay_of_shaped sh
  have n := PyData.hasDict_of_canLay d c
  refine ⟨d, d, hx.dp n, hy.dp n, sh, sh, ?_⟩
  rw [SeqAt.eqv_refl d c]
  exact h
/-- new objects beside what stands -/
theorem new_out {H H1 : Hp} {b p : Addr} {o : HO} (S : Same H H1) (hb : H b = some o) (hp : H1 p = none) : p ∉ [b] := by
  intro m
  have e : p = b := by simpa using m
  subst e
  rw [S _ _ hb] at hp; cases hp
theorem grow {H H1 : Hp} {b p : Addr} {o u : HO} {vs : List V} {ds : List PyData} {d : PyData} (S : Same H H1) (hb : H b = some o) (A : DnAll [b] H1 vs ds) (hp : H1 p = none)
    (hd : p ∉ [b] → Dn [b] (upd H1 p u) (.ref p) d) : Same H (upd H1 p u) ∧ DnAll [b] (upd H1 p u) (vs ++ [.ref p]) (ds ++ [d]) :=
  ⟨S.trans (same_upd hp), (A.ext (Ext.same (same_upd hp))).app (.cons (hd (new_out S hb hp)) .nil)⟩
theorem put {H H1 : Hp} {b p : Addr} {o : HO} {vs : List V} {ds : List PyData} (u : HO) (S : Same H H1) (hb : H b = some o) (A : DnAll [b] H1 vs ds) (hp : H1 p = none) :
    Same H (upd H1 p u) ∧ DnAll [b] (upd H1 p u) vs ds ∧ p ∉ [b] ∧ upd H1 p u p = some u :=
  ⟨S.trans (same_upd hp), A.ext (Ext.same (same_upd hp)), new_out S hb hp, upd_same⟩
theorem DnAll.rep {M : List Addr} {H : Hp} {v : V} {d : PyData} (h : Dn M H v d) : ∀ n : Nat, DnAll M H (List.replicate n [v]).flatten (List.replicate n d)
  | 0 => .nil
  | n + 1 => by rw [List.replicate_succ, List.replicate_succ, List.flatten_cons]; exact .cons h (DnAll.rep h n)
theorem atI_of {α : Type} {xs : List α} {i : Int} (h0 : 0 ≤ i) (h1 : i < xs.length) : ∃ v, xs[i.toNat]? = some v ∧ atI xs i = some v := by
  have hi : i.toNat < xs.length := by omega
  refine ⟨xs[i.toNat], List.getElem?_eq_getElem hi, ?_⟩
  have e : i = (i.toNat : Nat) := by omega
  have := atI_nat (xs := xs) (j := i.toNat) (v := xs[i.toNat]) (List.getElem?_eq_getElem hi)
  rw [← e] at this
  exact this
theorem x_revL {K : PySem.W.Frag} {H : Hp} {p : Addr} {xs : List V} {Z : List V → Prop} (hp : SqL K H p xs) (h : Z xs) : ∃ a ys, V.ref p = .ref a ∧ SqL K H a ys ∧ Z ys := ⟨p, xs, rfl, hp, h⟩
theorem x_rev {K : PySem.W.Frag} {σ : L2.St} {H : Hp} {Q : VK} {te : TE} (h : te σ H fun x H1 => ∃ a ys, x = .ref a ∧ SqL K H1 a ys ∧ ∀ l, H1 l = none → Q (.ref l) (upd H1 l (.lst ys.reverse))) : tRevL K te σ H Q := h
theorem ix_at {H : Hp} {p : Addr} {xs : List V} {i : Int} (_ : H p = some (.lst xs)) (h0 : 0 ≤ i) (h1 : i < xs.length) : ∃ v, xs[i.toNat]? = some v ∧ atI xs i = some v := atI_of h0 h1
/-! Sets of tuples of ints, made by a comprehension; their length. -/
/-- what is wanted of adding a value to the set at an address -/
abbrev TAdd := Addr → V → Hp → (Hp → Prop) → Prop
def AddR (X : Cx) (add : TAdd) : Prop :=
  ∀ (pins : List (Addr × Obj)) (σ : L2.St) (H : Hp) (s : Shared) (L : Addr) (y : V) (u : Value) (N : Hp → Prop), Inv X pins σ H s → RelV y u → add L y H N →
    wpAny (model X.prog X.w) X.A (call (.builtin "set.add") [.ref L, u]) (fun _ s' => ∃ H', Inv X pins σ H' s' ∧ N H') (fun _ _ => False) s
/-- the reading of a set comprehension: Z the new set, add what each value's adding asks and leaves -/
def tSetC (Z : Addr → HO) (add : TAdd) (wi : TI) (g : TG) (tt : TT) (te : TE) (vs : List Nat) : TE := fun σ H Q =>
  wi σ H fun J H1 => ∀ L, H1 L = none → ∃ W : Nat → Nat → Hp → Prop, (∃ m, W 0 m (upd H1 L (Z L))) ∧ ∀ i m H2, W i m H2 →
    (J.stop i H2 ∧ Q (.ref L) H2) ∨ (J.go i H2 ∧ ∃ N : Hp → Prop, (∀ H3, N H3 → ∃ m3, m3 < m ∧ W (i + 1) m3 H3) ∧ ∀ x H3, J.yld i H2 x H3 →
      g x (wipe σ vs) H3 fun τ H4 => wipe τ vs = wipe σ vs ∧ tt τ H4 fun b H5 => if b = true then te τ H5 fun y H6 => add L y H6 N else N H5)
def freshSet (w : World) : Obj := { cls := .type "set", dict := none, data := .set #[] 0 (.fresh 0 0 (!w.params.followText "set-order")) }

section
variable {X : Cx}
theorem setc_go {pins : List (Addr × Obj)} {s : Shared} {σ : L2.St} {H : Hp} {Q : VK} {elt tg iter : Expr} {ifs : List Expr} {sc : Scope} {own : List (PySem.Str × Nat)} {p p2 : Pos}
    {wi : TI} {g : TG} {tt : TT} {te : TE} {Z : Addr → HO} {add : TAdd}
    (calm : X.calm = true) (nodup : X.N.Nodup) (I : Inv X pins σ H s) (hi : PI X tg iter wi) (bo : BlkOk X.N X.env.scope sc own)
    (pg : ∀ s H C cl fp, PG (X.blk s H sc (compEnvC sc cl C X.env) fp) tg g)
    (pt : ∀ s H C cl fp, PTs (X.blk s H sc (compEnvC sc cl C X.env) fp) ifs tt)
    (pe : ∀ s H C cl fp, PE (X.blk s H sc (compEnvC sc cl C X.env) fp) elt te)
    (pa : ∀ s H C cl fp, AddR (X.blk s H sc (compEnvC sc cl C X.env) fp) add)
    (fr : ∀ (H : Hp) (h : Heap) (a : Addr), h.get? a = some (freshSet X.w) → ObjOk X.prog X.w H h a (Z a))
    (fold : ∀ x, foldedSetIterable iter X.env x = pure x)
    (want : tSetC Z add wi g tt te (own.map (·.2)) σ H Q) :
    wpAny (model X.prog X.w) X.A (comprehension (.SetComp elt [⟨tg, iter, ifs, 0⟩] sc p) sc X.env p2 (newSet (.type "set")) false (eval iter X.env) none) (EP X pins σ Q) X.xe s := by
  let vs := own.map (·.2)
  have cells : ∀ y ∈ sc.names, y.2 = .free → ∃ c, X.env.cells.lookup y.1 = some c := by
    intro y hy e
    rcases bo.free y hy e with h | h
    · exact I.ok.has _ (Or.inl h)
    · exact I.ok.has _ (Or.inr h)
  apply wpAny_comprehension_free rfl fold (closure_ok cells) bo.kind (fun y hy e => by rw [bo.uniq y hy, e])
  refine thn (hi.run pins s σ H _ I want) ?_
  intro xv sa ha
  refine thn ha ?_
  rintro itv sb ⟨it, fp, tn, J, H2, rfl, Ib, T, stb, fpb, q⟩
  apply PpSet.newSet_ok
  apply newEnv_comp
  obtain ⟨L, eL⟩ : ∃ L, sb.heap.objs.size = L := ⟨_, rfl⟩
  rw [eL]
  obtain ⟨W, ⟨m0, w0⟩, turn⟩ := q L (Ib.hok.fresh (Nat.le_of_eq eL))
  obtain ⟨sd, ed⟩ : ∃ sd : Shared, sd = { sb with heap := sb.heap.push (freshSet X.w) } := ⟨_, rfl⟩
  have hd : sd.heap = sb.heap.push (freshSet X.w) := by rw [ed]
  have Id : Inv X pins σ (upd H2 L (Z L)) sd := by
    rw [ed]
    refine Ib.laid (t' := sb.toks) (fun b o e => Heap.get?_push_of_some _ e) (Nat.le_of_eq eL) (fr _ _ _ ?_)
    rw [← eL]
    exact Heap.get?_push_size _ rfl
  have old : ∀ b ∈ fp, b < sb.heap.objs.size := by
    intro b hb
    obtain ⟨o, e, _⟩ := T.obj _ _ stb b hb
    exact Heap.lt_size e
  have fpd : ∀ b ∈ fp, FpOk X pins (upd H2 L (Z L)) b ∧ b < sd.heap.objs.size := by
    intro b hb
    have lt := old b hb
    have ne : b ≠ L := by rw [← eL]; exact Nat.ne_of_lt lt
    constructor
    · exact ⟨(upd_ne ne).trans (fpb b hb).1, (fpb b hb).2⟩
    · rw [hd, Heap.size_push]; exact Nat.lt_succ_of_lt lt
  have std : tn 0 sd.heap := T.keep _ _ _ stb (fun b _ o e => by rw [hd]; exact Heap.get?_push_of_some _ e)
  have Ie := block_start Id bo nodup fpd
  have none_fp : ∀ b ∈ fp, upd H2 L (Z L) b = none := fun b hb => (fpd b hb).1.1
  let C := sd.heap.objs.size
  let cl := cellsFrom (C + 1) sc.names (cloFrom X.env.cells sc.names [])
  have g1 := pg sd (upd H2 L (Z L)) C cl fp
  have t1 := pt sd (upd H2 L (Z L)) C cl fp
  have e1 := pe sd (upd H2 L (Z L)) C cl fp
  have a1 := pa sd (upd H2 L (Z L)) C cl fp
  obtain ⟨ce, ece⟩ : ∃ ce, compEnvC sc cl C X.env = ce := ⟨_, rfl⟩
  have locC : ce.locals = C := by rw [← ece]; rfl
  rw [ece] at g1 t1 e1 a1
  rw [show compEnvC sc (cellsFrom (sd.heap.objs.size + 1) sc.names (cloFrom X.env.cells sc.names [])) sd.heap.objs.size X.env = ce from ece] at Ie
  obtain ⟨He, eHe⟩ : ∃ He, upd H2 L (Z L) = He := ⟨_, rfl⟩
  rw [eHe] at Id Ie g1 t1 e1 a1 w0 none_fp fpd
  obtain ⟨se, ese⟩ : ∃ se : Shared, se = { sd with heap := pushCells (sd.heap.push { cls := .type "dict", data := .dict #[] }) sc.names } := ⟨_, rfl⟩
  rw [← ese] at Ie
  have ste : tn 0 se.heap := T.keep _ _ _ std (fun b _ o e => by rw [ese]; exact pushCells_keeps _ _ _ _ (Heap.get?_push_of_some _ e))
  have stay : ∀ {τ : L2.St} {H' : Hp} {s' : Shared}, Inv (X.blk sd He sc ce fp) [] τ H' s' → (∀ b ∈ fp, H' b = none) → ∀ b ∈ fp, FpOk (X.blk sd He sc ce fp) [] H' b := by
    intro τ H' s' J hn b hb
    exact ⟨hn b hb, (J.ok.exf b hb).1, J.ok.exfs b hb, Or.inl hb, (J.ok.exf b hb).2, fun q hq => by cases hq⟩
  have loop : codeAny (model X.prog X.w) X.A (.compLoop (.SetComp elt [⟨tg, iter, ifs, 0⟩] sc p) 0 (.ref it) (.ref L) ce) (compPost (model X.prog X.w) X.A X.xe none (EP X pins σ Q) (.ref L) C) se := by
    apply PpSet.compLoopS_any (fun n z => ∃ i H', Inv (X.blk sd He sc ce fp) [] (wipe σ vs) H' z ∧ tn i z.heap ∧ (∀ b ∈ fp, H' b = none) ∧ W i n H') ?_ m0 ⟨0, He, Ie, ste, none_fp, w0⟩
    rintro n z ⟨i, Hz, Iz, stz, nz, wz⟩
    rcases turn i n Hz wz with ⟨stop, fin⟩ | ⟨more, N, back, step⟩
    · refine thnF (T.done (X.blk sd He sc ce fp) rfl rfl rfl calm i [] z _ Hz (fun _ _ => False) Iz (stay Iz nz) stz stop) ?_
      rintro r y ⟨rfl, Iy⟩
      have Ix : Inv X pins σ Hz y := Id.call' (ch := fp) Iy.os Iy.base Iy.hok Iy.bare fun b hb =>
        ⟨(fpd b hb).1.2.2.2.1, (fpd b hb).1.2.1, (fpd b hb).1.2.2.2.2.1, (fpd b hb).1.2.2.2.2.2⟩
      have nC : Hz C = none := by rw [← locC]; exact Iy.free
      obtain ⟨m, hn, _⟩ := Iy.loc
      have hn : y.heap.Ns C m := by rw [← locC]; exact hn
      refine ⟨m, hn, fun h2 sb2 => ?_⟩
      obtain ⟨f0, f1, f2, f3, f4, f5⟩ := Id.fpOk (H' := Hz) (Nat.le_refl _) nC
      exact ⟨.ref L, Hz, Ix.turned (t' := y.toks) (fun b o hb e => (sb2.2 b hb).trans e) f0 f1 f3 f4 f5, rfl, fin⟩
    · refine thnF (T.item (X.blk sd He sc ce fp) rfl rfl rfl calm i [] z _ Hz (fun _ _ => False) Iz (stay Iz nz) stz more) ?_
      rintro r y ⟨u, rfl, hy⟩
      refine thnF hy ?_
      rintro _ y2 ⟨x, Hy, Iy, ry, yy, sty, ny⟩
      have Ip := Iy.pinned (stay Iy ny) (T.obj _ _ sty)
      refine thnF (g1.run _ y2 _ Hy x u _ Ip ry (step x Hy yy)) ?_
      rintro _ y3 ⟨τ, H3, I3, hw, q3⟩
      refine thnF (t1.run _ y3 τ H3 _ I3 q3) ?_
      rintro b y4 ⟨H4, I4, q4⟩
      have over : ∀ {s' : Shared} {H' : Hp}, Inv (X.blk sd He sc ce fp) ([] ++ pinsAt fp y2.heap) τ H' s' → N H' →
          ∃ m, m < n ∧ ∃ i H', Inv (X.blk sd He sc ce fp) [] (wipe σ vs) H' s' ∧ tn i s'.heap ∧ (∀ b ∈ fp, H' b = none) ∧ W i m H' := by
        intro s' H' J nx
        obtain ⟨m', lt, w'⟩ := back H' nx
        have pinned : ∀ b ∈ fp, ∀ o, y2.heap.get? b = some o → s'.heap.get? b = some o ∧ H' b = none := by
          intro b hb o e
          have k := J.pin (b, o) (List.mem_append_right _ (List.mem_append_right _ (mem_pinsAt hb e)))
          exact ⟨k.1, k.2.1⟩
        have len : (wipe σ vs).length = τ.length := by rw [← hw, wipe_length]
        refine ⟨m', lt, i + 1, H', (J.unpinned (pins := [])).weak len ?_, T.keep _ _ _ sty (fun b hb o e => (pinned b hb o e).1), ?_, w'⟩
        · intro j v e
          rw [← hw] at e
          exact (wipe_some e).1
        · intro b hb
          obtain ⟨o, e, _⟩ := T.obj _ _ sty b hb
          exact (pinned b hb o e).2
      cases b
      · rw [if_neg Bool.false_ne_true] at q4 ⊢
        exact over I4 q4
      · rw [if_pos rfl] at q4 ⊢
        refine thnF (e1.run _ y4 τ H4 _ I4 q4) ?_
        rintro v y5 ⟨yv, H5, I5, r5, q5⟩
        refine thnF (a1 _ τ H5 y5 L yv v N I5 r5 q5) ?_
        rintro _ y6 ⟨H6, I6, q6⟩
        exact over I6 q6
  have res := PpSet.codeAny_compStart_set loop (T.self X.A 0 _ _ _ ste loop)
  rw [ese, ed] at res
  rw [← ece] at res
  subst ed
  exact res
theorem pe_setC {elt tg iter : Expr} {ifs : List Expr} {sc : Scope} {own : List (PySem.Str × Nat)} {p : Pos} {wi : TI} {g : TG} {tt : TT} {te : TE} {Z : Addr → HO} {add : TAdd}
    (calm : X.calm = true) (nodup : X.N.Nodup) (hi : PI X tg iter wi) (bo : BlkOk X.N X.env.scope sc own)
    (pg : ∀ s H C cl fp, PG (X.blk s H sc (compEnvC sc cl C X.env) fp) tg g)
    (pt : ∀ s H C cl fp, PTs (X.blk s H sc (compEnvC sc cl C X.env) fp) ifs tt)
    (pe : ∀ s H C cl fp, PE (X.blk s H sc (compEnvC sc cl C X.env) fp) elt te)
    (pa : ∀ s H C cl fp, AddR (X.blk s H sc (compEnvC sc cl C X.env) fp) add)
    (fr : ∀ (H : Hp) (h : Heap) (a : Addr), h.get? a = some (freshSet X.w) → ObjOk X.prog X.w H h a (Z a))
    (fold : ∀ x, foldedSetIterable iter X.env x = pure x := by intro _; rfl) :
    PE X (.SetComp elt [⟨tg, iter, ifs, 0⟩] sc p) (tSetC Z add wi g tt te (own.map (·.2))) :=
  ⟨fun pins s σ H Q I h => by
    rw [PpSet.eval_SetComp]
    exact setc_go calm nodup I hi bo pg pt pe pa fr fold h⟩
/-- adding a tuple of ints -/
def addT (K : PySem.W.Frag) (P : Program) (w : World) : TAdd := fun D y H N => ∃ (a : Addr) (k : List Int) (L : List (Addr × List Int)), y = .ref a ∧ SqT K H a (k.map V.int) ∧ H D = some (SetTO P w D L) ∧
  (∀ q ∈ L, SqT K H q.1 (q.2.map V.int)) ∧ L.length + 1 < 64 ∧ ∀ L', (k ∈ L.map (·.2) → L' = L) → (k ∉ L.map (·.2) → L'.Perm ((a, k) :: L)) → N (upd H D (SetTO P w D L'))
theorem addT_ok (hu : X.A.units + 64 < cLine) : AddR X (addT X.K X.prog X.w) := by
  intro pins σ H s D y u N I ry h
  obtain ⟨a, k, L, rfl, ha, hD, hL, few, q⟩ := h
  cases (show u = Value.ref a from ry)
  obtain ⟨es, ep, t, R⟩ := SetT0.full (I.hok D _ hD).1 (fun q hq => I.isT (hL q hq))
  have hx := I.isT ha
  obtain ⟨o, ho, ex, hd⟩ := R.ob
  have ty : s.TypeIs (.ref D) "set" := ⟨o, ho, ex.1⟩
  refine wpAny_call_entry F.slot_set_add ty F.entry_set_add ?_ (F.args_set_add_2 _ _)
  unfold Builtin.«set.add» Builtin.Frozenset.oneOther
  simp only [List.isEmpty_nil, bind_assoc]
  unfold Builtin.Frozenset.addrOf setAdd
  apply wpAny_bind
  apply wpAny_pure
  try dsimp only
  apply wpAny_bind
  apply wpAny_pure
  try dsimp only
  apply wpAny_bind
  apply wpAny_holding
  apply wpAny_bind
  refine wpAny_pyHash_tuple (by show X.A.units + 1 < cLine; omega) hx ?_
  refine add_at (s := { s with toks := s.toks + (k.length + 1) }) R hx (by show X.A.units + 1 < cLine; omega) few ?_
  intro b h2 L2 es2 ep2 t2 sb R2 c1 c2
  have ex2 : ∃ u, h2.get? D = some u := by obtain ⟨o2, ho2, _⟩ := R2.ob; exact ⟨o2, ho2⟩
  show wpAny _ _ (ret Value.none) _ _ _
  refine wpAny_pure ⟨_, rfl, _, ?_, q L2 c1 c2⟩
  exact I.write (e := D) (t' := s.toks + (k.length + 1)) (by rw [hD]; trivial) (Or.inl rfl) (fun b u hb e => (sb.2 b hb).trans e) ex2 (setTO_new R2.t0)
theorem freshT (H : Hp) (h : Heap) (a : Addr) (e : h.get? a = some (freshSet X.w)) : ObjOk X.prog X.w H h a (SetTO X.prog X.w a []) := setTO_new (setTR_fresh e).t0
/-- len of such a set -/
def rLenT (K : PySem.W.Frag) (P : Program) (w : World) : List V → Hp → VK → Prop := fun xs H Q => ∃ a L, xs = [.ref a] ∧ H a = some (SetTO P w a L) ∧ (∀ q ∈ L, SqT K H q.1 (q.2.map V.int)) ∧ Q (.int L.length) H
theorem call_lenT : CallR X (.builtin "len") (rLenT X.K X.prog X.w) := by
  intro pins s σ H xs us Q I r h
  obtain ⟨a, L, rfl, ha, hL, q⟩ := h
  rw [Vals.ref1 r]
  obtain ⟨es, ep, t, R⟩ := SetT0.full (I.hok a _ ha).1 (fun p hp => I.isT (hL p hp))
  obtain ⟨o, ho, ex, hd⟩ := R.ob
  have few := R.few
  have sz := R.size
  refine call_len_set ho ex hd R.fits (by omega) ⟨.int L.length, H, I.tok _, ⟨_, by rw [sz]⟩, q⟩
/-- list.count of data -/
def rCntD : V → List V → Hp → VK → Prop := fun x xs H Q => ∃ (y : V) (M : List Addr) (d : PyData) (ds : List PyData), xs = [y] ∧ Dn M H x (.list ds) ∧ Dn M H y d ∧ PyData.plainAll ds = true ∧ d.plain = true ∧ d.depth ≤ 20 ∧
  Q (.int ((ds.countP fun z => PyData.eqv z d : Nat) : Int)) H
theorem mt_count (hu : X.A.units + 64 < cLine) : MtR X "list.count" rCntD := by
  intro pins s σ H x xs v us Q I rx rxs h
  obtain ⟨y, M, d, ds, rfl, hx, hy, p1, p2, dp, q⟩ := h
  obtain ⟨u, rfl, ru⟩ := rxs.one
  obtain ⟨bs, rd, _⟩ := Dn.reads I d y u hy ru
  cases hx with
  | lst ha _ hds =>
    cases rx
    obtain ⟨_, its, n, rv, ho⟩ := I.hok _ _ ha
    obtain ⟨as, rs, _⟩ := DnAll.reads I ds _ its hds rv
    refine PySem.SeqAt.count_list_data ⟨_, ho, rfl, _, rfl⟩ rs rd p1 p2 (by show X.A.units + 1 + _ < cLine; have := Nat.min_le_right (PyData.depthAll ds) d.depth; omega) ⟨.int _, H, I.tok _, ⟨_, rfl⟩, q⟩
end
/-! Tuples: turned about, cut, joined, as data. -/
section
variable {prog : Program} {w : World} {A : Around} {E : Value → Shared → Prop} {s : Shared}
theorem rev_adjust (n : Nat) : Builtin.Slice.sliceAdjust none none (-1) (n : Int) = ((n : Int) - 1, -1) := by
  simp [Builtin.Slice.sliceAdjust]
theorem rev_places (n : Nat) : Builtin.Slice.slicePlaces ((n : Int) - 1) (-1) (-1) = n := by
  unfold Builtin.Slice.slicePlaces
  rw [if_neg (by decide)]
  by_cases h : (n : Int) - 1 > -1
  · simp only [h, if_true]; simp
  · simp only [h, if_false]
    first | done | omega
theorem fmap_of {α β : Type} {f : α → Option β} {g : α → β} : ∀ {l : List α}, (∀ m ∈ l, f m = some (g m)) → l.filterMap f = l.map g
  | [], _ => rfl
  | a :: l, h => by
    rw [List.filterMap_cons, h a (List.mem_cons_self ..), List.map_cons, fmap_of fun m hm => h m (List.mem_cons_of_mem _ hm)]
theorem rev_pick (xs : Array Value) : ((List.range xs.size).filterMap fun (m : Nat) => xs[((xs.size : Int) - 1 + (m : Int) * -1).toNat]?).toArray = xs.toList.reverse.toArray := by
  congr 1
  apply List.ext_getElem?
  intro i
  have e : ((List.range xs.size).filterMap fun (m : Nat) => xs[((xs.size : Int) - 1 + (m : Int) * -1).toNat]?) = (List.range xs.size).map fun m => xs.getD (xs.size - 1 - m) .none := by
    refine fmap_of fun m hm => ?_
    have := List.mem_range.mp hm
    have h1 : ((xs.size : Int) - 1 + (m : Int) * -1).toNat = xs.size - 1 - m := by omega
    have h2 : xs.size - 1 - m < xs.size := by omega
    rw [h1, Array.getElem?_eq_getElem h2]
    simp [Array.getD, h2]
  rw [e]
  by_cases hi : i < xs.size
  · have h2 : xs.size - 1 - i < xs.size := by omega
    rw [List.getElem?_map, List.getElem?_range hi, List.getElem?_reverse (by simpa using hi)]
    simp [Array.getD, h2]
  · rw [List.getElem?_eq_none (by simp; omega), List.getElem?_eq_none (by simp; omega)]
theorem sliceApplied_rev {sl : Addr} {n : Nat} {t : Tok} {Q : Int × Int × Nat → Shared → Prop} (hs : s.heap.IsSliceOf sl .none .none (.int (-1) t))
    (h : Q ((n : Int) - 1, -1, n) s) : wpAny (model prog w) A (Builtin.Slice.sliceApplied (.ref sl) (pure (n : Int))) Q E s := by
  obtain ⟨os, hos, hcs, hds⟩ := id hs
  unfold Builtin.Slice.sliceApplied Builtin.Slice.sliceFields
  refine wpAny_bind (wpAny_bind (wpAny_field hos hds (x := .none) rfl (wpAny_bind (wpAny_field hos hds (x := .none) rfl (wpAny_bind (wpAny_field hos hds (x := .int (-1) t) rfl (wpAny_pure ?_)))))))
  refine wpAny_bind (slicePart_int ?_)
  show wpAny _ _ (if ((-1 : Int) == 0) = true then _ else _) _ _ s
  rw [if_neg (by decide)]
  refine wpAny_bind (slicePart_none (wpAny_bind (slicePart_none (wpAny_bind (wpAny_pure ?_)))))
  show wpAny _ _ (match Builtin.Slice.sliceAdjust none none (-1) (n : Int) with | (lo, hi) => pure (lo, (-1 : Int), Builtin.Slice.slicePlaces lo hi (-1))) _ _ s
  rw [rev_adjust n]
  show wpAny _ _ (pure ((n : Int) - 1, (-1 : Int), Builtin.Slice.slicePlaces ((n : Int) - 1) (-1) (-1))) _ _ s
  rw [rev_places]
  exact wpAny_pure h
theorem getItem_tuple_rev {t sl : Addr} {items : Array Value} {k : Tok} {Q : Value → Shared → Prop} (ht : IsTup s.heap t items) (hs : s.heap.IsSliceOf sl .none .none (.int (-1) k))
    (h : Q (.ref s.heap.objs.size) { s with heap := s.heap.push { cls := .type "tuple", data := .seq items.toList.reverse.toArray } })
    (hsz : items.size ≤ sizeLine) : wpAny (model prog w) A (getItem (.ref t) (.ref sl)) Q E s := by
  have htake : sizeOk (.seq items.toList.reverse.toArray) := by
    show items.toList.reverse.toArray.size ≤ sizeLine
    rw [List.size_toArray, List.length_reverse, Array.length_toList]
    exact hsz
  obtain ⟨os, hos, hcs, hds⟩ := id hs
  have hTs : s.TypeIs (.ref sl) "slice" := ⟨os, hos, hcs⟩
  unfold getItem
  try with_reducible refine wpAny_holding ?_
  first | refine wpAny_bind (wpAny_pure ?_) | skip
  refine wpAny_bind (wpAny_sequenceKey ht.typeIs (by decide) ?_)
  refine wpAny_bind (wpAny_callSpecial?_slot (name := Str.ofString "__getitem__") ht.typeIs PyProof.Rows.slot_tuple_getitem
    (wpAny_call_entry PyProof.Rows.slot_tuple_getitem ht.typeIs PySem.F.entry_tuple_getitem ?_ (PySem.F.args_tuple_getitem_2 _ _)))
  show wpAny _ _ (Builtin.Tuple.tupleItemsOf (.ref t) >>= _) _ _ s
  refine wpAny_bind (tupleItemsOf_ ht ?_)
  refine wpAny_bind (wpAny_typeOf hTs ?_)
  rw [if_pos (by decide)]
  refine wpAny_bind (sliceApplied_rev hs ?_)
  have hno : ¬ ((((items.size : Int) - 1) == 0 && (-1 : Int) == 1 && items.size == items.size) = true) := by
    intro q
    rw [Bool.and_eq_true, Bool.and_eq_true] at q
    have q1 : (-1 : Int) = 1 := eq_of_beq q.1.2
    omega
  show wpAny _ _ (if (((items.size : Int) - 1) == 0 && (-1 : Int) == 1 && items.size == items.size) = true then _ else _) _ _ s
  rw [if_neg hno, rev_pick]
  first
    | exact wpAny_bind (m := Builtin.Tuple.tupleExact _) (wpAny_newObj_type (wpAny_pure ⟨_, rfl, wpAny_pure h⟩) htake)
    | exact wpAny_bind (m := Builtin.Tuple.tupleExact _) (wpAny_newObj_type (wpAny_bind (wpAny_pure (wpAny_pure ⟨_, rfl, wpAny_pure h⟩))) htake)
    | exact wpAny_bind (wpAny_bind (m := Builtin.Tuple.tupleExact _) (wpAny_newObj_type (wpAny_pure (wpAny_pure ⟨_, rfl, wpAny_pure h⟩)) htake))
    | exact wpAny_bind (wpAny_bind (m := Builtin.Tuple.tupleExact _) (wpAny_newObj_type (wpAny_pure ⟨_, rfl, wpAny_pure h⟩) htake))
end
section
variable {X : Cx}
def tRevT (K : PySem.W.Frag) (te : TE) : TE := fun σ H Q => te σ H fun x H1 => ∃ a xs, x = .ref a ∧ SqT K H1 a xs ∧ ∀ p, H1 p = none → Q (.ref p) (upd H1 p (.tup xs.reverse))
theorem pe_revT {e : Expr} {te : TE} {k : Nat} {p1 p2 p3 pos : Pos} (he : PE X e te) : PE X (.Subscript e (.Slice none none (some (.UnaryOp .USub (.Constant (.int 1) k p1) p2)) p3) pos) (tRevT X.K te) := by
  refine ⟨fun pins s σ H Q I h => ?_⟩
  refine Subscript_ (thn (he.run pins s σ H _ I h) fun v s1 ⟨x, H1, I1, r1, q1⟩ => ?_)
  obtain ⟨a, xs, ex, hx, q⟩ := q1
  subst ex
  cases r1
  have hst : PO X (some (.UnaryOp .USub (.Constant (.int 1) k p1) p2)) (tPart (tUn (rU fun i => .int (-i)) (tC (.int 1)))) := po_some (pe_un un_neg pe_int)
  refine wpAny_Slice (thn (po_none.run pins s1 σ H1 (fun o H2 => o = none ∧ H2 = H1) I1 ⟨rfl, rfl⟩) fun vl s2 ⟨l, H2, I2, pl, el, e2⟩ => ?_)
  subst el e2
  refine thn (po_none.run pins s2 σ H2 (fun o H3 => o = none ∧ H3 = H2) I2 ⟨rfl, rfl⟩) fun vu s3 ⟨u, H3, I3, pu, eu, e3⟩ => ?_
  subst eu e3
  refine thn (hst.run pins s3 σ H3 (fun o H4 => o = some (-1) ∧ H4 = H3) I3 ⟨1, rfl, -1, rfl, rfl, rfl⟩) fun vs s4 ⟨o, H4, I4, ps, eo, e4⟩ => ?_
  subst eo e4
  have I5 : Inv X pins σ H4 { s4 with heap := s4.heap.push { cls := .type "slice", data := .fields #[vl, vu, vs] } } := I4.kept (t' := s4.toks) fun b ob q => Heap.get?_push_of_some _ q
  cases pl
  cases pu
  cases ps with
  | int _ tk =>
  obtain ⟨its, r, ht, hz⟩ := I5.tuple hx
  have hlen := r.length
  show wpAny (model X.prog X.w) X.A (subscriptTail e (.Slice none none (some (.UnaryOp .USub (.Constant (.int 1) k p1) p2)) p3) (.ref a) (.ref s4.heap.objs.size)) (EP X pins σ Q) X.xe { s4 with heap := s4.heap.push { cls := .type "slice", data := .fields #[.none, .none, .int (-1) tk] } }
  refine tail_any (ops := [.ref a, .ref s4.heap.objs.size]) ht.typeIs (PyProof.Rows.slot_tuple_getitem.lookup) ?_ (by with_unfolding_all rfl)
  refine getItem_tuple_rev ht (Heap.IsSliceOf.new _ .none .none (.int (-1) tk)) ?_ (by rw [List.size_toArray]; omega)
  refine ⟨.ref _, _, I5.laid (t' := s4.toks) (o := .tup xs.reverse) (fun b ob q => Heap.get?_push_of_some _ q) (Nat.le_refl _) ?_, rfl, q _ (I5.hok.fresh (Nat.le_refl _))⟩
  exact ⟨by rw [List.length_reverse]; exact hz, _, r.reverse, IsTup.new _ _⟩
end
/-! readings -/
section
variable {K : PySem.W.Frag} {H : Hp} {Q : VK} {b0 : Addr} {ob : HO}
theorem x_catD {a b : Addr} {xs ys : List V} (hob : H b0 = some ob) (ha : H a = some (.tup xs)) (na : a ∉ [b0]) (hb : H b = some (.tup ys)) (nb : b ∉ [b0]) (z : xs.length + ys.length ≤ 100000)
    (h : ∀ p H', Same H H' → H' p = some (.tup (xs ++ ys)) → p ∉ [b0] → Q (.ref p) H') : rCatA K (.ref a) (.ref b) H Q := by
  refine ⟨a, b, xs, ys, rfl, rfl, SqT.of ha, SqT.of hb, Nat.le_trans z (by decide), ?_, ?_, ?_⟩
  · rintro rfl; exact h b H (Same.refl H) (by rw [hb]; rfl) nb
  · rintro _ rfl; exact h a H (Same.refl H) (by rw [ha, List.append_nil]) na
  · intro _ _ p hp; exact h p _ (same_upd hp) upd_same (new_out (Same.refl H) hob hp)
theorem cutV_whole {xs : List V} {lo hi : Option Int} (h : HT.sIx xs.length 0 lo = 0 ∧ HT.sIx xs.length xs.length hi = xs.length) : cutV xs lo hi = xs := by
  unfold cutV; rw [h.1, h.2]; simp
theorem x_slD {a : Addr} {xs : List V} {lo hi : Option Int} (hob : H b0 = some ob) (ha : H a = some (.tup xs)) (na : a ∉ [b0])
    (h : ∀ p H', Same H H' → H' p = some (.tup (cutV xs lo hi)) → p ∉ [b0] → Q (.ref p) H') : rSlA K (.ref a) lo hi H Q := by
  refine ⟨a, xs, rfl, SqT.of ha, fun w => ?_, fun _ p hp => h p _ (same_upd hp) upd_same (new_out (Same.refl H) hob hp)⟩
  exact h a H (Same.refl H) (by rw [ha, cutV_whole w]) na
theorem x_revT {σ : L2.St} {te : TE} (h : te σ H fun x H1 => ∃ a xs, x = .ref a ∧ SqT K H1 a xs ∧ ∀ p, H1 p = none → Q (.ref p) (upd H1 p (.tup xs.reverse))) : tRevT K te σ H Q := h
theorem cut_dn {M : List Addr} {v : List V} {d : List PyData} (lo hi : Option Int) (h : DnAll M H v d) : ∃ e, DnAll M H (cutV v lo hi) e ∧ (∀ z ∈ e, z ∈ d) ∧ e.length ≤ d.length := by
  refine ⟨_, (h.drop _).take _, fun z hz => List.mem_of_mem_drop (List.mem_of_mem_take hz), ?_⟩
  rw [List.length_take, List.length_drop]; omega
theorem DnAll.rev {M : List Addr} : ∀ {v : List V} {d : List PyData}, DnAll M H v d → DnAll M H v.reverse d.reverse
  | _, _, .nil => .nil
  | _, _, .cons a b => by rw [List.reverse_cons, List.reverse_cons]; exact (DnAll.rev b).app (.cons a .nil)
theorem x_gtup {σ : L2.St} {n : Nat} {p : Addr} {xs : List V} {t : TGs} {Qs : L2.St → Hp → Prop} (hp : SqT K H p xs) (hl : xs.length = n) (h : t xs σ H Qs) : gTup K n t (.ref p) σ H Qs := ⟨p, xs, rfl, hp, hl, h⟩
theorem x_gcons {σ : L2.St} {v : V} {r : List V} {t : TG} {u : TGs} {Qs : L2.St → Hp → Prop} (h : t v σ H fun σ' H' => u r σ' H' Qs) : gCons t u (v :: r) σ H Qs := ⟨v, r, rfl, h⟩
theorem x_gnil {σ : L2.St} {Qs : L2.St → Hp → Prop} (h : Qs σ H) : gNil [] σ H Qs := ⟨rfl, h⟩
/-- a set comprehension over a list that it leaves as it is -/
theorem setc_list {Z : Addr → HO} {add : TAdd} {a : Addr} {xs : List V} {g : TG} {tt : TT} {te : TE} {vs : List Nat} {σ : L2.St} {H1 : Hp} {L : Addr} {Qd : Hp → Prop} (Pv : Nat → Hp → Prop) (h0 : Pv 0 (upd H1 L (Z L)))
    (hl : ∀ i H, i ≤ xs.length → Pv i H → SqL K H a xs)
    (hs : ∀ i x H, xs[i]? = some x → Pv i H → g x (wipe σ vs) H fun τ H4 => wipe τ vs = wipe σ vs ∧ tt τ H4 fun b H5 => if b = true then te τ H5 fun y H6 => add L y H6 (Pv (i + 1)) else Pv (i + 1) H5) (hd : ∀ H, Pv xs.length H → Qd H) :
    ∃ W : Nat → Nat → Hp → Prop, (∃ m, W 0 m (upd H1 L (Z L))) ∧ ∀ i m H2, W i m H2 →
    ((Itl K a).stop i H2 ∧ Qd H2) ∨ ((Itl K a).go i H2 ∧ ∃ N : Hp → Prop, (∀ H3, N H3 → ∃ m3, m3 < m ∧ W (i + 1) m3 H3) ∧ ∀ x H3, (Itl K a).yld i H2 x H3 →
      g x (wipe σ vs) H3 fun τ H4 => wipe τ vs = wipe σ vs ∧ tt τ H4 fun b H5 => if b = true then te τ H5 fun y H6 => add L y H6 N else N H5) := by
  refine ⟨fun i m H => m = xs.length - i ∧ i ≤ xs.length ∧ Pv i H, ⟨xs.length, by simp, Nat.zero_le _, h0⟩, ?_⟩
  rintro i m H ⟨rfl, hi, p⟩
  have q := hl i H hi p
  by_cases hlt : i < xs.length
  · refine .inr ⟨⟨xs, xs[i], q, by simp [hlt]⟩, Pv (i + 1), fun H' p' => ⟨xs.length - (i + 1), by omega, rfl, hlt, p'⟩, fun x H' y => ?_⟩
    obtain ⟨e, y⟩ := y
    subst e
    exact hs i x _ (y xs q) p
  · have e : i = xs.length := by omega
    subst e
    exact .inl ⟨⟨xs, q, Nat.le_refl _⟩, hd H p⟩
theorem x_setC {σ : L2.St} {Z : Addr → HO} {add : TAdd} {wi : TI} {g : TG} {tt : TT} {te : TE} {vs : List Nat} (h : wi σ H fun J H1 => ∀ L, H1 L = none → ∃ W : Nat → Nat → Hp → Prop, (∃ m, W 0 m (upd H1 L (Z L))) ∧ ∀ i m H2, W i m H2 →
    (J.stop i H2 ∧ Q (.ref L) H2) ∨ (J.go i H2 ∧ ∃ N : Hp → Prop, (∀ H3, N H3 → ∃ m3, m3 < m ∧ W (i + 1) m3 H3) ∧ ∀ x H3, J.yld i H2 x H3 →
      g x (wipe σ vs) H3 fun τ H4 => wipe τ vs = wipe σ vs ∧ tt τ H4 fun b H5 => if b = true then te τ H5 fun y H6 => add L y H6 N else N H5)) : tSetC Z add wi g tt te vs σ H Q := h
theorem x_bm {σ : L2.St} {T : String} {r : V → List V → Hp → VK → Prop} {to : TE} {t : TA} (h : to σ H fun x H1 => tyV K T x H1 ∧ t σ H1 fun xs H2 => r x xs H2 Q) : tBM K T r to t σ H Q := h
theorem x_tyL {p : Addr} {xs : List V} {P : Prop} (hp : SqL K H p xs) (h : P) : tyV K "list" (.ref p) H ∧ P := ⟨.inl ⟨rfl, xs, hp⟩, h⟩
theorem x_app {l : Addr} {xs : List V} {y : V} (hl : H l = some (.lst xs)) (z : xs.length < sizeLine) (h : Q .non (upd H l (.lst (xs ++ [y])))) : rAppend (.ref l) [y] H Q := ⟨l, xs, y, rfl, rfl, hl, z, h⟩
/-- a cut of a tuple: some tuple, old or new -/
theorem x_slN {a : Addr} {xs : List V} {lo hi : Option Int} (ha : H a = some (.tup xs))
    (h : ∀ p H', Same H H' → H' p = some (.tup (cutV xs lo hi)) → Q (.ref p) H') : rSlA K (.ref a) lo hi H Q := by
  refine ⟨a, xs, rfl, SqT.of ha, fun w => ?_, fun _ p hp => h p _ (same_upd hp) upd_same⟩
  exact h a H (Same.refl H) (by rw [ha, cutV_whole w])
end
section
variable {X : Cx} {o e : Expr} {es : List Expr} {to : TE} {t : TA} {name : Str} {apos cpos : Pos} {T id : String} {r : V → List V → Hp → VK → Prop}
/-- a builtin's method, where X isn't known ahead (in a comprehension) -/
theorem pe_bmK (K : PySem.W.Frag) (pa : PlainAttrs T) (slot : Slot T name id) (hty : typeOf (.builtin id) = pure (.type "method_descriptor")) (hm : MtR X id r) (ho : PE X o to) (ha : PA X (e :: es) t) (hK : X.K = K := by rfl)
    (hbase : attributeBase o name X.env (eval o X.env) = eval o X.env := by rfl)
    (hfew : ((backTo cpos (starEach (e :: es) X.env)).all (fun x => !x.1) && (backToKw cpos (keywordEach [] X.env)).all (fun x => x.1.isSome)
      && decide ((e :: es).length + ([] : List Keyword).length + (if ([] : List Keyword).isEmpty then 0 else 1) < 30)) = true := by rfl)
    (hline : (apos.endLine == cpos.line) = true := by rfl) (hs : starEach (e :: es) X.env = (false, eval e X.env) :: starEach es X.env := by rfl) (hplain : (backTo cpos (starEach es X.env)).any (·.1) = false := by rfl) :
    PE X (.Call (.Attribute o name apos) (e :: es) [] cpos) (tBM K T r to t) := by
  subst hK
  exact pe_bm pa slot hty hm ho ha hbase hfew hline hs hplain
end
/-! Own classes: methods, making, len. -/
section
variable {P : Program} {w : World} {K : PySem.W.Frag} {mg : Str → Option Value} {base : Heap} {C : Addr}
/-- a method in the class's body -/
structure Dm (K : PySem.W.Frag) (C : Addr) (m qual : Str) (st : Stmt) : Prop where
  ex : ∃ f fd, Fun K m qual st f fd ∧ Meth K C m f
theorem dm_mk {m qual : Str} {st : Stmt} {f : Addr} {oc : Value} {od an : Option Addr} {osl : Array (Option Value)} {kV doc pm cdv ct : Value}
    (a : PySem.W.findIn K (.ref C) m = some (some (.ref f))) (i : PySem.W.isFn K (.ref f) = true)
    (l : K.lookup f = some ⟨oc, od, .func (PySem.W.fnOf m qual (defArgs st) (defBody st) (defScope st) .none kV doc pm an cdv ct), osl⟩)
    (c : PySem.W.codeIn K cdv qual = true) (k : PySem.W.keepIn K (.ref f) = true) : Dm K C m qual st :=
  ⟨f, _, fun_mk l c k, ⟨a, i, k⟩⟩
/-- a method's promise -/
structure Km (P : Program) (w : World) (K : PySem.W.Frag) (mg : Str → Option Value) (base : Heap) (C : Addr) (m : Str) (k : Nat) (sp : Sp) : Prop where
  ex : ∃ f fd ps, FnG P w K mg base k f fd ps sp ∧ Meth K C m f ∧ Binds K fd ps []
theorem Km.up {m : Str} {j k : Nat} {sp : Sp} (F : Km P w K mg base C m j sp) (h : j ≤ k) : Km P w K mg base C m k sp := by
  obtain ⟨f, fd, ps, a, b⟩ := F.ex
  exact ⟨f, fd, ps, a.up h, b⟩
theorem km_of {m qual : Str} {st : Stmt} {N ps : List Str} {k : Nat} {sp : Sp} (D : Dm K C m qual st)
    (bd : ∀ (kV doc pm : Value) (an : Option Addr) (cdv ct : Value) (us : List Value), us.length = ps.length → bindArgs (PySem.W.fnOf m qual (defArgs st) (defBody st) (defScope st) .none kV doc pm an cdv ct) ⟨us, []⟩ = pure (ps.zip us))
    (S : FnScope N ps (defScope st)) (len : ∀ vs H Q E, sp vs H Q E → vs.length = ps.length)
    (body : ∀ (f : Addr) (cd : Value) (B : Around) (fr : List Env) (z : Shared) (H : Hp) (vs : List V) (Q : VK) (E : XK),
      Room k (B.deeper (envOfC qual (defScope st) z.heap.objs.size f cd)) →
      (B.deeper (envOfC qual (defScope st) z.heap.objs.size f cd)).guards = some [] → sp vs H Q E →
      ∃ t, PSs (bodyX P w K mg base N qual st f cd B fr z H E) (defBody st) t ∧
        t { nx := fun _ H' => Q .non H', rt := Q } (start N vs) H) : Km P w K mg base C m (k + 1) sp := by
  obtain ⟨f, fd, F, hm⟩ := D.ex
  exact ⟨f, fd, ps, FnG.mk' F S len (body f), hm, F.binds bd⟩
/-- a class of the module, known by its name -/
structure Ck (K : PySem.W.Frag) (mg : Str → Option Value) (nm : Str) (C : Addr) : Prop where
  cls : Cls K C
  makes : PySem.W.makesIn K C = true
  kp : PySem.W.keepIn K (.ref C) = true
  at_ : mg nm = some (.ref C)
end
section
variable {X : Cx} {k : Nat} {C : Addr} {sp : Sp} {m nm : Str} {p apos pos : Pos} {e o : Expr} {es : List Expr} {ta : TE} {t : TA}
theorem pe_ownM {pl : Sem Bool} (he : PE X o ta) (c : Cls X.K C) (F : Km X.prog X.w X.K X.mg X.base C m k sp) (room : Room k X.A) (gd : X.A.guards = some []) (ha : PA X (e :: es) t)
    (hst : starEach (e :: es) X.env = (false, eval e X.env) :: starEach es X.env := by rfl) (hpl : (backTo pos (starEach es X.env)).any (·.1) = false := by rfl)
    (ht : eval (.Call (.Attribute o m apos) (e :: es) [] pos) X.env = (do
      let ov ← eval o X.env
      standAt apos.atName
      let (f, first) ← holding [ov] (getMethod ov m pl)
      callWith pos f first (backTo pos (starEach (e :: es) X.env)) (backToKw pos (keywordEach [] X.env))) := by rfl) :
    PE X (.Call (.Attribute o m apos) (e :: es) [] pos) (tMeth C m sp [] E0 ta t) := by
  obtain ⟨f, fd, ps, F, hm, hb⟩ := F.ex
  constructor
  intro pins s σ H Q I h
  refine PySem.W.methodCall_KW (pl := pl) (thn (he.run pins s σ H _ I h) ?_) ht
  rintro u s1 ⟨x, H1, I1, rx, a, dx, fs, rfl, ea, l, q⟩
  cases (show u = Value.ref a from rx)
  refine getmeth_ok I1 ea c hm l ?_
  refine PySem.W.callWith_K (first := [.ref a]) (h₀ := X.base) I.ok.mod.kin hm.kp (thn (ha.run pos pins s1 σ H1 _ I1 q) ?_) hst hpl
  rintro us s2 ⟨vs, H2, I2, r, q2⟩
  rw [List.append_nil] at q2
  exact ⟨I2.kIn, run_own (us := .ref a :: us) (vs := .ref a :: vs) F room gd hb I2 (.cons rfl r) q2⟩
theorem pe_ownM0 {pl : Sem Bool} (he : PE X o ta) (c : Cls X.K C) (F : Km X.prog X.w X.K X.mg X.base C m k sp) (room : Room k X.A) (gd : X.A.guards = some [])
    (ht : eval (.Call (.Attribute o m apos) [] [] pos) X.env = (do
      let ov ← eval o X.env
      standAt apos.atName
      let (f, first) ← holding [ov] (getMethod ov m pl)
      callWith pos f first (backTo pos (starEach [] X.env)) (backToKw pos (keywordEach [] X.env))) := by rfl) :
    PE X (.Call (.Attribute o m apos) [] [] pos) (tMeth C m sp [] E0 ta tNil) := by
  obtain ⟨f, fd, ps, F, hm, hb⟩ := F.ex
  constructor
  intro pins s σ H Q I h
  refine PySem.W.methodCall_KW (pl := pl) (thn (he.run pins s σ H _ I h) ?_) ht
  rintro u s1 ⟨x, H1, I1, rx, a, dx, fs, rfl, ea, l, q⟩
  cases (show u = Value.ref a from rx)
  refine getmeth_ok I1 ea c hm l ?_
  exact PySem.W.callWith_K0 (first := [.ref a]) I1.kIn hm.kp (run_own (us := [.ref a]) (vs := [.ref a]) F room gd hb I1 (.cons rfl .nil) q)
theorem guards_make {A : Around} {us : List Value} {kw : List (Str × Value)} (h : A.guards = some []) : (A.under (.builtin "type.__call__" ⟨.ref C :: us, kw⟩)).guards = some [] := by
  first | exact h | simpa [Around.under, Code.isGuard] using h
theorem guards_in1 {A : Around} (h : A.guards = some []) : A.in1.guards = some [] := by
  first | exact h | simpa [Around.in1] using h
theorem run_ownMk {pins : List (Addr × Obj)} {σ : L2.St} {H : Hp} {s : Shared} {Q : VK} {us : List Value} {vs : List V} (c : Ck X.K X.mg nm C) (F : Km X.prog X.w X.K X.mg X.base C "__init__" k sp) (room : Room (k + 1) X.A) (gd : X.A.guards = some [])
    (I : Inv X pins σ H s) (r : Vals vs us)
    (h : ∀ x dx, H x = none → H dx = none → dx ≠ x → sp (.ref x :: vs) (upd (upd H dx (.own x)) x (.ins C dx [])) (fun v H2 => v = .non ∧ Q (.ref x) H2) E0) :
    wpAny (model X.prog X.w) X.A (call (.ref C) us) (EP X pins σ Q) X.xe s := by
  obtain ⟨f, fd, ps, F, hm, hb⟩ := F.ex
  have q := h (s.heap.objs.size + 1) s.heap.objs.size (I.hok.fresh (Nat.le_succ _)) (I.hok.fresh (Nat.le_refl _)) (Nat.ne_of_lt (Nat.lt_succ_self _))
  have I2 := Inv.made (C := C) I
  have r2 : Vals (V.ref (s.heap.objs.size + 1) :: vs) (Value.ref (s.heap.objs.size + 1) :: us) := .cons rfl r
  have n1 : (Value.ref (s.heap.objs.size + 1) :: us).length = ps.length := r2.length.symm.trans (F.len _ _ _ _ q)
  have bt := hb _ (Value.ref (s.heap.objs.size + 1) :: us) I2.kIn (by rw [List.append_nil]; exact n1)
  rw [List.append_nil] at bt
  refine wpAny_call (make_map (f := f) I.kIn c.makes hm.at_ (beq_iff_eq.mp hm.fn) (codeAny_mono (F.go _ X.stack _ _ ⟨Value.ref (s.heap.objs.size + 1) :: us, []⟩ (Value.ref (s.heap.objs.size + 1) :: us) _ _ E0 (room.make C us []) (guards_make gd)
    (I2.env0.make C us []) bt r2 q) ?_))
  intro res z hz
  match res, hz with
  | .error e, hz => exact False.elim hz
  | .ok (.ret u), hz =>
    obtain ⟨v, H', I3, rv, rfl, q3⟩ := I2.after hz
    exact ⟨rv, ⟨V.ref (s.heap.objs.size + 1), H', I3, rfl, q3⟩⟩
  | .ok .next, hz => exact False.elim hz
  | .ok .brk, hz => exact False.elim hz
  | .ok .cont, hz => exact False.elim hz
theorem pe_ownMk (c : Ck X.K X.mg nm C) (F : Km X.prog X.w X.K X.mg X.base C "__init__" k sp) (room : Room (k + 1) X.A) (gd : X.A.guards = some []) (hg : Gl X nm) (ha : PA X (e :: es) t)
    (hdb : (nm == ("__debug__" : Str)) = false := by decide) (he : starEach (e :: es) X.env = (false, eval e X.env) :: starEach es X.env := by rfl) (hpl : (backTo pos (starEach es X.env)).any (·.1) = false := by rfl) :
    PE X (.Call (.Name nm p) (e :: es) [] pos) (tMake C sp [] E0 t) := by
  constructor
  intro pins s σ H Q I h
  apply wpAny_Call_Name_kw
  refine ld_glob I hg c.at_ ?_ hdb
  refine PySem.W.callWith_K (h₀ := X.base) I.ok.mod.kin c.kp ?_ he hpl
  refine thn (ha.run pos pins s σ H _ I h) ?_
  rintro us s1 ⟨vs, H1, I1, r, q⟩
  refine ⟨I1.kIn, run_ownMk c F room gd I1 r ?_⟩
  intro x dx h1 h2 h3
  have := q x dx h1 h2 h3
  rwa [List.append_nil] at this
/-- len of an own instance -/
def rLenO (C : Addr) (sp : Sp) : List V → Hp → VK → Prop := fun xs H Q => ∃ (a dx : Addr) (fs : List (Str × V)), xs = [.ref a] ∧ H a = some (.ins C dx fs) ∧ sp [.ref a] H (fun v H' => ∃ n : Int, v = .int n ∧ 0 ≤ n ∧ n < 2 ^ 63 ∧ Q (.int n) H') E0
theorem call_lenO (F : Km X.prog X.w X.K X.mg X.base C "__len__" k sp) (room : Room (k + 1) X.A) (gd : X.A.guards = some []) : CallR X (.builtin "len") (rLenO C sp) := by
  intro pins s σ H xs us Q I r h
  obtain ⟨a, dx, fs, rfl, ha, q⟩ := h
  obtain ⟨u, rfl, ru⟩ := vals1 r
  cases (show u = Value.ref a from ru)
  obtain ⟨f, fd, ps, F, hm, hb⟩ := F.ex
  obtain ⟨mA, J, _⟩ := ins_get I.hok ha
  obtain ⟨od, J, _⟩ := J.look
  refine Calls.call_function_entry kind_len plain_len entry_len (args_len1 _) ?_
  unfold Builtin.«len»
  refine wpAny_bind (m := oneArg "len" _) (wpAny_pure ?_)
  have n1 : ([Value.ref a] : List Value).length = ps.length := F.len _ _ _ _ q
  have bt := hb s [.ref a] I.kIn (by rw [List.append_nil]; exact n1)
  rw [List.append_nil] at bt
  have e0 : Env0 X.prog X.w X.K X.mg X.base X.A.in1 X.stack s H := I.env0.in1
  refine wpAny_bind (m := callSpecial? (.ref a) (PySem.Str.ofString "__len__")) (PySem.W.special_fn (name := "__len__") (args := []) I.kIn J hm.at_ (beq_iff_eq.mp hm.fn) ?_)
  refine wpAny_call (codeAny_mono (F.go X.A.in1 X.stack s H ⟨[.ref a], []⟩ [.ref a] [.ref a] _ E0 room.in1 (guards_in1 gd) e0 bt (.cons rfl .nil) q) ?_)
  intro res z hz
  match res, hz with
  | .error e, hz => exact False.elim hz
  | .ok .next, hz => exact False.elim hz
  | .ok .brk, hz => exact False.elim hz
  | .ok .cont, hz => exact False.elim hz
  | .ok (.ret u), hz =>
    obtain ⟨v, H', I3, rv, n, rfl, hn0, hn1, q3⟩ := I.after hz
    obtain ⟨tk, rfl⟩ := (show ∃ t, u = Value.int n t from rv)
    refine wpAny_bind (wpAny_holding (wpAny_pure ?_))
    refine wpAny_bind (wpAny_letGo ?_)
    show wpAny _ _ (if n < 0 then _ else _) _ _ _
    rw [if_neg (by omega)]
    show wpAny _ _ (if n ≥ 2 ^ 63 then _ else _) _ _ _
    rw [if_neg (by omega)]
    exact wpAny_bind (wpAny_mkInt (wpAny_pure ⟨_, rfl, ⟨.int n, H', I3.tok _, ⟨_, rfl⟩, q3⟩⟩))
end
/-- d[k] = v by a comprehension, k a tuple -/
theorem d_setT {X : Cx} {pins : List (Addr × Obj)} {σ : L2.St} {H : Hp} {s : Shared} {E : Value → Shared → Prop} {L b : Addr} {kvs : List (List Key × V)} {k : List Key} {v : V} {u r : Value} {Q : Unit → Shared → Prop} (hu : X.A.units + 64 < cLine)
    (I : Inv X pins σ H s) (hD : H L = some (.dT kvs)) (hb : H b = some (.tup (k.map kV))) (few : kvs.length < sizeLine)
    (ry : RelV (.ref b) u) (rv : RelV v r) (h : ∀ z, Inv X pins σ (upd H L (.dT (putK kvs k v))) z → Q () z) : wpAny (model X.prog X.w) X.A (dictSet L u r) Q E s := by
  cases (show u = Value.ref b from ry)
  obtain ⟨z, hd, xs, rel, dd⟩ := dt_of I.hok hD
  have l1 : xs.length ≤ sizeLine := by rw [← Paired.length rel]; exact z
  have l2 : (putK kvs k v).length ≤ sizeLine := by have := length_putK kvs k v; omega
  refine wpAny_dictSet_heap (hsz := l1) (show X.A.units < cLine by omega) (key_of I.hok hb) dd ?_
  intro h2 d2 sb
  obtain ⟨q, es, ep, hq, e2, e3, e4, _, e5⟩ := d2
  apply h
  refine d_write I (by rw [hD]; trivial) sb ⟨q, hq⟩ ⟨l2, hd, _, (rel.put k hb rv).keeps ?_, q, es, ep, hq, e2, e3, e4, e5⟩
  intro c ys ec
  rw [upd_ne (fun x => by rw [x, hD] at ec; cases ec)]
  exact ec
/-- the reading of a dict comprehension with tuples as keys -/
def tDcT (wi : TI) (g : TG) (tt : TT) (tk tv : TE) (vs : List Nat) : TE := fun σ H Q =>
  wi σ H fun J H1 => ∀ L, H1 L = none → ∃ W : Nat → Nat → Hp → Prop, (∃ m, W 0 m (upd H1 L (.dT []))) ∧ ∀ i m H2, W i m H2 →
    (J.stop i H2 ∧ Q (.ref L) H2) ∨ (J.go i H2 ∧ ∃ N : Hp → Prop, (∀ H3, N H3 → ∃ m3, m3 < m ∧ W (i + 1) m3 H3) ∧ ∀ x H3, J.yld i H2 x H3 →
      g x (wipe σ vs) H3 fun τ H4 => wipe τ vs = wipe σ vs ∧ tt τ H4 fun b H5 => if b = true then tk τ H5 fun y H6 => tv τ H6 fun z H7 =>
        ∃ kvs k b, y = .ref b ∧ H7 L = some (.dT kvs) ∧ H7 b = some (.tup (k.map kV)) ∧ kvs.length < sizeLine ∧ N (upd H7 L (.dT (putK kvs k z))) else N H5)
section
variable {X : Cx}
theorem dct_go {pins : List (Addr × Obj)} {s : Shared} {σ : L2.St} {H : Hp} {Q : VK} {kx vx tg iter : Expr} {ifs : List Expr} {sc : Scope} {own : List (PySem.Str × Nat)} {p p2 : Pos}
    {wi : TI} {g : TG} {tt : TT} {tk tv : TE}
    (calm : X.calm = true) (nodup : X.N.Nodup) (I : Inv X pins σ H s) (hi : PI X tg iter wi) (bo : BlkOk X.N X.env.scope sc own)
    (pg : ∀ s H C cl fp, PG (X.blk s H sc (compEnvC sc cl C X.env) fp) tg g)
    (pt : ∀ s H C cl fp, PTs (X.blk s H sc (compEnvC sc cl C X.env) fp) ifs tt)
    (pk : ∀ s H C cl fp, PE (X.blk s H sc (compEnvC sc cl C X.env) fp) kx tk)
    (pv : ∀ s H C cl fp, PE (X.blk s H sc (compEnvC sc cl C X.env) fp) vx tv) (hu : X.A.units + 64 < cLine)
    (fold : ∀ x, foldedSetIterable iter X.env x = pure x)
    (want : tDcT wi g tt tk tv (own.map (·.2)) σ H Q) :
    wpAny (model X.prog X.w) X.A (comprehension (.DictComp kx vx [⟨tg, iter, ifs, 0⟩] sc p) sc X.env p2 newDict false (eval iter X.env) none) (EP X pins σ Q) X.xe s := by
  let vs := own.map (·.2)
  have cells : ∀ y ∈ sc.names, y.2 = .free → ∃ c, X.env.cells.lookup y.1 = some c := by
    intro y hy e
    rcases bo.free y hy e with h | h
    · exact I.ok.has _ (Or.inl h)
    · exact I.ok.has _ (Or.inr h)
  apply wpAny_comprehension_free rfl fold (closure_ok cells) bo.kind (fun y hy e => by rw [bo.uniq y hy, e])
  refine thn (hi.run pins s σ H _ I want) ?_
  intro xv sa ha
  refine thn ha ?_
  rintro itv sb ⟨it, fp, tn, J, H2, rfl, Ib, T, stb, fpb, q⟩
  refine wpAny_newObj_type (newEnv_comp ?_)
  obtain ⟨L, eL⟩ : ∃ L, sb.heap.objs.size = L := ⟨_, rfl⟩
  rw [eL]
  obtain ⟨W, ⟨m0, w0⟩, turn⟩ := q L (Ib.hok.fresh (Nat.le_of_eq eL))
  obtain ⟨sd, ed⟩ : ∃ sd : Shared, sd = { sb with heap := sb.heap.push { cls := .type "dict", data := .dict #[] } } := ⟨_, rfl⟩
  have hd : sd.heap = sb.heap.push { cls := .type "dict", data := .dict #[] } := by rw [ed]
  have Id : Inv X pins σ (upd H2 L (.dT [])) sd := by
    rw [ed]
    refine Ib.laid (t' := sb.toks) (fun b o e => Heap.get?_push_of_some _ e) (Nat.le_of_eq eL) ?_
    rw [← eL]
    exact dt_empty sb.heap Ib.big
  have old : ∀ b ∈ fp, b < sb.heap.objs.size := by
    intro b hb
    obtain ⟨o, e, _⟩ := T.obj _ _ stb b hb
    exact Heap.lt_size e
  have fpd : ∀ b ∈ fp, FpOk X pins (upd H2 L (.dT [])) b ∧ b < sd.heap.objs.size := by
    intro b hb
    have lt := old b hb
    have ne : b ≠ L := by rw [← eL]; exact Nat.ne_of_lt lt
    constructor
    · exact ⟨(upd_ne ne).trans (fpb b hb).1, (fpb b hb).2⟩
    · rw [hd, Heap.size_push]; exact Nat.lt_succ_of_lt lt
  have std : tn 0 sd.heap := T.keep _ _ _ stb (fun b _ o e => by rw [hd]; exact Heap.get?_push_of_some _ e)
  have Ie := block_start Id bo nodup fpd
  have none_fp : ∀ b ∈ fp, upd H2 L (.dT []) b = none := fun b hb => (fpd b hb).1.1
  let C := sd.heap.objs.size
  let cl := cellsFrom (C + 1) sc.names (cloFrom X.env.cells sc.names [])
  have g1 := pg sd (upd H2 L (.dT [])) C cl fp
  have t1 := pt sd (upd H2 L (.dT [])) C cl fp
  have k1 := pk sd (upd H2 L (.dT [])) C cl fp
  have e1 := pv sd (upd H2 L (.dT [])) C cl fp
  obtain ⟨ce, ece⟩ : ∃ ce, compEnvC sc cl C X.env = ce := ⟨_, rfl⟩
  have locC : ce.locals = C := by rw [← ece]; rfl
  rw [ece] at g1 t1 k1 e1
  rw [show compEnvC sc (cellsFrom (sd.heap.objs.size + 1) sc.names (cloFrom X.env.cells sc.names [])) sd.heap.objs.size X.env = ce from ece] at Ie
  obtain ⟨He, eHe⟩ : ∃ He, upd H2 L (.dT []) = He := ⟨_, rfl⟩
  rw [eHe] at Id Ie g1 t1 k1 e1 w0 none_fp fpd
  obtain ⟨se, ese⟩ : ∃ se : Shared, se = { sd with heap := pushCells (sd.heap.push { cls := .type "dict", data := .dict #[] }) sc.names } := ⟨_, rfl⟩
  rw [← ese] at Ie
  have ste : tn 0 se.heap := T.keep _ _ _ std (fun b _ o e => by rw [ese]; exact pushCells_keeps _ _ _ _ (Heap.get?_push_of_some _ e))
  have stay : ∀ {τ : L2.St} {H' : Hp} {s' : Shared}, Inv (X.blk sd He sc ce fp) [] τ H' s' → (∀ b ∈ fp, H' b = none) → ∀ b ∈ fp, FpOk (X.blk sd He sc ce fp) [] H' b := by
    intro τ H' s' J hn b hb
    exact ⟨hn b hb, (J.ok.exf b hb).1, J.ok.exfs b hb, Or.inl hb, (J.ok.exf b hb).2, fun q hq => by cases hq⟩
  have loop : codeAny (model X.prog X.w) X.A (.compLoop (.DictComp kx vx [⟨tg, iter, ifs, 0⟩] sc p) 0 (.ref it) (.ref L) ce) (compPost (model X.prog X.w) X.A X.xe none (EP X pins σ Q) (.ref L) C) se := by
    apply compLoop_anyD (fun n z => ∃ i H', Inv (X.blk sd He sc ce fp) [] (wipe σ vs) H' z ∧ tn i z.heap ∧ (∀ b ∈ fp, H' b = none) ∧ W i n H') ?_ m0 ⟨0, He, Ie, ste, none_fp, w0⟩
    rintro n z ⟨i, Hz, Iz, stz, nz, wz⟩
    rcases turn i n Hz wz with ⟨stop, fin⟩ | ⟨more, N, back, step⟩
    · refine thnF (T.done (X.blk sd He sc ce fp) rfl rfl rfl calm i [] z _ Hz (fun _ _ => False) Iz (stay Iz nz) stz stop) ?_
      rintro r y ⟨rfl, Iy⟩
      have Ix : Inv X pins σ Hz y := Id.call' (ch := fp) Iy.os Iy.base Iy.hok Iy.bare fun b hb =>
        ⟨(fpd b hb).1.2.2.2.1, (fpd b hb).1.2.1, (fpd b hb).1.2.2.2.2.1, (fpd b hb).1.2.2.2.2.2⟩
      have nC : Hz C = none := by rw [← locC]; exact Iy.free
      obtain ⟨m, hn, _⟩ := Iy.loc
      have hn : y.heap.Ns C m := by rw [← locC]; exact hn
      refine ⟨m, hn, fun h2 sb2 => ?_⟩
      obtain ⟨f0, f1, f2, f3, f4, f5⟩ := Id.fpOk (H' := Hz) (Nat.le_refl _) nC
      exact ⟨.ref L, Hz, Ix.turned (t' := y.toks) (fun b o hb e => (sb2.2 b hb).trans e) f0 f1 f3 f4 f5, rfl, fin⟩
    · refine thnF (T.item (X.blk sd He sc ce fp) rfl rfl rfl calm i [] z _ Hz (fun _ _ => False) Iz (stay Iz nz) stz more) ?_
      rintro r y ⟨u, rfl, hy⟩
      refine thnF hy ?_
      rintro _ y2 ⟨x, Hy, Iy, ry, yy, sty, ny⟩
      have Ip := Iy.pinned (stay Iy ny) (T.obj _ _ sty)
      refine thnF (g1.run _ y2 _ Hy x u _ Ip ry (step x Hy yy)) ?_
      rintro _ y3 ⟨τ, H3, I3, hw, q3⟩
      refine thnF (t1.run _ y3 τ H3 _ I3 q3) ?_
      rintro b y4 ⟨H4, I4, q4⟩
      have over : ∀ {s' : Shared} {H' : Hp}, Inv (X.blk sd He sc ce fp) ([] ++ pinsAt fp y2.heap) τ H' s' → N H' →
          ∃ m, m < n ∧ ∃ i H', Inv (X.blk sd He sc ce fp) [] (wipe σ vs) H' s' ∧ tn i s'.heap ∧ (∀ b ∈ fp, H' b = none) ∧ W i m H' := by
        intro s' H' J nx
        obtain ⟨m', lt, w'⟩ := back H' nx
        have pinned : ∀ b ∈ fp, ∀ o, y2.heap.get? b = some o → s'.heap.get? b = some o ∧ H' b = none := by
          intro b hb o e
          have k := J.pin (b, o) (List.mem_append_right _ (List.mem_append_right _ (mem_pinsAt hb e)))
          exact ⟨k.1, k.2.1⟩
        have len : (wipe σ vs).length = τ.length := by rw [← hw, wipe_length]
        refine ⟨m', lt, i + 1, H', (J.unpinned (pins := [])).weak len ?_, T.keep _ _ _ sty (fun b hb o e => (pinned b hb o e).1), ?_, w'⟩
        · intro j v e
          rw [← hw] at e
          exact (wipe_some e).1
        · intro b hb
          obtain ⟨o, e, _⟩ := T.obj _ _ sty b hb
          exact (pinned b hb o e).2
      cases b
      · rw [if_neg Bool.false_ne_true] at q4 ⊢
        exact over I4 q4
      · rw [if_pos rfl] at q4 ⊢
        refine thnF (k1.run _ y4 τ H4 _ I4 q4) ?_
        rintro kv y5 ⟨yk, H5, I5, r5, q5⟩
        refine thnF (e1.run _ y5 τ H5 _ I5 q5) ?_
        rintro vv y6 ⟨yv, H6, I6, r6, kvs, k, b, rfl, hD, hb, few, nx⟩
        exact d_setT (X := X.blk sd He sc ce fp) (by exact hu) I6 hD hb few r5 r6 fun y7 I7 => over I7 nx
  have res := codeAny_compStart_dict loop (T.self X.A 0 _ _ _ ste loop)
  rw [ese, ed] at res
  rw [← ece] at res
  subst ed
  exact res
theorem pe_dcT {kx vx tg iter : Expr} {ifs : List Expr} {sc : Scope} {own : List (PySem.Str × Nat)} {p : Pos} {wi : TI} {g : TG} {tt : TT} {tk tv : TE}
    (calm : X.calm = true) (nodup : X.N.Nodup) (hi : PI X tg iter wi) (bo : BlkOk X.N X.env.scope sc own)
    (pg : ∀ s H C cl fp, PG (X.blk s H sc (compEnvC sc cl C X.env) fp) tg g)
    (pt : ∀ s H C cl fp, PTs (X.blk s H sc (compEnvC sc cl C X.env) fp) ifs tt)
    (pk : ∀ s H C cl fp, PE (X.blk s H sc (compEnvC sc cl C X.env) fp) kx tk)
    (pv : ∀ s H C cl fp, PE (X.blk s H sc (compEnvC sc cl C X.env) fp) vx tv) (hu : X.A.units + 64 < cLine)
    (fold : ∀ x, foldedSetIterable iter X.env x = pure x := by intro _; rfl) :
    PE X (.DictComp kx vx [⟨tg, iter, ifs, 0⟩] sc p) (tDcT wi g tt tk tv (own.map (·.2))) :=
  ⟨fun pins s σ H Q I h => by
    rw [arm_eval_DictComp]
    exact dct_go calm nodup I hi bo pg pt pk pv hu fold h⟩
end
/-! zip of a tuple with a list. -/
section
variable {prog : Program} {w : World} {A : Around} {E : Value → Shared → Prop} {s : Shared}
/-- zip's state: the tuple's iterator first, then the list's -/
structure ZipSt (h : Heap) (z TI TO ia ib la lb : Addr) (n : Nat) : Prop where
  zip : IsZip h z TI TO .none
  its : IsPair h TI (.ref ia) (.ref ib)
  out : ∃ p q, IsPair h TO p q
  fst : h.IsTupleIter ia la n
  snd : h.IsListIter ib lb n
/-- what a turn may change -/
abbrev ZipKeep (h h2 : Heap) (z TO ia ib : Addr) : Prop := ∀ a o, a ≠ z → a ≠ TO → a ≠ ia → a ≠ ib → h.get? a = some o → h2.get? a = some o
theorem ZipSt.lt {h : Heap} {z TI TO ia ib la lb : Addr} {n : Nat} (S : ZipSt h z TI TO ia ib la lb n) {c : Addr} (hc : c ∈ [z, TI, TO, ia, ib]) : ∃ o, h.get? c = some o ∧ ∀ v, o.data ≠ .cell v := by
  obtain ⟨p, q, ho⟩ := S.out
  obtain ⟨o1, e1, _, d1⟩ := S.fst
  obtain ⟨o2, e2, _, d2⟩ := S.snd
  simp only [List.mem_cons, List.not_mem_nil, or_false] at hc
  rcases hc with rfl | rfl | rfl | rfl | rfl
  · exact ⟨_, S.zip, nofun⟩
  · exact ⟨_, S.its, nofun⟩
  · exact ⟨_, ho, nofun⟩
  · exact ⟨_, e1, by rw [d1]; nofun⟩
  · exact ⟨_, e2, by rw [d2]; nofun⟩
theorem zipM_step {z TI TO ia ib la lb : Addr} {n : Nat} {us vs : Array Value} {u v : Value} {Q : Value → Shared → Prop} (D : ZipApart z TI TO ia ib la lb) (S : ZipSt s.heap z TI TO ia ib la lb n)
    (ha : s.heap.IsTuple la us) (hb : s.heap.IsList lb vs) (hu : us[n]? = some u) (hv : vs[n]? = some v)
    (q : ∀ h2, IsZip h2 z TI TO (rawInt s.heap.objs.size) → IsPair h2 TO u v → h2.IsTupleIter ia la (n + 1) → h2.IsListIter ib lb (n + 1) → IsPair h2 s.heap.objs.size u v →
      ZipKeep s.heap h2 z TO ia ib → Q (.ref s.heap.objs.size) { s with heap := h2 }) :
    wpAny (model prog w) A (Builtin.«zip.__next__» ⟨[.ref z], []⟩) (fun fin t => ∃ r, fin = .done (.ret r) ∧ Q r t) E s := by
  obtain ⟨p0, q0, hO⟩ := S.out
  show wpAny _ _ (field (.ref z) 2 >>= _) _ _ _
  apply wpAny_bind
  refine wpAny_field S.zip rfl (x := .bool false) rfl ?_
  show wpAny _ _ (field (.ref z) 3 >>= _) _ _ _
  apply wpAny_bind
  refine wpAny_field S.zip rfl (x := .ref TI) rfl ?_
  apply wpAny_bind
  refine wpAny_seqItems S.its rfl ?_
  show wpAny _ _ (Builtin.SmallTypes.ownedTupleIsFree (.ref z) >>= _) _ _ _
  apply wpAny_bind
  unfold Builtin.SmallTypes.ownedTupleIsFree
  apply wpAny_bind
  refine wpAny_field S.zip rfl (x := .none) rfl (wpAny_pure ?_)
  simp only [if_true]
  apply wpAny_bind
  apply wpAny_rule
  apply wpAny_bind
  refine wpAny_field S.zip rfl (x := .ref TO) rfl ?_
  apply wpAny_bind
  apply wpAny_setField_rec S.zip (by simp)
  intro h1 Z1 b1
  have Z1 : IsZip h1 z TI TO .ellipsis := Z1
  apply wpAny_bind
  simp only [List.zipIdx_cons, List.zipIdx_nil, List.forIn_cons, List.forIn_nil]
  apply wpAny_bind
  apply wpAny_bind
  apply wpAny_onRaise
  show wpAny _ _ (Builtin.SmallTypes.nextOf (.ref ia) >>= _) _ _ _
  apply wpAny_bind
  refine RZ.nextOf_tuple_item (S.fst.extBut b1.extBut D.i1z) (ha.extBut b1.extBut D.l1z) hu ?_
  intro h2 i2 b2
  apply wpAny_pure
  have O2 : IsPair h2 TO p0 q0 := b2.extBut _ _ D.TOi1 (b1.extBut _ _ D.TOz hO)
  apply wpAny_bind
  refine wpAny_seqItems O2 rfl ?_
  apply wpAny_bind
  apply wpAny_updateSeq_pair O2
  intro h3 O3 b3
  have O3 : IsPair h3 TO u q0 := O3
  apply wpAny_bind
  apply wpAny_letGo
  apply wpAny_pure
  apply wpAny_bind
  apply wpAny_bind
  apply wpAny_onRaise
  show wpAny _ _ (Builtin.SmallTypes.nextOf (.ref ib) >>= _) _ _ _
  apply wpAny_bind
  have jb : h3.IsListIter ib lb n := ((S.snd.extBut b1.extBut D.i2z).extBut b2.extBut D.i12.symm).extBut b3.extBut D.TOi2.symm
  have lb3 : h3.IsList lb vs := ((hb.extBut b1.extBut D.l2z).extBut b2.extBut D.l2i1).extBut b3.extBut D.l2TO
  refine wpAny_nextOf_list_item jb lb3 hv ?_
  intro h4 j4 b4
  apply wpAny_pure
  have O4 : IsPair h4 TO u q0 := b4.extBut _ _ D.TOi2 O3
  apply wpAny_bind
  refine wpAny_seqItems O4 rfl ?_
  apply wpAny_bind
  apply wpAny_updateSeq_pair O4
  intro h5 O5 b5
  have O5 : IsPair h5 TO u v := O5
  apply wpAny_bind
  apply wpAny_letGo
  apply wpAny_pure
  apply wpAny_pure
  apply wpAny_bind
  refine wpAny_seqItems O5 rfl ?_
  apply wpAny_bind
  refine wpAny_newTuple ?_
  have sz : h5.objs.size = s.heap.objs.size := b5.1.trans (b4.1.trans (b3.1.trans (b2.1.trans b1.1)))
  have Z5 : IsZip h5 z TI TO .ellipsis := b5.extBut _ _ D.TOz.symm (b4.extBut _ _ D.i2z.symm (b3.extBut _ _ D.TOz.symm (b2.extBut _ _ D.i1z.symm Z1)))
  have K5 : ZipKeep s.heap h5 z TO ia ib := fun a o n1 n2 n3 n4 e => b5.extBut _ _ n2 (b4.extBut _ _ n4 (b3.extBut _ _ n2 (b2.extBut _ _ n3 (b1.extBut _ _ n1 e))))
  have ia5 : h5.IsTupleIter ia la (n + 1) := ((i2.extBut b3.extBut D.TOi1.symm).extBut b4.extBut D.i12).extBut b5.extBut D.TOi1.symm
  have ib5 : h5.IsListIter ib lb (n + 1) := j4.extBut b5.extBut D.TOi2.symm
  have zlt : z < h5.objs.size := Heap.lt_size Z5
  show wpAny _ _ (Builtin.SmallTypes.ownedTupleHandOut (.ref z) (.ref h5.objs.size) >>= _) _ _ _
  apply wpAny_bind
  unfold Builtin.SmallTypes.ownedTupleHandOut
  have Z6 : IsZip (h5.push { cls := .type "tuple", data := .seq #[u, v] }) z TI TO .ellipsis := Heap.get?_push_of_some _ Z5
  apply wpAny_bind
  apply wpAny_setField_rec Z6 (by simp)
  intro h7 Z7 b7
  have Z7 : IsZip h7 z TI TO (rawInt h5.objs.size) := Z7
  apply wpAny_setField_rec Z7 (by simp)
  intro h8 Z8 b8
  have Z8 : IsZip h8 z TI TO (rawInt h5.objs.size) := Z8
  have up : ∀ a o, a ≠ z → h5.get? a = some o → h8.get? a = some o := fun a o ne e => b8.extBut _ _ ne (b7.extBut _ _ ne (Heap.get?_push_of_some _ e))
  have zn : h5.objs.size ≠ z := Nat.ne_of_gt zlt
  have T8 : IsPair h8 h5.objs.size u v := b8.extBut _ _ zn (b7.extBut _ _ zn (Heap.get?_push_size _ rfl))
  rw [sz] at Z8 T8
  refine wpAny_pure ⟨_, rfl, ?_⟩
  show Q (.ref h5.objs.size) _
  rw [sz]
  exact q h8 Z8 (up _ _ D.TOz O5) (ia5.at fun o e => up _ o D.i1z e) (ib5.at fun o e => up _ o D.i2z e) T8 fun a o n1 n2 n3 n4 e => up a o n1 (K5 a o n1 n2 n3 n4 e)
theorem zipM_stop {z TI TO ia ib la lb : Addr} {n : Nat} {us vs : Array Value} {Q : Fin → Shared → Prop} (free : A.handled = none) (D : ZipApart z TI TO ia ib la lb) (S : ZipSt s.heap z TI TO ia ib la lb n)
    (ha : s.heap.IsTuple la us) (hb : s.heap.IsList lb vs) (over : us[n]? = none ∨ vs[n]? = none)
    (q : ∀ h2 e, ZipKeep s.heap h2 z TO ia ib → (∃ o, h2.get? e = some o ∧ o.cls = .type "StopIteration") → E (.ref e) { s with heap := h2 }) :
    wpAny (model prog w) A (Builtin.«zip.__next__» ⟨[.ref z], []⟩) Q E s := by
  obtain ⟨p0, q0, hO⟩ := S.out
  show wpAny _ _ (field (.ref z) 2 >>= _) _ _ _
  apply wpAny_bind
  refine wpAny_field S.zip rfl (x := .bool false) rfl ?_
  show wpAny _ _ (field (.ref z) 3 >>= _) _ _ _
  apply wpAny_bind
  refine wpAny_field S.zip rfl (x := .ref TI) rfl ?_
  apply wpAny_bind
  refine wpAny_seqItems S.its rfl ?_
  show wpAny _ _ (Builtin.SmallTypes.ownedTupleIsFree (.ref z) >>= _) _ _ _
  apply wpAny_bind
  unfold Builtin.SmallTypes.ownedTupleIsFree
  apply wpAny_bind
  refine wpAny_field S.zip rfl (x := .none) rfl (wpAny_pure ?_)
  simp only [if_true]
  apply wpAny_bind
  apply wpAny_rule
  apply wpAny_bind
  refine wpAny_field S.zip rfl (x := .ref TO) rfl ?_
  apply wpAny_bind
  apply wpAny_setField_rec S.zip (by simp)
  intro h1 Z1 b1
  have Z1 : IsZip h1 z TI TO .ellipsis := Z1
  apply wpAny_bind
  simp only [List.zipIdx_cons, List.zipIdx_nil, List.forIn_cons, List.forIn_nil]
  apply wpAny_bind
  apply wpAny_bind
  apply wpAny_onRaise
  show wpAny _ _ (Builtin.SmallTypes.nextOf (.ref ia) >>= _) _ _ _
  apply wpAny_bind
  rcases hx : us[n]? with _ | u
  · refine RZ.nextOf_tuple_end free (S.fst.extBut b1.extBut D.i1z) (ha.extBut b1.extBut D.l1z) hx ?_
    rintro h2 e b2 ⟨oe, he, hc⟩
    have Z2 : IsZip h2 z TI TO .ellipsis := b2 _ _ D.i1z.symm Z1
    have ez : e ≠ z := by rintro rfl; rw [Z2] at he; cases he; simp at hc
    apply wpAny_setField_rec Z2 (by simp)
    intro h3 _ b3
    exact q h3 e (fun a o n1 _ n3 _ x => b3.extBut _ _ n1 (b2 _ _ n3 (b1.extBut _ _ n1 x))) ⟨oe, b3.extBut _ _ ez he, hc⟩
  · have hy : vs[n]? = none := over.resolve_left (by rw [hx]; simp)
    refine RZ.nextOf_tuple_item (S.fst.extBut b1.extBut D.i1z) (ha.extBut b1.extBut D.l1z) hx ?_
    intro h2 i2 b2
    apply wpAny_pure
    have O2 : IsPair h2 TO p0 q0 := b2.extBut _ _ D.TOi1 (b1.extBut _ _ D.TOz hO)
    apply wpAny_bind
    refine wpAny_seqItems O2 rfl ?_
    apply wpAny_bind
    apply wpAny_updateSeq_pair O2
    intro h3 _ b3
    apply wpAny_bind
    apply wpAny_letGo
    apply wpAny_pure
    apply wpAny_bind
    apply wpAny_bind
    apply wpAny_onRaise
    show wpAny _ _ (Builtin.SmallTypes.nextOf (.ref ib) >>= _) _ _ _
    apply wpAny_bind
    have jb : h3.IsListIter ib lb n := ((S.snd.extBut b1.extBut D.i2z).extBut b2.extBut D.i12.symm).extBut b3.extBut D.TOi2.symm
    have lb3 : h3.IsList lb vs := ((hb.extBut b1.extBut D.l2z).extBut b2.extBut D.l2i1).extBut b3.extBut D.l2TO
    refine wpAny_nextOf_list_end free jb lb3 hy ?_
    rintro h4 e b4 ⟨oe, he, hc⟩
    have Z4 : IsZip h4 z TI TO .ellipsis := b4 _ _ D.i2z.symm (b3.extBut _ _ D.TOz.symm (b2.extBut _ _ D.i1z.symm Z1))
    have ez : e ≠ z := by rintro rfl; rw [Z4] at he; cases he; simp at hc
    apply wpAny_setField_rec Z4 (by simp)
    intro h5 _ b5
    exact q h5 e (fun a o n1 n2 n3 n4 x => b5.extBut _ _ n1 (b4 _ _ n4 (b3.extBut _ _ n2 (b2.extBut _ _ n3 (b1.extBut _ _ n1 x))))) ⟨oe, b5.extBut _ _ ez he, hc⟩
theorem nextM_step {z TI TO ia ib la lb : Addr} {n : Nat} {us vs : Array Value} {u v : Value} {Q : Option Value → Shared → Prop} (D : ZipApart z TI TO ia ib la lb) (S : ZipSt s.heap z TI TO ia ib la lb n)
    (ha : s.heap.IsTuple la us) (hb : s.heap.IsList lb vs) (hu : us[n]? = some u) (hv : vs[n]? = some v)
    (q : ∀ h2, IsZip h2 z TI TO (rawInt s.heap.objs.size) → IsPair h2 TO u v → h2.IsTupleIter ia la (n + 1) → h2.IsListIter ib lb (n + 1) → IsPair h2 s.heap.objs.size u v →
      ZipKeep s.heap h2 z TO ia ib → Q (some (.ref s.heap.objs.size)) { s with heap := h2 }) : wpAny (model prog w) A (pyNext (.ref z)) Q E s := by
  unfold pyNext
  have ty : s.TypeIs (.ref z) "zip" := ⟨_, S.zip, rfl⟩
  refine wpAny_bind (wpAny_attempt (wpAny_callSpecial?_slot (name := Str.ofString "__next__") ty F.slot_zip_next (wpAny_call_entry F.slot_zip_next ty F.entry_zip_next ?_ (F.args_zip_next_1 _))))
  exact zipM_step D S ha hb hu hv fun h2 c1 c2 c3 c4 c5 c6 => wpAny_pure (q h2 c1 c2 c3 c4 c5 c6)
theorem nextM_stop {z TI TO ia ib la lb : Addr} {n : Nat} {us vs : Array Value} {Q : Option Value → Shared → Prop} (free : A.handled = none) (D : ZipApart z TI TO ia ib la lb) (S : ZipSt s.heap z TI TO ia ib la lb n)
    (ha : s.heap.IsTuple la us) (hb : s.heap.IsList lb vs) (over : us[n]? = none ∨ vs[n]? = none)
    (q : ∀ h2, ZipKeep s.heap h2 z TO ia ib → Q none { s with heap := h2 }) : wpAny (model prog w) A (pyNext (.ref z)) Q E s := by
  unfold pyNext
  have ty : s.TypeIs (.ref z) "zip" := ⟨_, S.zip, rfl⟩
  refine wpAny_bind (wpAny_attempt (wpAny_callSpecial?_slot (name := Str.ofString "__next__") ty F.slot_zip_next (wpAny_call_entry F.slot_zip_next ty F.entry_zip_next ?_ (F.args_zip_next_1 _))))
  refine zipM_stop free D S ha hb over ?_
  rintro h2 e k ⟨o, ho, hc⟩
  apply wpAny_bind
  refine wpAny_isInstance (T := "StopIteration") (b := true) ⟨o, ho, hc⟩ isSubtype_stop ?_
  exact wpAny_pure (q _ k)
end
/-! making one -/
abbrev mk1 (h : Heap) (a : Addr) : Heap := h.push { cls := .type "tuple_iterator", data := .fields #[.ref a, .int 0 0] }
abbrev mk2 (h : Heap) (a b : Addr) : Heap := (mk1 h a).push { cls := .type "list_iterator", data := .fields #[.ref b, .int 0 0] }
abbrev mk3 (h : Heap) (a b : Addr) : Heap := (mk2 h a b).push { cls := .type "tuple", data := .seq #[.ref h.objs.size, .ref (mk1 h a).objs.size] }
abbrev mk4 (h : Heap) (a b : Addr) : Heap := (mk3 h a b).push { cls := .type "tuple", data := .seq #[.none, .none] }
abbrev mk5 (h : Heap) (a b : Addr) : Heap := (mk4 h a b).push { cls := .type "zip", data := .fields #[.none, .bool false, .bool false, .ref (mk2 h a b).objs.size, .ref (mk3 h a b).objs.size] }
theorem meets_mk (a b : Addr) (us vs : Array Value) : Meets (Builtin.«zip.__new__» ⟨[.type "zip", .ref a, .ref b], []⟩)
    (fun _ R s => s.heap.IsTuple a us ∧ s.heap.IsList b vs ∧ R (.ok (.ret (.ref (mk4 s.heap a b).objs.size))) { s with heap := mk5 s.heap a b }) :=
  .of_wp fun prog w A R s h => by
    obtain ⟨hp, g, d, tk, os⟩ := s
    obtain ⟨ha, hb, h⟩ := h
    have sz := sub_zip
    have La : Heap.IsTuple (Shared.heap ⟨hp, g, d, tk, os⟩) a us := ha
    have Lb : Heap.IsList (Shared.heap ⟨hp.push { cls := .type "tuple_iterator", data := .fields #[.ref a, .int 0 0] }, g, d, tk, os⟩) b vs := Heap.IsList.push hb _
    wp_walk using wpAny_pyIter_tuple La, wpAny_pyIter_list Lb
    exact ⟨_, rfl, h⟩
theorem mk_all (h : Heap) (a b : Addr) : ZipSt (mk5 h a b) (h.objs.size + 4) (h.objs.size + 2) (h.objs.size + 3) h.objs.size (h.objs.size + 1) a b 0 ∧ (∀ c o, h.get? c = some o → (mk5 h a b).get? c = some o) ∧ (mk4 h a b).objs.size = h.objs.size + 4 := by
  have n1 : (mk1 h a).objs.size = h.objs.size + 1 := Heap.size_push ..
  have n2 : (mk2 h a b).objs.size = h.objs.size + 2 := by rw [Heap.size_push, n1]
  have n3 : (mk3 h a b).objs.size = h.objs.size + 3 := by rw [Heap.size_push, n2]
  have n4 : (mk4 h a b).objs.size = h.objs.size + 4 := by rw [Heap.size_push, n3]
  have up : ∀ {g : Heap} {x : Obj} {c : Addr} {o : Obj}, g.get? c = some o → (g.push x).get? c = some o := fun e => Heap.get?_push_of_some _ e
  have e1 : (mk5 h a b).get? h.objs.size = some _ := up (up (up (up (Heap.get?_push_size _ rfl))))
  have e2 : (mk5 h a b).get? (mk1 h a).objs.size = some _ := up (up (up (Heap.get?_push_size _ rfl)))
  have e3 : (mk5 h a b).get? (mk2 h a b).objs.size = some _ := up (up (Heap.get?_push_size _ rfl))
  have e4 : (mk5 h a b).get? (mk3 h a b).objs.size = some _ := up (Heap.get?_push_size _ rfl)
  have e5 : (mk5 h a b).get? (mk4 h a b).objs.size = some _ := Heap.get?_push_size _ rfl
  rw [n2, n3, n4] at e5
  rw [n3] at e4
  rw [n2, n1] at e3
  rw [n1] at e2
  exact ⟨⟨e5, e3, ⟨_, _, e4⟩, ⟨_, e1, rfl, rfl⟩, ⟨_, e2, rfl, rfl⟩⟩, fun c o x => up (up (up (up (up x)))), n4⟩
theorem run_zipM {prog : Program} {w : World} {A : Around} {E : Value → Shared → Prop} {s : Shared} {a b : Addr} {us vs : Array Value} {Q : Value → Shared → Prop} (ha : s.heap.IsTuple a us) (hb : s.heap.IsList b vs)
    (h : ∀ h2, ZipSt h2 (s.heap.objs.size + 4) (s.heap.objs.size + 2) (s.heap.objs.size + 3) s.heap.objs.size (s.heap.objs.size + 1) a b 0 → (∀ c o, s.heap.get? c = some o → h2.get? c = some o) → Q (.ref (s.heap.objs.size + 4)) { s with heap := h2 }) :
    wpAny (model prog w) A (call (.type "zip") [.ref a, .ref b]) Q E s := by
  refine callType_new F.called_zip (by decide) (F.typeCall_zip_2 _ _) (F.newCall_zip_2 _ _) (fun o => F.args_object_init_3 o _ _) F.entry_zip_new (meets_mk a b us vs) ⟨ha, hb, ?_⟩
  obtain ⟨S, k, n4⟩ := mk_all s.heap a b
  show _ ∧ _
  rw [n4]
  exact ⟨⟨_, S.zip, rfl⟩, h _ S k⟩
/-! as an iteration -/
def ItM (K : PySem.W.Frag) (a b : Addr) : It :=
  ⟨fun i H => ∃ (us vs : List V) (u v : V), SqT K H a us ∧ SqL K H b vs ∧ us[i]? = some u ∧ vs[i]? = some v,
   fun i H r H2 => ∃ t u v, r = .ref t ∧ H t = none ∧ H2 = upd H t (.tup [u, v]) ∧ (∀ us, SqT K H a us → us[i]? = some u) ∧ ∀ vs, SqL K H b vs → vs[i]? = some v,
   fun i H => ∃ us vs : List V, SqT K H a us ∧ SqL K H b vs ∧ (us.length ≤ i ∨ vs.length ≤ i)⟩
theorem turnM {P : Program} {w : World} {K : PySem.W.Frag} {es : List Expr} {k : Nat} {p : Pos} {a b z TI TO ia ib : Addr} (D : ZipApart z TI TO ia ib a b) :
    Turn P w K (.Tuple es k p) (ItM K a b) [z, TI, TO, ia, ib] z (fun i h => ZipSt h z TI TO ia ib a b i) where
  mem := by simp
  obj := fun i h st c hc => st.lt hc
  keep := fun i h h2 st k => by
    obtain ⟨x, y, ho⟩ := st.out
    exact ⟨k z (by simp) _ st.zip, k TI (by simp) _ st.its, ⟨x, y, k TO (by simp) _ ho⟩, st.fst.at fun o e => k ia (by simp) o e, st.snd.at fun o e => k ib (by simp) o e⟩
  item := by
    rintro X rfl rfl rfl calm i pins s σ H E I free st ⟨us, vs, u, v, ea, eb, eu, ev⟩
    obtain ⟨as, ra, pa, _⟩ := I.tuple ea
    obtain ⟨bs, rb, pb, _⟩ := I.list eb
    obtain ⟨u2, hu, ru⟩ := ra.get eu
    obtain ⟨v2, hv, rv⟩ := rb.get ev
    obtain ⟨x0, y0, hO⟩ := st.out
    have zlt : z < s.heap.objs.size := Heap.lt_size st.zip
    refine nextM_step D st (show s.heap.IsTuple a as.toArray from pa) pb.isList (u := u2) (v := v2) (by simpa using hu) (by simpa using hv) ?_
    intro h2 Z2 O2 c1 c2 T2 keep
    refine ⟨_, rfl, ?_⟩
    apply wpAny_letOwnedTupleGo_zip (s := { s with heap := h2 }) Z2
    intro h3 Z3 sb
    have T3 : h3.get? s.heap.objs.size = some { cls := .type "tuple", data := .seq #[u2, v2] } := (sb.2 _ (Nat.ne_of_gt zlt)).trans T2
    have I1 : Inv X pins σ (upd H s.heap.objs.size (.tup [u, v])) { s with heap := h3 } := by
      refine I.turnedNew (t' := s.toks) (ch := [z, TI, TO, ia, ib]) ?_ free (Nat.le_refl _) ⟨by show 2 ≤ sizeLine; decide, [u2, v2], .cons ru (.cons rv .nil), ⟨_, T3, rfl, _, rfl⟩⟩
      intro c o hc e
      simp only [List.mem_cons, List.not_mem_nil, or_false, not_or] at hc
      exact (sb.2 c hc.1).trans (keep c o hc.1 hc.2.2.1 hc.2.2.2.1 hc.2.2.2.2 e)
    refine ⟨.ref s.heap.objs.size, _, I1, rfl, ⟨_, u, v, rfl, I.hok.fresh (Nat.le_refl _), rfl, ?_, ?_⟩, ⟨Z3, ?_, ⟨u2, v2, ?_⟩, ?_, ?_⟩, ?_⟩
    · intro l hl; rw [I.tuple_inj hl ea]; exact eu
    · intro l hl; rw [I.list_inj hl eb]; exact ev
    · exact (sb.2 _ D.TIz).trans (keep _ _ D.TIz D.TITO D.TIi1 D.TIi2 st.its)
    · exact (sb.2 _ D.TOz).trans O2
    · exact c1.at fun o e => (sb.2 _ D.i1z).trans e
    · exact c2.at fun o e => (sb.2 _ D.i2z).trans e
    · intro c hc
      obtain ⟨o, e, _⟩ := st.lt hc
      rw [upd_ne (Nat.ne_of_lt (Heap.lt_size e))]
      exact (free c hc).1
  done := by
    rintro X rfl rfl rfl calm i pins s σ H E I free st ⟨us, vs, ea, eb, over⟩
    obtain ⟨as, ra, pa, _⟩ := I.tuple ea
    obtain ⟨bs, rb, pb, _⟩ := I.list eb
    have n1 := ra.length
    have n2 := rb.length
    refine nextM_stop (I.ok.hd calm) D st (show s.heap.IsTuple a as.toArray from pa) pb.isList ?_ ?_
    · rcases over with h | h
      · left; simp; omega
      · right; simp; omega
    · intro h2 keep
      refine ⟨rfl, I.turnedL (t' := s.toks) (ch := [z, TI, TO, ia, ib]) ?_ free⟩
      intro c o hc e
      simp only [List.mem_cons, List.not_mem_nil, or_false, not_or] at hc
      exact keep c o hc.1 hc.2.2.1 hc.2.2.2.1 hc.2.2.2.2 e
  self := fun A i s Q E st h => wpAny_pyIter_zip st.zip h
def iZipM (K : PySem.W.Frag) (ta : TA) : TI := fun σ H R => ta σ H fun vs H1 => ∃ a b us ws, vs = [.ref a, .ref b] ∧ SqT K H1 a us ∧ SqL K H1 b ws ∧ R (ItM K a b) H1
theorem pi_zipM {X : Cx} {e f : Expr} {ta : TA} {p pos tp : Pos} {es : List Expr} {k : Nat} (hg : Gl X "zip") (hm : X.mg "zip" = none) (ha : PA X [e, f] ta)
    (hs : starEach [e, f] X.env = (false, eval e X.env) :: starEach [f] X.env := by rfl) (hp : (backTo pos (starEach [f] X.env)).any (·.1) = false := by rfl) :
    PI X (.Tuple es k tp) (.Call (.Name "zip" p) [e, f] [] pos) (iZipM X.K ta) := by
  constructor
  intro pins s σ H R I h
  refine Call_ (ld_blt I hg hm PyProof.Rows.boot_zip (PyProof.Rows.callWith_type1 (thn (ha.run pos pins s σ H _ I h) ?_) hs hp))
  rintro us s1 ⟨vs, H1, I1, r1, a, b, xs, ys, rfl, ea, eb, q⟩
  obtain ⟨x1, x2, rfl, rx, ry⟩ := Vals.two r1
  cases (show x1 = Value.ref a from rx)
  cases (show x2 = Value.ref b from ry)
  obtain ⟨as, ra, pa, _⟩ := I1.tuple ea
  obtain ⟨bs, rb, pb, _⟩ := I1.list eb
  obtain ⟨o1, ho1, _⟩ := id pa
  refine run_zipM (show s1.heap.IsTuple a as.toArray from pa) pb.isList ?_
  intro h2 S k
  apply wpAny_pyIter_zip S.zip
  refine ⟨s1.heap.objs.size + 4, [s1.heap.objs.size + 4, s1.heap.objs.size + 2, s1.heap.objs.size + 3, s1.heap.objs.size, s1.heap.objs.size + 1], _, _, H1, rfl, I1.kept (t' := s1.toks) k, turnM (PySem.W.ktu_apart s1.heap.objs.size a b (Heap.lt_size ho1) pb.lt), S, ?_, q⟩
  intro c hc
  have le : s1.heap.objs.size ≤ c := by
    simp only [List.mem_cons, List.not_mem_nil, or_false] at hc
    rcases hc with h | h | h | h | h <;> (rw [h]; first | exact Nat.le_refl _ | exact Nat.le_add_right _ _)
  exact I1.fpOk le (I1.hok.fresh le)
theorem for_zipM {K : PySem.W.Frag} {a b : Addr} {us vs : List V} {g : TG} {tb : TS} {D : Ends} {σ : L2.St} {H : Hp} (same : us.length = vs.length) (Pv : Nat → L2.St → Hp → Prop) (h0 : Pv 0 σ H) (hq : ∀ i σ H, Pv i σ H → SqT K H a us ∧ SqL K H b vs)
    (hs : ∀ (i : Nat) (u v : V) (t : Addr) (σ : L2.St) (H : Hp), us[i]? = some u → vs[i]? = some v → Pv i σ H → H t = none → g (.ref t) σ (upd H t (.tup [u, v])) fun τ H2 => tb { D with nx := Pv (i + 1), ct := Pv (i + 1), bk := D.nx } τ H2) (hd : ∀ σ H, Pv us.length σ H → D.nx σ H) :
    ∃ W : Nat → Nat → L2.St → Hp → Prop, (∃ m, W 0 m σ H) ∧ ∀ i m σ H, W i m σ H →
      ((ItM K a b).stop i H ∧ D.nx σ H) ∨ ((ItM K a b).go i H ∧ ∃ N : L2.St → Hp → Prop, (∀ τ H2, N τ H2 → ∃ m2, m2 < m ∧ W (i + 1) m2 τ H2) ∧ ∀ r H2, (ItM K a b).yld i H r H2 → g r σ H2 fun τ H3 => tb { D with nx := N, ct := N, bk := D.nx } τ H3) := by
  refine ⟨fun i m σ H => m = us.length - i ∧ i ≤ us.length ∧ Pv i σ H, ⟨_, rfl, Nat.zero_le _, h0⟩, ?_⟩
  rintro i m σ H ⟨rfl, le, p⟩
  obtain ⟨qa, qb⟩ := hq i σ H p
  by_cases lt : i < us.length
  · have lt2 : i < vs.length := same ▸ lt
    refine .inr ⟨⟨us, vs, us[i], vs[i], qa, qb, List.getElem?_eq_getElem lt, List.getElem?_eq_getElem lt2⟩, Pv (i + 1), fun τ H2 p2 => ⟨us.length - (i + 1), by omega, rfl, lt, p2⟩, ?_⟩
    rintro _ _ ⟨t, u, v, rfl, ht, rfl, eu, ev⟩
    exact hs i u v t σ H (eu us qa) (ev vs qb) p ht
  · have e : i = us.length := by omega
    subst e
    exact .inl ⟨⟨us, vs, qa, qb, .inl (Nat.le_refl _)⟩, hd σ H p⟩
/-! readings for classes -/
section
variable {K : PySem.W.Frag} {H : Hp} {Q : VK} {σ : L2.St} {D : Ends}
theorem x_sFld {ta tv : TE} {f : Str} (h : tv σ H fun y H1 => ta σ H1 fun x H2 => ∃ a C dx fs, x = .ref a ∧ H2 a = some (.ins C dx fs) ∧ Cls K C ∧ NoAttr K C f ∧ fs.length < 1000 ∧ D.nx σ (upd H2 a (.ins C dx (putF f y fs)))) : sFld K ta tv f D σ H := h
theorem x_sAt {a C dx : Addr} {fs : List (Str × V)} {f : Str} {Z : Addr → Addr → Addr → List (Str × V) → Prop} (ha : H a = some (.ins C dx fs)) (c : Cls K C) (n : NoAttr K C f) (l : fs.length < 1000) (h : Z a C dx fs) :
    ∃ a' C dx fs, V.ref a = .ref a' ∧ H a' = some (.ins C dx fs) ∧ Cls K C ∧ NoAttr K C f ∧ fs.length < 1000 ∧ Z a' C dx fs := ⟨a, C, dx, fs, rfl, ha, c, n, l, h⟩
theorem x_tFld {ta : TE} {f : Str} (h : ta σ H fun x H1 => ∃ a C dx fs v, x = .ref a ∧ H1 a = some (.ins C dx fs) ∧ Cls K C ∧ NoAttr K C f ∧ fs.lookup f = some v ∧ Q v H1) : tFld K ta f σ H Q := h
theorem x_gAt {a C dx : Addr} {fs : List (Str × V)} {f : Str} {v : V} {Z : V → Prop} (ha : H a = some (.ins C dx fs)) (c : Cls K C) (n : NoAttr K C f) (l : fs.lookup f = some v) (h : Z v) :
    ∃ a' C dx fs v, V.ref a = .ref a' ∧ H a' = some (.ins C dx fs) ∧ Cls K C ∧ NoAttr K C f ∧ fs.lookup f = some v ∧ Z v := ⟨a, C, dx, fs, v, rfl, ha, c, n, l, h⟩
theorem x_meth {C : Addr} {m : Str} {sp : Sp} {E : XK} {ta : TE} {t : TA} (h : ta σ H fun x H1 => ∃ a dx fs, x = .ref a ∧ H1 a = some (.ins C dx fs) ∧ fs.lookup m = none ∧ t σ H1 fun vs H2 => sp (x :: (vs ++ [])) H2 Q E) : tMeth C m sp [] E ta t σ H Q := h
theorem x_mAt {a C dx : Addr} {fs : List (Str × V)} {m : Str} {Z : Prop} (ha : H a = some (.ins C dx fs)) (l : fs.lookup m = none) (h : Z) : ∃ a' dx fs, V.ref a = .ref a' ∧ H a' = some (.ins C dx fs) ∧ fs.lookup m = none ∧ Z := ⟨a, dx, fs, rfl, ha, l, h⟩
theorem x_make {C : Addr} {sp : Sp} {E : XK} {t : TA} (h : t σ H fun vs H1 => ∀ x dx, H1 x = none → H1 dx = none → dx ≠ x → sp (.ref x :: (vs ++ [])) (upd (upd H1 dx (.own x)) x (.ins C dx [])) (fun v H2 => v = .non ∧ Q (.ref x) H2) E) : tMake C sp [] E t σ H Q := h
theorem x_dcT {wi : TI} {g : TG} {tt : TT} {tk tv : TE} {vs : List Nat} (h : wi σ H fun J H1 => ∀ L, H1 L = none → ∃ W : Nat → Nat → Hp → Prop, (∃ m, W 0 m (upd H1 L (.dT []))) ∧ ∀ i m H2, W i m H2 →
    (J.stop i H2 ∧ Q (.ref L) H2) ∨ (J.go i H2 ∧ ∃ N : Hp → Prop, (∀ H3, N H3 → ∃ m3, m3 < m ∧ W (i + 1) m3 H3) ∧ ∀ x H3, J.yld i H2 x H3 →
      g x (wipe σ vs) H3 fun τ H4 => wipe τ vs = wipe σ vs ∧ tt τ H4 fun b H5 => if b = true then tk τ H5 fun y H6 => tv τ H6 fun z H7 =>
        ∃ kvs k b, y = .ref b ∧ H7 L = some (.dT kvs) ∧ H7 b = some (.tup (k.map kV)) ∧ kvs.length < sizeLine ∧ N (upd H7 L (.dT (putK kvs k z))) else N H5)) : tDcT wi g tt tk tv vs σ H Q := h
theorem x_en {ta : TA} {R : It → Hp → Prop} (h : ta σ H fun vs H1 => ∃ a xs, vs = [.ref a] ∧ SqL K H1 a xs ∧ R (Ite K a) H1) : iEnum K ta σ H R := h
theorem x_enL {p : Addr} {xs : List V} {Z : Addr → Prop} (hp : SqL K H p xs) (h : Z p) : ∃ a xs, [V.ref p] = [.ref a] ∧ SqL K H a xs ∧ Z a := ⟨p, xs, rfl, hp, h⟩
theorem x_zM {ta : TA} {R : It → Hp → Prop} (h : ta σ H fun vs H1 => ∃ a b us ws, vs = [.ref a, .ref b] ∧ SqT K H1 a us ∧ SqL K H1 b ws ∧ R (ItM K a b) H1) : iZipM K ta σ H R := h
theorem x_zAt {p q : Addr} {us ws : List V} {Z : Addr → Addr → Prop} (hp : SqT K H p us) (hq : SqL K H q ws) (h : Z p q) : ∃ a b us ws, [V.ref p, .ref q] = [.ref a, .ref b] ∧ SqT K H a us ∧ SqL K H b ws ∧ Z a b := ⟨p, q, us, ws, rfl, hp, hq, h⟩
/-- a dict comprehension over enumerate of a list that it leaves as it is -/
theorem dct_enum {a : Addr} {xs : List V} {g : TG} {tt : TT} {tk tv : TE} {vs : List Nat} {H1 : Hp} {L : Addr} {Qd : Hp → Prop} (Pv : Nat → Hp → Prop) (h0 : Pv 0 (upd H1 L (.dT [])))
    (hl : ∀ i H, i ≤ xs.length → Pv i H → SqL K H a xs)
    (hs : ∀ i x t H, xs[i]? = some x → Pv i H → H t = none → g (.ref t) (wipe σ vs) (upd H t (.tup [.int (i : Nat), x])) fun τ H4 => wipe τ vs = wipe σ vs ∧ tt τ H4 fun b H5 => if b = true then tk τ H5 fun y H6 => tv τ H6 fun z H7 =>
      ∃ kvs k b, y = .ref b ∧ H7 L = some (.dT kvs) ∧ H7 b = some (.tup (k.map kV)) ∧ kvs.length < sizeLine ∧ Pv (i + 1) (upd H7 L (.dT (putK kvs k z))) else Pv (i + 1) H5) (hd : ∀ H, Pv xs.length H → Qd H) :
    ∃ W : Nat → Nat → Hp → Prop, (∃ m, W 0 m (upd H1 L (.dT []))) ∧ ∀ i m H2, W i m H2 →
    ((Ite K a).stop i H2 ∧ Qd H2) ∨ ((Ite K a).go i H2 ∧ ∃ N : Hp → Prop, (∀ H3, N H3 → ∃ m3, m3 < m ∧ W (i + 1) m3 H3) ∧ ∀ x H3, (Ite K a).yld i H2 x H3 →
      g x (wipe σ vs) H3 fun τ H4 => wipe τ vs = wipe σ vs ∧ tt τ H4 fun b H5 => if b = true then tk τ H5 fun y H6 => tv τ H6 fun z H7 =>
        ∃ kvs k b, y = .ref b ∧ H7 L = some (.dT kvs) ∧ H7 b = some (.tup (k.map kV)) ∧ kvs.length < sizeLine ∧ N (upd H7 L (.dT (putK kvs k z))) else N H5) := by
  refine ⟨fun i m H => m = xs.length - i ∧ i ≤ xs.length ∧ Pv i H, ⟨_, rfl, Nat.zero_le _, h0⟩, ?_⟩
  rintro i m H ⟨rfl, le, p⟩
  have q := hl i H le p
  by_cases lt : i < xs.length
  · refine .inr ⟨⟨xs, xs[i], q, List.getElem?_eq_getElem lt⟩, Pv (i + 1), fun H2 p2 => ⟨xs.length - (i + 1), by omega, rfl, lt, p2⟩, ?_⟩
    rintro _ _ ⟨t, x, rfl, ht, rfl, ex⟩
    exact hs i x t H (ex xs q) p ht
  · have e : i = xs.length := by omega
    subst e
    exact .inl ⟨⟨xs, q, Nat.le_refl _⟩, hd H p⟩
end
section
variable {X : Cx} {es : List Expr} {k : Nat} {t : TGs} {n : Nat} {pos : Pos}
/-- unpacking, where X isn't known ahead (in a comprehension) -/
theorem pg_tupK (K : PySem.W.Frag) (h : PGs X es t) (hK : X.K = K := by rfl) (hc : X.calm = true := by rfl)
    (hn : (assignEach es X.env).length = n := by rfl) (hst : (assignEach es X.env).findIdx? (·.1) = none := by rfl) : PG X (.Tuple es k pos) (gTup K n t) := by
  subst hK
  exact pg_tup hc h hn hst
end
section
variable {K : PySem.W.Frag} {H : Hp} {Q : VK} {σ : L2.St}
theorem x_zL {ta : TA} {R : It → Hp → Prop} (h : ta σ H fun vs H1 => ∃ a b us ws, vs = [.ref a, .ref b] ∧ SqL K H1 a us ∧ SqL K H1 b ws ∧ R (Itz K a b) H1) : iZip K ta σ H R := h
theorem x_zLAt {p q : Addr} {us ws : List V} {Z : Addr → Addr → Prop} (hp : SqL K H p us) (hq : SqL K H q ws) (h : Z p q) : ∃ a b us ws, [V.ref p, .ref q] = [.ref a, .ref b] ∧ SqL K H a us ∧ SqL K H b ws ∧ Z a b := ⟨p, q, us, ws, rfl, hp, hq, h⟩
theorem x_int2 {i j : Int} {Z : Int → Int → Prop} (h : Z i j) : ∃ a b, [V.int i, V.int j] = [.int a, .int b] ∧ Z a b := ⟨i, j, rfl, h⟩
theorem x_orT {ta tb : TE} (h : ta σ H fun x H1 => ∃ k, TruV K x H1 k ∧ if k = true then Q x H1 else tb σ H1 Q) : tOrT K ta tb σ H Q := h
theorem x_isB {a b : Bool} (h : Q (.bl (decide (a = b))) H) : rIsB (.bl a) (.bl b) H Q := ⟨a, b, rfl, rfl, h⟩
theorem ixN_of {n : Nat} {i : Int} (h0 : 0 ≤ i) (h1 : i < n) : ixN n i = some i.toNat := by
  unfold ixN
  rw [if_pos h0, if_pos h1]
theorem at_map {hs : List Int} {i : Int} (h0 : 0 ≤ i) (h1 : i < hs.length) : ∃ v, hs[i.toNat]? = some v ∧ atI (hs.map V.int) i = some (.int v) := by
  have lt : i.toNat < hs.length := by omega
  refine ⟨hs[i.toNat], List.getElem?_eq_getElem lt, ?_⟩
  unfold atI
  rw [ixN_of h0 (by rw [List.length_map]; exact h1)]
  simp [lt]
end
/-! zip of a list or a tuple with a list; dict.get by a tuple. -/
/-- the first is a tuple (true) or a list -/
def SqX (b : Bool) (K : PySem.W.Frag) (H : Hp) (a : Addr) (xs : List V) : Prop := if b = true then SqT K H a xs else SqL K H a xs
def ItX (b : Bool) (K : PySem.W.Frag) (p q : Addr) : It := if b = true then ItM K p q else Itz K p q
def iZipX (K : PySem.W.Frag) (ta : TA) : TI := fun σ H R => ta σ H fun vs H1 => ∃ (k : Bool) (a b : Addr) (us ws : List V), vs = [.ref a, .ref b] ∧ SqX k K H1 a us ∧ SqL K H1 b ws ∧ R (ItX k K a b) H1
theorem pi_zipX {X : Cx} {e f : Expr} {ta : TA} {p pos tp : Pos} {es : List Expr} {k : Nat} (hg : Gl X "zip") (hm : X.mg "zip" = none) (ha : PA X [e, f] ta)
    (hs : starEach [e, f] X.env = (false, eval e X.env) :: starEach [f] X.env := by rfl) (hp : (backTo pos (starEach [f] X.env)).any (·.1) = false := by rfl) :
    PI X (.Tuple es k tp) (.Call (.Name "zip" p) [e, f] [] pos) (iZipX X.K ta) := by
  constructor
  intro pins s σ H R I h
  refine Call_ (ld_blt I hg hm PyProof.Rows.boot_zip (PyProof.Rows.callWith_type1 (thn (ha.run pos pins s σ H _ I h) ?_) hs hp))
  rintro us s1 ⟨vs, H1, I1, r1, kk, a, b, xs, ys, rfl, ea, eb, q⟩
  obtain ⟨x1, x2, rfl, rx, ry⟩ := Vals.two r1
  cases (show x1 = Value.ref a from rx)
  cases (show x2 = Value.ref b from ry)
  have out : ∀ c ∈ [s1.heap.objs.size + 4, s1.heap.objs.size + 2, s1.heap.objs.size + 3, s1.heap.objs.size, s1.heap.objs.size + 1], FpOk X pins H1 c := by
    intro c hc
    have le : s1.heap.objs.size ≤ c := by
      simp only [List.mem_cons, List.not_mem_nil, or_false] at hc
      rcases hc with h | h | h | h | h <;> (rw [h]; first | exact Nat.le_refl _ | exact Nat.le_add_right _ _)
    exact I1.fpOk le (I1.hok.fresh le)
  obtain ⟨bs, rb, pb, _⟩ := I1.list eb
  cases kk with
  | true =>
    obtain ⟨as, ra, pa, _⟩ := I1.tuple (show SqT X.K H1 a xs from ea)
    obtain ⟨o1, ho1, _⟩ := id pa
    refine run_zipM (show s1.heap.IsTuple a as.toArray from pa) pb.isList ?_
    intro h2 S k
    apply wpAny_pyIter_zip S.zip
    exact ⟨s1.heap.objs.size + 4, [s1.heap.objs.size + 4, s1.heap.objs.size + 2, s1.heap.objs.size + 3, s1.heap.objs.size, s1.heap.objs.size + 1], _, _, H1, rfl, I1.kept (t' := s1.toks) k, turnM (PySem.W.ktu_apart s1.heap.objs.size a b (Heap.lt_size ho1) pb.lt), S, out, q⟩
  | false =>
    obtain ⟨as, ra, pa, _⟩ := I1.list (show SqL X.K H1 a xs from ea)
    refine call_zip_2 pa.isList pb.isList ?_
    intro h2 hz hTI hTO h1' h2' hsz hk
    apply wpAny_pyIter_zip hz
    exact ⟨s1.heap.objs.size + 4, [s1.heap.objs.size + 4, s1.heap.objs.size + 2, s1.heap.objs.size + 3, s1.heap.objs.size, s1.heap.objs.size + 1], _, _, H1, rfl, I1.kept (t' := s1.toks) hk, turn_zip (PySem.W.ktu_apart s1.heap.objs.size a b pa.lt pb.lt), ⟨hz, hTI, ⟨_, _, hTO⟩, h1', h2'⟩, out, q⟩
theorem for_zipX {K : PySem.W.Frag} {k : Bool} {a b : Addr} {us vs : List V} {g : TG} {tb : TS} {D : Ends} {σ : L2.St} {H : Hp} (same : us.length = vs.length) (Pv : Nat → L2.St → Hp → Prop) (h0 : Pv 0 σ H) (hq : ∀ i σ H, Pv i σ H → SqX k K H a us ∧ SqL K H b vs)
    (hs : ∀ (i : Nat) (u v : V) (t : Addr) (σ : L2.St) (H : Hp), us[i]? = some u → vs[i]? = some v → Pv i σ H → H t = none → g (.ref t) σ (upd H t (.tup [u, v])) fun τ H2 => tb { D with nx := Pv (i + 1), ct := Pv (i + 1), bk := D.nx } τ H2) (hd : ∀ σ H, Pv us.length σ H → D.nx σ H) :
    ∃ W : Nat → Nat → L2.St → Hp → Prop, (∃ m, W 0 m σ H) ∧ ∀ i m σ H, W i m σ H →
      ((ItX k K a b).stop i H ∧ D.nx σ H) ∨ ((ItX k K a b).go i H ∧ ∃ N : L2.St → Hp → Prop, (∀ τ H2, N τ H2 → ∃ m2, m2 < m ∧ W (i + 1) m2 τ H2) ∧ ∀ r H2, (ItX k K a b).yld i H r H2 → g r σ H2 fun τ H3 => tb { D with nx := N, ct := N, bk := D.nx } τ H3) := by
  cases k with
  | true => exact for_zipM (K := K) same Pv h0 hq hs hd
  | false => exact RZ.for_zipL (K := K) same Pv h0 hq hs hd
section
variable {K : PySem.W.Frag} {H : Hp} {Q : VK} {σ : L2.St}
theorem x_zX {ta : TA} {R : It → Hp → Prop} (h : ta σ H fun vs H1 => ∃ (k : Bool) (a b : Addr) (us ws : List V), vs = [.ref a, .ref b] ∧ SqX k K H1 a us ∧ SqL K H1 b ws ∧ R (ItX k K a b) H1) : iZipX K ta σ H R := h
end
/-! dict.get -/
theorem units1 {A : Around} (h : A.units + 64 < cLine) : A.units + 1 < cLine := by omega
theorem x_dg1 {td ty : TE} {σ : L2.St} {H : Hp} {Q : VK} (h : td σ H fun x H1 => ∃ a, x = .ref a ∧ IsD H1 a ∧ ty σ H1 fun y H2 => ∃ o, DGet H2 a y o ∧ Q (o.getD .non) H2) : tDGet1 td ty σ H Q := h
theorem x_dnewT {H : Hp} {Q : VK} {σ : L2.St} (h : ∀ p, H p = none → Q (.ref p) (upd H p (.dT []))) : tDNewT σ H Q := h
/-- a loop over enumerate of a list that the body leaves as it is -/
theorem for_enum {K : PySem.W.Frag} {a : Addr} {xs : List V} {g : TG} {tb : TS} {D : Ends} {σ : L2.St} {H : Hp} (Pv : Nat → L2.St → Hp → Prop) (h0 : Pv 0 σ H) (hl : ∀ i σ H, i ≤ xs.length → Pv i σ H → SqL K H a xs)
    (hs : ∀ (i : Nat) (x : V) (t : Addr) (σ : L2.St) (H : Hp), xs[i]? = some x → Pv i σ H → H t = none → g (.ref t) σ (upd H t (.tup [.int (i : Nat), x])) fun τ H2 => tb { D with nx := Pv (i + 1), ct := Pv (i + 1), bk := D.nx } τ H2) (hd : ∀ σ H, Pv xs.length σ H → D.nx σ H) :
    ∃ W : Nat → Nat → L2.St → Hp → Prop, (∃ m, W 0 m σ H) ∧ ∀ i m σ H, W i m σ H →
      ((Ite K a).stop i H ∧ D.nx σ H) ∨ ((Ite K a).go i H ∧ ∃ N : L2.St → Hp → Prop, (∀ τ H2, N τ H2 → ∃ m2, m2 < m ∧ W (i + 1) m2 τ H2) ∧ ∀ r H2, (Ite K a).yld i H r H2 → g r σ H2 fun τ H3 => tb { D with nx := N, ct := N, bk := D.nx } τ H3) := by
  refine ⟨fun i m σ H => m = xs.length - i ∧ i ≤ xs.length ∧ Pv i σ H, ⟨_, rfl, Nat.zero_le _, h0⟩, ?_⟩
  rintro i m σ H ⟨rfl, le, p⟩
  have q := hl i σ H le p
  by_cases lt : i < xs.length
  · refine .inr ⟨⟨xs, xs[i], q, List.getElem?_eq_getElem lt⟩, Pv (i + 1), fun τ H2 p2 => ⟨xs.length - (i + 1), by omega, rfl, lt, p2⟩, ?_⟩
    rintro _ _ ⟨t, x, rfl, ht, rfl, ex⟩
    exact hs i x t σ H (ex xs q) p ht
  · have e : i = xs.length := by omega
    subst e
    exact .inl ⟨⟨xs, q, Nat.le_refl _⟩, hd σ H p⟩
/-! == and != of own instances by their own __eq__. -/
section
variable {prog : Program} {w : World} {A : Around} {E : Value → Shared → Prop} {s : Shared} {K : PySem.W.Frag} {x C f : Addr} {ox : Obj} {od : Option Obj} {name : Str} {id : String}
theorem ifBound_B {M : Model} {args : List Value} {Q : Option Value → Shared → Prop} (X : K.In s.heap) (I : PySem.W.InstAt s.heap x ox C od) (hs : PySem.W.findIn K (.ref C) name = some (some (.builtin id))) (hb : ∀ self, bindSpecial (.builtin id) self = pure (.builtin id, [self]))
    (h : wpAny M A (call (.builtin id) (.ref x :: args)) (fun v => Q (some v)) E s) : wpAny M A (callSpecialIfBound? (.ref x) name args) Q E s := by
  simp only [callSpecialIfBound?, bindSpecialIfBound?]
  refine wpAny_holding (wpAny_bind (wpAny_bind (wpAny_bind (I.type.here ((PySem.W.looks_findIn X hs).here ?_)))))
  refine wpAny_bind (wpAny_askSetting (wpAny_ite ?_))
  have fin : wpAny M A (call (.builtin id) ([.ref x] ++ args) >>= fun v => pure (some v)) Q E s := wpAny_bind (wpAny_mono h (fun v s' h' => wpAny_pure h') fun _ _ h' => h')
  split
  · exact wpAny_bind ((PySem.W.Looks.of_pure (hb _)).here (wpAny_pure (by exact fin)))
  · exact wpAny_tryCatch (wpAny_bind ((PySem.W.Looks.of_pure (hb _)).here (wpAny_pure (by exact fin))))
theorem objNe_K {y : Value} {Q : Fin → Shared → Prop} (X : K.In s.heap) (I : PySem.W.InstAt s.heap x ox C od) (he : PySem.W.findIn K (.ref C) "__eq__" = some (some (.ref f))) (hf : PySem.W.isFn K (.ref f) = true) (hu : A.units < cLine)
    (h : wpAny (model prog w) A (call (.ref f) [.ref x, y]) (fun v s' => ∃ b, v = .bool b ∧ Q (.done (.ret (.bool (!b)))) s') E s) :
    wpAny (model prog w) A (Builtin.«object.__ne__» ⟨[.ref x, y], []⟩) Q E s := by
  unfold Builtin.«object.__ne__»
  repeat (first
    | with_reducible refine wpAny_cRoomFor hu ?_
    | (refine wpAny_bind (m := callSpecialIfBound? (.ref x) (Str.ofString "__eq__") [y])
        (PySem.W.ifBound_K X I he hf (wpAny_mono h (fun r s' hr => by
          obtain ⟨b, rfl, hq⟩ := hr
          repeat (first | exact hq | exact wpAny_pure hq | exact wpAny_truthy_bool hq | (refine wpAny_bind (m := truthy (.bool _)) (wpAny_truthy_bool ?_)) | wp_step)) fun _ _ e => e)))
    | wp_step)
theorem ne_bind (self : Value) : bindSpecial (.builtin "object.__ne__") self = pure (.builtin "object.__ne__", [self]) :=
  F.cmp_object.ne.bind self
theorem ne_K {y : Value} {tb : Value} {Q : Value → Shared → Prop} (hu : A.units + 1 < cLine) (X : K.In s.heap) (I : PySem.W.InstAt s.heap x ox C od) (hb : PySem.W.Looks (model prog w) s.heap (typeOf y) tb) (hn : PySem.W.notFirst K C tb = true)
    (hs : PySem.W.findIn K (.ref C) "__ne__" = some (some (.builtin "object.__ne__"))) (hp : PySem.W.plainOver K C = true) (he : PySem.W.findIn K (.ref C) "__eq__" = some (some (.ref f))) (hf : PySem.W.isFn K (.ref f) = true)
    (h : wpAny (model prog w) A.in1 (call (.ref f) [.ref x, y]) (fun v s' => ∃ b, v = .bool b ∧ Q (.bool (!b)) s') E s) : wpAny (model prog w) A (richCompare .NotEq (.ref x) y) Q E s := by
  obtain ⟨cd, hc, ho⟩ := PySem.W.any_some hp
  have ne : cd.mro.isEmpty = false := by cases q : cd.mro with | nil => rw [q] at ho; cases ho | cons _ _ => rfl
  have sub : PySem.W.Looks (model prog w) s.heap (isInstance (.ref x) (.type "object")) true := I.type.andThen (PySem.W.looks_mroIn X (by unfold PySem.W.mroIn; rw [hc, Option.bind_some, if_neg (by rw [ne]; decide), PySem.W.only_has ho]))
  have one : wpAny (model prog w) A (tryCompare (.ref x) "__ne__" y) (fun r s' => ∃ v, r = some v ∧ Q v s') E s := by
    unfold tryCompare
    refine wpAny_bind (ifBound_B X I hs ne_bind ?_)
    refine wpAny_call (codeAny_call_builtin F.cmp_object.ne.plain F.cmpEntry_ne (@PySem.W.check_slot (model prog w) _ _ s "object.__ne__" "object" "__ne__" (.ref x) [y] [] _ F.cmpKind_ne F.cmpSplit_ne sub (F.cmpArgs_ne _ _) ?_))
    refine objNe_K (A := A.in1) X I he hf hu (wpAny_mono h (fun v s' hv => ?_) fun _ _ e => e)
    obtain ⟨b, rfl, hq⟩ := hv
    exact ⟨b, rfl, wpAny_pure ⟨_, rfl, hq⟩⟩
  unfold richCompare
  simp only [oneThing_ref]
  refine wpAny_holding (wpAny_bind (wpAny_cRoomFor (Nat.lt_of_succ_lt hu) ?_))
  rw [cmpInfo_NotEq]
  dsimp only
  refine wpAny_bind (I.type.here (wpAny_bind (hb.here ?_)))
  split
  · rename_i q
    have e : PySem.W.subIn K tb (.ref C) = some false := by
      rcases Bool.or_eq_true_iff.mp hn with e | e
      · rw [beq_iff_eq.mp e] at q; simp at q
      · exact beq_iff_eq.mp e
    refine wpAny_bind ((PySem.W.looks_subIn X e).here ?_)
    simp only [Bool.false_eq_true, if_false]
    refine wpAny_bind (wpAny_mono one (fun r s' z => ?_) fun _ _ e => e)
    obtain ⟨v, rfl, hq⟩ := z
    exact wpAny_pure hq
  · refine wpAny_bind (wpAny_pure ?_)
    simp only [Bool.false_eq_true, if_false]
    refine wpAny_bind (wpAny_mono one (fun r s' z => ?_) fun _ _ e => e)
    obtain ⟨v, rfl, hq⟩ := z
    exact wpAny_pure hq
end
section
variable {X : Cx} {k : Nat} {C : Addr} {sp : Sp}
/-- == by the own __eq__, both of one class -/
def rOwn (neg : Bool) (C : Addr) (sp : Sp) : R2 := fun x y H Q => ∃ a b dx dy fs gs, x = .ref a ∧ y = .ref b ∧ H a = some (.ins C dx fs) ∧ H b = some (.ins C dy gs) ∧ sp [.ref a, .ref b] H (fun v H' => ∃ c, v = .bl c ∧ Q (.bl (if neg = true then !c else c)) H') E0
theorem run_eqO {A : Around} {f : Addr} {fd : FuncData} {ps : List Str} {pins : List (Addr × Obj)} {σ : L2.St} {H : Hp} {s : Shared} {a b : Addr} {Q : Bool → Hp → Prop} (F : FnG X.prog X.w X.K X.mg X.base k f fd ps sp) (hb : Binds X.K fd ps []) (room : Room k A) (gd : A.guards = some [])
    (e0 : Env0 X.prog X.w X.K X.mg X.base A X.stack s H) (I : Inv X pins σ H s) (h : sp [.ref a, .ref b] H (fun v H' => ∃ c, v = .bl c ∧ Q c H') E0) :
    wpAny (model X.prog X.w) A (call (.ref f) [.ref a, .ref b]) (fun v s' => ∃ c H', v = .bool c ∧ Inv X pins σ H' s' ∧ Q c H') X.xe s := by
  have n1 : ([Value.ref a, Value.ref b] : List Value).length = ps.length := F.len _ _ _ _ h
  have bt := hb s [.ref a, .ref b] I.kIn (by rw [List.append_nil]; exact n1)
  rw [List.append_nil] at bt
  refine wpAny_call (codeAny_mono (F.go A X.stack s H ⟨[.ref a, .ref b], []⟩ [.ref a, .ref b] [.ref a, .ref b] _ E0 room gd e0 bt (.cons rfl (.cons rfl .nil)) h) ?_)
  intro res z hz
  match res, hz with
  | .error e, hz => exact False.elim hz
  | .ok .next, hz => exact False.elim hz
  | .ok .brk, hz => exact False.elim hz
  | .ok .cont, hz => exact False.elim hz
  | .ok (.ret u), hz =>
    obtain ⟨v, H', I3, rv, c, rfl, q3⟩ := I.after hz
    cases (show u = Value.bool c from rv)
    exact ⟨c, H', rfl, I3, q3⟩
theorem op_eqO (F : Km X.prog X.w X.K X.mg X.base C "__eq__" k sp) (room : Room k X.A) (gd : X.A.guards = some []) : OpR X (compareOp .Eq) (rOwn false C sp) := by
  intro pins s σ H x y v u Q I rx ry hq
  obtain ⟨a, b, dx, dy, fs, gs, rfl, rfl, ha, hb', q⟩ := hq
  cases (show v = Value.ref a from rx)
  cases (show u = Value.ref b from ry)
  obtain ⟨f, fd, ps, F, hm, hb⟩ := F.ex
  show wpAny (model X.prog X.w) X.A (richCompare .Eq (.ref a) (.ref b)) (EP X pins σ Q) X.xe s
  obtain ⟨mA, J, _⟩ := ins_get I.hok ha
  obtain ⟨mB, J', _⟩ := ins_get I.hok hb'
  obtain ⟨od, J, _⟩ := J.look
  obtain ⟨od', J', _⟩ := J'.look
  obtain ⟨m, hF⟩ := I.fr
  refine PySem.W.cmp_K (op := .Eq) (tb := .ref C) room.units0 hF I.ok.mod.kin J J'.type (by simp [PySem.W.notFirst]) hm.at_ hm.fn ?_
  refine wpAny_mono (run_eqO F hb room gd I.env0 I q) (fun r s' z => ?_) fun _ _ x => x
  obtain ⟨c, H', rfl, I', q'⟩ := z
  exact ⟨.bl c, H', I', rfl, by simpa using q'⟩
theorem op_neO (F : Km X.prog X.w X.K X.mg X.base C "__eq__" k sp) (hne : PySem.W.findIn X.K (.ref C) "__ne__" = some (some (.builtin "object.__ne__"))) (hp : PySem.W.plainOver X.K C = true) (room : Room (k + 1) X.A) (gd : X.A.guards = some []) : OpR X (compareOp .NotEq) (rOwn true C sp) := by
  intro pins s σ H x y v u Q I rx ry hq
  obtain ⟨a, b, dx, dy, fs, gs, rfl, rfl, ha, hb', q⟩ := hq
  cases (show v = Value.ref a from rx)
  cases (show u = Value.ref b from ry)
  obtain ⟨f, fd, ps, F, hm, hb⟩ := F.ex
  show wpAny (model X.prog X.w) X.A (richCompare .NotEq (.ref a) (.ref b)) (EP X pins σ Q) X.xe s
  obtain ⟨mA, J, _⟩ := ins_get I.hok ha
  obtain ⟨mB, J', _⟩ := ins_get I.hok hb'
  obtain ⟨od, J, _⟩ := J.look
  obtain ⟨od', J', _⟩ := J'.look
  refine ne_K (tb := .ref C) ?hu I.kIn J J'.type (by simp [PySem.W.notFirst]) hne hp hm.at_ hm.fn ?_
  case hu => exact (room.in1).units0
  refine wpAny_mono (run_eqO F hb room.in1 (guards_in1 gd) I.env0.in1 I q) (fun r s' z => ?_) fun _ _ x => x
  obtain ⟨c, H', rfl, I', q'⟩ := z
  exact ⟨c, rfl, .bl (!c), H', I', rfl, by simpa using q'⟩
theorem x_own {neg : Bool} {a b dx dy : Addr} {fs gs : List (Str × V)} {H : Hp} {Q : VK} (ha : H a = some (.ins C dx fs)) (hb : H b = some (.ins C dy gs)) (h : sp [.ref a, .ref b] H (fun v H' => ∃ c, v = .bl c ∧ Q (.bl (if neg = true then !c else c)) H') E0) : rOwn neg C sp (.ref a) (.ref b) H Q := ⟨a, b, dx, dy, fs, gs, rfl, rfl, ha, hb, h⟩
end
/-! Lists of pairs of ints: sorted, inserted. -/
def prD (p : Int × Int) : PyData := .tuple [.int p.1, .int p.2]
/-- the pair that stands at a value -/
def prAt (H : Hp) : V → Int × Int
  | .ref t => match H t with
    | some (.tup [.int i, .int j]) => (i, j)
    | _ => (0, 0)
  | _ => (0, 0)
theorem Dn.pair {M : List Addr} {H : Hp} {v : V} {p : Int × Int} (h : Dn M H v (prD p)) : ∃ r, v = .ref r ∧ r ∉ M ∧ H r = some (.tup [.int p.1, .int p.2]) := by
  unfold prD at h
  cases h with
  | @tup r xs _ e n A =>
    cases A with
    | cons a A =>
      cases A with
      | cons b A =>
        cases A
        cases a; cases b
        exact ⟨r, rfl, n, e⟩
theorem Dn.prAt {M : List Addr} {H : Hp} {v : V} {p : Int × Int} (h : Dn M H v (prD p)) : prAt H v = p := by
  obtain ⟨r, rfl, _, e⟩ := h.pair
  show (match H r with
    | some (.tup [.int i, .int j]) => (i, j)
    | _ => (0, 0)) = p
  rw [e]
theorem DnAll.prs {M : List Addr} {H : Hp} : ∀ {xs : List V} {ps : List (Int × Int)}, DnAll M H xs (ps.map prD) → xs.map (prAt H) = ps ∧ ∀ x ∈ xs, Dn M H x (prD (prAt H x))
  | _, [], .nil => ⟨rfl, by simp⟩
  | x :: r, p :: ps, .cons a A => by
    obtain ⟨e, m⟩ := DnAll.prs A
    refine ⟨by rw [List.map_cons, a.prAt, e], fun y hy => ?_⟩
    rcases List.mem_cons.mp hy with rfl | hy
    · rw [a.prAt]; exact a
    · exact m y hy
theorem DnAll.ofPrs {M : List Addr} {H : Hp} : ∀ {xs : List V}, (∀ x ∈ xs, Dn M H x (prD (prAt H x))) → DnAll M H xs ((xs.map (prAt H)).map prD)
  | [], _ => .nil
  | x :: r, h => .cons (h x (List.mem_cons_self ..)) (DnAll.ofPrs fun y hy => h y (List.mem_cons_of_mem _ hy))
/-- order of pairs -/
def leP (p q : Int × Int) : Prop := SrtO.lexB q p = false
theorem leP_anti {p q : Int × Int} (a : leP p q) (b : leP q p) : p = q := by
  have a : ¬ SrtO.lexB q p = true := by rw [show SrtO.lexB q p = false from a]; exact Bool.false_ne_true
  have b : ¬ SrtO.lexB p q = true := by rw [show SrtO.lexB p q = false from b]; exact Bool.false_ne_true
  rw [SrtO.lexB_iff] at a b
  have : p.1 = q.1 ∧ p.2 = q.2 := by omega
  exact Prod.ext this.1 this.2
/-- what sorting gives, as data -/
def SrtOf (ps qs : List (Int × Int)) : Prop := qs.Perm ps ∧ qs.Pairwise leP
theorem SrtOf.one {ps qs rs : List (Int × Int)} (a : SrtOf ps qs) (b : SrtOf ps rs) : qs = rs :=
  List.Perm.eq_of_pairwise (fun _ _ _ _ h1 h2 => leP_anti h1 h2) a.2 b.2 (a.1.trans b.1.symm)
theorem x_sortP {K : PySem.W.Frag} {M : List Addr} {H : Hp} {Q : VK} {a : Addr} {xs : List V} {ps : List (Int × Int)} (ha : SqL K H a xs) (A : DnAll M H xs (ps.map prD))
    (h : ∀ (f : Addr) (ys : List V) (qs : List (Int × Int)), H f = none → SrtOf ps qs → DnAll M (upd H f (.lst ys)) ys (qs.map prD) → (upd H f (.lst ys)) f = some (.lst ys) → Q (.ref f) (upd H f (.lst ys))) : rSortedPO K [.ref a] H Q := by
  obtain ⟨e, m⟩ := A.prs
  refine ⟨a, xs, prAt H, rfl, ha, fun x hx => ?_, fun ys f s t hf => ?_⟩
  · obtain ⟨r, rfl, _, e⟩ := (m x hx).pair
    exact ⟨r, rfl, e⟩
  · have B := DnAll.ofPrs fun y hy => m y (t.perm.mem_iff.mp hy)
    refine h f ys (ys.map (prAt H)) hf ⟨?_, ?_⟩ (B.ext (Ext.same (same_upd hf))) upd_same
    · have := t.perm.map (prAt H)
      rw [e] at this
      exact this
    · exact List.pairwise_map.mpr s
theorem x_ins {l : Addr} {xs : List V} {i : Int} {y : V} {H : Hp} {Q : VK} (hl : H l = some (.lst xs)) (z : xs.length < sizeLine) (i0 : 0 ≤ i) (i1 : i < 2 ^ 63) (h : Q .non (upd H l (.lst (xs.take i.toNat ++ [y] ++ xs.drop i.toNat)))) :
    ∃ (l' : Addr) (xs' : List V) (i' : Int) (y' : V), V.ref l = .ref l' ∧ [V.int i, y] = [.int i', y'] ∧ H l' = some (.lst xs') ∧ xs'.length < sizeLine ∧ 0 ≤ i' ∧ i' < 2 ^ 63 ∧ Q .non (upd H l' (.lst (xs'.take i'.toNat ++ [y'] ++ xs'.drop i'.toNat))) :=
  ⟨l, xs, i, y, rfl, rfl, hl, z, i0, i1, h⟩
/-! Errors: defs that raise, errors that are caught. -/
/-- a def's promise that may end in an error -/
structure FnX (P : Program) (w : World) (K : PySem.W.Frag) (mg : Str → Option Value) (base : Heap)
    (k : Nat) (f : Addr) (fd : FuncData) (ps : List Str) (sp : Sp) : Prop where
  len : ∀ vs H Q E, sp vs H Q E → vs.length = ps.length
  go : ∀ (B : Around) (fr : List Env) (z : Shared) (H : Hp) (ar : Args) (us : List Value) (vs : List V) (Q : VK) (E : XK),
    Room k B → B.guards = some [] → Env0 P w K mg base B fr z H → BindsTo z fd ar (ps.zip us) → Vals vs us →
    sp vs H Q E → codeAny (model P w) B (.call (.ref f) ar) (CR (L2.CX P w) fr P w H z Q E) z
section
variable {P : Program} {w : World} {K : PySem.W.Frag} {mg : Str → Option Value} {base : Heap}
theorem FnX.up {j k : Nat} {f : Addr} {fd : FuncData} {ps : List Str} {sp : Sp}
    (F : FnX P w K mg base j f fd ps sp) (h : j ≤ k) : FnX P w K mg base k f fd ps sp :=
  ⟨F.len, fun B fr z H ar us vs Q E r => F.go B fr z H ar us vs Q E (r.mono h)⟩
theorem FnX.mk' {x qual : Str} {st : Stmt} {f : Addr} {fd : FuncData} {N ps : List Str} {k : Nat} {sp : Sp}
    (F : Fun K x qual st f fd) (S : FnScope N ps (defScope st)) (len : ∀ vs H Q E, sp vs H Q E → vs.length = ps.length)
    (body : ∀ (cd : Value) (B : Around) (fr : List Env) (z : Shared) (H : Hp) (vs : List V) (Q : VK) (E : XK),
      Room k (B.deeper (envOfC qual (defScope st) z.heap.objs.size f cd)) →
      (B.deeper (envOfC qual (defScope st) z.heap.objs.size f cd)).guards = some [] → sp vs H Q E →
      ∃ t, PSs (cxOf (L2.CX P w) P w K mg base N qual (defScope st) f cd B fr z H E) (defBody st) t ∧
        t { nx := fun _ H' => Q .non H', rt := Q } (start N vs) H) : FnX P w K mg base (k + 1) f fd ps sp := by
  obtain ⟨oc, od, kV, doc, pm, an, cd, ct, osl, rfl, lk, hc⟩ := F.ex
  constructor
  · exact len
  intro B fr z H ar us vs Q E room guard env bind rel want
  have n1 := len _ _ _ _ want
  have kin : K.In z.heap := env.mod.kin.keeps fun b o e => (env.bs b o e).1
  have lim : z.heap.NoLimit :=
    env.mod.nolimit.keeps fun b o e => (env.bs b o e).1
  have kinds : ∀ y ∈ ps.zip us, (defScope st).names.lookup y.1 = some .local ∨
      ((defScope st).names.lookup y.1 = some .cell ∧
        ((cellsFrom (z.heap.objs.size + 1) (defScope st).names []).lookup y.1).isSome = true) := by
    intro y hy
    rcases S.par y.1 (List.of_mem_zip (show (y.1, y.2) ∈ ps.zip us from hy)).1 with h | h
    · exact Or.inl h
    · exact Or.inr ⟨h, PySem.W.cellsFrom_some _ _ _ (.inl h)⟩
  apply codeAny_call_function room.depth (kin _ _ lk) rfl S.co S.gen rfl (PySem.W.codeRec_of kin hc)
  apply bind
  apply wpAny_newFunctionEnv_cells S.kind kinds
  intro e he z1 ic
  subst he
  refine ⟨lim.keeps ic.toInCall.keep, codeAny_func ?_⟩
  obtain ⟨t, ht, hq⟩ := body cd B fr z H vs Q E (room.deeper _) guard want
  have I0 : Inv (cxOf (L2.CX P w) P w K mg base N qual (defScope st) f cd B fr z H E) [] (start N vs) H z1 := inv_start S room.hd env n1 rel ic
  refine wpAny_mono (ht.run [] z1 (start N vs) H _ I0 hq) (fun fl z2 h2 => ?_) fun e s' hs => hs
  match fl, h2 with
  | .ret u, h2 =>
    obtain ⟨v, σ2, H2, J, rv, q⟩ := h2
    exact ⟨v, H2, J.os, J.bare, J.base, J.hok, rv, q⟩
  | .next, h2 =>
    obtain ⟨σ2, H2, J, q⟩ := h2
    exact ⟨V.non, H2, J.os, J.bare, J.base, J.hok, rfl, q⟩
  | .brk, h2 =>
    obtain ⟨_, _, _, q⟩ := h2
    exact q.elim
  | .cont, h2 =>
    obtain ⟨_, _, _, q⟩ := h2
    exact q.elim
/-- such a def, known by its name -/
structure Kx (P : Program) (w : World) (K : PySem.W.Frag) (mg : Str → Option Value) (base : Heap) (nm : Str) (k : Nat) (sp : Sp) : Prop where
  ex : ∃ f fd ps, FnX P w K mg base k f fd ps sp ∧ mg nm = some (.ref f) ∧ PySem.W.keepIn K (.ref f) = true ∧ Binds K fd ps []
theorem Kx.up {nm : Str} {j k : Nat} {sp : Sp} (F : Kx P w K mg base nm j sp) (h : j ≤ k) : Kx P w K mg base nm k sp := by
  obtain ⟨f, fd, ps, a, b⟩ := F.ex
  exact ⟨f, fd, ps, a.up h, b⟩
theorem kx_of {base : Heap} {nm : Str} {st : Stmt} {N ps : List Str} {k : Nat} {sp : Sp} (D : Df K mg nm st)
    (bd : ∀ (kV doc pm : Value) (an : Option Addr) (cdv ct : Value) (us : List Value), us.length = ps.length → bindArgs (PySem.W.fnOf nm nm (defArgs st) (defBody st) (defScope st) .none kV doc pm an cdv ct) ⟨us, []⟩ = pure (ps.zip us))
    (S : FnScope N ps (defScope st)) (len : ∀ vs H Q E, sp vs H Q E → vs.length = ps.length)
    (body : ∀ (f : Addr) (cd : Value) (B : Around) (fr : List Env) (z : Shared) (H : Hp) (vs : List V) (Q : VK) (E : XK),
      Room k (B.deeper (envOfC nm (defScope st) z.heap.objs.size f cd)) →
      (B.deeper (envOfC nm (defScope st) z.heap.objs.size f cd)).guards = some [] → sp vs H Q E →
      ∃ t, PSs (cxOf (L2.CX P w) P w K mg base N nm (defScope st) f cd B fr z H E) (defBody st) t ∧
        t { nx := fun _ H' => Q .non H', rt := Q } (start N vs) H) : Kx P w K mg base nm (k + 1) sp := by
  obtain ⟨f, fd, F, hm⟩ := D.ex
  exact ⟨f, fd, ps, FnX.mk' F S len (body f), hm, F.kp, F.binds bd⟩
end
section
variable {X : Cx} {k : Nat} {sp : Sp} {nm : Str} {p pos : Pos} {e : Expr} {es : List Expr} {t : TA} {W : WX}
/-- a call of such a def, where its errors are wished for -/
theorem pe_ownX (c : Kx X.prog X.w X.K X.mg X.base nm k sp) (room : Room k X.A) (gd : X.A.guards = some []) (tk : Takes X W) (hg : Gl X nm)
    (ha : PA X (e :: es) t) (hdb : (nm == ("__debug__" : Str)) = false := by decide)
    (he : starEach (e :: es) X.env = (false, eval e X.env) :: starEach es X.env := by rfl)
    (hp : (backTo pos (starEach es X.env)).any (·.1) = false := by rfl) : PE X (.Call (.Name nm p) (e :: es) [] pos) (tCallS sp (WE W) t) := by
  obtain ⟨f, fd, ps, F, hm, hk, hb⟩ := c.ex
  constructor
  intro pins s σ H Q I h
  apply wpAny_Call_Name_kw
  refine ld_glob I hg hm ?_ hdb
  refine PySem.W.callWith_K (h₀ := X.base) I.ok.mod.kin hk ?_ he hp
  refine thn (ha.run pos pins s σ H _ I h) ?_
  rintro us s1 ⟨vs, H1, I1, r, q⟩
  refine ⟨I1.kIn, ?_⟩
  have n1 : us.length = ps.length := r.length.symm.trans (F.len _ _ _ _ q)
  have bt := hb s1 us I1.kIn (by rw [List.append_nil]; exact n1)
  rw [List.append_nil] at bt
  apply wpAny_call
  refine codeAny_mono (F.go X.A X.stack s1 H1 ⟨us, []⟩ us vs Q _ room gd I1.env0 bt r q) ?_
  intro res z hz
  match res, hz with
  | .error e, hz => exact passAt tk σ pins H1 s1 e z I1 hz
  | .ok (.ret u), hz => exact I1.after hz
  | .ok .next, hz => exact False.elim hz
  | .ok .brk, hz => exact False.elim hz
  | .ok .cont, hz => exact False.elim hz
/-- X(), X an own error class without own __init__ -/
theorem pmk_own0 {C : Addr} {bmB : List Value} {B newId initId : String} {x : Str} (F : ExcBaseFacts B newId initId bmB) (q : PySem.W.excIn X.K C bmB newId = true) (gC : X.mg x = some (.ref C))
    (kC : PySem.W.keepIn X.K (.ref C) = true) (r : Raises X (.ref C)) (hg : Gl X x) (hdb : (x == ("__debug__" : Str)) = false := by decide) :
    PMk X (.Call (.Name x p) [] [] pos) (fun _ H Q => Q (.ref C) none H) := by
  intro pins s σ H Q I h
  refine wpAny_Call_Name_kw (ld_glob I hg gC ?_ hdb)
  refine PySem.W.callWith_K0 (first := []) I.kIn kC ?_
  show wpAny _ _ (call (.ref C) []) _ _ _
  obtain ⟨bm, N, nm, qn, bs, hdct, sn, sub, ab, col, dd, k0, k1, k2, k3, k5, mN, hC, hN, hni, T⟩ := exc_obj I.kIn q
  obtain ⟨hp, g, d, t, os⟩ := s
  refine wpAny_call_exc_subT F T hC hN hni (fun h' e hm => ?_) (Nat.zero_le _)
  exact mk_of I hm r h (I.hok.gone hm.new)
end
end Lw
namespace PySem.W
open PySem PySem.Spec PySem.Calls PyProof.Rows
section
variable {prog : Program} {w : World} {A : Around} {E : Value → Shared → Prop} {s : Shared} {K : Frag} {x D : Addr} {ox : Obj} {od : Option Obj}
theorem lw_dataN {C : Addr} {name : Str} {a g : Value} (hc : (clsIn K C).isSome = true) (ha : findIn K (.ref C) name = some (some a)) (hg : specialIn K a "__get__" = some (some g)) (ht : takesIn K a = some true) : findObj K C od name = some (.bind g a) := by
  obtain ⟨cd, hc⟩ := Option.isSome_iff_exists.mp hc
  unfold findObj
  rw [hc, Option.bind_some, ha, Option.bind_some]
  simp [hg, ht]
theorem lw_classE {Q : Option Value → Shared → Prop} (hga : findIn K (.ref D) "__getattribute__" = some (some (.builtin "BaseException.__getattribute__"))) (hgt : findIn K (.ref D) "__getattr__" = some none) (hsub : subIn K (.ref D) (.type "BaseException") = some true)
    (hdct : hasDictIn K D = true) (ha : findIn K (.ref D) "__class__" = some (some (.builtin "object.__class__")))
    (hn : specialIn K (.builtin "object.__class__") "__get__" = some (some (.builtin "getset_descriptor.__get__"))) (htk : takesIn K (.builtin "object.__class__") = some true) (hm : mroIn K D (.type "object") = some true)
    (X : K.In s.heap) (I : InstAt s.heap x ox D od) (h : Q (some (.ref D)) { s with toks := s.toks + 1 }) : wpAny (model prog w) A (getAttr? (.ref x) "__class__") Q E s := by
  have hf : findObj K D od "__class__" = some (.bind (.builtin "getset_descriptor.__get__") (.builtin "object.__class__")) := lw_dataN (by obtain ⟨cd, hc, _⟩ := any_some hdct; rw [hc]; rfl) ha hn htk
  obtain ⟨hp, g, d, t, os⟩ := s
  have L0 := I.type (M := model prog w)
  have L1 := looks_findIn (M := model prog w) X hga
  have L2 := looks_findIn (M := model prog w) X hgt
  have L3 := looks_find (M := model prog w) X I hf
  have sub : Looks (model prog w) hp (isInstance (.ref x) (.type "BaseException")) true := L0.andThen (looks_subIn X hsub)
  have hx0 : (false && onTheHeap (Value.builtin "BaseException.__getattribute__")) = false := rfl
  have hx2 : (Value.builtin "BaseException.__getattribute__" == Value.builtin "object.__getattribute__") = false := by decide +kernel
  have hx1 : (onTheHeap (Value.ref D) && Value.builtin "BaseException.__getattribute__" == Value.builtin "object.__getattribute__") = false := by rw [hx2]; rfl
  unfold getAttr? getAttrBy? getAttrBy
  refine wpAny_bind (wpAny_mkText (wpAny_bind (wpAny_attempt (wpAny_holding (wpAny_bind (L0.at (wpAny_bind (L1.at ?_))))))))
  show wpAny _ _ (if (onTheHeap (Value.ref D) && Value.builtin "BaseException.__getattribute__" == Value.builtin "object.__getattribute__") = true then _ else _) _ _ _
  rw [hx1, if_neg Bool.false_ne_true]
  unfold getAttrByItsOwn hookBefore
  refine wpAny_bind ?_
  rw [if_pos (show onTheHeap (Value.ref D) = true from rfl)]
  refine L2.at ?_
  refine wpAny_bind (wpAny_attempt (wpAny_holding ?_))
  unfold callGetattribute
  rw [hx0, if_neg Bool.false_ne_true]
  unfold boundAndCalled
  rw [PySem.F.excAttr_ValueError.ga.bind (.ref x)]
  refine wpAny_bind (wpAny_pure ?_)
  show wpAny _ _ (call (.builtin "BaseException.__getattribute__") [.ref x, .str "__class__" t]) _ _ _
  refine wpAny_call (codeAny_call_builtin PySem.F.excAttr_ValueError.ga.plain PySem.F.entry_bexc_ga ?_)
  refine @check_slot (model prog w) _ _ ⟨hp, g, d, t + 1, os⟩ "BaseException.__getattribute__" "BaseException" "__getattribute__" (.ref x) [.str "__class__" t] [] _ (by decide +kernel) (by decide +kernel) sub (PySem.F.args_bexc_ga (.ref x) (.str "__class__" t)) ?_
  unfold Builtin.«object.__getattribute__»
  refine wpAny_bind (wpAny_of_eq (a := ((Value.ref x : Value), [Value.str "__class__" t])) (by first | rfl | (simp only [slotArgs]; rfl)) ?_)
  refine wpAny_bind (wpAny_pure (wpAny_bind (L0.at (wpAny_bind (L3.at ?_)))))
  show wpAny _ _ (holding [Value.builtin "object.__class__"] (call (.builtin "getset_descriptor.__get__") [.builtin "object.__class__", .ref x, .ref D]) >>= ret) _ _ _
  refine wpAny_bind (wpAny_holding (wpAny_call (class_get (s := ⟨hp, g, d, t + 1, os⟩) (ox := ox) (od := od) X I hm ?_)))
  refine wpAny_pure ?_
  show wpAny _ _ (handedOut (.ref D)) _ _ _
  rw [handedOut_of (v := .ref D) rfl]
  first
    | exact wpAny_pure (wpAny_pure h)
    | exact wpAny_pure h
    | exact wpAny_pure (wpAny_bind (wpAny_pure (wpAny_pure h)))
theorem lw_kitx_exc (hga : findIn K (.ref D) "__getattribute__" = some (some (.builtin "BaseException.__getattribute__"))) (hgt : findIn K (.ref D) "__getattr__" = some none) (hsub : subIn K (.ref D) (.type "BaseException") = some true) (hdct : hasDictIn K D = true) (ha : findIn K (.ref D) "__class__" = some (some (.builtin "object.__class__")))
    (hn : specialIn K (.builtin "object.__class__") "__get__" = some (some (.builtin "getset_descriptor.__get__"))) (htk : takesIn K (.builtin "object.__class__") = some true) (hm : mroIn K D (.type "object") = some true) :
    KitX K (.ref x) (.ref D) (fun h => InstAt h x ox D od) where
  ty := fun _ _ _ I => I.type
  it := fun _ _ X _ => by
    obtain ⟨cdD, hcD, _⟩ := any_some hdct
    unfold clsIn at hcD
    split at hcD
    · rename_i c' d' cd' sl' ho
      intro A' Q' E' s' k q
      unfold isType loadHead
      exact wpAny_bind (wpAny_loadPart (k _ _ (X _ _ ho)) (wpAny_pure q))
    · cases hcD
  ne := fun h tp dd its n sl X htp => by
    obtain ⟨cdD, hcD, _⟩ := any_some hdct
    refine Bool.eq_false_iff.mpr fun q => ?_
    have e : D = tp := Value.ref.inj (beq_iff_eq.mp q)
    subst e
    unfold clsIn at hcD
    split at hcD
    · rename_i c' d' cd' sl' ho
      have z := (X _ _ ho).symm.trans htp
      cases z
    · cases hcD
  ca := fun X I k => lw_classE hga hgt hsub hdct ha hn htk hm X I k
end
end PySem.W
namespace Lw
open PySem PySem.Spec PyProof.Rows L2
/-- isinstance(e, c) in an except suite, e with or without fields -/
def rIsF (K : PySem.W.Frag) (cls : Value) (a : Addr) (d : Option Addr) : List V → Hp → VK → Prop := fun xs H Q => ∃ (D : Addr) (c : V) (cv : Value) (b : Bool), cls = .ref D ∧ ExcC K D ∧ xs = [.ref a, c] ∧ ClsV c cv ∧ (∀ dd, d = some dd → ∃ fs, H dd = some (.xd fs)) ∧ PySem.W.kitOne K (.ref D) cv = some b ∧ Q (.bl b) H
theorem call_isF {X : Cx} {a : Addr} {cls : Value} {d : Option Addr} {oe : Obj} {pn : List (Addr × Obj)} (hz : Zc cls d oe) (hf : ∃ vs, oe.data = .fields vs) : CallR (X.suite a ((a, oe) :: pn)) (.builtin "isinstance") (rIsF X.K cls a d) := by
  intro pins s σ H xs us Q I r h
  obtain ⟨D, c, cv, b, rfl, C, rfl, hcv, hd, e, q⟩ := h
  cases r with
  | cons rx rr =>
    cases rr with
    | cons rt rr =>
      cases rr
      cases rx
      have ec := hcv.eq rt
      subst ec
      obtain ⟨hget, _⟩ := I.pin (a, oe) (List.mem_append.mpr (.inl List.mem_cons_self))
      obtain ⟨vs, hv⟩ := hf
      have J : ∃ od, PySem.W.InstAt s.heap a oe D od := by
        cases d with
        | none =>
          refine ⟨none, ?_⟩
          obtain ⟨oc, od, oda, osl⟩ := oe
          obtain ⟨h1, h2⟩ := hz
          dsimp only at h1 h2 hv
          subst h1 h2 hv
          exact ⟨hget, rfl, rfl, trivial⟩
        | some dd =>
          obtain ⟨fs, ea⟩ := hd dd rfl
          have hx : ObjOk X.prog X.w H s.heap dd (.xd fs) := I.hok dd _ ea
          obtain ⟨mA, hns, hr⟩ := hx
          obtain ⟨od, ho, hl⟩ := lookIn_ns hns
          exact ⟨some od, hget, hz.1, by unfold PySem.W.notCls; rw [hv] <;> rfl, by rw [hz.2]; exact ho⟩
      obtain ⟨od, J⟩ := J
      exact PySem.W.kia_one (PySem.W.lw_kitx_exc C.hg C.hk C.hs C.hd C.ha C.hn C.ht C.hm) I.kIn J e (fun z => nomatch z) fun tk => ⟨.bl b, H, I.kept (t' := tk) fun _ _ z => z, rfl, q⟩
theorem units65 {k : Nat} {A : Around} (r : Room k A) : A.units + 65 < cLine := by have := r.un; omega
/-- an own error class with its __init__ -/
structure Exk (P : Program) (w : World) (K : PySem.W.Frag) (mg : Str → Option Value) (base : Heap) (nm : Str) (C : Addr) (k : Nat) (sp : Sp) : Prop where
  oex : OexC K C
  at_ : mg nm = some (.ref C)
  ini : ∃ fI fd ps, FnOk P w K mg base CX0 k fI fd ps sp ∧ PySem.W.findIn K (.ref C) "__init__" = some (some (.ref fI)) ∧ PySem.W.typeIn K (.ref fI) = some (.type "function") ∧ Binds K fd ps []
/-- an own error class without one -/
structure Ex0 (K : PySem.W.Frag) (mg : Str → Option Value) (nm : Str) (C : Addr) : Prop where
  q : PySem.W.excIn K C [.type "ValueError", .type "Exception", .type "BaseException", .type "object"] "ValueError.__new__" = true
  at_ : mg nm = some (.ref C)
  kp : PySem.W.keepIn K (.ref C) = true
  b : PySem.W.subIn K (.ref C) (.type "BaseException") = some true
  t : PySem.W.typeIn K (.ref C) = some (.type "type")
section
variable {X : Cx} {k : Nat} {sp : Sp} {nm : Str} {C : Addr} {p pos : Pos} {e : Expr} {es : List Expr} {t : TA}
theorem pmk_ex (c : Exk X.prog X.w X.K X.mg X.base nm C k sp) (hr : Room (k + 1) X.A) (hg : Gl X nm) (ha : PA X (e :: es) t) (hdb : (nm == ("__debug__" : Str)) = false := by decide)
    (he : starEach (e :: es) X.env = (false, eval e X.env) :: starEach es X.env := by rfl) (hpl : (backTo pos (starEach es X.env)).any (·.1) = false := by rfl) : PMk X (.Call (.Name nm p) (e :: es) [] pos) (tMkO C sp [] t) := by
  obtain ⟨fI, fd, ps, F, iC, tI, hb⟩ := c.ini
  exact pmk_oex c.oex iC tI F hr hb .nil pass0 hg c.at_ ha hdb he hpl
theorem pmk_ex0 (c : Ex0 X.K X.mg nm C) (hg : Gl X nm) (hdb : (nm == ("__debug__" : Str)) = false := by decide) : PMk X (.Call (.Name nm p) [] [] pos) (fun _ H Q => Q (.ref C) none H) :=
  pmk_own0 F.excBase_ValueError c.q c.at_ c.kp (raises_own c.b c.t) hg hdb
end
section
variable {σ : L2.St} {H : Hp} {D : Ends}
theorem x_raise {t : L2.St → Hp → XK → Prop} {W : WX} (h : t σ H fun cls d H' => W cls d σ H') : (fun (_ : Ends) σ H => t σ H fun cls d H' => W cls d σ H') D σ H := h
end
/-- an error's __init__ by its body -/
theorem exk_of {P : Program} {w : World} {K : PySem.W.Frag} {mg : Str → Option Value} {base : Heap} {nm qual : Str} {C : Addr} {st : Stmt} {N ps : List Str} {k : Nat} {sp : Sp} (o : OexC K C) (a : mg nm = some (.ref C)) (D : Dm K C "__init__" qual st)
    (bd : ∀ (kV doc pm : Value) (an : Option Addr) (cdv ct : Value) (us : List Value), us.length = ps.length → bindArgs (PySem.W.fnOf "__init__" qual (defArgs st) (defBody st) (defScope st) .none kV doc pm an cdv ct) ⟨us, []⟩ = pure (ps.zip us))
    (S : FnScope N ps (defScope st)) (len : ∀ vs H Q E, sp vs H Q E → vs.length = ps.length)
    (body : ∀ (f : Addr) (cdv : Value) (A : Around) (outer : List Env) (s : Shared) (H : Hp) (vs : List V) (Q : VK) (E : XK), Room k (A.deeper (envOfC qual (defScope st) s.heap.objs.size f cdv)) → sp vs H Q E →
      ∃ t, PSs (cxOf CX0 P w K mg base N qual (defScope st) f cdv A outer s H E).nox (defBody st) t ∧ t { nx := fun _ H' => Q .non H', rt := Q } (start N vs) H) : Exk P w K mg base nm C (k + 1) sp := by
  obtain ⟨f, fd, F, hm⟩ := D.ex
  exact ⟨o, a, f, fd, ps, F.ok S len (body f), hm.at_, beq_iff_eq.mp hm.fn, F.binds bd⟩
theorem x_callS {sp : Sp} {E : L2.St → XK} {tr : TA} {σ : L2.St} {H : Hp} {Q : VK} (h : tr σ H fun vs H1 => sp vs H1 Q (E σ)) : tCallS sp E tr σ H Q := h
/-! zip of a list with a tuple. -/
theorem isTuple_push {h : Heap} {b : Addr} {vs : Array Value} (hb : h.IsTuple b vs) (o : Obj) : (h.push o).IsTuple b vs := by
  obtain ⟨x, e, r⟩ := hb
  exact ⟨x, Heap.get?_push_of_some _ e, r⟩
section
variable {prog : Program} {w : World} {A : Around} {E : Value → Shared → Prop} {s : Shared}
/-- zip's state: the tuple's iterator first, then the list's -/
structure ZipSu (h : Heap) (z TI TO ia ib la lb : Addr) (n : Nat) : Prop where
  zip : IsZip h z TI TO .none
  its : IsPair h TI (.ref ia) (.ref ib)
  out : ∃ p q, IsPair h TO p q
  fst : h.IsListIter ia la n
  snd : h.IsTupleIter ib lb n
/-- what a turn may change -/
abbrev ZipKeepU (h h2 : Heap) (z TO ia ib : Addr) : Prop := ∀ a o, a ≠ z → a ≠ TO → a ≠ ia → a ≠ ib → h.get? a = some o → h2.get? a = some o
theorem ZipSu.lt {h : Heap} {z TI TO ia ib la lb : Addr} {n : Nat} (S : ZipSu h z TI TO ia ib la lb n) {c : Addr} (hc : c ∈ [z, TI, TO, ia, ib]) : ∃ o, h.get? c = some o ∧ ∀ v, o.data ≠ .cell v := by
  obtain ⟨p, q, ho⟩ := S.out
  obtain ⟨o1, e1, _, d1⟩ := S.fst
  obtain ⟨o2, e2, _, d2⟩ := S.snd
  simp only [List.mem_cons, List.not_mem_nil, or_false] at hc
  rcases hc with rfl | rfl | rfl | rfl | rfl
  · exact ⟨_, S.zip, nofun⟩
  · exact ⟨_, S.its, nofun⟩
  · exact ⟨_, ho, nofun⟩
  · exact ⟨_, e1, by rw [d1]; nofun⟩
  · exact ⟨_, e2, by rw [d2]; nofun⟩
theorem zipU_step {z TI TO ia ib la lb : Addr} {n : Nat} {us vs : Array Value} {u v : Value} {Q : Value → Shared → Prop} (D : ZipApart z TI TO ia ib la lb) (S : ZipSu s.heap z TI TO ia ib la lb n)
    (ha : s.heap.IsList la us) (hb : s.heap.IsTuple lb vs) (hu : us[n]? = some u) (hv : vs[n]? = some v)
    (q : ∀ h2, IsZip h2 z TI TO (rawInt s.heap.objs.size) → IsPair h2 TO u v → h2.IsListIter ia la (n + 1) → h2.IsTupleIter ib lb (n + 1) → IsPair h2 s.heap.objs.size u v →
      ZipKeepU s.heap h2 z TO ia ib → Q (.ref s.heap.objs.size) { s with heap := h2 }) :
    wpAny (model prog w) A (Builtin.«zip.__next__» ⟨[.ref z], []⟩) (fun fin t => ∃ r, fin = .done (.ret r) ∧ Q r t) E s := by
  obtain ⟨p0, q0, hO⟩ := S.out
  show wpAny _ _ (field (.ref z) 2 >>= _) _ _ _
  apply wpAny_bind
  refine wpAny_field S.zip rfl (x := .bool false) rfl ?_
  show wpAny _ _ (field (.ref z) 3 >>= _) _ _ _
  apply wpAny_bind
  refine wpAny_field S.zip rfl (x := .ref TI) rfl ?_
  apply wpAny_bind
  refine wpAny_seqItems S.its rfl ?_
  show wpAny _ _ (Builtin.SmallTypes.ownedTupleIsFree (.ref z) >>= _) _ _ _
  apply wpAny_bind
  unfold Builtin.SmallTypes.ownedTupleIsFree
  apply wpAny_bind
  refine wpAny_field S.zip rfl (x := .none) rfl (wpAny_pure ?_)
  simp only [if_true]
  apply wpAny_bind
  apply wpAny_rule
  apply wpAny_bind
  refine wpAny_field S.zip rfl (x := .ref TO) rfl ?_
  apply wpAny_bind
  apply wpAny_setField_rec S.zip (by simp)
  intro h1 Z1 b1
  have Z1 : IsZip h1 z TI TO .ellipsis := Z1
  apply wpAny_bind
  simp only [List.zipIdx_cons, List.zipIdx_nil, List.forIn_cons, List.forIn_nil]
  apply wpAny_bind
  apply wpAny_bind
  apply wpAny_onRaise
  show wpAny _ _ (Builtin.SmallTypes.nextOf (.ref ia) >>= _) _ _ _
  apply wpAny_bind
  refine wpAny_nextOf_list_item (S.fst.extBut b1.extBut D.i1z) (ha.extBut b1.extBut D.l1z) hu ?_
  intro h2 i2 b2
  apply wpAny_pure
  have O2 : IsPair h2 TO p0 q0 := b2.extBut _ _ D.TOi1 (b1.extBut _ _ D.TOz hO)
  apply wpAny_bind
  refine wpAny_seqItems O2 rfl ?_
  apply wpAny_bind
  apply wpAny_updateSeq_pair O2
  intro h3 O3 b3
  have O3 : IsPair h3 TO u q0 := O3
  apply wpAny_bind
  apply wpAny_letGo
  apply wpAny_pure
  apply wpAny_bind
  apply wpAny_bind
  apply wpAny_onRaise
  show wpAny _ _ (Builtin.SmallTypes.nextOf (.ref ib) >>= _) _ _ _
  apply wpAny_bind
  have jb : h3.IsTupleIter ib lb n := ((S.snd.extBut b1.extBut D.i2z).extBut b2.extBut D.i12.symm).extBut b3.extBut D.TOi2.symm
  have lb3 : h3.IsTuple lb vs := ((hb.extBut b1.extBut D.l2z).extBut b2.extBut D.l2i1).extBut b3.extBut D.l2TO
  refine RZ.nextOf_tuple_item jb lb3 hv ?_
  intro h4 j4 b4
  apply wpAny_pure
  have O4 : IsPair h4 TO u q0 := b4.extBut _ _ D.TOi2 O3
  apply wpAny_bind
  refine wpAny_seqItems O4 rfl ?_
  apply wpAny_bind
  apply wpAny_updateSeq_pair O4
  intro h5 O5 b5
  have O5 : IsPair h5 TO u v := O5
  apply wpAny_bind
  apply wpAny_letGo
  apply wpAny_pure
  apply wpAny_pure
  apply wpAny_bind
  refine wpAny_seqItems O5 rfl ?_
  apply wpAny_bind
  refine wpAny_newTuple ?_
  have sz : h5.objs.size = s.heap.objs.size := b5.1.trans (b4.1.trans (b3.1.trans (b2.1.trans b1.1)))
  have Z5 : IsZip h5 z TI TO .ellipsis := b5.extBut _ _ D.TOz.symm (b4.extBut _ _ D.i2z.symm (b3.extBut _ _ D.TOz.symm (b2.extBut _ _ D.i1z.symm Z1)))
  have K5 : ZipKeepU s.heap h5 z TO ia ib := fun a o n1 n2 n3 n4 e => b5.extBut _ _ n2 (b4.extBut _ _ n4 (b3.extBut _ _ n2 (b2.extBut _ _ n3 (b1.extBut _ _ n1 e))))
  have ia5 : h5.IsListIter ia la (n + 1) := ((i2.extBut b3.extBut D.TOi1.symm).extBut b4.extBut D.i12).extBut b5.extBut D.TOi1.symm
  have ib5 : h5.IsTupleIter ib lb (n + 1) := j4.extBut b5.extBut D.TOi2.symm
  have zlt : z < h5.objs.size := Heap.lt_size Z5
  show wpAny _ _ (Builtin.SmallTypes.ownedTupleHandOut (.ref z) (.ref h5.objs.size) >>= _) _ _ _
  apply wpAny_bind
  unfold Builtin.SmallTypes.ownedTupleHandOut
  have Z6 : IsZip (h5.push { cls := .type "tuple", data := .seq #[u, v] }) z TI TO .ellipsis := Heap.get?_push_of_some _ Z5
  apply wpAny_bind
  apply wpAny_setField_rec Z6 (by simp)
  intro h7 Z7 b7
  have Z7 : IsZip h7 z TI TO (rawInt h5.objs.size) := Z7
  apply wpAny_setField_rec Z7 (by simp)
  intro h8 Z8 b8
  have Z8 : IsZip h8 z TI TO (rawInt h5.objs.size) := Z8
  have up : ∀ a o, a ≠ z → h5.get? a = some o → h8.get? a = some o := fun a o ne e => b8.extBut _ _ ne (b7.extBut _ _ ne (Heap.get?_push_of_some _ e))
  have zn : h5.objs.size ≠ z := Nat.ne_of_gt zlt
  have T8 : IsPair h8 h5.objs.size u v := b8.extBut _ _ zn (b7.extBut _ _ zn (Heap.get?_push_size _ rfl))
  rw [sz] at Z8 T8
  refine wpAny_pure ⟨_, rfl, ?_⟩
  show Q (.ref h5.objs.size) _
  rw [sz]
  exact q h8 Z8 (up _ _ D.TOz O5) (ia5.at fun o e => up _ o D.i1z e) (ib5.at fun o e => up _ o D.i2z e) T8 fun a o n1 n2 n3 n4 e => up a o n1 (K5 a o n1 n2 n3 n4 e)
theorem zipU_stop {z TI TO ia ib la lb : Addr} {n : Nat} {us vs : Array Value} {Q : Fin → Shared → Prop} (free : A.handled = none) (D : ZipApart z TI TO ia ib la lb) (S : ZipSu s.heap z TI TO ia ib la lb n)
    (ha : s.heap.IsList la us) (hb : s.heap.IsTuple lb vs) (over : us[n]? = none ∨ vs[n]? = none)
    (q : ∀ h2 e, ZipKeepU s.heap h2 z TO ia ib → (∃ o, h2.get? e = some o ∧ o.cls = .type "StopIteration") → E (.ref e) { s with heap := h2 }) :
    wpAny (model prog w) A (Builtin.«zip.__next__» ⟨[.ref z], []⟩) Q E s := by
  obtain ⟨p0, q0, hO⟩ := S.out
  show wpAny _ _ (field (.ref z) 2 >>= _) _ _ _
  apply wpAny_bind
  refine wpAny_field S.zip rfl (x := .bool false) rfl ?_
  show wpAny _ _ (field (.ref z) 3 >>= _) _ _ _
  apply wpAny_bind
  refine wpAny_field S.zip rfl (x := .ref TI) rfl ?_
  apply wpAny_bind
  refine wpAny_seqItems S.its rfl ?_
  show wpAny _ _ (Builtin.SmallTypes.ownedTupleIsFree (.ref z) >>= _) _ _ _
  apply wpAny_bind
  unfold Builtin.SmallTypes.ownedTupleIsFree
  apply wpAny_bind
  refine wpAny_field S.zip rfl (x := .none) rfl (wpAny_pure ?_)
  simp only [if_true]
  apply wpAny_bind
  apply wpAny_rule
  apply wpAny_bind
  refine wpAny_field S.zip rfl (x := .ref TO) rfl ?_
  apply wpAny_bind
  apply wpAny_setField_rec S.zip (by simp)
  intro h1 Z1 b1
  have Z1 : IsZip h1 z TI TO .ellipsis := Z1
  apply wpAny_bind
  simp only [List.zipIdx_cons, List.zipIdx_nil, List.forIn_cons, List.forIn_nil]
  apply wpAny_bind
  apply wpAny_bind
  apply wpAny_onRaise
  show wpAny _ _ (Builtin.SmallTypes.nextOf (.ref ia) >>= _) _ _ _
  apply wpAny_bind
  rcases hx : us[n]? with _ | u
  · refine wpAny_nextOf_list_end free (S.fst.extBut b1.extBut D.i1z) (ha.extBut b1.extBut D.l1z) hx ?_
    rintro h2 e b2 ⟨oe, he, hc⟩
    have Z2 : IsZip h2 z TI TO .ellipsis := b2 _ _ D.i1z.symm Z1
    have ez : e ≠ z := by rintro rfl; rw [Z2] at he; cases he; simp at hc
    apply wpAny_setField_rec Z2 (by simp)
    intro h3 _ b3
    exact q h3 e (fun a o n1 _ n3 _ x => b3.extBut _ _ n1 (b2 _ _ n3 (b1.extBut _ _ n1 x))) ⟨oe, b3.extBut _ _ ez he, hc⟩
  · have hy : vs[n]? = none := over.resolve_left (by rw [hx]; simp)
    refine wpAny_nextOf_list_item (S.fst.extBut b1.extBut D.i1z) (ha.extBut b1.extBut D.l1z) hx ?_
    intro h2 i2 b2
    apply wpAny_pure
    have O2 : IsPair h2 TO p0 q0 := b2.extBut _ _ D.TOi1 (b1.extBut _ _ D.TOz hO)
    apply wpAny_bind
    refine wpAny_seqItems O2 rfl ?_
    apply wpAny_bind
    apply wpAny_updateSeq_pair O2
    intro h3 _ b3
    apply wpAny_bind
    apply wpAny_letGo
    apply wpAny_pure
    apply wpAny_bind
    apply wpAny_bind
    apply wpAny_onRaise
    show wpAny _ _ (Builtin.SmallTypes.nextOf (.ref ib) >>= _) _ _ _
    apply wpAny_bind
    have jb : h3.IsTupleIter ib lb n := ((S.snd.extBut b1.extBut D.i2z).extBut b2.extBut D.i12.symm).extBut b3.extBut D.TOi2.symm
    have lb3 : h3.IsTuple lb vs := ((hb.extBut b1.extBut D.l2z).extBut b2.extBut D.l2i1).extBut b3.extBut D.l2TO
    refine RZ.nextOf_tuple_end free jb lb3 hy ?_
    rintro h4 e b4 ⟨oe, he, hc⟩
    have Z4 : IsZip h4 z TI TO .ellipsis := b4 _ _ D.i2z.symm (b3.extBut _ _ D.TOz.symm (b2.extBut _ _ D.i1z.symm Z1))
    have ez : e ≠ z := by rintro rfl; rw [Z4] at he; cases he; simp at hc
    apply wpAny_setField_rec Z4 (by simp)
    intro h5 _ b5
    exact q h5 e (fun a o n1 n2 n3 n4 x => b5.extBut _ _ n1 (b4 _ _ n4 (b3.extBut _ _ n2 (b2.extBut _ _ n3 (b1.extBut _ _ n1 x))))) ⟨oe, b5.extBut _ _ ez he, hc⟩
theorem nextU_step {z TI TO ia ib la lb : Addr} {n : Nat} {us vs : Array Value} {u v : Value} {Q : Option Value → Shared → Prop} (D : ZipApart z TI TO ia ib la lb) (S : ZipSu s.heap z TI TO ia ib la lb n)
    (ha : s.heap.IsList la us) (hb : s.heap.IsTuple lb vs) (hu : us[n]? = some u) (hv : vs[n]? = some v)
    (q : ∀ h2, IsZip h2 z TI TO (rawInt s.heap.objs.size) → IsPair h2 TO u v → h2.IsListIter ia la (n + 1) → h2.IsTupleIter ib lb (n + 1) → IsPair h2 s.heap.objs.size u v →
      ZipKeepU s.heap h2 z TO ia ib → Q (some (.ref s.heap.objs.size)) { s with heap := h2 }) : wpAny (model prog w) A (pyNext (.ref z)) Q E s := by
  unfold pyNext
  have ty : s.TypeIs (.ref z) "zip" := ⟨_, S.zip, rfl⟩
  refine wpAny_bind (wpAny_attempt (wpAny_callSpecial?_slot (name := Str.ofString "__next__") ty F.slot_zip_next (wpAny_call_entry F.slot_zip_next ty F.entry_zip_next ?_ (F.args_zip_next_1 _))))
  exact zipU_step D S ha hb hu hv fun h2 c1 c2 c3 c4 c5 c6 => wpAny_pure (q h2 c1 c2 c3 c4 c5 c6)
theorem nextU_stop {z TI TO ia ib la lb : Addr} {n : Nat} {us vs : Array Value} {Q : Option Value → Shared → Prop} (free : A.handled = none) (D : ZipApart z TI TO ia ib la lb) (S : ZipSu s.heap z TI TO ia ib la lb n)
    (ha : s.heap.IsList la us) (hb : s.heap.IsTuple lb vs) (over : us[n]? = none ∨ vs[n]? = none)
    (q : ∀ h2, ZipKeepU s.heap h2 z TO ia ib → Q none { s with heap := h2 }) : wpAny (model prog w) A (pyNext (.ref z)) Q E s := by
  unfold pyNext
  have ty : s.TypeIs (.ref z) "zip" := ⟨_, S.zip, rfl⟩
  refine wpAny_bind (wpAny_attempt (wpAny_callSpecial?_slot (name := Str.ofString "__next__") ty F.slot_zip_next (wpAny_call_entry F.slot_zip_next ty F.entry_zip_next ?_ (F.args_zip_next_1 _))))
  refine zipU_stop free D S ha hb over ?_
  rintro h2 e k ⟨o, ho, hc⟩
  apply wpAny_bind
  refine wpAny_isInstance (T := "StopIteration") (b := true) ⟨o, ho, hc⟩ isSubtype_stop ?_
  exact wpAny_pure (q _ k)
end
/-! making one -/
abbrev mu1 (h : Heap) (a : Addr) : Heap := h.push { cls := .type "list_iterator", data := .fields #[.ref a, .int 0 0] }
abbrev mu2 (h : Heap) (a b : Addr) : Heap := (mu1 h a).push { cls := .type "tuple_iterator", data := .fields #[.ref b, .int 0 0] }
abbrev mu3 (h : Heap) (a b : Addr) : Heap := (mu2 h a b).push { cls := .type "tuple", data := .seq #[.ref h.objs.size, .ref (mu1 h a).objs.size] }
abbrev mu4 (h : Heap) (a b : Addr) : Heap := (mu3 h a b).push { cls := .type "tuple", data := .seq #[.none, .none] }
abbrev mu5 (h : Heap) (a b : Addr) : Heap := (mu4 h a b).push { cls := .type "zip", data := .fields #[.none, .bool false, .bool false, .ref (mu2 h a b).objs.size, .ref (mu3 h a b).objs.size] }
theorem meets_mkU (a b : Addr) (us vs : Array Value) : Meets (Builtin.«zip.__new__» ⟨[.type "zip", .ref a, .ref b], []⟩)
    (fun _ R s => s.heap.IsList a us ∧ s.heap.IsTuple b vs ∧ R (.ok (.ret (.ref (mu4 s.heap a b).objs.size))) { s with heap := mu5 s.heap a b }) :=
  .of_wp fun prog w A R s h => by
    obtain ⟨hp, g, d, tk, os⟩ := s
    obtain ⟨ha, hb, h⟩ := h
    have sz := sub_zip
    have La : Heap.IsList (Shared.heap ⟨hp, g, d, tk, os⟩) a us := ha
    have Lb : Heap.IsTuple (Shared.heap ⟨hp.push { cls := .type "list_iterator", data := .fields #[.ref a, .int 0 0] }, g, d, tk, os⟩) b vs := isTuple_push hb _
    wp_walk using wpAny_pyIter_list La, wpAny_pyIter_tuple Lb
    exact ⟨_, rfl, h⟩
theorem mk_allU (h : Heap) (a b : Addr) : ZipSu (mu5 h a b) (h.objs.size + 4) (h.objs.size + 2) (h.objs.size + 3) h.objs.size (h.objs.size + 1) a b 0 ∧ (∀ c o, h.get? c = some o → (mu5 h a b).get? c = some o) ∧ (mu4 h a b).objs.size = h.objs.size + 4 := by
  have n1 : (mu1 h a).objs.size = h.objs.size + 1 := Heap.size_push ..
  have n2 : (mu2 h a b).objs.size = h.objs.size + 2 := by rw [Heap.size_push, n1]
  have n3 : (mu3 h a b).objs.size = h.objs.size + 3 := by rw [Heap.size_push, n2]
  have n4 : (mu4 h a b).objs.size = h.objs.size + 4 := by rw [Heap.size_push, n3]
  have up : ∀ {g : Heap} {x : Obj} {c : Addr} {o : Obj}, g.get? c = some o → (g.push x).get? c = some o := fun e => Heap.get?_push_of_some _ e
  have e1 : (mu5 h a b).get? h.objs.size = some _ := up (up (up (up (Heap.get?_push_size _ rfl))))
  have e2 : (mu5 h a b).get? (mu1 h a).objs.size = some _ := up (up (up (Heap.get?_push_size _ rfl)))
  have e3 : (mu5 h a b).get? (mu2 h a b).objs.size = some _ := up (up (Heap.get?_push_size _ rfl))
  have e4 : (mu5 h a b).get? (mu3 h a b).objs.size = some _ := up (Heap.get?_push_size _ rfl)
  have e5 : (mu5 h a b).get? (mu4 h a b).objs.size = some _ := Heap.get?_push_size _ rfl
  rw [n2, n3, n4] at e5
  rw [n3] at e4
  rw [n2, n1] at e3
  rw [n1] at e2
  exact ⟨⟨e5, e3, ⟨_, _, e4⟩, ⟨_, e1, rfl, rfl⟩, ⟨_, e2, rfl, rfl⟩⟩, fun c o x => up (up (up (up (up x)))), n4⟩
theorem run_zipU {prog : Program} {w : World} {A : Around} {E : Value → Shared → Prop} {s : Shared} {a b : Addr} {us vs : Array Value} {Q : Value → Shared → Prop} (ha : s.heap.IsList a us) (hb : s.heap.IsTuple b vs)
    (h : ∀ h2, ZipSu h2 (s.heap.objs.size + 4) (s.heap.objs.size + 2) (s.heap.objs.size + 3) s.heap.objs.size (s.heap.objs.size + 1) a b 0 → (∀ c o, s.heap.get? c = some o → h2.get? c = some o) → Q (.ref (s.heap.objs.size + 4)) { s with heap := h2 }) :
    wpAny (model prog w) A (call (.type "zip") [.ref a, .ref b]) Q E s := by
  refine callType_new F.called_zip (by decide) (F.typeCall_zip_2 _ _) (F.newCall_zip_2 _ _) (fun o => F.args_object_init_3 o _ _) F.entry_zip_new (meets_mkU a b us vs) ⟨ha, hb, ?_⟩
  obtain ⟨S, k, n4⟩ := mk_allU s.heap a b
  show _ ∧ _
  rw [n4]
  exact ⟨⟨_, S.zip, rfl⟩, h _ S k⟩
/-! as an iteration -/
def ItU (K : PySem.W.Frag) (a b : Addr) : It :=
  ⟨fun i H => ∃ (us vs : List V) (u v : V), SqL K H a us ∧ SqT K H b vs ∧ us[i]? = some u ∧ vs[i]? = some v,
   fun i H r H2 => ∃ t u v, r = .ref t ∧ H t = none ∧ H2 = upd H t (.tup [u, v]) ∧ (∀ us, SqL K H a us → us[i]? = some u) ∧ ∀ vs, SqT K H b vs → vs[i]? = some v,
   fun i H => ∃ us vs : List V, SqL K H a us ∧ SqT K H b vs ∧ (us.length ≤ i ∨ vs.length ≤ i)⟩
theorem turnU {P : Program} {w : World} {K : PySem.W.Frag} {es : List Expr} {k : Nat} {p : Pos} {a b z TI TO ia ib : Addr} (D : ZipApart z TI TO ia ib a b) :
    Turn P w K (.Tuple es k p) (ItU K a b) [z, TI, TO, ia, ib] z (fun i h => ZipSu h z TI TO ia ib a b i) where
  mem := by simp
  obj := fun i h st c hc => st.lt hc
  keep := fun i h h2 st k => by
    obtain ⟨x, y, ho⟩ := st.out
    exact ⟨k z (by simp) _ st.zip, k TI (by simp) _ st.its, ⟨x, y, k TO (by simp) _ ho⟩, st.fst.at fun o e => k ia (by simp) o e, st.snd.at fun o e => k ib (by simp) o e⟩
  item := by
    rintro X rfl rfl rfl calm i pins s σ H E I free st ⟨us, vs, u, v, ea, eb, eu, ev⟩
    obtain ⟨as, ra, pa, _⟩ := I.list ea
    obtain ⟨bs, rb, pb, _⟩ := I.tuple eb
    obtain ⟨u2, hu, ru⟩ := ra.get eu
    obtain ⟨v2, hv, rv⟩ := rb.get ev
    obtain ⟨x0, y0, hO⟩ := st.out
    have zlt : z < s.heap.objs.size := Heap.lt_size st.zip
    refine nextU_step D st pa.isList (show s.heap.IsTuple b bs.toArray from pb) (u := u2) (v := v2) (by simpa using hu) (by simpa using hv) ?_
    intro h2 Z2 O2 c1 c2 T2 keep
    refine ⟨_, rfl, ?_⟩
    apply wpAny_letOwnedTupleGo_zip (s := { s with heap := h2 }) Z2
    intro h3 Z3 sb
    have T3 : h3.get? s.heap.objs.size = some { cls := .type "tuple", data := .seq #[u2, v2] } := (sb.2 _ (Nat.ne_of_gt zlt)).trans T2
    have I1 : Inv X pins σ (upd H s.heap.objs.size (.tup [u, v])) { s with heap := h3 } := by
      refine I.turnedNew (t' := s.toks) (ch := [z, TI, TO, ia, ib]) ?_ free (Nat.le_refl _) ⟨by show 2 ≤ sizeLine; decide, [u2, v2], .cons ru (.cons rv .nil), ⟨_, T3, rfl, _, rfl⟩⟩
      intro c o hc e
      simp only [List.mem_cons, List.not_mem_nil, or_false, not_or] at hc
      exact (sb.2 c hc.1).trans (keep c o hc.1 hc.2.2.1 hc.2.2.2.1 hc.2.2.2.2 e)
    refine ⟨.ref s.heap.objs.size, _, I1, rfl, ⟨_, u, v, rfl, I.hok.fresh (Nat.le_refl _), rfl, ?_, ?_⟩, ⟨Z3, ?_, ⟨u2, v2, ?_⟩, ?_, ?_⟩, ?_⟩
    · intro l hl; rw [I.list_inj hl ea]; exact eu
    · intro l hl; rw [I.tuple_inj hl eb]; exact ev
    · exact (sb.2 _ D.TIz).trans (keep _ _ D.TIz D.TITO D.TIi1 D.TIi2 st.its)
    · exact (sb.2 _ D.TOz).trans O2
    · exact c1.at fun o e => (sb.2 _ D.i1z).trans e
    · exact c2.at fun o e => (sb.2 _ D.i2z).trans e
    · intro c hc
      obtain ⟨o, e, _⟩ := st.lt hc
      rw [upd_ne (Nat.ne_of_lt (Heap.lt_size e))]
      exact (free c hc).1
  done := by
    rintro X rfl rfl rfl calm i pins s σ H E I free st ⟨us, vs, ea, eb, over⟩
    obtain ⟨as, ra, pa, _⟩ := I.list ea
    obtain ⟨bs, rb, pb, _⟩ := I.tuple eb
    have n1 := ra.length
    have n2 := rb.length
    refine nextU_stop (I.ok.hd calm) D st pa.isList (show s.heap.IsTuple b bs.toArray from pb) ?_ ?_
    · rcases over with h | h
      · left; simp; omega
      · right; simp; omega
    · intro h2 keep
      refine ⟨rfl, I.turnedL (t' := s.toks) (ch := [z, TI, TO, ia, ib]) ?_ free⟩
      intro c o hc e
      simp only [List.mem_cons, List.not_mem_nil, or_false, not_or] at hc
      exact keep c o hc.1 hc.2.2.1 hc.2.2.2.1 hc.2.2.2.2 e
  self := fun A i s Q E st h => wpAny_pyIter_zip st.zip h
def iZipU (K : PySem.W.Frag) (ta : TA) : TI := fun σ H R => ta σ H fun vs H1 => ∃ a b us ws, vs = [.ref a, .ref b] ∧ SqL K H1 a us ∧ SqT K H1 b ws ∧ R (ItU K a b) H1
theorem pi_zipU {X : Cx} {e f : Expr} {ta : TA} {p pos tp : Pos} {es : List Expr} {k : Nat} (hg : Gl X "zip") (hm : X.mg "zip" = none) (ha : PA X [e, f] ta)
    (hs : starEach [e, f] X.env = (false, eval e X.env) :: starEach [f] X.env := by rfl) (hp : (backTo pos (starEach [f] X.env)).any (·.1) = false := by rfl) :
    PI X (.Tuple es k tp) (.Call (.Name "zip" p) [e, f] [] pos) (iZipU X.K ta) := by
  constructor
  intro pins s σ H R I h
  refine Call_ (ld_blt I hg hm PyProof.Rows.boot_zip (PyProof.Rows.callWith_type1 (thn (ha.run pos pins s σ H _ I h) ?_) hs hp))
  rintro us s1 ⟨vs, H1, I1, r1, a, b, xs, ys, rfl, ea, eb, q⟩
  obtain ⟨x1, x2, rfl, rx, ry⟩ := Vals.two r1
  cases (show x1 = Value.ref a from rx)
  cases (show x2 = Value.ref b from ry)
  obtain ⟨as, ra, pa, _⟩ := I1.list ea
  obtain ⟨bs, rb, pb, _⟩ := I1.tuple eb
  obtain ⟨o2, ho2, _⟩ := id pb
  refine run_zipU pa.isList (show s1.heap.IsTuple b bs.toArray from pb) ?_
  intro h2 S k
  apply wpAny_pyIter_zip S.zip
  refine ⟨s1.heap.objs.size + 4, [s1.heap.objs.size + 4, s1.heap.objs.size + 2, s1.heap.objs.size + 3, s1.heap.objs.size, s1.heap.objs.size + 1], _, _, H1, rfl, I1.kept (t' := s1.toks) k, turnU (PySem.W.ktu_apart s1.heap.objs.size a b pa.lt (Heap.lt_size ho2)), S, ?_, q⟩
  intro c hc
  have le : s1.heap.objs.size ≤ c := by
    simp only [List.mem_cons, List.not_mem_nil, or_false] at hc
    rcases hc with h | h | h | h | h <;> (rw [h]; first | exact Nat.le_refl _ | exact Nat.le_add_right _ _)
  exact I1.fpOk le (I1.hok.fresh le)
theorem for_zipU {K : PySem.W.Frag} {a b : Addr} {us vs : List V} {g : TG} {tb : TS} {D : Ends} {σ : L2.St} {H : Hp} (same : us.length = vs.length) (Pv : Nat → L2.St → Hp → Prop) (h0 : Pv 0 σ H) (hq : ∀ i σ H, Pv i σ H → SqL K H a us ∧ SqT K H b vs)
    (hs : ∀ (i : Nat) (u v : V) (t : Addr) (σ : L2.St) (H : Hp), us[i]? = some u → vs[i]? = some v → Pv i σ H → H t = none → g (.ref t) σ (upd H t (.tup [u, v])) fun τ H2 => tb { D with nx := Pv (i + 1), ct := Pv (i + 1), bk := D.nx } τ H2) (hd : ∀ σ H, Pv us.length σ H → D.nx σ H) :
    ∃ W : Nat → Nat → L2.St → Hp → Prop, (∃ m, W 0 m σ H) ∧ ∀ i m σ H, W i m σ H →
      ((ItU K a b).stop i H ∧ D.nx σ H) ∨ ((ItU K a b).go i H ∧ ∃ N : L2.St → Hp → Prop, (∀ τ H2, N τ H2 → ∃ m2, m2 < m ∧ W (i + 1) m2 τ H2) ∧ ∀ r H2, (ItU K a b).yld i H r H2 → g r σ H2 fun τ H3 => tb { D with nx := N, ct := N, bk := D.nx } τ H3) := by
  refine ⟨fun i m σ H => m = us.length - i ∧ i ≤ us.length ∧ Pv i σ H, ⟨_, rfl, Nat.zero_le _, h0⟩, ?_⟩
  rintro i m σ H ⟨rfl, le, p⟩
  obtain ⟨qa, qb⟩ := hq i σ H p
  by_cases lt : i < us.length
  · have lt2 : i < vs.length := same ▸ lt
    refine .inr ⟨⟨us, vs, us[i], vs[i], qa, qb, List.getElem?_eq_getElem lt, List.getElem?_eq_getElem lt2⟩, Pv (i + 1), fun τ H2 p2 => ⟨us.length - (i + 1), by omega, rfl, lt, p2⟩, ?_⟩
    rintro _ _ ⟨t, u, v, rfl, ht, rfl, eu, ev⟩
    exact hs i u v t σ H (eu us qa) (ev vs qb) p ht
  · have e : i = us.length := by omega
    subst e
    exact .inl ⟨⟨us, vs, qa, qb, .inl (Nat.le_refl _)⟩, hd σ H p⟩
section
variable {K : PySem.W.Frag} {H : Hp} {Q : VK} {σ : L2.St}
theorem x_zU {ta : TA} {R : It → Hp → Prop} (h : ta σ H fun vs H1 => ∃ a b us ws, vs = [.ref a, .ref b] ∧ SqL K H1 a us ∧ SqT K H1 b ws ∧ R (ItU K a b) H1) : iZipU K ta σ H R := h
theorem x_zUAt {p q : Addr} {us ws : List V} {Z : Addr → Addr → Prop} (hp : SqL K H p us) (hq : SqT K H q ws) (h : Z p q) : ∃ a b us ws, [V.ref p, .ref q] = [.ref a, .ref b] ∧ SqL K H a us ∧ SqT K H b ws ∧ Z a b := ⟨p, q, us, ws, rfl, hp, hq, h⟩
end
/-! len(set(a list of ints)). -/
/-- how many different ones -/
def lenSet (ns : List Int) : Nat := (PyProof.Rows.firstMet (fun i => ns.getD i 0) ns.length).length
def tLenSet (K : PySem.W.Frag) (t : TA) : TE := fun σ H Q => t σ H fun vs H1 => ∃ (a : Addr) (ns : List Int), vs = [.ref a] ∧ SqL K H1 a (ns.map V.int) ∧ ns.length ≤ 1000 ∧ Q (.int (lenSet ns : Nat)) H1
section
variable {X : Cx} {e : Expr} {ta : TA} {p p2 pos pos2 : Pos}
theorem pe_lenSet (hc : X.calm = true) (hgl : Gl X "len") (hml : X.mg "len" = none) (hgs : Gl X "set") (hms : X.mg "set" = none) (ha : PA X [e] ta)
    (hs : starEach [.Call (.Name "set" p2) [e] [] pos2] X.env = [(false, eval (.Call (.Name "set" p2) [e] [] pos2) X.env)] := by rfl) (hs2 : starEach [e] X.env = [(false, eval e X.env)] := by rfl) :
    PE X (.Call (.Name "len" p) [.Call (.Name "set" p2) [e] [] pos2] [] pos) (tLenSet X.K ta) := by
  refine ⟨fun pins s σ H Q I h => ?_⟩
  refine wpAny_Call_Name_kw (ld_blt I hgl hml (show bootBuiltins "len" = some (.builtin "len") by decide +kernel) ?_ (by decide) (by decide))
  refine PyProof.Rows.callWith_builtin1 ?_ hs rfl
  rw [hs]
  show wpAny _ _ (spliced ((false, eval _ X.env) :: [])) _ _ s
  have inner : wpAny (model X.prog X.w) X.A (eval (.Call (.Name "set" p2) [e] [] pos2) X.env) (fun v s1 => ∃ (a : Addr) (ns : List Int) (H1 : Hp), v = .ref a ∧ Inv X pins σ H1 s1 ∧ ns.length ≤ 1000 ∧ Q (.int (lenSet ns : Nat)) H1 ∧ s1.heap.SetOf (intKind X.prog X.w) a (fun k' => (PyProof.Rows.firstMet (fun i => ns.getD i 0) ns.length).any (· == k')) (lenSet ns)) X.xe s := by
    refine Call_ (ld_blt I hgs hms PyProof.Rows.boot_set (PyProof.Rows.callWith_type1 (thn (ha.run pos2 pins s σ H _ I h) fun us s1 ⟨vs, H1, I1, r1, q1⟩ => ?_) hs2 rfl))
    obtain ⟨a, ns, e1, hq, hl, q⟩ := q1
    subst e1
    cases r1 with
    | cons r rr =>
      cases rr
      cases r
      obtain ⟨its, rv, pl, hz⟩ := I1.list hq
      have hn : its.length = ns.length := by have := rv.length; simpa using this.symm
      have hi : IntsAre its.toArray.toList ns := ints_of_vals rv
      refine call_set_list (I1.ok.hd hc) pl.isList hi (by rw [List.size_toArray, hn]; unfold scanBound; omega) fun h' tk S k => ?_
      have hn2 : its.toArray.size = ns.length := by rw [List.size_toArray]; exact hn
      rw [hn2] at S
      exact ⟨_, ns, H1, rfl, I1.kept fun b o e => k b o (Heap.lt_size e) e, hl, q, S⟩
  refine Calls.spliced_cons (thn inner ?_)
  rintro u s1 ⟨a, ns, H1, rfl, I1, hl, q, o, es, ep, t, ho, hex, hd, _, _, hb, hf, hz⟩
  refine Calls.spliced_nil ?_
  have hb2 : es.size < 2 ^ 63 := by rw [hz]; have : (lenSet ns) ≤ ns.length := PyProof.Rows.firstMet_length_le _ _; omega
  refine call_len_set ho hex hd hf (by omega) ?_
  rw [hz]
  exact ⟨.int (lenSet ns : Nat), H1, I1.tok _, ⟨_, rfl⟩, q⟩
theorem x_lenSet {K : PySem.W.Frag} {H : Hp} {Q : VK} {σ : L2.St} {t : TA} (h : t σ H fun vs H1 => ∃ (a : Addr) (ns : List Int), vs = [.ref a] ∧ SqL K H1 a (ns.map V.int) ∧ ns.length ≤ 1000 ∧ Q (.int (lenSet ns : Nat)) H1) : tLenSet K t σ H Q := h
end
/-! A dict comprehension that is stored; membership; loops with a measure. -/
section
variable {X : Cx}
theorem ps_setDc {i : Nat} {y : Str} {py : Pos} {kx vx tg iter : Expr} {ifs : List Expr} {scope : Scope} {own : List (Str × Nat)} {pos spos : Pos} {wi : TI} {g : TG} {tt : TT} {tk tv : TE} (hc : X.calm = true) (hN : X.N.Nodup) (hy : X.N[i]? = some y) (hyl : X.env.scope.names.lookup y = some .local)
    (hsw : swapsWith (.DictComp kx vx [⟨tg, iter, ifs, 0⟩] scope pos) (some (.Name y py)) spos.line X.env = pure true) (hi : PI X tg iter wi) (ok : BlkOk X.N X.env.scope scope own)
    (hg : ∀ (s : Shared) (H : Hp) (C : Addr) (cl : List (Str × Addr)) (fp : List Addr), PG (X.blk s H scope (compEnvC scope cl C X.env) fp) tg g) (ht : ∀ (s : Shared) (H : Hp) (C : Addr) (cl : List (Str × Addr)) (fp : List Addr), PTs (X.blk s H scope (compEnvC scope cl C X.env) fp) ifs tt)
    (hk : ∀ (s : Shared) (H : Hp) (C : Addr) (cl : List (Str × Addr)) (fp : List Addr), PE (X.blk s H scope (compEnvC scope cl C X.env) fp) kx tk)
    (he : ∀ (s : Shared) (H : Hp) (C : Addr) (cl : List (Str × Addr)) (fp : List Addr), PE (X.blk s H scope (compEnvC scope cl C X.env) fp) vx tv) (hs : ∀ x, foldedSetIterable iter X.env x = pure x := by intro _; rfl) :
    PS X (.Assign [.Name y py] (.DictComp kx vx [⟨tg, iter, ifs, 0⟩] scope pos) spos) (tAsg (tDc wi g tt tk tv (own.map (·.2))) (gName i)) := by
  refine ⟨fun pins s σ H D I h => ?_⟩
  rw [exec_Assign_Name_used _ _ _ _ hsw]
  refine wpAny_bind (wpAny_standAt (wpAny_bind ?_))
  show wpAny _ X.A (do let _ ← comprehension (.DictComp kx vx [⟨tg, iter, ifs, 0⟩] scope pos) scope X.env (firstIterPos [⟨tg, iter, ifs, 0⟩] pos) newDict false (eval iter X.env) (some (assign (.Name y py) X.env))) _ _ s
  have h : tDc wi g tt tk tv (own.map (·.2)) σ H (fun x H1 => gName i x σ H1 D.nx) := h
  refine wpAny_bind (thn (dc_core (Qf := fun _ s' => SP X pins D .next s') hc hN I hi ok hg ht hk he hs h fun L C s' m H' I' q hn f => ?_) fun _ s' hq => wpAny_pure (wpAny_pure hq))
  show wpAny _ _ (assign (.Name y py) X.env (.ref L)) _ _ _
  refine wpAny_assign_Name (store_ok2 (v := V.ref L) I' hN hy (.inl hyl) rfl (fun s2 I2 ⟨a, sb, ha⟩ => ?_) (.inr hyl))
  obtain ⟨f0, f1, f2, f3, f4, f5⟩ := f
  have haC : C ≠ a := by
    rcases ha with z | z
    · rw [z]; exact f1
    · exact fun e => f4 y a z e.symm
  refine ⟨m, hn.sameBut sb haC, fun h3 sb3 => ?_⟩
  exact ⟨_, H', I2.turned (t' := s2.toks) (fun b o hb e => (sb3.2 b hb).trans e) f0 f1 f3 f4 f5, q⟩
theorem sw_trueD {kx vx : Expr} {gs : List Comprehension} {scope : Scope} {pos py : Pos} {y : Str} {l : Nat} {env : Env} (hk : env.scope.kind = .function) (hy : env.scope.names.lookup y = some .local) (hl : (py.line == pos.line) = true)
    (ha : (scope.names.any fun (n, k) => n == y && (k == .local || k == .cell)) = false) : swapsWith (.DictComp kx vx gs scope pos) (some (.Name y py)) l env = pure true := by
  have ky : env.kindOf y = some .local := hy
  have hb : env.blockKind = .function := by unfold Env.blockKind; rw [hk]; rfl
  unfold swapsWith
  simp only [hb, ky, ha, Expr.pos, hl]
  rfl
theorem op_inSK (K : PySem.W.Frag) (hK : X.K = K := by rfl) : OpR X (compareOp .In) (rIn K false) := by subst hK; exact op_in_seq
theorem op_notInSK (K : PySem.W.Frag) (hK : X.K = K := by rfl) : OpR X (compareOp .NotIn) (rIn K true) := by subst hK; exact op_notIn_seq
end
section
variable {K : PySem.W.Frag} {H : Hp} {Q : VK} {σ : L2.St} {D : Ends}
theorem x_dc {wi : TI} {g : TG} {tt : TT} {tk tv : TE} {vs : List Nat} (h : wi σ H fun J H1 => ∀ L, H1 L = none → ∃ W : Nat → Nat → Hp → Prop, (∃ m, W 0 m (upd H1 L (.dK []))) ∧ ∀ i m H2, W i m H2 →
    (J.stop i H2 ∧ Q (.ref L) H2) ∨ (J.go i H2 ∧ ∃ Nx : Hp → Prop, (∀ H', Nx H' → ∃ m', m' < m ∧ W (i + 1) m' H') ∧ ∀ x H', J.yld i H2 x H' → g x (wipe σ vs) H' fun σ2 H2 => wipe σ2 vs = wipe σ vs ∧ tt σ2 H2 fun b H3 =>
      if b = true then tk σ2 H3 fun y H4 => tv σ2 H4 fun z H5 => ∃ kvs k, y = kV k ∧ H5 L = some (.dK kvs) ∧ kvs.length < sizeLine ∧ Nx (upd H5 L (.dK (putK kvs k z))) else Nx H3)) : tDc wi g tt tk tv vs σ H Q := h
/-- over a list that stays -/
theorem dc_list {a : Addr} {xs : List V} {g : TG} {tt : TT} {tk tv : TE} {vs : List Nat} {H1 : Hp} {L : Addr} {Qd : Hp → Prop} (Pv : Nat → Hp → Prop) (h0 : Pv 0 (upd H1 L (.dK []))) (hl : ∀ i H, i ≤ xs.length → Pv i H → SqL K H a xs)
    (hs : ∀ i x H, xs[i]? = some x → Pv i H → g x (wipe σ vs) H fun σ2 H2 => wipe σ2 vs = wipe σ vs ∧ tt σ2 H2 fun b H3 =>
      if b = true then tk σ2 H3 fun y H4 => tv σ2 H4 fun z H5 => ∃ kvs k, y = kV k ∧ H5 L = some (.dK kvs) ∧ kvs.length < sizeLine ∧ Pv (i + 1) (upd H5 L (.dK (putK kvs k z))) else Pv (i + 1) H3) (hd : ∀ H, Pv xs.length H → Qd H) :
    ∃ W : Nat → Nat → Hp → Prop, (∃ m, W 0 m (upd H1 L (.dK []))) ∧ ∀ i m H2, W i m H2 →
      ((Itl K a).stop i H2 ∧ Qd H2) ∨ ((Itl K a).go i H2 ∧ ∃ Nx : Hp → Prop, (∀ H', Nx H' → ∃ m', m' < m ∧ W (i + 1) m' H') ∧ ∀ x H', (Itl K a).yld i H2 x H' → g x (wipe σ vs) H' fun σ2 H2 => wipe σ2 vs = wipe σ vs ∧ tt σ2 H2 fun b H3 =>
        if b = true then tk σ2 H3 fun y H4 => tv σ2 H4 fun z H5 => ∃ kvs k, y = kV k ∧ H5 L = some (.dK kvs) ∧ kvs.length < sizeLine ∧ Nx (upd H5 L (.dK (putK kvs k z))) else Nx H3) := by
  refine ⟨fun i m H => m = xs.length - i ∧ i ≤ xs.length ∧ Pv i H, ⟨xs.length, by simp, Nat.zero_le _, h0⟩, ?_⟩
  rintro i m H ⟨rfl, hi, p⟩
  have q := hl i H hi p
  by_cases hlt : i < xs.length
  · refine .inr ⟨⟨xs, xs[i], q, List.getElem?_eq_getElem hlt⟩, Pv (i + 1), fun H' p' => ⟨xs.length - (i + 1), by omega, rfl, hlt, p'⟩, ?_⟩
    rintro x H' ⟨rfl, ex⟩
    exact hs i x _ (ex xs q) p
  · have e : i = xs.length := by omega
    subst e
    exact .inl ⟨⟨xs, q, Nat.le_refl _⟩, hd H p⟩
theorem x_while {c : TT} {tb : TS} (h : ∃ W : Nat → L2.St → Hp → Prop, (∃ m, W m σ H) ∧ ∀ m σ H, W m σ H →
    c σ H fun b H1 => if b = true then ∃ N : L2.St → Hp → Prop, (∀ σ' H', N σ' H' → ∃ m', m' < m ∧ W m' σ' H') ∧ tb { D with nx := N, ct := N, bk := D.nx } σ H1 else D.nx σ H1) : tWhile c tb D σ H := h
theorem x_dget {td ty : TE} (h : td σ H fun x H1 => ty σ H1 fun y H2 => ∃ a v, x = .ref a ∧ DGet H2 a y (some v) ∧ Q v H2) : tDGet td ty σ H Q := h
theorem x_din {td ty : TE} (h : ty σ H fun y H1 => td σ H1 fun x H2 => ∃ a o, x = .ref a ∧ DGet H2 a y o ∧ Q (.bl o.isSome) H2) : tDIn ty td σ H Q := h
theorem x_dnotin {td ty : TE} (h : ty σ H fun y H1 => td σ H1 fun x H2 => ∃ a o, x = .ref a ∧ DGet H2 a y o ∧ Q (.bl (!o.isSome)) H2) : tDNotIn ty td σ H Q := h
end
/-! ### a list made longer in place: s += t -/
section
variable {prog : Program} {w : World} {A : Around} {E : Value → Shared → Prop} {s : Shared}
theorem seq_iadd : seqSlot? (.type "list") (dunderI "add") = pure (some (.builtin "list.__iadd__")) := PySem.seqSlot_of F.slot_list_iadd.lookup (by decide +kernel)
theorem noFill_iadd : fillsInplaceSlot (.type "list") "add" (Operator.Add == .Add) = pure false := by
  unfold fillsInplaceSlot
  show (typeLookup (.type "list") (dunderI "add") >>= fun fi => pure (fi.isSome && !isSeqSlot fi)) = pure false
  rw [F.slot_list_iadd.lookup]
  have e : isSeqSlot (some (.builtin "list.__iadd__")) = true := by decide +kernel
  show (pure ((some (Value.builtin "list.__iadd__")).isSome && !isSeqSlot (some (.builtin "list.__iadd__"))) : Sem Bool) = pure false
  rw [e]
  rfl
theorem iadd_lists {l b : Addr} {items items2 : Array Value} {n n2 : Nat} {Q : Value → Shared → Prop} (hl : IsL s.heap l items n) (hb : IsL s.heap b items2 n2)
    (h : Q (.ref l) { s with heap := s.heap.update l (Obj.mapSeq fun x => x ++ items2), toks := s.toks }) (hs0 : ¬(!items.isEmpty && Builtin.List.listTooLong (items.size + items2.size)) = true) (hs1 : items.size ≤ sizeLine) (hs2 : items.size + items2.size ≤ sizeLine + 1) :
    wpAny (model prog w) A (inplaceOp .Add (.ref l) (.ref b)) Q E s := by
  have ha : s.TypeIs (.ref l) "list" := ⟨_, hl, rfl⟩
  have hbT : s.TypeIs (.ref b) "list" := ⟨_, hb, rfl⟩
  unfold inplaceOp
  refine wpAny_holding ?_
  refine wpAny_bind (wpAny_typeOf ha (wpAny_bind (wpAny_of_eq noFill_iadd ?_)))
  show wpAny _ A (if false = true then _ else _) Q E s
  rw [if_neg Bool.false_ne_true]
  refine wpAny_bind (wpAny_binaryOp1_none (nm := "add") ha hbT noFill_list_add ?_)
  refine wpAny_bind (wpAny_of_eq seq_iadd ?_)
  exact wpAny_bind (wpAny_rule (call_meets F.slot_list_iadd ha F.entry_list_iadd (F.args_list_iadd_2 _ _) (AutoSeq1.list___iadd___list_list_0 l items n b items2 n2 hs0 hs1 hs2) ⟨hl, hb, h⟩))
end
def ipExt : TIp := fun x y H Q => ∃ (l b : Addr) (xs zs : List V), x = .ref l ∧ y = .ref b ∧ H l = some (.lst xs) ∧ H b = some (.lst zs) ∧ xs.length + zs.length ≤ sizeLine ∧ Q (.ref l) (upd H l (.lst (xs ++ zs)))
theorem ip_ext {X : Cx} : PIp X .Add ipExt := by
  intro pins s σ H x y v u Q I rx ry h
  obtain ⟨l, b, xs, zs, rfl, rfl, hH, hB, hz, q⟩ := h
  cases rx
  cases ry
  obtain ⟨z, its, n, r, hl, e⟩ := I.lstM hH
  obtain ⟨z2, its2, n2, r2, hl2, e2⟩ := I.lstM hB
  have hsz : its.toArray.size + its2.toArray.size ≤ sizeLine := by rw [List.size_toArray, List.size_toArray]; omega
  have hlong : ¬ (!its.toArray.isEmpty && Builtin.List.listTooLong (its.toArray.size + its2.toArray.size)) = true := by
    rw [notLongL hsz, Bool.and_false]
    exact Bool.false_ne_true
  refine iadd_lists e e2 ?_ hlong (by rw [List.size_toArray]; omega) (by omega)
  refine ⟨.ref l, _, I.lset (its' := its ++ its2) hH e (by simp) (r.append r2) ?_, rfl, q⟩
  rw [List.length_append]
  omega
section
variable {σ : L2.St} {H : Hp} {Q : VK}
theorem x_ext {l b : Addr} {xs zs : List V} (hl : H l = some (.lst xs)) (hb : H b = some (.lst zs)) (hz : xs.length + zs.length ≤ sizeLine) (h : Q (.ref l) (upd H l (.lst (xs ++ zs)))) : ipExt (.ref l) (.ref b) H Q := ⟨l, b, xs, zs, rfl, rfl, hl, hb, hz, h⟩
end
/-- a list made of what a walk with numbers along a list gives -/
theorem lc_enum {K : PySem.W.Frag} {a : Addr} {xs : List V} {g : TG} {tt : TT} {te : TE} {vs : List Nat} {σ : L2.St} {H1 : Hp} {D : Addr} {Qd : Hp → Prop} (Pv : Nat → Hp → Prop) (h0 : Pv 0 (upd H1 D (.lst []))) (hl : ∀ i H, i ≤ xs.length → Pv i H → SqL K H a xs)
    (hs : ∀ (i : Nat) (x : V) (t : Addr) (H : Hp), xs[i]? = some x → Pv i H → H t = none → g (.ref t) (wipe σ vs) (upd H t (.tup [.int (i : Nat), x])) fun s2 H2 => wipe s2 vs = wipe σ vs ∧ tt s2 H2 fun b H3 =>
      if b = true then te s2 H3 fun y H4 => ∃ l, H4 D = some (.lst l) ∧ l.length < sizeLine ∧ Pv (i + 1) (upd H4 D (.lst (l ++ [y]))) else Pv (i + 1) H3) (hd : ∀ H, Pv xs.length H → Qd H) :
    ∃ W : Nat → Nat → Hp → Prop, (∃ m, W 0 m (upd H1 D (.lst []))) ∧ ∀ i m H, W i m H →
      ((Ite K a).stop i H ∧ Qd H) ∨ ((Ite K a).go i H ∧ ∃ N : Hp → Prop, (∀ H', N H' → ∃ n, n < m ∧ W (i + 1) n H') ∧ ∀ x H', (Ite K a).yld i H x H' → g x (wipe σ vs) H' fun s2 H2 => wipe s2 vs = wipe σ vs ∧ tt s2 H2 fun b H3 =>
        if b = true then te s2 H3 fun y H4 => ∃ l, H4 D = some (.lst l) ∧ l.length < sizeLine ∧ N (upd H4 D (.lst (l ++ [y]))) else N H3) := by
  refine ⟨fun i m H => m = xs.length - i ∧ i ≤ xs.length ∧ Pv i H, ⟨_, rfl, Nat.zero_le _, h0⟩, ?_⟩
  rintro i m H ⟨rfl, le, p⟩
  have q := hl i H le p
  by_cases lt : i < xs.length
  · refine .inr ⟨⟨xs, xs[i], q, List.getElem?_eq_getElem lt⟩, Pv (i + 1), fun H2 p2 => ⟨xs.length - (i + 1), by omega, rfl, lt, p2⟩, ?_⟩
    rintro _ _ ⟨t, x, rfl, ht, rfl, ex⟩
    exact hs i x t H (ex xs q) p ht
  · have e : i = xs.length := by omega
    subst e
    exact .inl ⟨⟨xs, q, Nat.le_refl _⟩, hd H p⟩
/-! sorted of data (texts, ints, tuples of these): the one sorted list, by the data's order. -/

/-- the items with what they read as -/
def rSortedD (K : PySem.W.Frag) : List V → Hp → VK → Prop := fun vs H Q => ∃ (a : Addr) (ps : List (V × PyData)), vs = [V.ref a] ∧ SqL K H a (ps.map (·.1)) ∧ DnAll [] H (ps.map (·.1)) (ps.map (·.2)) ∧ PySem.W.AllAlike (ps.map (·.2)) ∧ PySem.W.Sortable (ps.map (·.2)) ∧ (∀ b ∈ ps, b.2.depth ≤ 20) ∧
  ∀ p, H p = none → Q (.ref p) (upd H p (.lst ((ps.mergeSort (PySem.W.dataLe false (·.2))).map (·.1))))
theorem each_of {H : Hp} : ∀ {ps : List (V × PyData)} {us : List Value}, Vals (ps.map (·.1)) us → PySem.W.EachIs (fun v (b : V × PyData) => RelV b.1 v) us ps
  | [], _, .nil => .nil
  | p :: ps, _ :: us, .cons r t => .cons r (each_of (H := H) t)
theorem vals_each : ∀ {ps : List (V × PyData)} {us : List Value}, PySem.W.EachIs (fun v (b : V × PyData) => RelV b.1 v) us ps → Vals (ps.map (·.1)) us
  | [], _, .nil => .nil
  | p :: ps, _ :: us, .cons r t => .cons r (vals_each t)
section
variable {X : Cx}
theorem each_reads {pins : List (Addr × Obj)} {σ : L2.St} {H : Hp} {s : Shared} (I : Inv X pins σ H s) : ∀ {ps : List (V × PyData)} {us : List Value}, Vals (ps.map (·.1)) us → DnAll [] H (ps.map (·.1)) (ps.map (·.2)) → PySem.W.EachIs (fun v (b : V × PyData) => ∃ as, Reads s.heap v b.2 as) us ps
  | [], _, .nil, _ => .nil
  | p :: ps, _ :: us, .cons r t, .cons d e => .cons (by obtain ⟨as, h, _⟩ := Dn.reads I _ _ _ d r; exact ⟨as, h⟩) (each_reads I t e)
theorem cr_sortedD (hu : X.A.units + 64 < cLine) : CallR X (.builtin "sorted") (rSortedD X.K) := by
  intro pins s σ H vs us Q I r h
  obtain ⟨a, ps, rfl, hs, hd, hal, hk, dp, q⟩ := h
  obtain ⟨its, rv, hl, hz⟩ := I.list hs
  obtain ⟨u, rfl, ru⟩ := vals1 r
  obtain rfl : u = Value.ref a := ru
  refine PySem.W.sorted_data hl.isList (each_of (H := H) rv) (each_reads I rv hd) hal hk (by rw [List.length_map] at hz; exact hz) (fun b hb => by have := dp b hb; omega) fun out lo e => ?_
  have hn : H (s.heap.objs.size + 1) = none := I.hok.fresh (Nat.le_succ _)
  obtain ⟨n, hn2⟩ := sortedAll_at s.heap its (List.toArray out)
  refine ⟨.ref (s.heap.objs.size + 1), upd H (s.heap.objs.size + 1) (.lst ((ps.mergeSort (PySem.W.dataLe false (·.2))).map (·.1))), I.laid (t' := s.toks) (fun b o e => sortedAll_old e) (Nat.le_succ _) ⟨?_, out, n, vals_each e, hn2⟩, rfl, q _ hn⟩
  rw [List.length_map, List.length_mergeSort]
  rw [List.length_map] at hz
  exact hz
end
theorem dnAll_ps {M : List Addr} {H : Hp} : ∀ {ps : List (V × PyData)}, (∀ p ∈ ps, Dn M H p.1 p.2) → DnAll M H (ps.map (·.1)) (ps.map (·.2))
  | [], _ => .nil
  | p :: ps, h => .cons (h p (by simp)) (dnAll_ps fun q hq => h q (by simp [hq]))
theorem dnAll_zip {M : List Addr} {H : Hp} : ∀ {xs : List V} {ds : List PyData}, DnAll M H xs ds → (xs.zip ds).map (·.1) = xs ∧ (xs.zip ds).map (·.2) = ds ∧ ∀ p ∈ xs.zip ds, Dn M H p.1 p.2
  | _, _, .nil => ⟨rfl, rfl, by simp⟩
  | x :: xs, d :: ds, .cons a b => by
    obtain ⟨h1, h2, h3⟩ := dnAll_zip b
    refine ⟨by simp only [List.zip_cons_cons, List.map_cons, h1], by simp only [List.zip_cons_cons, List.map_cons, h2], fun p hp => ?_⟩
    rw [List.zip_cons_cons] at hp
    rcases List.mem_cons.mp hp with rfl | hp
    · exact a
    · exact h3 p hp
theorem x_srtDM {K : PySem.W.Frag} {M : List Addr} {H : Hp} {Q : VK} {F : Addr} {xs : List V} {ds : List PyData} (al : ∀ m ∈ M, ∃ o, H m = some o) (hF : H F = some (.lst xs)) (A : DnAll M H xs ds) (h1 : PySem.W.AllAlike ds) (h2 : PySem.W.Sortable ds) (dp : ∀ d ∈ ds, d.depth ≤ 20)
    (h : ∀ (H' : Hp) (p : Addr), Same H H' → H p = none → Dn M H' (.ref p) (.list (ds.mergeSort (PySem.W.dataLe false id))) → Q (.ref p) H') : rSortedD K [.ref F] H Q := by
  obtain ⟨z1, z2, z3⟩ := dnAll_zip A
  refine ⟨F, xs.zip ds, rfl, by rw [z1]; exact SqL.of hF, by rw [z1, z2]; exact A.sub (by simp), by rw [z2]; exact h1, by rw [z2]; exact h2, fun b hb => dp _ (by rw [← z2]; exact List.mem_map.mpr ⟨b, hb, rfl⟩), fun p hp => ?_⟩
  have S := same_upd hp (o := .lst (((xs.zip ds).mergeSort (PySem.W.dataLe false (·.2))).map (·.1)))
  have np : p ∉ M := fun m => by
    obtain ⟨o, e⟩ := al p m
    rw [hp] at e; cases e
  refine h _ p S hp (.lst upd_same np ?_)
  have e : ((xs.zip ds).mergeSort (PySem.W.dataLe false (·.2))).map (·.2) = ds.mergeSort (PySem.W.dataLe false id) := by
    have m := List.map_mergeSort (r := PySem.W.dataLe false (fun x : V × PyData => x.2)) (s := PySem.W.dataLe false id) (f := fun x : V × PyData => x.2) (l := xs.zip ds) (fun a _ b _ => rfl)
    rw [m, z2]
  rw [← e]
  exact (dnAll_ps fun p hp => z3 p ((List.mergeSort_perm _ _).mem_iff.mp hp)).ext (Ext.same S)
theorem x_srtD {K : PySem.W.Frag} {H : Hp} {Q : VK} {F : Addr} {xs : List V} {ds : List PyData} (hF : H F = some (.lst xs)) (A : DnAll [] H xs ds) (h1 : PySem.W.AllAlike ds) (h2 : PySem.W.Sortable ds) (dp : ∀ d ∈ ds, d.depth ≤ 20)
    (h : ∀ (H' : Hp) (p : Addr), Same H H' → H p = none → Dn [] H' (.ref p) (.list (ds.mergeSort (PySem.W.dataLe false id))) → Q (.ref p) H') : rSortedD K [.ref F] H Q :=
  x_srtDM (by simp) hF A h1 h2 dp h
/-- rows of ints: sorted as lists are -/
theorem rows_sort (rows : List (List Int)) : (rows.map fun w => PyData.list (w.map PyData.int)).mergeSort (PySem.W.dataLe false id) = (rows.mergeSort fun a b => decide (a ≤ b)).map fun w => PyData.list (w.map PyData.int) := by
  refine (List.map_mergeSort (fun a _ b _ => ?_)).symm
  have e := PySem.W.dataLe_rows (fun w : List Int => w)
  have e2 := congrFun (congrFun e a) b
  exact e2.symm
theorem rows_up (rows : List (List Int)) : (rows.mergeSort fun a b => decide (a ≤ b)).Pairwise (· ≤ ·) := by
  have h := List.pairwise_mergeSort (le := fun a b : List Int => decide (a ≤ b)) (fun a b c h1 h2 => by
    rw [decide_eq_true_eq] at h1 h2 ⊢
    exact List.le_trans h1 h2) (fun a b => by
    rw [Bool.or_eq_true, decide_eq_true_eq, decide_eq_true_eq]
    exact List.le_total a b) rows
  exact h.imp fun h => by simpa using h
theorem rows_alike {rows : List (List Int)} (ne : ∀ w ∈ rows, w ≠ []) : PySem.W.AllAlike (rows.map fun w => PyData.list (w.map PyData.int)) := by
  have al : ∀ a b : List Int, PySem.W.alikeAll (a.map PyData.int) (b.map PyData.int) = true := by
    intro a
    induction a with
    | nil => intro b; cases b <;> rfl
    | cons x a ih =>
      intro b
      cases b with
      | nil => rfl
      | cons y b => simp [PySem.W.alikeAll, PySem.W.alike, ih b]
  intro d hd e he
  obtain ⟨a, _, rfl⟩ := List.mem_map.mp hd
  obtain ⟨b, _, rfl⟩ := List.mem_map.mp he
  simp [PySem.W.alike, al]
theorem rows_sortable (rows : List (List Int)) : PySem.W.Sortable (rows.map fun w => PyData.list (w.map PyData.int)) := .inr fun d hd => by
  obtain ⟨a, _, rfl⟩ := List.mem_map.mp hd
  exact ⟨nofun, nofun⟩
/-- len in a comprehension: the frame is named -/
theorem call_lenK (K : PySem.W.Frag) {X : Cx} (h : X.K = K := by rfl) : CallR X (.builtin "len") (fun xs H Q => ∃ p ys, xs = [V.ref p] ∧ (SqL K H p ys ∨ SqT K H p ys) ∧ Q (.int ys.length) H) := by
  subst h
  exact call_len_seq
theorem x_lstRg {te : TE} {σ : L2.St} {H : Hp} {Q : VK} (h : te σ H fun x H1 => ∃ n, x = .int n ∧ (RgOk 0 n ∧ ∀ q, H1 q = none → Q (.ref q) (upd H1 q (.lst (rgV 0 n))))) : tLstRg (tRg1 te) σ H Q := h
theorem rgV_ints (a b : Int) : ∃ ns : List Int, rgV a b = ns.map V.int := ⟨(List.range (b - a).toNat).map fun i => a + (i : Nat), by unfold rgV; rw [List.map_map]; rfl⟩
/-! range(n) as a value, int not in it; set of a list of ints, as sorted wants it. -/
section
variable {X : Cx}
theorem cr_range1 : CallR X (.type "range") (fun vs H Q => ∃ j, vs = [V.int j] ∧ ∀ p, H p = none → Q (.ref p) (upd H p (.rng 0 j))) := by
  intro pins s σ H vs us Q I r h
  obtain ⟨j, rfl, q⟩ := h
  obtain ⟨u, rfl, ru⟩ := vals1 r
  obtain ⟨t, rfl⟩ := ru
  refine call_range_1 ⟨.ref s.heap.objs.size, upd H s.heap.objs.size (.rng 0 j), I.laid (t' := s.toks + 2) (fun b o e => Heap.get?_push_of_some _ e) (Nat.le_refl _) ?_, rfl, q _ (I.hok.fresh (Nat.le_refl _))⟩
  exact ⟨s.toks, t, s.toks + 1, Heap.get?_push_size _ rfl⟩
def rNotInR : R2 := fun x y H Q => ∃ i a lo hi, x = V.int i ∧ y = V.ref a ∧ H a = some (.rng lo hi) ∧ Q (.bl (!decide (lo ≤ i ∧ i < hi))) H
theorem op_notin_rng : OpR X (compareOp .NotIn) rNotInR := by
  intro pins s σ H x y v u Q I rx ry h
  obtain ⟨i, a, lo, hi, rfl, rfl, ha, q⟩ := h
  obtain ⟨k, rfl⟩ := rx
  obtain rfl : u = Value.ref a := ry
  obtain ⟨t1, t2, t3, ho⟩ := I.hok a _ ha
  show wpAny _ _ (do return Value.bool (!(← contains (Value.ref a) (Value.int i k)))) _ _ s
  refine wpAny_bind (wpAny_contains_slot (T := "range") ⟨_, ho, rfl⟩ F.slot_range_contains (call_meets F.slot_range_contains ⟨_, ho, rfl⟩ F.entry_range_contains (F.args_range_contains_2 _ _) (q_contains a lo hi i t1 t2 t3 k)
    ⟨ho, wpAny_truthy_bool (wpAny_pure ⟨.bl _, H, I, rfl, ?_⟩)⟩))
  rw [place1]
  exact q
end
/-! set(l) of a list of ints, in the form that sorted takes -/
section
variable {P : Program} {w : World} {A : Around} {E : Value → Shared → Prop} {s : Shared}
/-- the set object at its beginning -/
abbrev set0 (w : World) : Obj := { cls := .type "set", dict := none, data := .set #[] 0 (.fresh 0 0 (!w.params.followText "set-order")) }
theorem fill_list {l : Addr} {items : Array Value} (ns : List Int) (hh : A.handled = none) (hl : s.heap.IsList l items) (hi : IntsAre items.toList ns) (hb : ns.length + 1 < scanBound) {R : Result → Shared → Prop}
    (h : ∀ (h' : Heap) (tk c : Nat), SetR w h' s.heap.objs.size (fun j => decide (j ∈ ns)) c → c ≤ ns.length → (∀ b o, s.heap.get? b = some o → h'.get? b = some o) → R (.ok (.ret .none)) { s with heap := h', toks := tk }) :
    codeAny (model P w) A (.builtin "set.update.loop" ⟨[.ref s.heap.objs.size, .ref (s.heap.objs.size + 1)], []⟩) R
      { s with heap := (s.heap.push (set0 w)).push { cls := .type "list_iterator", data := .fields #[.ref l, .int 0 0] } } := by
  have en : items.size = ns.length := by have := hi.length; rwa [Array.length_toList] at this
  obtain ⟨ol, hol, _⟩ := id hl
  have ll : l < s.heap.objs.size := Heap.lt_size hol
  refine set_update_ints ((Walks.list (prog := P) (w := w) (A := A.in1) hh (s.heap.objs.size + 1) l (Nat.ne_of_lt (Nat.lt_succ_of_lt ll)) items).toS) s.heap.objs.size (fun m => by rcases List.mem_cons.mp m with e | m; exact absurd e (Nat.ne_of_lt (Nat.lt_succ_self _)); exact absurd (List.mem_singleton.mp m) (Nat.ne_of_gt ll)) ns en hb ?_ (items.size - 0) 0 _ (by omega) (Nat.zero_le _) ?_ ?_ ?_
  · intro i v hv
    have hin : i < ns.length := by rw [← en]; exact (Array.getElem?_eq_some_iff.mp hv).1
    obtain ⟨t, e⟩ := PyProof.Rows.IntsAre.int_at hi i v (by rw [Array.getElem?_toList]; exact hv)
    refine ⟨ns[i], t, List.getElem?_eq_getElem hin, ?_⟩
    rw [e, List.getD_eq_getElem?_getD, List.getElem?_eq_getElem hin]
    rfl
  · have e : s.heap.objs.size + 1 = (s.heap.push (set0 w)).objs.size := (Heap.size_push ..).symm
    refine ⟨?_, (hl.push _).push _⟩
    rw [e]
    exact ⟨_, Heap.get?_push_size _ rfl, rfl, rfl⟩
  · exact ⟨0, Nat.le_refl _, setR_new_at (Heap.get?_push_of_some _ (Heap.get?_push_size _ rfl))⟩
  · rintro ⟨h', g2, d', tk', os'⟩ c m hc R'
    obtain rfl : g2 = s.gens := m.gens
    obtain rfl : d' = s.drawn := m.drawn
    obtain rfl : os' = s.os := m.os
    rw [en] at hc
    refine h h' tk' c R' hc fun b o e => ?_
    have hb0 : b < s.heap.objs.size := Heap.lt_size e
    refine m.heap b o (fun z => ?_) (Heap.get?_push_of_some _ (Heap.get?_push_of_some _ e))
    rcases List.mem_cons.mp z with z | z
    · exact absurd z (Nat.ne_of_lt hb0)
    · exact absurd (List.mem_singleton.mp z) (Nat.ne_of_lt (Nat.lt_succ_of_lt hb0))
theorem call_setLI {l : Addr} {items : Array Value} (ns : List Int) {Q : Value → Shared → Prop} (hh : A.handled = none) (hl : s.heap.IsList l items) (hi : IntsAre items.toList ns) (hb : ns.length + 1 < scanBound)
    (h : ∀ (h' : Heap) (tk c : Nat), SetR w h' s.heap.objs.size (fun j => decide (j ∈ ns)) c → c ≤ ns.length → (∀ b o, s.heap.get? b = some o → h'.get? b = some o) → Q (.ref s.heap.objs.size) { s with heap := h', toks := tk }) :
    wpAny (model P w) A (call (.type "set") [.ref l]) Q E s := by
  obtain ⟨c, tl, hmro⟩ := F.called_set.mro
  have hmade := F.called_set.made
  have hsub := F.called_set.sub
  have h1 := F.called_set.notType
  have h2 := F.called_set.canCreate
  have hct := F.typeCall_set_1 (.ref l)
  refine wpAny_call (codeAny_of_tree ?_)
  show wpAny _ _ (callAny (.type "set") _) _ _ _
  refine wpAny_pure ⟨Code.quiet_builtin _ (by decide +kernel), codeAny_builtin F.entry_type_call ?_⟩
  rw [Around.under_plain (weight_type_call_type "set" [.ref l] []) rfl]
  repeat (any_goals (first | assumption | wp_step))
  refine codeAny_mono (code_set_led1 (.ref l) (E := E) (Q₁ := fun v s1 => v = .ref s.heap.objs.size ∧ s1 = { s with heap := s.heap.push (set0 w) }) ⟨rfl, rfl⟩) fun r s1 hr => ?_
  rcases r with e | fl
  · exact hr
  cases fl with
  | ret v =>
    obtain ⟨rfl, rfl⟩ := hr
    have hS : (s.heap.push (set0 w)).get? s.heap.objs.size = some (set0 w) := Heap.get?_push_size _ rfl
    have hT : Shared.TypeIs { s with heap := s.heap.push (set0 w) } (.ref s.heap.objs.size) "set" := ⟨_, hS, rfl⟩
    have hli := F.called_set.init.lookup
    have hbi := F.called_set.init.bind (.ref s.heap.objs.size)
    repeat (any_goals (first | assumption | wp_step))
    refine codeAny_mono (codeAny_call_builtin (R := wants (fun r s2 => r = .none ∧ ∃ h' tk c, s2 = { s with heap := h', toks := tk } ∧ SetR w h' s.heap.objs.size (fun j => decide (j ∈ ns)) c ∧ c ≤ ns.length ∧ ∀ b o, s.heap.get? b = some o → h'.get? b = some o) E)
      F.called_set.init.plain F.entry_set_init (check_set_init_1 hT ?_)) fun r2 s2 hr2 => ?_
    · have hl1 : (s.heap.push (set0 w)).IsList l items := hl.push _
      obtain ⟨⟨ocls, od, odt, osl⟩, hol, hcl, nl, hdl⟩ := id hl1
      simp only at hcl hdl
      subst hcl hdl
      have n1 := F.sub_list_set
      have n2 := F.sub_list_frozenset
      have n3 : (Value.type "list" == Value.type "dict") = false := by decide
      unfold Builtin.«set.__init__» noKeywords Builtin.Frozenset.updateFrom
      generalize hPI : pyIter = PI
      wp_walk
      subst hPI
      refine wpAny_pyIter_list hl1 ?_
      refine wpAny_bind (wpAny_runValue ?_)
      have e : (s.heap.push (set0 w)).objs.size = s.heap.objs.size + 1 := Heap.size_push ..
      rw [e]
      refine fill_list (A := A.in1.in1) ns (by simp [hh]) hl hi hb fun h' tk c a1 a2 a3 => ?_
      show wpAny _ _ _ _ _ _
      refine wpAny_pure ?_
      show wpAny _ _ (ret Value.none) _ _ _
      exact wpAny_pure ⟨rfl, h', tk, c, rfl, a1, a2, a3⟩
    · rcases r2 with e | fl2
      · exact hr2
      cases fl2 with
      | ret v =>
        obtain ⟨rfl, h', tk, c', rfl, a1, a2, a3⟩ := hr2
        repeat (any_goals (first | assumption | wp_step))
        exact h _ _ _ a1 a2 a3
      | _ => exact hr2.elim
  | _ => exact hr.elim
end
/-- set(l), l a list of ints -/
def rSetLI (K : PySem.W.Frag) (w : World) : List V → Hp → VK → Prop := fun vs H Q => ∃ (a : Addr) (ns : List Int), vs = [.ref a] ∧ SqL K H a (ns.map V.int) ∧ ns.length ≤ 1000 ∧
  ∀ (p : Addr) (c : Nat), H p = none → c ≤ ns.length → Q (.ref p) (upd H p (SetO w p (fun j => decide (j ∈ ns)) c))
theorem cr_setLI {X : Cx} (hc : X.calm = true) : CallR X (.type "set") (rSetLI X.K X.w) := by
  intro pins s σ H vs us Q I r h
  obtain ⟨a, ns, rfl, hs, hl, q⟩ := h
  rw [Vals.ref1 r]
  obtain ⟨its, rv, pl, hz⟩ := I.list hs
  refine call_setLI ns (I.ok.hd hc) pl.isList (by simpa using ints_of_vals rv) (by unfold scanBound; omega) fun h' tk c R cl k => ?_
  have hn : H s.heap.objs.size = none := I.hok.fresh (Nat.le_refl _)
  exact ⟨.ref s.heap.objs.size, _, I.laid (t' := tk) k (Nat.le_refl _) (setO_new R), rfl, q _ c hn cl⟩
theorem x_setLI {K : PySem.W.Frag} {w : World} {H : Hp} {Q : VK} {a : Addr} {ns : List Int} (ha : SqL K H a (ns.map V.int)) (hl : ns.length ≤ 1000) (h : ∀ (p : Addr) (c : Nat), H p = none → c ≤ ns.length → Q (.ref p) (upd H p (SetO w p (fun j => decide (j ∈ ns)) c))) : rSetLI K w [.ref a] H Q := ⟨a, ns, rfl, ha, hl, h⟩
theorem x_srtSet {w : World} {H : Hp} {Q : VK} {a : Addr} {ns : List Int} {c : Nat} (ha : H a = some (SetO w a (fun j => decide (j ∈ ns)) c)) (hc : c < 64) (h : ∀ (p : Addr) (ms : List Int), H p = none → ms.Pairwise (· < ·) → (∀ k, k ∈ ms ↔ k ∈ ns) → Q (.ref p) (upd H p (.lst (ms.map V.int)))) : rSortedSet w [.ref a] H Q :=
  ⟨a, _, c, rfl, ha, hc, fun ms p h1 h2 _ h4 => h p ms h4 h1 fun k => (h2 k).trans decide_eq_true_iff⟩
/-! ### a def that stands under another name than its own -/
section
variable {P : Program} {w : World} {K : PySem.W.Frag} {mg : Str → Option Value}
structure DfA (K : PySem.W.Frag) (mg : Str → Option Value) (nm own : Str) (st : Stmt) : Prop where
  ex : ∃ f fd, Fun K own own st f fd ∧ mg nm = some (.ref f)
theorem dfa_mk {h : Heap} {nm own : Str} {st : Stmt} {f : Addr} {oc : Value} {od an : Option Addr} {osl : Array (Option Value)} {kV doc pm cdv ct : Value} (X : K.In h) (G : h.Ns mainGlobals mg)
    (a : PySem.W.nsIn K mainGlobals nm = some (some (.ref f)))
    (l : K.lookup f = some ⟨oc, od, .func (PySem.W.fnOf own own (defArgs st) (defBody st) (defScope st) .none kV doc pm an cdv ct), osl⟩)
    (c : PySem.W.codeIn K cdv own = true) (k : PySem.W.keepIn K (.ref f) = true) : DfA K mg nm own st :=
  ⟨f, _, fun_mk l c k, PySem.W.mg_of X G a⟩
theorem kn_ofA {base : Heap} {nm own : Str} {st : Stmt} {N ps : List Str} {k : Nat} {sp : Sp} (D : DfA K mg nm own st)
    (bd : ∀ (kV doc pm : Value) (an : Option Addr) (cdv ct : Value) (us : List Value), us.length = ps.length → bindArgs (PySem.W.fnOf own own (defArgs st) (defBody st) (defScope st) .none kV doc pm an cdv ct) ⟨us, []⟩ = pure (ps.zip us))
    (S : FnScope N ps (defScope st)) (len : ∀ vs H Q E, sp vs H Q E → vs.length = ps.length)
    (body : ∀ (f : Addr) (cd : Value) (B : Around) (fr : List Env) (z : Shared) (H : Hp) (vs : List V) (Q : VK) (E : XK),
      Room k (B.deeper (envOfC own (defScope st) z.heap.objs.size f cd)) →
      (B.deeper (envOfC own (defScope st) z.heap.objs.size f cd)).guards = some [] → sp vs H Q E →
      ∃ t, PSs (bodyX P w K mg base N own st f cd B fr z H E) (defBody st) t ∧
        t { nx := fun _ H' => Q .non H', rt := Q } (start N vs) H) : Kn P w K mg base nm (k + 1) sp := by
  obtain ⟨f, fd, F, hm⟩ := D.ex
  exact ⟨f, fd, ps, FnG.mk' F S len (body f), hm, F.kp, F.binds bd⟩
/-- a promise that asks more keeps one that asks less -/
theorem Kn.weak {base : Heap} {nm : Str} {k : Nat} {sp sp' : Sp} (h : Kn P w K mg base nm k sp) (g : ∀ vs H Q E, sp' vs H Q E → sp vs H Q E) : Kn P w K mg base nm k sp' := by
  obtain ⟨f, fd, ps, F, r⟩ := h.ex
  exact ⟨f, fd, ps, ⟨fun vs H Q E h => F.len vs H Q E (g vs H Q E h), fun B fr z H ar us vs Q E r1 r2 r3 r4 r5 h => F.go B fr z H ar us vs Q E r1 r2 r3 r4 r5 (g vs H Q E h)⟩, r⟩
end
def topS (i : Nat) : Stmt := PySem.Challenge.pw_leadswitch_k37_whole_asked_by_turns.main.body.getD i (.Pass ⟨0, 0, 0, 0⟩)
abbrev s__wall : Stmt := topS 0
theorem sc__wall : FnScope ["k"] ["k"] (defScope s__wall) := ⟨rfl, rfl, rfl, by decide +kernel, rfl, by decide +kernel, by decide +kernel⟩
abbrev s_is_integer : Stmt := topS 7
theorem sc_is_integer : FnScope ["thing"] ["thing"] (defScope s_is_integer) := ⟨rfl, rfl, rfl, by decide +kernel, rfl, by decide +kernel, by decide +kernel⟩
abbrev s_is_amount : Stmt := topS 8
theorem sc_is_amount : FnScope ["thing"] ["thing"] (defScope s_is_amount) := ⟨rfl, rfl, rfl, by decide +kernel, rfl, by decide +kernel, by decide +kernel⟩
abbrev s_is_count : Stmt := topS 9
theorem sc_is_count : FnScope ["thing"] ["thing"] (defScope s_is_count) := ⟨rfl, rfl, rfl, by decide +kernel, rfl, by decide +kernel, by decide +kernel⟩
abbrev s_is_broker : Stmt := topS 10
theorem sc_is_broker : FnScope ["thing", "size"] ["thing", "size"] (defScope s_is_broker) := ⟨rfl, rfl, rfl, by decide +kernel, rfl, by decide +kernel, by decide +kernel⟩
abbrev s_is_set : Stmt := topS 11
theorem sc_is_set : FnScope ["thing", "size", "before", "broker"] ["thing", "size"] (defScope s_is_set) := ⟨rfl, rfl, rfl, by decide +kernel, rfl, by decide +kernel, by decide +kernel⟩
abbrev s_are_bounds : Stmt := topS 12
theorem sc_are_bounds : FnScope ["thing", "row"] ["thing"] (defScope s_are_bounds) := ⟨rfl, rfl, rfl, by decide +kernel, rfl, by decide +kernel, by decide +kernel⟩
abbrev s__is_bound : Stmt := topS 13
theorem sc__is_bound : FnScope ["thing", "floor", "ceiling"] ["thing"] (defScope s__is_bound) := ⟨rfl, rfl, rfl, by decide +kernel, rfl, by decide +kernel, by decide +kernel⟩
abbrev s_are_bundles : Stmt := topS 14
theorem sc_are_bundles : FnScope ["thing", "size", "row"] ["thing", "size"] (defScope s_are_bundles) := ⟨rfl, rfl, rfl, by decide +kernel, rfl, by decide +kernel, by decide +kernel⟩
abbrev s__is_bundle : Stmt := topS 15
theorem sc__is_bundle : FnScope ["thing", "size", "first", "second", "partitions"] ["thing", "size"] (defScope s__is_bundle) := ⟨rfl, rfl, rfl, by decide +kernel, rfl, by decide +kernel, by decide +kernel⟩
abbrev s_led : Stmt := topS 17
theorem sc_led : FnScope ["cluster", "leads", "one", "other", "at", "first", "_", "partitions"] ["cluster", "leads", "one", "other"] (defScope s_led) := ⟨rfl, rfl, rfl, by decide +kernel, rfl, by decide +kernel, by decide +kernel⟩
abbrev s_loads : Stmt := topS 18
theorem sc_loads : FnScope ["cluster", "leads", "found", "number", "first", "second", "partitions"] ["cluster", "leads"] (defScope s_loads) := ⟨rfl, rfl, rfl, by decide +kernel, rfl, by decide +kernel, by decide +kernel⟩
abbrev s_turned : Stmt := topS 20
theorem sc_turned : FnScope ["pairs", "one", "other"] ["pairs"] (defScope s_turned) := ⟨rfl, rfl, rfl, by decide +kernel, rfl, by decide +kernel, by decide +kernel⟩
abbrev s_steps_from : Stmt := topS 21
theorem sc_steps_from : FnScope ["pairs", "starts", "steps", "queue", "here", "one", "other", "start"] ["pairs", "starts"] (defScope s_steps_from) := ⟨rfl, rfl, rfl, by decide +kernel, rfl, by decide +kernel, by decide +kernel⟩
abbrev s_first_shortest : Stmt := topS 22
theorem sc_first_shortest : FnScope ["pairs", "one", "other", "steps", "way", "wanted", "tail", "head"] ["pairs", "one", "other"] (defScope s_first_shortest) := ⟨rfl, rfl, rfl, by decide +kernel, rfl, by decide +kernel, by decide +kernel⟩
abbrev s_givers : Stmt := topS 24
theorem sc_givers : FnScope ["cluster", "leads", "have", "broker"] ["cluster", "leads"] (defScope s_givers) := ⟨rfl, rfl, rfl, by decide +kernel, rfl, by decide +kernel, by decide +kernel⟩
abbrev s_takers : Stmt := topS 25
theorem sc_takers : FnScope ["cluster", "leads", "have", "broker"] ["cluster", "leads"] (defScope s_takers) := ⟨rfl, rfl, rfl, by decide +kernel, rfl, by decide +kernel, by decide +kernel⟩
abbrev s__free : Stmt := topS 26
theorem sc__free : FnScope ["cluster", "broker"] ["cluster"] (defScope s__free) := ⟨rfl, rfl, rfl, by decide +kernel, rfl, by decide +kernel, by decide +kernel⟩
abbrev s_arcs : Stmt := topS 27
theorem sc_arcs : FnScope ["cluster", "leads", "found", "number", "first", "second", "partitions"] ["cluster", "leads"] (defScope s_arcs) := ⟨rfl, rfl, rfl, by decide +kernel, rfl, by decide +kernel, by decide +kernel⟩
abbrev s_reached : Stmt := topS 28
theorem sc_reached : FnScope ["cluster", "leads", "brokers"] ["cluster", "leads", "brokers"] (defScope s_reached) := ⟨rfl, rfl, rfl, by decide +kernel, rfl, by decide +kernel, by decide +kernel⟩
abbrev s_reaching : Stmt := topS 29
theorem sc_reaching : FnScope ["cluster", "leads", "brokers"] ["cluster", "leads", "brokers"] (defScope s_reaching) := ⟨rfl, rfl, rfl, by decide +kernel, rfl, by decide +kernel, by decide +kernel⟩
abbrev s__ends : Stmt := topS 49
theorem sc__ends : FnScope ["cluster", "bundle", "first", "second", "_"] ["cluster", "bundle"] (defScope s__ends) := ⟨rfl, rfl, rfl, by decide +kernel, rfl, by decide +kernel, by decide +kernel⟩
abbrev s_ends_arcs : Stmt := topS 30
theorem sc_ends_arcs : FnScope ["cluster", "pairs", "brokers", "broker"] ["cluster", "pairs", "brokers"] (defScope s_ends_arcs) := ⟨rfl, rfl, rfl, by decide +kernel, rfl, by decide +kernel, by decide +kernel⟩
abbrev s_first_way : Stmt := topS 32
theorem sc_first_way : FnScope ["cluster", "leads", "one", "other"] ["cluster", "leads", "one", "other"] (defScope s_first_way) := ⟨rfl, rfl, rfl, by decide +kernel, rfl, by decide +kernel, by decide +kernel⟩
abbrev s_greatest_low : Stmt := topS 34
theorem sc_greatest_low : FnScope ["cluster", "leads", "pairs"] ["cluster", "leads", "pairs"] (defScope s_greatest_low) := ⟨rfl, rfl, rfl, by decide +kernel, rfl, by decide +kernel, by decide +kernel⟩
abbrev s_greatest_high : Stmt := topS 35
theorem sc_greatest_high : FnScope ["cluster", "leads", "pairs"] ["cluster", "leads", "pairs"] (defScope s_greatest_high) := ⟨rfl, rfl, rfl, by decide +kernel, rfl, by decide +kernel, by decide +kernel⟩
abbrev s__others : Stmt := topS 36
theorem sc__others : FnScope ["cluster", "steps", "broker"] ["cluster", "steps"] (defScope s__others) := ⟨rfl, rfl, rfl, by decide +kernel, rfl, by decide +kernel, by decide +kernel⟩
abbrev s_is_low : Stmt := topS 37
theorem sc_is_low : FnScope ["cluster", "leads", "pairs", "members"] ["cluster", "leads", "pairs", "members"] (defScope s_is_low) := ⟨rfl, rfl, rfl, by decide +kernel, rfl, by decide +kernel, by decide +kernel⟩
abbrev s_is_high : Stmt := topS 38
theorem sc_is_high : FnScope ["cluster", "leads", "pairs", "members"] ["cluster", "leads", "pairs", "members"] (defScope s_is_high) := ⟨rfl, rfl, rfl, by decide +kernel, rfl, by decide +kernel, by decide +kernel⟩
abbrev s__is_closed : Stmt := topS 39
theorem sc__is_closed : FnScope ["cluster", "pairs", "members", "barred", "broker", "one", "other"] ["cluster", "pairs", "members", "barred"] (defScope s__is_closed) := ⟨rfl, rfl, rfl, by decide +kernel, rfl, by decide +kernel, by decide +kernel⟩
abbrev s_first_obstacle : Stmt := topS 40
theorem sc_first_obstacle : FnScope ["cluster", "leads", "pairs", "ends", "lows", "highs", "rigid", "members", "broker"] ["cluster", "leads", "pairs", "ends", "lows", "highs"] (defScope s_first_obstacle) := ⟨rfl, rfl, rfl, by decide +kernel, rfl, by decide +kernel, by decide +kernel⟩
abbrev s_is_obstacle : Stmt := topS 41
theorem sc_is_obstacle : FnScope ["cluster", "leads", "pairs", "ends", "lows", "highs", "thing", "kind", "what"] ["cluster", "leads", "pairs", "ends", "lows", "highs", "thing"] (defScope s_is_obstacle) := ⟨rfl, rfl, rfl, by decide +kernel, rfl, by decide +kernel, by decide +kernel⟩
abbrev s__meet : Stmt := topS 42
theorem sc__meet : FnScope ["members", "wanted", "broker"] ["members", "wanted"] (defScope s__meet) := ⟨rfl, rfl, rfl, by decide +kernel, rfl, by decide +kernel, by decide +kernel⟩
abbrev s_low_set : Stmt := topS 44
theorem sc_low_set : FnScope ["cluster", "leads"] ["cluster", "leads"] (defScope s_low_set) := ⟨rfl, rfl, rfl, by decide +kernel, rfl, by decide +kernel, by decide +kernel⟩
abbrev s_high_set : Stmt := topS 45
theorem sc_high_set : FnScope ["cluster", "leads"] ["cluster", "leads"] (defScope s_high_set) := ⟨rfl, rfl, rfl, by decide +kernel, rfl, by decide +kernel, by decide +kernel⟩
abbrev s_frozen : Stmt := topS 46
theorem sc_frozen : FnScope ["cluster", "leads", "still", "broker", "at", "row"] ["cluster", "leads"] (defScope s_frozen) := ⟨rfl, rfl, rfl, by decide +kernel, rfl, by decide +kernel, by decide +kernel⟩
abbrev s_bar : Stmt := topS 47
theorem sc_bar : FnScope ["cluster", "leads", "bundle", "ends"] ["cluster", "leads", "bundle"] (defScope s_bar) := ⟨rfl, rfl, rfl, by decide +kernel, rfl, by decide +kernel, by decide +kernel⟩
abbrev s_is_bar : Stmt := topS 48
theorem sc_is_bar : FnScope ["cluster", "leads", "bundle", "thing", "ends"] ["cluster", "leads", "bundle", "thing"] (defScope s_is_bar) := ⟨rfl, rfl, rfl, by decide +kernel, rfl, by decide +kernel, by decide +kernel⟩
abbrev s_ends_frozen : Stmt := topS 49
theorem sc_ends_frozen : FnScope ["cluster", "bundle", "first", "second", "_"] ["cluster", "bundle"] (defScope s_ends_frozen) := ⟨rfl, rfl, rfl, by decide +kernel, rfl, by decide +kernel, by decide +kernel⟩
abbrev s_Wrong_init : Stmt := inClass (topS 53) 0
theorem sc_Wrong_init : FnScope ["self", "place"] ["self", "place"] (defScope s_Wrong_init) := ⟨rfl, rfl, rfl, by decide +kernel, rfl, by decide +kernel, by decide +kernel⟩
abbrev s_Cluster_init : Stmt := inClass (topS 55) 0
theorem sc_Cluster_init : FnScope ["self", "bounds", "bundles"] ["self", "bounds", "bundles"] (defScope s_Cluster_init) := ⟨rfl, rfl, rfl, by decide +kernel, rfl, by decide +kernel, by decide +kernel⟩
abbrev s_Clusterkeep : Stmt := inClass (topS 55) 1
theorem sc_Clusterkeep : FnScope ["self", "bounds", "bundles", "at", "first", "second", "_"] ["self", "bounds", "bundles"] (defScope s_Clusterkeep) := ⟨rfl, rfl, rfl, by decide +kernel, rfl, by decide +kernel, by decide +kernel⟩
abbrev s_Clusterchanged : Stmt := inClass (topS 55) 2
theorem sc_Clusterchanged : FnScope ["self", "bounds", "bundles"] ["self", "bounds", "bundles"] (defScope s_Clusterchanged) := ⟨rfl, rfl, rfl, by decide +kernel, rfl, by decide +kernel, by decide +kernel⟩
abbrev s_Cluster_eq : Stmt := inClass (topS 55) 3
theorem sc_Cluster_eq : FnScope ["self", "other"] ["self", "other"] (defScope s_Cluster_eq) := ⟨rfl, rfl, rfl, by decide +kernel, rfl, by decide +kernel, by decide +kernel⟩
abbrev s_Cluster_len : Stmt := inClass (topS 55) 4
theorem sc_Cluster_len : FnScope ["self"] ["self"] (defScope s_Cluster_len) := ⟨rfl, rfl, rfl, by decide +kernel, rfl, by decide +kernel, by decide +kernel⟩
abbrev s_Cluster_size : Stmt := inClass (topS 55) 5
theorem sc_Cluster_size : FnScope ["self"] ["self"] (defScope s_Cluster_size) := ⟨rfl, rfl, rfl, by decide +kernel, rfl, by decide +kernel, by decide +kernel⟩
abbrev s_Cluster_bounds : Stmt := inClass (topS 55) 6
theorem sc_Cluster_bounds : FnScope ["self"] ["self"] (defScope s_Cluster_bounds) := ⟨rfl, rfl, rfl, by decide +kernel, rfl, by decide +kernel, by decide +kernel⟩
abbrev s_Cluster_bundles : Stmt := inClass (topS 55) 7
theorem sc_Cluster_bundles : FnScope ["self"] ["self"] (defScope s_Cluster_bundles) := ⟨rfl, rfl, rfl, by decide +kernel, rfl, by decide +kernel, by decide +kernel⟩
abbrev s_Cluster_floor : Stmt := inClass (topS 55) 8
theorem sc_Cluster_floor : FnScope ["self", "broker"] ["self", "broker"] (defScope s_Cluster_floor) := ⟨rfl, rfl, rfl, by decide +kernel, rfl, by decide +kernel, by decide +kernel⟩
abbrev s_Cluster_ceiling : Stmt := inClass (topS 55) 9
theorem sc_Cluster_ceiling : FnScope ["self", "broker"] ["self", "broker"] (defScope s_Cluster_ceiling) := ⟨rfl, rfl, rfl, by decide +kernel, rfl, by decide +kernel, by decide +kernel⟩
abbrev s_Cluster_is_rigid : Stmt := inClass (topS 55) 10
theorem sc_Cluster_is_rigid : FnScope ["self", "broker"] ["self", "broker"] (defScope s_Cluster_is_rigid) := ⟨rfl, rfl, rfl, by decide +kernel, rfl, by decide +kernel, by decide +kernel⟩
abbrev s_Cluster_bundle_of : Stmt := inClass (topS 55) 11
theorem sc_Cluster_bundle_of : FnScope ["self", "one", "other"] ["self", "one", "other"] (defScope s_Cluster_bundle_of) := ⟨rfl, rfl, rfl, by decide +kernel, rfl, by decide +kernel, by decide +kernel⟩
abbrev s_Cluster_pairs : Stmt := inClass (topS 55) 12
theorem sc_Cluster_pairs : FnScope ["self", "pair", "at"] ["self"] (defScope s_Cluster_pairs) := ⟨rfl, rfl, rfl, by decide +kernel, rfl, by decide +kernel, by decide +kernel⟩
abbrev s_Cluster_bounded : Stmt := inClass (topS 55) 13
theorem sc_Cluster_bounded : FnScope ["self", "broker", "floor", "ceiling"] ["self", "broker", "floor", "ceiling"] (defScope s_Cluster_bounded) := ⟨rfl, rfl, rfl, by decide +kernel, rfl, by decide +kernel, by decide +kernel⟩
abbrev s_Cluster_grown : Stmt := inClass (topS 55) 14
theorem sc_Cluster_grown : FnScope ["self", "one", "other", "many"] ["self", "one", "other", "many"] (defScope s_Cluster_grown) := ⟨rfl, rfl, rfl, by decide +kernel, rfl, by decide +kernel, by decide +kernel⟩
abbrev s_Cluster_shrunk : Stmt := inClass (topS 55) 15
theorem sc_Cluster_shrunk : FnScope ["self", "one", "other", "many"] ["self", "one", "other", "many"] (defScope s_Cluster_shrunk) := ⟨rfl, rfl, rfl, by decide +kernel, rfl, by decide +kernel, by decide +kernel⟩
abbrev s_is_legal : Stmt := topS 57
theorem sc_is_legal : FnScope ["cluster", "leads", "one", "other", "have"] ["cluster", "leads", "one", "other"] (defScope s_is_legal) := ⟨rfl, rfl, rfl, by decide +kernel, rfl, by decide +kernel, by decide +kernel⟩
abbrev s_legal : Stmt := topS 58
theorem sc_legal : FnScope ["cluster", "leads", "found", "first", "second", "_", "one", "other"] ["cluster", "leads"] (defScope s_legal) := ⟨rfl, rfl, rfl, by decide +kernel, rfl, by decide +kernel, by decide +kernel⟩
abbrev s_Lbag : Stmt := topS 60
theorem sc_Lbag : FnScope ["_law_script", "_law_cell"] ["_law_script"] (defScope s_Lbag) := ⟨rfl, rfl, rfl, by decide +kernel, rfl, by decide +kernel, by decide +kernel⟩
abbrev s_Ltake : Stmt := topS 61
theorem sc_Ltake : FnScope ["_law_bag_here", "_law_many", "_law_cell", "_law_value", "_law_first", "_law_second"] ["_law_bag_here", "_law_many"] (defScope s_Ltake) := ⟨rfl, rfl, rfl, by decide +kernel, rfl, by decide +kernel, by decide +kernel⟩
abbrev s_Lalike : Stmt := topS 62
theorem sc_Lalike : FnScope ["_law_found", "_law_due"] ["_law_found", "_law_due"] (defScope s_Lalike) := ⟨rfl, rfl, rfl, by decide +kernel, rfl, by decide +kernel, by decide +kernel⟩
abbrev s_Lbundles : Stmt := topS 63
theorem sc_Lbundles : FnScope ["_law_bag_here", "_law_size", "_law_wide", "_law_dense", "_law_found", "_law_first", "_law_second"] ["_law_bag_here", "_law_size", "_law_wide"] (defScope s_Lbundles) := ⟨rfl, rfl, rfl, by decide +kernel, rfl, by decide +kernel, by decide +kernel⟩
abbrev s_Lleads : Stmt := topS 64
theorem sc_Lleads : FnScope ["_law_bag_here", "_law_bundles_here", "_law_kind", "_law_found", "_law_first", "_law_second", "_law_many"] ["_law_bag_here", "_law_bundles_here"] (defScope s_Lleads) := ⟨rfl, rfl, rfl, by decide +kernel, rfl, by decide +kernel, by decide +kernel⟩
abbrev s_Lloads : Stmt := topS 65
theorem sc_Lloads : FnScope ["_law_size", "_law_bundles_here", "_law_leads_here", "_law_found", "_law_first", "_law_second", "_law_many", "_law_here"] ["_law_size", "_law_bundles_here", "_law_leads_here"] (defScope s_Lloads) := ⟨rfl, rfl, rfl, by decide +kernel, rfl, by decide +kernel, by decide +kernel⟩
abbrev s_Lbounds : Stmt := topS 66
theorem sc_Lbounds : FnScope ["_law_bag_here", "_law_held", "_law_mood", "_law_found", "_law_load", "_law_slack", "_law_kind", "_law_down"] ["_law_bag_here", "_law_held"] (defScope s_Lbounds) := ⟨rfl, rfl, rfl, by decide +kernel, rfl, by decide +kernel, by decide +kernel⟩
abbrev s_Lworld : Stmt := topS 67
theorem sc_Lworld : FnScope ["_law_bag_here", "_law_most_brokers", "_law_wide", "_law_size", "_law_bundles_here", "_law_leads_here"] ["_law_bag_here", "_law_most_brokers", "_law_wide"] (defScope s_Lworld) := ⟨rfl, rfl, rfl, by decide +kernel, rfl, by decide +kernel, by decide +kernel⟩
abbrev s_Lcluster : Stmt := topS 68
theorem sc_Lcluster : FnScope ["_law_world_here"] ["_law_world_here"] (defScope s_Lcluster) := ⟨rfl, rfl, rfl, by decide +kernel, rfl, by decide +kernel, by decide +kernel⟩
abbrev s_Ledges : Stmt := topS 69
theorem sc_Ledges : FnScope ["_law_world_here", "_law_bounds_here", "_law_bundles_here", "_law_leads_here", "_law_found", "_law_first", "_law_second", "_law_many", "_law_here"] ["_law_world_here"] (defScope s_Ledges) := ⟨rfl, rfl, rfl, by decide +kernel, rfl, by decide +kernel, by decide +kernel⟩
abbrev s_Labove : Stmt := topS 70
theorem sc_Labove : FnScope ["_law_world_here", "_law_held", "_law_broker"] ["_law_world_here"] (defScope s_Labove) := ⟨rfl, rfl, rfl, by decide +kernel, rfl, by decide +kernel, by decide +kernel⟩
abbrev s_Lbelow : Stmt := topS 71
theorem sc_Lbelow : FnScope ["_law_world_here", "_law_held", "_law_broker"] ["_law_world_here"] (defScope s_Lbelow) := ⟨rfl, rfl, rfl, by decide +kernel, rfl, by decide +kernel, by decide +kernel⟩
abbrev s_Lmoved : Stmt := topS 72
theorem sc_Lmoved : FnScope ["_law_world_here", "_law_one", "_law_other", "_law_bounds_here", "_law_bundles_here", "_law_leads_here", "_law_found", "_law_number"] ["_law_world_here", "_law_one", "_law_other"] (defScope s_Lmoved) := ⟨rfl, rfl, rfl, by decide +kernel, rfl, by decide +kernel, by decide +kernel⟩
abbrev s_Lnumber_of : Stmt := topS 73
theorem sc_Lnumber_of : FnScope ["_law_bundles_here", "_law_one", "_law_other", "_law_found", "_law_k"] ["_law_bundles_here", "_law_one", "_law_other"] (defScope s_Lnumber_of) := ⟨rfl, rfl, rfl, by decide +kernel, rfl, by decide +kernel, by decide +kernel⟩
abbrev s_Lled : Stmt := topS 74
theorem sc_Lled : FnScope ["_law_world_here", "_law_one", "_law_other", "_law_at"] ["_law_world_here", "_law_one", "_law_other"] (defScope s_Lled) := ⟨rfl, rfl, rfl, by decide +kernel, rfl, by decide +kernel, by decide +kernel⟩
abbrev s_Lturned_ring : Stmt := topS 75
theorem sc_Lturned_ring : FnScope ["_law_bag_here", "_law_world_here", "_law_size", "_law_k", "_law_one", "_law_other", "_law_third", "_law_pairs", "_law_here", "_law_pair"] ["_law_bag_here", "_law_world_here"] (defScope s_Lturned_ring) := ⟨rfl, rfl, rfl, by decide +kernel, rfl, by decide +kernel, by decide +kernel⟩
abbrev s_Ltwins : Stmt := topS 76
theorem sc_Ltwins : FnScope ["_law_bag_here", "_law_most_brokers", "_law_wide", "_law_world_here", "_law_bounds_here", "_law_bundles_here", "_law_leads_here", "_law_other", "_law_held", "_law_there", "_law_found", "_law_one", "_law_two"] ["_law_bag_here", "_law_most_brokers", "_law_wide"] (defScope s_Ltwins) := ⟨rfl, rfl, rfl, by decide +kernel, rfl, by decide +kernel, by decide +kernel⟩
abbrev s_Lspread : Stmt := topS 77
theorem sc_Lspread : FnScope ["_law_edges_here", "_law_begins", "_law_found", "_law_at", "_law_one", "_law_other"] ["_law_edges_here", "_law_begins"] (defScope s_Lspread) := ⟨rfl, rfl, rfl, by decide +kernel, rfl, by decide +kernel, by decide +kernel⟩
abbrev s_Lback_edges : Stmt := topS 78
theorem sc_Lback_edges : FnScope ["_law_edges_here", "_law_one", "_law_other"] ["_law_edges_here"] (defScope s_Lback_edges) := ⟨rfl, rfl, rfl, by decide +kernel, rfl, by decide +kernel, by decide +kernel⟩
abbrev s_Lfree : Stmt := topS 79
theorem sc_Lfree : FnScope ["_law_world_here", "_law_broker"] ["_law_world_here"] (defScope s_Lfree) := ⟨rfl, rfl, rfl, by decide +kernel, rfl, by decide +kernel, by decide +kernel⟩
abbrev s_Lfirst_ways : Stmt := topS 80
theorem sc_Lfirst_ways : FnScope ["_law_edges_here", "_law_source", "_law_found", "_law_level", "_law_wider", "_law_row", "_law_one", "_law_other"] ["_law_edges_here", "_law_source"] (defScope s_Lfirst_ways) := ⟨rfl, rfl, rfl, by decide +kernel, rfl, by decide +kernel, by decide +kernel⟩
abbrev s_Lis_low : Stmt := topS 81
theorem sc_Lis_low : FnScope ["_law_world_here", "_law_members", "_law_giving", "_law_into", "_law_broker", "_law_pair"] ["_law_world_here", "_law_members"] (defScope s_Lis_low) := ⟨rfl, rfl, rfl, by decide +kernel, rfl, by decide +kernel, by decide +kernel⟩
abbrev s_Lis_high : Stmt := topS 82
theorem sc_Lis_high : FnScope ["_law_world_here", "_law_members", "_law_taking", "_law_away", "_law_broker", "_law_pair"] ["_law_world_here", "_law_members"] (defScope s_Lis_high) := ⟨rfl, rfl, rfl, by decide +kernel, rfl, by decide +kernel, by decide +kernel⟩
abbrev s_Llow : Stmt := topS 83
theorem sc_Llow : FnScope ["_law_world_here", "_law_found", "_law_broker"] ["_law_world_here"] (defScope s_Llow) := ⟨rfl, rfl, rfl, by decide +kernel, rfl, by decide +kernel, by decide +kernel⟩
abbrev s_Lhigh : Stmt := topS 84
theorem sc_Lhigh : FnScope ["_law_world_here", "_law_found", "_law_broker"] ["_law_world_here"] (defScope s_Lhigh) := ⟨rfl, rfl, rfl, by decide +kernel, rfl, by decide +kernel, by decide +kernel⟩
abbrev s_Lfrozen : Stmt := topS 85
theorem sc_Lfrozen : FnScope ["_law_world_here", "_law_free_here", "_law_still", "_law_found", "_law_number", "_law_pair", "_law_broker"] ["_law_world_here"] (defScope s_Lfrozen) := ⟨rfl, rfl, rfl, by decide +kernel, rfl, by decide +kernel, by decide +kernel⟩
abbrev s_Lbar : Stmt := topS 86
theorem sc_Lbar : FnScope ["_law_world_here", "_law_number", "_law_broker", "_law_word", "_law_members"] ["_law_world_here", "_law_number"] (defScope s_Lbar) := ⟨rfl, rfl, rfl, by decide +kernel, rfl, by decide +kernel, by decide +kernel⟩
abbrev s_Lsteps : Stmt := topS 87
theorem sc_Lsteps : FnScope ["_law_world_here", "_law_above_here", "_law_below_here", "_law_edge"] ["_law_world_here"] (defScope s_Lsteps) := ⟨rfl, rfl, rfl, by decide +kernel, rfl, by decide +kernel, by decide +kernel⟩
abbrev s_Lis_bar : Stmt := topS 88
theorem sc_Lis_bar : FnScope ["_law_world_here", "_law_number", "_law_thing", "_law_word", "_law_part", "_law_is_there", "_law_broker"] ["_law_world_here", "_law_number", "_law_thing"] (defScope s_Lis_bar) := ⟨rfl, rfl, rfl, by decide +kernel, rfl, by decide +kernel, by decide +kernel⟩
abbrev s_Lof_brokers : Stmt := topS 89
theorem sc_Lof_brokers : FnScope ["_law_bag_here", "_law_world_here", "_law_cluster_here", "_law_way", "_law_size", "_law_edges_here", "_law_free_here", "_law_one", "_law_other", "_law_begins", "_law_told", "_law_ways", "_law_broker"] ["_law_bag_here", "_law_world_here", "_law_cluster_here", "_law_way"] (defScope s_Lof_brokers) := ⟨rfl, rfl, rfl, by decide +kernel, rfl, by decide +kernel, by decide +kernel⟩
abbrev s_Lof_bundles : Stmt := topS 90
theorem sc_Lof_bundles : FnScope ["_law_bag_here", "_law_worlds", "_law_at", "_law_cluster_here", "_law_way", "_law_world_here", "_law_number", "_law_thing", "_law_told"] ["_law_bag_here", "_law_worlds", "_law_at", "_law_cluster_here", "_law_way"] (defScope s_Lof_bundles) := ⟨rfl, rfl, rfl, by decide +kernel, rfl, by decide +kernel, by decide +kernel⟩
abbrev s_Lasked : Stmt := topS 91
theorem sc_Lasked : FnScope ["_law_bag_here", "_law_worlds", "_law_at", "_law_cluster_here", "_law_world_here", "_law_way"] ["_law_bag_here", "_law_worlds", "_law_at", "_law_cluster_here"] (defScope s_Lasked) := ⟨rfl, rfl, rfl, by decide +kernel, rfl, by decide +kernel, by decide +kernel⟩
abbrev s_law : Stmt := topS 92
theorem sc_law : FnScope ["_law_script", "_law_bag_here", "_law_k", "_law_world_here", "_law_other", "_law_cluster_here", "_law_kept", "_law_worlds", "_law_turn", "_law_told", "_law_due", "_law_shown", "_law_elder"] ["_law_script"] (defScope s_law) := ⟨rfl, rfl, rfl, by decide +kernel, rfl, by decide +kernel, by decide +kernel⟩

structure Cs (mg : Str → Option Value) (t0 t1 t2 t3 t4 : Tok) : Prop where
  MOST_AMOUNT : mg "MOST_AMOUNT" = some (.int (10 ^ 30) t0)
  MOST_COUNT : mg "MOST_COUNT" = some (.int (10 ^ 18) t1)
  LEAST_SIZE : mg "LEAST_SIZE" = some (.int 2 t2)
  MOST_SIZE : mg "MOST_SIZE" = some (.int 10 t3)
  MOST_BUNDLES : mg "MOST_BUNDLES" = some (.int 45 t4)
theorem cs_mk {K : PySem.W.Frag} {h : Heap} {mg : Str → Option Value} {t0 t1 t2 t3 t4 : Tok} (X : K.In h) (G : h.Ns mainGlobals mg)
    (z0 : PySem.W.nsIn K mainGlobals "MOST_AMOUNT" = some (some (.int (10 ^ 30) t0)))
    (z1 : PySem.W.nsIn K mainGlobals "MOST_COUNT" = some (some (.int (10 ^ 18) t1)))
    (z2 : PySem.W.nsIn K mainGlobals "LEAST_SIZE" = some (some (.int 2 t2)))
    (z3 : PySem.W.nsIn K mainGlobals "MOST_SIZE" = some (some (.int 10 t3)))
    (z4 : PySem.W.nsIn K mainGlobals "MOST_BUNDLES" = some (some (.int 45 t4))) : Cs mg t0 t1 t2 t3 t4 :=
  ⟨PySem.W.mg_of X G z0, PySem.W.mg_of X G z1, PySem.W.mg_of X G z2, PySem.W.mg_of X G z3, PySem.W.mg_of X G z4⟩
local macro_rules | `(tactic| walk_at "ne") => `(tactic| first
  | assumption | exact Ne.symm (by assumption) | exact ne_of_none (by walk_at "lk") (by assumption) | exact ne_of_none2 (by assumption) (by walk_at "lk"))
local macro_rules | `(tactic| walk_at "lk") => `(tactic| first
  | assumption
  | exact upd_same
  | (refine' upd_ne2 ?kn ?ke; (case kn => walk_at "ne"); (case ke => walk_at "lk"))
  | (refine' SqL.of ?ke; (case ke => walk_at "lk"))
  | (refine' SqT.of ?ke; (case ke => walk_at "lk")))
local macro_rules | `(tactic| walk_at "y") => `(tactic| first
  | (with_reducible first
    | refine x_seq ?_ | refine x_asg ?_ | refine x_name ?_ | refine x_op ?_ | refine x_c ?_
    | refine x_I0 ?_ | refine x_cons ?_ | refine x_nil ?_ | refine x_cb ?_ | refine x_call ?_ | refine x_ret ?_ | refine x_retN ?_
    | refine x_ifS ?_ | refine x_test ?_ | refine x_B ?_ | refine x_bl ?_ | refine x_eqI ?_ | refine x_neI ?_ | refine x_drop ?_ | refine x_next ?_
    | refine x_and ?_ | refine x_or ?_ | refine x_not ?_ | refine x_notV ?_ | refine x_if ?_ | refine x_chain ?_
    | refine x_un ?_ | refine x_U ?_ | refine x_iteT ?_ | refine x_iteF ?_ | refine x_iteNT ?_ | refine x_iteNF ?_ | refine x_yes ?_
    | refine x_augS ?_ | refine x_ipI ?_ | refine x_gsub ?_ | refine x_par ?_ | refine x_par2 ?_ | refine x_lst ?_ | refine x_tup ?_ | refine x_break ?_ | refine x_cont ?_
    | refine x_rev ?_ | refine x_dnew ?_ | refine x_disp ?_ | refine x_eqS ?_ | refine x_neS ?_ | refine x_isI ?_ | refine x_sl ?_ | refine x_noPart ?_ | refine x_part ?_ | refine x_for ?_ | refine x_iL ?_ | refine x_iT ?_ | refine x_r1 ?_ | refine x_r2 ?_ | refine x_lc ?_ | refine x_setC ?_ | refine x_gcons ?_ | refine x_gnil ?_ | refine x_revT ?_ | refine x_bm ?_ | refine x_sFld ?_ | refine x_tFld ?_ | refine x_meth ?_ | refine x_make ?_ | refine x_dcT ?_ | refine x_en ?_ | refine x_zM ?_ | refine x_zL ?_ | refine x_zX ?_ | refine x_orT ?_ | refine x_isB ?_ | refine x_zU ?_ | refine x_dget ?_ | refine x_din ?_ | refine x_dnotin ?_ | refine x_dc ?_)
  | ((with_reducible refine' x_zLAt ?kp ?kq ?kh); (case kp => walk_at "lk"); (case kq => walk_at "lk"))
  | ((with_reducible refine' x_zUAt ?kp ?kq ?kh); (case kp => walk_at "lk"); (case kq => walk_at "lk"))
  | ((with_reducible refine' x_enL ?kp ?kh); (case kp => walk_at "lk"))
  | ((with_reducible refine' x_zAt ?kp ?kq ?kh); (case kp => walk_at "lk"); (case kq => walk_at "lk"))
  | ((with_reducible refine' x_tyL ?kp ?kh); (case kp => walk_at "lk"))
  | ((with_reducible refine' x_gtup ?kp ?kl ?kh); (case kp => walk_at "lk"); (case kl => rfl))
  | ((with_reducible refine' x_var ?ke ?kh); (case ke => rfl))
  | ((with_reducible refine' x_ixL ?kp ?ke ?kh); (case kp => walk_at "lk"); (case ke => rfl))
  | ((with_reducible refine' x_ixT ?kp ?ke ?kh); (case kp => walk_at "lk"); (case ke => rfl))
  | ((with_reducible refine' x_getL ?kp ?ki ?ke ?kh); (case kp => walk_at "lk"); (case ki => rfl); (case ke => rfl))
  | ((with_reducible refine' x_setL ?kp ?ke ?kh); (case kp => walk_at "lk"); (case ke => rfl))
  | ((with_reducible refine' x_len ?kp ?kh); (case kp => walk_at "lk"))
  | ((with_reducible refine' x_lenT ?kp ?kh); (case kp => walk_at "lk"))
  | ((with_reducible refine' x_all ?kp ?kh); (case kp => walk_at "lk"))
  | ((with_reducible refine' x_slL ?kp ?kh); (case kp => walk_at "lk"))
  | ((with_reducible refine' x_cat ?kp ?kq ?kz ?kh); (case kp => walk_at "lk"); (case kq => walk_at "lk"); (case kz => walk_at "sz"))
  | ((with_reducible refine' x_toTup ?kp ?kh); (case kp => walk_at "lk"))
  | ((with_reducible refine' x_lp ?kp ?kh); (case kp => walk_at "lk"))
  | ((with_reducible refine' x_tp ?kp ?kh); (case kp => walk_at "lk"))
  | ((with_reducible refine' x_rg ?kp ?kq ?kh); (case kp => walk_at "ar"); (case kq => walk_at "ar"))
  | ((with_reducible refine' x_rg2 ?kp ?kh); (case kp => walk_at "ar"))
  | (with_reducible refine x_int1 ?_)
  | (with_reducible refine x_int2 ?_)
  | ((with_reducible refine' x_isD ?kp ?kq ?kh); (case kp => walk_at "dn"); (case kq => simp))
  | ((with_reducible refine' x_new ?kp ?kh); (case kp => exact Nat.le_of_ble_eq_true rfl))
  | ((with_reducible refine' x_mod ?kp ?kh); (case kp => decide))
  | ((with_reducible refine' x_mul ?kp ?kh); (case kp => walk_at "mulok"))
  | ((with_reducible refine' x_pow ?kp ?kh); (case kp => exact ⟨by decide, by decide, by decide⟩)))
local macro_rules | `(tactic| walk_at "ar") => `(tactic| first | decide | omega | (refine ⟨?_, ?_, ?_, ?_⟩ <;> (first | decide | omega)))
local macro_rules | `(tactic| walk_at "dn") => `(tactic| assumption)
local macro_rules | `(tactic| walk_at "mulok") => `(tactic| first | (exact .inl ⟨by omega, by omega⟩) | (exact .inr ⟨by omega, by omega⟩))
local macro_rules | `(tactic| walk_at "sz") => `(tactic| first | decide | (simp only [List.length_append, List.length_cons, List.length_nil, List.length_map, List.length_singleton, sizeLine_eq]; omega))
local macro_rules | `(tactic| walk_at "x") => `(tactic| first | walk_at "y" | (with_reducible refine x_andV ?_) | (with_reducible refine x_orV ?_))
local macro_rules | `(tactic| walk_at "ys") => `(tactic| repeat walk_at "y")
local macro_rules | `(tactic| walk_at "xs") => `(tactic| repeat walk_at "x")


/-- the drawn bag -/
def Bag (H : Hp) (b c : Addr) : Prop := ∃ (x y : Int) (k : Nat) (cs : List Int), H b = some (.lst [.int x, .int y, .int k, .ref c]) ∧ H c = some (.lst (cs.map V.int)) ∧
  0 ≤ x ∧ 0 ≤ y ∧ y < 2147483647 ∧ (∀ z ∈ cs, 0 ≤ z) ∧ c ≠ b
def spTake : Sp := fun vs H Q _ => ∃ b c n, vs = [.ref b, .int n] ∧ Bag H b c ∧ 0 < n ∧ n.natAbs < 2 ^ 200 ∧
  ∀ H' v, Ext [b] H H' → Bag H' b c → 0 ≤ v → v < n → Q (.int v) H'

structure Bl (mg : Str → Option Value) : Prop where
  isinstance : mg "isinstance" = none
  «int» : mg "int" = none
  «bool» : mg "bool" = none
  «list» : mg "list" = none
  «tuple» : mg "tuple" = none
  «str» : mg "str" = none
  len : mg "len" = none
  abs : mg "abs" = none
  range : mg "range" = none
  repr : mg "repr" = none
  all : mg "all" = none
  max : mg "max" = none
  min : mg "min" = none
  sum : mg "sum" = none
  zip : mg "zip" = none
  enumerate : mg "enumerate" = none
  sorted : mg "sorted" = none
  any : mg "any" = none
  set : mg "set" = none
  ValueError : mg "ValueError" = none
theorem bl_mk {K : PySem.W.Frag} {h : Heap} {mg : Str → Option Value} (X : K.In h) (G : h.Ns mainGlobals mg)
    (z0 : PySem.W.nsIn K mainGlobals "isinstance" = some none)
    (z1 : PySem.W.nsIn K mainGlobals "int" = some none)
    (z2 : PySem.W.nsIn K mainGlobals "bool" = some none)
    (z3 : PySem.W.nsIn K mainGlobals "list" = some none)
    (z4 : PySem.W.nsIn K mainGlobals "tuple" = some none)
    (z5 : PySem.W.nsIn K mainGlobals "str" = some none)
    (z6 : PySem.W.nsIn K mainGlobals "len" = some none)
    (z7 : PySem.W.nsIn K mainGlobals "abs" = some none)
    (z8 : PySem.W.nsIn K mainGlobals "range" = some none)
    (z9 : PySem.W.nsIn K mainGlobals "repr" = some none)
    (z10 : PySem.W.nsIn K mainGlobals "all" = some none)
    (z11 : PySem.W.nsIn K mainGlobals "max" = some none)
    (z12 : PySem.W.nsIn K mainGlobals "min" = some none)
    (z13 : PySem.W.nsIn K mainGlobals "sum" = some none)
    (z14 : PySem.W.nsIn K mainGlobals "zip" = some none)
    (z15 : PySem.W.nsIn K mainGlobals "enumerate" = some none)
    (z16 : PySem.W.nsIn K mainGlobals "sorted" = some none)
    (z17 : PySem.W.nsIn K mainGlobals "any" = some none)
    (z18 : PySem.W.nsIn K mainGlobals "set" = some none)
    (z19 : PySem.W.nsIn K mainGlobals "ValueError" = some none) : Bl mg :=
  ⟨PySem.W.mg_none_of X G z0, PySem.W.mg_none_of X G z1, PySem.W.mg_none_of X G z2, PySem.W.mg_none_of X G z3, PySem.W.mg_none_of X G z4, PySem.W.mg_none_of X G z5, PySem.W.mg_none_of X G z6, PySem.W.mg_none_of X G z7, PySem.W.mg_none_of X G z8, PySem.W.mg_none_of X G z9, PySem.W.mg_none_of X G z10, PySem.W.mg_none_of X G z11, PySem.W.mg_none_of X G z12, PySem.W.mg_none_of X G z13, PySem.W.mg_none_of X G z14, PySem.W.mg_none_of X G z15, PySem.W.mg_none_of X G z16, PySem.W.mg_none_of X G z17, PySem.W.mg_none_of X G z18, PySem.W.mg_none_of X G z19⟩
section
variable {P : Program} {w : World} {K : PySem.W.Frag} {mg : Str → Option Value} {base : Heap} {t0 t1 t2 t3 t4 : Tok}
theorem kn_take {k : Nat} (D : Df K mg "_law_take" s_Ltake) (B : Bl mg) : Kn P w K mg base "_law_take" (k + 1) spTake := by
  refine kn_of D (fun _ _ _ _ _ _ us hl => match us, hl with | [_, _], _ => rfl) sc_Ltake (fun vs H Q E h => by obtain ⟨b, c, n, rfl, _⟩ := h; rfl) (fun f cd B' fr z H vs Q E hr gd h => ?_)
  obtain ⟨b, c, n, rfl, ⟨x, y, k, cs, hb, hc, hx, hy, hy2, hcs, ncb⟩, hn, hn2, q⟩ := h
  refine ⟨_, (pss_cut (ps_if (pt_cmpR op_eq (pe_ix (r := rIxL K) ix_list (pv 0) pe_int (fun _ _ => rfl)) pe_int (nomark _)) (pss_cons (ps_set (i := 2) sc_Ltake.nd rfl (.inl rfl) pe_int)
  (pss_cut (ps_if (pt_cmpR op_lt (pe_ix (r := rIxL K) ix_list (pv 0) pe_int (fun _ _ => rfl)) (pe_callB call_len_seq (by rfl) B.len (by decide +kernel) (pa_cons (pe_ix (r := rIxL K) ix_list (pv 0) pe_int (fun _ _ => rfl)) pa_nil)) (nomark _)) (pss_one (ps_set (i := 2) sc_Ltake.nd rfl (.inl rfl) (pe_ix (r := rIxL K) ix_list (pe_ix (r := rIxL K) ix_list (pv 0) pe_int (fun _ _ => rfl)) (pe_ix (r := rIxL K) ix_list (pv 0) pe_int (fun _ _ => rfl)) (fun _ _ => rfl)))) pss_nil)
  (pss_cons (ps_augS (pv 0) pe_int get_list pe_int ip_add set_list)
  (pss_cut (ps_if (pt_cmpR op_ge (pv 2) pe_int (nomark _)) (pss_one (ps_asg (pv 2) (pg_sub (pv 0) pe_int set_list))) pss_nil)
  (pss_one (ps_asg (pe_op op_mod (pe_op op_add (pe_op op_add (pe_op op_mul (pe_ix (r := rIxL K) ix_list (pv 0) pe_int (fun _ _ => rfl)) pe_int) (pe_op op_mod (pv 2) pe_int)) (pe_op op_mul pe_int (pe_ix (r := rIxL K) ix_list (pv 0) pe_int (fun _ _ => rfl)))) pe_int) (pg_sub (pv 0) pe_int set_list))))))) pss_nil)
  (pss_cons (ps_if (pt_cmpR op_gt (pe_ix (r := rIxL K) ix_list (pv 0) pe_int (fun _ _ => rfl)) pe_int (nomark _)) (pss_cons (ps_set (i := 3) sc_Ltake.nd rfl (.inl rfl) (pe_op op_mod (pe_ix (r := rIxL K) ix_list (pv 0) pe_int (fun _ _ => rfl)) (pv 1)))
  (pss_cons (ps_asg (pe_op op_fdivW (pe_ix (r := rIxL K) ix_list (pv 0) pe_int (fun _ _ => rfl)) (pv 1)) (pg_sub (pv 0) pe_int set_list))
  (pss_one (ps_ret (pv 3))))) pss_nil)
  (pss_cons (ps_set (i := 4) sc_Ltake.nd rfl (.inl rfl) (pe_op op_mod (pe_op op_mul (pe_op op_add (pe_ix (r := rIxL K) ix_list (pv 0) pe_int (fun _ _ => rfl)) pe_int) pe_int) pe_int))
  (pss_cons (ps_set (i := 5) sc_Ltake.nd rfl (.inl rfl) (pe_op op_mod (pe_op op_mul (pe_op op_mod (pe_op op_mul (pv 4) (pv 4)) pe_int) pe_int) pe_int))
  (pss_cons (ps_if (pt_cmpR op_gt (pv 1) pe_int (nomark _)) (pss_one (ps_ret (pe_op op_mod (pe_op op_add (pe_op op_mul (pv 5) pe_int) (pv 4)) (pv 1)))) pss_nil)
  (pss_one (ps_ret (pe_op op_mod (pe_op op_fdivW (pv 5) pe_int) (pv 1))))))))), ?_⟩
  refine x_cut (fun σ' H' => ∃ v2, σ' = [some (.ref b), some (.int n), v2, none, none, none] ∧ Ext [b] H H' ∧ Bag H' b c) ?_ ?_
  · walk_at "xs"
    refine x_ite (fun h0 => ?_) (fun h0 => ?_)
    · subst h0
      walk_at "xs"
      refine x_cut (fun σ' H' => ∃ v2 : Int, σ' = [some (.ref b), some (.int n), some (.int v2), none, none, none] ∧ H = H' ∧ 0 ≤ v2) ?_ ?_
      · walk_at "xs"
        refine x_ite (fun h0 => ?_) (fun h0 => ?_)
        · have hk : k < cs.length := by simpa using h0
          walk_at "xs"
          refine x_ixL (SqL.of hc) (atI_nat (v := .int cs[k]) (by rw [List.getElem?_map, List.getElem?_eq_getElem hk]; rfl)) ?_
          walk_at "xs"
          exact ⟨cs[k], rfl, rfl, hcs _ (List.getElem_mem hk)⟩
        · walk_at "xs"
          exact ⟨0, rfl, rfl, Int.le_refl 0⟩
      · rintro _ _ ⟨v, rfl, rfl, hv⟩
        walk_at "xs"
        refine x_cut (fun σ' H' => ∃ x' : Int, 0 ≤ x' ∧ σ' = [some (.ref b), some (.int n), some (.int v), none, none, none] ∧ H' b = some (.lst [.int x', .int y, .int (k + 1 : Nat), .ref c]) ∧ Ext [b] H H') ?_ ?_
        · walk_at "xs"
          refine x_ite (fun h0 => ?_) (fun h0 => ?_)
          · walk_at "xs"
            exact ⟨v, hv, rfl, by rw [upd_same]; rfl, fun a o n e => by rw [upd_ne (by simpa using n), upd_ne (by simpa using n)]; exact e⟩
          · walk_at "xs"
            exact ⟨0, Int.le_refl 0, rfl, by rw [upd_same]; rfl, fun a o n e => by rw [upd_ne (by simpa using n)]; exact e⟩
        · rintro _ H2 ⟨x', hx', rfl, hb2, he⟩
          walk_at "xs"
          refine ⟨_, rfl, fun a o n e => by rw [upd_ne (by simpa using n)]; exact he a o n e, x', _, k + 1, cs, by rw [upd_same]; rfl, ?_, hx', ?_, ?_, hcs, ncb⟩
          · rw [upd_ne ncb]; exact he c _ (by simpa using ncb) hc
          · exact Int.emod_nonneg _ (by decide)
          · exact Int.emod_lt_of_pos _ (by decide)
    · walk_at "xs"
      exact ⟨_, rfl, Ext.refl _ _, x, y, k, cs, hb, hc, hx, hy, hy2, hcs, ncb⟩
  · rintro _ H1 ⟨v2, rfl, he, x, y, k, cs, hb, hc, hx, hy, hy2, hcs, ncb⟩
    walk_at "xs"
    refine x_ite (fun h0 => ?_) (fun h0 => ?_)
    · walk_at "xs"
      refine x_mod hn ?_
      walk_at "xs"
      refine x_div (wide_div hn hn2 (by decide) (by decide)) ?_
      walk_at "xs"
      refine q _ _ (fun a o m e => by rw [upd_ne (by simpa using m)]; exact he a o m e) ⟨_, y, k, cs, upd_same, ?_, Int.ediv_nonneg hx (Int.le_of_lt hn), hy, hy2, hcs, ncb⟩ (Int.emod_nonneg _ (Int.ne_of_gt hn)) (Int.emod_lt_of_pos _ hn)
      rw [upd_ne ncb]; exact hc
    · have e1 := Int.emod_nonneg ((y + 1) * 39373) (show (1000000007 : Int) ≠ 0 by decide)
      have e2 := Int.emod_lt_of_pos ((y + 1) * 39373) (show (0 : Int) < 1000000007 by decide)
      walk_at "xs"
      have e3 := Int.emod_nonneg ((y + 1) * 39373 % 1000000007 * ((y + 1) * 39373 % 1000000007) % 998244353 * 30011) (show (998244353 : Int) ≠ 0 by decide)
      have e4 := Int.emod_lt_of_pos ((y + 1) * 39373 % 1000000007 * ((y + 1) * 39373 % 1000000007) % 998244353 * 30011) (show (0 : Int) < 998244353 by decide)
      refine x_ite (fun h1 => ?_) (fun h1 => ?_)
      · walk_at "xs"
        refine x_mod hn ?_
        exact q _ _ he ⟨x, y, k, cs, hb, hc, hx, hy, hy2, hcs, ncb⟩ (Int.emod_nonneg _ (Int.ne_of_gt hn)) (Int.emod_lt_of_pos _ hn)
      · walk_at "xs"
        refine x_div (wide_div (b := 3) (by decide) (by decide) (by decide) (by decide)) ?_
        walk_at "xs"
        refine x_mod hn ?_
        exact q _ _ he ⟨x, y, k, cs, hb, hc, hx, hy, hy2, hcs, ncb⟩ (Int.emod_nonneg _ (Int.ne_of_gt hn)) (Int.emod_lt_of_pos _ hn)

end

section
variable {P : Program} {w : World} {K : PySem.W.Frag} {mg : Str → Option Value} {base : Heap} {t0 t1 t2 t3 t4 : Tok}
/-! ### the small tests -/
def isIntD : PyData → Bool
  | .int _ => true
  | _ => false
def inD (lo hi : Int) : PyData → Bool
  | .int i => decide (lo ≤ i) && decide (i ≤ hi)
  | _ => false
theorem isInt_eq (d : PyData) : (isT "int" d && !isT "bool" d) = isIntD d := by rw [isT_int, isT_bool]; cases d <;> rfl
/-- a test of one thing that makes nothing -/
def sp1 (g : PyData → Bool) : Sp := fun vs H Q _ => ∃ v d M, vs = [v] ∧ Dn M H v d ∧ Q (.bl (g d)) H
def sp2 (g : PyData → Int → Bool) : Sp := fun vs H Q _ => ∃ v d M n, vs = [v, .int n] ∧ Dn M H v d ∧ Q (.bl (g d n)) H
def sp3 (g : PyData → Int → Int → Bool) : Sp := fun vs H Q _ => ∃ v d M n m, vs = [v, .int n, .int m] ∧ Dn M H v d ∧ Q (.bl (g d n m)) H
theorem x_sp1 {g : PyData → Bool} {v : V} {d : PyData} {M : List Addr} {H : Hp} {Q : VK} {E : XK} (hd : Dn M H v d) (h : Q (.bl (g d)) H) : sp1 g [v] H Q E := ⟨v, d, M, rfl, hd, h⟩
theorem x_sp2 {g : PyData → Int → Bool} {v : V} {d : PyData} {M : List Addr} {n : Int} {H : Hp} {Q : VK} {E : XK} (hd : Dn M H v d) (h : Q (.bl (g d n)) H) : sp2 g [v, .int n] H Q E := ⟨v, d, M, n, rfl, hd, h⟩
theorem x_sp3 {g : PyData → Int → Int → Bool} {v : V} {d : PyData} {M : List Addr} {n m : Int} {H : Hp} {Q : VK} {E : XK} (hd : Dn M H v d) (h : Q (.bl (g d n m)) H) : sp3 g [v, .int n, .int m] H Q E := ⟨v, d, M, n, m, rfl, hd, h⟩
theorem Dn.isInt {M : List Addr} {H : Hp} {v : V} {d : PyData} (h : Dn M H v d) (e : isIntD d = true) : ∃ i, v = .int i ∧ d = .int i := by
  cases h <;> first | exact ⟨_, rfl, rfl⟩ | cases e

theorem kn_is_integer {k : Nat} (D : Df K mg "is_integer" s_is_integer) (B : Bl mg) : Kn P w K mg base "is_integer" (k + 1) (sp1 isIntD) := by
  refine kn_of D (fun _ _ _ _ _ _ us hl => match us, hl with | [_], _ => rfl) sc_is_integer (fun vs H Q E h => by obtain ⟨v, d, M, rfl, _⟩ := h; rfl) (fun f cd B' fr z H vs Q E hr gd h => ?_)
  obtain ⟨v, d, M, rfl, hd, q⟩ := h
  refine ⟨_, (pss_one (ps_ret (pe_and (pe_callB call_isD (by rfl) B.isinstance (by decide +kernel) (pa_cons (pv 0) (pa_cons (pe_bltn (v := .ty "int") (u := .type "int") (by rfl) B.«int» (by decide +kernel) rfl) pa_nil))) (pe_one (pe_not (pe_callB call_isD (by rfl) B.isinstance (by decide +kernel) (pa_cons (pv 0) (pa_cons (pe_bltn (v := .ty "bool") (u := .type "bool") (by rfl) B.«bool» (by decide +kernel) rfl) pa_nil)))))))), ?_⟩
  rw [← isInt_eq] at q
  walk_at "xs"
  refine x_iteB (fun h => ?_) (fun h => ?_)
  · walk_at "xs"
    rw [h] at q; exact q
  · walk_at "xs"
    rw [h] at q; exact q

theorem kn_is_amount {k : Nat} (D : Df K mg "is_amount" s_is_amount) (B : Bl mg) (CS : Cs mg t0 t1 t2 t3 t4) (c_is_integer : Kn P w K mg base "is_integer" k (sp1 isIntD)) : Kn P w K mg base "is_amount" (k + 1) (sp1 (inD 0 (10 ^ 30))) := by
  refine kn_of D (fun _ _ _ _ _ _ us hl => match us, hl with | [_], _ => rfl) sc_is_amount (fun vs H Q E h => by obtain ⟨v, d, M, rfl, _⟩ := h; rfl) (fun f cd B' fr z H vs Q E hr gd h => ?_)
  obtain ⟨v, d, M, rfl, hd, q⟩ := h
  refine ⟨_, (pss_one (ps_ret (pe_and (pe_own c_is_integer hr gd (by rfl) (pa_cons (pv 0) pa_nil)) (pe_one (pe_chain op_le op_le pe_int (pv 0) (pe_glob (v := .int (10 ^ 30)) (by rfl) CS.MOST_AMOUNT ⟨_, rfl⟩)))))), ?_⟩
  walk_at "xs"
  refine x_sp1 hd ?_
  walk_at "xs"
  refine x_iteB (fun h => ?_) (fun h => ?_)
  · obtain ⟨i, rfl, rfl⟩ := hd.isInt h
    walk_at "xs"
    refine x_ite (fun h => ?_) (fun h => ?_)
    · walk_at "xs"
      simpa only [inD, decide_eq_true h, Bool.true_and] using q
    · simpa only [inD, decide_eq_false h, Bool.false_and] using q
  · have e : inD 0 (10 ^ 30) d = false := by cases d <;> first | rfl | cases h
    rw [e] at q; exact q

theorem kn_is_count {k : Nat} (D : Df K mg "is_count" s_is_count) (B : Bl mg) (CS : Cs mg t0 t1 t2 t3 t4) (c_is_integer : Kn P w K mg base "is_integer" k (sp1 isIntD)) : Kn P w K mg base "is_count" (k + 1) (sp1 (inD 1 (10 ^ 18))) := by
  refine kn_of D (fun _ _ _ _ _ _ us hl => match us, hl with | [_], _ => rfl) sc_is_count (fun vs H Q E h => by obtain ⟨v, d, M, rfl, _⟩ := h; rfl) (fun f cd B' fr z H vs Q E hr gd h => ?_)
  obtain ⟨v, d, M, rfl, hd, q⟩ := h
  refine ⟨_, (pss_one (ps_ret (pe_and (pe_own c_is_integer hr gd (by rfl) (pa_cons (pv 0) pa_nil)) (pe_one (pe_chain op_le op_le pe_int (pv 0) (pe_glob (v := .int (10 ^ 18)) (by rfl) CS.MOST_COUNT ⟨_, rfl⟩)))))), ?_⟩
  walk_at "xs"
  refine x_sp1 hd ?_
  walk_at "xs"
  refine x_iteB (fun h => ?_) (fun h => ?_)
  · obtain ⟨i, rfl, rfl⟩ := hd.isInt h
    walk_at "xs"
    refine x_ite (fun h => ?_) (fun h => ?_)
    · walk_at "xs"
      simpa only [inD, decide_eq_true h, Bool.true_and] using q
    · simpa only [inD, decide_eq_false h, Bool.false_and] using q
  · have e : inD 1 (10 ^ 18) d = false := by cases d <;> first | rfl | cases h
    rw [e] at q; exact q
def brokerD (d : PyData) (n : Int) : Bool := match d with
  | .int i => decide (0 ≤ i) && decide (i < n)
  | _ => false
theorem kn_is_broker {k : Nat} (D : Df K mg "is_broker" s_is_broker) (B : Bl mg) (c_is_integer : Kn P w K mg base "is_integer" k (sp1 isIntD)) : Kn P w K mg base "is_broker" (k + 1) (sp2 brokerD) := by
  refine kn_of D (fun _ _ _ _ _ _ us hl => match us, hl with | [_, _], _ => rfl) sc_is_broker (fun vs H Q E h => by obtain ⟨v, d, M, n, rfl, _⟩ := h; rfl) (fun f cd B' fr z H vs Q E hr gd h => ?_)
  obtain ⟨v, d, M, n, rfl, hd, q⟩ := h
  refine ⟨_, (pss_one (ps_ret (pe_and (pe_own c_is_integer hr gd (by rfl) (pa_cons (pv 0) pa_nil)) (pe_one (pe_chain op_le op_lt pe_int (pv 0) (pv 1)))))), ?_⟩
  walk_at "xs"
  refine x_sp1 hd ?_
  walk_at "xs"
  refine x_iteB (fun h => ?_) (fun h => ?_)
  · obtain ⟨i, rfl, rfl⟩ := hd.isInt h
    walk_at "xs"
    refine x_ite (fun h => ?_) (fun h => ?_)
    · walk_at "xs"
      simpa only [brokerD, decide_eq_true h, Bool.true_and] using q
    · simpa only [brokerD, decide_eq_false h, Bool.false_and] using q
  · have e : brokerD d n = false := by cases d <;> first | rfl | cases h
    rw [e] at q; exact q
end

def spBag (K : PySem.W.Frag) : Sp := fun vs H Q _ => ∃ (a : Addr) (ns : List Int), vs = [.ref a] ∧ SqL K H a (ns.map V.int) ∧ ∀ H' b c, Same H H' → H b = none → Bag H' b c → Q (.ref b) H'
def absI (i : Int) : Int := if i < 0 then -i else i
theorem absI_nn (i : Int) : 0 ≤ absI i := by unfold absI; split <;> omega
theorem cut_map (ns : List Int) (lo hi : Option Int) : ∃ ms : List Int, cutV (ns.map V.int) lo hi = ms.map V.int := by
  unfold cutV
  rw [← List.map_drop, ← List.map_take]
  exact ⟨_, rfl⟩
section
variable {P : Program} {w : World} {K : PySem.W.Frag} {mg : Str → Option Value} {base : Heap} {t0 t1 t2 t3 t4 : Tok}
theorem kn_bag {k : Nat} (D : Df K mg "_law_bag" s_Lbag) (B : Bl mg) : Kn P w K mg base "_law_bag" (k + 1) (spBag K) := by
  refine kn_of D (fun _ _ _ _ _ _ us hl => match us, hl with | [_], _ => rfl) sc_Lbag (fun vs H Q E h => by obtain ⟨a, ns, rfl, _⟩ := h; rfl) (fun f cd B' fr z H vs Q E hr gd h => ?_)
  obtain ⟨a, ns, rfl, ha, q⟩ := h
  refine ⟨_, (pss_one (ps_ret (pe_lst (pa_cons pe_int (pa_cons pe_int (pa_cons pe_int (pa_cons (pe_lc (own := [("_law_cell", 1)]) rfl sc_Lbag.nd (pi_list (pe_slice (r := rSlL K) sl_list (pv 0) po_none (po_some pe_int))) (blkOk_by (N := ["_law_script", "_law_cell"]) (sc := defScope s_Lbag) (by decide +kernel)) (fun _ _ _ _ _ => (pg_name (i := 1) sc_Lbag.nd rfl (.inl rfl))) (fun _ _ _ _ _ => pts_nil) (fun _ _ _ _ _ => (pe_callB call_abs (by rfl) B.abs (by decide +kernel) (pa_cons (pv 1) pa_nil)))) pa_nil))))))), ?_⟩
  walk_at "xs"
  intro p hp
  obtain ⟨ms, em⟩ := cut_map ns none (some 63)
  rw [em]
  have S1 : Same H (upd H p (.lst (ms.map V.int))) := same_upd hp
  walk_at "xs"
  intro L hL
  have hpL := upd_same (H := H) (a := p) (o := .lst (ms.map V.int))
  refine lc_list (K := K) (xs := ms.map V.int) (fun i H' => H' = upd (upd H p (.lst (ms.map V.int))) L (.lst (((ms.take i).map absI).map V.int))) rfl ?_ ?_ ?_
  · rintro i _ _ rfl
    exact SqL.of (by rw [upd_ne (ne_of_none hpL hL)]; exact hpL)
  · rintro i x _ hx rfl
    obtain ⟨m, hm, rfl⟩ : ∃ m, ms[i]? = some m ∧ V.int m = x := by
      rw [List.getElem?_map] at hx
      cases e : ms[i]? with
      | none => rw [e] at hx; cases hx
      | some m => rw [e] at hx; exact ⟨m, rfl, Option.some.inj hx⟩
    walk_at "xs"
    refine x_wiped rfl ?_
    walk_at "xs"
    refine x_acc upd_same ?_ ?_
    · have h1 : i < ms.length := (List.getElem?_eq_some_iff.mp hm).1
      have h2 : (cutV (ns.map V.int) none (some 63)).length ≤ 63 := by
        unfold cutV
        rw [List.length_take, HT.sIx_none]
        have := HT.sIx_nat (ns.map V.int).length (ns.map V.int).length 63
        have e63 : ((63 : Nat) : Int) = 63 := rfl
        rw [e63] at this
        rw [this]; omega
      rw [em, List.length_map] at h2
      rw [List.length_map, List.length_map, List.length_take, sizeLine_eq]; omega
    · show upd _ L _ = _
      rw [upd_upd]
      congr 2
      rw [List.take_add_one, hm, List.map_append, List.map_append]
      rfl
  · rintro _ rfl
    walk_at "xs"
    intro b hb
    refine q _ b L (S1.trans ((same_upd hL).trans (same_upd hb))) ?_ ?_
    · exact S1.free ((same_upd hL).free hb)
    · refine ⟨0, 1234567891, 0, (ms.take (ms.map V.int).length).map absI, upd_same, ?_, by decide, by decide, by decide, ?_, ?_⟩
      · rw [upd_ne (ne_of_none upd_same hb)]; exact upd_same
      · intro z hz
        obtain ⟨y, _, rfl⟩ := List.mem_map.mp hz
        exact absI_nn y
      · exact ne_of_none upd_same hb

end

section
variable {P : Program} {w : World} {K : PySem.W.Frag} {mg : Str → Option Value} {base : Heap} {t0 t1 t2 t3 t4 : Tok}
/-- equal lists show alike -/
def spAlike : Sp := fun vs H Q _ => ∃ x y d M, vs = [x, y] ∧ Dn M H x d ∧ Dn M H y d ∧ SeqAt.shaped d = true ∧ Shows d ∧ Q (.bl true) H
theorem x_alike {x y : V} {d : PyData} {M : List Addr} {H : Hp} {Q : VK} {E : XK} (hx : Dn M H x d) (hy : Dn M H y d) (s : SeqAt.shaped d = true) (t : Shows d) (h : Q (.bl true) H) : spAlike [x, y] H Q E := ⟨x, y, d, M, rfl, hx, hy, s, t, h⟩
theorem kn_alike {k : Nat} (D : Df K mg "_law_alike" s_Lalike) (B : Bl mg) (sys : ∃ o, base.get? sysModules = some o) : Kn P w K mg base "_law_alike" (k + 1) spAlike := by
  refine kn_of D (fun _ _ _ _ _ _ us hl => match us, hl with | [_, _], _ => rfl) sc_Lalike (fun vs H Q E h => by obtain ⟨x, y, d, M, rfl, _⟩ := h; rfl) (fun f cd B' fr z H vs Q E hr gd h => ?_)
  obtain ⟨x, y, d, M, rfl, hx, hy, sh, sw, q⟩ := h
  refine ⟨_, (pss_one (ps_ret (pe_and (pe_cmpR (op_eqD hr.units) (pv 0) (pv 1) (nomark _)) (pe_one (pe_cmpR op_eq (pe_callB (call_reprD gd hr.units sys) (by rfl) B.repr (by decide +kernel) (pa_cons (pv 0) pa_nil)) (pe_callB (call_reprD gd hr.units sys) (by rfl) B.repr (by decide +kernel) (pa_cons (pv 1) pa_nil)) (nomark _)))))), ?_⟩
  walk_at "xs"
  refine x_eqSame hx hy sh ?_
  walk_at "xs"
  refine x_repr hx sw ?_
  walk_at "xs"
  refine x_repr hy sw ?_
  walk_at "xs"
  simpa using q

end


def fewD (d : PyData) : Prop := ∀ ds, d = .list ds → ds.length ≤ 5000
theorem DnAll.toInts {M : List Addr} {H : Hp} : ∀ {ms : List Int} {xs : List V}, DnAll M H xs (ms.map PyData.int) → xs = ms.map V.int
  | [], _, .nil => rfl
  | _ :: _, _, .cons (.int _) r => by rw [List.map_cons, ← DnAll.toInts r]
theorem eqv_nil (l : List PyData) : PyData.eqv (.list l) (.list []) = decide (l = []) := by
  cases l with
  | nil => simp [PyData.eqv, PyData.eqvAll]
  | cons a r => simp [PyData.eqv, PyData.eqvAll]

theorem x_take {H : Hp} {Q : VK} {E : XK} {b c : Addr} {n : Int} (hb : Bag H b c) (h0 : 0 < n) (h1 : n.natAbs < 2 ^ 200) (h : ∀ H' v, Ext [b] H H' → Bag H' b c → 0 ≤ v → v < n → Q (.int v) H') : spTake [.ref b, .int n] H Q E := ⟨b, c, n, rfl, hb, h0, h1, h⟩
theorem Bag.ext {H H' : Hp} {b c : Addr} (h : Bag H b c) (e : Same H H') : Bag H' b c := by
  obtain ⟨x, y, k, cs, h1, h2, h3⟩ := h
  exact ⟨x, y, k, cs, e _ _ h1, e _ _ h2, h3⟩
theorem Bag.at {H : Hp} {b c : Addr} (h : Bag H b c) : ∃ o, H b = some o := by
  obtain ⟨x, y, k, cs, h1, _⟩ := h
  exact ⟨_, h1⟩

structure Cb (H0 : Hp) (b c f : Addr) (xs : List V) (H : Hp) : Prop where
  e : Ext [b] H0 H
  bag : Bag H b c
  fd : H f = some (.lst xs)
  ne : f ∉ [b]
theorem Cb.new {H0 H : Hp} {b c f p : Addr} {xs : List V} (u : HO) (cb : Cb H0 b c f xs H) (hp : H p = none) : Cb H0 b c f xs (upd H p u) ∧ p ∉ [b] ∧ upd H p u p = some u := by
  obtain ⟨ob, hob⟩ := cb.bag.at
  exact ⟨⟨cb.e.trans (Ext.same (same_upd hp)), cb.bag.ext (same_upd hp), same_upd hp _ _ cb.fd, cb.ne⟩, new_out (Same.refl H) hob hp, upd_same⟩
theorem Cb.step {H0 H H' : Hp} {b c f : Addr} {xs : List V} (cb : Cb H0 b c f xs H) (E : Ext [b] H H') (B : Bag H' b c) : Cb H0 b c f xs H' := ⟨cb.e.trans E, B, E _ _ cb.ne cb.fd, cb.ne⟩

/-! ### one row -/
def ltD : PyData → PyData → Bool
  | .int a, .int b => decide (a < b)
  | _, _ => false
def boundD : PyData → Bool
  | .tuple [x, y] => inD 0 (10 ^ 30) x && (match x with | .int i => inD i (10 ^ 30) y | _ => false)
  | _ => false
def bundleD (d : PyData) (n : Int) : Bool := match d with
  | .tuple [x, y, z] => inD 1 (10 ^ 18) z && (brokerD x n && (brokerD y n && ltD x y))
  | _ => false
theorem DnAll.two {M : List Addr} {H : Hp} {xs : List V} {ds : List PyData} (h : DnAll M H xs ds) (l : xs.length = 2) : ∃ x y a b, xs = [x, y] ∧ ds = [a, b] ∧ Dn M H x a ∧ Dn M H y b := by
  cases h with
  | nil => simp at l
  | cons h1 h =>
    cases h with
    | nil => simp at l
    | cons h2 h =>
      cases h with
      | nil => exact ⟨_, _, _, _, rfl, rfl, h1, h2⟩
      | cons h3 h => simp at l
theorem DnAll.three {M : List Addr} {H : Hp} {xs : List V} {ds : List PyData} (h : DnAll M H xs ds) (l : xs.length = 3) : ∃ x y z a b c, xs = [x, y, z] ∧ ds = [a, b, c] ∧ Dn M H x a ∧ Dn M H y b ∧ Dn M H z c := by
  cases h with
  | nil => simp at l
  | cons h1 h =>
    obtain ⟨x, y, a, b, rfl, rfl, h2, h3⟩ := h.two (by simpa using l)
    exact ⟨_, _, _, _, _, _, rfl, rfl, h1, h2, h3⟩
theorem bound_len {ds : List PyData} (h : ds.length ≠ 2) : boundD (.tuple ds) = false := by
  match ds, h with
  | [], _ => rfl
  | [_], _ => rfl
  | [_, _], h => exact absurd rfl h
  | _ :: _ :: _ :: _, _ => rfl
theorem bundle_len {ds : List PyData} {n : Int} (h : ds.length ≠ 3) : bundleD (.tuple ds) n = false := by
  match ds, h with
  | [], _ => rfl
  | [_], _ => rfl
  | [_, _], _ => rfl
  | [_, _, _], h => exact absurd rfl h
  | _ :: _ :: _ :: _ :: _, _ => rfl
theorem brokerD_int {d : PyData} {n : Int} (h : brokerD d n = true) : ∃ i, d = .int i := by
  cases d <;> first | exact ⟨_, rfl⟩ | cases h
theorem inD_int {d : PyData} {a b : Int} (h : inD a b d = true) : ∃ i, d = .int i := by
  cases d <;> first | exact ⟨_, rfl⟩ | cases h
theorem Dn.int' {M : List Addr} {H : Hp} {v : V} {i : Int} (h : Dn M H v (.int i)) : v = .int i := by
  cases h; rfl
section
variable {P : Program} {w : World} {K : PySem.W.Frag} {mg : Str → Option Value} {base : Heap} {t0 t1 t2 t3 t4 : Tok}
theorem kn__is_bound {k : Nat} (D : Df K mg "_is_bound" s__is_bound) (B : Bl mg) (c_is_amount : Kn P w K mg base "is_amount" k (sp1 (inD 0 (10 ^ 30)))) : Kn P w K mg base "_is_bound" (k + 1) (sp1 boundD) := by
  refine kn_of D (fun _ _ _ _ _ _ us hl => match us, hl with | [_], _ => rfl) sc__is_bound (fun vs H Q E h => by obtain ⟨v, d, M, rfl, _⟩ := h; rfl) (fun f cd B' fr z H vs Q E hr gd h => ?_)
  obtain ⟨v, d, M, rfl, hd, q⟩ := h
  refine ⟨_, (pss_cons (ps_if (PW.pt (pw_or (pt_not (pt_val (pe_callB call_isD (by rfl) B.isinstance (by decide +kernel) (pa_cons (pv 0) (pa_cons (pe_bltn (v := .ty "tuple") (u := .type "tuple") (by rfl) B.«tuple» (by decide +kernel) rfl) pa_nil))))) (pw_or1 (pt_cmpR op_ne (pe_callB call_len_seq (by rfl) B.len (by decide +kernel) (pa_cons (pv 0) pa_nil)) pe_int (nomark _))))) (pss_one (ps_ret pe_bl)) pss_nil)
  (pss_cons (ps_asg (pv 0) (pg_tup (by rfl) (pgs_cons (pg_name (i := 1) sc__is_bound.nd rfl (.inl rfl)) (pgs_cons (pg_name (i := 2) sc__is_bound.nd rfl (.inl rfl)) pgs_nil))))
  (pss_one (ps_ret (pe_and (pe_own c_is_amount hr gd (by rfl) (pa_cons (pv 1) pa_nil)) (pe_and (pe_own c_is_amount hr gd (by rfl) (pa_cons (pv 2) pa_nil)) (pe_one (pe_cmpR op_le (pv 1) (pv 2) (nomark _))))))))), ?_⟩
  walk_at "xs"
  refine x_iteNB (fun h => ?_) (fun h => ?_)
  · rw [isT_tuple] at h
    have e : boundD d = false := by cases d <;> first | rfl | cases h
    walk_at "xs"
    rw [← e]; exact q
  · rw [isT_tuple] at h
    cases hd with
    | @tup a xs ds ha hm hxs =>
      have lx := hxs.length
      walk_at "xs"
      refine x_iteN (fun h => ?_) (fun h => ?_)
      · have e : boundD (.tuple ds) = false := bound_len (by omega)
        walk_at "xs"
        rw [← e]; exact q
      · obtain ⟨x, y, dx, dy, rfl, rfl, hx, hy⟩ := hxs.two (by omega)
        walk_at "xs"
        refine x_sp1 hx ?_
        walk_at "xs"
        refine x_iteB (fun h1 => ?_) (fun h1 => ?_)
        · obtain ⟨i, rfl⟩ := inD_int h1
          obtain rfl := hx.int'
          walk_at "xs"
          refine x_sp1 hy ?_
          walk_at "xs"
          refine x_iteB (fun h2 => ?_) (fun h2 => ?_)
          · obtain ⟨j, rfl⟩ := inD_int h2
            obtain rfl := hy.int'
            walk_at "xs"
            have e : boundD (.tuple [.int i, .int j]) = decide (i ≤ j) := by
              show (inD 0 (10 ^ 30) (.int i) && (decide (i ≤ j) && decide (j ≤ 10 ^ 30))) = _
              have h2 : (decide (0 ≤ j) && decide (j ≤ 10 ^ 30)) = true := h2
              rw [Bool.and_eq_true] at h2
              rw [h1, h2.2, Bool.true_and, Bool.and_true]
            rw [← e]; exact q
          · have e : boundD (.tuple [.int i, dy]) = false := by
              show (inD 0 (10 ^ 30) (.int i) && inD i (10 ^ 30) dy) = false
              rw [h1, Bool.true_and]
              cases dy <;> first | rfl | skip
              rename_i j
              have h1 : (decide (0 ≤ i) && decide (i ≤ 10 ^ 30)) = true := h1
              have h2 : (decide (0 ≤ j) && decide (j ≤ 10 ^ 30)) = false := h2
              show (decide (i ≤ j) && decide (j ≤ 10 ^ 30)) = false
              simp only [Bool.and_eq_true, Bool.and_eq_false_iff, decide_eq_true_eq, decide_eq_false_iff_not] at h1 h2 ⊢
              omega
            rw [← e]; exact q
        · have e : boundD (.tuple [dx, dy]) = false := by
            show (inD 0 (10 ^ 30) dx && _) = false
            rw [h1, Bool.false_and]
          rw [← e]; exact q
    | _ => cases h
theorem kn__is_bundle {k : Nat} (D : Df K mg "_is_bundle" s__is_bundle) (B : Bl mg) (c_is_broker : Kn P w K mg base "is_broker" k (sp2 brokerD)) (c_is_count : Kn P w K mg base "is_count" k (sp1 (inD 1 (10 ^ 18)))) : Kn P w K mg base "_is_bundle" (k + 1) (sp2 bundleD) := by
  refine kn_of D (fun _ _ _ _ _ _ us hl => match us, hl with | [_, _], _ => rfl) sc__is_bundle (fun vs H Q E h => by obtain ⟨v, d, M, n, rfl, _⟩ := h; rfl) (fun f cd B' fr z H vs Q E hr gd h => ?_)
  obtain ⟨v, d, M, n, rfl, hd, q⟩ := h
  refine ⟨_, (pss_cons (ps_if (PW.pt (pw_or (pt_not (pt_val (pe_callB call_isD (by rfl) B.isinstance (by decide +kernel) (pa_cons (pv 0) (pa_cons (pe_bltn (v := .ty "tuple") (u := .type "tuple") (by rfl) B.«tuple» (by decide +kernel) rfl) pa_nil))))) (pw_or1 (pt_cmpR op_ne (pe_callB call_len_seq (by rfl) B.len (by decide +kernel) (pa_cons (pv 0) pa_nil)) pe_int (nomark _))))) (pss_one (ps_ret pe_bl)) pss_nil)
  (pss_cons (ps_asg (pv 0) (pg_tup (by rfl) (pgs_cons (pg_name (i := 2) sc__is_bundle.nd rfl (.inl rfl)) (pgs_cons (pg_name (i := 3) sc__is_bundle.nd rfl (.inl rfl)) (pgs_cons (pg_name (i := 4) sc__is_bundle.nd rfl (.inl rfl)) pgs_nil)))))
  (pss_one (ps_ret (pe_and (pe_own c_is_broker hr gd (by rfl) (pa_cons (pv 2) (pa_cons (pv 1) pa_nil))) (pe_and (pe_own c_is_broker hr gd (by rfl) (pa_cons (pv 3) (pa_cons (pv 1) pa_nil))) (pe_and (pe_cmpR op_lt (pv 2) (pv 3) (nomark _)) (pe_one (pe_own c_is_count hr gd (by rfl) (pa_cons (pv 4) pa_nil)))))))))), ?_⟩
  walk_at "xs"
  refine x_iteNB (fun h => ?_) (fun h => ?_)
  · rw [isT_tuple] at h
    have e : bundleD d n = false := by cases d <;> first | rfl | cases h
    walk_at "xs"
    rw [← e]; exact q
  · rw [isT_tuple] at h
    cases hd with
    | @tup a xs ds ha hm hxs =>
      have lx := hxs.length
      walk_at "xs"
      refine x_iteN (fun h => ?_) (fun h => ?_)
      · have e : bundleD (.tuple ds) n = false := bundle_len (by omega)
        walk_at "xs"
        rw [← e]; exact q
      · obtain ⟨x, y, c, dx, dy, dc, rfl, rfl, hx, hy, hc⟩ := hxs.three (by omega)
        have e0 : bundleD (.tuple [dx, dy, dc]) n = (inD 1 (10 ^ 18) dc && (brokerD dx n && (brokerD dy n && ltD dx dy))) := rfl
        rw [e0] at q
        walk_at "xs"
        refine x_sp2 hx ?_
        walk_at "xs"
        refine x_iteB (fun h1 => ?_) (fun h1 => ?_)
        · obtain ⟨i, rfl⟩ := brokerD_int h1
          obtain rfl := hx.int'
          walk_at "xs"
          refine x_sp2 hy ?_
          walk_at "xs"
          refine x_iteB (fun h2 => ?_) (fun h2 => ?_)
          · obtain ⟨j, rfl⟩ := brokerD_int h2
            obtain rfl := hy.int'
            walk_at "xs"
            have e : ltD (.int i) (.int j) = decide (i < j) := rfl
            refine x_ite (fun h3 => ?_) (fun h3 => ?_)
            · walk_at "xs"
              refine x_sp1 hc ?_
              rw [h1, h2, e, decide_eq_true h3, Bool.and_true, Bool.and_true, Bool.and_true] at q
              exact q
            · rw [h1, h2, e, decide_eq_false h3, Bool.and_false, Bool.and_false, Bool.and_false] at q
              exact q
          · rw [h2, Bool.false_and, Bool.and_false, Bool.and_false] at q; exact q
        · rw [h1, Bool.false_and, Bool.and_false] at q; exact q
    | _ => cases h
end
/-! ### all rows -/
def boundsD : PyData → Bool
  | .list ds => (decide (2 ≤ (ds.length : Int)) && decide ((ds.length : Int) ≤ 10)) && (ds.map boundD).all id
  | _ => false
def spBounds : Sp := fun vs H Q _ => ∃ v d M, vs = [v] ∧ Dn M H v d ∧ fewD d ∧ ∀ H', Same H H' → Q (.bl (boundsD d)) H'
theorem x_bounds {v : V} {d : PyData} {M : List Addr} {H : Hp} {Q : VK} {E : XK} (hd : Dn M H v d) (few : fewD d) (h : ∀ H', Same H H' → Q (.bl (boundsD d)) H') : spBounds [v] H Q E := ⟨v, d, M, rfl, hd, few, h⟩
section
variable {P : Program} {w : World} {K : PySem.W.Frag} {mg : Str → Option Value} {base : Heap} {t0 t1 t2 t3 t4 : Tok}
theorem kn_are_bounds {k : Nat} (D : Df K mg "are_bounds" s_are_bounds) (B : Bl mg) (CS : Cs mg t0 t1 t2 t3 t4) (c__is_bound : Kn P w K mg base "_is_bound" k (sp1 boundD)) : Kn P w K mg base "are_bounds" (k + 1) spBounds := by
  refine kn_of D (fun _ _ _ _ _ _ us hl => match us, hl with | [_], _ => rfl) sc_are_bounds (fun vs H Q E h => by obtain ⟨v, d, M, rfl, _⟩ := h; rfl) (fun f cd B' fr z H vs Q E hr gd h => ?_)
  obtain ⟨v, d, M, rfl, hd, few, q⟩ := h
  refine ⟨_, (pss_cons (ps_if (PW.pt (pw_or (pt_not (pt_val (pe_callB call_isD (by rfl) B.isinstance (by decide +kernel) (pa_cons (pv 0) (pa_cons (pe_bltn (v := .ty "list") (u := .type "list") (by rfl) B.«list» (by decide +kernel) rfl) pa_nil))))) (pw_or1 (pt_not (pt_chain op_le op_le (pe_glob (v := .int (2)) (by rfl) CS.LEAST_SIZE ⟨_, rfl⟩) (pe_callB call_len_seq (by rfl) B.len (by decide +kernel) (pa_cons (pv 0) pa_nil)) (pe_glob (v := .int (10)) (by rfl) CS.MOST_SIZE ⟨_, rfl⟩)))))) (pss_one (ps_ret pe_bl)) pss_nil)
  (pss_one (ps_ret (pe_callB (cr_all rfl) (by rfl) B.all (by decide +kernel) (pa_cons (pe_lc (own := [("row", 1)]) rfl sc_are_bounds.nd (pi_list (pv 0)) (blkOk_by (N := ["thing", "row"]) (sc := defScope s_are_bounds) (by decide +kernel)) (fun _ _ _ _ _ => (pg_name (i := 1) sc_are_bounds.nd rfl (.inl rfl))) (fun _ _ _ _ _ => pts_nil) (fun _ _ _ _ _ => (pe_own c__is_bound hr gd (by rfl) (pa_cons (pv 1) pa_nil)))) pa_nil))))), ?_⟩
  walk_at "xs"
  refine x_iteNB (fun h => ?_) (fun h => ?_)
  · rw [isT_list] at h
    have e : boundsD d = false := by cases d <;> first | rfl | cases h
    walk_at "xs"
    rw [← e]; exact q _ (Same.refl H)
  · rw [isT_list] at h
    cases hd with
    | @lst a xs ds ha hm hxs =>
      have len := few ds rfl
      have lx := hxs.length
      have e0 : boundsD (.list ds) = ((decide (2 ≤ (xs.length : Int)) && decide ((xs.length : Int) ≤ 10)) && (ds.map boundD).all id) := by rw [lx]; rfl
      rw [e0] at q
      walk_at "xs"
      refine x_ite (fun h1 => ?_) (fun h1 => ?_)
      · walk_at "xs"
        refine x_iteN (fun h2 => ?_) (fun h2 => ?_)
        · walk_at "xs"
          rw [decide_eq_false h2, Bool.and_false, Bool.false_and] at q
          exact q _ (Same.refl H)
        · rw [decide_eq_true h1, decide_eq_true h2, Bool.true_and, Bool.true_and] at q
          walk_at "xs"
          intro L hL
          have haL : a ≠ L := ne_of_none ha hL
          refine lc_list (K := K) (xs := xs) (fun i H' => H' = upd H L (.lst (((ds.take i).map boundD).map V.bl))) rfl ?_ ?_ ?_
          · rintro i _ _ rfl
            exact SqL.of (by rw [upd_ne haL]; exact ha)
          · rintro i x _ hx rfl
            obtain ⟨d, hd, dx⟩ := hxs.get hx
            have hi := (List.getElem?_eq_some_iff.mp hx).1
            walk_at "xs"
            refine x_wiped rfl ?_
            walk_at "xs"
            refine x_sp1 (dx.ext (Ext.same (same_upd hL))) ?_
            refine x_acc upd_same ?_ ?_
            · rw [List.length_map, List.length_map, List.length_take, sizeLine_eq]; omega
            · show upd _ L _ = _
              rw [upd_upd]
              congr 2
              rw [List.take_add_one, hd, List.map_append, List.map_append]
              rfl
          · rintro _ rfl
            rw [lx, List.take_length]
            walk_at "xs"
            exact q _ (same_upd hL)
      · walk_at "xs"
        rw [decide_eq_false h1, Bool.false_and, Bool.false_and] at q
        exact q _ (Same.refl H)
    | _ => cases h
end
def pairD : PyData → List Int
  | .tuple (.int a :: .int b :: _) => [a, b]
  | _ => []
def tupD (k : List Int) : PyData := .tuple (k.map PyData.int)
def bundlesD (d : PyData) (n : Int) : Bool := match d with
  | .list ds => decide ((ds.length : Int) ≤ 45) && ((ds.map fun d => bundleD d n).all id && decide ((ds.map pairD).Nodup))
  | _ => false
def spBundles : Sp := fun vs H Q _ => ∃ v d M n, vs = [v, .int n] ∧ Dn M H v d ∧ fewD d ∧ ∀ H', Same H H' → Q (.bl (bundlesD d n)) H'
theorem x_bundles {v : V} {d : PyData} {M : List Addr} {n : Int} {H : Hp} {Q : VK} {E : XK} (hd : Dn M H v d) (few : fewD d) (h : ∀ H', Same H H' → Q (.bl (bundlesD d n)) H') : spBundles [v, .int n] H Q E := ⟨v, d, M, n, rfl, hd, few, h⟩
theorem bundle_at {d : PyData} {n : Int} (h : bundleD d n = true) : ∃ a b c, d = .tuple [.int a, .int b, .int c] := by
  unfold bundleD at h
  split at h
  · rename_i x y z
    rw [Bool.and_eq_true, Bool.and_eq_true, Bool.and_eq_true] at h
    obtain ⟨h1, h2, h3, h4⟩ := h
    obtain ⟨a, rfl⟩ := brokerD_int h2
    obtain ⟨b, rfl⟩ := brokerD_int h3
    obtain ⟨c, rfl⟩ := inD_int h1
    exact ⟨a, b, c, rfl⟩
  · cases h
theorem Dn.tup3 {M : List Addr} {H : Hp} {v : V} {a b c : Int} (h : Dn M H v (.tuple [.int a, .int b, .int c])) : ∃ p, v = .ref p ∧ p ∉ M ∧ H p = some (.tup [.int a, .int b, .int c]) := by
  cases h with
  | tup h1 h2 h3 =>
    obtain rfl := DnAll.toInts (ms := [a, b, c]) h3
    exact ⟨_, rfl, h2, h1⟩
theorem row_at {M : List Addr} {H : Hp} {xs : List V} {ds : List PyData} {n : Int} {i : Nat} {x : V} (hxs : DnAll M H xs ds) (hall : (ds.map fun d => bundleD d n).all id = true) (hx : xs[i]? = some x) :
    ∃ p a b c, x = .ref p ∧ H p = some (.tup [.int a, .int b, .int c]) ∧ (ds.map pairD)[i]? = some [a, b] := by
  obtain ⟨d, hd, dx⟩ := hxs.get hx
  have hb : bundleD d n = true := by
    rw [List.all_eq_true] at hall
    exact hall _ (List.mem_map.mpr ⟨d, List.mem_of_getElem? hd, rfl⟩)
  obtain ⟨a, b, c, rfl⟩ := bundle_at hb
  obtain ⟨p, rfl, _, hp⟩ := dx.tup3
  exact ⟨p, a, b, c, rfl, hp, by rw [List.getElem?_map, hd]; rfl⟩
section
variable {P : Program} {w : World} {K : PySem.W.Frag} {mg : Str → Option Value} {base : Heap} {t0 t1 t2 t3 t4 : Tok}
theorem kn_are_bundles {k : Nat} (D : Df K mg "are_bundles" s_are_bundles) (B : Bl mg) (CS : Cs mg t0 t1 t2 t3 t4) (c__is_bundle : Kn P w K mg base "_is_bundle" k (sp2 bundleD)) : Kn P w K mg base "are_bundles" (k + 1) spBundles := by
  refine kn_of D (fun _ _ _ _ _ _ us hl => match us, hl with | [_, _], _ => rfl) sc_are_bundles (fun vs H Q E h => by obtain ⟨v, d, M, n, rfl, _⟩ := h; rfl) (fun f cd B' fr z H vs Q E hr gd h => ?_)
  obtain ⟨v, d, M, n, rfl, hd, few, q⟩ := h
  refine ⟨_, (pss_cons (ps_if (PW.pt (pw_or (pt_not (pt_val (pe_callB call_isD (by rfl) B.isinstance (by decide +kernel) (pa_cons (pv 0) (pa_cons (pe_bltn (v := .ty "list") (u := .type "list") (by rfl) B.«list» (by decide +kernel) rfl) pa_nil))))) (pw_or1 (pt_cmpR op_gt (pe_callB call_len_seq (by rfl) B.len (by decide +kernel) (pa_cons (pv 0) pa_nil)) (pe_glob (v := .int (45)) (by rfl) CS.MOST_BUNDLES ⟨_, rfl⟩) (nomark _))))) (pss_one (ps_ret pe_bl)) pss_nil)
  (pss_cons (ps_if (pt_not (pt_val (pe_callB (cr_all rfl) (by rfl) B.all (by decide +kernel) (pa_cons (pe_lc (own := [("row", 2)]) rfl sc_are_bundles.nd (pi_list (pv 0)) (blkOk_by (N := ["thing", "size", "row"]) (sc := defScope s_are_bundles) (by decide +kernel)) (fun _ _ _ _ _ => (pg_name (i := 2) sc_are_bundles.nd rfl (.inl rfl))) (fun _ _ _ _ _ => pts_nil) (fun _ _ _ _ _ => (pe_own c__is_bundle hr gd (by rfl) (pa_cons (pv 2) (pa_cons (pv 1) pa_nil))))) pa_nil)))) (pss_one (ps_ret pe_bl)) pss_nil)
  (pss_one (ps_ret (pe_cmpR op_eq (pe_callB call_lenT (by rfl) B.len (by decide +kernel) (pa_cons (pe_setC (Z := fun a => SetTO P w a []) (add := addT K P w) (own := [("row", 2)]) rfl sc_are_bundles.nd (pi_list (pv 0)) (blkOk_by (N := ["thing", "size", "row"]) (sc := defScope s_are_bundles) (by decide +kernel)) (fun _ _ _ _ _ => (pg_name (i := 2) sc_are_bundles.nd rfl (.inl rfl))) (fun _ _ _ _ _ => pts_nil) (fun _ _ _ _ _ => (pe_tup (pa_cons (pe_ix (r := rIxT K) ix_tup (pv 2) pe_int (fun _ _ => rfl)) (pa_cons (pe_ix (r := rIxT K) ix_tup (pv 2) pe_int (fun _ _ => rfl)) pa_nil)))) (fun _ _ _ _ _ => addT_ok hr.units) freshT) pa_nil)) (pe_callB call_len_seq (by rfl) B.len (by decide +kernel) (pa_cons (pv 0) pa_nil)) (nomark _)))))), ?_⟩
  walk_at "xs"
  refine x_iteNB (fun h => ?_) (fun h => ?_)
  · rw [isT_list] at h
    have e : bundlesD d n = false := by cases d <;> first | rfl | cases h
    walk_at "xs"
    rw [← e]; exact q _ (Same.refl H)
  · rw [isT_list] at h
    cases hd with
    | @lst a xs ds ha hm hxs =>
      have len := few ds rfl
      have lx := hxs.length
      have e0 : bundlesD (.list ds) n = (decide ((xs.length : Int) ≤ 45) && ((ds.map fun d => bundleD d n).all id && decide ((ds.map pairD).Nodup))) := by rw [lx]; rfl
      rw [e0] at q
      walk_at "xs"
      refine x_ite (fun h1 => ?_) (fun h1 => ?_)
      · walk_at "xs"
        rw [decide_eq_false (by omega), Bool.false_and] at q
        exact q _ (Same.refl H)
      · rw [decide_eq_true (by omega), Bool.true_and] at q
        walk_at "xs"
        intro L hL
        have haL : a ≠ L := ne_of_none ha hL
        refine lc_list (K := K) (xs := xs) (fun i H' => H' = upd H L (.lst (((ds.take i).map fun d => bundleD d n).map V.bl))) rfl ?_ ?_ ?_
        · rintro i _ _ rfl
          exact SqL.of (by rw [upd_ne haL]; exact ha)
        · rintro i x _ hx rfl
          obtain ⟨d, hd, dx⟩ := hxs.get hx
          have hi := (List.getElem?_eq_some_iff.mp hx).1
          walk_at "xs"
          refine x_wiped rfl ?_
          walk_at "xs"
          refine x_sp2 (dx.ext (Ext.same (same_upd hL))) ?_
          refine x_acc upd_same ?_ ?_
          · rw [List.length_map, List.length_map, List.length_take, sizeLine_eq]; omega
          · show upd _ L _ = _
            rw [upd_upd]
            congr 2
            rw [List.take_add_one, hd, List.map_append, List.map_append]
            rfl
        · rintro _ rfl
          rw [lx, List.take_length]
          have S1 := same_upd hL (o := .lst ((ds.map fun d => bundleD d n).map V.bl))
          walk_at "xs"
          refine x_iteNB (fun h2 => ?_) (fun h2 => ?_)
          · walk_at "xs"
            rw [h2, Bool.false_and] at q
            exact q _ S1
          · rw [h2, Bool.true_and] at q
            have ha2 := S1 _ _ ha
            have hxs2 := hxs.ext (Ext.same S1)
            generalize upd H L _ = H1 at *
            have lp : (ds.map pairD).length = xs.length := by rw [List.length_map, lx]
            generalize hps : ds.map pairD = ps at *
            walk_at "xs"
            intro S hS
            refine setc_list (K := K) (a := a) (L := S) (Z := fun a => SetTO P w a []) (add := addT K P w) (xs := xs) (fun i H' => ∃ L : List (Addr × List Int), H' S = some (SetTO P w S L) ∧ (∀ q ∈ L, H' q.1 = some (.tup (q.2.map V.int))) ∧ L.length ≤ i ∧ (∀ k, k ∈ L.map (·.2) ↔ k ∈ ps.take i) ∧ (L.length = i ↔ (ps.take i).Nodup) ∧ Same H1 H') ?_ ?_ ?_ ?_
            · exact ⟨[], upd_same, by simp, Nat.le_refl _, by simp, by simp, same_upd hS⟩
            · rintro i H' _ ⟨L, _, _, _, _, _, SS⟩
              exact SqL.of (SS _ _ ha2)
            · rintro i x H' hx ⟨L, hLS, hT, ll, hk, hn, SS⟩
              obtain ⟨p, a', b', c', rfl, hp, hpi⟩ := row_at hxs2 h2 hx
              rw [hps] at hpi
              have hi := (List.getElem?_eq_some_iff.mp hx).1
              have hp := SS _ _ hp
              walk_at "xs"
              refine x_wiped rfl ?_
              walk_at "xs"
              intro t ht
              have tk : ps.take (i + 1) = ps.take i ++ [[a', b']] := by rw [List.take_add_one, hpi]; rfl
              have S2 := same_upd ht (o := .tup [.int a', .int b'])
              refine ⟨t, [a', b'], L, rfl, SqT.of upd_same, S2 _ _ hLS, fun q hq => SqT.of (S2 _ _ (hT q hq)), by omega, fun L' c1 c2 => ?_⟩
              have tS : t ≠ S := ne_of_none2 ht hLS
              have keep : Same H1 (upd (upd H' t (.tup [.int a', .int b'])) S (SetTO P w S L')) := fun z o e => by
                rw [upd_ne (ne_of_none e hS)]; exact S2 _ _ (SS _ _ e)
              have notS : ∀ q : Addr × List Int, H' q.1 = some (.tup (q.2.map V.int)) → q.1 ≠ S := fun q e x => by
                rw [x, hLS] at e; cases e
              have tups : ∀ q ∈ (t, [a', b']) :: L, (upd (upd H' t (.tup [.int a', .int b'])) S (SetTO P w S L')) q.1 = some (.tup (q.2.map V.int)) := by
                intro q hq
                rcases List.mem_cons.mp hq with rfl | hq
                · rw [upd_ne tS, upd_same]; rfl
                · rw [upd_ne (notS q (hT q hq))]; exact S2 _ _ (hT q hq)
              by_cases hin : [a', b'] ∈ L.map (·.2)
              · have e := c1 hin
                subst e
                refine ⟨_, upd_same, fun q hq => tups q (List.mem_cons_of_mem _ hq), by omega, fun k => ?_, ?_, keep⟩
                · rw [tk, List.mem_append, ← hk k]
                  constructor
                  · exact .inl
                  · rintro (h | h)
                    · exact h
                    · simp at h; subst h; exact hin
                · rw [tk]
                  constructor
                  · intro e; omega
                  · intro nd
                    exfalso
                    rw [List.nodup_append] at nd
                    exact nd.2.2 _ ((hk _).mp hin) _ (by simp) rfl
              · have pm := c2 hin
                refine ⟨_, upd_same, fun q hq => tups q (pm.mem_iff.mp hq), by rw [pm.length_eq]; simp; omega, fun k => ?_, ?_, keep⟩
                · rw [tk, List.mem_append, ← hk k, (pm.map (·.2)).mem_iff]
                  simp [or_comm]
                · rw [tk, pm.length_eq]
                  have h3 := hn
                  rw [List.length_cons, Nat.add_right_cancel_iff, hn, List.nodup_append]
                  constructor
                  · intro nd
                    refine ⟨nd, by simp, fun u hu v hv e => ?_⟩
                    simp at hv; subst hv; subst e
                    exact hin ((hk _).mpr hu)
                  · exact fun h => h.1
            · rintro H' ⟨L, hLS, hT, ll, hk, hn, SS⟩
              walk_at "xs"
              refine ⟨S, L, rfl, hLS, fun q hq => SqT.of (hT q hq), ?_⟩
              have ha3 := SS _ _ ha2
              walk_at "xs"
              have e : decide (ps.Nodup) = decide ((L.length : Int) = xs.length) := by
                rw [List.take_of_length_le (by omega)] at hn
                exact decide_eq_decide.mpr (by rw [← hn]; omega)
              rw [← e]
              exact q _ (S1.trans SS)
    | _ => cases h
end
theorem set_map (hs : List Int) (j : Nat) (v : Int) : (hs.map V.int).set j (.int v) = (hs.set j v).map V.int := by
  rw [List.map_set]
theorem repl_int : ∀ n : Nat, (List.replicate n [V.int 0]).flatten = (List.replicate n (0 : Int)).map V.int
  | 0 => rfl
  | n + 1 => by rw [List.replicate_succ, List.flatten_cons, repl_int n, List.replicate_succ, List.map_cons]; rfl
theorem int_at {ls : List Int} {i : Nat} {u : V} (h : (ls.map V.int)[i]? = some u) : ∃ l, ls[i]? = some l ∧ u = .int l := by
  rw [List.getElem?_map] at h
  cases e : ls[i]? with
  | none => rw [e] at h; cases h
  | some m => rw [e] at h; exact ⟨m, rfl, (Option.some.inj h).symm⟩
theorem bundle_row {d : PyData} {n : Int} (h : bundleD d n = true) (hn : n ≤ 10) : ∃ a b c : Int, d = tupD [a, b, c] ∧ 0 ≤ a ∧ a < b ∧ b < n ∧ 1 ≤ c ∧ c ≤ 10 ^ 18 := by
  obtain ⟨a, b, c, rfl⟩ := bundle_at h
  have h : ((decide (1 ≤ c) && decide (c ≤ 10 ^ 18)) && ((decide (0 ≤ a) && decide (a < n)) && ((decide (0 ≤ b) && decide (b < n)) && decide (a < b)))) = true := h
  simp only [Bool.and_eq_true, decide_eq_true_eq] at h
  exact ⟨a, b, c, rfl, h.2.1.1, h.2.2.2, h.2.2.1.2, h.1.1, h.1.2⟩
/-! ### the cluster -/
def F3 (B U N : Addr) : List (Str × V) := putF "_numbers" (.ref N) (putF "_bundles" (.ref U) (putF "_bounds" (.ref B) []))
theorem f3_bundles (B U N : Addr) : (F3 B U N).lookup ("_bundles" : Str) = some (.ref U) := by
  unfold F3
  rw [lookup_putF, if_neg (by decide), lookup_putF, if_pos rfl]
theorem f3_bounds (B U N : Addr) : (F3 B U N).lookup ("_bounds" : Str) = some (.ref B) := by
  unfold F3
  rw [lookup_putF, if_neg (by decide), lookup_putF, if_neg (by decide), lookup_putF, if_pos rfl]
theorem f3_none (B U N : Addr) {f : Str} (a : f ≠ "_numbers") (b : f ≠ "_bundles") (c : f ≠ "_bounds") : (F3 B U N).lookup f = none := by
  unfold F3
  rw [lookup_putF, if_neg a, lookup_putF, if_neg b, lookup_putF, if_neg c]; rfl
theorem f1_len {f : Str} {v : V} : (putF f v []).length < 1000 := by
  have := length_putF f v []
  simp only [List.length_nil] at this
  omega
theorem f2_len {f g : Str} {v u : V} : (putF f v (putF g u [])).length < 1000 := by
  have := length_putF f v (putF g u [])
  have := length_putF g u []
  simp only [List.length_nil] at this
  omega
/-- the class's facts -/
structure Cc (K : PySem.W.Frag) (mg : Str → Option Value) (C : Addr) : Prop where
  ck : Ck K mg "Cluster" C
  bounds : NoAttr K C "_bounds"
  bundles : NoAttr K C "_bundles"
  numbers : NoAttr K C "_numbers"
/-- the places of the first i rows by their brokers -/
def nums (rs : List PyData) : Nat → List (List Key × V)
  | 0 => []
  | i + 1 => match rs[i]? with
    | some (.tuple (.int a :: .int b :: _)) => putK (nums rs i) [.inl a, .inl b] (.int (i : Nat))
    | _ => nums rs i
/-- the same, either way round -/
def nums2 (rs : List PyData) : Nat → List (List Key × V)
  | 0 => []
  | i + 1 => match rs[i]? with
    | some (.tuple (.int a :: .int b :: _)) => putK (putK (nums2 rs i) [.inl a, .inl b] (.int (i : Nat))) [.inl b, .inl a] (.int (i : Nat))
    | _ => nums2 rs i
def numsD : PyData → List (List Key × V)
  | .list rs => nums rs rs.length
  | _ => []
theorem nums2_eq {rs : List PyData} {n : Int} (hall : (rs.map fun d => bundleD d n).all id = true) (i j : Int) : ∀ k, k ≤ rs.length →
    valV (nums2 rs k) [.inl i, .inl j] = valV (nums rs k) [.inl (if j < i then j else i), .inl (if j > i then j else i)]
  | 0, _ => rfl
  | k + 1, hk => by
    have ih := nums2_eq hall i j k (by omega)
    have hd : rs[k]? = some rs[k] := List.getElem?_eq_getElem (by omega)
    have hb : bundleD rs[k] n = true := by
      rw [List.all_eq_true] at hall
      exact hall _ (List.mem_map.mpr ⟨_, List.getElem_mem (by omega), rfl⟩)
    obtain ⟨a, b, c, e⟩ := bundle_at hb
    rw [e] at hd hb
    have hb : (inD 1 (10 ^ 18) (.int c) && (brokerD (.int a) n && (brokerD (.int b) n && decide (a < b)))) = true := hb
    rw [Bool.and_eq_true, Bool.and_eq_true, Bool.and_eq_true, decide_eq_true_eq] at hb
    have ab := hb.2.2.2
    have e1 : nums2 rs (k + 1) = putK (putK (nums2 rs k) [.inl a, .inl b] (.int (k : Nat))) [.inl b, .inl a] (.int (k : Nat)) := by
      show (match rs[k]? with | some (.tuple (.int a :: .int b :: _)) => putK (putK (nums2 rs k) [.inl a, .inl b] (.int (k : Nat))) [.inl b, .inl a] (.int (k : Nat)) | _ => nums2 rs k) = _
      rw [hd]
    have e2 : nums rs (k + 1) = putK (nums rs k) [.inl a, .inl b] (.int (k : Nat)) := by
      show (match rs[k]? with | some (.tuple (.int a :: .int b :: _)) => putK (nums rs k) [.inl a, .inl b] (.int (k : Nat)) | _ => nums rs k) = _
      rw [hd]
    rw [e1, e2, valV_put, valV_put, valV_put, ih]
    have k1 : ([.inl i, .inl j] : List Key) = [.inl b, .inl a] ↔ i = b ∧ j = a := by simp
    have k2 : ([.inl i, .inl j] : List Key) = [.inl a, .inl b] ↔ i = a ∧ j = b := by simp
    have k3 : ([.inl (if j < i then j else i), .inl (if j > i then j else i)] : List Key) = [.inl a, .inl b] ↔ (i = b ∧ j = a) ∨ (i = a ∧ j = b) := by
      simp only [List.cons.injEq, Sum.inl.injEq, and_true]
      by_cases h : j < i
      · rw [if_pos h, if_neg (by omega)]; omega
      · rw [if_neg h]
        by_cases h2 : j > i
        · rw [if_pos h2]; omega
        · rw [if_neg h2]; omega
    by_cases h1 : i = b ∧ j = a
    · rw [if_pos (k1.mpr h1), if_pos (k3.mpr (.inl h1))]
    · rw [if_neg (fun z => h1 (k1.mp z))]
      by_cases h2 : i = a ∧ j = b
      · rw [if_pos (k2.mpr h2), if_pos (k3.mpr (.inr h2))]
      · rw [if_neg (fun z => h2 (k2.mp z)), if_neg (fun z => (k3.mp z).elim h1 h2)]
theorem nums2_len (rs : List PyData) : ∀ i, (nums2 rs i).length ≤ 2 * i
  | 0 => Nat.le_refl _
  | i + 1 => by
    have ih := nums2_len rs i
    show (match rs[i]? with | some (.tuple (.int a :: .int b :: _)) => putK (putK (nums2 rs i) [.inl a, .inl b] (.int (i : Nat))) [.inl b, .inl a] (.int (i : Nat)) | _ => nums2 rs i).length ≤ _
    split
    · rename_i a b r _
      have l1 := length_putK (nums2 rs i) [Sum.inl a, Sum.inl b] (V.int (i : Nat))
      have l2 := length_putK (putK (nums2 rs i) [Sum.inl a, Sum.inl b] (V.int (i : Nat))) [Sum.inl b, Sum.inl a] (V.int (i : Nat))
      omega
    · omega
/-- an instance that keeps these data -/
def Clu (C : Addr) (M : List Addr) (H : Hp) (x : Addr) (d1 d2 : PyData) : Prop := ∃ dx B U N kvs, H x = some (.ins C dx (F3 B U N)) ∧ x ∉ M ∧ Dn M H (.ref B) d1 ∧ Dn M H (.ref U) d2 ∧ H N = some (.dT kvs) ∧ N ∉ M ∧ ∀ i j : Int, valV kvs [.inl i, .inl j] = valV (numsD d2) [.inl (if j < i then j else i), .inl (if j > i then j else i)]
theorem Clu.ext {C : Addr} {M : List Addr} {H H' : Hp} {x : Addr} {d1 d2 : PyData} (c : Clu C M H x d1 d2) (e : Ext M H H') : Clu C M H' x d1 d2 := by
  obtain ⟨dx, B, U, N, kvs, h1, h2, h3, h4, h5, h6, h7⟩ := c
  exact ⟨dx, B, U, N, kvs, e _ _ h2 h1, h2, h3.ext e, h4.ext e, e _ _ h6 h5, h6, h7⟩
/-- a list's items, away from M -/
def Items (M : List Addr) (H : Hp) (v : V) (d : PyData) : Prop := ∀ a xs ds, v = .ref a → H a = some (.lst xs) → d = .list ds → DnAll M H xs ds
theorem Dn.items {M : List Addr} {H : Hp} {v : V} {d : PyData} (h : Dn M H v d) : Items M H v d := by
  rintro a xs ds rfl e rfl
  cases h with
  | lst e1 m A => rw [e1] at e; cases e; exact A
def spKeep (C : Addr) : Sp := fun vs H Q _ => ∃ M x dx v1 v2 ds1 ds2 n, vs = [.ref x, v1, v2] ∧ (∀ m ∈ M, ∃ o, H m = some o) ∧ x ∉ M ∧ H x = some (.ins C dx []) ∧ (∃ a xs, v1 = .ref a ∧ H a = some (.lst xs) ∧ a ≠ x ∧ DnAll (x :: M) H xs ds1) ∧ (∃ a xs, v2 = .ref a ∧ H a = some (.lst xs) ∧ a ≠ x ∧ DnAll (x :: M) H xs ds2) ∧
  (ds2.map fun d => bundleD d n).all id = true ∧ ds2.length ≤ 45 ∧ ∀ H', Ext [x] H H' → Clu C M H' x (.list ds1) (.list ds2) → Q .non H'
def spInit (C : Addr) : Sp := fun vs H Q _ => ∃ M x dx v1 v2 ds1 ds2, vs = [.ref x, v1, v2] ∧ (∀ m ∈ M, ∃ o, H m = some o) ∧ x ∉ M ∧ H x = some (.ins C dx []) ∧ Dn (x :: M) H v1 (.list ds1) ∧ Dn (x :: M) H v2 (.list ds2) ∧
  boundsD (.list ds1) = true ∧ bundlesD (.list ds2) ds1.length = true ∧ ∀ H', Ext [x] H H' → Clu C M H' x (.list ds1) (.list ds2) → Q .non H'
theorem fresh_out {M : List Addr} {H : Hp} {p : Addr} (hM : ∀ m ∈ M, ∃ o, H m = some o) (hp : H p = none) : p ∉ M := fun h => by
  obtain ⟨o, e⟩ := hM p h
  rw [e] at hp; cases hp
theorem bounds_len {ds : List PyData} (h : boundsD (.list ds) = true) : ds.length ≤ 10 := by
  have h : ((decide (2 ≤ (ds.length : Int)) && decide ((ds.length : Int) ≤ 10)) && (ds.map boundD).all id) = true := h
  rw [Bool.and_eq_true, Bool.and_eq_true, decide_eq_true_eq, decide_eq_true_eq] at h
  omega
theorem bundles_len {ds : List PyData} {n : Int} (h : bundlesD (.list ds) n = true) : ds.length ≤ 45 ∧ (ds.map fun d => bundleD d n).all id = true := by
  have h : (decide ((ds.length : Int) ≤ 45) && ((ds.map fun d => bundleD d n).all id && decide ((ds.map pairD).Nodup))) = true := h
  rw [Bool.and_eq_true, Bool.and_eq_true, decide_eq_true_eq] at h
  exact ⟨by omega, h.2.1⟩
section
variable {P : Program} {w : World} {K : PySem.W.Frag} {mg : Str → Option Value} {base : Heap} {t0 t1 t2 t3 t4 : Tok} {C : Addr}
theorem km_keep {k : Nat} (D : Dm K C "_keep" "Cluster._keep" s_Clusterkeep) (B : Bl mg) (cc : Cc K mg C) : Km P w K mg base C "_keep" (k + 1) (spKeep C) := by
  refine km_of D (fun _ _ _ _ _ _ us hl => match us, hl with | [_, _, _], _ => rfl) sc_Clusterkeep (fun vs H Q E h => by obtain ⟨M, x, dx, v1, v2, ds1, ds2, n, rfl, _⟩ := h; rfl) (fun f cd B' fr z H vs Q E hr gd h => ?_)
  obtain ⟨M, x, dx, v1, v2, ds1, ds2, n, rfl, hM, nx, hx, hd1, hd2, hall, hlen, q⟩ := h
  refine ⟨_, (pss_cons (ps_fld (pv 0) (pe_callTy call_list_of (by rfl) B.«list» (by decide +kernel) (pa_cons (pv 1) pa_nil)) (by rfl))
  (pss_cons (ps_fld (pv 0) (pe_callTy call_list_of (by rfl) B.«list» (by decide +kernel) (pa_cons (pv 2) pa_nil)) (by rfl))
  (pss_cons (ps_fld (pv 0) pe_dnewT (by rfl))
  (pss_one (ps_for PassesOwn.never rfl (pi_enum (by rfl) B.enumerate (pa_cons (pv 2) pa_nil)) (pg_tup (by rfl) (pgs_cons (pg_name (i := 3) sc_Clusterkeep.nd rfl (.inl rfl)) (pgs_cons (pg_tup (by rfl) (pgs_cons (pg_name (i := 4) sc_Clusterkeep.nd rfl (.inl rfl)) (pgs_cons (pg_name (i := 5) sc_Clusterkeep.nd rfl (.inl rfl)) (pgs_cons (pg_name (i := 6) sc_Clusterkeep.nd rfl (.inl rfl)) pgs_nil)))) pgs_nil)))
  (pss_cons (ps_asg (pv 3) (pg_sub (pe_fld (pv 0) (by rfl)) (pe_tup (pa_cons (pv 4) (pa_cons (pv 5) pa_nil))) (set_dict (units1 hr.units))))
  (pss_one (ps_asg (pv 3) (pg_sub (pe_fld (pv 0) (by rfl)) (pe_tup (pa_cons (pv 5) (pa_cons (pv 4) pa_nil))) (set_dict (units1 hr.units))))))))))), ?_⟩
  obtain ⟨a1, xs1, rfl, e1, m1, A1⟩ := hd1
  obtain ⟨a2, xs2, rfl, e2, m2, A2⟩ := hd2
  have l2 := A2.length
  walk_at "xs"
  intro B hB
  have bM := fresh_out hM hB
  have bx : B ≠ x := ne_of_none2 hB hx
  walk_at "xs"
  refine x_sAt (show _ = some (HO.ins C dx []) by rw [upd_ne bx.symm]; exact hx) cc.ck.cls cc.bounds (by decide) ?_
  have a2x : a2 ≠ x := m2
  have a2B : a2 ≠ B := ne_of_none e2 hB
  walk_at "xs"
  intro U hU
  have hU0 : H U = none := by
    by_cases hx' : U = x
    · rw [hx', upd_same] at hU; cases hU
    · rw [upd_ne hx'] at hU
      by_cases hb : U = B
      · rw [hb, upd_same] at hU; cases hU
      · rw [upd_ne hb] at hU; exact hU
  have ux : U ≠ x := ne_of_none2 hU0 hx
  have uM := fresh_out hM hU0
  have uB : U ≠ B := fun h => by rw [h, upd_ne bx, upd_same] at hU; cases hU
  walk_at "xs"
  refine x_sAt (show _ = some (HO.ins C dx (putF "_bounds" (.ref B) [])) by rw [upd_ne ux.symm, upd_same]) cc.ck.cls cc.bundles f1_len ?_
  have a2U : a2 ≠ U := ne_of_none e2 hU0
  obtain ⟨H3, e3⟩ : ∃ H3, H3 = upd (upd (upd (upd H B (.lst xs1)) x (.ins C dx (putF "_bounds" (.ref B) []))) U (.lst xs2)) x (.ins C dx (putF "_bundles" (.ref U) (putF "_bounds" (.ref B) []))) := ⟨_, rfl⟩
  have X3 : Ext [x] H H3 := fun z o nz e => by
    have zx : z ≠ x := by simpa using nz
    rw [e3, upd_ne zx, upd_ne (ne_of_none e hU0), upd_ne zx, upd_ne (ne_of_none e hB)]; exact e
  have hx3 : H3 x = some (.ins C dx (putF "_bundles" (.ref U) (putF "_bounds" (.ref B) []))) := by rw [e3, upd_same]
  have hB3 : H3 B = some (.lst xs1) := by rw [e3, upd_ne bx, upd_ne uB.symm, upd_ne bx, upd_same]
  have hU3 : H3 U = some (.lst xs2) := by rw [e3, upd_ne ux, upd_same]
  rw [← e3]
  clear e3 hU
  have X3' : Ext (x :: M) H H3 := X3.mono (by intro z h; simp at h; simp [h])
  have e2' := X3 _ _ (by simpa using m2) e2
  have A1' := A1.ext X3'
  have A2' := A2.ext X3'
  walk_at "xs"
  refine x_dnewT ?_
  intro N hN
  have nN : N ∉ M := fun h => by
    obtain ⟨o, e⟩ := hM N h
    rw [X3 N o (by simpa using fun z => nx (by rw [← z]; exact h)) e] at hN; cases hN
  have nx' : N ≠ x := ne_of_none2 hN hx3
  walk_at "xs"
  refine x_sAt (show _ = some (HO.ins C dx (putF "_bundles" (.ref U) (putF "_bounds" (.ref B) []))) by rw [upd_ne nx'.symm]; exact hx3) cc.ck.cls cc.numbers f2_len ?_
  obtain ⟨H4, e4⟩ : ∃ H4, H4 = upd (upd H3 N (.dT [])) x (.ins C dx (putF "_numbers" (.ref N) (putF "_bundles" (.ref U) (putF "_bounds" (.ref B) [])))) := ⟨_, rfl⟩
  have X4 : Ext [x] H3 H4 := fun z o nz e => by
    rw [e4, upd_ne (by simpa using nz), upd_ne (ne_of_none e hN)]; exact e
  have hx4 : H4 x = some (.ins C dx (F3 B U N)) := by rw [e4, upd_same]; rfl
  have hN4 : H4 N = some (.dT []) := by rw [e4, upd_ne nx', upd_same]
  rw [← e4]
  clear e4
  have X4' : Ext (x :: M) H3 H4 := X4.mono (by intro z h; simp at h; simp [h])
  have e2n : a2 ≠ N := ne_of_none e2' hN
  have e24 := X4 _ _ (by simpa using m2) e2'
  have nB : B ≠ N := ne_of_none hB3 hN
  have nU : U ≠ N := ne_of_none hU3 hN
  have eS : ∀ {H' : Hp}, Ext [N] H4 H' → Ext (x :: M) H3 H' := fun E z o nz e => E _ _ (by simpa using ne_of_none e hN) (X4' _ _ nz e)
  have eU : ∀ (G : Hp) (o : HO), Ext [N] G (upd G N o) := fun _ _ => Ext.upd (by simp)
  walk_at "xs"
  refine for_enum (K := K) (a := a2) (xs := xs2) (fun i σ' H' => ∃ (y3 y4 y5 y6 : Option V), σ' = [some (.ref x), some (.ref a1), some (.ref a2), y3, y4, y5, y6] ∧ Ext [N] H4 H' ∧ H' N = some (.dT (nums2 ds2 i))) ?_ ?_ ?_ ?_
  · exact ⟨_, _, _, _, rfl, Ext.refl _ _, hN4⟩
  · rintro i _ H' _ ⟨_, _, _, _, _, E, _⟩
    exact SqL.of (E _ _ (by simpa using e2n) e24)
  · rintro i y t _ H' hy ⟨y3, y4, y5, y6, rfl, E, hk⟩ ht
    obtain ⟨dR, hdR, dnR⟩ := A2'.get hy
    have hbd : bundleD dR n = true := by
      rw [List.all_eq_true] at hall
      exact hall _ (List.mem_map.mpr ⟨dR, List.mem_of_getElem? hdR, rfl⟩)
    obtain ⟨a', b', c', rfl⟩ := bundle_at hbd
    obtain ⟨p, rfl, np, hp⟩ := (dnR.ext (eS E)).tup3
    have ek1 : nums2 ds2 (i + 1) = putK (putK (nums2 ds2 i) [.inl a', .inl b'] (.int (i : Nat))) [.inl b', .inl a'] (.int (i : Nat)) := by
      show (match ds2[i]? with | some (.tuple (.int a :: .int b :: _)) => putK (putK (nums2 ds2 i) [.inl a, .inl b] (.int (i : Nat))) [.inl b, .inl a] (.int (i : Nat)) | _ => nums2 ds2 i) = _
      rw [hdR]
    have hi := (List.getElem?_eq_some_iff.mp hy).1
    have lk := nums2_len ds2 i
    have lp := length_putK (nums2 ds2 i) [Sum.inl a', Sum.inl b'] (V.int (i : Nat))
    rw [ek1]
    generalize nums2 ds2 i = kvs at *
    have hx' := E _ _ (by simpa using nx'.symm) hx4
    have S1 := same_upd ht (o := .tup [.int (i : Nat), .ref p])
    have hp := S1 _ _ hp
    have hk := S1 _ _ hk
    have hx' := S1 _ _ hx'
    have E := E.trans (Ext.same S1)
    have et := upd_same (H := H') (a := t) (o := .tup [.int (i : Nat), .ref p])
    generalize upd H' t _ = H5 at *
    walk_at "xs"
    refine x_gAt hx' cc.ck.cls cc.numbers (by unfold F3; rw [lookup_putF, if_pos rfl]) ?_
    walk_at "xs"
    intro r hr1
    have S3 := same_upd hr1 (o := .tup [.int a', .int b'])
    have hk := S3 _ _ hk
    have hx' := S3 _ _ hx'
    have E := E.trans (Ext.same S3)
    refine ⟨N, _, rfl, DPut.t hk (k := [.inl a', .inl b']) upd_same (by rw [sizeLine_eq]; omega), ?_⟩
    have E := E.trans (eU _ (.dT (putK kvs [.inl a', .inl b'] (.int (i : Nat)))))
    have hx' : (upd (upd H5 r (.tup [.int a', .int b'])) N (.dT (putK kvs [.inl a', .inl b'] (.int (i : Nat))))) x = some (.ins C dx (F3 B U N)) := by
      rw [upd_ne nx'.symm]; exact hx'
    have hk := upd_same (H := upd H5 r (.tup [.int a', .int b'])) (a := N) (o := .dT (putK kvs [.inl a', .inl b'] (.int (i : Nat))))
    generalize upd (upd H5 r (.tup [.int a', .int b'])) N _ = H6 at *
    walk_at "xs"
    refine x_gAt hx' cc.ck.cls cc.numbers (by unfold F3; rw [lookup_putF, if_pos rfl]) ?_
    walk_at "xs"
    intro r2 hr2
    have S4 := same_upd hr2 (o := .tup [.int b', .int a'])
    have hk := S4 _ _ hk
    have E := E.trans (Ext.same S4)
    refine ⟨N, _, rfl, DPut.t hk (k := [.inl b', .inl a']) upd_same (by rw [sizeLine_eq]; omega), ?_⟩
    have E := E.trans (eU _ (.dT (putK (putK kvs [.inl a', .inl b'] (.int (i : Nat))) [.inl b', .inl a'] (.int (i : Nat)))))
    walk_at "xs"
    exact ⟨_, _, _, _, rfl, E, upd_same⟩
  · rintro _ H' ⟨y3, y4, y5, y6, rfl, E, hk⟩
    walk_at "xs"
    refine q _ (fun z o nz e => ?_) ⟨dx, B, U, N, _, E _ _ (by simpa using nx'.symm) hx4, nx, ?_, ?_, hk, nN, fun i j => ?_⟩
    · have h3 := X3 z o nz e
      exact E _ _ (by simpa using ne_of_none h3 hN) (X4 _ _ nz h3)
    · exact .lst (E _ _ (by simpa using nB) (X4 _ _ (by simpa using bx) hB3)) bM (DnAll.sub (by intro z h; simp [h]) (A1'.ext (eS E)))
    · exact .lst (E _ _ (by simpa using nU) (X4 _ _ (by simpa using ux) hU3)) uM (DnAll.sub (by intro z h; simp [h]) (A2'.ext (eS E)))
    · rw [l2]
      exact nums2_eq hall i j _ (Nat.le_refl _)

theorem dn_its {M : List Addr} {x : Addr} {H : Hp} {v : V} {ds : List PyData} (h : Dn (x :: M) H v (.list ds)) : ∃ a xs, v = .ref a ∧ H a = some (.lst xs) ∧ a ≠ x ∧ DnAll (x :: M) H xs ds := by
  cases h with
  | @lst a xs _ e m A => exact ⟨a, xs, rfl, e, fun z => m (by rw [z]; simp), A⟩
theorem km_init {k : Nat} (D : Dm K C "__init__" "Cluster.__init__" s_Cluster_init) (B : Bl mg) (cc : Cc K mg C) (c_are_bounds : Kn P w K mg base "are_bounds" k spBounds) (c_are_bundles : Kn P w K mg base "are_bundles" k spBundles)
    (m_keep : Km P w K mg base C "_keep" k (spKeep C)) (noKeep : True) : Km P w K mg base C "__init__" (k + 1) (spInit C) := by
  refine km_of D (fun _ _ _ _ _ _ us hl => match us, hl with | [_, _, _], _ => rfl) sc_Cluster_init (fun vs H Q E h => by obtain ⟨M, x, dx, v1, v2, ds1, ds2, rfl, _⟩ := h; rfl) (fun f cd B' fr z H vs Q E hr gd h => ?_)
  obtain ⟨M, x, dx, v1, v2, ds1, ds2, rfl, hM, nx, hx, hd1, hd2, hb1, hb2, q⟩ := h
  have c_Cluster := cc.ck
  refine ⟨_, (pss_cons (ps_if (pt_not (pt_val (pe_own c_are_bounds hr gd (by rfl) (pa_cons (pv 1) pa_nil)))) (pss_one ps_never) pss_nil)
  (pss_cons (ps_if (pt_not (pt_val (pe_own c_are_bundles hr gd (by rfl) (pa_cons (pv 2) (pa_cons (pe_callB call_len_seq (by rfl) B.len (by decide +kernel) (pa_cons (pv 1) pa_nil)) pa_nil))))) (pss_one ps_never) pss_nil)
  (pss_one (ps_expr (pe_ownM (pv 0) c_Cluster.cls m_keep hr gd (pa_cons (pv 1) (pa_cons (pv 2) pa_nil))))))), ?_⟩
  obtain ⟨len2, all2⟩ := bundles_len hb2
  have len1 := bounds_len hb1
  walk_at "xs"
  refine x_bounds hd1 (fun es e => by cases e; omega) ?_
  intro H1 S1
  rw [hb1]
  have hd1 := hd1.ext (Ext.same S1)
  have hd2 := hd2.ext (Ext.same S1)
  have hx := S1 _ _ hx
  have hd1' := hd1
  cases hd1' with
  | @lst a1 xs1 _ e1 m1 A1 =>
  have l1 := A1.length
  walk_at "xs"
  rw [l1]
  refine x_bundles hd2 (fun es e => by cases e; omega) ?_
  intro H2 S2
  rw [hb2]
  have hd1 := hd1.ext (Ext.same S2)
  have hd2 := hd2.ext (Ext.same S2)
  have hx := S2 _ _ hx
  walk_at "xs"
  refine x_mAt hx rfl ?_
  walk_at "xs"
  refine ⟨M, x, dx, _, _, ds1, ds2, _, rfl, fun m hm => ?_, nx, hx, dn_its hd1, dn_its hd2, all2, len2, fun H' X cl => ?_⟩
  · obtain ⟨o, e⟩ := hM m hm
    exact ⟨o, S2 _ _ (S1 _ _ e)⟩
  · walk_at "xs"
    exact q _ (fun z o n e => X _ _ n (S2 _ _ (S1 _ _ e))) cl
def spLen (C : Addr) : Sp := fun vs H Q _ => ∃ x M d1 ds2, vs = [.ref x] ∧ Clu C M H x d1 (.list ds2) ∧ Q (.int ds2.length) H
theorem km_len {k : Nat} (D : Dm K C "__len__" "Cluster.__len__" s_Cluster_len) (B : Bl mg) (cc : Cc K mg C) : Km P w K mg base C "__len__" (k + 1) (spLen C) := by
  refine km_of D (fun _ _ _ _ _ _ us hl => match us, hl with | [_], _ => rfl) sc_Cluster_len (fun vs H Q E h => by obtain ⟨x, M, d1, ds2, rfl, _⟩ := h; rfl) (fun f cd B' fr z H vs Q E hr gd h => ?_)
  obtain ⟨x, M, d1, ds2, rfl, ⟨dx, B0, U0, N0, kvs, hx, nx, hd1, hd2, hN, nN, ek⟩, q⟩ := h
  refine ⟨_, (pss_one (ps_ret (pe_callB call_len_seq (by rfl) B.len (by decide +kernel) (pa_cons (pe_fld (pv 0) (by rfl)) pa_nil)))), ?_⟩
  cases hd2 with
  | @lst a2 xs2 _ e2 m2 A2 =>
  walk_at "xs"
  refine x_gAt hx cc.ck.cls cc.bundles (f3_bundles ..) ?_
  walk_at "xs"
  rw [A2.length]
  exact q
def spCopy (C : Addr) : Sp := fun vs H Q _ => ∃ x M d1 ds2, vs = [.ref x] ∧ Clu C M H x d1 (.list ds2) ∧ ∀ H' l, Same H H' → H l = none → Dn [] H' (.ref l) (.list ds2) → Q (.ref l) H'
theorem km_bundles {k : Nat} (D : Dm K C "bundles" "Cluster.bundles" s_Cluster_bundles) (B : Bl mg) (cc : Cc K mg C) : Km P w K mg base C "bundles" (k + 1) (spCopy C) := by
  refine km_of D (fun _ _ _ _ _ _ us hl => match us, hl with | [_], _ => rfl) sc_Cluster_bundles (fun vs H Q E h => by obtain ⟨x, M, d1, ds2, rfl, _⟩ := h; rfl) (fun f cd B' fr z H vs Q E hr gd h => ?_)
  obtain ⟨x, M, d1, ds2, rfl, ⟨dx, B0, U0, N0, kvs, hx, nx, hd1, hd2, hN, nN, ek⟩, q⟩ := h
  refine ⟨_, (pss_one (ps_ret (pe_callTy call_list_of (by rfl) B.«list» (by decide +kernel) (pa_cons (pe_fld (pv 0) (by rfl)) pa_nil)))), ?_⟩
  cases hd2 with
  | @lst a2 xs2 _ e2 m2 A2 =>
  walk_at "xs"
  refine x_gAt hx cc.ck.cls cc.bundles (f3_bundles ..) ?_
  walk_at "xs"
  intro l hl
  walk_at "xs"
  exact q _ l (same_upd hl) hl (.lst upd_same (by simp) ((A2.sub (by simp)).ext (Ext.same (same_upd hl))))
/-- making one -/
theorem x_clu {H : Hp} {b c : Addr} {v1 v2 : V} {ds1 ds2 : List PyData} {Q : VK} (hB : Bag H b c) (hd1 : Dn [b] H v1 (.list ds1)) (hd2 : Dn [b] H v2 (.list ds2)) (hb1 : boundsD (.list ds1) = true) (hb2 : bundlesD (.list ds2) ds1.length = true)
    (h : ∀ x H', Same H H' → Bag H' b c → H x = none → Clu C [b] H' x (.list ds1) (.list ds2) → Q (.ref x) H') :
    ∀ x dx, H x = none → H dx = none → dx ≠ x → spInit C [.ref x, v1, v2] (upd (upd H dx (.own x)) x (.ins C dx [])) (fun v H2 => v = .non ∧ Q (.ref x) H2) E0 := by
  intro x dx hx hdx ne
  obtain ⟨ob, hob⟩ := hB.at
  have S1 := same_upd hdx (o := .own x)
  have hx1 : (upd H dx (.own x)) x = none := by rw [upd_ne ne.symm]; exact hx
  have S := S1.trans (same_upd hx1 (o := .ins C dx []))
  have nb : x ∉ [b] := new_out (Same.refl H) hob hx
  refine ⟨[b], x, dx, v1, v2, ds1, ds2, rfl, ?_, nb, upd_same, (hd1.more hx).ext (Ext.same S), (hd2.more hx).ext (Ext.same S), hb1, hb2, fun H' X cl => ⟨rfl, ?_⟩⟩
  · intro m hm
    simp at hm; subst hm
    exact ⟨_, S _ _ hob⟩
  · have S' : Same H H' := fun z o e => X _ _ (by simpa using ne_of_none e hx) (S _ _ e)
    exact h x H' S' (hB.ext S') hx cl
theorem x_clu2 {H : Hp} {b c : Addr} {v1 v2 : V} {ds1 ds2 : List PyData} {R : Addr → Hp → Prop} (hB : Bag H b c) (hd1 : Dn [b] H v1 (.list ds1)) (hd2 : Dn [b] H v2 (.list ds2)) (hb1 : boundsD (.list ds1) = true) (hb2 : bundlesD (.list ds2) ds1.length = true)
    (h : ∀ x H', Same H H' → Bag H' b c → H x = none → Clu C [b] H' x (.list ds1) (.list ds2) → R x H') :
    ∀ x dx, H x = none → H dx = none → dx ≠ x → spInit C (.ref x :: ([v1, v2] ++ [])) (upd (upd H dx (.own x)) x (.ins C dx [])) (fun v H2 => v = .non ∧ R x H2) E0 := by
  intro x dx hx hdx ne
  obtain ⟨ob, hob⟩ := hB.at
  have S1 := same_upd hdx (o := .own x)
  have hx1 : (upd H dx (.own x)) x = none := by rw [upd_ne ne.symm]; exact hx
  have S := S1.trans (same_upd hx1 (o := .ins C dx []))
  have nb : x ∉ [b] := new_out (Same.refl H) hob hx
  refine ⟨[b], x, dx, v1, v2, ds1, ds2, rfl, ?_, nb, upd_same, (hd1.more hx).ext (Ext.same S), (hd2.more hx).ext (Ext.same S), hb1, hb2, fun H' X cl => ⟨rfl, ?_⟩⟩
  · intro m hm
    simp at hm; subst hm
    exact ⟨_, S _ _ hob⟩
  · have S' : Same H H' := fun z o e => X _ _ (by simpa using ne_of_none e hx) (S _ _ e)
    exact h x H' S' (hB.ext S') hx cl
end

/-! ### loads, exactly -/
def ldStep (hs : List Int) (l a b c : Int) : List Int := (hs.set a.toNat (hs.getD a.toNat 0 + l)).set b.toNat ((hs.set a.toNat (hs.getD a.toNat 0 + l)).getD b.toNat 0 + c - l)
def ldOf (n : Nat) (rs : List PyData) (ls : List Int) : Nat → List Int
  | 0 => List.replicate n 0
  | i + 1 => match ls[i]?, rs[i]? with
    | some l, some (.tuple [.int a, .int b, .int c]) => ldStep (ldOf n rs ls i) l a b c
    | _, _ => ldOf n rs ls i
theorem ldStep_len (hs : List Int) (l a b c : Int) : (ldStep hs l a b c).length = hs.length := by
  unfold ldStep
  rw [List.length_set, List.length_set]
theorem ld_len (n : Nat) (rs : List PyData) (ls : List Int) : ∀ i, (ldOf n rs ls i).length = n
  | 0 => by rw [ldOf, List.length_replicate]
  | i + 1 => by
    unfold ldOf
    split
    · rw [ldStep_len]; exact ld_len n rs ls i
    · exact ld_len n rs ls i
theorem ld_next {n : Nat} {rs : List PyData} {ls : List Int} {i : Nat} {l a b c : Int} (hl : ls[i]? = some l) (hr : rs[i]? = some (tupD [a, b, c])) : ldOf n rs ls (i + 1) = ldStep (ldOf n rs ls i) l a b c := by
  show (match ls[i]?, rs[i]? with
    | some l, some (.tuple [.int a, .int b, .int c]) => ldStep (ldOf n rs ls i) l a b c
    | _, _ => ldOf n rs ls i) = _
  rw [hl, hr]
  rfl
/-- what was set, summed -/
theorem sum_set : ∀ (hs : List Int) (j : Nat) (v : Int), j < hs.length → (hs.set j (hs.getD j 0 + v)).sum = hs.sum + v
  | [], _, _, h => absurd h (Nat.not_lt_zero _)
  | x :: r, 0, v, _ => by simp only [List.set_cons_zero, List.getD_cons_zero, List.sum_cons]; omega
  | x :: r, j + 1, v, h => by
    have ih := sum_set r j v (by simpa using h)
    simp only [List.set_cons_succ, List.getD_cons_succ, List.sum_cons]
    omega
theorem ldStep_sum {hs : List Int} {l a b c : Int} (ha : a.toNat < hs.length) (hb : b.toNat < hs.length) : (ldStep hs l a b c).sum = hs.sum + c := by
  unfold ldStep
  have e : ∀ x : Int, x + c - l = x + (c - l) := fun x => by omega
  rw [e, sum_set _ _ _ (by rw [List.length_set]; exact hb), sum_set _ _ _ ha]
  omega
theorem getD_of {hs : List Int} {j : Nat} {v : Int} (h : hs[j]? = some v) : hs.getD j 0 = v := by
  rw [List.getD_eq_getElem?_getD, h]; rfl
/-! ### the other methods -/
theorem bound_row {d : PyData} (h : boundD d = true) : ∃ x y : Int, d = tupD [x, y] ∧ 0 ≤ x ∧ x ≤ y ∧ y ≤ 10 ^ 30 := by
  unfold boundD at h
  split at h
  · rename_i u v
    rw [Bool.and_eq_true] at h
    obtain ⟨h1, h2⟩ := h
    obtain ⟨x, rfl⟩ := inD_int h1
    have h2 : inD x (10 ^ 30) v = true := h2
    obtain ⟨y, rfl⟩ := inD_int h2
    have h1 : (decide (0 ≤ x) && decide (x ≤ 10 ^ 30)) = true := h1
    have h2 : (decide (x ≤ y) && decide (y ≤ 10 ^ 30)) = true := h2
    simp only [Bool.and_eq_true, decide_eq_true_eq] at h1 h2
    exact ⟨x, y, rfl, h1.1, h2.1, h2.2⟩
  · cases h
def spSize (C : Addr) : Sp := fun vs H Q _ => ∃ x M ds1 d2, vs = [.ref x] ∧ Clu C M H x (.list ds1) d2 ∧ Q (.int ds1.length) H
def spSide (C : Addr) (hi : Bool) : Sp := fun vs H Q _ => ∃ (x : Addr) (M : List Addr) (ds1 : List PyData) (d2 : PyData) (i : Int) (lo up : Int), vs = [.ref x, .int i] ∧ Clu C M H x (.list ds1) d2 ∧ 0 ≤ i ∧ i < ds1.length ∧ ds1[i.toNat]? = some (tupD [lo, up]) ∧ Q (.int (if hi = true then up else lo)) H
def spOf (C : Addr) : Sp := fun vs H Q _ => ∃ (x : Addr) (M : List Addr) (d1 : PyData) (rs : List PyData) (i j : Int), vs = [.ref x, .int i, .int j] ∧ Clu C M H x d1 (.list rs) ∧
  ∀ H', Same H H' → Q ((valV (nums rs rs.length) [.inl (if j < i then j else i), .inl (if j > i then j else i)]).getD .non) H'
section
variable {P : Program} {w : World} {K : PySem.W.Frag} {mg : Str → Option Value} {base : Heap} {t0 t1 t2 t3 t4 : Tok} {C : Addr}
theorem km_size {k : Nat} (D : Dm K C "size" "Cluster.size" s_Cluster_size) (B : Bl mg) (cc : Cc K mg C) : Km P w K mg base C "size" (k + 1) (spSize C) := by
  refine km_of D (fun _ _ _ _ _ _ us hl => match us, hl with | [_], _ => rfl) sc_Cluster_size (fun vs H Q E h => by obtain ⟨x, M, ds1, d2, rfl, _⟩ := h; rfl) (fun f cd B' fr z H vs Q E hr gd h => ?_)
  obtain ⟨x, M, ds1, d2, rfl, ⟨dx, B0, U0, N0, kvs, hx, nx, hd1, hd2, hN, nN, ek⟩, q⟩ := h
  refine ⟨_, (pss_one (ps_ret (pe_callB call_len_seq (by rfl) B.len (by decide +kernel) (pa_cons (pe_fld (pv 0) (by rfl)) pa_nil)))), ?_⟩
  cases hd1 with
  | @lst a1 xs1 _ e1 m1 A1 =>
  walk_at "xs"
  refine x_gAt hx cc.ck.cls cc.bounds (f3_bounds ..) ?_
  walk_at "xs"
  rw [A1.length]
  exact q
theorem km_floor {k : Nat} (D : Dm K C "floor" "Cluster.floor" s_Cluster_floor) (B : Bl mg) (cc : Cc K mg C) : Km P w K mg base C "floor" (k + 1) (spSide C false) := by
  refine km_of D (fun _ _ _ _ _ _ us hl => match us, hl with | [_, _], _ => rfl) sc_Cluster_floor (fun vs H Q E h => by obtain ⟨x, M, ds1, d2, i, lo, up, rfl, _⟩ := h; rfl) (fun f cd B' fr z H vs Q E hr gd h => ?_)
  obtain ⟨x, M, ds1, d2, i, lo, up, rfl, ⟨dx, B0, U0, N0, kvs, hx, nx, hd1, hd2, hN, nN, ek⟩, i0, i1, hrow, q⟩ := h
  refine ⟨_, (pss_one (ps_ret (pe_ix (r := rIxT K) ix_tup (pe_ix (r := rIxL K) ix_list (pe_fld (pv 0) (by rfl)) (pv 1) (fun _ _ => rfl)) pe_int (fun _ _ => rfl)))), ?_⟩
  cases hd1 with
  | @lst a1 xs1 _ e1 m1 A1 =>
  have l1 := A1.length
  walk_at "xs"
  refine x_gAt hx cc.ck.cls cc.bounds (f3_bounds ..) ?_
  obtain ⟨v, ev, av⟩ := ix_at e1 i0 (by omega)
  obtain ⟨d, hd, dv⟩ := A1.get ev
  rw [hrow] at hd
  cases hd
  cases dv with
  | tup r1 r2 r3 =>
  obtain rfl := DnAll.toInts (ms := [lo, up]) r3
  walk_at "xs"
  refine x_ixL (SqL.of e1) av ?_
  walk_at "xs"
  exact q
theorem km_ceiling {k : Nat} (D : Dm K C "ceiling" "Cluster.ceiling" s_Cluster_ceiling) (B : Bl mg) (cc : Cc K mg C) : Km P w K mg base C "ceiling" (k + 1) (spSide C true) := by
  refine km_of D (fun _ _ _ _ _ _ us hl => match us, hl with | [_, _], _ => rfl) sc_Cluster_ceiling (fun vs H Q E h => by obtain ⟨x, M, ds1, d2, i, lo, up, rfl, _⟩ := h; rfl) (fun f cd B' fr z H vs Q E hr gd h => ?_)
  obtain ⟨x, M, ds1, d2, i, lo, up, rfl, ⟨dx, B0, U0, N0, kvs, hx, nx, hd1, hd2, hN, nN, ek⟩, i0, i1, hrow, q⟩ := h
  refine ⟨_, (pss_one (ps_ret (pe_ix (r := rIxT K) ix_tup (pe_ix (r := rIxL K) ix_list (pe_fld (pv 0) (by rfl)) (pv 1) (fun _ _ => rfl)) pe_int (fun _ _ => rfl)))), ?_⟩
  cases hd1 with
  | @lst a1 xs1 _ e1 m1 A1 =>
  have l1 := A1.length
  walk_at "xs"
  refine x_gAt hx cc.ck.cls cc.bounds (f3_bounds ..) ?_
  obtain ⟨v, ev, av⟩ := ix_at e1 i0 (by omega)
  obtain ⟨d, hd, dv⟩ := A1.get ev
  rw [hrow] at hd
  cases hd
  cases dv with
  | tup r1 r2 r3 =>
  obtain rfl := DnAll.toInts (ms := [lo, up]) r3
  walk_at "xs"
  refine x_ixL (SqL.of e1) av ?_
  walk_at "xs"
  exact q
theorem km_bundle_of {k : Nat} (D : Dm K C "bundle_of" "Cluster.bundle_of" s_Cluster_bundle_of) (B : Bl mg) (cc : Cc K mg C) : Km P w K mg base C "bundle_of" (k + 1) (spOf C) := by
  refine km_of D (fun _ _ _ _ _ _ us hl => match us, hl with | [_, _, _], _ => rfl) sc_Cluster_bundle_of (fun vs H Q E h => by obtain ⟨x, M, d1, rs, i, j, rfl, _⟩ := h; rfl) (fun f cd B' fr z H vs Q E hr gd h => ?_)
  obtain ⟨x, M, d1, rs, i, j, rfl, ⟨dx, B0, U0, N0, kvs, hx, nx, hd1, hd2, hN, nN, ek⟩, q⟩ := h
  refine ⟨_, (pss_one (ps_ret (pe_dget1 (units1 (by exact hr.units)) (pe_fld (pv 0) (by rfl)) (pe_tup (pa_cons (pv 1) (pa_cons (pv 2) pa_nil))) ⟨rfl, rfl, rfl, rfl⟩))), ?_⟩
  walk_at "xs"
  refine x_dg1 ?_
  walk_at "xs"
  refine x_gAt hx cc.ck.cls cc.numbers (by unfold F3; rw [lookup_putF, if_pos rfl]) ?_
  refine ⟨N0, rfl, .inr ⟨_, .inl hN⟩, ?_⟩
  walk_at "xs"
  intro p hp
  have S := same_upd hp (o := .tup [.int i, .int j])
  refine ⟨_, DGet.t (S _ _ hN) (k := [.inl i, .inl j]) upd_same, ?_⟩
  rw [ek]
  exact q _ S
end

/-! ### bounds, is_rigid -/
def spCopyB (C : Addr) : Sp := fun vs H Q _ => ∃ x M ds1 d2, vs = [.ref x] ∧ Clu C M H x (.list ds1) d2 ∧ ∀ H' l, Same H H' → H l = none → Dn [] H' (.ref l) (.list ds1) → Q (.ref l) H'
def spRigid (C : Addr) : Sp := fun vs H Q _ => ∃ (x : Addr) (M : List Addr) (ds1 : List PyData) (d2 : PyData) (i : Int) (lo up : Int), vs = [.ref x, .int i] ∧ Clu C M H x (.list ds1) d2 ∧ 0 ≤ i ∧ i < ds1.length ∧ ds1[i.toNat]? = some (tupD [lo, up]) ∧ Q (.bl (decide (lo = up))) H
section
variable {P : Program} {w : World} {K : PySem.W.Frag} {mg : Str → Option Value} {base : Heap} {t0 t1 t2 t3 t4 : Tok} {C : Addr}
theorem km_bounds {k : Nat} (D : Dm K C "bounds" "Cluster.bounds" s_Cluster_bounds) (B : Bl mg) (cc : Cc K mg C) : Km P w K mg base C "bounds" (k + 1) (spCopyB C) := by
  refine km_of D (fun _ _ _ _ _ _ us hl => match us, hl with | [_], _ => rfl) sc_Cluster_bounds (fun vs H Q E h => by obtain ⟨x, M, ds1, d2, rfl, _⟩ := h; rfl) (fun f cd B' fr z H vs Q E hr gd h => ?_)
  obtain ⟨x, M, ds1, d2, rfl, ⟨dx, B0, U0, N0, kvs, hx, nx, hd1, hd2, hN, nN, ek⟩, q⟩ := h
  refine ⟨_, (pss_one (ps_ret (pe_callTy call_list_of (by rfl) B.«list» (by decide +kernel) (pa_cons (pe_fld (pv 0) (by rfl)) pa_nil)))), ?_⟩
  cases hd1 with
  | @lst a2 xs2 _ e2 m2 A2 =>
  walk_at "xs"
  refine x_gAt hx cc.ck.cls cc.bounds (f3_bounds ..) ?_
  walk_at "xs"
  intro l hl
  walk_at "xs"
  exact q _ l (same_upd hl) hl (.lst upd_same (by simp) ((A2.sub (by simp)).ext (Ext.same (same_upd hl))))
theorem km_rigid {k : Nat} (D : Dm K C "is_rigid" "Cluster.is_rigid" s_Cluster_is_rigid) (B : Bl mg) (cc : Cc K mg C) (m_floor : Km P w K mg base C "floor" k (spSide C false)) (m_ceiling : Km P w K mg base C "ceiling" k (spSide C true)) : Km P w K mg base C "is_rigid" (k + 1) (spRigid C) := by
  refine km_of D (fun _ _ _ _ _ _ us hl => match us, hl with | [_, _], _ => rfl) sc_Cluster_is_rigid (fun vs H Q E h => by obtain ⟨x, M, ds1, d2, i, lo, up, rfl, _⟩ := h; rfl) (fun f cd B' fr z H vs Q E hr gd h => ?_)
  obtain ⟨x, M, ds1, d2, i, lo, up, rfl, cl, i0, i1, hi, q⟩ := h
  have c_Cluster := cc.ck
  obtain ⟨dx, B0, U0, N0, kvs, hx, _⟩ := id cl
  refine ⟨_, (pss_one (ps_ret (pe_cmpR op_eq (pe_ownM (pv 0) c_Cluster.cls m_floor hr gd (pa_cons (pv 1) pa_nil)) (pe_ownM (pv 0) c_Cluster.cls m_ceiling hr gd (pa_cons (pv 1) pa_nil)) (nomark _)))), ?_⟩
  walk_at "xs"
  refine x_mAt hx (f3_none _ _ _ (by decide) (by decide) (by decide)) ?_
  walk_at "xs"
  refine ⟨x, M, ds1, d2, i, lo, up, rfl, cl, i0, i1, hi, ?_⟩
  walk_at "xs"
  refine x_mAt hx (f3_none _ _ _ (by decide) (by decide) (by decide)) ?_
  walk_at "xs"
  refine ⟨x, M, ds1, d2, i, lo, up, rfl, cl, i0, i1, hi, ?_⟩
  walk_at "xs"
  exact q
end

/-! ### loads of the program -/
def spLoadsP (C : Addr) : Sp := fun vs H Q _ => ∃ (x p : Addr) (M : List Addr) (ds1 rs : List PyData) (ls : List Int), vs = [.ref x, .ref p] ∧ Clu C M H x (.list ds1) (.list rs) ∧ H p = some (.tup (ls.map V.int)) ∧ boundsD (.list ds1) = true ∧ bundlesD (.list rs) ds1.length = true ∧ ls.length = rs.length ∧
  ∀ (H' : Hp) (f : Addr), Same H H' → H f = none → H' f = some (.lst ((ldOf ds1.length rs ls ls.length).map V.int)) → Q (.ref f) H'
section
variable {P : Program} {w : World} {K : PySem.W.Frag} {mg : Str → Option Value} {base : Heap} {t0 t1 t2 t3 t4 : Tok} {C : Addr}
theorem kn_loadsP {k : Nat} (D : Df K mg "loads" s_loads) (B : Bl mg) (cc : Cc K mg C) (m_size : Km P w K mg base C "size" k (spSize C)) (m_bundles : Km P w K mg base C "bundles" k (spCopy C)) : Kn P w K mg base "loads" (k + 1) (spLoadsP C) := by
  refine kn_of D (fun _ _ _ _ _ _ us hl => match us, hl with | [_, _], _ => rfl) sc_loads (fun vs H Q E h => by obtain ⟨x, p, M, ds1, rs, ls, rfl, _⟩ := h; rfl) (fun f cd B' fr z H vs Q E hr gd h => ?_)
  obtain ⟨x, p, M, ds1, rs, ls, rfl, hc, hp, hb1, hb, same, q⟩ := h
  have c_Cluster := cc.ck
  refine ⟨_, (pss_cons (ps_set (i := 2) sc_loads.nd rfl (.inl rfl) (pe_op op_rep (pe_lst (pa_cons pe_int pa_nil)) (pe_ownM0 (pv 0) c_Cluster.cls m_size hr gd)))
  (pss_cons (ps_for PassesOwn.never rfl (pi_zipM (by rfl) B.zip (pa_cons (pv 1) (pa_cons (pe_ownM0 (pv 0) c_Cluster.cls m_bundles hr gd) pa_nil))) (pg_tup (by rfl) (pgs_cons (pg_name (i := 3) sc_loads.nd rfl (.inl rfl)) (pgs_cons (pg_tup (by rfl) (pgs_cons (pg_name (i := 4) sc_loads.nd rfl (.inl rfl)) (pgs_cons (pg_name (i := 5) sc_loads.nd rfl (.inl rfl)) (pgs_cons (pg_name (i := 6) sc_loads.nd rfl (.inl rfl)) pgs_nil)))) pgs_nil)))
  (pss_cons (ps_augS (pv 2) (pv 4) get_list (pv 3) ip_add set_list)
  (pss_one (ps_augS (pv 2) (pv 5) get_list (pe_op op_sub (pv 6) (pv 3)) ip_add set_list))))
  (pss_one (ps_ret (pv 2))))), ?_⟩
  obtain ⟨len, all⟩ := bundles_len hb
  have n1 := bounds_len hb1
  obtain ⟨dx, B0, U0, N0, kvs, hx, _⟩ := id hc
  walk_at "xs"
  intro o ho
  have S0 := same_upd ho (o := .lst [.int 0])
  have eo := upd_same (H := H) (a := o) (o := .lst [.int 0])
  have hc0 := hc.ext (Ext.same S0)
  have hx0 := S0 _ _ hx
  generalize upd H o _ = H1 at *
  walk_at "xs"
  refine x_mAt hx0 (f3_none _ _ _ (by decide) (by decide) (by decide)) ?_
  walk_at "xs"
  refine ⟨x, M, ds1, _, rfl, hc0, ?_⟩
  refine x_rep eo (by omega) (by omega) (by rw [sizeLine_eq]; simp only [List.length_cons, List.length_nil]; omega) ?_
  intro F hF
  rw [repl_int, Int.toNat_natCast]
  have hF0 : H F = none := S0.free hF
  have S1 : Same H (upd H1 F (.lst ((List.replicate ds1.length (0 : Int)).map V.int))) := S0.trans (same_upd hF)
  have eF := upd_same (H := H1) (a := F) (o := .lst ((List.replicate ds1.length (0 : Int)).map V.int))
  generalize upd H1 F _ = H2 at *
  have hc2 := hc.ext (Ext.same S1)
  walk_at "xs"
  refine x_mAt (S1 _ _ hx) (f3_none _ _ _ (by decide) (by decide) (by decide)) ?_
  walk_at "xs"
  refine ⟨x, M, .list ds1, rs, rfl, hc2, ?_⟩
  intro H3 a S3 na da
  cases da with
  | @lst _ xs _ ea ma A =>
  have lx := A.length
  have S13 := S1.trans S3
  have hp3 := S13 _ _ hp
  have eF3 := S3 _ _ eF
  have aF : a ≠ F := ne_of_none2 na eF
  walk_at "xs"
  refine for_zipM (K := K) (us := ls.map V.int) (vs := xs) (by rw [List.length_map]; omega) (fun i σ' H' => ∃ (y3 y4 y5 y6 : Option V), σ' = [some (.ref x), some (.ref p), some (.ref F), y3, y4, y5, y6] ∧ H' F = some (.lst ((ldOf ds1.length rs ls i).map V.int)) ∧ (∀ z o, z ≠ F → H3 z = some o → H' z = some o)) ?_ ?_ ?_ ?_
  · exact ⟨_, _, _, _, rfl, eF3, fun z o _ e => e⟩
  · rintro i _ H' ⟨_, _, _, _, _, _, S⟩
    exact ⟨SqT.of (S _ _ (ne_of_none hp hF0) hp3), SqL.of (S _ _ aF ea)⟩
  · rintro i u r t _ H' hu hv ⟨y3, y4, y5, y6, rfl, fd, S⟩ ht
    obtain ⟨l, hl, rfl⟩ := int_at hu
    obtain ⟨dR, hdR, dnR⟩ := A.get hv
    have hbd : bundleD dR ds1.length = true := by
      rw [List.all_eq_true] at all
      exact all _ (List.mem_map.mpr ⟨dR, List.mem_of_getElem? hdR, rfl⟩)
    obtain ⟨a', b', c', rfl, p0, p1, p2, p3, p4⟩ := bundle_row hbd (by omega)
    obtain ⟨r', rfl, _, hr2⟩ := Dn.tup3 (a := a') (b := b') (c := c') dnR
    have rF : r' ≠ F := fun e => by rw [e, eF3] at hr2; cases hr2
    have nx := ld_next (n := ds1.length) hl hdR
    have hn := ld_len ds1.length rs ls i
    generalize ldOf ds1.length rs ls i = hs at *
    have hr3 := S _ _ rF hr2
    have ntF : t ≠ F := ne_of_none2 ht fd
    have nrt : r' ≠ t := ne_of_none hr3 ht
    have fd' : (upd H' t (.tup [.int l, .ref r'])) F = some (.lst (hs.map V.int)) := by rw [upd_ne ntF.symm]; exact fd
    have hr4 : (upd H' t (.tup [.int l, .ref r'])) r' = some (.tup [.int a', .int b', .int c']) := by rw [upd_ne nrt]; exact hr3
    have et := upd_same (H := H') (a := t) (o := .tup [.int l, .ref r'])
    have S2 : ∀ z o, z ≠ F → H3 z = some o → (upd H' t (.tup [.int l, .ref r'])) z = some o := fun z o n e => by rw [upd_ne (ne_of_none (S _ _ n e) ht)]; exact S _ _ n e
    generalize upd H' t _ = H4 at *
    walk_at "xs"
    obtain ⟨v1, hv1, at1⟩ := at_map (hs := hs) p0 (by omega)
    refine x_getL fd' (by omega) (v := .int v1) (by rw [List.getElem?_map, hv1]; rfl) ?_
    walk_at "xs"
    refine x_setL fd' (ixN_of p0 (by rw [List.length_map]; omega)) ?_
    rw [set_map, ← getD_of hv1]
    obtain ⟨hs1, eh1⟩ : ∃ hs1, hs1 = hs.set a'.toNat (hs.getD a'.toNat 0 + l) := ⟨_, rfl⟩
    rw [← eh1]
    have len1 : hs1.length = ds1.length := by rw [eh1, List.length_set]; exact hn
    have S4 : ∀ z o, z ≠ F → H3 z = some o → (upd H4 F (.lst (hs1.map V.int))) z = some o := fun z o n e => by rw [upd_ne n]; exact S2 _ _ n e
    have fd2 := upd_same (H := H4) (a := F) (o := .lst (hs1.map V.int))
    generalize upd H4 F _ = H5 at *
    walk_at "xs"
    obtain ⟨v2, hv2, at2⟩ := at_map (hs := hs1) (i := b') (by omega) (by omega)
    refine x_getL fd2 (by omega) (v := .int v2) (by rw [List.getElem?_map, hv2]; rfl) ?_
    walk_at "xs"
    refine x_setL fd2 (ixN_of (by omega) (by rw [List.length_map]; omega)) ?_
    rw [set_map, ← getD_of hv2]
    walk_at "xs"
    refine ⟨_, _, _, _, rfl, ?_, fun z o n e => by rw [upd_ne n]; exact S4 _ _ n e⟩
    rw [upd_same, nx, eh1]
    unfold ldStep
    rw [show ∀ x : Int, x + (c' - l) = x + c' - l from fun x => by omega]
  · rintro _ H' ⟨y3, y4, y5, y6, rfl, fd, S⟩
    rw [List.length_map] at fd
    walk_at "xs"
    exact q _ F (fun z o e => S _ _ (ne_of_none e hF0) (S13 _ _ e)) hF0 fd
end

/-! ### the first load that its broker's bounds don't allow -/
def OkAt (ds : List PyData) (hs : List Int) (j : Nat) : Prop := ∀ (lo up h : Int), ds[j]? = some (tupD [lo, up]) → hs[j]? = some h → lo ≤ h ∧ h ≤ up
def BadAt (ds : List PyData) (hs : List Int) (j : Nat) : Prop := ∃ (lo up h : Int), ds[j]? = some (tupD [lo, up]) ∧ hs[j]? = some h ∧ ¬ (lo ≤ h ∧ h ≤ up)
def FirstBad (ds : List PyData) (hs : List Int) (v : V) : Prop := (∃ i : Nat, v = .int i ∧ BadAt ds hs i ∧ ∀ j, j < i → OkAt ds hs j) ∨ (v = .non ∧ ∀ j, j < hs.length → OkAt ds hs j)
theorem okbad {ds : List PyData} {hs : List Int} {j : Nat} (a : OkAt ds hs j) (b : BadAt ds hs j) : False := by
  obtain ⟨lo, up, h, e1, e2, n⟩ := b
  exact n (a lo up h e1 e2)
theorem FirstBad.one {ds : List PyData} {hs : List Int} {u v : V} (a : FirstBad ds hs u) (b : FirstBad ds hs v) : u = v := by
  have lt : ∀ {j : Nat}, BadAt ds hs j → j < hs.length := fun ⟨_, _, _, _, e, _⟩ => (List.getElem?_eq_some_iff.mp e).1
  rcases a with ⟨i, rfl, b1, o1⟩ | ⟨rfl, o1⟩
  · rcases b with ⟨j, rfl, b2, o2⟩ | ⟨rfl, o2⟩
    · rcases Nat.lt_trichotomy i j with h | h | h
      · exact (okbad (o2 _ h) b1).elim
      · rw [h]
      · exact (okbad (o1 _ h) b2).elim
    · exact (okbad (o2 _ (lt b1)) b1).elim
  · rcases b with ⟨j, rfl, b2, o2⟩ | ⟨rfl, o2⟩
    · exact (okbad (o1 _ (lt b2)) b2).elim
    · rfl
/-! ### rows that are built -/
def RowD (d : PyData) : Prop := ∃ ns : List Int, d = tupD ns ∧ 0 < ns.length ∧ ns.length ≤ 3 ∧ ∀ n ∈ ns, n.natAbs < 2 ^ 200
structure Rb (H0 : Hp) (b c f : Addr) (acc : List V) (ds : List PyData) (H : Hp) : Prop where
  e : Ext [b] H0 H
  bag : Bag H b c
  fd : H f = some (.lst acc)
  ne : f ∉ [b]
  nc : c ≠ f
  f0 : H0 f = none
  rows : DnAll [b, f] H acc ds
  row : ∀ d ∈ ds, RowD d
theorem Rb.step {H0 H H' : Hp} {b c f : Addr} {acc : List V} {ds : List PyData} (r : Rb H0 b c f acc ds H) (E : Ext [b] H H') (B : Bag H' b c) : Rb H0 b c f acc ds H' :=
  ⟨r.e.trans E, B, E _ _ r.ne r.fd, r.ne, r.nc, r.f0, r.rows.ext (E.mono (by intro x h; simp at h ⊢; exact .inl h)), r.row⟩
theorem Rb.new {H0 H : Hp} {b c f p : Addr} {acc : List V} {ds : List PyData} (u : HO) (r : Rb H0 b c f acc ds H) (hp : H p = none) : Rb H0 b c f acc ds (upd H p u) ∧ p ∉ [b] ∧ p ∉ [b, f] ∧ upd H p u p = some u := by
  obtain ⟨ob, hob⟩ := r.bag.at
  have h1 := new_out (o := ob) (Same.refl H) hob hp
  have h2 : p ≠ f := ne_of_none2 hp r.fd
  exact ⟨r.step (Ext.same (same_upd hp)) (r.bag.ext (same_upd hp)), h1, by simp at h1 ⊢; exact ⟨h1, h2⟩, upd_same⟩
theorem Rb.app {H0 H : Hp} {b c f : Addr} {acc : List V} {ds : List PyData} {v : V} {d : PyData} (r : Rb H0 b c f acc ds H) (hv : Dn [b, f] H v d) (hd : RowD d) :
    Rb H0 b c f (acc ++ [v]) (ds ++ [d]) (upd H f (.lst (acc ++ [v]))) := by
  have X1 : Ext [b, f] H (upd H f (.lst (acc ++ [v]))) := Ext.upd (by simp)
  have nb : b ≠ f := fun e => r.ne (by rw [e]; simp)
  refine ⟨fun a o n e => ?_, ?_, upd_same, r.ne, r.nc, r.f0, (r.rows.ext X1).app (.cons (hv.ext X1) .nil), ?_⟩
  · rw [upd_ne (ne_of_none e r.f0)]; exact r.e _ _ n e
  · obtain ⟨x, y, k, cs, h1, h2, h3⟩ := r.bag
    exact ⟨x, y, k, cs, by rw [upd_ne nb]; exact h1, by rw [upd_ne r.nc]; exact h2, h3⟩
  · intro u hu
    rcases List.mem_append.mp hu with h | h
    · exact r.row u h
    · simp at h; subst h; exact hd
theorem Rb.dn {H0 H : Hp} {b c f : Addr} {acc : List V} {ds : List PyData} (r : Rb H0 b c f acc ds H) : Dn [b] H (.ref f) (.list ds) := .lst r.fd r.ne (r.rows.sub (by intro x h; simp at h ⊢; exact .inl h))
theorem Rb.mk0 {H0 : Hp} {b c f : Addr} (hB : Bag H0 b c) (hf : H0 f = none) : Rb H0 b c f [] [] (upd H0 f (.lst [])) := by
  obtain ⟨ob, hob⟩ := hB.at
  refine ⟨Ext.same (same_upd hf), hB.ext (same_upd hf), upd_same, new_out (Same.refl H0) hob hf, ?_, hf, .nil, by simp⟩
  obtain ⟨x, y, k, cs, h1, h2, h3⟩ := hB
  exact ne_of_none h2 hf
theorem in3 {x y : V} {a b c : Int} {k : Nat} (h : x ∈ [V.int a, V.int b, V.int c]) (ha : a.natAbs < k) (hb : b.natAbs < k) (hc : c.natAbs < k) : ∃ i, x = .int i ∧ i.natAbs < k := by
  simp only [List.mem_cons, List.not_mem_nil, or_false] at h
  rcases h with rfl | rfl | rfl
  · exact ⟨_, rfl, ha⟩
  · exact ⟨_, rfl, hb⟩
  · exact ⟨_, rfl, hc⟩

def cntD : PyData → Int
  | .tuple [_, _, .int c] => c
  | _ => 0
/-- places of pairs so far -/
def tri (n : Nat) : Nat → Nat
  | 0 => 0
  | i + 1 => tri n i + (n - (i + 1))
theorem tri_le : ∀ n, n ≤ 10 → tri n n ≤ 45 := by decide
theorem tri_mono (n : Nat) : ∀ i, tri n i ≤ tri n (i + 1) := fun i => Nat.le_add_right _ _
structure Good (n i j : Int) (ds : List PyData) : Prop where
  all : (ds.map fun d => bundleD d n).all id = true
  nd : (ds.map pairD).Nodup
  lt : ∀ d ∈ ds, ∃ a b, pairD d = [a, b] ∧ (a < i ∨ (a = i ∧ b < j))
theorem Good.skip {n i j j' : Int} {ds : List PyData} (g : Good n i j ds) (h : j ≤ j') : Good n i j' ds := ⟨g.all, g.nd, fun d hd => by
  obtain ⟨a, b, e, c⟩ := g.lt d hd
  exact ⟨a, b, e, by omega⟩⟩
theorem Good.next {n i j i' j' : Int} {ds : List PyData} (g : Good n i j ds) (h : i < i') : Good n i' j' ds := ⟨g.all, g.nd, fun d hd => by
  obtain ⟨a, b, e, c⟩ := g.lt d hd
  exact ⟨a, b, e, by omega⟩⟩
theorem good_one {n i j c : Int} (h0 : 0 ≤ i) (h1 : i < j) (h2 : j < n) (c0 : 1 ≤ c) (c1 : c ≤ 10 ^ 18) : bundleD (tupD [i, j, c]) n = true := by
  show (inD 1 (10 ^ 18) (.int c) && (brokerD (.int i) n && (brokerD (.int j) n && ltD (.int i) (.int j)))) = true
  show ((decide (1 ≤ c) && decide (c ≤ 10 ^ 18)) && ((decide (0 ≤ i) && decide (i < n)) && ((decide (0 ≤ j) && decide (j < n)) && decide (i < j)))) = true
  simp only [Bool.and_eq_true, decide_eq_true_eq]
  exact ⟨⟨c0, c1⟩, ⟨h0, by omega⟩, ⟨by omega, h2⟩, h1⟩
theorem Good.add {n i j c : Int} {ds : List PyData} (g : Good n i j ds) (h0 : 0 ≤ i) (h1 : i < j) (h2 : j < n) (c0 : 1 ≤ c) (c1 : c ≤ 10 ^ 18) : Good n i (j + 1) (ds ++ [tupD [i, j, c]]) := by
  refine ⟨?_, ?_, ?_⟩
  · rw [List.map_append, List.all_append, g.all]
    simp [good_one h0 h1 h2 c0 c1]
  · rw [List.map_append, List.nodup_append]
    refine ⟨g.nd, by simp, fun u hu v hv e => ?_⟩
    simp only [List.map_cons, List.map_nil, List.mem_cons, List.not_mem_nil, or_false] at hv
    obtain ⟨d, hd, rfl⟩ := List.mem_map.mp hu
    obtain ⟨a, b, e2, k⟩ := g.lt d hd
    rw [e2, hv] at e
    have e : [a, b] = [i, j] := e
    simp only [List.cons.injEq, and_true] at e
    omega
  · intro d hd
    rcases List.mem_append.mp hd with h | h
    · obtain ⟨a, b, e, k⟩ := g.lt d h
      exact ⟨a, b, e, by omega⟩
    · simp only [List.mem_cons, List.not_mem_nil, or_false] at h
      subst h
      exact ⟨i, j, rfl, by omega⟩
theorem Good.done {n i j : Int} {ds : List PyData} (g : Good n i j ds) (h : ds.length ≤ 45) : bundlesD (.list ds) n = true := by
  show (decide ((ds.length : Int) ≤ 45) && ((ds.map fun d => bundleD d n).all id && decide ((ds.map pairD).Nodup))) = true
  simp only [Bool.and_eq_true, decide_eq_true_eq]
  exact ⟨by omega, g.all, g.nd⟩
theorem bundles_rev {n : Int} {ds : List PyData} (h : bundlesD (.list ds) n = true) : bundlesD (.list ds.reverse) n = true := by
  have h : (decide ((ds.length : Int) ≤ 45) && ((ds.map fun d => bundleD d n).all id && decide ((ds.map pairD).Nodup))) = true := h
  show (decide ((ds.reverse.length : Int) ≤ 45) && ((ds.reverse.map fun d => bundleD d n).all id && decide ((ds.reverse.map pairD).Nodup))) = true
  simp only [Bool.and_eq_true, decide_eq_true_eq] at h ⊢
  refine ⟨by rw [List.length_reverse]; exact h.1, ?_, ?_⟩
  · rw [List.map_reverse, List.all_reverse]; exact h.2.1
  · rw [List.map_reverse]; exact (List.reverse_perm _).nodup_iff.mpr h.2.2
theorem row_of {i j c : Int} (h0 : 0 ≤ i) (h1 : i < j) (h2 : j < 10) (c0 : 1 ≤ c) (c1 : c ≤ 10 ^ 18) : RowD (tupD [i, j, c]) := by
  have big : (10 : Int) ^ 18 < 2 ^ 150 := by decide
  have big2 : (2 : Nat) ^ 150 + 100 < 2 ^ 200 := by decide
  refine ⟨_, rfl, Nat.le_of_ble_eq_true rfl, Nat.le_of_ble_eq_true rfl, ?_⟩
  intro m hm
  simp only [List.mem_cons, List.not_mem_nil, or_false] at hm
  rcases hm with rfl | rfl | rfl <;> omega

theorem Rb.ins {H0 H : Hp} {b c f : Addr} {acc : List V} {ds : List PyData} {v : V} {d : PyData} (k : Nat) (r : Rb H0 b c f acc ds H) (hv : Dn [b, f] H v d) (hd : RowD d) :
    Rb H0 b c f (acc.take k ++ [v] ++ acc.drop k) (ds.take k ++ [d] ++ ds.drop k) (upd H f (.lst (acc.take k ++ [v] ++ acc.drop k))) := by
  have X1 : Ext [b, f] H (upd H f (.lst (acc.take k ++ [v] ++ acc.drop k))) := Ext.upd (by simp)
  have nb : b ≠ f := fun e => r.ne (by rw [e]; simp)
  refine ⟨fun a o n e => ?_, ?_, upd_same, r.ne, r.nc, r.f0, (((r.rows.take k).app (.cons hv .nil)).app (r.rows.drop k)).ext X1, ?_⟩
  · rw [upd_ne (ne_of_none e r.f0)]; exact r.e _ _ n e
  · obtain ⟨x, y, m, cs, h1, h2, h3⟩ := r.bag
    exact ⟨x, y, m, cs, by rw [upd_ne nb]; exact h1, by rw [upd_ne r.nc]; exact h2, h3⟩
  · intro u hu
    rcases List.mem_append.mp hu with h | h
    · rcases List.mem_append.mp h with h | h
      · exact r.row u (List.mem_of_mem_take h)
      · simp at h; subst h; exact hd
    · exact r.row u (List.mem_of_mem_drop h)
theorem ins_perm {α : Type} (ds : List α) (d : α) (k : Nat) : (ds.take k ++ [d] ++ ds.drop k).Perm (ds ++ [d]) := by
  have h : (ds.take k ++ ([d] ++ ds.drop k)).Perm (ds.take k ++ (ds.drop k ++ [d])) := List.Perm.append_left _ List.perm_append_comm
  rw [← List.append_assoc, ← List.append_assoc, List.take_append_drop] at h
  exact h
theorem Good.perm {n i j : Int} {ds es : List PyData} (g : Good n i j ds) (p : es.Perm ds) : Good n i j es := by
  refine ⟨?_, (p.map pairD).nodup_iff.mpr g.nd, fun d hd => g.lt d (p.mem_iff.mp hd)⟩
  have h := g.all
  rw [List.all_eq_true] at h ⊢
  intro x hx
  obtain ⟨d, hd, rfl⟩ := List.mem_map.mp hx
  exact h _ (List.mem_map.mpr ⟨d, p.mem_iff.mp hd, rfl⟩)

/-! ### rows that are built, away from standing addresses -/
structure Rn (N : List Addr) (H0 : Hp) (b c f : Addr) (acc : List V) (ds : List PyData) (H : Hp) : Prop where
  e : Ext [b] H0 H
  bag : Bag H b c
  fd : H f = some (.lst acc)
  ne : f ∉ [b]
  nN : f ∉ N
  nc : c ≠ f
  f0 : H0 f = none
  bn : b ∈ N
  al : ∀ m ∈ N, ∃ o, H0 m = some o
  rows : DnAll (f :: N) H acc ds
  row : ∀ d ∈ ds, RowD d
theorem al_ext {N : List Addr} {b c : Addr} {H H' : Hp} (al : ∀ m ∈ N, ∃ o, H m = some o) (E : Ext [b] H H') (B : Bag H' b c) : ∀ m ∈ N, ∃ o, H' m = some o := fun m hm => by
  by_cases e : m = b
  · subst e; exact B.at
  · obtain ⟨o, h⟩ := al m hm
    exact ⟨o, E _ _ (by simpa using e) h⟩
theorem Rn.step {N : List Addr} {H0 H H' : Hp} {b c f : Addr} {acc : List V} {ds : List PyData} (r : Rn N H0 b c f acc ds H) (E : Ext [b] H H') (B : Bag H' b c) : Rn N H0 b c f acc ds H' :=
  ⟨r.e.trans E, B, E _ _ r.ne r.fd, r.ne, r.nN, r.nc, r.f0, r.bn, r.al, r.rows.ext (E.mono (by intro x h; simp at h; subst h; exact List.mem_cons_of_mem _ r.bn)), r.row⟩
theorem Rn.new {N : List Addr} {H0 H : Hp} {b c f p : Addr} {acc : List V} {ds : List PyData} (u : HO) (r : Rn N H0 b c f acc ds H) (hp : H p = none) : Rn N H0 b c f acc ds (upd H p u) ∧ p ∉ [b] ∧ p ∉ f :: N ∧ upd H p u p = some u := by
  obtain ⟨ob, hob⟩ := r.bag.at
  have h1 := new_out (o := ob) (Same.refl H) hob hp
  have h2 : p ≠ f := ne_of_none2 hp r.fd
  have h3 : p ∉ N := fun m => by
    obtain ⟨o, e⟩ := al_ext r.al r.e r.bag _ m
    rw [e] at hp; cases hp
  exact ⟨r.step (Ext.same (same_upd hp)) (r.bag.ext (same_upd hp)), h1, by simp; exact ⟨h2, h3⟩, upd_same⟩
theorem Rn.app {N : List Addr} {H0 H : Hp} {b c f : Addr} {acc : List V} {ds : List PyData} {v : V} {d : PyData} (r : Rn N H0 b c f acc ds H) (hv : Dn (f :: N) H v d) (hd : RowD d) :
    Rn N H0 b c f (acc ++ [v]) (ds ++ [d]) (upd H f (.lst (acc ++ [v]))) := by
  have X1 : Ext (f :: N) H (upd H f (.lst (acc ++ [v]))) := Ext.upd (by simp)
  have nb : b ≠ f := fun e => r.ne (by rw [e]; simp)
  refine ⟨fun a o n e => ?_, ?_, upd_same, r.ne, r.nN, r.nc, r.f0, r.bn, r.al, (r.rows.ext X1).app (.cons (hv.ext X1) .nil), ?_⟩
  · rw [upd_ne (ne_of_none e r.f0)]; exact r.e _ _ n e
  · obtain ⟨x, y, k, cs, h1, h2, h3⟩ := r.bag
    exact ⟨x, y, k, cs, by rw [upd_ne nb]; exact h1, by rw [upd_ne r.nc]; exact h2, h3⟩
  · intro u hu
    rcases List.mem_append.mp hu with h | h
    · exact r.row u h
    · simp at h; subst h; exact hd
theorem Rn.ins {N : List Addr} {H0 H : Hp} {b c f : Addr} {acc : List V} {ds : List PyData} {v : V} {d : PyData} (k : Nat) (r : Rn N H0 b c f acc ds H) (hv : Dn (f :: N) H v d) (hd : RowD d) :
    Rn N H0 b c f (acc.take k ++ [v] ++ acc.drop k) (ds.take k ++ [d] ++ ds.drop k) (upd H f (.lst (acc.take k ++ [v] ++ acc.drop k))) := by
  have X1 : Ext (f :: N) H (upd H f (.lst (acc.take k ++ [v] ++ acc.drop k))) := Ext.upd (by simp)
  have nb : b ≠ f := fun e => r.ne (by rw [e]; simp)
  refine ⟨fun a o n e => ?_, ?_, upd_same, r.ne, r.nN, r.nc, r.f0, r.bn, r.al, (((r.rows.take k).app (.cons hv .nil)).app (r.rows.drop k)).ext X1, ?_⟩
  · rw [upd_ne (ne_of_none e r.f0)]; exact r.e _ _ n e
  · obtain ⟨x, y, m, cs, h1, h2, h3⟩ := r.bag
    exact ⟨x, y, m, cs, by rw [upd_ne nb]; exact h1, by rw [upd_ne r.nc]; exact h2, h3⟩
  · intro u hu
    rcases List.mem_append.mp hu with h | h
    · rcases List.mem_append.mp h with h | h
      · exact r.row u (List.mem_of_mem_take h)
      · simp at h; subst h; exact hd
    · exact r.row u (List.mem_of_mem_drop h)
theorem Rn.dn {N : List Addr} {H0 H : Hp} {b c f : Addr} {acc : List V} {ds : List PyData} (r : Rn N H0 b c f acc ds H) : Dn N H (.ref f) (.list ds) := .lst r.fd r.nN (r.rows.sub (by intro x h; simp [h]))
theorem Rn.mk0 {N : List Addr} {H0 : Hp} {b c f : Addr} (bn : b ∈ N) (al : ∀ m ∈ N, ∃ o, H0 m = some o) (hB : Bag H0 b c) (hf : H0 f = none) : Rn N H0 b c f [] [] (upd H0 f (.lst [])) := by
  obtain ⟨ob, hob⟩ := hB.at
  refine ⟨Ext.same (same_upd hf), hB.ext (same_upd hf), upd_same, new_out (Same.refl H0) hob hf, fun m => ?_, ?_, hf, bn, al, .nil, by simp⟩
  · obtain ⟨o, e⟩ := al _ m
    rw [e] at hf; cases hf
  · obtain ⟨x, y, k, cs, h1, h2, h3⟩ := hB
    exact ne_of_none h2 hf

def LeadsOk (rs : List PyData) (ls : List Int) : Prop := ls.length = rs.length ∧ ∀ (i : Nat) (l : Int) (r : PyData), ls[i]? = some l → rs[i]? = some r → 0 ≤ l ∧ l ≤ cntD r
theorem e18 : (10 : Int) ^ 18 = 1000000000000000000 := by decide
/-- the exact loads are small -/
theorem ld_small {n : Int} {rs : List PyData} {ls : List Int} (hb : bundlesD (.list rs) n = true) (n1 : n ≤ 10) (ok : LeadsOk rs ls) : ∀ i, i ≤ ls.length → ∀ h ∈ ldOf n.toNat rs ls i, 0 ≤ h ∧ h ≤ 2 * (i : Int) * 1000000000000000000
  | 0, _, h, hh => by
    obtain rfl := (List.mem_replicate.mp hh).2
    omega
  | i + 1, hi, h, hh => by
    have ih := ld_small hb n1 ok i (by omega)
    obtain ⟨same, hls⟩ := ok
    obtain ⟨len, all⟩ := bundles_len hb
    have hl : ls[i]? = some ls[i] := List.getElem?_eq_getElem (by omega)
    have hi2 : i < rs.length := by omega
    have hr : rs[i]? = some rs[i] := List.getElem?_eq_getElem hi2
    have hbd : bundleD rs[i] n = true := by
      rw [List.all_eq_true] at all
      exact all _ (List.mem_map.mpr ⟨rs[i], List.getElem_mem hi2, rfl⟩)
    obtain ⟨a, b, c, e, p0, p1, p2, p3, p4⟩ := bundle_row hbd n1
    rw [e] at hr
    obtain ⟨l0, l1⟩ := hls i _ _ hl hr
    have l1 : ls[i] ≤ c := l1
    rw [e18] at p4
    have hn := ld_len n.toNat rs ls i
    rw [ld_next hl hr] at hh
    generalize ls[i] = l at *
    generalize ldOf n.toNat rs ls i = hs at *
    have gb : ∀ (xs : List Int) (j : Nat) (m : Int), j < xs.length → (∀ h ∈ xs, 0 ≤ h ∧ h ≤ m) → 0 ≤ xs.getD j 0 ∧ xs.getD j 0 ≤ m := by
      intro xs j m hj hx
      rw [List.getD_eq_getElem?_getD, List.getElem?_eq_getElem hj]
      exact hx _ (List.getElem_mem hj)
    have g1 := gb hs a.toNat _ (by omega) ih
    have m1 : ∀ h ∈ hs.set a.toNat (hs.getD a.toNat 0 + l), 0 ≤ h ∧ h ≤ 2 * (i : Int) * 1000000000000000000 + 1000000000000000000 := by
      intro h hm
      rcases List.mem_or_eq_of_mem_set hm with hm | rfl
      · have := ih h hm; omega
      · omega
    have g2 := gb _ b.toNat _ (by rw [List.length_set]; omega) m1
    unfold ldStep at hh
    rcases List.mem_or_eq_of_mem_set hh with hm | rfl
    · have := m1 h hm; omega
    · omega

theorem Cb.app {H0 H : Hp} {b c f : Addr} {xs : List V} (v : V) (cb : Cb H0 b c f xs H) (nc : c ≠ f) (f0 : H0 f = none) : Cb H0 b c f (xs ++ [v]) (upd H f (.lst (xs ++ [v]))) := by
  have nb : b ≠ f := fun e => cb.ne (by rw [e]; simp)
  refine ⟨fun a o n e => ?_, ?_, upd_same, cb.ne⟩
  · rw [upd_ne (ne_of_none e f0)]; exact cb.e _ _ n e
  · obtain ⟨x, y, k, cs, h1, h2, h3⟩ := cb.bag
    exact ⟨x, y, k, cs, by rw [upd_ne nb]; exact h1, by rw [upd_ne nc]; exact h2, h3⟩
theorem Bag.cne {H : Hp} {b c f : Addr} (h : Bag H b c) (hf : H f = none) : c ≠ f := by
  obtain ⟨x, y, k, cs, h1, h2, _⟩ := h
  exact ne_of_none h2 hf

/-! ### drawn bundles, leads -/
def spBunW : Sp := fun vs H Q _ => ∃ (N : List Addr) (b c : Addr) (n w : Int), vs = [.ref b, .int n, .int w] ∧ b ∈ N ∧ (∀ m ∈ N, ∃ o, H m = some o) ∧ Bag H b c ∧ 2 ≤ n ∧ n ≤ 10 ∧ 1 ≤ w ∧ w ≤ 1000000000000000000 ∧ ∀ H' f ds, Ext [b] H H' → Bag H' b c → Dn N H' (.ref f) (.list ds) → bundlesD (.list ds) n = true → Q (.ref f) H'
theorem x_bunW {H : Hp} {Q : VK} {E : XK} {N : List Addr} {b c : Addr} {n w : Int} (bn : b ∈ N) (al : ∀ m ∈ N, ∃ o, H m = some o) (hb : Bag H b c) (n0 : 2 ≤ n) (n1 : n ≤ 10) (w0 : 1 ≤ w) (w1 : w ≤ 1000000000000000000) (h : ∀ H' f ds, Ext [b] H H' → Bag H' b c → Dn N H' (.ref f) (.list ds) → bundlesD (.list ds) n = true → Q (.ref f) H') : spBunW [.ref b, .int n, .int w] H Q E := ⟨N, b, c, n, w, rfl, bn, al, hb, n0, n1, w0, w1, h⟩
def spLeadsW : Sp := fun vs H Q _ => ∃ (b c f : Addr) (rs : List PyData) (n : Int), vs = [.ref b, .ref f] ∧ Bag H b c ∧ Dn [b] H (.ref f) (.list rs) ∧ bundlesD (.list rs) n = true ∧ n ≤ 10 ∧
  ∀ (H' : Hp) (T : Addr) (ls : List Int), Ext [b] H H' → Bag H' b c → H T = none → H' T = some (.tup (ls.map V.int)) → T ∉ [b] → LeadsOk rs ls → Q (.ref T) H'
theorem x_leadsW {H : Hp} {Q : VK} {E : XK} {b c f : Addr} {rs : List PyData} {n : Int} (hb : Bag H b c) (hd : Dn [b] H (.ref f) (.list rs)) (hr : bundlesD (.list rs) n = true) (n1 : n ≤ 10)
    (h : ∀ (H' : Hp) (T : Addr) (ls : List Int), Ext [b] H H' → Bag H' b c → H T = none → H' T = some (.tup (ls.map V.int)) → T ∉ [b] → LeadsOk rs ls → Q (.ref T) H') : spLeadsW [.ref b, .ref f] H Q E := ⟨b, c, f, rs, n, rfl, hb, hd, hr, n1, h⟩
def spLoadsU : Sp := fun vs H Q _ => ∃ (M : List Addr) (n : Int) (u : V) (p : Addr) (rs : List PyData) (ls : List Int), vs = [.int n, u, .ref p] ∧ Dn M H u (.list rs) ∧ H p = some (.tup (ls.map V.int)) ∧ bundlesD (.list rs) n = true ∧ 0 ≤ n ∧ n ≤ 10 ∧ ls.length = rs.length ∧
  ∀ (H' : Hp) (f : Addr), Same H H' → H f = none → H' f = some (.lst ((ldOf n.toNat rs ls ls.length).map V.int)) → Q (.ref f) H'
theorem x_loadsU {H : Hp} {Q : VK} {E : XK} {M : List Addr} {n : Int} {u : V} {p : Addr} {rs : List PyData} {ls : List Int} (hu : Dn M H u (.list rs)) (hp : H p = some (.tup (ls.map V.int))) (hb : bundlesD (.list rs) n = true) (n0 : 0 ≤ n) (n1 : n ≤ 10) (same : ls.length = rs.length)
    (h : ∀ (H' : Hp) (f : Addr), Same H H' → H f = none → H' f = some (.lst ((ldOf n.toNat rs ls ls.length).map V.int)) → Q (.ref f) H') : spLoadsU [.int n, u, .ref p] H Q E := ⟨M, n, u, p, rs, ls, rfl, hu, hp, hb, n0, n1, same, h⟩
section
variable {P : Program} {w : World} {K : PySem.W.Frag} {mg : Str → Option Value} {base : Heap} {t0 t1 t2 t3 t4 : Tok}
theorem kn_bunW {k : Nat} (D : Df K mg "_law_bundles" s_Lbundles) (B : Bl mg) (c_Ltake : Kn P w K mg base "_law_take" k spTake) : Kn P w K mg base "_law_bundles" (k + 1) spBunW := by
  refine kn_of D (fun _ _ _ _ _ _ us hl => match us, hl with | [_, _, _], _ => rfl) sc_Lbundles (fun vs H Q E h => by obtain ⟨N, b, c, n, w, rfl, _⟩ := h; rfl) (fun f cd B' fr z H vs Q E hr gd h => ?_)
  obtain ⟨N, b, c, n, wd, rfl, bn, al, hB, n0, n1, w0, w1, q⟩ := h
  refine ⟨_, (pss_cons (ps_par (i := 3) (j := 4) (by rfl) sc_Lbundles.nd rfl rfl (by decide) rfl rfl (pa_cons (pe_op op_add pe_int (pe_own c_Ltake hr gd (by rfl) (pa_cons (pv 0) (pa_cons pe_int pa_nil)))) (pa_cons (pe_lst pa_nil) pa_nil)) (by rfl))
  (pss_cons (ps_for PassesOwn.never rfl (pi_range1 (by rfl) B.range (pa_cons (pv 1) pa_nil)) (pg_name (i := 5) sc_Lbundles.nd rfl (.inl rfl))
  (pss_one (ps_for PassesOwn.never rfl (pi_range2 (by rfl) B.range (pa_cons (pe_op op_add (pv 5) pe_int) (pa_cons (pv 1) pa_nil))) (pg_name (i := 6) sc_Lbundles.nd rfl (.inl rfl))
  (pss_one (ps_if (pt_cmpR op_lt (pe_own c_Ltake hr gd (by rfl) (pa_cons (pv 0) (pa_cons pe_int pa_nil))) (pv 3) (nomark _)) (pss_one (ps_expr (pe_bm PySem.F.plainAttrs_list PySem.F.slot_list_insert PySem.F.type_list_insert mt_insert (pv 4) (pa_cons (pe_own c_Ltake hr gd (by rfl) (pa_cons (pv 0) (pa_cons (pe_op op_add (pe_callB call_len_seq (by rfl) B.len (by decide +kernel) (pa_cons (pv 4) pa_nil)) pe_int) pa_nil))) (pa_cons (pe_tup (pa_cons (pv 5) (pa_cons (pv 6) (pa_cons (pe_op op_add pe_int (pe_own c_Ltake hr gd (by rfl) (pa_cons (pv 0) (pa_cons (pv 2) pa_nil)))) pa_nil)))) pa_nil))))) pss_nil)))))
  (pss_one (ps_ret (pv 4))))), ?_⟩
  walk_at "xs"
  refine x_take hB (by decide) (by decide) ?_
  intro H1 v1 E1 B1 a1 c1
  walk_at "xs"
  intro F hF
  have rb := Rn.mk0 bn (al_ext al E1 B1) B1 hF
  generalize upd H1 F _ = H2 at *
  have big : (1000000000000000010 : Nat) < 2 ^ 200 := by decide
  walk_at "xs"
  refine for_range (lo := 0) (n := n.toNat) (fun i σ' H' => ∃ y5 y6 acc ds, σ' = [some (.ref b), some (.int n), some (.int wd), some (.int (1 + v1)), some (.ref F), y5, y6] ∧ Rn N H1 b c F acc ds H' ∧ ds.length ≤ tri n.toNat i ∧ Good n i 0 ds) ?_ ?_ ?_
  · exact ⟨_, _, _, _, rfl, rb, Nat.le_refl _, rfl, by simp, by simp⟩
  · rintro i _ H3 hi ⟨y5, y6, acc, ds, rfl, rb, ll, gd0⟩
    walk_at "xs"
    refine for_range (lo := 0 + (i : Int) + 1) (n := (n - (0 + (i : Int) + 1)).toNat) (fun j σ' H' => ∃ y6 acc ds, σ' = [some (.ref b), some (.int n), some (.int wd), some (.int (1 + v1)), some (.ref F), some (.int (0 + (i : Int))), y6] ∧ Rn N H1 b c F acc ds H' ∧ ds.length ≤ tri n.toNat i + j ∧ Good n i (i + 1 + j) ds) ?_ ?_ ?_
    · exact ⟨_, _, _, rfl, rb, ll, gd0.skip (by omega)⟩
    · rintro j _ H4 hj ⟨y6, acc, ds, rfl, rb, ll, gd1⟩
      walk_at "xs"
      refine x_take rb.bag (by decide) (by decide) ?_
      intro H5 v2 E5 B5 a2 c2
      have rb := rb.step E5 B5
      have fd := rb.fd
      have la := rb.rows.length
      have tl : tri n.toNat i + j ≤ 45 := by
        have h1 : tri n.toNat i + j ≤ tri n.toNat (i + 1) := by show _ ≤ tri n.toNat i + (n.toNat - (i + 1)); omega
        have h2 : ∀ n, n ≤ 10 → ∀ i, i < n → tri n (i + 1) ≤ 45 := by decide
        have := h2 n.toNat (by omega) i hi
        omega
      walk_at "xs"
      refine x_ite (fun h => ?_) (fun h => ?_)
      · walk_at "xs"
        refine x_take rb.bag (by omega) (by omega) ?_
        intro H5b v3 E5b B5b a3 c3
        have rb := rb.step E5b B5b
        walk_at "xs"
        refine x_take rb.bag (by omega) (by omega) ?_
        intro H6 ct E6 B6 ct0 ct1
        have rb := rb.step E6 B6
        walk_at "xs"
        intro p3 hp3
        obtain ⟨rb, np3, np3', ep3⟩ := rb.new (.tup [.int (0 + (i : Int)), .int (0 + (i : Int) + 1 + (j : Int)), .int (1 + ct)]) hp3
        generalize upd H6 p3 _ = H9 at *
        walk_at "xs"
        have e63 : (1000 : Int) < 2 ^ 63 := by decide
        have e18 : (1000000000000000000 : Int) = 10 ^ 18 := by decide
        refine ⟨F, acc, v3, .ref p3, rfl, rfl, rb.fd, by rw [sizeLine_eq]; omega, a3, by omega, ?_⟩
        have g2 := (gd1.add (c := 1 + ct) (by omega) (by omega) (by omega) (by omega) (by omega)).perm (ins_perm ds (tupD [(i : Int), (i : Int) + 1 + (j : Int), 1 + ct]) v3.toNat)
        have rb := rb.ins (v := .ref p3) (d := tupD [(i : Int), (i : Int) + 1 + (j : Int), 1 + ct]) v3.toNat (.tup (by rw [ep3, Int.zero_add]; rfl) np3' (DnAll.ints [(i : Int), (i : Int) + 1 + (j : Int), 1 + ct])) (row_of (by omega) (by omega) (by omega) (by omega) (by omega))
        have lp : (ds.take v3.toNat ++ [tupD [(i : Int), (i : Int) + 1 + (j : Int), 1 + ct]] ++ ds.drop v3.toNat).length = ds.length + 1 := by
          rw [(ins_perm ds (tupD [(i : Int), (i : Int) + 1 + (j : Int), 1 + ct]) v3.toNat).length_eq, List.length_append, List.length_singleton]
        walk_at "xs"
        exact ⟨_, _, _, rfl, rb, by omega, g2.skip (by omega)⟩
      · walk_at "xs"
        exact ⟨_, _, _, rfl, rb, by omega, gd1.skip (by omega)⟩
    · rintro _ H4 ⟨y6, acc, ds, rfl, rb, ll, gd1⟩
      exact ⟨_, _, _, _, rfl, rb, by show _ ≤ tri n.toNat i + (n.toNat - (i + 1)); omega, gd1.next (by omega)⟩
  · rintro _ H3 ⟨y5, y6, acc, ds, rfl, rb, ll, gd0⟩
    have l45 := tri_le n.toNat (by omega)
    walk_at "xs"
    exact q _ _ ds (E1.trans rb.e) rb.bag rb.dn (gd0.done (by omega))
theorem kn_leadsW {k : Nat} (D : Df K mg "_law_leads" s_Lleads) (B : Bl mg) (c_Ltake : Kn P w K mg base "_law_take" k spTake) : Kn P w K mg base "_law_leads" (k + 1) spLeadsW := by
  refine kn_of D (fun _ _ _ _ _ _ us hl => match us, hl with | [_, _], _ => rfl) sc_Lleads (fun vs H Q E h => by obtain ⟨b, c, f, rs, n, rfl, _⟩ := h; rfl) (fun f cd B' fr z H vs Q E hr gd h => ?_)
  obtain ⟨b, c, f1, rs, n, rfl, hB, hd, hb, n1, q⟩ := h
  refine ⟨_, (pss_cons (ps_par (i := 2) (j := 3) (by rfl) sc_Lleads.nd rfl rfl (by decide) rfl rfl (pa_cons (pe_own c_Ltake hr gd (by rfl) (pa_cons (pv 0) (pa_cons pe_int pa_nil))) (pa_cons (pe_lst pa_nil) pa_nil)) (by rfl))
  (pss_cons (ps_for PassesOwn.never rfl (pi_list (pv 1)) (pg_tup (by rfl) (pgs_cons (pg_name (i := 4) sc_Lleads.nd rfl (.inl rfl)) (pgs_cons (pg_name (i := 5) sc_Lleads.nd rfl (.inl rfl)) (pgs_cons (pg_name (i := 6) sc_Lleads.nd rfl (.inl rfl)) pgs_nil))))
  (pss_one (ps_expr (pe_bm PySem.F.plainAttrs_list PySem.F.slot_list_append PySem.F.type_list_append mt_append (pv 3) (pa_cons (pe_ix (r := rIxL K) ix_list (pe_lst (pa_cons (pe_own c_Ltake hr gd (by rfl) (pa_cons (pv 0) (pa_cons (pe_op op_add (pv 6) pe_int) pa_nil))) (pa_cons (pe_ix (r := rIxL K) ix_list (pe_lst (pa_cons pe_int (pa_cons (pv 6) pa_nil))) (pe_own c_Ltake hr gd (by rfl) (pa_cons (pv 0) (pa_cons pe_int pa_nil))) (fun _ _ => rfl)) (pa_cons (pv 6) (pa_cons pe_int pa_nil))))) (pv 2) (fun _ _ => rfl)) pa_nil)))))
  (pss_one (ps_ret (pe_callTy call_tuple_of (by rfl) B.«tuple» (by decide +kernel) (pa_cons (pv 3) pa_nil)))))), ?_⟩
  obtain ⟨len, all⟩ := bundles_len hb
  walk_at "xs"
  refine x_take hB (by decide) (by decide) ?_
  intro H1 v1 E1 B1 a1 c1
  have hd := hd.ext E1
  walk_at "xs"
  intro F hF
  obtain ⟨ob, hob⟩ := B1.at
  have nF := new_out (Same.refl H1) hob hF
  have nc := B1.cne hF
  have S3 := same_upd hF (o := .lst [])
  have cb : Cb H1 b c F [] (upd H1 F (.lst [])) := ⟨Ext.same S3, B1.ext S3, upd_same, nF⟩
  generalize upd H1 F _ = H2 at *
  cases hd with
  | @lst _ xs _ e2 m2 A =>
  have lx := A.length
  have e23 := cb.e _ _ m2 e2
  have big : (1000000000000000010 : Nat) < 2 ^ 200 := by decide
  walk_at "xs"
  refine for_list (K := K) (a := f1) (xs := xs) (fun i σ' H' => ∃ (y4 y5 y6 : Option V) (ls : List Int), σ' = [some (.ref b), some (.ref f1), some (.int v1), some (.ref F), y4, y5, y6] ∧ Cb H1 b c F (ls.map V.int) H' ∧ ls.length = i ∧ ∀ (j : Nat) (l : Int) (r : PyData), ls[j]? = some l → rs[j]? = some r → 0 ≤ l ∧ l ≤ cntD r) ?_ ?_ ?_ ?_
  · exact ⟨_, _, _, [], rfl, cb, rfl, by simp⟩
  · rintro i _ H' _ ⟨_, _, _, _, _, cb, _⟩
    exact SqL.of (cb.e _ _ m2 e2)
  · rintro i x _ H4 hx ⟨y4, y5, y6, ls, rfl, cb, ll, hls⟩
    obtain ⟨dR, hdR, dnR⟩ := A.get hx
    have hi := (List.getElem?_eq_some_iff.mp hx).1
    have hbd : bundleD dR n = true := by
      rw [List.all_eq_true] at all
      exact all _ (List.mem_map.mpr ⟨dR, List.mem_of_getElem? hdR, rfl⟩)
    obtain ⟨a', b', c', rfl, p0, p1, p2, p3, p4⟩ := bundle_row hbd n1
    rw [e18] at p4
    obtain ⟨r', rfl, nr, hr2⟩ := Dn.tup3 (a := a') (b := b') (c := c') dnR
    have hr4 := cb.e _ _ nr hr2
    have fd := cb.fd
    walk_at "xs"
    refine x_take cb.bag (by omega) (by omega) ?_
    intro H5 v2 E5 B5 a2 c2
    have cb := cb.step E5 B5
    walk_at "xs"
    intro p1' hp1
    obtain ⟨cb, np1, ep1⟩ := cb.new (.lst [.int 0, .int c']) hp1
    generalize upd H5 p1' _ = H6 at *
    walk_at "xs"
    refine x_take cb.bag (by decide) (by decide) ?_
    intro H7 v3 E7 B7 a3 c3
    have cb := cb.step E7 B7
    have ep1 := E7 _ _ np1 ep1
    obtain ⟨x3, ex3, ax3⟩ := ix_at ep1 a3 c3
    refine x_ixL (SqL.of ep1) ax3 ?_
    have h3 : ∃ m : Int, x3 = .int m ∧ 0 ≤ m ∧ m ≤ c' := by
      have hm := List.mem_of_getElem? ex3
      simp only [List.mem_cons, List.not_mem_nil, or_false] at hm
      rcases hm with rfl | rfl
      · exact ⟨_, rfl, by omega, by omega⟩
      · exact ⟨_, rfl, by omega, by omega⟩
    obtain ⟨m3, rfl, h30, h31⟩ := h3
    walk_at "xs"
    intro p4' hp4
    obtain ⟨cb, np4, ep4⟩ := cb.new (.lst [.int v2, .int m3, .int c', .int 0]) hp4
    generalize upd H7 p4' _ = H8 at *
    obtain ⟨x5, ex5, ax5⟩ := ix_at ep4 a1 c1
    walk_at "xs"
    refine x_ixL (SqL.of ep4) ax5 ?_
    have h5 : ∃ m : Int, x5 = .int m ∧ 0 ≤ m ∧ m ≤ c' := by
      have hm := List.mem_of_getElem? ex5
      simp only [List.mem_cons, List.not_mem_nil, or_false] at hm
      rcases hm with rfl | rfl | rfl | rfl
      · exact ⟨_, rfl, by omega, by omega⟩
      · exact ⟨_, rfl, by omega, by omega⟩
      · exact ⟨_, rfl, by omega, by omega⟩
      · exact ⟨_, rfl, by omega, by omega⟩
    obtain ⟨m5, rfl, h50, h51⟩ := h5
    walk_at "xs"
    refine x_app cb.fd (by rw [List.length_map, sizeLine_eq]; omega) ?_
    have cb := cb.app (.int m5) nc hF
    walk_at "xs"
    refine ⟨_, _, _, ls ++ [m5], rfl, by rw [List.map_append]; exact cb, by rw [List.length_append, List.length_singleton]; omega, fun j l r e1 e2 => ?_⟩
    by_cases hj : j < ls.length
    · rw [List.getElem?_append_left hj] at e1
      exact hls j l r e1 e2
    · have ej : j = ls.length := by
        have := (List.getElem?_eq_some_iff.mp e1).1
        rw [List.length_append, List.length_singleton] at this
        omega
      subst ej
      rw [List.getElem?_append_right (Nat.le_refl _), Nat.sub_self] at e1
      rw [ll, hdR] at e2
      have e1 : m5 = l := Option.some.inj e1
      have e2 : tupD [a', b', c'] = r := Option.some.inj e2
      subst e1 e2
      exact ⟨h50, h51⟩
  · rintro _ H4 ⟨y4, y5, y6, ls, rfl, cb, ll, hls⟩
    have fd := cb.fd
    walk_at "xs"
    intro T hT
    have S5 := same_upd hT (o := .tup (ls.map V.int))
    obtain ⟨ob, hob⟩ := cb.bag.at
    have nT := new_out (Same.refl H4) hob hT
    have X := E1.trans (cb.e.trans (Ext.same S5))
    have hT0 : H T = none := by
      cases h : H T with
      | none => rfl
      | some o => rw [(E1.trans cb.e) _ _ nT h] at hT; cases hT
    exact q _ T ls X (cb.bag.ext S5) hT0 upd_same nT ⟨by omega, hls⟩
theorem kn_loadsU {k : Nat} (D : Df K mg "_law_loads" s_Lloads) (B : Bl mg) : Kn P w K mg base "_law_loads" (k + 1) spLoadsU := by
  refine kn_of D (fun _ _ _ _ _ _ us hl => match us, hl with | [_, _, _], _ => rfl) sc_Lloads (fun vs H Q E h => by obtain ⟨M, n, u, p, rs, ls, rfl, _⟩ := h; rfl) (fun f cd B' fr z H vs Q E hr gd h => ?_)
  obtain ⟨M, n, u, p, rs, ls, rfl, hu, hp, hb, n0, n1, same, q⟩ := h
  refine ⟨_, (pss_cons (ps_set (i := 3) sc_Lloads.nd rfl (.inl rfl) (pe_op op_rep (pe_lst (pa_cons pe_int pa_nil)) (pv 0)))
  (pss_cons (ps_for PassesOwn.never rfl (pi_zipU (by rfl) B.zip (pa_cons (pv 1) (pa_cons (pv 2) pa_nil))) (pg_tup (by rfl) (pgs_cons (pg_tup (by rfl) (pgs_cons (pg_name (i := 4) sc_Lloads.nd rfl (.inl rfl)) (pgs_cons (pg_name (i := 5) sc_Lloads.nd rfl (.inl rfl)) (pgs_cons (pg_name (i := 6) sc_Lloads.nd rfl (.inl rfl)) pgs_nil)))) (pgs_cons (pg_name (i := 7) sc_Lloads.nd rfl (.inl rfl)) pgs_nil)))
  (pss_cons (ps_augS (pv 3) (pv 4) get_list (pv 7) ip_add set_list)
  (pss_one (ps_augS (pv 3) (pv 5) get_list (pe_op op_sub (pv 6) (pv 7)) ip_add set_list))))
  (pss_one (ps_ret (pv 3))))), ?_⟩
  obtain ⟨len, all⟩ := bundles_len hb
  cases hu with
  | @lst a xs _ ea ma A =>
  have lx := A.length
  walk_at "xs"
  intro o ho
  have S0 := same_upd ho (o := .lst [.int 0])
  have eo := upd_same (H := H) (a := o) (o := .lst [.int 0])
  generalize upd H o _ = H1 at *
  walk_at "xs"
  refine x_rep eo (by omega) (by omega) (by rw [sizeLine_eq]; simp only [List.length_cons, List.length_nil]; omega) ?_
  intro F hF
  rw [repl_int]
  have hF0 : H F = none := S0.free hF
  have S1 : Same H (upd H1 F (.lst ((List.replicate n.toNat (0 : Int)).map V.int))) := S0.trans (same_upd hF)
  have eF := upd_same (H := H1) (a := F) (o := .lst ((List.replicate n.toNat (0 : Int)).map V.int))
  generalize upd H1 F _ = H2 at *
  have ea2 := S1 _ _ ea
  have ep2 := S1 _ _ hp
  walk_at "xs"
  refine for_zipU (K := K) (us := xs) (vs := ls.map V.int) (by rw [List.length_map]; omega) (fun i σ' H' => ∃ (y4 y5 y6 y7 : Option V), σ' = [some (.int n), some (.ref a), some (.ref p), some (.ref F), y4, y5, y6, y7] ∧ H' F = some (.lst ((ldOf n.toNat rs ls i).map V.int)) ∧ Same H H') ?_ ?_ ?_ ?_
  · exact ⟨_, _, _, _, rfl, eF, S1⟩
  · rintro i _ H' ⟨_, _, _, _, _, _, S⟩
    exact ⟨SqL.of (S _ _ ea), SqT.of (S _ _ hp)⟩
  · rintro i r u t _ H' hv hu ⟨y4, y5, y6, y7, rfl, fd, S⟩ ht
    obtain ⟨l, hl, rfl⟩ := int_at hu
    obtain ⟨dR, hdR, dnR⟩ := A.get hv
    have hbd : bundleD dR n = true := by
      rw [List.all_eq_true] at all
      exact all _ (List.mem_map.mpr ⟨dR, List.mem_of_getElem? hdR, rfl⟩)
    obtain ⟨a', b', c', rfl, p0, p1, p2, p3, p4⟩ := bundle_row hbd n1
    obtain ⟨r', rfl, _, hr2⟩ := Dn.tup3 (a := a') (b := b') (c := c') dnR
    have nx := ld_next (n := n.toNat) hl hdR
    have hn := ld_len n.toNat rs ls i
    generalize ldOf n.toNat rs ls i = hs at *
    have hr3 := S _ _ hr2
    have ntF : t ≠ F := ne_of_none2 ht fd
    have nrt : r' ≠ t := ne_of_none hr3 ht
    have fd' : (upd H' t (.tup [.ref r', .int l])) F = some (.lst (hs.map V.int)) := by rw [upd_ne ntF.symm]; exact fd
    have hr4 : (upd H' t (.tup [.ref r', .int l])) r' = some (.tup [.int a', .int b', .int c']) := by rw [upd_ne nrt]; exact hr3
    have et := upd_same (H := H') (a := t) (o := .tup [.ref r', .int l])
    have S2 : Same H (upd H' t (.tup [.ref r', .int l])) := S.trans (same_upd ht)
    generalize upd H' t _ = H4 at *
    walk_at "xs"
    obtain ⟨v1, hv1, at1⟩ := at_map (hs := hs) p0 (by omega)
    refine x_getL fd' (by omega) (v := .int v1) (by rw [List.getElem?_map, hv1]; rfl) ?_
    walk_at "xs"
    refine x_setL fd' (ixN_of p0 (by rw [List.length_map]; omega)) ?_
    rw [set_map, ← getD_of hv1]
    obtain ⟨hs1, eh1⟩ : ∃ hs1, hs1 = hs.set a'.toNat (hs.getD a'.toNat 0 + l) := ⟨_, rfl⟩
    rw [← eh1]
    have len1 : hs1.length = n.toNat := by rw [eh1, List.length_set]; exact hn
    have S3 : Same H (upd H4 F (.lst (hs1.map V.int))) := fun z o e => by rw [upd_ne (ne_of_none e hF0)]; exact S2 _ _ e
    have fd2 := upd_same (H := H4) (a := F) (o := .lst (hs1.map V.int))
    generalize upd H4 F _ = H5 at *
    walk_at "xs"
    obtain ⟨v2, hv2, at2⟩ := at_map (hs := hs1) (i := b') (by omega) (by omega)
    refine x_getL fd2 (by omega) (v := .int v2) (by rw [List.getElem?_map, hv2]; rfl) ?_
    walk_at "xs"
    refine x_setL fd2 (ixN_of (by omega) (by rw [List.length_map]; omega)) ?_
    rw [set_map, ← getD_of hv2]
    walk_at "xs"
    refine ⟨_, _, _, _, rfl, ?_, fun z o e => by rw [upd_ne (ne_of_none e hF0)]; exact S3 _ _ e⟩
    rw [upd_same, nx, eh1]
    unfold ldStep
    rw [show ∀ x : Int, x + (c' - l) = x + c' - l from fun x => by omega]
  · rintro _ H' ⟨y4, y5, y6, y7, rfl, fd, S⟩
    rw [lx, ← same] at fd
    walk_at "xs"
    exact q _ F S hF0 fd
end
/-! ### drawn bounds, worlds -/
theorem pick {x : V} {ms : List Int} {lo hi : Int} (h : x ∈ ms.map V.int) (hb : ∀ m ∈ ms, lo ≤ m ∧ m ≤ hi) : ∃ i, x = .int i ∧ lo ≤ i ∧ i ≤ hi := by
  obtain ⟨m, hm, rfl⟩ := List.mem_map.mp h
  exact ⟨m, rfl, hb m hm⟩
theorem bound_ok {x y : Int} (h0 : 0 ≤ x) (h1 : x ≤ y) (h2 : y ≤ 10 ^ 30) : boundD (tupD [x, y]) = true := by
  show ((decide (0 ≤ x) && decide (x ≤ 10 ^ 30)) && (decide (x ≤ y) && decide (y ≤ 10 ^ 30))) = true
  simp only [Bool.and_eq_true, decide_eq_true_eq]
  exact ⟨⟨h0, by omega⟩, h1, h2⟩

def spBnd : Sp := fun vs H Q _ => ∃ (N : List Addr) (b c p : Addr) (hs : List Int), vs = [.ref b, .ref p] ∧ b ∈ N ∧ (∀ m ∈ N, ∃ o, H m = some o) ∧ Bag H b c ∧ H p = some (.lst (hs.map V.int)) ∧ p ∉ [b] ∧ 2 ≤ hs.length ∧ hs.length ≤ 10 ∧ (∀ h ∈ hs, 0 ≤ h ∧ h ≤ 1000000000000000000000) ∧
  ∀ H' f ds, Ext [b] H H' → Bag H' b c → Dn N H' (.ref f) (.list ds) → boundsD (.list ds) = true → ds.length = hs.length → (∀ j, OkAt ds hs j) → Q (.ref f) H'
section
variable {P : Program} {w : World} {K : PySem.W.Frag} {mg : Str → Option Value} {base : Heap} {t0 t1 t2 t3 t4 : Tok}
theorem kn_bndW {k : Nat} (D : Df K mg "_law_bounds" s_Lbounds) (B : Bl mg) (c_Ltake : Kn P w K mg base "_law_take" k spTake) : Kn P w K mg base "_law_bounds" (k + 1) spBnd := by
  refine kn_of D (fun _ _ _ _ _ _ us hl => match us, hl with | [_, _], _ => rfl) sc_Lbounds (fun vs H Q E h => by obtain ⟨N, b, c, p, hs, rfl, _⟩ := h; rfl) (fun f cd B' fr z H vs Q E hr gd h => ?_)
  obtain ⟨N, b, c, p, hs, rfl, bn, al, hB, hp, np, l0, l1, hh, q⟩ := h
  refine ⟨_, (pss_cons (ps_par (i := 2) (j := 3) (by rfl) sc_Lbounds.nd rfl rfl (by decide) rfl rfl (pa_cons (pe_own c_Ltake hr gd (by rfl) (pa_cons (pv 0) (pa_cons pe_int pa_nil))) (pa_cons (pe_lst pa_nil) pa_nil)) (by rfl))
  (pss_cons (ps_for PassesOwn.never rfl (pi_list (pv 1)) (pg_name (i := 4) sc_Lbounds.nd rfl (.inl rfl))
  (pss_cons (ps_set (i := 5) sc_Lbounds.nd rfl (.inl rfl) (pe_ix (r := rIxL K) ix_list (pe_lst (pa_cons pe_int (pa_cons pe_int (pa_cons (pe_op op_add pe_int (pe_own c_Ltake hr gd (by rfl) (pa_cons (pv 0) (pa_cons pe_int pa_nil)))) (pa_cons (pe_op op_add (pv 4) (pe_op op_pow pe_int pe_int)) pa_nil))))) (pe_own c_Ltake hr gd (by rfl) (pa_cons (pv 0) (pa_cons pe_int pa_nil))) (fun _ _ => rfl)))
  (pss_cons (ps_set (i := 6) sc_Lbounds.nd rfl (.inl rfl) (pe_ix (r := rIxL K) ix_list (pe_lst (pa_cons pe_int (pa_cons pe_int (pa_cons (pe_own c_Ltake hr gd (by rfl) (pa_cons (pv 0) (pa_cons pe_int pa_nil))) (pa_cons (pe_own c_Ltake hr gd (by rfl) (pa_cons (pv 0) (pa_cons pe_int pa_nil))) (pa_cons (pe_own c_Ltake hr gd (by rfl) (pa_cons (pv 0) (pa_cons pe_int pa_nil))) pa_nil)))))) (pv 2) (fun _ _ => rfl)))
  (pss_cons (ps_set (i := 7) sc_Lbounds.nd rfl (.inl rfl) (pe_ix (r := rIxL K) ix_list (pe_lst (pa_cons pe_int (pa_cons (pv 5) (pa_cons (pv 5) (pa_cons (pe_own c_Ltake hr gd (by rfl) (pa_cons (pv 0) (pa_cons pe_int pa_nil))) (pa_cons pe_int (pa_cons pe_int pa_nil))))))) (pv 6) (fun _ _ => rfl)))
  (pss_one (ps_expr (pe_bm PySem.F.plainAttrs_list PySem.F.slot_list_append PySem.F.type_list_append mt_append (pv 3) (pa_cons (pe_tup (pa_cons (pe_callB (call_max2 rfl) (by rfl) B.max (by decide +kernel) (pa_cons pe_int (pa_cons (pe_op op_sub (pv 4) (pv 7)) pa_nil))) (pa_cons (pe_op op_add (pv 4) (pe_ix (r := rIxL K) ix_list (pe_lst (pa_cons (pv 5) (pa_cons pe_int (pa_cons (pv 5) (pa_cons (pv 5) (pa_cons pe_int (pa_cons (pv 5) pa_nil))))))) (pv 6) (fun _ _ => rfl))) pa_nil))) pa_nil))))))))
  (pss_one (ps_ret (pv 3))))), ?_⟩
  walk_at "xs"
  refine x_take hB (by decide) (by decide) ?_
  intro H0 v0 E0' B0 a0 c0
  have hp := E0' _ _ np hp
  walk_at "xs"
  intro F hF
  have rb := Rn.mk0 bn (al_ext al E0' B0) B0 hF
  have hp1 := same_upd hF (o := .lst []) _ _ hp
  generalize upd H0 F _ = H1 at *
  walk_at "xs"
  have g9 : (10 : Int) ^ (9 : Int).toNat = 1000000000 := by decide
  have g30 : (10 : Int) ^ 30 = 1000000000000000000000000000000 := by decide
  have big3 : (3000000000000000000000 : Nat) < 2 ^ 200 := by decide
  refine for_list (K := K) (a := p) (xs := hs.map V.int) (fun i σ' H' => ∃ y4 y5 y6 y7 acc ds, σ' = [some (.ref b), some (.ref p), some (.int v0), some (.ref F), y4, y5, y6, y7] ∧ Rn N H0 b c F acc ds H' ∧ ds.length = i ∧ (ds.map boundD).all id = true ∧ ∀ j, OkAt ds hs j) ?_ ?_ ?_ ?_
  · exact ⟨_, _, _, _, _, _, rfl, rb, rfl, rfl, fun j lo up h e => by simp at e⟩
  · rintro i _ H' _ ⟨_, _, _, _, _, _, _, rb, _⟩
    exact SqL.of (rb.e _ _ np hp)
  · rintro i x _ H3 hx ⟨y4, y5, y6, y7, acc, ds, rfl, rb, ll, all, okj⟩
    obtain ⟨ld, hld, rfl⟩ := int_at hx
    have b0 := hh ld (List.mem_of_getElem? hld)
    have hi := (List.getElem?_eq_some_iff.mp hld).1
    walk_at "xs"
    refine x_take rb.bag (by decide) (by decide) ?_
    intro H4 v1 E4 B4 a1 c1
    have rb := rb.step E4 B4
    walk_at "xs"
    intro p1 hp1
    obtain ⟨rb, n1, _, e1⟩ := rb.new (.lst [.int 1, .int 1, .int (1 + v1), .int (ld + 10 ^ (9 : Int).toNat)]) hp1
    generalize upd H4 p1 _ = H5 at *
    walk_at "xs"
    refine x_take rb.bag (by decide) (by decide) ?_
    intro H6 v2 E6 B6 a2 c2
    have rb := rb.step E6 B6
    have e1 := E6 _ _ n1 e1
    obtain ⟨x, ex, ax⟩ := ix_at e1 a2 c2
    refine x_ixL (SqL.of e1) ax ?_
    obtain ⟨sl, rfl, s0, s1⟩ := pick (ms := [1, 1, 1 + v1, ld + 10 ^ (9 : Int).toNat]) (lo := 1) (hi := 1000000000000001000000000) (List.mem_of_getElem? ex) (by intro m hm; simp only [List.mem_cons, List.not_mem_nil, or_false] at hm; omega)
    walk_at "xs"
    refine x_take rb.bag (by decide) (by decide) ?_
    intro H7 v3 E7 B7 a3 c3
    have rb := rb.step E7 B7
    walk_at "xs"
    refine x_take rb.bag (by decide) (by decide) ?_
    intro H8 v4 E8 B8 a4 c4
    have rb := rb.step E8 B8
    walk_at "xs"
    refine x_take rb.bag (by decide) (by decide) ?_
    intro H9 v5 E9 B9 a5 c5
    have rb := rb.step E9 B9
    walk_at "xs"
    intro p2 hp2
    obtain ⟨rb, n2, _, e2⟩ := rb.new (.lst [.int 0, .int 1, .int v3, .int v4, .int v5]) hp2
    generalize upd H9 p2 _ = H10 at *
    walk_at "xs"
    obtain ⟨x, ex, ax⟩ := ix_at e2 a0 c0
    refine x_ixL (SqL.of e2) ax ?_
    obtain ⟨kd, rfl, k0, k1⟩ := pick (ms := [0, 1, v3, v4, v5]) (lo := 0) (hi := 5) (List.mem_of_getElem? ex) (by intro m hm; simp only [List.mem_cons, List.not_mem_nil, or_false] at hm; omega)
    walk_at "xs"
    refine x_take rb.bag (by decide) (by decide) ?_
    intro H11 v6 E11 B11 a6 c6
    have rb := rb.step E11 B11
    walk_at "xs"
    intro p3 hp3
    obtain ⟨rb, n3, _, e3⟩ := rb.new (.lst [.int 0, .int sl, .int sl, .int v6, .int 0, .int 0]) hp3
    generalize upd H11 p3 _ = H12 at *
    walk_at "xs"
    obtain ⟨x, ex, ax⟩ := ix_at e3 k0 (show kd < 6 by omega)
    refine x_ixL (SqL.of e3) ax ?_
    obtain ⟨dn, rfl, d0, d1⟩ := pick (ms := [0, sl, sl, v6, 0, 0]) (lo := 0) (hi := 1000000000000001000000000) (List.mem_of_getElem? ex) (by intro m hm; simp only [List.mem_cons, List.not_mem_nil, or_false] at hm; omega)
    have fd := rb.fd
    walk_at "xs"
    have mx : 0 ≤ (if ld - dn > 0 then ld - dn else 0) ∧ (if ld - dn > 0 then ld - dn else 0) ≤ ld := by split <;> omega
    generalize (if ld - dn > 0 then ld - dn else 0) = fl at *
    walk_at "xs"
    intro p4 hp4
    obtain ⟨rb, n4, _, e4⟩ := rb.new (.lst [.int sl, .int 0, .int sl, .int sl, .int 0, .int sl]) hp4
    generalize upd H12 p4 _ = H13 at *
    walk_at "xs"
    obtain ⟨x, ex, ax⟩ := ix_at e4 k0 (show kd < 6 by omega)
    refine x_ixL (SqL.of e4) ax ?_
    obtain ⟨ov, rfl, o0, o1⟩ := pick (ms := [sl, 0, sl, sl, 0, sl]) (lo := 0) (hi := 1000000000000001000000000) (List.mem_of_getElem? ex) (by intro m hm; simp only [List.mem_cons, List.not_mem_nil, or_false] at hm; omega)
    walk_at "xs"
    intro p5 hp5
    obtain ⟨rb, np3, np3', ep3⟩ := rb.new (.tup [.int fl, .int (ld + ov)]) hp5
    generalize upd H13 p5 _ = H14 at *
    have la := rb.rows.length
    walk_at "xs"
    refine x_app rb.fd (by rw [sizeLine_eq]; omega) ?_
    have rb := rb.app (v := .ref p5) (d := tupD [fl, ld + ov]) (.tup ep3 np3' (DnAll.ints [fl, ld + ov])) ⟨[fl, ld + ov], rfl, Nat.le_of_ble_eq_true rfl, Nat.le_of_ble_eq_true rfl, by
      intro n hn
      simp only [List.mem_cons, List.not_mem_nil, or_false] at hn
      rcases hn with rfl | rfl <;> omega⟩
    walk_at "xs"
    refine ⟨_, _, _, _, _, _, rfl, rb, by rw [List.length_append, List.length_singleton]; omega, ?_, ?_⟩
    · rw [List.map_append, List.all_append, all]
      simp [bound_ok (x := fl) (y := ld + ov) (by omega) (by omega) (by omega)]
    · intro j lo up h e1 e2
      by_cases hji : j < ds.length
      · rw [List.getElem?_append_left hji] at e1
        exact okj j lo up h e1 e2
      · have ej : j = ds.length := by
          have := (List.getElem?_eq_some_iff.mp e1).1
          rw [List.length_append, List.length_singleton] at this
          omega
        subst ej
        rw [List.getElem?_append_right (Nat.le_refl _), Nat.sub_self] at e1
        have e1 : tupD [fl, ld + ov] = tupD [lo, up] := Option.some.inj e1
        rw [ll, hld] at e2
        cases e1; cases e2
        omega
  · rintro _ H3 ⟨y4, y5, y6, y7, acc, ds, rfl, rb, ll, all, okj⟩
    rw [List.length_map] at ll
    walk_at "xs"
    refine q _ _ _ (E0'.trans rb.e) rb.bag rb.dn ?_ ll okj
    show ((decide (2 ≤ (ds.length : Int)) && decide ((ds.length : Int) ≤ 10)) && (ds.map boundD).all id) = true
    rw [all, decide_eq_true (by omega), decide_eq_true (by omega)]; rfl
end
/-- a world: bounds, bundles, leads, that fit -/
structure Wd (ds rs : List PyData) (ls : List Int) : Prop where
  b1 : boundsD (.list ds) = true
  b2 : bundlesD (.list rs) ds.length = true
  lo : LeadsOk rs ls
  ok : ∀ j, OkAt ds (ldOf ds.length rs ls ls.length) j
structure WdAt (M : List Addr) (H : Hp) (T : Addr) (ds rs : List PyData) (ls : List Int) : Prop where
  ex : ∃ f1 f2 f3, H T = some (.tup [.ref f1, .ref f2, .ref f3]) ∧ T ∉ M ∧ Dn M H (.ref f1) (.list ds) ∧ Dn M H (.ref f2) (.list rs) ∧ f3 ∉ M ∧ H f3 = some (.tup (ls.map V.int))
theorem WdAt.ext {M : List Addr} {H H' : Hp} {T : Addr} {ds rs : List PyData} {ls : List Int} (w : WdAt M H T ds rs ls) (e : Ext M H H') : WdAt M H' T ds rs ls := by
  obtain ⟨f1, f2, f3, h1, h2, h3, h4, h5, h6⟩ := w.ex
  exact ⟨f1, f2, f3, e _ _ h2 h1, h2, h3.ext e, h4.ext e, h5, e _ _ h5 h6⟩
theorem WdAt.sub {M N : List Addr} {H : Hp} {T : Addr} {ds rs : List PyData} {ls : List Int} (h : ∀ a, a ∈ N → a ∈ M) (w : WdAt M H T ds rs ls) : WdAt N H T ds rs ls := by
  obtain ⟨f1, f2, f3, h1, h2, h3, h4, h5, h6⟩ := w.ex
  exact ⟨f1, f2, f3, h1, fun m => h2 (h _ m), h3.sub h, h4.sub h, fun m => h5 (h _ m), h6⟩
theorem wd_small {ds rs : List PyData} {ls : List Int} (w2 : bundlesD (.list rs) ds.length = true) (n : ds.length ≤ 10) (lo : LeadsOk rs ls) : ∀ h ∈ ldOf ds.length rs ls ls.length, 0 ≤ h ∧ h ≤ 100000000000000000000 := fun h hh => by
  have len := (bundles_len w2).1
  have := ld_small (n := (ds.length : Int)) w2 (by omega) lo ls.length (Nat.le_refl _) h (by rw [Int.toNat_natCast]; exact hh)
  have e := lo.1
  omega
def spWorld : Sp := fun vs H Q _ => ∃ (N : List Addr) (b c : Addr) (m wd : Int), vs = [.ref b, .int m, .int wd] ∧ b ∈ N ∧ (∀ m ∈ N, ∃ o, H m = some o) ∧ Bag H b c ∧ 2 ≤ m ∧ m ≤ 10 ∧ 1 ≤ wd ∧ wd ≤ 1000000000000000000 ∧
  ∀ (H' : Hp) (T : Addr) ds rs ls, Ext [b] H H' → Bag H' b c → H T = none → WdAt N H' T ds rs ls → Wd ds rs ls → (ds.length : Int) ≤ m → Q (.ref T) H'
theorem x_world {H : Hp} {Q : VK} {E : XK} {N : List Addr} {b c : Addr} {m wd : Int} (bn : b ∈ N) (al : ∀ m ∈ N, ∃ o, H m = some o) (hb : Bag H b c) (m0 : 2 ≤ m) (m1 : m ≤ 10) (w0 : 1 ≤ wd) (w1 : wd ≤ 1000000000000000000) (h : ∀ (H' : Hp) (T : Addr) ds rs ls, Ext [b] H H' → Bag H' b c → H T = none → WdAt N H' T ds rs ls → Wd ds rs ls → (ds.length : Int) ≤ m → Q (.ref T) H') : spWorld [.ref b, .int m, .int wd] H Q E := ⟨N, b, c, m, wd, rfl, bn, al, hb, m0, m1, w0, w1, h⟩
section
variable {P : Program} {w : World} {K : PySem.W.Frag} {mg : Str → Option Value} {base : Heap} {t0 t1 t2 t3 t4 : Tok}
theorem kn_world {k : Nat} (D : Df K mg "_law_world" s_Lworld) (B : Bl mg) (c_Ltake : Kn P w K mg base "_law_take" k spTake) (c_Lbundles : Kn P w K mg base "_law_bundles" k spBunW) (c_Lleads : Kn P w K mg base "_law_leads" k spLeadsW) (c_Lbounds : Kn P w K mg base "_law_bounds" k spBnd) (c_Lloads : Kn P w K mg base "_law_loads" k spLoadsU) : Kn P w K mg base "_law_world" (k + 1) spWorld := by
  refine kn_of D (fun _ _ _ _ _ _ us hl => match us, hl with | [_, _, _], _ => rfl) sc_Lworld (fun vs H Q E h => by obtain ⟨N, b, c, m, wd, rfl, _⟩ := h; rfl) (fun f cd B' fr z H vs Q E hr gd h => ?_)
  obtain ⟨N, b, c, m, wd, rfl, bn, al, hB, m0, m1, w0, w1, q⟩ := h
  refine ⟨_, (pss_cons (ps_set (i := 3) sc_Lworld.nd rfl (.inl rfl) (pe_op op_add pe_int (pe_own c_Ltake hr gd (by rfl) (pa_cons (pv 0) (pa_cons (pe_op op_sub (pv 1) pe_int) pa_nil)))))
  (pss_cons (ps_set (i := 4) sc_Lworld.nd rfl (.inl rfl) (pe_own c_Lbundles hr gd (by rfl) (pa_cons (pv 0) (pa_cons (pv 3) (pa_cons (pv 2) pa_nil)))))
  (pss_cons (ps_set (i := 5) sc_Lworld.nd rfl (.inl rfl) (pe_own c_Lleads hr gd (by rfl) (pa_cons (pv 0) (pa_cons (pv 4) pa_nil))))
  (pss_one (ps_ret (pe_tup (pa_cons (pe_own c_Lbounds hr gd (by rfl) (pa_cons (pv 0) (pa_cons (pe_own c_Lloads hr gd (by rfl) (pa_cons (pv 3) (pa_cons (pv 4) (pa_cons (pv 5) pa_nil)))) pa_nil))) (pa_cons (pv 4) (pa_cons (pv 5) pa_nil))))))))), ?_⟩
  have big : (20 : Nat) < 2 ^ 200 := by decide
  walk_at "xs"
  refine x_take hB (by omega) (by omega) ?_
  intro H1 v1 E1 B1 a1 c1
  walk_at "xs"
  refine x_bunW bn (al_ext al E1 B1) B1 (by omega) (by omega) w0 w1 ?_
  intro H2 f2 rs E2 B2 d2 hb2
  have al2 := al_ext al (E1.trans E2) B2
  have sb : ∀ z, z ∈ [b] → z ∈ N := fun z hz => by simp at hz; subst hz; exact bn
  walk_at "xs"
  refine x_leadsW B2 (d2.sub sb) hb2 (by omega) ?_
  intro H3 T3 ls E3 B3 nT3 e3 m3 lo
  have d2 := d2.ext (E3.mono sb)
  have al3 := al_ext al2 E3 B3
  have n3N : T3 ∉ N := fun m => by obtain ⟨o, e⟩ := al2 _ m; rw [e] at nT3; cases nT3
  walk_at "xs"
  refine x_loadsU d2 e3 hb2 (by omega) (by omega) lo.1 ?_
  intro H4 F S4 nF eF
  have e3 := S4 _ _ e3
  have d2 := d2.ext (Ext.same S4)
  have nFb : F ∉ [b] := by
    obtain ⟨ob, hob⟩ := B3.at
    exact new_out (Same.refl H3) hob nF
  have ln := ld_len (2 + v1).toNat rs ls ls.length
  have sm := ld_small hb2 (by omega) lo ls.length (Nat.le_refl _)
  have len := (bundles_len hb2).1
  have e := lo.1
  walk_at "xs"
  refine ⟨N, b, c, F, ldOf (2 + v1).toNat rs ls ls.length, rfl, bn, al_ext al3 (Ext.same S4) (B3.ext S4), B3.ext S4, eF, nFb, by omega, by omega, fun h hh => ?_, ?_⟩
  · have := sm h hh
    omega
  intro H5 f1 ds E5 B5 d1 hb1 ld okj
  have ed : ds.length = (2 + v1).toNat := ld.trans ln
  have e3 := E5 _ _ m3 e3
  have d2 := d2.ext (E5.mono sb)
  walk_at "xs"
  intro T hT
  have S6 := same_upd hT (o := .tup [.ref f1, .ref f2, .ref T3])
  have nT : T ∉ [b] := by
    obtain ⟨ob, hob⟩ := B5.at
    exact new_out (Same.refl H5) hob hT
  have nTN : T ∉ N := fun m => by
    obtain ⟨o, e⟩ := al_ext al3 ((Ext.same S4).trans E5) B5 _ m
    rw [e] at hT; cases hT
  have X := E1.trans (E2.trans (E3.trans ((Ext.same S4).trans E5)))
  have hT0 : H T = none := by
    cases h : H T with
    | none => rfl
    | some o => rw [X _ _ nT h] at hT; cases hT
  have eI : (ds.length : Int) = 2 + v1 := by omega
  exact q _ T ds rs ls (X.trans (Ext.same S6)) (B5.ext S6) hT0 ⟨f1, f2, T3, upd_same, nTN, d1.ext (Ext.same S6), d2.ext (Ext.same S6), n3N, S6 _ _ e3⟩ ⟨hb1, by rw [eI]; exact hb2, lo, by rw [ed]; exact okj⟩ (by omega)
end
/-! ### tuples of ints as data -/
theorem ints_facts : ∀ ms : List Int, PyData.canLayAll0 (ms.map PyData.int) = true ∧ PyData.depthAll (ms.map PyData.int) = 0 ∧ PyData.plainAll (ms.map PyData.int) = true
  | [] => ⟨rfl, rfl, rfl⟩
  | m :: r => by
    obtain ⟨a, b, c⟩ := ints_facts r
    exact ⟨by simp [PyData.canLayAll0, PyData.canLay0, a], by simp [PyData.depthAll, PyData.depth, b], by simp [PyData.plainAll, PyData.plain, c]⟩
theorem tups_facts : ∀ dl : List PyData, (∀ u ∈ dl, ∃ k, u = tupD k) → PyData.canLayAll0 dl = true ∧ PyData.depthAll dl ≤ 1 ∧ PyData.plainAll dl = true
  | [], _ => ⟨rfl, by decide, rfl⟩
  | d :: r, h => by
    obtain ⟨a, b, c⟩ := tups_facts r fun u hu => h u (List.mem_cons_of_mem _ hu)
    obtain ⟨k, rfl⟩ := h d (List.mem_cons_self ..)
    obtain ⟨x, y, z⟩ := ints_facts k
    refine ⟨by simp [PyData.canLayAll0, tupD, PyData.canLay0, a, x], ?_, by simp [PyData.plainAll, tupD, PyData.plain, c, z]⟩
    simp only [PyData.depthAll, tupD, PyData.depth, y]
    omega
theorem eqvAll_ints : ∀ a b : List Int, PyData.eqvAll (a.map PyData.int) (b.map PyData.int) = decide (a = b)
  | [], [] => by simp [PyData.eqvAll]
  | [], _ :: _ => by simp [PyData.eqvAll]
  | _ :: _, [] => by simp [PyData.eqvAll]
  | x :: a, y :: b => by
    simp only [List.map_cons, PyData.eqvAll, PyData.eqv, eqvAll_ints a b]
    rw [Bool.eq_iff_iff]
    simp [Bool.and_eq_true]
theorem eqv_tupD (a b : List Int) : PyData.eqv (tupD a) (tupD b) = decide (a = b) := by
  show PyData.eqvAll _ _ = _
  exact eqvAll_ints a b
theorem shaped_tup (ns : List Int) : SeqAt.shaped (tupD ns) = true := by
  have lay := ints_facts ns
  simp [SeqAt.shaped, tupD, PyData.canLay0, lay.1, PyData.depth, lay.2.1]
theorem DpAll.ints {K : PySem.W.Frag} {H : Hp} : ∀ (ms : List Int), DpAll K H (ms.map V.int) (ms.map PyData.int)
  | [] => .nil
  | m :: r => .cons (.int m) (DpAll.ints r)
theorem x_eqTup {K : PySem.W.Frag} {H : Hp} {Q : VK} {p q : Addr} {a b : List Int} (hp : H p = some (.tup (a.map V.int))) (hq : H q = some (.tup (b.map V.int))) (h : Q (.bl (decide (a = b))) H) : rEqD K (.ref p) (.ref q) H Q := by
  refine ⟨tupD a, tupD b, .tup (SqT.of hp) (DpAll.ints a), .tup (SqT.of hq) (DpAll.ints b), shaped_tup a, shaped_tup b, ?_⟩
  rw [eqv_tupD]; exact h

/-! ### equality of clusters -/
/-- what isinstance asks of a class -/
structure Ci (K : PySem.W.Frag) (C : Addr) : Prop where
  a : PySem.W.findIn K (.ref C) "__class__" = some (some (.builtin "object.__class__"))
  n : PySem.W.specialIn K (.builtin "object.__class__") "__get__" = some (some (.builtin "getset_descriptor.__get__"))
  t : PySem.W.takesIn K (.builtin "object.__class__") = some true
  m : PySem.W.mroIn K C (.type "object") = some true
theorem x_isO {K : PySem.W.Frag} {C x dx : Addr} {fs : List (Str × V)} {H : Hp} {Q : VK} (ci : Ci K C) (cl : Cls K C) (hx : H x = some (.ins C dx fs)) (h : Q (.bl true) H) : rIsi K [.ref x, .ref C] H Q :=
  ⟨.ref x, .ref C, .ref C, .ref C, true, rfl, .own C, .base (.ins hx cl ci.a ci.n ci.t ci.m), by unfold PySem.W.kitOne; rw [if_pos (beq_self_eq_true _)], h⟩
theorem bounds_all {ds : List PyData} (h : boundsD (.list ds) = true) : ∀ d ∈ ds, boundD d = true := by
  have h : ((decide (2 ≤ (ds.length : Int)) && decide ((ds.length : Int) ≤ 10)) && (ds.map boundD).all id) = true := h
  rw [Bool.and_eq_true, List.all_eq_true] at h
  exact fun d hd => h.2 _ (List.mem_map.mpr ⟨d, hd, rfl⟩)
theorem shaped_tups {ds : List PyData} (h : ∀ u ∈ ds, ∃ k, u = tupD k) : SeqAt.shaped (.list ds) = true := by
  obtain ⟨f1, f2, f3⟩ := tups_facts ds h
  have : PyData.depthAll ds + 1 ≤ 64 := by omega
  simp [SeqAt.shaped, PyData.canLay0, f1, PyData.depth, this]
theorem bounds_tups {ds : List PyData} (h : boundsD (.list ds) = true) : ∀ u ∈ ds, ∃ k, u = tupD k := fun u hu => by
  obtain ⟨x, y, e, _⟩ := bound_row (bounds_all h u hu)
  exact ⟨_, e⟩
theorem bundles_tups {ds : List PyData} {n : Int} (h : bundlesD (.list ds) n = true) : ∀ u ∈ ds, ∃ k, u = tupD k := fun u hu => by
  obtain ⟨_, all⟩ := bundles_len h
  rw [List.all_eq_true] at all
  obtain ⟨a, b, c, e⟩ := bundle_at (all _ (List.mem_map.mpr ⟨u, hu, rfl⟩))
  exact ⟨[a, b, c], e⟩
theorem eqv_tups : ∀ {ds : List PyData}, (∀ u ∈ ds, ∃ k, u = tupD k) → PyData.eqv (.list ds) (.list ds) = true := fun h => SeqAt.eqv_refl _ (SeqAt.canLay_of_shaped (shaped_tups h))
theorem x_eqDn {K : PySem.W.Frag} {M N : List Addr} {H : Hp} {Q : VK} {x y : V} {d e : PyData} (hx : Dn M H x d) (hy : Dn N H y e) (s1 : SeqAt.shaped d = true) (s2 : SeqAt.shaped e = true) (h : Q (.bl (PyData.eqv d e)) H) : rEqD K x y H Q :=
  ⟨d, e, hx.dp (PyData.hasDict_of_canLay d (SeqAt.canLay_of_shaped s1)), hy.dp (PyData.hasDict_of_canLay e (SeqAt.canLay_of_shaped s2)), s1, s2, h⟩
theorem x_neDn {K : PySem.W.Frag} {M N : List Addr} {H : Hp} {Q : VK} {x y : V} {d e : PyData} (hx : Dn M H x d) (hy : Dn N H y e) (s1 : SeqAt.shaped d = true) (s2 : SeqAt.shaped e = true) (h : Q (.bl (!PyData.eqv d e)) H) : rNeD K x y H Q :=
  ⟨d, e, hx.dp (PyData.hasDict_of_canLay d (SeqAt.canLay_of_shaped s1)), hy.dp (PyData.hasDict_of_canLay e (SeqAt.canLay_of_shaped s2)), s1, s2, h⟩

/-! ### a world's cluster; givers, takers, free brokers -/
theorem x_cluM {C : Addr} {M : List Addr} {H : Hp} {v1 v2 : V} {ds1 ds2 : List PyData} {R : Addr → Hp → Prop} (hM : ∀ m ∈ M, ∃ o, H m = some o) (hd1 : Dn M H v1 (.list ds1)) (hd2 : Dn M H v2 (.list ds2)) (hb1 : boundsD (.list ds1) = true) (hb2 : bundlesD (.list ds2) ds1.length = true)
    (h : ∀ x H', Same H H' → H x = none → Clu C M H' x (.list ds1) (.list ds2) → R x H') :
    ∀ x dx, H x = none → H dx = none → dx ≠ x → spInit C (.ref x :: ([v1, v2] ++ [])) (upd (upd H dx (.own x)) x (.ins C dx [])) (fun v H2 => v = .non ∧ R x H2) E0 := by
  intro x dx hx hdx ne
  have S1 := same_upd hdx (o := .own x)
  have hx1 : (upd H dx (.own x)) x = none := by rw [upd_ne ne.symm]; exact hx
  have S := S1.trans (same_upd hx1 (o := .ins C dx []))
  have nx : x ∉ M := fun m => by obtain ⟨o, e⟩ := hM _ m; rw [hx] at e; cases e
  refine ⟨M, x, dx, v1, v2, ds1, ds2, rfl, ?_, nx, upd_same, (hd1.more hx).ext (Ext.same S), (hd2.more hx).ext (Ext.same S), hb1, hb2, fun H' X cl => ⟨rfl, ?_⟩⟩
  · intro m hm
    obtain ⟨o, e⟩ := hM m hm
    exact ⟨_, S _ _ e⟩
  · exact h x H' (fun z o e => X _ _ (by simpa using ne_of_none e hx) (S _ _ e)) hx cl
def spCluW (C : Addr) : Sp := fun vs H Q _ => ∃ (M : List Addr) (T : Addr) (ds rs : List PyData) (ls : List Int), vs = [.ref T] ∧ (∀ m ∈ M, ∃ o, H m = some o) ∧ WdAt M H T ds rs ls ∧ Wd ds rs ls ∧ ∀ H' x, Same H H' → H x = none → Clu C M H' x (.list ds) (.list rs) → Q (.ref x) H'
/-- may rise, may fall, is not rigid -/
def upB (ds : List PyData) (hs : List Int) (i : Nat) : Bool := match ds[i]?, hs[i]? with
  | some (.tuple [.int lo, .int _]), some h => decide (h > lo)
  | _, _ => false
def dnB (ds : List PyData) (hs : List Int) (i : Nat) : Bool := match ds[i]?, hs[i]? with
  | some (.tuple [.int _, .int up]), some h => decide (h < up)
  | _, _ => false
def lsB (ds : List PyData) (i : Nat) : Bool := match ds[i]? with
  | some (.tuple [.int lo, .int up]) => decide (lo < up)
  | _ => false
def cI (l : List Nat) : List Int := l.map fun i => ((i : Nat) : Int)
def upL (ds : List PyData) (hs : List Int) : List Int := cI ((List.range ds.length).filter (upB ds hs))
def dnL (ds : List PyData) (hs : List Int) : List Int := cI ((List.range ds.length).filter (dnB ds hs))
def lsL (ds : List PyData) : List Nat := (List.range ds.length).filter (lsB ds)
theorem up_ls {ds : List PyData} {hs : List Int} (ok : ∀ j, OkAt ds hs j) {i : Nat} (h : upB ds hs i = true) : lsB ds i = true := by
  unfold upB at h
  split at h
  · rename_i lo up x e1 e2
    have := ok i lo up x e1 e2
    have h := of_decide_eq_true h
    show (match ds[i]? with
      | some (.tuple [.int lo, .int up]) => decide (lo < up)
      | _ => false) = true
    rw [e1]
    exact decide_eq_true (by omega)
  · cases h
theorem dn_ls {ds : List PyData} {hs : List Int} (ok : ∀ j, OkAt ds hs j) {i : Nat} (h : dnB ds hs i = true) : lsB ds i = true := by
  unfold dnB at h
  split at h
  · rename_i lo up x e1 e2
    have := ok i lo up x e1 e2
    have h := of_decide_eq_true h
    show (match ds[i]? with
      | some (.tuple [.int lo, .int up]) => decide (lo < up)
      | _ => false) = true
    rw [e1]
    exact decide_eq_true (by omega)
  · cases h
theorem up_free {ds : List PyData} {hs : List Int} (ok : ∀ j, OkAt ds hs j) : (lsL ds).filter (upB ds hs) = (List.range ds.length).filter (upB ds hs) := by
  unfold lsL
  rw [List.filter_filter]
  refine List.filter_congr fun i _ => ?_
  cases e : upB ds hs i with
  | true => rw [up_ls ok e]; rfl
  | false => rfl
theorem dn_free {ds : List PyData} {hs : List Int} (ok : ∀ j, OkAt ds hs j) : (lsL ds).filter (dnB ds hs) = (List.range ds.length).filter (dnB ds hs) := by
  unfold lsL
  rw [List.filter_filter]
  refine List.filter_congr fun i _ => ?_
  cases e : dnB ds hs i with
  | true => rw [dn_ls ok e]; rfl
  | false => rfl
theorem cI_len (l : List Nat) : (cI l).length = l.length := List.length_map _
theorem filt_le {p : Nat → Bool} (l : List Nat) : (l.filter p).length ≤ l.length := List.length_filter_le _ _
theorem filt_next {p : Nat → Bool} (l : List Nat) (a : Nat) : (l ++ [a]).filter p = l.filter p ++ (if p a = true then [a] else []) := by
  rw [List.filter_append]
  congr 1
  by_cases h : p a = true
  · rw [if_pos h]; simp [h]
  · rw [if_neg h]; simp [h]
theorem cI_app (a b : List Nat) : cI (a ++ b) = cI a ++ cI b := List.map_append
theorem bound_at {ds : List PyData} (hb : boundsD (.list ds) = true) {i : Nat} (h : i < ds.length) : ∃ lo up : Int, ds[i]? = some (tupD [lo, up]) ∧ 0 ≤ lo ∧ lo ≤ up ∧ up ≤ 10 ^ 30 := by
  obtain ⟨lo, up, e, a⟩ := bound_row (bounds_all hb ds[i] (List.getElem_mem h))
  exact ⟨lo, up, by rw [List.getElem?_eq_getElem h, e], a⟩
def spNums (L : List PyData → List Int → List Int) : Sp := fun vs H Q _ => ∃ (M : List Addr) (T : Addr) (ds rs : List PyData) (ls : List Int), vs = [.ref T] ∧ WdAt M H T ds rs ls ∧ Wd ds rs ls ∧ ∀ H' f, Same H H' → H f = none → H' f = some (.lst ((L ds (ldOf ds.length rs ls ls.length)).map V.int)) → Q (.ref f) H'
section
variable {P : Program} {w : World} {K : PySem.W.Frag} {mg : Str → Option Value} {base : Heap} {t0 t1 t2 t3 t4 : Tok} {C : Addr}
theorem kn_cluW {k : Nat} (D : Df K mg "_law_cluster" s_Lcluster) (B : Bl mg) (cc : Cc K mg C) (m_init : Km P w K mg base C "__init__" k (spInit C)) : Kn P w K mg base "_law_cluster" (k + 1 + 1) (spCluW C) := by
  refine kn_of D (fun _ _ _ _ _ _ us hl => match us, hl with | [_], _ => rfl) sc_Lcluster (fun vs H Q E h => by obtain ⟨M, T, ds, rs, ls, rfl, _⟩ := h; rfl) (fun f cd B' fr z H vs Q E hr gd h => ?_)
  obtain ⟨M, T, ds, rs, ls, rfl, hM, wa, wd, q⟩ := h
  have c_Cluster := cc.ck
  refine ⟨_, (pss_one (ps_ret (pe_ownMk c_Cluster m_init hr gd (by rfl) (pa_cons (pe_callTy call_list_of (by rfl) B.«list» (by decide +kernel) (pa_cons (pe_ix (r := rIxT K) ix_tup (pv 0) pe_int (fun _ _ => rfl)) pa_nil)) (pa_cons (pe_callTy call_list_of (by rfl) B.«list» (by decide +kernel) (pa_cons (pe_ix (r := rIxT K) ix_tup (pv 0) pe_int (fun _ _ => rfl)) pa_nil)) pa_nil))))), ?_⟩
  obtain ⟨f1, f2, f3, eT, nT, d1, d2, n3, e3⟩ := wa.ex
  cases d1 with
  | @lst _ xs1 _ e1 m1 A1 =>
  cases d2 with
  | @lst _ xs2 _ e2 m2 A2 =>
  walk_at "xs"
  intro l1 hl1
  have S1 := same_upd hl1 (o := .lst xs1)
  have el1 := upd_same (H := H) (a := l1) (o := .lst xs1)
  have eT := S1 _ _ eT
  have e2 := S1 _ _ e2
  have n1 : l1 ∉ M := fun m => by obtain ⟨o, e⟩ := hM _ m; rw [hl1] at e; cases e
  generalize upd H l1 _ = H1 at *
  walk_at "xs"
  intro l2 hl2
  have S2 := same_upd hl2 (o := .lst xs2)
  have el2 := upd_same (H := H1) (a := l2) (o := .lst xs2)
  have el1 := S2 _ _ el1
  have n2 : l2 ∉ M := fun m => by obtain ⟨o, e⟩ := hM _ m; rw [S1 _ _ e] at hl2; cases hl2
  generalize upd H1 l2 _ = H2 at *
  have S := S1.trans S2
  walk_at "xs"
  refine x_cluM (fun m hm => by obtain ⟨o, e⟩ := hM m hm; exact ⟨o, S _ _ e⟩) (.lst el1 n1 (A1.ext (Ext.same S))) (.lst el2 n2 (A2.ext (Ext.same S))) wd.b1 wd.b2 ?_
  intro x H3 S3 hx cl
  exact q H3 x (S.trans S3) (S.free hx) cl
theorem kn_above {k : Nat} (D : Df K mg "_law_above" s_Labove) (B : Bl mg) (c_Lloads : Kn P w K mg base "_law_loads" k spLoadsU) : Kn P w K mg base "_law_above" (k + 1) (spNums upL) := by
  refine kn_of D (fun _ _ _ _ _ _ us hl => match us, hl with | [_], _ => rfl) sc_Labove (fun vs H Q E h => by obtain ⟨M, T, ds, rs, ls, rfl, _⟩ := h; rfl) (fun f cd B' fr z H vs Q E hr gd h => ?_)
  obtain ⟨M, T, ds, rs, ls, rfl, wa, wd, q⟩ := h
  refine ⟨_, (pss_cons (ps_set (i := 1) sc_Labove.nd rfl (.inr rfl) (pe_own c_Lloads hr gd (by rfl) (pa_cons (pe_callB call_len_seq (by rfl) B.len (by decide +kernel) (pa_cons (pe_ix (r := rIxT K) ix_tup (pv 0) pe_int (fun _ _ => rfl)) pa_nil)) (pa_cons (pe_ix (r := rIxT K) ix_tup (pv 0) pe_int (fun _ _ => rfl)) (pa_cons (pe_ix (r := rIxT K) ix_tup (pv 0) pe_int (fun _ _ => rfl)) pa_nil)))))
  (pss_one (ps_ret (pe_lc (own := [("_law_broker", 2)]) rfl sc_Labove.nd (pi_range1 (by rfl) B.range (pa_cons (pe_callB call_len_seq (by rfl) B.len (by decide +kernel) (pa_cons (pv 1) pa_nil)) pa_nil)) (blkOk_by (N := ["_law_world_here", "_law_held", "_law_broker"]) (sc := defScope s_Labove) (by decide +kernel)) (fun _ _ _ _ _ => (pg_name (i := 2) sc_Labove.nd rfl (.inl rfl))) (fun _ _ _ _ _ => (pts_one (pt_cmpR op_gt (pe_ix (r := rIxL K) ix_list (pv 1) (pv 2) (fun _ _ => rfl)) (pe_ix (r := rIxT K) ix_tup (pe_ix (r := rIxL K) ix_list (pe_ix (r := rIxT K) ix_tup (pv 0) pe_int (fun _ _ => rfl)) (pv 2) (fun _ _ => rfl)) pe_int (fun _ _ => rfl)) (nomark _)))) (fun _ _ _ _ _ => (pv 2)))))), ?_⟩
  have n10 := bounds_len wd.b1
  obtain ⟨f1, f2, f3, eT, nT, d1, d2, n3, e3⟩ := wa.ex
  cases d1 with
  | @lst _ xs1 _ e1 m1 A1 =>
  have l1 := A1.length
  walk_at "xs"
  refine x_loadsU (n := (xs1.length : Int)) d2 e3 (by rw [l1]; exact wd.b2) (by omega) (by omega) wd.lo.1 ?_
  intro H1 F S1 nF eF
  rw [Int.toNat_natCast, l1] at eF
  have hn := ld_len ds.length rs ls ls.length
  generalize ldOf ds.length rs ls ls.length = hs at *
  have eT := S1 _ _ eT
  have e1 := S1 _ _ e1
  have hm : (hs.map V.int).length = ds.length := by rw [List.length_map]; exact hn
  walk_at "xs"
  intro L hL
  rw [hm, Int.toNat_natCast]
  have hL0 : H L = none := S1.free hL
  refine lc_range (lo := 0) (n := ds.length) (fun i H' => Same H H' ∧ Same H1 H' ∧ H' L = some (.lst ((cI ((List.range i).filter (upB ds hs))).map V.int))) ?_ ?_ ?_
  · exact ⟨S1.trans (same_upd hL), same_upd hL, upd_same⟩
  · rintro i H' hi ⟨S, S', eL⟩
    have eT := S' _ _ eT
    have e1 := S' _ _ e1
    have eF := S' _ _ eF
    obtain ⟨v, ev, av⟩ := ix_at e1 (i := 0 + (i : Int)) (by omega) (by omega)
    obtain ⟨lo, up, hrow, _⟩ := bound_at wd.b1 hi
    obtain ⟨d, hd, dv⟩ := (A1.ext (Ext.same S)).get ev
    rw [show (0 + (i : Int)).toNat = i by omega] at hd
    rw [hrow] at hd
    cases hd
    obtain ⟨h0, hh0, ah0⟩ := at_map (hs := hs) (i := 0 + (i : Int)) (by omega) (by omega)
    rw [show (0 + (i : Int)).toNat = i by omega] at hh0
    have ub : upB ds hs i = decide (h0 > lo) := by
      unfold upB
      rw [hrow, hh0]
      rfl
    have rg : (List.range (i + 1)).filter (upB ds hs) = (List.range i).filter (upB ds hs) ++ (if upB ds hs i = true then [i] else []) := by rw [List.range_succ, filt_next]
    have fl := filt_le (p := upB ds hs) (List.range i)
    rw [List.length_range] at fl
    cases dv with
    | tup r1 r2 r3 =>
    obtain rfl := DnAll.toInts (ms := [lo, up]) r3
    walk_at "xs"
    refine x_wiped rfl ?_
    walk_at "xs"
    refine x_ixL (SqL.of eF) ah0 ?_
    walk_at "xs"
    refine x_ixL (SqL.of e1) av ?_
    walk_at "xs"
    refine x_ite (fun hc => ?_) (fun hc => ?_)
    · walk_at "xs"
      refine x_acc eL (by rw [List.length_map, cI_len, sizeLine_eq]; omega) ?_
      refine ⟨fun z o e => ?_, fun z o e => ?_, ?_⟩
      · rw [upd_ne (ne_of_none e hL0)]; exact S _ _ e
      · rw [upd_ne (ne_of_none e hL)]; exact S' _ _ e
      · rw [upd_same, rg, ub, if_pos (decide_eq_true hc), cI_app, List.map_append, Int.zero_add]; rfl
    · refine ⟨S, S', ?_⟩
      rw [rg, ub, if_neg (by rw [decide_eq_false hc]; exact Bool.false_ne_true), List.append_nil]
      exact eL
  · rintro H' ⟨S, S', eL⟩
    walk_at "xs"
    exact q H' L S hL0 eL
theorem kn_below {k : Nat} (D : Df K mg "_law_below" s_Lbelow) (B : Bl mg) (c_Lloads : Kn P w K mg base "_law_loads" k spLoadsU) : Kn P w K mg base "_law_below" (k + 1) (spNums dnL) := by
  refine kn_of D (fun _ _ _ _ _ _ us hl => match us, hl with | [_], _ => rfl) sc_Lbelow (fun vs H Q E h => by obtain ⟨M, T, ds, rs, ls, rfl, _⟩ := h; rfl) (fun f cd B' fr z H vs Q E hr gd h => ?_)
  obtain ⟨M, T, ds, rs, ls, rfl, wa, wd, q⟩ := h
  refine ⟨_, (pss_cons (ps_set (i := 1) sc_Lbelow.nd rfl (.inr rfl) (pe_own c_Lloads hr gd (by rfl) (pa_cons (pe_callB call_len_seq (by rfl) B.len (by decide +kernel) (pa_cons (pe_ix (r := rIxT K) ix_tup (pv 0) pe_int (fun _ _ => rfl)) pa_nil)) (pa_cons (pe_ix (r := rIxT K) ix_tup (pv 0) pe_int (fun _ _ => rfl)) (pa_cons (pe_ix (r := rIxT K) ix_tup (pv 0) pe_int (fun _ _ => rfl)) pa_nil)))))
  (pss_one (ps_ret (pe_lc (own := [("_law_broker", 2)]) rfl sc_Lbelow.nd (pi_range1 (by rfl) B.range (pa_cons (pe_callB call_len_seq (by rfl) B.len (by decide +kernel) (pa_cons (pv 1) pa_nil)) pa_nil)) (blkOk_by (N := ["_law_world_here", "_law_held", "_law_broker"]) (sc := defScope s_Lbelow) (by decide +kernel)) (fun _ _ _ _ _ => (pg_name (i := 2) sc_Lbelow.nd rfl (.inl rfl))) (fun _ _ _ _ _ => (pts_one (pt_cmpR op_lt (pe_ix (r := rIxL K) ix_list (pv 1) (pv 2) (fun _ _ => rfl)) (pe_ix (r := rIxT K) ix_tup (pe_ix (r := rIxL K) ix_list (pe_ix (r := rIxT K) ix_tup (pv 0) pe_int (fun _ _ => rfl)) (pv 2) (fun _ _ => rfl)) pe_int (fun _ _ => rfl)) (nomark _)))) (fun _ _ _ _ _ => (pv 2)))))), ?_⟩
  have n10 := bounds_len wd.b1
  obtain ⟨f1, f2, f3, eT, nT, d1, d2, n3, e3⟩ := wa.ex
  cases d1 with
  | @lst _ xs1 _ e1 m1 A1 =>
  have l1 := A1.length
  walk_at "xs"
  refine x_loadsU (n := (xs1.length : Int)) d2 e3 (by rw [l1]; exact wd.b2) (by omega) (by omega) wd.lo.1 ?_
  intro H1 F S1 nF eF
  rw [Int.toNat_natCast, l1] at eF
  have hn := ld_len ds.length rs ls ls.length
  generalize ldOf ds.length rs ls ls.length = hs at *
  have eT := S1 _ _ eT
  have e1 := S1 _ _ e1
  have hm : (hs.map V.int).length = ds.length := by rw [List.length_map]; exact hn
  walk_at "xs"
  intro L hL
  rw [hm, Int.toNat_natCast]
  have hL0 : H L = none := S1.free hL
  refine lc_range (lo := 0) (n := ds.length) (fun i H' => Same H H' ∧ Same H1 H' ∧ H' L = some (.lst ((cI ((List.range i).filter (dnB ds hs))).map V.int))) ?_ ?_ ?_
  · exact ⟨S1.trans (same_upd hL), same_upd hL, upd_same⟩
  · rintro i H' hi ⟨S, S', eL⟩
    have eT := S' _ _ eT
    have e1 := S' _ _ e1
    have eF := S' _ _ eF
    obtain ⟨v, ev, av⟩ := ix_at e1 (i := 0 + (i : Int)) (by omega) (by omega)
    obtain ⟨lo, up, hrow, _⟩ := bound_at wd.b1 hi
    obtain ⟨d, hd, dv⟩ := (A1.ext (Ext.same S)).get ev
    rw [show (0 + (i : Int)).toNat = i by omega] at hd
    rw [hrow] at hd
    cases hd
    obtain ⟨h0, hh0, ah0⟩ := at_map (hs := hs) (i := 0 + (i : Int)) (by omega) (by omega)
    rw [show (0 + (i : Int)).toNat = i by omega] at hh0
    have ub : dnB ds hs i = decide (h0 < up) := by
      unfold dnB
      rw [hrow, hh0]
      rfl
    have rg : (List.range (i + 1)).filter (dnB ds hs) = (List.range i).filter (dnB ds hs) ++ (if dnB ds hs i = true then [i] else []) := by rw [List.range_succ, filt_next]
    have fl := filt_le (p := dnB ds hs) (List.range i)
    rw [List.length_range] at fl
    cases dv with
    | tup r1 r2 r3 =>
    obtain rfl := DnAll.toInts (ms := [lo, up]) r3
    walk_at "xs"
    refine x_wiped rfl ?_
    walk_at "xs"
    refine x_ixL (SqL.of eF) ah0 ?_
    walk_at "xs"
    refine x_ixL (SqL.of e1) av ?_
    walk_at "xs"
    refine x_ite (fun hc => ?_) (fun hc => ?_)
    · walk_at "xs"
      refine x_acc eL (by rw [List.length_map, cI_len, sizeLine_eq]; omega) ?_
      refine ⟨fun z o e => ?_, fun z o e => ?_, ?_⟩
      · rw [upd_ne (ne_of_none e hL0)]; exact S _ _ e
      · rw [upd_ne (ne_of_none e hL)]; exact S' _ _ e
      · rw [upd_same, rg, ub, if_pos (decide_eq_true hc), cI_app, List.map_append, Int.zero_add]; rfl
    · refine ⟨S, S', ?_⟩
      rw [rg, ub, if_neg (by rw [decide_eq_false hc]; exact Bool.false_ne_true), List.append_nil]
      exact eL
  · rintro H' ⟨S, S', eL⟩
    walk_at "xs"
    exact q H' L S hL0 eL
def spFree (C : Addr) : Sp := fun vs H Q _ => ∃ (x : Addr) (M : List Addr) (ds : List PyData) (d2 : PyData), vs = [.ref x] ∧ Clu C M H x (.list ds) d2 ∧ boundsD (.list ds) = true ∧ ∀ H' f, Same H H' → H f = none → H' f = some (.lst ((cI (lsL ds)).map V.int)) → Q (.ref f) H'
theorem kn_free {k : Nat} (D : Df K mg "_free" s__free) (B : Bl mg) (cc : Cc K mg C) (m_size : Km P w K mg base C "size" k (spSize C)) (m_is_rigid : Km P w K mg base C "is_rigid" k (spRigid C)) : Kn P w K mg base "_free" (k + 1) (spFree C) := by
  refine kn_of D (fun _ _ _ _ _ _ us hl => match us, hl with | [_], _ => rfl) sc__free (fun vs H Q E h => by obtain ⟨x, M, ds, d2, rfl, _⟩ := h; rfl) (fun f cd B' fr z H vs Q E hr gd h => ?_)
  obtain ⟨x, M, ds, d2, rfl, cl, hb, q⟩ := h
  have c_Cluster := cc.ck
  refine ⟨_, (pss_one (ps_ret (pe_lc (own := [("broker", 1)]) rfl sc__free.nd (pi_range1 (by rfl) B.range (pa_cons (pe_ownM0 (pv 0) c_Cluster.cls m_size hr gd) pa_nil)) (blkOk_by (N := ["cluster", "broker"]) (sc := defScope s__free) (by decide +kernel)) (fun _ _ _ _ _ => (pg_name (i := 1) sc__free.nd rfl (.inl rfl))) (fun _ _ _ _ _ => (pts_one (pt_not (pt_val (pe_ownM (pv 0) c_Cluster.cls m_is_rigid hr gd (pa_cons (pv 1) pa_nil)))))) (fun _ _ _ _ _ => (pv 1))))), ?_⟩
  have n10 := bounds_len hb
  obtain ⟨dx, B0, U0, N0, kvs, hx, _⟩ := id cl
  walk_at "xs"
  refine x_mAt hx (f3_none _ _ _ (by decide) (by decide) (by decide)) ?_
  walk_at "xs"
  refine ⟨x, M, ds, _, rfl, cl, ?_⟩
  walk_at "xs"
  intro L hL
  rw [Int.toNat_natCast]
  refine lc_range (lo := 0) (n := ds.length) (fun i H' => Same H H' ∧ H' L = some (.lst ((cI ((List.range i).filter (lsB ds))).map V.int))) ?_ ?_ ?_
  · exact ⟨same_upd hL, upd_same⟩
  · rintro i H' hi ⟨S, eL⟩
    have hx := S _ _ hx
    have cl := cl.ext (Ext.same S)
    obtain ⟨lo, up, hrow, _, le, _⟩ := bound_at hb hi
    have hrow' : ds[(0 + (i : Int)).toNat]? = some (tupD [lo, up]) := by rw [show (0 + (i : Int)).toNat = i by omega]; exact hrow
    have ub : lsB ds i = decide (lo < up) := by
      unfold lsB
      rw [hrow]
      rfl
    have rg : (List.range (i + 1)).filter (lsB ds) = (List.range i).filter (lsB ds) ++ (if lsB ds i = true then [i] else []) := by rw [List.range_succ, filt_next]
    have fl := filt_le (p := lsB ds) (List.range i)
    rw [List.length_range] at fl
    walk_at "xs"
    refine x_wiped rfl ?_
    walk_at "xs"
    refine x_mAt hx (f3_none _ _ _ (by decide) (by decide) (by decide)) ?_
    walk_at "xs"
    refine ⟨x, M, ds, _, 0 + (i : Int), lo, up, rfl, cl, by omega, by omega, hrow', ?_⟩
    walk_at "xs"
    refine x_iteN (fun hc => ?_) (fun hc => ?_)
    · walk_at "xs"
      refine x_acc eL (by rw [List.length_map, cI_len, sizeLine_eq]; omega) ?_
      refine ⟨fun z o e => ?_, ?_⟩
      · rw [upd_ne (ne_of_none e hL)]; exact S _ _ e
      · rw [upd_same, rg, ub, if_pos (decide_eq_true (by omega)), cI_app, List.map_append, Int.zero_add]; rfl
    · refine ⟨S, ?_⟩
      rw [rg, ub, if_neg (by rw [decide_eq_false (by omega)]; exact Bool.false_ne_true), List.append_nil]
      exact eL
  · rintro H' ⟨S, eL⟩
    walk_at "xs"
    exact q H' L S hL eL
def spNumsP (C : Addr) (L : List PyData → List Int → List Int) : Sp := fun vs H Q _ => ∃ (x p : Addr) (M : List Addr) (ds rs : List PyData) (ls : List Int), vs = [.ref x, .ref p] ∧ Clu C M H x (.list ds) (.list rs) ∧ H p = some (.tup (ls.map V.int)) ∧ Wd ds rs ls ∧ ∀ H' f, Same H H' → H f = none → H' f = some (.lst ((L ds (ldOf ds.length rs ls ls.length)).map V.int)) → Q (.ref f) H'
theorem int_of_cI {l : List Nat} {i : Nat} {v : V} (h : ((cI l).map V.int)[i]? = some v) : ∃ j : Nat, l[i]? = some j ∧ v = .int (j : Nat) := by
  obtain ⟨m, hm, rfl⟩ := int_at h
  unfold cI at hm
  rw [List.getElem?_map] at hm
  cases e : l[i]? with
  | none => rw [e] at hm; cases hm
  | some j => rw [e] at hm; exact ⟨j, rfl, by rw [← Option.some.inj hm]⟩
theorem kn_givers {k : Nat} (D : Df K mg "givers" s_givers) (B : Bl mg) (cc : Cc K mg C) (c_loads : Kn P w K mg base "loads" k (spLoadsP C)) (c__free : Kn P w K mg base "_free" k (spFree C)) (m_floor : Km P w K mg base C "floor" k (spSide C false)) : Kn P w K mg base "givers" (k + 1) (spNumsP C upL) := by
  refine kn_of D (fun _ _ _ _ _ _ us hl => match us, hl with | [_, _], _ => rfl) sc_givers (fun vs H Q E h => by obtain ⟨x, p, M, ds, rs, ls, rfl, _⟩ := h; rfl) (fun f cd B' fr z H vs Q E hr gd h => ?_)
  obtain ⟨x, p, M, ds, rs, ls, rfl, cl, hp, wd, q⟩ := h
  have c_Cluster := cc.ck
  refine ⟨_, (pss_cons (ps_set (i := 2) sc_givers.nd rfl (.inr rfl) (pe_own c_loads hr gd (by rfl) (pa_cons (pv 0) (pa_cons (pv 1) pa_nil))))
  (pss_one (ps_ret (pe_lc (own := [("broker", 3)]) rfl sc_givers.nd (pi_list (pe_own c__free hr gd (by rfl) (pa_cons (pv 0) pa_nil))) (blkOk_by (N := ["cluster", "leads", "have", "broker"]) (sc := defScope s_givers) (by decide +kernel)) (fun _ _ _ _ _ => (pg_name (i := 3) sc_givers.nd rfl (.inl rfl))) (fun _ _ _ _ _ => (pts_one (pt_cmpR op_gt (pe_ix (r := rIxL K) ix_list (pv 2) (pv 3) (fun _ _ => rfl)) (pe_ownM (pv 0) c_Cluster.cls m_floor hr gd (pa_cons (pv 3) pa_nil)) (nomark _)))) (fun _ _ _ _ _ => (pv 3)))))), ?_⟩
  have n10 := bounds_len wd.b1
  obtain ⟨dx, B0, U0, N0, kvs, hx, _⟩ := id cl
  walk_at "xs"
  refine ⟨x, p, M, ds, rs, ls, rfl, cl, hp, wd.b1, wd.b2, wd.lo.1, ?_⟩
  intro H1 F S1 nF eF
  have okj := wd.ok
  have hn := ld_len ds.length rs ls ls.length
  generalize ldOf ds.length rs ls ls.length = hs at *
  have cl := cl.ext (Ext.same S1)
  walk_at "xs"
  refine ⟨x, M, ds, _, rfl, cl, wd.b1, ?_⟩
  intro H2 G S2 nG eG
  have cl := cl.ext (Ext.same S2)
  have S12 := S1.trans S2
  have eF := S2 _ _ eF
  walk_at "xs"
  intro L hL
  have hL0 : H L = none := S12.free hL
  refine lc_list (K := K) (a := G) (xs := (cI (lsL ds)).map V.int) (fun i H' => Same H H' ∧ Same H2 H' ∧ H' L = some (.lst ((cI (((lsL ds).take i).filter (upB ds hs))).map V.int))) ?_ ?_ ?_ ?_
  · exact ⟨S12.trans (same_upd hL), same_upd hL, upd_same⟩
  · rintro i H' _ ⟨S, S', eL⟩
    exact SqL.of (S' _ _ eG)
  · rintro i v H' hv ⟨S, S', eL⟩
    obtain ⟨j, hj, rfl⟩ := int_of_cI hv
    have hi := (List.getElem?_eq_some_iff.mp hj).1
    have hlt : j < ds.length := by
      have hm := List.mem_of_getElem? hj
      unfold lsL at hm
      rw [List.mem_filter, List.mem_range] at hm
      exact hm.1
    have l10 : (lsL ds).length ≤ 10 := by
      have := filt_le (p := lsB ds) (List.range ds.length)
      rw [List.length_range] at this
      exact Nat.le_trans this n10
    have hx := S _ _ hx
    have cl := cl.ext (Ext.same S')
    have eF := S' _ _ eF
    obtain ⟨lo, up, hrow, _⟩ := bound_at wd.b1 hlt
    have hrow' : ds[((j : Nat) : Int).toNat]? = some (tupD [lo, up]) := by rw [Int.toNat_natCast]; exact hrow
    obtain ⟨h0, hh0, ah0⟩ := at_map (hs := hs) (i := (j : Int)) (by omega) (by omega)
    rw [Int.toNat_natCast] at hh0
    have ub : upB ds hs j = decide (h0 > lo) := by
      unfold upB
      rw [hrow, hh0]
      rfl
    have rg : ((lsL ds).take (i + 1)).filter (upB ds hs) = ((lsL ds).take i).filter (upB ds hs) ++ (if upB ds hs j = true then [j] else []) := by rw [List.take_add_one, hj]; exact filt_next _ _
    have fl := filt_le (p := upB ds hs) ((lsL ds).take i)
    rw [List.length_take] at fl
    walk_at "xs"
    refine x_wiped rfl ?_
    walk_at "xs"
    refine x_ixL (SqL.of eF) ah0 ?_
    walk_at "xs"
    refine x_mAt hx (f3_none _ _ _ (by decide) (by decide) (by decide)) ?_
    walk_at "xs"
    refine ⟨x, M, ds, _, (j : Int), lo, up, rfl, cl, by omega, by omega, hrow', ?_⟩
    rw [if_neg Bool.false_ne_true]
    walk_at "xs"
    refine x_ite (fun hc => ?_) (fun hc => ?_)
    · walk_at "xs"
      refine x_acc eL (by rw [List.length_map, cI_len, sizeLine_eq]; omega) ?_
      refine ⟨fun z o e => ?_, fun z o e => ?_, ?_⟩
      · rw [upd_ne (ne_of_none e hL0)]; exact S _ _ e
      · rw [upd_ne (ne_of_none e hL)]; exact S' _ _ e
      · rw [upd_same, rg, ub, if_pos (decide_eq_true hc), cI_app, List.map_append]; rfl
    · refine ⟨S, S', ?_⟩
      rw [rg, ub, if_neg (by rw [decide_eq_false hc]; exact Bool.false_ne_true), List.append_nil]
      exact eL
  · rintro H' ⟨S, S', eL⟩
    rw [List.length_map, cI_len, List.take_length, up_free okj] at eL
    walk_at "xs"
    exact q H' L S hL0 eL
theorem kn_takers {k : Nat} (D : Df K mg "takers" s_takers) (B : Bl mg) (cc : Cc K mg C) (c_loads : Kn P w K mg base "loads" k (spLoadsP C)) (c__free : Kn P w K mg base "_free" k (spFree C)) (m_ceiling : Km P w K mg base C "ceiling" k (spSide C true)) : Kn P w K mg base "takers" (k + 1) (spNumsP C dnL) := by
  refine kn_of D (fun _ _ _ _ _ _ us hl => match us, hl with | [_, _], _ => rfl) sc_takers (fun vs H Q E h => by obtain ⟨x, p, M, ds, rs, ls, rfl, _⟩ := h; rfl) (fun f cd B' fr z H vs Q E hr gd h => ?_)
  obtain ⟨x, p, M, ds, rs, ls, rfl, cl, hp, wd, q⟩ := h
  have c_Cluster := cc.ck
  refine ⟨_, (pss_cons (ps_set (i := 2) sc_takers.nd rfl (.inr rfl) (pe_own c_loads hr gd (by rfl) (pa_cons (pv 0) (pa_cons (pv 1) pa_nil))))
  (pss_one (ps_ret (pe_lc (own := [("broker", 3)]) rfl sc_takers.nd (pi_list (pe_own c__free hr gd (by rfl) (pa_cons (pv 0) pa_nil))) (blkOk_by (N := ["cluster", "leads", "have", "broker"]) (sc := defScope s_takers) (by decide +kernel)) (fun _ _ _ _ _ => (pg_name (i := 3) sc_takers.nd rfl (.inl rfl))) (fun _ _ _ _ _ => (pts_one (pt_cmpR op_lt (pe_ix (r := rIxL K) ix_list (pv 2) (pv 3) (fun _ _ => rfl)) (pe_ownM (pv 0) c_Cluster.cls m_ceiling hr gd (pa_cons (pv 3) pa_nil)) (nomark _)))) (fun _ _ _ _ _ => (pv 3)))))), ?_⟩
  have n10 := bounds_len wd.b1
  obtain ⟨dx, B0, U0, N0, kvs, hx, _⟩ := id cl
  walk_at "xs"
  refine ⟨x, p, M, ds, rs, ls, rfl, cl, hp, wd.b1, wd.b2, wd.lo.1, ?_⟩
  intro H1 F S1 nF eF
  have okj := wd.ok
  have hn := ld_len ds.length rs ls ls.length
  generalize ldOf ds.length rs ls ls.length = hs at *
  have cl := cl.ext (Ext.same S1)
  walk_at "xs"
  refine ⟨x, M, ds, _, rfl, cl, wd.b1, ?_⟩
  intro H2 G S2 nG eG
  have cl := cl.ext (Ext.same S2)
  have S12 := S1.trans S2
  have eF := S2 _ _ eF
  walk_at "xs"
  intro L hL
  have hL0 : H L = none := S12.free hL
  refine lc_list (K := K) (a := G) (xs := (cI (lsL ds)).map V.int) (fun i H' => Same H H' ∧ Same H2 H' ∧ H' L = some (.lst ((cI (((lsL ds).take i).filter (dnB ds hs))).map V.int))) ?_ ?_ ?_ ?_
  · exact ⟨S12.trans (same_upd hL), same_upd hL, upd_same⟩
  · rintro i H' _ ⟨S, S', eL⟩
    exact SqL.of (S' _ _ eG)
  · rintro i v H' hv ⟨S, S', eL⟩
    obtain ⟨j, hj, rfl⟩ := int_of_cI hv
    have hi := (List.getElem?_eq_some_iff.mp hj).1
    have hlt : j < ds.length := by
      have hm := List.mem_of_getElem? hj
      unfold lsL at hm
      rw [List.mem_filter, List.mem_range] at hm
      exact hm.1
    have l10 : (lsL ds).length ≤ 10 := by
      have := filt_le (p := lsB ds) (List.range ds.length)
      rw [List.length_range] at this
      exact Nat.le_trans this n10
    have hx := S _ _ hx
    have cl := cl.ext (Ext.same S')
    have eF := S' _ _ eF
    obtain ⟨lo, up, hrow, _⟩ := bound_at wd.b1 hlt
    have hrow' : ds[((j : Nat) : Int).toNat]? = some (tupD [lo, up]) := by rw [Int.toNat_natCast]; exact hrow
    obtain ⟨h0, hh0, ah0⟩ := at_map (hs := hs) (i := (j : Int)) (by omega) (by omega)
    rw [Int.toNat_natCast] at hh0
    have ub : dnB ds hs j = decide (h0 < up) := by
      unfold dnB
      rw [hrow, hh0]
      rfl
    have rg : ((lsL ds).take (i + 1)).filter (dnB ds hs) = ((lsL ds).take i).filter (dnB ds hs) ++ (if dnB ds hs j = true then [j] else []) := by rw [List.take_add_one, hj]; exact filt_next _ _
    have fl := filt_le (p := dnB ds hs) ((lsL ds).take i)
    rw [List.length_take] at fl
    walk_at "xs"
    refine x_wiped rfl ?_
    walk_at "xs"
    refine x_ixL (SqL.of eF) ah0 ?_
    walk_at "xs"
    refine x_mAt hx (f3_none _ _ _ (by decide) (by decide) (by decide)) ?_
    walk_at "xs"
    refine ⟨x, M, ds, _, (j : Int), lo, up, rfl, cl, by omega, by omega, hrow', ?_⟩
    rw [if_pos rfl]
    walk_at "xs"
    refine x_ite (fun hc => ?_) (fun hc => ?_)
    · walk_at "xs"
      refine x_acc eL (by rw [List.length_map, cI_len, sizeLine_eq]; omega) ?_
      refine ⟨fun z o e => ?_, fun z o e => ?_, ?_⟩
      · rw [upd_ne (ne_of_none e hL0)]; exact S _ _ e
      · rw [upd_ne (ne_of_none e hL)]; exact S' _ _ e
      · rw [upd_same, rg, ub, if_pos (decide_eq_true hc), cI_app, List.map_append]; rfl
    · refine ⟨S, S', ?_⟩
      rw [rg, ub, if_neg (by rw [decide_eq_false hc]; exact Bool.false_ne_true), List.append_nil]
      exact eL
  · rintro H' ⟨S, S', eL⟩
    rw [List.length_map, cI_len, List.take_length, dn_free okj] at eL
    walk_at "xs"
    exact q H' L S hL0 eL
end
/-! ### arcs -/
def arcStep (ds : List PyData) (r : PyData) (l : Int) : List (Int × Int) := match r with
  | .tuple [.int a, .int b, .int c] => if (lsB ds a.toNat && lsB ds b.toNat) = true then (if l > 0 then [(a, b)] else []) ++ (if l < c then [(b, a)] else []) else []
  | _ => []
def arcsOf (ds rs : List PyData) (ls : List Int) : Nat → List (Int × Int)
  | 0 => []
  | i + 1 => arcsOf ds rs ls i ++ (match ls[i]?, rs[i]? with
    | some l, some r => arcStep ds r l
    | _, _ => [])
theorem arcs_next {ds rs : List PyData} {ls : List Int} {i : Nat} {l a b c : Int} (hl : ls[i]? = some l) (hr : rs[i]? = some (tupD [a, b, c])) : arcsOf ds rs ls (i + 1) = arcsOf ds rs ls i ++ (if (lsB ds a.toNat && lsB ds b.toNat) = true then (if l > 0 then [(a, b)] else []) ++ (if l < c then [(b, a)] else []) else []) := by
  show arcsOf ds rs ls i ++ (match ls[i]?, rs[i]? with
    | some l, some r => arcStep ds r l
    | _, _ => []) = _
  rw [hl, hr]
  rfl
theorem arcs_len (ds rs : List PyData) (ls : List Int) : ∀ i, (arcsOf ds rs ls i).length ≤ 2 * i
  | 0 => Nat.le_refl _
  | i + 1 => by
    have ih := arcs_len ds rs ls i
    show (arcsOf ds rs ls i ++ (match ls[i]?, rs[i]? with
      | some l, some r => arcStep ds r l
      | _, _ => [])).length ≤ _
    rw [List.length_append]
    split
    · rename_i l r _ _
      have : (arcStep ds r l).length ≤ 2 := by
        unfold arcStep
        split
        · split
          · rw [List.length_append]; split <;> split <;> simp
          · simp
        · simp
      omega
    · simp only [List.length_nil]; omega
/-- a list of pairs that is built -/
structure Ed (N : List Addr) (F : Addr) (H0 H1 : Hp) (acc : List V) (ps : List (Int × Int)) (H : Hp) : Prop where
  s : Same H0 H
  x : Ext [F] H1 H
  e : H F = some (.lst acc)
  d : DnAll (F :: N) H acc (ps.map prD)
theorem Ed.len {N : List Addr} {F : Addr} {H0 H1 H : Hp} {acc : List V} {ps : List (Int × Int)} (h : Ed N F H0 H1 acc ps H) : acc.length = ps.length := by
  have := h.d.length
  rw [List.length_map] at this
  exact this
theorem Ed.same {N : List Addr} {F : Addr} {H0 H1 H H' : Hp} {acc : List V} {ps : List (Int × Int)} (h : Ed N F H0 H1 acc ps H) (S : Same H H') : Ed N F H0 H1 acc ps H' := ⟨h.s.trans S, h.x.trans (Ext.same S), S _ _ h.e, h.d.ext (Ext.same S)⟩
theorem Ed.push {N : List Addr} {F : Addr} {H0 H1 H : Hp} {acc : List V} {ps : List (Int × Int)} {t : Addr} (h : Ed N F H0 H1 acc ps H) (hF : H0 F = none) (hN : ∀ m ∈ N, ∃ o, H0 m = some o) (ht : H t = none) (a b : Int) :
    Ed N F H0 H1 (acc ++ [.ref t]) (ps ++ [(a, b)]) (upd (upd H t (.tup [.int a, .int b])) F (.lst (acc ++ [.ref t]))) := by
  have S := same_upd ht (o := .tup [.int a, .int b])
  have et := upd_same (H := H) (a := t) (o := .tup [.int a, .int b])
  have nt : t ∉ F :: N := fun m => by
    rcases List.mem_cons.mp m with e | m
    · rw [e, h.e] at ht; cases ht
    · obtain ⟨o, e⟩ := hN _ m
      rw [h.s _ _ e] at ht; cases ht
  have X8 : Ext (F :: N) (upd H t (.tup [.int a, .int b])) (upd (upd H t (.tup [.int a, .int b])) F (.lst (acc ++ [.ref t]))) := Ext.upd (by simp)
  refine ⟨fun z o e => ?_, fun z o n e => ?_, upd_same, ?_⟩
  · rw [upd_ne (ne_of_none e hF)]; exact S _ _ (h.s _ _ e)
  · rw [upd_ne (by simpa using n)]; exact S _ _ (h.x _ _ n e)
  · rw [List.map_append]
    exact ((h.d.ext (Ext.same S)).ext X8).app (.cons (.tup (X8 _ _ nt et) nt (DnAll.ints [a, b])) .nil)
theorem bnd_at {M : List Addr} {H : Hp} {f1 : Addr} {xs1 : List V} {ds : List PyData} {i : Int} (e1 : H f1 = some (.lst xs1)) (A1 : DnAll M H xs1 ds) (hb : boundsD (.list ds) = true) (i0 : 0 ≤ i) (i1 : i < ds.length) :
    ∃ (r : Addr) (lo up : Int), atI xs1 i = some (.ref r) ∧ H r = some (.tup [.int lo, .int up]) ∧ ds[i.toNat]? = some (tupD [lo, up]) ∧ lo ≤ up ∧ r ∉ M := by
  have l1 := A1.length
  obtain ⟨v, ev, av⟩ := ix_at e1 i0 (by omega)
  obtain ⟨lo, up, hrow, _, le, _⟩ := bound_at hb (i := i.toNat) (by omega)
  obtain ⟨d, hd, dv⟩ := A1.get ev
  rw [hrow] at hd
  cases hd
  cases dv with
  | tup r1 r2 r3 =>
  obtain rfl := DnAll.toInts (ms := [lo, up]) r3
  exact ⟨_, lo, up, av, r1, hrow, le, r2⟩
theorem ls_at {ds : List PyData} {i : Nat} {lo up : Int} (h : ds[i]? = some (tupD [lo, up])) : lsB ds i = decide (lo < up) := by
  unfold lsB
  rw [h]
  rfl
def spEdges : Sp := fun vs H Q _ => ∃ (M : List Addr) (T : Addr) (ds rs : List PyData) (ls : List Int), vs = [.ref T] ∧ (∀ m ∈ M, ∃ o, H m = some o) ∧ WdAt M H T ds rs ls ∧ Wd ds rs ls ∧
  ∀ (H' : Hp) (f : Addr) (ys : List V) (qs : List (Int × Int)), Same H H' → H f = none → H' f = some (.lst ys) → DnAll M H' ys (qs.map prD) → SrtOf (arcsOf ds rs ls ls.length) qs → Q (.ref f) H'
def spArcs (C : Addr) : Sp := fun vs H Q _ => ∃ (x p : Addr) (M N : List Addr) (ds rs : List PyData) (ls : List Int), vs = [.ref x, .ref p] ∧ Clu C M H x (.list ds) (.list rs) ∧ H p = some (.tup (ls.map V.int)) ∧ Wd ds rs ls ∧ (∀ m ∈ N, ∃ o, H m = some o) ∧
  ∀ (H' : Hp) (f : Addr) (ys : List V) (qs : List (Int × Int)), Same H H' → H f = none → H' f = some (.lst ys) → DnAll N H' ys (qs.map prD) → SrtOf (arcsOf ds rs ls ls.length) qs → Q (.ref f) H'
section
variable {P : Program} {w : World} {K : PySem.W.Frag} {mg : Str → Option Value} {base : Heap} {t0 t1 t2 t3 t4 : Tok} {C : Addr}
theorem kn_edges {k : Nat} (D : Df K mg "_law_edges" s_Ledges) (B : Bl mg) : Kn P w K mg base "_law_edges" (k + 1) spEdges := by
  refine kn_of D (fun _ _ _ _ _ _ us hl => match us, hl with | [_], _ => rfl) sc_Ledges (fun vs H Q E h => by obtain ⟨M, T, ds, rs, ls, rfl, _⟩ := h; rfl) (fun f cd B' fr z H vs Q E hr gd h => ?_)
  obtain ⟨M, T, ds, rs, ls, rfl, hM, wa, wd, q⟩ := h
  refine ⟨_, (pss_cons (ps_asg (pv 0) (pg_tup (by rfl) (pgs_cons (pg_name (i := 1) sc_Ledges.nd rfl (.inl rfl)) (pgs_cons (pg_name (i := 2) sc_Ledges.nd rfl (.inl rfl)) (pgs_cons (pg_name (i := 3) sc_Ledges.nd rfl (.inl rfl)) pgs_nil)))))
  (pss_cons (ps_set (i := 4) sc_Ledges.nd rfl (.inl rfl) (pe_lst pa_nil))
  (pss_cons (ps_for PassesOwn.never rfl (pi_zipU (by rfl) B.zip (pa_cons (pv 2) (pa_cons (pv 3) pa_nil))) (pg_tup (by rfl) (pgs_cons (pg_tup (by rfl) (pgs_cons (pg_name (i := 5) sc_Ledges.nd rfl (.inl rfl)) (pgs_cons (pg_name (i := 6) sc_Ledges.nd rfl (.inl rfl)) (pgs_cons (pg_name (i := 7) sc_Ledges.nd rfl (.inl rfl)) pgs_nil)))) (pgs_cons (pg_name (i := 8) sc_Ledges.nd rfl (.inl rfl)) pgs_nil)))
  (pss_one (ps_if (PW.pt (pw_and (pt_cmpR op_lt (pe_ix (r := rIxT K) ix_tup (pe_ix (r := rIxL K) ix_list (pv 1) (pv 5) (fun _ _ => rfl)) pe_int (fun _ _ => rfl)) (pe_ix (r := rIxT K) ix_tup (pe_ix (r := rIxL K) ix_list (pv 1) (pv 5) (fun _ _ => rfl)) pe_int (fun _ _ => rfl)) (nomark _)) (pw_and1 (pt_cmpR op_lt (pe_ix (r := rIxT K) ix_tup (pe_ix (r := rIxL K) ix_list (pv 1) (pv 6) (fun _ _ => rfl)) pe_int (fun _ _ => rfl)) (pe_ix (r := rIxT K) ix_tup (pe_ix (r := rIxL K) ix_list (pv 1) (pv 6) (fun _ _ => rfl)) pe_int (fun _ _ => rfl)) (nomark _))))) (pss_cut (ps_if (pt_cmpR op_gt (pv 8) pe_int (nomark _)) (pss_one (ps_expr (pe_bm PySem.F.plainAttrs_list PySem.F.slot_list_append PySem.F.type_list_append mt_append (pv 4) (pa_cons (pe_tup (pa_cons (pv 5) (pa_cons (pv 6) pa_nil))) pa_nil)))) pss_nil)
  (pss_one (ps_if (pt_cmpR op_lt (pv 8) (pv 7) (nomark _)) (pss_one (ps_expr (pe_bm PySem.F.plainAttrs_list PySem.F.slot_list_append PySem.F.type_list_append mt_append (pv 4) (pa_cons (pe_tup (pa_cons (pv 6) (pa_cons (pv 5) pa_nil))) pa_nil)))) pss_nil))) pss_nil)))
  (pss_one (ps_ret (pe_callB cr_sortedPO (by rfl) B.sorted (by decide +kernel) (pa_cons (pv 4) pa_nil))))))), ?_⟩
  have n10 := bounds_len wd.b1
  obtain ⟨len, all⟩ := bundles_len wd.b2
  obtain ⟨f1, f2, f3, eT, nT, d1, d2, n3, e3⟩ := wa.ex
  cases d1 with
  | @lst _ xs1 _ e1 m1 A1 =>
  cases d2 with
  | @lst _ xs2 _ e2 m2 A2 =>
  have l1 := A1.length
  have l2 := A2.length
  have same := wd.lo.1
  walk_at "xs"
  intro F hF
  have ed : Ed M F H (upd H F (.lst [])) [] [] (upd H F (.lst [])) := ⟨same_upd hF, Ext.refl _ _, upd_same, .nil⟩
  have e1' := same_upd hF (o := .lst []) _ _ e1
  have e2' := same_upd hF (o := .lst []) _ _ e2
  have e3' := same_upd hF (o := .lst []) _ _ e3
  generalize upd H F _ = H1 at *
  walk_at "xs"
  refine for_zipU (K := K) (us := xs2) (vs := ls.map V.int) (by rw [List.length_map]; omega) (fun i σ' H' => ∃ (y5 y6 y7 y8 : Option V) (acc : List V), σ' = [some (.ref T), some (.ref f1), some (.ref f2), some (.ref f3), some (.ref F), y5, y6, y7, y8] ∧ Ed M F H H1 acc (arcsOf ds rs ls i) H') ?_ ?_ ?_ ?_
  · exact ⟨_, _, _, _, [], rfl, ed⟩
  · rintro i _ H' ⟨_, _, _, _, _, _, ed⟩
    exact ⟨SqL.of (ed.s _ _ e2), SqT.of (ed.s _ _ e3)⟩
  · rintro i r u t _ H' hv hu ⟨y5, y6, y7, y8, acc, rfl, ed⟩ ht
    obtain ⟨l, hl, rfl⟩ := int_at hu
    obtain ⟨dR, hdR, dnR⟩ := A2.get hv
    have hi := (List.getElem?_eq_some_iff.mp hl).1
    have hbd : bundleD dR ds.length = true := by
      rw [List.all_eq_true] at all
      exact all _ (List.mem_map.mpr ⟨dR, List.mem_of_getElem? hdR, rfl⟩)
    obtain ⟨a', b', c', rfl, p0, p1, p2, p3, p4⟩ := bundle_row hbd (by omega)
    obtain ⟨r', rfl, _, hr2⟩ := Dn.tup3 (a := a') (b := b') (c := c') dnR
    have hr3 := ed.s _ _ hr2
    have nx := arcs_next (ds := ds) hl hdR
    have al := arcs_len ds rs ls i
    generalize arcsOf ds rs ls i = ps at *
    have S1 := same_upd ht (o := .tup [.ref r', .int l])
    have et := upd_same (H := H') (a := t) (o := .tup [.ref r', .int l])
    have hr4 := S1 _ _ hr3
    have ed := ed.same S1
    generalize upd H' t _ = H4 at *
    obtain ⟨ra, lo, up, at1, hra, hda, _, _⟩ := bnd_at (ed.s _ _ e1) (A1.ext (Ext.same ed.s)) wd.b1 p0 (by omega)
    obtain ⟨rb, lo2, up2, at2, hrb, hdb, _, _⟩ := bnd_at (i := b') (ed.s _ _ e1) (A1.ext (Ext.same ed.s)) wd.b1 (by omega) (by omega)
    have ub1 := ls_at hda
    have ub2 := ls_at hdb
    have e14 := ed.s _ _ e1
    walk_at "xs"
    refine x_ixL (SqL.of e14) at1 ?_
    walk_at "xs"
    refine x_ixL (SqL.of e14) at1 ?_
    walk_at "xs"
    refine x_ite (fun h1 => ?_) (fun h1 => ?_)
    · walk_at "xs"
      refine x_ixL (SqL.of e14) at2 ?_
      walk_at "xs"
      refine x_ixL (SqL.of e14) at2 ?_
      walk_at "xs"
      refine x_ite (fun h2 => ?_) (fun h2 => ?_)
      · rw [if_pos (show (lsB ds a'.toNat && lsB ds b'.toNat) = true by rw [ub1, ub2, decide_eq_true h1, decide_eq_true h2]; rfl)] at nx
        refine x_cut (fun σ' H' => ∃ (acc : List V), σ' = [some (.ref T), some (.ref f1), some (.ref f2), some (.ref f3), some (.ref F), some (.int a'), some (.int b'), some (.int c'), some (.int l)] ∧ Ed M F H H1 acc (ps ++ (if l > 0 then [(a', b')] else [])) H') ?_ ?_
        · have eF := ed.e
          walk_at "xs"
          refine x_ite (fun h3 => ?_) (fun h3 => ?_)
          · walk_at "xs"
            intro q1 hq1
            have pu := ed.push hF hM hq1 a' b'
            have eF := same_upd hq1 (o := .tup [.int a', .int b']) _ _ eF
            walk_at "xs"
            refine x_app eF (by rw [sizeLine_eq, ed.len]; omega) ?_
            walk_at "xs"
            exact ⟨_, rfl, by rw [if_pos h3]; exact pu⟩
          · walk_at "xs"
            exact ⟨_, rfl, by rw [if_neg h3, List.append_nil]; exact ed⟩
        · rintro _ H5 ⟨acc, rfl, ed⟩
          have eF := ed.e
          have al2 : (ps ++ (if l > 0 then [(a', b')] else [])).length ≤ 2 * i + 1 := by
            rw [List.length_append]
            have : (if l > 0 then [(a', b')] else []).length ≤ 1 := by split <;> simp
            omega
          walk_at "xs"
          refine x_ite (fun h3 => ?_) (fun h3 => ?_)
          · walk_at "xs"
            intro q1 hq1
            have pu := ed.push hF hM hq1 b' a'
            have eF := same_upd hq1 (o := .tup [.int b', .int a']) _ _ eF
            walk_at "xs"
            refine x_app eF (by rw [sizeLine_eq, ed.len]; omega) ?_
            walk_at "xs"
            exact ⟨_, _, _, _, _, rfl, by rw [nx, if_pos h3, ← List.append_assoc]; exact pu⟩
          · walk_at "xs"
            exact ⟨_, _, _, _, _, rfl, by rw [nx, if_neg h3, List.append_nil]; exact ed⟩
      · rw [if_neg (show ¬ (lsB ds a'.toNat && lsB ds b'.toNat) = true by rw [ub2, decide_eq_false h2, Bool.and_false]; exact Bool.false_ne_true), List.append_nil] at nx
        walk_at "xs"
        exact ⟨_, _, _, _, _, rfl, by rw [nx]; exact ed⟩
    · rw [if_neg (show ¬ (lsB ds a'.toNat && lsB ds b'.toNat) = true by rw [ub1, decide_eq_false h1, Bool.false_and]; exact Bool.false_ne_true), List.append_nil] at nx
      walk_at "xs"
      exact ⟨_, _, _, _, _, rfl, by rw [nx]; exact ed⟩
  · rintro _ H' ⟨y5, y6, y7, y8, acc, rfl, ed⟩
    have eF := ed.e
    rw [l2, ← same] at ed
    walk_at "xs"
    refine x_sortP (SqL.of eF) (ed.d.sub fun z h => List.mem_cons_of_mem _ h) ?_
    intro g ys qs hg so Z eg
    exact q _ g ys qs (ed.s.trans (same_upd hg)) (ed.s.free hg) eg Z so
theorem kn_arcs {k : Nat} (D : Df K mg "arcs" s_arcs) (B : Bl mg) (cc : Cc K mg C) (m_is_rigid : Km P w K mg base C "is_rigid" k (spRigid C)) (m_bundles : Km P w K mg base C "bundles" k (spCopy C)) : Kn P w K mg base "arcs" (k + 1) (spArcs C) := by
  refine kn_of D (fun _ _ _ _ _ _ us hl => match us, hl with | [_, _], _ => rfl) sc_arcs (fun vs H Q E h => by obtain ⟨x, p, M, N, ds, rs, ls, rfl, _⟩ := h; rfl) (fun f cd B' fr z H vs Q E hr gd h => ?_)
  obtain ⟨x, p, M, N, ds, rs, ls, rfl, cl, hp, wd, hN, q⟩ := h
  have c_Cluster := cc.ck
  refine ⟨_, (pss_cons (ps_set (i := 2) sc_arcs.nd rfl (.inl rfl) (pe_lst pa_nil))
  (pss_cons (ps_for PassesOwn.never rfl (pi_zipM (by rfl) B.zip (pa_cons (pv 1) (pa_cons (pe_ownM0 (pv 0) c_Cluster.cls m_bundles hr gd) pa_nil))) (pg_tup (by rfl) (pgs_cons (pg_name (i := 3) sc_arcs.nd rfl (.inl rfl)) (pgs_cons (pg_tup (by rfl) (pgs_cons (pg_name (i := 4) sc_arcs.nd rfl (.inl rfl)) (pgs_cons (pg_name (i := 5) sc_arcs.nd rfl (.inl rfl)) (pgs_cons (pg_name (i := 6) sc_arcs.nd rfl (.inl rfl)) pgs_nil)))) pgs_nil)))
  (pss_cons (ps_if (PW.pt (pw_or (pt_val (pe_ownM (pv 0) c_Cluster.cls m_is_rigid hr gd (pa_cons (pv 4) pa_nil))) (pw_or1 (pt_val (pe_ownM (pv 0) c_Cluster.cls m_is_rigid hr gd (pa_cons (pv 5) pa_nil)))))) (pss_one ps_continue) pss_nil)
  (pss_cut (ps_if (pt_cmpR op_gt (pv 3) pe_int (nomark _)) (pss_one (ps_expr (pe_bm PySem.F.plainAttrs_list PySem.F.slot_list_append PySem.F.type_list_append mt_append (pv 2) (pa_cons (pe_tup (pa_cons (pv 4) (pa_cons (pv 5) pa_nil))) pa_nil)))) pss_nil)
  (pss_one (ps_if (pt_cmpR op_lt (pv 3) (pv 6) (nomark _)) (pss_one (ps_expr (pe_bm PySem.F.plainAttrs_list PySem.F.slot_list_append PySem.F.type_list_append mt_append (pv 2) (pa_cons (pe_tup (pa_cons (pv 5) (pa_cons (pv 4) pa_nil))) pa_nil)))) pss_nil)))))
  (pss_one (ps_ret (pe_callB cr_sortedPO (by rfl) B.sorted (by decide +kernel) (pa_cons (pv 2) pa_nil)))))), ?_⟩
  have n10 := bounds_len wd.b1
  obtain ⟨len, all⟩ := bundles_len wd.b2
  have same := wd.lo.1
  obtain ⟨dx, B0, U0, N0, kvs, hx, _⟩ := id cl
  walk_at "xs"
  intro F hF
  have S0 := same_upd hF (o := .lst [])
  have eF0 := upd_same (H := H) (a := F) (o := .lst [])
  have hp0 := S0 _ _ hp
  generalize upd H F _ = H0 at *
  walk_at "xs"
  refine x_mAt (S0 _ _ hx) (f3_none _ _ _ (by decide) (by decide) (by decide)) ?_
  walk_at "xs"
  refine ⟨x, M, _, rs, rfl, cl.ext (Ext.same S0), ?_⟩
  intro H1 lb S1 nb db
  have S01 := S0.trans S1
  have ed : Ed N F H H1 [] [] H1 := ⟨S01, Ext.refl _ _, S1 _ _ eF0, .nil⟩
  have hp1 := S01 _ _ hp
  have lF : lb ≠ F := ne_of_none2 nb eF0
  have pF : p ≠ F := ne_of_none hp hF
  cases db with
  | @lst _ xs2 _ e2 m2 A2 =>
  have l2 := A2.length
  walk_at "xs"
  refine for_zipM (K := K) (us := ls.map V.int) (vs := xs2) (by rw [List.length_map]; omega) (fun i σ' H' => ∃ (y3 y4 y5 y6 : Option V) (acc : List V), σ' = [some (.ref x), some (.ref p), some (.ref F), y3, y4, y5, y6] ∧ Ed N F H H1 acc (arcsOf ds rs ls i) H') ?_ ?_ ?_ ?_
  · exact ⟨_, _, _, _, [], rfl, ed⟩
  · rintro i _ H' ⟨_, _, _, _, _, _, ed⟩
    exact ⟨SqT.of (ed.s _ _ hp), SqL.of (ed.x _ _ (by simpa using lF) e2)⟩
  · rintro i u r t _ H' hu hv ⟨y3, y4, y5, y6, acc, rfl, ed⟩ ht
    obtain ⟨l, hl, rfl⟩ := int_at hu
    obtain ⟨dR, hdR, dnR⟩ := A2.get hv
    have hi := (List.getElem?_eq_some_iff.mp hl).1
    have hbd : bundleD dR ds.length = true := by
      rw [List.all_eq_true] at all
      exact all _ (List.mem_map.mpr ⟨dR, List.mem_of_getElem? hdR, rfl⟩)
    obtain ⟨a', b', c', rfl, p0, p1, p2, p3, p4⟩ := bundle_row hbd (by omega)
    obtain ⟨r', rfl, _, hr2⟩ := Dn.tup3 (a := a') (b := b') (c := c') dnR
    have rF : r' ≠ F := fun e => by rw [e, S1 _ _ eF0] at hr2; cases hr2
    have hr3 := ed.x _ _ (by simpa using rF) hr2
    have nx := arcs_next (ds := ds) hl hdR
    have al := arcs_len ds rs ls i
    generalize arcsOf ds rs ls i = ps at *
    have S1 := same_upd ht (o := .tup [.int l, .ref r'])
    have et := upd_same (H := H') (a := t) (o := .tup [.int l, .ref r'])
    have hr4 := S1 _ _ hr3
    have ed := ed.same S1
    generalize upd H' t _ = H4 at *
    have cl := cl.ext (Ext.same ed.s)
    have hx := ed.s _ _ hx
    obtain ⟨lo, up, hda, _, le1, _⟩ := bound_at wd.b1 (i := a'.toNat) (by omega)
    obtain ⟨lo2, up2, hdb, _, le2, _⟩ := bound_at wd.b1 (i := b'.toNat) (by omega)
    have ub1 := ls_at hda
    have ub2 := ls_at hdb
    walk_at "xs"
    refine x_mAt hx (f3_none _ _ _ (by decide) (by decide) (by decide)) ?_
    walk_at "xs"
    refine ⟨x, M, ds, _, a', lo, up, rfl, cl, p0, by omega, hda, ?_⟩
    walk_at "xs"
    refine x_ite (fun h1 => ?_) (fun h1 => ?_)
    · rw [if_neg (show ¬ (lsB ds a'.toNat && lsB ds b'.toNat) = true by rw [ub1, decide_eq_false (by omega), Bool.false_and]; exact Bool.false_ne_true), List.append_nil] at nx
      walk_at "xs"
      exact ⟨_, _, _, _, _, rfl, by rw [nx]; exact ed⟩
    · walk_at "xs"
      refine x_mAt hx (f3_none _ _ _ (by decide) (by decide) (by decide)) ?_
      walk_at "xs"
      refine ⟨x, M, ds, _, b', lo2, up2, rfl, cl, by omega, by omega, hdb, ?_⟩
      walk_at "xs"
      refine x_ite (fun h2 => ?_) (fun h2 => ?_)
      · rw [if_neg (show ¬ (lsB ds a'.toNat && lsB ds b'.toNat) = true by rw [ub2, decide_eq_false (show ¬ lo2 < up2 by omega), Bool.and_false]; exact Bool.false_ne_true), List.append_nil] at nx
        walk_at "xs"
        exact ⟨_, _, _, _, _, rfl, by rw [nx]; exact ed⟩
      · rw [if_pos (show (lsB ds a'.toNat && lsB ds b'.toNat) = true by rw [ub1, ub2, decide_eq_true (show lo < up by omega), decide_eq_true (show lo2 < up2 by omega)]; rfl)] at nx
        walk_at "xs"
        refine x_cut (fun σ' H' => ∃ (acc : List V), σ' = [some (.ref x), some (.ref p), some (.ref F), some (.int l), some (.int a'), some (.int b'), some (.int c')] ∧ Ed N F H H1 acc (ps ++ (if l > 0 then [(a', b')] else [])) H') ?_ ?_
        · have eF := ed.e
          walk_at "xs"
          refine x_ite (fun h3 => ?_) (fun h3 => ?_)
          · walk_at "xs"
            intro q1 hq1
            have pu := ed.push hF hN hq1 a' b'
            have eF := same_upd hq1 (o := .tup [.int a', .int b']) _ _ eF
            walk_at "xs"
            refine x_app eF (by rw [sizeLine_eq, ed.len]; omega) ?_
            walk_at "xs"
            exact ⟨_, rfl, by rw [if_pos h3]; exact pu⟩
          · walk_at "xs"
            exact ⟨_, rfl, by rw [if_neg h3, List.append_nil]; exact ed⟩
        · rintro _ H5 ⟨acc, rfl, ed⟩
          have eF := ed.e
          have al2 : (ps ++ (if l > 0 then [(a', b')] else [])).length ≤ 2 * i + 1 := by
            rw [List.length_append]
            have : (if l > 0 then [(a', b')] else []).length ≤ 1 := by split <;> simp
            omega
          walk_at "xs"
          refine x_ite (fun h3 => ?_) (fun h3 => ?_)
          · walk_at "xs"
            intro q1 hq1
            have pu := ed.push hF hN hq1 b' a'
            have eF := same_upd hq1 (o := .tup [.int b', .int a']) _ _ eF
            walk_at "xs"
            refine x_app eF (by rw [sizeLine_eq, ed.len]; omega) ?_
            walk_at "xs"
            exact ⟨_, _, _, _, _, rfl, by rw [nx, if_pos h3, ← List.append_assoc]; exact pu⟩
          · walk_at "xs"
            exact ⟨_, _, _, _, _, rfl, by rw [nx, if_neg h3, List.append_nil]; exact ed⟩
  · rintro _ H' ⟨y3, y4, y5, y6, acc, rfl, ed⟩
    have eF := ed.e
    rw [List.length_map] at ed
    walk_at "xs"
    refine x_sortP (SqL.of eF) (ed.d.sub fun z h => List.mem_cons_of_mem _ h) ?_
    intro g ys qs hg so Z eg
    exact q _ g ys qs (ed.s.trans (same_upd hg)) (ed.s.free hg) eg Z so
end
def LedIs (rs : List PyData) (ls : List Int) (i j v : Int) : Prop :=
  (∃ (k : Nat) (a b c l : Int), rs[k]? = some (tupD [a, b, c]) ∧ ls[k]? = some l ∧ ((i = a ∧ j = b ∧ v = l) ∨ (i = b ∧ j = a ∧ v = c - l))) ∨
  ((∀ (k : Nat) (a b c : Int), rs[k]? = some (tupD [a, b, c]) → ¬ (i = a ∧ j = b) ∧ ¬ (i = b ∧ j = a)) ∧ v = 0)
theorem LedIs.one {rs : List PyData} {ls : List Int} {i j u v n : Int} (hb : bundlesD (.list rs) n = true) (n1 : n ≤ 10) (a : LedIs rs ls i j u) (b : LedIs rs ls i j v) : u = v := by
  have h : (decide ((rs.length : Int) ≤ 45) && ((rs.map fun d => bundleD d n).all id && decide ((rs.map pairD).Nodup))) = true := hb
  simp only [Bool.and_eq_true, decide_eq_true_eq] at h
  obtain ⟨_, all, nd⟩ := h
  rw [List.all_eq_true] at all
  have rowAt : ∀ (k : Nat) (a b c : Int), rs[k]? = some (tupD [a, b, c]) → a < b := fun k a b c h => by
    have hb : bundleD (tupD [a, b, c]) n = true := all _ (List.mem_map.mpr ⟨tupD [a, b, c], List.mem_of_getElem? h, rfl⟩)
    obtain ⟨a2, b2, c2, e2, _, h, _⟩ := bundle_row hb n1
    have e2 : tupD [a, b, c] = tupD [a2, b2, c2] := e2
    cases e2
    exact h
  rcases a with ⟨k, a, b', c, l, hk, hl, m⟩ | ⟨no, rfl⟩
  · rcases b with ⟨k2, a2, b2, c2, l2, hk2, hl2, m2⟩ | ⟨no, rfl⟩
    · have r1 := rowAt k _ _ _ hk
      have r2 := rowAt k2 _ _ _ hk2
      have eab : a = a2 ∧ b' = b2 := by omega
      have lt1 := (List.getElem?_eq_some_iff.mp hk).1
      have lt2 := (List.getElem?_eq_some_iff.mp hk2).1
      have e1 : (rs.map pairD)[k]? = some [a, b'] := by rw [List.getElem?_map, hk]; rfl
      have e2 : (rs.map pairD)[k2]? = some [a, b'] := by rw [List.getElem?_map, hk2, eab.1, eab.2]; rfl
      have ek : k = k2 := by
        have := (List.getElem?_inj (by rw [List.length_map]; exact lt1) nd).mp (e1.trans e2.symm)
        exact this
      subst ek
      rw [hk] at hk2
      rw [hl] at hl2
      have hk2 : tupD [a, b', c] = tupD [a2, b2, c2] := Option.some.inj hk2
      cases hk2; cases hl2
      omega
    · have := no k a b' c hk
      omega
  · rcases b with ⟨k2, a2, b2, c2, l2, hk2, hl2, m2⟩ | ⟨_, rfl⟩
    · have := no k2 a2 b2 c2 hk2
      omega
    · rfl

/-! ### what is led, summed -/
def ctb (d : PyData) (l i j : Int) : Int := match d with
  | .tuple [.int a, .int b, .int c] => if i = a ∧ j = b then l else if i = b ∧ j = a then c - l else 0
  | _ => 0
def ledS (rs : List PyData) (ls : List Int) (i j : Int) : Nat → Int
  | 0 => 0
  | m + 1 => match ls[m]?, rs[m]? with
    | some l, some d => ledS rs ls i j m + ctb d l i j
    | _, _ => ledS rs ls i j m
theorem ledS_next {rs : List PyData} {ls : List Int} {i j : Int} {m : Nat} {l : Int} {d : PyData} (hl : ls[m]? = some l) (hr : rs[m]? = some d) : ledS rs ls i j (m + 1) = ledS rs ls i j m + ctb d l i j := by
  show (match ls[m]?, rs[m]? with
    | some l, some d => ledS rs ls i j m + ctb d l i j
    | _, _ => ledS rs ls i j m) = _
  rw [hl, hr]
theorem rows_at {rs : List PyData} {n : Int} (hb : bundlesD (.list rs) n = true) (n1 : n ≤ 10) {m : Nat} (hm : m < rs.length) : ∃ a b c : Int, rs[m]? = some (tupD [a, b, c]) ∧ 0 ≤ a ∧ a < b ∧ b < n ∧ 1 ≤ c ∧ c ≤ 10 ^ 18 := by
  obtain ⟨len, all⟩ := bundles_len hb
  rw [List.all_eq_true] at all
  obtain ⟨a, b, c, e, h⟩ := bundle_row (all _ (List.mem_map.mpr ⟨rs[m], List.getElem_mem hm, rfl⟩)) n1
  exact ⟨a, b, c, by rw [List.getElem?_eq_getElem hm, e], h⟩
theorem ledS_at {rs : List PyData} {ls : List Int} {n i j : Int} (hb : bundlesD (.list rs) n = true) (n1 : n ≤ 10) (same : ls.length = rs.length) : ∀ m, m ≤ ls.length →
    (∃ (k : Nat) (a b c l : Int), k < m ∧ rs[k]? = some (tupD [a, b, c]) ∧ ls[k]? = some l ∧ ((i = a ∧ j = b ∧ ledS rs ls i j m = l) ∨ (i = b ∧ j = a ∧ ledS rs ls i j m = c - l))) ∨
    ((∀ (k : Nat) (a b c : Int), k < m → rs[k]? = some (tupD [a, b, c]) → ¬ (i = a ∧ j = b) ∧ ¬ (i = b ∧ j = a)) ∧ ledS rs ls i j m = 0)
  | 0, _ => .inr ⟨fun k _ _ _ h => absurd h (Nat.not_lt_zero _), rfl⟩
  | m + 1, hm => by
    have ih := ledS_at (i := i) (j := j) hb n1 same m (by omega)
    have h : (decide ((rs.length : Int) ≤ 45) && ((rs.map fun d => bundleD d n).all id && decide ((rs.map pairD).Nodup))) = true := hb
    simp only [Bool.and_eq_true, decide_eq_true_eq] at h
    obtain ⟨_, _, nd⟩ := h
    obtain ⟨a, b, c, hr, a0, ab, bn, _⟩ := rows_at hb n1 (m := m) (by omega)
    have hl : ls[m]? = some ls[m] := List.getElem?_eq_getElem (by omega)
    generalize ls[m] = l at *
    rw [ledS_next hl hr]
    have ec : ctb (tupD [a, b, c]) l i j = if i = a ∧ j = b then l else if i = b ∧ j = a then c - l else 0 := rfl
    rw [ec]
    rcases ih with ⟨k, a2, b2, c2, l2, hk, hk1, hk2, hm2⟩ | ⟨no, e0⟩
    · obtain ⟨a3, b3, c3, hr3, a30, ab3, _⟩ := rows_at hb n1 (m := k) (by omega)
      rw [hk1] at hr3
      have hr3 : tupD [a2, b2, c2] = tupD [a3, b3, c3] := Option.some.inj hr3
      cases hr3
      have hne : ¬ (a = a2 ∧ b = b2) := by
        rintro ⟨rfl, rfl⟩
        have e1 : (rs.map pairD)[k]? = some [a, b] := by rw [List.getElem?_map, hk1]; rfl
        have e2 : (rs.map pairD)[m]? = some [a, b] := by rw [List.getElem?_map, hr]; rfl
        have := (List.getElem?_inj (by rw [List.length_map]; omega) nd).mp (e1.trans e2.symm)
        omega
      refine .inl ⟨k, a2, b2, c2, l2, by omega, hk1, hk2, ?_⟩
      rcases hm2 with ⟨h1, h2, h3⟩ | ⟨h1, h2, h3⟩
      · rw [if_neg (by omega), if_neg (by omega)]
        exact .inl ⟨h1, h2, by omega⟩
      · rw [if_neg (by omega), if_neg (by omega)]
        exact .inr ⟨h1, h2, by omega⟩
    · by_cases h1 : i = a ∧ j = b
      · rw [if_pos h1]
        exact .inl ⟨m, a, b, c, l, by omega, hr, hl, .inl ⟨h1.1, h1.2, by omega⟩⟩
      · rw [if_neg h1]
        by_cases h2 : i = b ∧ j = a
        · rw [if_pos h2]
          exact .inl ⟨m, a, b, c, l, by omega, hr, hl, .inr ⟨h2.1, h2.2, by omega⟩⟩
        · rw [if_neg h2]
          refine .inr ⟨fun k a2 b2 c2 hk hk1 => ?_, by omega⟩
          by_cases hkm : k < m
          · exact no k a2 b2 c2 hkm hk1
          · have : k = m := by omega
            subst this
            rw [hr] at hk1
            have hk1 : tupD [a, b, c] = tupD [a2, b2, c2] := Option.some.inj hk1
            cases hk1
            exact ⟨h1, h2⟩
theorem ledS_is {rs : List PyData} {ls : List Int} {n i j : Int} (hb : bundlesD (.list rs) n = true) (n1 : n ≤ 10) (same : ls.length = rs.length) : LedIs rs ls i j (ledS rs ls i j ls.length) := by
  rcases ledS_at (i := i) (j := j) hb n1 same ls.length (Nat.le_refl _) with ⟨k, a, b, c, l, _, h1, h2, h3⟩ | ⟨no, e⟩
  · exact .inl ⟨k, a, b, c, l, h1, h2, h3⟩
  · exact .inr ⟨fun k a b c hk => no k a b c (by have := (List.getElem?_eq_some_iff.mp hk).1; omega) hk, e⟩
/-- the other brokers -/
def oth (i : Int) : Nat → List Int
  | 0 => []
  | j + 1 => if (j : Int) = i then oth i j else oth i j ++ [(j : Int)]
theorem oth_skip {i : Int} {o : Nat} (h : (o : Int) = i) : oth i (o + 1) = oth i o := by
  show (if (o : Int) = i then oth i o else oth i o ++ [(o : Int)]) = _
  rw [if_pos h]
theorem oth_next {i : Int} {o : Nat} (h : ¬ (o : Int) = i) : oth i (o + 1) = oth i o ++ [(o : Int)] := by
  show (if (o : Int) = i then oth i o else oth i o ++ [(o : Int)]) = _
  rw [if_neg h]
theorem oth_len (i : Int) : ∀ n, (oth i n).length ≤ n
  | 0 => Nat.le_refl _
  | n + 1 => by
    have := oth_len i n
    unfold oth
    split
    · omega
    · rw [List.length_append, List.length_singleton]; omega
theorem sum_app (f : Int → Int) (xs : List Int) (y : Int) : ((xs ++ [y]).map f).sum = (xs.map f).sum + f y := by
  rw [List.map_append, List.sum_append]
  simp
theorem sum_add (f g : Int → Int) : ∀ xs : List Int, (xs.map fun j => f j + g j).sum = (xs.map f).sum + (xs.map g).sum
  | [] => rfl
  | x :: r => by
    simp only [List.map_cons, List.sum_cons, sum_add f g r]
    omega
theorem sum_zero : ∀ xs : List Int, (xs.map fun _ => (0 : Int)).sum = 0
  | [] => rfl
  | x :: r => by simp only [List.map_cons, List.sum_cons, sum_zero r]; rfl
theorem sum_if (i b v : Int) (b0 : 0 ≤ b) : ∀ n : Nat, ((oth i n).map fun j => if j = b then v else 0).sum = if b < n ∧ b ≠ i then v else 0
  | 0 => by rw [if_neg (by omega)]; rfl
  | n + 1 => by
    have ih := sum_if i b v b0 n
    unfold oth
    by_cases h : (n : Int) = i
    · rw [if_pos h, ih]
      by_cases h2 : b < n ∧ b ≠ i
      · rw [if_pos h2, if_pos (by omega)]
      · rw [if_neg h2, if_neg (by omega)]
    · rw [if_neg h, sum_app, ih]
      by_cases h2 : (n : Int) = b
      · rw [if_pos h2, if_neg (by omega), if_pos (by omega)]; omega
      · rw [if_neg h2]
        by_cases h3 : b < n ∧ b ≠ i
        · rw [if_pos h3, if_pos (by omega)]; omega
        · rw [if_neg h3, if_neg (by omega)]; rfl
theorem sum_ctb {a b c l i n : Int} (a0 : 0 ≤ a) (ab : a < b) (bn : b < n) : ((oth i n.toNat).map fun j => ctb (tupD [a, b, c]) l i j).sum = if i = a then l else if i = b then c - l else 0 := by
  have e : ∀ j, ctb (tupD [a, b, c]) l i j = if i = a ∧ j = b then l else if i = b ∧ j = a then c - l else 0 := fun j => rfl
  by_cases h1 : i = a
  · rw [if_pos h1]
    have : (fun j => ctb (tupD [a, b, c]) l i j) = fun j => if j = b then l else 0 := by
      funext j
      rw [e]
      by_cases h : j = b
      · rw [if_pos ⟨h1, h⟩, if_pos h]
      · rw [if_neg (by omega), if_neg (by omega), if_neg h]
    rw [this, sum_if i b l (by omega), if_pos (by omega)]
  · rw [if_neg h1]
    by_cases h2 : i = b
    · rw [if_pos h2]
      have : (fun j => ctb (tupD [a, b, c]) l i j) = fun j => if j = a then c - l else 0 := by
        funext j
        rw [e, if_neg (by omega)]
        by_cases h : j = a
        · rw [if_pos ⟨h2, h⟩, if_pos h]
        · rw [if_neg (by omega), if_neg h]
      rw [this, sum_if i a _ a0, if_pos (by omega)]
    · rw [if_neg h2]
      have : (fun j => ctb (tupD [a, b, c]) l i j) = fun _ => 0 := by
        funext j
        rw [e, if_neg (by omega), if_neg (by omega)]
      rw [this, sum_zero]
theorem ldStep_at {hs : List Int} {l a b c i : Int} (a0 : 0 ≤ a) (ab : a < b) (hbn : b.toNat < hs.length) (i0 : 0 ≤ i) : (ldStep hs l a b c).getD i.toNat 0 = hs.getD i.toNat 0 + (if i = a then l else if i = b then c - l else 0) := by
  have g : ∀ (xs : List Int) (j k : Nat) (v : Int), j < xs.length → (xs.set j v).getD k 0 = if j = k then v else xs.getD k 0 := by
    intro xs j k v h
    rw [List.getD_eq_getElem?_getD, List.getElem?_set]
    by_cases e : j = k
    · subst e; rw [if_pos rfl, if_pos rfl, if_pos h]; rfl
    · rw [if_neg e, if_neg e, List.getD_eq_getElem?_getD]
  unfold ldStep
  rw [g _ _ _ _ (by rw [List.length_set]; exact hbn), g _ _ _ _ (by omega), g _ _ _ _ (by omega)]
  by_cases h1 : i = a
  · subst h1
    rw [if_neg (by omega), if_pos rfl, if_pos rfl]
  · rw [if_neg h1]
    by_cases h2 : i = b
    · subst h2
      rw [if_pos rfl, if_neg (by omega), if_pos rfl]; omega
    · rw [if_neg (by omega), if_neg (by omega), if_neg h2]; omega
theorem led_sum {rs : List PyData} {ls : List Int} {n i : Int} (hb : bundlesD (.list rs) n = true) (n1 : n ≤ 10) (same : ls.length = rs.length) (i0 : 0 ≤ i) (i1 : i < n) : ∀ m, m ≤ ls.length →
    ((oth i n.toNat).map fun j => ledS rs ls i j m).sum = (ldOf n.toNat rs ls m).getD i.toNat 0
  | 0, _ => by
    have e : (fun j : Int => ledS rs ls i j 0) = fun _ => 0 := by funext j; rfl
    rw [e, sum_zero, ldOf, List.getD_eq_getElem?_getD, List.getElem?_replicate]
    split <;> rfl
  | m + 1, hm => by
    have ih := led_sum hb n1 same i0 i1 m (by omega)
    obtain ⟨a, b, c, hr, a0, ab, bn, _⟩ := rows_at hb n1 (m := m) (by omega)
    have hl : ls[m]? = some ls[m] := List.getElem?_eq_getElem (by omega)
    generalize ls[m] = l at *
    have e : (fun j => ledS rs ls i j (m + 1)) = fun j => ledS rs ls i j m + ctb (tupD [a, b, c]) l i j := by
      funext j; exact ledS_next hl hr
    rw [e, sum_add, ih, sum_ctb a0 ab bn, ld_next hl hr, ldStep_at a0 ab (by rw [ld_len]; omega) i0]
theorem ld_sum {rs : List PyData} {ls : List Int} {n : Int} (hb : bundlesD (.list rs) n = true) (n1 : n ≤ 10) (same : ls.length = rs.length) : ∀ m, m ≤ ls.length → (ldOf n.toNat rs ls m).sum = ((rs.take m).map cntD).sum
  | 0, _ => by
    rw [ldOf]
    have : ∀ k : Nat, (List.replicate k (0 : Int)).sum = 0 := by
      intro k
      induction k with
      | zero => rfl
      | succ k ih => rw [List.replicate_succ, List.sum_cons, ih]; rfl
    rw [this]; rfl
  | m + 1, hm => by
    have ih := ld_sum hb n1 same m (by omega)
    obtain ⟨a, b, c, hr, a0, ab, bn, _⟩ := rows_at hb n1 (m := m) (by omega)
    have hl : ls[m]? = some ls[m] := List.getElem?_eq_getElem (by omega)
    generalize ls[m] = l at *
    rw [ld_next hl hr, ldStep_sum (by rw [ld_len]; omega) (by rw [ld_len]; omega), ih, List.take_add_one, hr]
    simp only [Option.toList_some, List.map_append, List.sum_append, List.map_cons, List.map_nil, List.sum_cons, List.sum_nil]
    show _ + c = _ + (c + 0)
    omega

def mv1 (d : PyData) (l i j t : Int) : Int := match d with
  | .tuple [.int a, .int b, .int _] => if a = i ∧ b = j then l - t else if a = j ∧ b = i then l + t else l
  | _ => l
def mvL (rs : List PyData) (ls : List Int) (i j t : Int) : List Int := List.zipWith (fun l d => mv1 d l i j t) ls rs
theorem mvL_len {rs : List PyData} {ls : List Int} {i j t : Int} (same : ls.length = rs.length) : (mvL rs ls i j t).length = rs.length := by
  unfold mvL; rw [List.length_zipWith]; omega
theorem mvL_at {rs : List PyData} {ls : List Int} {i j t : Int} {m : Nat} {l : Int} {d : PyData} (hl : ls[m]? = some l) (hd : rs[m]? = some d) : (mvL rs ls i j t)[m]? = some (mv1 d l i j t) := by
  unfold mvL; rw [List.getElem?_zipWith, hl, hd]

def pairIn (rs : List PyData) (i j : Int) : Prop := ∃ (k : Nat) (a b c : Int), rs[k]? = some (tupD [a, b, c]) ∧ ((i = a ∧ j = b) ∨ (i = b ∧ j = a))
theorem mvL_set {rs : List PyData} {ls : List Int} {n i j t : Int} {k : Nat} {a b c l : Int} (hb : bundlesD (.list rs) n = true) (n1 : n ≤ 10) (same : ls.length = rs.length) (hk : rs[k]? = some (tupD [a, b, c])) (m : (i = a ∧ j = b) ∨ (i = b ∧ j = a)) (hl : ls[k]? = some l) :
    mvL rs ls i j t = ls.set k (if i < j then l - t else l + t) := by
  have h : (decide ((rs.length : Int) ≤ 45) && ((rs.map fun d => bundleD d n).all id && decide ((rs.map pairD).Nodup))) = true := hb
  simp only [Bool.and_eq_true, decide_eq_true_eq] at h
  obtain ⟨_, _, nd⟩ := h
  have lk := (List.getElem?_eq_some_iff.mp hk).1
  apply List.ext_getElem?
  intro q
  by_cases hq : q < ls.length
  · obtain ⟨a', b', c', hr, a0, ab, bn, _⟩ := rows_at hb n1 (m := q) (by omega)
    have hlq : ls[q]? = some ls[q] := List.getElem?_eq_getElem hq
    rw [mvL_at hlq hr, List.getElem?_set]
    have e1 : mv1 (tupD [a', b', c']) ls[q] i j t = if a' = i ∧ b' = j then ls[q] - t else if a' = j ∧ b' = i then ls[q] + t else ls[q] := rfl
    have e1 : mv1 (.tuple [.int a', .int b', .int c']) ls[q] i j t = if a' = i ∧ b' = j then ls[q] - t else if a' = j ∧ b' = i then ls[q] + t else ls[q] := e1
    show some (mv1 (tupD [a', b', c']) ls[q] i j t) = _
    by_cases e : k = q
    · subst e
      rw [hk] at hr
      have hr : tupD [a, b, c] = tupD [a', b', c'] := Option.some.inj hr
      cases hr
      rw [if_pos rfl, if_pos (by omega)]
      rw [hlq] at hl
      cases hl
      show some (if a = i ∧ b = j then _ else _) = _
      rcases m with ⟨rfl, rfl⟩ | ⟨rfl, rfl⟩
      · rw [if_pos ⟨rfl, rfl⟩, if_pos ab]
      · rw [if_neg (by omega), if_pos ⟨rfl, rfl⟩, if_neg (by omega)]
    · rw [if_neg e, hlq]
      show some (if a' = i ∧ b' = j then _ else _) = _
      have ne : ¬ (a' = a ∧ b' = b) := by
        rintro ⟨rfl, rfl⟩
        have e1 : (rs.map pairD)[k]? = some [a', b'] := by rw [List.getElem?_map, hk]; rfl
        have e2 : (rs.map pairD)[q]? = some [a', b'] := by rw [List.getElem?_map, hr]; rfl
        exact e ((List.getElem?_inj (by rw [List.length_map]; omega) nd).mp (e1.trans e2.symm))
      obtain ⟨a3, b3, c3, hr3, _, ab3, _⟩ := rows_at hb n1 lk
      rw [hk] at hr3
      have hr3 : tupD [a, b, c] = tupD [a3, b3, c3] := Option.some.inj hr3
      cases hr3
      rw [if_neg (by omega), if_neg (by omega)]
  · rw [List.getElem?_eq_none (by rw [mvL_len same]; omega), List.getElem?_eq_none (by rw [List.length_set]; omega)]

theorem pair_row {rs : List PyData} {n i j : Int} {k k' : Nat} {a b c a' b' c' : Int} (hb : bundlesD (.list rs) n = true) (n1 : n ≤ 10) (hk : rs[k]? = some (tupD [a, b, c])) (hk' : rs[k']? = some (tupD [a', b', c'])) (m : (i = a ∧ j = b) ∨ (i = b ∧ j = a)) (m' : (i = a' ∧ j = b') ∨ (i = b' ∧ j = a')) : k = k' := by
  have h : (decide ((rs.length : Int) ≤ 45) && ((rs.map fun d => bundleD d n).all id && decide ((rs.map pairD).Nodup))) = true := hb
  simp only [Bool.and_eq_true, decide_eq_true_eq] at h
  obtain ⟨_, _, nd⟩ := h
  have lk := (List.getElem?_eq_some_iff.mp hk).1
  have lk' := (List.getElem?_eq_some_iff.mp hk').1
  obtain ⟨a3, b3, c3, hr3, _, ab3, _⟩ := rows_at hb n1 lk
  rw [hk] at hr3
  have hr3 : tupD [a, b, c] = tupD [a3, b3, c3] := Option.some.inj hr3
  cases hr3
  obtain ⟨a4, b4, c4, hr4, _, ab4, _⟩ := rows_at hb n1 lk'
  rw [hk'] at hr4
  have hr4 : tupD [a', b', c'] = tupD [a4, b4, c4] := Option.some.inj hr4
  cases hr4
  have e : a = a' ∧ b = b' := by omega
  have e1 : (rs.map pairD)[k]? = some [a, b] := by rw [List.getElem?_map, hk]; rfl
  have e2 : (rs.map pairD)[k']? = some [a, b] := by rw [List.getElem?_map, hk', e.1, e.2]; rfl
  exact (List.getElem?_inj (by rw [List.length_map]; exact lk) nd).mp (e1.trans e2.symm)
theorem mvL_off {rs : List PyData} {ls : List Int} {n i j t : Int} {k k' : Nat} {a b c : Int} (hb : bundlesD (.list rs) n = true) (n1 : n ≤ 10) (same : ls.length = rs.length) (hk : rs[k]? = some (tupD [a, b, c])) (m : (i = a ∧ j = b) ∨ (i = b ∧ j = a)) (ne : k ≠ k') : (mvL rs ls i j t)[k']? = ls[k']? := by
  have lk := (List.getElem?_eq_some_iff.mp hk).1
  rw [mvL_set hb n1 same hk m (List.getElem?_eq_getElem (show k < ls.length by omega)), List.getElem?_set, if_neg ne]
theorem ledS_mv {rs : List PyData} {ls : List Int} {n i j : Int} (hb : bundlesD (.list rs) n = true) (n1 : n ≤ 10) (same : ls.length = rs.length) (pin : pairIn rs i j) (nij : i ≠ j) (x y : Int) :
    ledS rs (mvL rs ls i j 1) x y (mvL rs ls i j 1).length = ledS rs ls x y ls.length + (if x = i ∧ y = j then -1 else if x = j ∧ y = i then 1 else 0) := by
  obtain ⟨k, a, b, c, hk, m⟩ := pin
  have lk := (List.getElem?_eq_some_iff.mp hk).1
  have hl : ls[k]? = some ls[k] := List.getElem?_eq_getElem (by omega)
  have hset := mvL_set (t := 1) hb n1 same hk m hl
  have sm : (mvL rs ls i j 1).length = rs.length := mvL_len same
  have hl' : (mvL rs ls i j 1)[k]? = some (if i < j then ls[k] - 1 else ls[k] + 1) := by rw [hset, List.getElem?_set, if_pos rfl, if_pos (by omega)]
  obtain ⟨a3, b3, c3, hr3, _, ab3, _⟩ := rows_at hb n1 lk
  rw [hk] at hr3
  have hr3 : tupD [a, b, c] = tupD [a3, b3, c3] := Option.some.inj hr3
  cases hr3
  have il := ledS_is (i := x) (j := y) hb n1 same
  have il' := ledS_is (i := x) (j := y) hb n1 sm
  generalize ledS rs ls x y ls.length = v at *
  generalize ledS rs (mvL rs ls i j 1) x y (mvL rs ls i j 1).length = v' at *
  generalize ls[k] = l at *
  rcases il with ⟨k', a', b', c', l', h1, h2, h3⟩ | ⟨no, rfl⟩
  · have mm : (x = a' ∧ y = b') ∨ (x = b' ∧ y = a') := by omega
    by_cases e : k = k'
    · subst e
      rw [hk] at h1
      have h1 : tupD [a, b, c] = tupD [a', b', c'] := Option.some.inj h1
      cases h1
      rw [hl] at h2
      cases h2
      have key : LedIs rs (mvL rs ls i j 1) x y (v + (if x = i ∧ y = j then -1 else if x = j ∧ y = i then 1 else 0)) := by
        refine .inl ⟨k, a, b, c, _, hk, hl', ?_⟩
        rcases m with m | m
        · rw [if_pos (show i < j by omega)]
          rcases h3 with h3 | h3
          · rw [if_pos (show x = i ∧ y = j by omega)]; exact .inl ⟨h3.1, h3.2.1, by omega⟩
          · rw [if_neg (show ¬ (x = i ∧ y = j) by omega), if_pos (show x = j ∧ y = i by omega)]; exact .inr ⟨h3.1, h3.2.1, by omega⟩
        · rw [if_neg (show ¬ i < j by omega)]
          rcases h3 with h3 | h3
          · rw [if_neg (show ¬ (x = i ∧ y = j) by omega), if_pos (show x = j ∧ y = i by omega)]; exact .inl ⟨h3.1, h3.2.1, by omega⟩
          · rw [if_pos (show x = i ∧ y = j by omega)]; exact .inr ⟨h3.1, h3.2.1, by omega⟩
      exact LedIs.one hb n1 il' key
    · have e1 : ¬ (x = i ∧ y = j) := fun h => e (pair_row hb n1 hk h1 m (by omega))
      have e2 : ¬ (x = j ∧ y = i) := fun h => e (pair_row hb n1 hk h1 m (by omega))
      rw [if_neg e1, if_neg e2]
      have key : LedIs rs (mvL rs ls i j 1) x y v := .inl ⟨k', a', b', c', l', h1, by rw [mvL_off hb n1 same hk m e]; exact h2, h3⟩
      rw [LedIs.one hb n1 il' key]; omega
  · have e1 := no k a b c hk
    rw [if_neg (by omega), if_neg (by omega)]
    have key : LedIs rs (mvL rs ls i j 1) x y 0 := .inr ⟨no, rfl⟩
    rw [LedIs.one hb n1 il' key]; rfl
theorem ld_mv {rs : List PyData} {ls : List Int} {n i j x : Int} (hb : bundlesD (.list rs) n = true) (n1 : n ≤ 10) (same : ls.length = rs.length) (pin : pairIn rs i j) (nij : i ≠ j) (i0 : 0 ≤ i) (i1 : i < n) (j0 : 0 ≤ j) (j1 : j < n) (x0 : 0 ≤ x) (x1 : x < n) :
    (ldOf n.toNat rs (mvL rs ls i j 1) (mvL rs ls i j 1).length).getD x.toNat 0 = (ldOf n.toNat rs ls ls.length).getD x.toNat 0 + (if x = i then -1 else if x = j then 1 else 0) := by
  have sm : (mvL rs ls i j 1).length = rs.length := mvL_len same
  rw [← led_sum hb n1 sm x0 x1 _ (Nat.le_refl _), ← led_sum hb n1 same x0 x1 _ (Nat.le_refl _)]
  have e : (fun y => ledS rs (mvL rs ls i j 1) x y (mvL rs ls i j 1).length) = fun y => ledS rs ls x y ls.length + (if x = i ∧ y = j then -1 else if x = j ∧ y = i then 1 else 0) := by
    funext y; exact ledS_mv hb n1 same pin nij x y
  rw [e, sum_add]
  congr 1
  by_cases h1 : x = i
  · rw [if_pos h1]
    have : (fun y : Int => if x = i ∧ y = j then (-1 : Int) else if x = j ∧ y = i then 1 else 0) = fun y => if y = j then -1 else 0 := by
      funext y
      by_cases h : y = j
      · rw [if_pos ⟨h1, h⟩, if_pos h]
      · rw [if_neg (by omega), if_neg (by omega), if_neg h]
    rw [this, sum_if x j _ j0, if_pos (by omega)]
  · rw [if_neg h1]
    by_cases h2 : x = j
    · rw [if_pos h2]
      have : (fun y : Int => if x = i ∧ y = j then (-1 : Int) else if x = j ∧ y = i then 1 else 0) = fun y => if y = i then 1 else 0 := by
        funext y
        rw [if_neg (by omega)]
        by_cases h : y = i
        · rw [if_pos ⟨h2, h⟩, if_pos h]
        · rw [if_neg (by omega), if_neg h]
      rw [this, sum_if x i _ i0, if_pos (by omega)]
    · rw [if_neg h2]
      have : (fun y : Int => if x = i ∧ y = j then (-1 : Int) else if x = j ∧ y = i then 1 else 0) = fun _ => 0 := by
        funext y
        rw [if_neg (by omega), if_neg (by omega)]
      rw [this, sum_zero]
theorem led_nn {rs : List PyData} {ls : List Int} {i j v : Int} (ok : LeadsOk rs ls) (h : LedIs rs ls i j v) : 0 ≤ v := by
  rcases h with ⟨k, a, b, c, l, h1, h2, h3⟩ | ⟨_, rfl⟩
  · obtain ⟨l0, l1⟩ := ok.2 k l _ h2 h1
    have l1 : l ≤ c := l1
    omega
  · exact Int.le_refl 0

/-! ### a ring that is turned -/
theorem mv_ok {rs : List PyData} {ls : List Int} {n i j v : Int} (hb : bundlesD (.list rs) n = true) (n1 : n ≤ 10) (ok : LeadsOk rs ls) (h : LedIs rs ls i j v) (v0 : 0 < v) : LeadsOk rs (mvL rs ls i j 1) := by
  have same := ok.1
  refine ⟨mvL_len same, fun m l r hl hr => ?_⟩
  have ml := mvL_len (i := i) (j := j) (t := 1) same
  have lm := (List.getElem?_eq_some_iff.mp hl).1
  have hl0 : ls[m]? = some ls[m] := List.getElem?_eq_getElem (by omega)
  obtain ⟨a, b, c, hr', a0, ab, bn, c0, c1⟩ := rows_at hb n1 (m := m) (by omega)
  rw [hr'] at hr
  have hr : tupD [a, b, c] = r := Option.some.inj hr
  subst hr
  obtain ⟨l0, l1⟩ := ok.2 m _ _ hl0 hr'
  have l1 : ls[m] ≤ c := l1
  rw [mvL_at hl0 hr'] at hl
  have hl : (if a = i ∧ b = j then ls[m] - 1 else if a = j ∧ b = i then ls[m] + 1 else ls[m]) = l := Option.some.inj hl
  show 0 ≤ l ∧ l ≤ c
  by_cases h1 : a = i ∧ b = j
  · rw [if_pos h1] at hl
    have := LedIs.one hb n1 h (.inl ⟨m, a, b, c, _, hr', hl0, .inl ⟨h1.1.symm, h1.2.symm, rfl⟩⟩)
    omega
  · rw [if_neg h1] at hl
    by_cases h2 : a = j ∧ b = i
    · rw [if_pos h2] at hl
      have := LedIs.one hb n1 h (.inl ⟨m, a, b, c, _, hr', hl0, .inr ⟨h2.2.symm, h2.1.symm, rfl⟩⟩)
      omega
    · rw [if_neg h2] at hl
      omega
theorem pin_of {rs : List PyData} {ls : List Int} {i j v : Int} (h : LedIs rs ls i j v) (v0 : 0 < v) : pairIn rs i j := by
  rcases h with ⟨k, a, b, c, l, h1, h2, h3⟩ | ⟨_, e⟩
  · exact ⟨k, a, b, c, h1, by omega⟩
  · omega
theorem led_keep {rs : List PyData} {ls : List Int} {n i j x y v : Int} (hb : bundlesD (.list rs) n = true) (n1 : n ≤ 10) (same : ls.length = rs.length) (pin : pairIn rs i j) (nij : i ≠ j) (h : LedIs rs ls x y v) (e1 : ¬ (x = i ∧ y = j)) (e2 : ¬ (x = j ∧ y = i)) : LedIs rs (mvL rs ls i j 1) x y v := by
  have k := ledS_mv hb n1 same pin nij x y
  rw [if_neg e1, if_neg e2, Int.add_zero] at k
  have a := ledS_is (i := x) (j := y) hb n1 same
  have b := ledS_is (i := x) (j := y) hb n1 (mvL_len (i := i) (j := j) (t := 1) same)
  rw [k] at b
  rw [LedIs.one hb n1 h a]
  exact b
theorem ext_getD {xs ys : List Int} {n : Nat} (hx : xs.length = n) (hy : ys.length = n) (h : ∀ i : Nat, i < n → xs.getD i 0 = ys.getD i 0) : xs = ys := by
  apply List.ext_getElem (hx.trans hy.symm)
  intro i h1 h2
  have := h i (by omega)
  rw [List.getD_eq_getElem?_getD, List.getD_eq_getElem?_getD, List.getElem?_eq_getElem h1, List.getElem?_eq_getElem h2] at this
  exact this
theorem ring_wd {ds rs : List PyData} {ls : List Int} {i j k vi vj vk : Int} (wd : Wd ds rs ls) (nij : i ≠ j) (njk : j ≠ k) (nki : k ≠ i) (i0 : 0 ≤ i) (i1 : i < ds.length) (j0 : 0 ≤ j) (j1 : j < ds.length) (k0 : 0 ≤ k) (k1 : k < ds.length)
    (h1 : LedIs rs ls i j vi) (v1 : 0 < vi) (h2 : LedIs rs ls j k vj) (v2 : 0 < vj) (h3 : LedIs rs ls k i vk) (v3 : 0 < vk) : Wd ds rs (mvL rs (mvL rs (mvL rs ls i j 1) j k 1) k i 1) := by
  have n10 : (ds.length : Int) ≤ 10 := by have := bounds_len wd.b1; omega
  have hb := wd.b2
  have s0 := wd.lo.1
  have p1 := pin_of h1 v1
  have p2 := pin_of h2 v2
  have p3 := pin_of h3 v3
  have o1 := mv_ok hb n10 wd.lo h1 v1
  have h2' := led_keep hb n10 s0 p1 nij h2 (by omega) (by omega)
  have h3' := led_keep hb n10 s0 p1 nij h3 (by omega) (by omega)
  have o2 := mv_ok hb n10 o1 h2' v2
  have h3'' := led_keep hb n10 o1.1 p2 njk h3' (by omega) (by omega)
  have o3 := mv_ok hb n10 o2 h3'' v3
  have e : ldOf ds.length rs (mvL rs (mvL rs (mvL rs ls i j 1) j k 1) k i 1) (mvL rs (mvL rs (mvL rs ls i j 1) j k 1) k i 1).length = ldOf ds.length rs ls ls.length := by
    refine ext_getD (ld_len _ _ _ _) (ld_len _ _ _ _) fun x hx => ?_
    have x1 := ld_mv (x := (x : Int)) hb n10 s0 p1 nij i0 i1 j0 j1 (by omega) (by omega)
    have x2 := ld_mv (x := (x : Int)) hb n10 o1.1 p2 njk j0 j1 k0 k1 (by omega) (by omega)
    have x3 := ld_mv (x := (x : Int)) hb n10 o2.1 p3 nki k0 k1 i0 i1 (by omega) (by omega)
    rw [Int.toNat_natCast, Int.toNat_natCast] at x1 x2 x3
    rw [x3, x2, x1]
    split <;> split <;> (try split) <;> (try split) <;> (try split) <;> omega
  exact ⟨wd.b1, wd.b2, o3, by rw [e]; exact wd.ok⟩
theorem shaped_ints (ms : List Int) : SeqAt.shaped (.list (ms.map PyData.int)) = true := by
  obtain ⟨a, b, _⟩ := ints_facts ms
  simp [SeqAt.shaped, PyData.canLay0, a, PyData.depth, b]
theorem shows_ints {ms : List Int} (h : ∀ m ∈ ms, m.natAbs < 2 ^ 200) (n : ms.length ≤ 100) : Shows (.list (ms.map PyData.int)) := by
  have := sz_list (p := 201) (q := 0) (ds := ms.map PyData.int) (fun d hd => by obtain ⟨m, hm, rfl⟩ := List.mem_map.mp hd; exact sz_int (h m hm))
  rw [List.length_map] at this
  exact this.shows (by omega) (by decide)

/-! ### a pair's bundle, what is led of it -/
theorem eqv_ints : ∀ {ms ns : List Int}, PyData.eqv (tupD ms) (tupD ns) = decide (ms = ns)
  | [], [] => rfl
  | [], _ :: _ => rfl
  | _ :: _, [] => rfl
  | a :: r, b :: t => by
    have := @eqv_ints r t
    simp [tupD, PyData.eqv, PyData.eqvAll] at this ⊢
    by_cases h : a = b
    · subst h; simp [this]
    · simp [h]
theorem x_sl2 {K : PySem.W.Frag} {H : Hp} {Q : VK} {a : Addr} {x y z : V} (ha : H a = some (.tup [x, y, z])) (h : ∀ p H', Same H H' → H' p = some (.tup [x, y]) → Q (.ref p) H') : rSlA K (.ref a) none (some 2) H Q := by
  have e : cutV [x, y, z] none (some 2) = [x, y] := rfl
  refine ⟨a, [x, y, z], rfl, SqT.of ha, fun w => ?_, fun _ p hp => ?_⟩
  · have := cutV_whole w
    rw [e] at this
    cases this
  · rw [e]
    exact h p _ (same_upd hp) upd_same
theorem op_eqDK {X : Cx} (K : PySem.W.Frag) (hu : X.A.units + 64 < cLine) (hK : X.K = K := by rfl) : OpR X (compareOp .Eq) (rEqD K) := by subst hK; exact op_eqD hu
def mnI (i j : Int) : Int := if j < i then j else i
def mxI (i j : Int) : Int := if j > i then j else i
def pmB (rs : List PyData) (i j : Int) (k : Nat) : Bool := match rs[k]? with
  | some (.tuple [.int a, .int b, .int _]) => decide ([a, b] = [mnI i j, mxI i j])
  | _ => false
theorem pm_at {rs : List PyData} {i j : Int} {k : Nat} {a b c : Int} (h : rs[k]? = some (tupD [a, b, c])) : pmB rs i j k = decide ([a, b] = [mnI i j, mxI i j]) := by
  unfold pmB
  rw [h]
  rfl
theorem pm_iff {i j a b : Int} (ab : a < b) : [a, b] = [mnI i j, mxI i j] ↔ (i = a ∧ j = b) ∨ (i = b ∧ j = a) := by
  unfold mnI mxI
  simp only [List.cons.injEq, and_true]
  split <;> split <;> omega
def NumIs (rs : List PyData) (i j : Int) (v : V) : Prop := (∃ (k : Nat) (a b c : Int), rs[k]? = some (tupD [a, b, c]) ∧ v = .int (k : Nat) ∧ ((i = a ∧ j = b) ∨ (i = b ∧ j = a))) ∨
  (v = .non ∧ ∀ (k : Nat) (a b c : Int), rs[k]? = some (tupD [a, b, c]) → ¬ (i = a ∧ j = b) ∧ ¬ (i = b ∧ j = a))
def spNumOf : Sp := fun vs H Q _ => ∃ (M : List Addr) (u : V) (rs : List PyData) (n i j : Int), vs = [u, .int i, .int j] ∧ Dn M H u (.list rs) ∧ bundlesD (.list rs) n = true ∧ n ≤ 10 ∧ ∀ H' v, Same H H' → NumIs rs i j v → Q v H'
def spLedW : Sp := fun vs H Q _ => ∃ (M : List Addr) (T : Addr) (ds rs : List PyData) (ls : List Int) (i j : Int), vs = [.ref T, .int i, .int j] ∧ WdAt M H T ds rs ls ∧ bundlesD (.list rs) ds.length = true ∧ ds.length ≤ 10 ∧ ls.length = rs.length ∧ ∀ H' v, Same H H' → LedIs rs ls i j v → Q (.int v) H'
section
variable {P : Program} {w : World} {K : PySem.W.Frag} {mg : Str → Option Value} {base : Heap} {t0 t1 t2 t3 t4 : Tok} {C : Addr}
theorem kn_numOf {k : Nat} (D : Df K mg "_law_number_of" s_Lnumber_of) (B : Bl mg) : Kn P w K mg base "_law_number_of" (k + 1) spNumOf := by
  refine kn_of D (fun _ _ _ _ _ _ us hl => match us, hl with | [_, _, _], _ => rfl) sc_Lnumber_of (fun vs H Q E h => by obtain ⟨M, u, rs, n, i, j, rfl, _⟩ := h; rfl) (fun f cd B' fr z H vs Q E hr gd h => ?_)
  obtain ⟨M, u, rs, n, i, j, rfl, hu, hb, n1, q⟩ := h
  refine ⟨_, (pss_cons (ps_setLc (i := 3) (own := [("_law_k", 4)]) rfl sc_Lnumber_of.nd rfl rfl (sw_true rfl rfl rfl (by decide +kernel)) (pi_range1 (by rfl) B.range (pa_cons (pe_callB call_len_seq (by rfl) B.len (by decide +kernel) (pa_cons (pv 0) pa_nil)) pa_nil)) (blkOk_by (N := ["_law_bundles_here", "_law_one", "_law_other", "_law_found", "_law_k"]) (sc := defScope s_Lnumber_of) (by decide +kernel)) (fun _ _ _ _ _ => (pg_name (i := 4) sc_Lnumber_of.nd rfl (.inl rfl))) (fun _ _ _ _ _ => (pts_one (pt_cmpR (op_eqDK K (by exact hr.units)) (pe_slice (r := rSlA K) sl_tupA (pe_ix (r := rIxL K) ix_list (pv 0) (pv 4) (fun _ _ => rfl)) po_none (po_some pe_int)) (pe_tup (pa_cons (pe_callB (call_min2 rfl) (by rfl) B.min (by decide +kernel) (pa_cons (pv 1) (pa_cons (pv 2) pa_nil))) (pa_cons (pe_callB (call_max2 rfl) (by rfl) B.max (by decide +kernel) (pa_cons (pv 1) (pa_cons (pv 2) pa_nil))) pa_nil))) (nomark _)))) (fun _ _ _ _ _ => (pv 4)))
  (pss_one (ps_ret (pe_ifExp (pt_cmpR (op_neD hr.units) (pv 3) (pe_lst pa_nil) (nomark _)) (pe_ix (r := rIxL K) ix_list (pv 3) pe_int (fun _ _ => rfl)) pe_non)))), ?_⟩
  obtain ⟨len, all⟩ := bundles_len hb
  cases hu with
  | @lst a xs _ ea ma A =>
  have lx := A.length
  walk_at "xs"
  intro L hL
  rw [Int.toNat_natCast, lx]
  refine lc_range (lo := 0) (n := rs.length) (fun m H' => Same H H' ∧ H' L = some (.lst ((cI ((List.range m).filter (pmB rs i j))).map V.int))) ?_ ?_ ?_
  · exact ⟨same_upd hL, upd_same⟩
  · rintro m H' hm ⟨S, eL⟩
    have ea' := S _ _ ea
    obtain ⟨v, ev, av⟩ := ix_at ea' (i := 0 + (m : Int)) (by omega) (by omega)
    rw [show (0 + (m : Int)).toNat = m by omega] at ev
    obtain ⟨d, hd, dv⟩ := (A.ext (Ext.same S)).get ev
    obtain ⟨a', b', c', hr', a0, ab, bn, _⟩ := rows_at hb n1 (m := m) hm
    rw [hr'] at hd
    cases hd
    obtain ⟨r', rfl, _, hr2⟩ := Dn.tup3 (a := a') (b := b') (c := c') dv
    have ub := pm_at (i := i) (j := j) hr'
    have rg : (List.range (m + 1)).filter (pmB rs i j) = (List.range m).filter (pmB rs i j) ++ (if pmB rs i j m = true then [m] else []) := by rw [List.range_succ, filt_next]
    have fl := filt_le (p := pmB rs i j) (List.range m)
    rw [List.length_range] at fl
    walk_at "xs"
    refine x_wiped rfl ?_
    walk_at "xs"
    refine x_ixL (SqL.of ea') av ?_
    walk_at "xs"
    refine x_sl2 hr2 ?_
    intro p2 H3 S3 e3
    have eL := S3 _ _ eL
    have S := S.trans S3
    walk_at "xs"
    intro p4 hp4
    have S4 := same_upd hp4 (o := .tup [.int (if j < i then j else i), .int (if j > i then j else i)])
    have e4 := upd_same (H := H3) (a := p4) (o := .tup [.int (if j < i then j else i), .int (if j > i then j else i)])
    have e3 := S4 _ _ e3
    have eL := S4 _ _ eL
    have S := S.trans S4
    generalize upd H3 p4 _ = H4 at *
    refine x_eqDn (M := []) (N := []) (d := tupD [a', b']) (e := tupD [mnI i j, mxI i j]) (.tup e3 (by simp) (DnAll.ints [a', b'])) (.tup e4 (by simp) (DnAll.ints [mnI i j, mxI i j])) rfl rfl ?_
    rw [eqv_ints, ← ub]
    walk_at "xs"
    refine x_iteB (fun hc => ?_) (fun hc => ?_)
    · walk_at "xs"
      refine x_acc eL (by rw [List.length_map, cI_len, sizeLine_eq]; omega) ?_
      refine ⟨fun z o e => ?_, ?_⟩
      · rw [upd_ne (ne_of_none e hL)]; exact S _ _ e
      · rw [upd_same, rg, if_pos hc, cI_app, List.map_append, Int.zero_add]; rfl
    · refine ⟨S, ?_⟩
      rw [rg, if_neg (by rw [hc]; exact Bool.false_ne_true), List.append_nil]
      exact eL
  · rintro H' ⟨S, eL⟩
    walk_at "xs"
    intro em hem
    have eL' := same_upd hem (o := .lst []) _ _ eL
    have S' := S.trans (same_upd hem (o := .lst []))
    have sp : ((List.range rs.length).filter (pmB rs i j) = [] ∧ NumIs rs i j .non) ∨ ∃ (k0 : Nat) (t : List Nat), (List.range rs.length).filter (pmB rs i j) = k0 :: t ∧ NumIs rs i j (.int (k0 : Nat)) := by
      cases e : (List.range rs.length).filter (pmB rs i j) with
      | nil =>
        refine .inl ⟨rfl, .inr ⟨rfl, fun k a b c hk => ?_⟩⟩
        have lk := (List.getElem?_eq_some_iff.mp hk).1
        obtain ⟨a3, b3, c3, hr3, _, ab, _⟩ := rows_at hb n1 lk
        rw [hk] at hr3
        have hr3 : tupD [a, b, c] = tupD [a3, b3, c3] := Option.some.inj hr3
        cases hr3
        have nf : ¬ pmB rs i j k = true := fun h => by
          have : k ∈ (List.range rs.length).filter (pmB rs i j) := List.mem_filter.mpr ⟨List.mem_range.mpr lk, h⟩
          rw [e] at this; cases this
        rw [pm_at hk, decide_eq_true_eq, pm_iff ab] at nf
        omega
      | cons k0 t =>
        have mm : k0 ∈ (List.range rs.length).filter (pmB rs i j) := by rw [e]; exact List.mem_cons_self ..
        obtain ⟨h1, h2⟩ := List.mem_filter.mp mm
        have lk := List.mem_range.mp h1
        obtain ⟨a3, b3, c3, hr3, _, ab, _⟩ := rows_at hb n1 lk
        rw [pm_at hr3, decide_eq_true_eq, pm_iff ab] at h2
        exact .inr ⟨k0, t, rfl, .inl ⟨k0, a3, b3, c3, hr3, rfl, h2⟩⟩
    refine x_neDn (M := []) (N := []) (d := .list ((cI ((List.range rs.length).filter (pmB rs i j))).map PyData.int)) (e := .list []) (.lst eL' (by simp) (DnAll.ints _)) (.lst upd_same (by simp) .nil) (shaped_ints _) rfl ?_
    generalize upd H' em _ = H5 at *
    rw [eqv_nil]
    rcases sp with ⟨e, ni⟩ | ⟨k0, t, e, ni⟩
    · rw [e] at eL' ⊢
      walk_at "xs"
      refine x_iteB (fun h => by cases h) (fun _ => ?_)
      walk_at "xs"
      exact q _ _ S' ni
    · rw [e] at eL' ⊢
      walk_at "xs"
      refine x_iteB (fun _ => ?_) (fun h => by cases h)
      walk_at "xs"
      refine x_ixL (SqL.of eL') (v := .int (k0 : Nat)) (show atI _ ((0 : Nat) : Int) = _ from atI_nat rfl) ?_
      exact q _ _ S' ni
theorem kn_ledW {k : Nat} (D : Df K mg "_law_led" s_Lled) (B : Bl mg) (c_Lnumber_of : Kn P w K mg base "_law_number_of" k spNumOf) : Kn P w K mg base "_law_led" (k + 1) spLedW := by
  refine kn_of D (fun _ _ _ _ _ _ us hl => match us, hl with | [_, _, _], _ => rfl) sc_Lled (fun vs H Q E h => by obtain ⟨M, T, ds, rs, ls, i, j, rfl, _⟩ := h; rfl) (fun f cd B' fr z H vs Q E hr gd h => ?_)
  obtain ⟨M, T, ds, rs, ls, i, j, rfl, wa, hb, n10, same, q⟩ := h
  refine ⟨_, (pss_cons (ps_set (i := 3) sc_Lled.nd rfl (.inl rfl) (pe_own c_Lnumber_of hr gd (by rfl) (pa_cons (pe_ix (r := rIxT K) ix_tup (pv 0) pe_int (fun _ _ => rfl)) (pa_cons (pv 1) (pa_cons (pv 2) pa_nil)))))
  (pss_cons (ps_if (pt_cmpR op_isN (pv 3) pe_non (nomark _)) (pss_one (ps_ret pe_int)) pss_nil)
  (pss_one (ps_ret (pe_ifExp (pt_cmpR op_lt (pv 1) (pv 2) (nomark _)) (pe_ix (r := rIxT K) ix_tup (pe_ix (r := rIxT K) ix_tup (pv 0) pe_int (fun _ _ => rfl)) (pv 3) (fun _ _ => rfl)) (pe_op op_sub (pe_ix (r := rIxT K) ix_tup (pe_ix (r := rIxL K) ix_list (pe_ix (r := rIxT K) ix_tup (pv 0) pe_int (fun _ _ => rfl)) (pv 3) (fun _ _ => rfl)) pe_int (fun _ _ => rfl)) (pe_ix (r := rIxT K) ix_tup (pe_ix (r := rIxT K) ix_tup (pv 0) pe_int (fun _ _ => rfl)) (pv 3) (fun _ _ => rfl)))))))), ?_⟩
  obtain ⟨f1, f2, f3, eT, nT, d1, d2, n3, e3⟩ := wa.ex
  walk_at "xs"
  refine ⟨M, _, rs, ds.length, i, j, rfl, d2, hb, by omega, ?_⟩
  intro H1 v S1 ni
  have eT := S1 _ _ eT
  have e3 := S1 _ _ e3
  have d2 := d2.ext (Ext.same S1)
  cases d2 with
  | @lst _ xs2 _ e2 m2 A2 =>
  have l2 := A2.length
  walk_at "xs"
  rcases ni with ⟨k0, a, b, c, hk, rfl, m⟩ | ⟨rfl, no⟩
  · refine ⟨rfl, ?_⟩
    walk_at "xs"
    refine x_ite (fun h => by cases h) (fun _ => ?_)
    have lk := (List.getElem?_eq_some_iff.mp hk).1
    have hl : ls[k0]? = some ls[k0] := List.getElem?_eq_getElem (by omega)
    obtain ⟨a3, b3, c3, hr3, _, ab, _⟩ := rows_at hb (by omega) lk
    rw [hk] at hr3
    have hr3 : tupD [a, b, c] = tupD [a3, b3, c3] := Option.some.inj hr3
    cases hr3
    obtain ⟨l0, hl0, at0⟩ := at_map (hs := ls) (i := (k0 : Int)) (by omega) (by omega)
    rw [Int.toNat_natCast] at hl0
    walk_at "xs"
    refine x_ite (fun h => ?_) (fun h => ?_)
    · walk_at "xs"
      refine x_ixT (SqT.of e3) at0 ?_
      walk_at "xs"
      exact q _ _ S1 (.inl ⟨k0, a, b, c, l0, hk, hl0, .inl ⟨by omega, by omega, rfl⟩⟩)
    · obtain ⟨v, ev, av⟩ := ix_at e2 (i := (k0 : Int)) (by omega) (by omega)
      rw [Int.toNat_natCast] at ev
      obtain ⟨d, hd, dv⟩ := A2.get ev
      rw [hk] at hd
      cases hd
      obtain ⟨r', rfl, _, hr2⟩ := Dn.tup3 (a := a) (b := b) (c := c) dv
      walk_at "xs"
      refine x_ixL (SqL.of e2) av ?_
      walk_at "xs"
      refine x_ixT (SqT.of e3) at0 ?_
      walk_at "xs"
      exact q _ _ S1 (.inl ⟨k0, a, b, c, l0, hk, hl0, .inr ⟨by omega, by omega, rfl⟩⟩)
  · refine ⟨rfl, ?_⟩
    walk_at "xs"
    refine x_ite (fun _ => ?_) (fun h => absurd rfl h)
    walk_at "xs"
    exact q _ _ S1 (.inr ⟨no, rfl⟩)
end
/-! ### one partition moved -/
theorem mix_at {xs ys : List Int} {m : Nat} (h : xs.length = ys.length) (hm : m < ys.length) : (xs.take m ++ ys.drop m)[m]? = ys[m]? := by
  rw [List.getElem?_append_right (by rw [List.length_take]; omega), List.length_take, List.getElem?_drop]
  congr 1
  omega
theorem mix_len {xs ys : List Int} {m : Nat} (h : xs.length = ys.length) (hm : m ≤ ys.length) : (xs.take m ++ ys.drop m).length = ys.length := by
  rw [List.length_append, List.length_take, List.length_drop]; omega
theorem mix_set {xs ys : List Int} {m : Nat} {v : Int} (h : xs.length = ys.length) (hv : xs[m]? = some v) : (xs.take m ++ ys.drop m).set m v = xs.take (m + 1) ++ ys.drop (m + 1) := by
  have hm := (List.getElem?_eq_some_iff.mp hv).1
  have e : ys.drop m = ys[m] :: ys.drop (m + 1) := List.drop_eq_getElem_cons (by omega)
  rw [e, List.set_append_right _ _ (by rw [List.length_take]; omega), List.length_take, Nat.min_eq_left (by omega), Nat.sub_self, List.set_cons_zero, List.take_add_one, hv, List.append_assoc]
  rfl
theorem mix_skip {xs ys : List Int} {m : Nat} {v : Int} (h : xs.length = ys.length) (hv : xs[m]? = some v) (hw : ys[m]? = some v) : xs.take m ++ ys.drop m = xs.take (m + 1) ++ ys.drop (m + 1) := by
  have hm := (List.getElem?_eq_some_iff.mp hw)
  have e : ys.drop m = v :: ys.drop (m + 1) := by rw [List.drop_eq_getElem_cons hm.1, hm.2]
  rw [e, List.take_add_one, hv, List.append_assoc]
  rfl
def spMovedW : Sp := fun vs H Q _ => ∃ (M : List Addr) (T : Addr) (ds rs : List PyData) (ls : List Int) (i j : Int), vs = [.ref T, .int i, .int j] ∧ (∀ m ∈ M, ∃ o, H m = some o) ∧ WdAt M H T ds rs ls ∧ bundlesD (.list rs) ds.length = true ∧ ds.length ≤ 10 ∧ ls.length = rs.length ∧ i ≠ j ∧
  ∀ H' T', Same H H' → H T' = none → WdAt M H' T' ds rs (mvL rs ls i j 1) → Q (.ref T') H'
section
variable {P : Program} {w : World} {K : PySem.W.Frag} {mg : Str → Option Value} {base : Heap} {t0 t1 t2 t3 t4 : Tok} {C : Addr}
theorem kn_movedW {k : Nat} (D : Df K mg "_law_moved" s_Lmoved) (B : Bl mg) : Kn P w K mg base "_law_moved" (k + 1) spMovedW := by
  refine kn_of D (fun _ _ _ _ _ _ us hl => match us, hl with | [_, _, _], _ => rfl) sc_Lmoved (fun vs H Q E h => by obtain ⟨M, T, ds, rs, ls, i, j, rfl, _⟩ := h; rfl) (fun f cd B' fr z H vs Q E hr gd h => ?_)
  obtain ⟨M, T, ds, rs, ls, i, j, rfl, hM, wa, hb, n10, same, nij, q⟩ := h
  refine ⟨_, (pss_cons (ps_asg (pv 0) (pg_tup (by rfl) (pgs_cons (pg_name (i := 3) sc_Lmoved.nd rfl (.inl rfl)) (pgs_cons (pg_name (i := 4) sc_Lmoved.nd rfl (.inl rfl)) (pgs_cons (pg_name (i := 5) sc_Lmoved.nd rfl (.inl rfl)) pgs_nil)))))
  (pss_cons (ps_set (i := 6) sc_Lmoved.nd rfl (.inl rfl) (pe_callTy call_list_of (by rfl) B.«list» (by decide +kernel) (pa_cons (pv 5) pa_nil)))
  (pss_cons (ps_for PassesOwn.never rfl (pi_range1 (by rfl) B.range (pa_cons (pe_callB call_len_seq (by rfl) B.len (by decide +kernel) (pa_cons (pv 4) pa_nil)) pa_nil)) (pg_name (i := 7) sc_Lmoved.nd rfl (.inl rfl))
  (pss_one (ps_if (pt_cmpR (op_eqD hr.units) (pe_slice (r := rSlA K) sl_tupA (pe_ix (r := rIxL K) ix_list (pv 4) (pv 7) (fun _ _ => rfl)) po_none (po_some pe_int)) (pe_tup (pa_cons (pe_callB (call_min2 rfl) (by rfl) B.min (by decide +kernel) (pa_cons (pv 1) (pa_cons (pv 2) pa_nil))) (pa_cons (pe_callB (call_max2 rfl) (by rfl) B.max (by decide +kernel) (pa_cons (pv 1) (pa_cons (pv 2) pa_nil))) pa_nil))) (nomark _)) (pss_one (ps_augS (pv 6) (pv 7) get_list (pe_ix (r := rIxL K) ix_list (pe_lst (pa_cons pe_int (pa_cons (pe_un un_neg pe_int) pa_nil))) (pe_callTy call_int1 (by rfl) B.«int» (by decide +kernel) (pa_cons (pe_cmpR op_lt (pv 1) (pv 2) (nomark _)) pa_nil)) (fun _ _ => rfl)) ip_add set_list)) pss_nil)))
  (pss_one (ps_ret (pe_tup (pa_cons (pv 3) (pa_cons (pv 4) (pa_cons (pe_callTy call_tuple_of (by rfl) B.«tuple» (by decide +kernel) (pa_cons (pv 6) pa_nil)) pa_nil))))))))), ?_⟩
  obtain ⟨len, all⟩ := bundles_len hb
  obtain ⟨f1, f2, f3, eT, nT, d1, d2, n3, e3⟩ := wa.ex
  have d2o := d2
  cases d2 with
  | @lst _ xs2 _ e2 m2 A2 =>
  have l2 := A2.length
  have ml := mvL_len (i := i) (j := j) (t := 1) same
  walk_at "xs"
  intro F hF
  have S0 := same_upd hF (o := .lst (ls.map V.int))
  have eF := upd_same (H := H) (a := F) (o := .lst (ls.map V.int))
  have e2H := e2
  have e2 := S0 _ _ e2
  have F2 : f2 ≠ F := ne_of_none e2H hF
  generalize upd H F _ = H1 at *
  walk_at "xs"
  rw [l2, Int.toNat_natCast]
  refine for_range (lo := 0) (n := rs.length) (fun m σ' H' => ∃ (y7 : Option V), σ' = [some (.ref T), some (.int i), some (.int j), some (.ref f1), some (.ref f2), some (.ref f3), some (.ref F), y7] ∧ Same H H' ∧ H' F = some (.lst (((mvL rs ls i j 1).take m ++ ls.drop m).map V.int))) ?_ ?_ ?_
  · exact ⟨_, rfl, S0, by rw [List.take_zero, List.drop_zero, List.nil_append]; exact eF⟩
  · rintro m _ H' hm ⟨y7, rfl, S, eF⟩
    have e2' := S _ _ e2H
    obtain ⟨v, ev, av⟩ := ix_at e2' (i := 0 + (m : Int)) (by omega) (by omega)
    rw [show (0 + (m : Int)).toNat = m by omega] at ev
    obtain ⟨d, hd, dv⟩ := (A2.ext (Ext.same S)).get ev
    obtain ⟨a', b', c', hr', a0, ab, bn, _⟩ := rows_at hb (by omega) (m := m) hm
    rw [hr'] at hd
    cases hd
    obtain ⟨r', rfl, _, hr2⟩ := Dn.tup3 (a := a') (b := b') (c := c') dv
    have hl : ls[m]? = some ls[m] := List.getElem?_eq_getElem (by omega)
    have hv := mvL_at (i := i) (j := j) (t := 1) hl hr'
    have hv : (mvL rs ls i j 1)[m]? = some (if a' = i ∧ b' = j then ls[m] - 1 else if a' = j ∧ b' = i then ls[m] + 1 else ls[m]) := hv
    have ma := mix_at (xs := mvL rs ls i j 1) (ys := ls) (m := m) (by omega) (by omega)
    have mln := mix_len (xs := mvL rs ls i j 1) (ys := ls) (m := m) (by omega) (by omega)
    walk_at "xs"
    refine x_ixL (SqL.of e2') av ?_
    walk_at "xs"
    refine x_sl2 hr2 ?_
    intro p2 H3 S3 e3'
    have eF := S3 _ _ eF
    have S := S.trans S3
    walk_at "xs"
    intro p4 hp4
    have S4 := same_upd hp4 (o := .tup [.int (if j < i then j else i), .int (if j > i then j else i)])
    have e4 := upd_same (H := H3) (a := p4) (o := .tup [.int (if j < i then j else i), .int (if j > i then j else i)])
    have e3' := S4 _ _ e3'
    have eF := S4 _ _ eF
    have S := S.trans S4
    generalize upd H3 p4 _ = H4 at *
    refine x_eqDn (M := []) (N := []) (d := tupD [a', b']) (e := tupD [mnI i j, mxI i j]) (.tup e3' (by simp) (DnAll.ints [a', b'])) (.tup e4 (by simp) (DnAll.ints [mnI i j, mxI i j])) rfl rfl ?_
    rw [eqv_ints]
    walk_at "xs"
    refine x_ite (fun hc => ?_) (fun hc => ?_)
    · rw [pm_iff ab] at hc
      walk_at "xs"
      refine x_getL eF (by omega) (v := .int ls[m]) (by rw [show (0 + (m : Int)).toNat = m by omega, List.getElem?_map, ma, hl]; rfl) ?_
      walk_at "xs"
      intro p5 hp5
      have S5 := same_upd hp5 (o := .lst [.int 1, .int (-1)])
      have e5 := upd_same (H := H4) (a := p5) (o := .lst [.int 1, .int (-1)])
      have eF := S5 _ _ eF
      have S := S.trans S5
      generalize upd H4 p5 _ = H5 at *
      walk_at "xs"
      refine .inr ⟨_, rfl, ?_⟩
      refine x_ixL (v := .int (if i < j then -1 else 1)) (SqL.of e5) ?_ ?_
      · by_cases h : i < j
        · rw [decide_eq_true h, if_pos rfl, if_pos h]
          exact atI_nat (j := 1) rfl
        · rw [decide_eq_false h, if_neg Bool.false_ne_true, if_neg h]
          exact atI_nat (j := 0) rfl
      walk_at "xs"
      refine x_setL eF (ixN_of (by omega) (by rw [List.length_map, mln]; omega)) ?_
      rw [set_map, show (0 + (m : Int)).toNat = m by omega, mix_set (by omega) (show (mvL rs ls i j 1)[m]? = some (ls[m] + if i < j then -1 else 1) by
        rw [hv]
        rcases hc with hc | hc
        · rw [if_pos ⟨hc.1.symm, hc.2.symm⟩, if_pos (by omega)]; rfl
        · rw [if_neg (by omega), if_pos ⟨hc.2.symm, hc.1.symm⟩, if_neg (by omega)])]
      walk_at "xs"
      refine ⟨_, rfl, fun z o e => ?_, upd_same⟩
      rw [upd_ne (ne_of_none e hF)]; exact S _ _ e
    · rw [pm_iff ab] at hc
      walk_at "xs"
      refine ⟨_, rfl, S, ?_⟩
      rw [← mix_skip (by omega) (show (mvL rs ls i j 1)[m]? = some ls[m] by rw [hv, if_neg (by omega), if_neg (by omega)]) hl]
      exact eF
  · rintro _ H' ⟨y7, rfl, S, eF⟩
    rw [List.take_of_length_le (by omega), List.drop_of_length_le (by omega), List.append_nil] at eF
    have eF0 := eF
    walk_at "xs"
    intro T3 hT3
    have nT3 : T3 ∉ M := fun m => by obtain ⟨o, e⟩ := hM _ m; rw [S _ _ e] at hT3; cases hT3
    have S3 := same_upd hT3 (o := .tup ((mvL rs ls i j 1).map V.int))
    have e3 := upd_same (H := H') (a := T3) (o := .tup ((mvL rs ls i j 1).map V.int))
    have S := S.trans S3
    generalize upd H' T3 _ = H6 at *
    walk_at "xs"
    intro T' hT'
    have S7 := same_upd hT' (o := .tup [.ref f1, .ref f2, .ref T3])
    have nT' : T' ∉ M := fun m => by obtain ⟨o, e⟩ := hM _ m; rw [S _ _ e] at hT'; cases hT'
    have SS := S.trans S7
    exact q _ T' SS (S.free hT') ⟨f1, f2, T3, upd_same, nT', d1.ext (Ext.same SS), d2o.ext (Ext.same SS), nT3, S7 _ _ e3⟩
end
/-! ### a turned ring -/
theorem x_par3 {i j l : Nat} {ta : TA} {D : Ends} {σ : L2.St} {H : Hp} (h : ta σ H fun vs H1 => ∃ v1 v2 v3, vs = [v1, v2, v3] ∧ D.nx (((σ.set i (some v1)).set j (some v2)).set l (some v3)) H1) : tPar3 i j l ta D σ H := h
theorem lenSet3 {a b c : Int} (h : lenSet [a, b, c] = 3) : a ≠ b ∧ b ≠ c ∧ c ≠ a := by
  unfold lenSet PyProof.Rows.firstMet at h
  simp only [List.length_cons, List.length_nil, show List.range (0 + 1 + 1 + 1) = [0, 1, 2] from rfl, List.map_cons, List.map_nil, List.getD_cons_zero, List.getD_cons_succ, List.foldl_cons, List.foldl_nil] at h
  by_cases h1 : a = b
  · subst h1
    by_cases h2 : a = c
    · subst h2; simp [PyProof.Rows.step_dedup] at h
    · simp [PyProof.Rows.step_dedup, h2] at h
  · by_cases h2 : b = c
    · subst h2
      simp [PyProof.Rows.step_dedup, h1] at h
    · by_cases h3 : c = a
      · subst h3
        simp [PyProof.Rows.step_dedup, h1] at h
      · exact ⟨h1, h2, h3⟩
def lsAt (rs : List PyData) (ls : List Int) (i j k : Int) : Nat → List Int
  | 0 => ls
  | 1 => mvL rs ls i j 1
  | 2 => mvL rs (mvL rs ls i j 1) j k 1
  | _ => mvL rs (mvL rs (mvL rs ls i j 1) j k 1) k i 1
theorem lsAt_len {rs : List PyData} {ls : List Int} {i j k : Int} (h : ls.length = rs.length) : ∀ m, (lsAt rs ls i j k m).length = rs.length
  | 0 => h
  | 1 => mvL_len h
  | 2 => mvL_len (mvL_len h)
  | _ + 3 => mvL_len (mvL_len (mvL_len h))
def spRing : Sp := fun vs H Q _ => ∃ (b c T : Addr) (ds rs : List PyData) (ls : List Int), vs = [.ref b, .ref T] ∧ Bag H b c ∧ WdAt [b] H T ds rs ls ∧ Wd ds rs ls ∧
  ∀ H' v, Ext [b] H H' → Bag H' b c → (v = .non ∨ ∃ T' ls', v = .ref T' ∧ T' ∉ [b] ∧ H' T' = some (.tup (ls'.map V.int)) ∧ Wd ds rs ls') → Q v H'
section
variable {P : Program} {w : World} {K : PySem.W.Frag} {mg : Str → Option Value} {base : Heap} {t0 t1 t2 t3 t4 : Tok} {C : Addr}
theorem kn_ring {k : Nat} (D : Df K mg "_law_turned_ring" s_Lturned_ring) (B : Bl mg) (c_Ltake : Kn P w K mg base "_law_take" k spTake) (c_Lled : Kn P w K mg base "_law_led" k spLedW) (c_Lmoved : Kn P w K mg base "_law_moved" k spMovedW) : Kn P w K mg base "_law_turned_ring" (k + 1) spRing := by
  refine kn_of D (fun _ _ _ _ _ _ us hl => match us, hl with | [_, _], _ => rfl) sc_Lturned_ring (fun vs H Q E h => by obtain ⟨b, c, T, ds, rs, ls, rfl, _⟩ := h; rfl) (fun f cd B' fr z H vs Q E hr gd h => ?_)
  obtain ⟨b, c, T, ds, rs, ls, rfl, hB, wa, wd, q⟩ := h
  refine ⟨_, (pss_cons (ps_set (i := 2) sc_Lturned_ring.nd rfl (.inl rfl) (pe_callB call_len_seq (by rfl) B.len (by decide +kernel) (pa_cons (pe_ix (r := rIxT K) ix_tup (pv 1) pe_int (fun _ _ => rfl)) pa_nil)))
  (pss_cons (ps_for PassesOwn.never rfl (pi_range1 (by rfl) B.range (pa_cons pe_int pa_nil)) (pg_name (i := 3) sc_Lturned_ring.nd rfl (.inl rfl))
  (pss_cons (ps_par3 (i := 4) (j := 5) (l := 6) (by rfl) sc_Lturned_ring.nd rfl rfl rfl (by decide) (by decide) (by decide) rfl rfl rfl (pa_cons (pe_own c_Ltake hr gd (by rfl) (pa_cons (pv 0) (pa_cons (pv 2) pa_nil))) (pa_cons (pe_own c_Ltake hr gd (by rfl) (pa_cons (pv 0) (pa_cons (pv 2) pa_nil))) (pa_cons (pe_own c_Ltake hr gd (by rfl) (pa_cons (pv 0) (pa_cons (pv 2) pa_nil))) pa_nil))) (by rfl))
  (pss_cons (ps_set (i := 7) sc_Lturned_ring.nd rfl (.inl rfl) (pe_lst (pa_cons (pe_tup (pa_cons (pv 4) (pa_cons (pv 5) pa_nil))) (pa_cons (pe_tup (pa_cons (pv 5) (pa_cons (pv 6) pa_nil))) (pa_cons (pe_tup (pa_cons (pv 6) (pa_cons (pv 4) pa_nil))) pa_nil)))))
  (pss_one (ps_if (PW.pt (pw_and (pt_cmpR op_eq (pe_lenSet rfl (by rfl) B.len (by rfl) B.set (pa_cons (pe_lst (pa_cons (pv 4) (pa_cons (pv 5) (pa_cons (pv 6) pa_nil)))) pa_nil)) pe_int (nomark _)) (pw_and1 (pt_cmpR op_gt (pe_callB (cr_min rfl) (by rfl) B.min (by decide +kernel) (pa_cons (pe_lc (own := [("_law_pair", 9)]) rfl sc_Lturned_ring.nd (pi_list (pv 7)) (blkOk_by (N := ["_law_bag_here", "_law_world_here", "_law_size", "_law_k", "_law_one", "_law_other", "_law_third", "_law_pairs", "_law_here", "_law_pair"]) (sc := defScope s_Lturned_ring) (by decide +kernel)) (fun _ _ _ _ _ => (pg_name (i := 9) sc_Lturned_ring.nd rfl (.inl rfl))) (fun _ _ _ _ _ => pts_nil) (fun _ _ _ _ _ => (pe_own c_Lled hr gd (by rfl) (pa_cons (pv 1) (pa_cons (pe_ix (r := rIxT K) ix_tup (pv 9) pe_int (fun _ _ => rfl)) (pa_cons (pe_ix (r := rIxT K) ix_tup (pv 9) pe_int (fun _ _ => rfl)) pa_nil)))))) pa_nil)) pe_int (nomark _))))) (pss_cons (ps_set (i := 8) sc_Lturned_ring.nd rfl (.inl rfl) (pv 1))
  (pss_cons (ps_for PassesOwn.never rfl (pi_list (pv 7)) (pg_name (i := 9) sc_Lturned_ring.nd rfl (.inl rfl))
  (pss_one (ps_set (i := 8) sc_Lturned_ring.nd rfl (.inl rfl) (pe_own c_Lmoved hr gd (by rfl) (pa_cons (pv 8) (pa_cons (pe_ix (r := rIxT K) ix_tup (pv 9) pe_int (fun _ _ => rfl)) (pa_cons (pe_ix (r := rIxT K) ix_tup (pv 9) pe_int (fun _ _ => rfl)) pa_nil)))))))
  (pss_one (ps_ret (pe_ix (r := rIxT K) ix_tup (pv 8) pe_int (fun _ _ => rfl)))))) pss_nil)))))
  (pss_one (ps_ret pe_non)))), ?_⟩
  have n10 := bounds_len wd.b1
  have n2 : 2 ≤ ds.length := by
    have h : ((decide (2 ≤ (ds.length : Int)) && decide ((ds.length : Int) ≤ 10)) && (ds.map boundD).all id) = true := wd.b1
    rw [Bool.and_eq_true, Bool.and_eq_true, decide_eq_true_eq] at h
    omega
  have same := wd.lo.1
  have big : (100 : Nat) < 2 ^ 200 := by decide
  obtain ⟨f1, f2, f3, eT, nT, d1, _⟩ := wa.ex
  have d1o := d1
  cases d1 with
  | @lst _ xs1 _ e1 m1 A1 =>
  have l1 := A1.length
  walk_at "xs"
  rw [l1]
  refine for_range (lo := 0) (n := (6 : Int).toNat) (fun i σ' H' => ∃ y3 y4 y5 y6 y7 y8 y9, σ' = [some (.ref b), some (.ref T), some (.int ds.length), y3, y4, y5, y6, y7, y8, y9] ∧ Ext [b] H H' ∧ Bag H' b c) ?_ ?_ ?_
  · exact ⟨_, _, _, _, _, _, _, rfl, Ext.refl _ _, hB⟩
  · rintro i _ H0 hi ⟨y3, y4, y5, y6, y7, y8, y9, rfl, E0, B0⟩
    walk_at "xs"
    refine x_par3 ?_
    walk_at "xs"
    refine x_take B0 (by omega) (by omega) ?_
    intro H1 v1 E1 B1 a1 c1
    walk_at "xs"
    refine x_take B1 (by omega) (by omega) ?_
    intro H2 v2 E2 B2 a2 c2
    walk_at "xs"
    refine x_take B2 (by omega) (by omega) ?_
    intro H3 v3 E3 B3 a3 c3
    have E := E0.trans (E1.trans (E2.trans E3))
    have B4 := B3
    have S4 := Same.refl H3
    generalize H3 = H4 at *
    walk_at "xs"
    refine ⟨_, _, _, rfl, ?_⟩
    walk_at "xs"
    intro q1 hq1
    have S5 := same_upd hq1 (o := .tup [.int v1, .int v2])
    have e1q := upd_same (H := H4) (a := q1) (o := .tup [.int v1, .int v2])
    have B5 := B4.ext S5
    have E := E.trans (Ext.same S5)
    generalize upd H4 q1 _ = H5 at *
    walk_at "xs"
    intro q2 hq2
    have S6 := same_upd hq2 (o := .tup [.int v2, .int v3])
    have e2q := upd_same (H := H5) (a := q2) (o := .tup [.int v2, .int v3])
    have e1q := S6 _ _ e1q
    have B6 := B5.ext S6
    have E := E.trans (Ext.same S6)
    generalize upd H5 q2 _ = H6 at *
    walk_at "xs"
    intro q3 hq3
    have S7 := same_upd hq3 (o := .tup [.int v3, .int v1])
    have e3q := upd_same (H := H6) (a := q3) (o := .tup [.int v3, .int v1])
    have e1q := S7 _ _ e1q
    have e2q := S7 _ _ e2q
    have B7 := B6.ext S7
    have E := E.trans (Ext.same S7)
    generalize upd H6 q3 _ = H7 at *
    walk_at "xs"
    intro lp hlp
    have S8 := same_upd hlp (o := .lst [.ref q1, .ref q2, .ref q3])
    have elp := upd_same (H := H7) (a := lp) (o := .lst [.ref q1, .ref q2, .ref q3])
    have B8 := B7.ext S8
    have E := E.trans (Ext.same S8)
    obtain ⟨prs, eprs⟩ : ∃ prs, prs = [(v1, v2), (v2, v3), (v3, v1)] := ⟨_, rfl⟩
    have Ap : DnAll [] (upd H7 lp (.lst [.ref q1, .ref q2, .ref q3])) [.ref q1, .ref q2, .ref q3] (prs.map prD) := by
      rw [eprs]
      exact .cons (.tup (S8 _ _ e1q) (by simp) (DnAll.ints [v1, v2])) (.cons (.tup (S8 _ _ e2q) (by simp) (DnAll.ints [v2, v3])) (.cons (.tup (S8 _ _ e3q) (by simp) (DnAll.ints [v3, v1])) .nil))
    generalize upd H7 lp _ = H8 at *
    have wa8 := wa.ext E
    walk_at "xs"
    refine x_lenSet ?_
    walk_at "xs"
    intro ls3 hls3
    have S9 := same_upd hls3 (o := .lst [.int v1, .int v2, .int v3])
    have els3 := upd_same (H := H8) (a := ls3) (o := .lst [.int v1, .int v2, .int v3])
    refine ⟨ls3, [v1, v2, v3], rfl, SqL.of els3, by simp, ?_⟩
    have B9 := B8.ext S9
    have E := E.trans (Ext.same S9)
    have elp := S9 _ _ elp
    have wa9 := wa8.ext (Ext.same S9)
    have Ap := Ap.ext (Ext.same S9)
    generalize upd H8 ls3 _ = H9 at *
    walk_at "xs"
    refine x_ite (fun h3 => ?_) (fun h3 => ?_)
    · obtain ⟨n12, n23, n31⟩ := lenSet3 (by omega : lenSet [v1, v2, v3] = 3)
      walk_at "xs"
      intro L hL
      refine lc_list (K := K) (a := lp) (xs := [.ref q1, .ref q2, .ref q3]) (fun m H' => Same H9 H' ∧ ∃ ms : List Int, H' L = some (.lst (ms.map V.int)) ∧ ms.length = m ∧ ∀ (t : Nat) (v : Int), ms[t]? = some v → ∃ p, prs[t]? = some p ∧ LedIs rs ls p.1 p.2 v) ?_ ?_ ?_ ?_
      · exact ⟨same_upd hL, [], upd_same, rfl, fun t v h => by simp at h⟩
      · rintro m H' _ ⟨S, _⟩
        exact SqL.of (S _ _ elp)
      · rintro m x H' hx ⟨S, ms, eL, lm, led⟩
        obtain ⟨dP, hdP, dnP⟩ := (Ap.ext (Ext.same S)).get hx
        rw [List.getElem?_map] at hdP
        cases hpr : prs[m]? with
        | none => rw [hpr] at hdP; cases hdP
        | some pr =>
        rw [hpr] at hdP
        cases hdP
        obtain ⟨r2, rfl, _, hr5⟩ := dnP.pair
        walk_at "xs"
        refine x_wiped rfl ?_
        walk_at "xs"
        refine ⟨[b], T, ds, rs, ls, pr.1, pr.2, rfl, wa9.ext (Ext.same S), wd.b2, n10, same, ?_⟩
        intro H10 v S10 li
        have eL := S10 _ _ eL
        have hm := (List.getElem?_eq_some_iff.mp hx).1
        have hm : m < 3 := hm
        refine x_acc eL (by rw [List.length_map, lm, sizeLine_eq]; omega) ?_
        refine ⟨fun z o e => ?_, ms ++ [v], by rw [upd_same, List.map_append]; rfl, by rw [List.length_append, List.length_singleton]; omega, fun t v' ht => ?_⟩
        · rw [upd_ne (ne_of_none e hL)]; exact S10 _ _ (S _ _ e)
        · by_cases htm : t < ms.length
          · rw [List.getElem?_append_left htm] at ht
            exact led t v' ht
          · have et : t = ms.length := by
              have := (List.getElem?_eq_some_iff.mp ht).1
              rw [List.length_append, List.length_singleton] at this
              omega
            subst et
            rw [List.getElem?_append_right (Nat.le_refl _), Nat.sub_self] at ht
            have ht : v = v' := Option.some.inj ht
            subst ht
            exact ⟨pr, by rw [lm]; exact hpr, li⟩
      · rintro H' ⟨S, ms, eL, lm, led⟩
        have lm : ms.length = 3 := lm
        have B10 := B9.ext S
        have E := E.trans (Ext.same S)
        have wa10 := wa9.ext (Ext.same S)
        have elp := S _ _ elp
        have Ap := Ap.ext (Ext.same S)
        refine ⟨L, ms, rfl, SqL.of eL, by omega, ?_⟩
        intro mn hmn hle
        walk_at "xs"
        refine x_ite (fun h0 => ?_) (fun h0 => ?_)
        · obtain ⟨u1, hu1⟩ : ∃ u, ms[0]? = some u := ⟨_, List.getElem?_eq_getElem (by omega)⟩
          obtain ⟨u2, hu2⟩ : ∃ u, ms[1]? = some u := ⟨_, List.getElem?_eq_getElem (by omega)⟩
          obtain ⟨u3, hu3⟩ : ∃ u, ms[2]? = some u := ⟨_, List.getElem?_eq_getElem (by omega)⟩
          obtain ⟨p1, hp1, li1⟩ := led 0 u1 hu1
          obtain ⟨p2, hp2, li2⟩ := led 1 u2 hu2
          obtain ⟨p3, hp3, li3⟩ := led 2 u3 hu3
          rw [eprs] at hp1 hp2 hp3
          cases hp1; cases hp2; cases hp3
          have g1 := hle u1 (List.mem_of_getElem? hu1)
          have g2 := hle u2 (List.mem_of_getElem? hu2)
          have g3 := hle u3 (List.mem_of_getElem? hu3)
          have rw3 := ring_wd wd n12 n23 n31 a1 c1 a2 c2 a3 c3 li1 (by omega) li2 (by omega) li3 (by omega)
          walk_at "xs"
          refine for_list (K := K) (a := lp) (xs := [.ref q1, .ref q2, .ref q3]) (fun m σ' H'' => ∃ (T' : Addr) (y9 : Option V), σ' = [some (.ref b), some (.ref T), some (.int ds.length), some (.int (0 + (i : Int))), some (.int v1), some (.int v2), some (.int v3), some (.ref lp), some (.ref T'), y9] ∧ Same H' H'' ∧ WdAt [b] H'' T' ds rs (lsAt rs ls v1 v2 v3 m)) ?_ ?_ ?_ ?_
          · exact ⟨_, _, rfl, Same.refl _, wa10⟩
          · rintro m _ H'' _ ⟨_, _, _, S, _⟩
            exact SqL.of (S _ _ elp)
          · rintro m x _ H'' hx ⟨T', y9, rfl, S2, wm⟩
            obtain ⟨dP, hdP, dnP⟩ := (Ap.ext (Ext.same S2)).get hx
            rw [List.getElem?_map] at hdP
            cases hpr : prs[m]? with
            | none => rw [hpr] at hdP; cases hdP
            | some pr =>
            rw [hpr] at hdP
            cases hdP
            obtain ⟨r2, rfl, _, hr5⟩ := dnP.pair
            have hm := (List.getElem?_eq_some_iff.mp hx).1
            have hm : m < 3 := hm
            have al : ∀ z ∈ [b], ∃ o, H'' z = some o := fun z hz => by
              simp at hz; subst hz
              exact (B10.ext S2).at
            have nx : pr.1 ≠ pr.2 ∧ mvL rs (lsAt rs ls v1 v2 v3 m) pr.1 pr.2 1 = lsAt rs ls v1 v2 v3 (m + 1) := by
              rw [eprs] at hpr
              have c3 : m = 0 ∨ m = 1 ∨ m = 2 := by omega
              rcases c3 with rfl | rfl | rfl
              · cases hpr; exact ⟨n12, rfl⟩
              · cases hpr; exact ⟨n23, rfl⟩
              · cases hpr; exact ⟨n31, rfl⟩
            walk_at "xs"
            refine ⟨[b], T', ds, rs, lsAt rs ls v1 v2 v3 m, pr.1, pr.2, rfl, al, wm, wd.b2, n10, lsAt_len same m, nx.1, ?_⟩
            intro H11 T'' S11 nT'' wn
            walk_at "xs"
            exact ⟨T'', _, rfl, S2.trans S11, by rw [← nx.2]; exact wn⟩
          · rintro _ H'' ⟨T', y9, rfl, S2, wm⟩
            obtain ⟨g1, g2, g3, eT', nT', _, _, n3', e3'⟩ := wm.ex
            walk_at "xs"
            exact q _ _ (E.trans (Ext.same S2)) (B10.ext S2) (.inr ⟨g3, _, rfl, n3', e3', rw3⟩)
        · walk_at "xs"
          exact ⟨_, _, _, _, _, _, _, rfl, E, B10⟩
    · walk_at "xs"
      exact ⟨_, _, _, _, _, _, _, rfl, E, B9⟩
  · rintro _ H0 ⟨y3, y4, y5, y6, y7, y8, y9, rfl, E0, B0⟩
    walk_at "xs"
    exact q _ _ E0 B0 (.inl rfl)
end
/-! ### two leads between the same bounds -/
def spTwins : Sp := fun vs H Q _ => ∃ (b c : Addr) (m wd : Int), vs = [.ref b, .int m, .int wd] ∧ Bag H b c ∧ 2 ≤ m ∧ m ≤ 10 ∧ 1 ≤ wd ∧ wd ≤ 1000000000000000000 ∧
  ∀ (H' : Hp) (T0 T o : Addr) (ds rs : List PyData) (ls ls2 : List Int), Ext [b] H H' → Bag H' b c → H' T0 = some (.tup [.ref T, .ref o]) → T0 ∉ [b] → WdAt [b] H' T ds rs ls → o ∉ [b] → H' o = some (.tup (ls2.map V.int)) → Wd ds rs ls → Wd ds rs ls2 → (ds.length : Int) ≤ m → Q (.ref T0) H'
theorem x_twins {H : Hp} {Q : VK} {E : XK} {b c : Addr} {m wd : Int} (hb : Bag H b c) (m0 : 2 ≤ m) (m1 : m ≤ 10) (w0 : 1 ≤ wd) (w1 : wd ≤ 1000000000000000000) (h : ∀ (H' : Hp) (T0 T o : Addr) (ds rs : List PyData) (ls ls2 : List Int), Ext [b] H H' → Bag H' b c → H' T0 = some (.tup [.ref T, .ref o]) → T0 ∉ [b] → WdAt [b] H' T ds rs ls → o ∉ [b] → H' o = some (.tup (ls2.map V.int)) → Wd ds rs ls → Wd ds rs ls2 → (ds.length : Int) ≤ m → Q (.ref T0) H') : spTwins [.ref b, .int m, .int wd] H Q E := ⟨b, c, m, wd, rfl, hb, m0, m1, w0, w1, h⟩
theorem x_ring {H : Hp} {Q : VK} {E : XK} {b c T : Addr} {ds rs : List PyData} {ls : List Int} (hB : Bag H b c) (wa : WdAt [b] H T ds rs ls) (wd : Wd ds rs ls) (h : ∀ H' v, Ext [b] H H' → Bag H' b c → (v = .non ∨ ∃ T' ls', v = .ref T' ∧ T' ∉ [b] ∧ H' T' = some (.tup (ls'.map V.int)) ∧ Wd ds rs ls') → Q v H') : spRing [.ref b, .ref T] H Q E := ⟨b, c, T, ds, rs, ls, rfl, hB, wa, wd, h⟩
section
variable {P : Program} {w : World} {K : PySem.W.Frag} {mg : Str → Option Value} {base : Heap} {t0 t1 t2 t3 t4 : Tok} {C : Addr}
theorem kn_twins {k : Nat} (D : Df K mg "_law_twins" s_Ltwins) (B : Bl mg) (c_Ltake : Kn P w K mg base "_law_take" k spTake) (c_Lworld : Kn P w K mg base "_law_world" k spWorld) (c_Lturned_ring : Kn P w K mg base "_law_turned_ring" k spRing) (c_Lleads : Kn P w K mg base "_law_leads" k spLeadsW) (c_Lloads : Kn P w K mg base "_law_loads" k spLoadsU) : Kn P w K mg base "_law_twins" (k + 1) spTwins := by
  refine kn_of D (fun _ _ _ _ _ _ us hl => match us, hl with | [_, _, _], _ => rfl) sc_Ltwins (fun vs H Q E h => by obtain ⟨b, c, m, wd, rfl, _⟩ := h; rfl) (fun f cd B' fr z H vs Q E hr gd h => ?_)
  obtain ⟨b, c, m, wd, rfl, hB, m0, m1, w0, w1, q⟩ := h
  refine ⟨_, (pss_cons (ps_set (i := 3) sc_Ltwins.nd rfl (.inl rfl) (pe_own c_Lworld hr gd (by rfl) (pa_cons (pv 0) (pa_cons (pv 1) (pa_cons (pv 2) pa_nil)))))
  (pss_cons (ps_asg (pv 3) (pg_tup (by rfl) (pgs_cons (pg_name (i := 4) sc_Ltwins.nd rfl (.inl rfl)) (pgs_cons (pg_name (i := 5) sc_Ltwins.nd rfl (.inl rfl)) (pgs_cons (pg_name (i := 6) sc_Ltwins.nd rfl (.inl rfl)) pgs_nil)))))
  (pss_cons (ps_set (i := 7) sc_Ltwins.nd rfl (.inl rfl) (pe_own c_Lturned_ring hr gd (by rfl) (pa_cons (pv 0) (pa_cons (pv 3) pa_nil))))
  (pss_cut (ps_if (PW.pt (pw_and (pt_cmpR op_notN (pv 7) pe_non (nomark _)) (pw_and1 (pt_cmpR op_gt (pe_own c_Ltake hr gd (by rfl) (pa_cons (pv 0) (pa_cons pe_int pa_nil))) pe_int (nomark _))))) (pss_one (ps_ret (pe_tup (pa_cons (pv 3) (pa_cons (pv 7) pa_nil))))) pss_nil)
  (pss_cons (ps_set (i := 7) sc_Ltwins.nd rfl (.inl rfl) (pe_own c_Lleads hr gd (by rfl) (pa_cons (pv 0) (pa_cons (pv 5) pa_nil))))
  (pss_cons (ps_par (i := 8) (j := 9) (by rfl) sc_Ltwins.nd rfl rfl (by decide) rfl rfl (pa_cons (pe_own c_Lloads hr gd (by rfl) (pa_cons (pe_callB call_len_seq (by rfl) B.len (by decide +kernel) (pa_cons (pv 4) pa_nil)) (pa_cons (pv 5) (pa_cons (pv 6) pa_nil)))) (pa_cons (pe_own c_Lloads hr gd (by rfl) (pa_cons (pe_callB call_len_seq (by rfl) B.len (by decide +kernel) (pa_cons (pv 4) pa_nil)) (pa_cons (pv 5) (pa_cons (pv 7) pa_nil)))) pa_nil)) (by rfl))
  (pss_cons (ps_set (i := 10) sc_Ltwins.nd rfl (.inl rfl) (pe_lst pa_nil))
  (pss_cons (ps_for PassesOwn.never rfl (pi_zip (by rfl) B.zip (pa_cons (pv 8) (pa_cons (pv 9) pa_nil))) (pg_tup (by rfl) (pgs_cons (pg_name (i := 11) sc_Ltwins.nd rfl (.inl rfl)) (pgs_cons (pg_name (i := 12) sc_Ltwins.nd rfl (.inl rfl)) pgs_nil)))
  (pss_one (ps_expr (pe_bm PySem.F.plainAttrs_list PySem.F.slot_list_append PySem.F.type_list_append mt_append (pv 10) (pa_cons (pe_tup (pa_cons (pe_callB (call_max2 rfl) (by rfl) B.max (by decide +kernel) (pa_cons pe_int (pa_cons (pe_op op_sub (pe_callB (call_min2 rfl) (by rfl) B.min (by decide +kernel) (pa_cons (pv 11) (pa_cons (pv 12) pa_nil))) (pe_op op_fdivW (pe_own c_Ltake hr gd (by rfl) (pa_cons (pv 0) (pa_cons pe_int pa_nil))) pe_int)) pa_nil))) (pa_cons (pe_op op_add (pe_callB (call_max2 rfl) (by rfl) B.max (by decide +kernel) (pa_cons (pv 11) (pa_cons (pv 12) pa_nil))) (pe_op op_fdivW (pe_own c_Ltake hr gd (by rfl) (pa_cons (pv 0) (pa_cons pe_int pa_nil))) pe_int)) pa_nil))) pa_nil)))))
  (pss_one (ps_ret (pe_tup (pa_cons (pe_tup (pa_cons (pv 10) (pa_cons (pv 5) (pa_cons (pv 6) pa_nil)))) (pa_cons (pv 7) pa_nil))))))))))))), ?_⟩
  walk_at "xs"
  refine x_world (N := [b]) (by simp) (fun z hz => by simp at hz; subst hz; exact hB.at) hB m0 m1 w0 w1 ?_
  intro H1 T ds rs ls E1 B1 nT0 wa wd1 dm
  obtain ⟨f1, f2, f3, eT, nT, d1, d2, n3, e3⟩ := wa.ex
  have n10 := bounds_len wd1.b1
  have n2 : 2 ≤ ds.length := by
    have h : ((decide (2 ≤ (ds.length : Int)) && decide ((ds.length : Int) ≤ 10)) && (ds.map boundD).all id) = true := wd1.b1
    rw [Bool.and_eq_true, Bool.and_eq_true, decide_eq_true_eq] at h
    omega
  have d1o := d1
  cases d1 with
  | @lst _ xs1 _ e1 m1' A1 =>
  have l1 := A1.length
  walk_at "xs"
  refine x_ring B1 wa wd1 ?_
  intro H2 v E2 B2 rv
  have wa2 := wa.ext E2
  walk_at "xs"
  refine x_cut (fun σ' H' => ∃ (y7 : Option V), σ' = [some (.ref b), some (.int m), some (.int wd), some (.ref T), some (.ref f1), some (.ref f2), some (.ref f3), y7, none, none, none, none, none] ∧ Ext [b] H1 H' ∧ Bag H' b c) ?_ ?_
  · walk_at "xs"
    refine ⟨rfl, ?_⟩
    walk_at "xs"
    refine x_iteN (fun hv => ?_) (fun hv => ?_)
    · obtain ⟨T', ls', rfl, nT', eT', wd'⟩ := rv.resolve_left hv
      walk_at "xs"
      refine x_take B2 (by decide) (by decide) ?_
      intro H3 v4 E3 B3 a4 c4
      walk_at "xs"
      refine x_ite (fun h => ?_) (fun h => ?_)
      · walk_at "xs"
        intro T0 hT0
        have S := same_upd hT0 (o := .tup [.ref T, .ref T'])
        have nT0 : T0 ∉ [b] := by
          obtain ⟨ob, hob⟩ := B3.at
          exact new_out (Same.refl H3) hob hT0
        exact q _ T0 T T' ds rs ls ls' (E1.trans (E2.trans (E3.trans (Ext.same S)))) (B3.ext S) upd_same nT0 ((wa2.ext E3).ext (Ext.same S)) nT' (S _ _ (E3 _ _ nT' eT')) wd1 wd' dm
      · walk_at "xs"
        exact ⟨_, rfl, E2.trans E3, B3⟩
    · walk_at "xs"
      exact ⟨_, rfl, E2, B2⟩
  · rintro _ H3 ⟨y7, rfl, E3, B3⟩
    have wa3 := wa.ext E3
    have d2 := d2.ext E3
    walk_at "xs"
    refine x_leadsW B3 d2 wd1.b2 (by omega) ?_
    intro H4 o ls2 E4 B4 no eo mo lo2
    have d2 := d2.ext E4
    have E14 := E3.trans E4
    have e1 := E14 _ _ m1' e1
    have e3 := E14 _ _ n3 e3
    walk_at "xs"
    refine x_loadsU (n := (xs1.length : Int)) d2 e3 (by rw [l1]; exact wd1.b2) (by omega) (by omega) wd1.lo.1 ?_
    intro H5 h1 S5 nh1 eh1
    rw [Int.toNat_natCast, l1] at eh1
    have e1 := S5 _ _ e1
    have d2 := d2.ext (Ext.same S5)
    have eo := S5 _ _ eo
    walk_at "xs"
    refine x_loadsU (n := (xs1.length : Int)) d2 eo (by rw [l1]; exact wd1.b2) (by omega) (by omega) lo2.1 ?_
    intro H6 h2 S6 nh2 eh2
    rw [Int.toNat_natCast, l1] at eh2
    have eh1 := S6 _ _ eh1
    have eo := S6 _ _ eo
    have B6 := (B4.ext S5).ext S6
    have E16 := E14.trans (Ext.same (S5.trans S6))
    have nb1 : h1 ∉ [b] := by
      obtain ⟨ob, hob⟩ := B4.at
      exact new_out (Same.refl H4) hob nh1
    have nb2 : h2 ∉ [b] := by
      obtain ⟨ob, hob⟩ := (B4.ext S5).at
      exact new_out (Same.refl H5) hob nh2
    have sm1 := wd_small wd1.b2 n10 wd1.lo
    have sm2 := wd_small wd1.b2 n10 lo2
    have ln1 := ld_len ds.length rs ls ls.length
    have ln2 := ld_len ds.length rs ls2 ls2.length
    have ok2 : ∀ ds2 : List PyData, ds2.length = ds.length → boundsD (.list ds2) = true → (∀ j, OkAt ds2 (ldOf ds.length rs ls ls.length) j) → (∀ j, OkAt ds2 (ldOf ds.length rs ls2 ls2.length) j) → Wd ds2 rs ls ∧ Wd ds2 rs ls2 := fun ds2 le hb o1 o2 => ⟨⟨hb, by rw [le]; exact wd1.b2, wd1.lo, by rw [le]; exact o1⟩, ⟨hb, by rw [le]; exact wd1.b2, lo2, by rw [le]; exact o2⟩⟩
    generalize ldOf ds.length rs ls ls.length = hs1 at *
    generalize ldOf ds.length rs ls2 ls2.length = hs2 at *
    walk_at "xs"
    intro F hF
    have rb := Rb.mk0 B6 hF
    have ee1 := same_upd hF (o := .lst []) _ _ eh1
    have ee2 := same_upd hF (o := .lst []) _ _ eh2
    generalize upd H6 F _ = H7 at *
    have g30 : (10 : Int) ^ 30 = 1000000000000000000000000000000 := by decide
    have big3 : (3000000000000000000000 : Nat) < 2 ^ 200 := by decide
    walk_at "xs"
    refine RZ.for_zipL (K := K) (xs := hs1.map V.int) (ys := hs2.map V.int) (by rw [List.length_map, List.length_map]; omega) (fun i σ' H' => ∃ (y11 y12 : Option V) (acc : List V) (ds2 : List PyData), σ' = [some (.ref b), some (.int m), some (.int wd), some (.ref T), some (.ref f1), some (.ref f2), some (.ref f3), some (.ref o), some (.ref h1), some (.ref h2), some (.ref F), y11, y12] ∧ Rb H6 b c F acc ds2 H' ∧ ds2.length = i ∧ (ds2.map boundD).all id = true ∧ (∀ j, OkAt ds2 hs1 j) ∧ ∀ j, OkAt ds2 hs2 j) ?_ ?_ ?_ ?_
    · exact ⟨_, _, _, _, rfl, rb, rfl, rfl, fun j lo up h e => by simp at e, fun j lo up h e => by simp at e⟩
    · rintro i _ H' ⟨_, _, _, _, _, rb, _⟩
      exact ⟨SqL.of (rb.e _ _ nb1 eh1), SqL.of (rb.e _ _ nb2 eh2)⟩
    · rintro i u v' t _ H' hu hv ⟨y11, y12, acc, ds2, rfl, rb, ll, all, ok1, ok2'⟩ ht
      obtain ⟨p1, hp1, rfl⟩ := int_at hu
      obtain ⟨p2, hp2, rfl⟩ := int_at hv
      have g1 := sm1 p1 (List.mem_of_getElem? hp1)
      have g2 := sm2 p2 (List.mem_of_getElem? hp2)
      have hi := (List.getElem?_eq_some_iff.mp hp1).1
      obtain ⟨rb, _, _, et⟩ := rb.new (.tup [.int p1, .int p2]) ht
      generalize upd H' t _ = H8 at *
      have fd := rb.fd
      walk_at "xs"
      refine x_take rb.bag (by decide) (by decide) ?_
      intro H9 v5 E9 B9 a5 c5
      have rb := rb.step E9 B9
      walk_at "xs"
      refine x_div ⟨by decide, by decide⟩ ?_
      walk_at "xs"
      obtain ⟨lo0, elo⟩ : ∃ lo0 : Int, lo0 = (if (if p2 < p1 then p2 else p1) - v5 / 4 > 0 then (if p2 < p1 then p2 else p1) - v5 / 4 else 0) := ⟨_, rfl⟩
      have glo : 0 ≤ lo0 ∧ lo0 ≤ p1 ∧ lo0 ≤ p2 := by
        rw [elo]
        split <;> split <;> omega
      rw [← elo]
      walk_at "xs"
      refine x_take rb.bag (by decide) (by decide) ?_
      intro H10 v6 E10 B10 a6 c6
      have rb := rb.step E10 B10
      have fd := rb.fd
      walk_at "xs"
      refine x_div ⟨by decide, by decide⟩ ?_
      walk_at "xs"
      obtain ⟨up0, eup⟩ : ∃ up0 : Int, up0 = (if p2 > p1 then p2 else p1) + v6 / 4 := ⟨_, rfl⟩
      have gup : p1 ≤ up0 ∧ p2 ≤ up0 ∧ up0 ≤ 200000000000000000000 := by
        rw [eup]
        split <;> omega
      rw [← eup]
      intro p5 hp5
      obtain ⟨rb, np3, np3', ep3⟩ := rb.new (.tup [.int lo0, .int up0]) hp5
      generalize upd H10 p5 _ = H14 at *
      have la := rb.rows.length
      walk_at "xs"
      refine x_app rb.fd (by rw [sizeLine_eq]; omega) ?_
      have rb := rb.app (v := .ref p5) (d := tupD [lo0, up0]) (.tup ep3 np3' (DnAll.ints [lo0, up0])) ⟨[lo0, up0], rfl, Nat.le_of_ble_eq_true rfl, Nat.le_of_ble_eq_true rfl, by
        intro n hn
        simp only [List.mem_cons, List.not_mem_nil, or_false] at hn
        rcases hn with rfl | rfl <;> omega⟩
      have nxt : ∀ (hs : List Int) (p : Int), hs[i]? = some p → lo0 ≤ p → p ≤ up0 → (∀ j, OkAt ds2 hs j) → ∀ j, OkAt (ds2 ++ [tupD [lo0, up0]]) hs j := by
        intro hs p hp l0 l1 okj j lo up h e1 e2
        by_cases hji : j < ds2.length
        · rw [List.getElem?_append_left hji] at e1
          exact okj j lo up h e1 e2
        · have ej : j = ds2.length := by
            have := (List.getElem?_eq_some_iff.mp e1).1
            rw [List.length_append, List.length_singleton] at this
            omega
          subst ej
          rw [List.getElem?_append_right (Nat.le_refl _), Nat.sub_self] at e1
          have e1 : tupD [lo0, up0] = tupD [lo, up] := Option.some.inj e1
          rw [ll, hp] at e2
          cases e1; cases e2
          exact ⟨l0, l1⟩
      walk_at "xs"
      refine ⟨_, _, _, _, rfl, rb, by rw [List.length_append, List.length_singleton]; omega, ?_, nxt hs1 p1 hp1 (by omega) (by omega) ok1, nxt hs2 p2 hp2 (by omega) (by omega) ok2'⟩
      rw [List.map_append, List.all_append, all]
      simp [bound_ok (x := lo0) (y := up0) (by omega) (by omega) (by omega)]
    · rintro _ H' ⟨y11, y12, acc, ds2, rfl, rb, ll, all, ok1, ok2'⟩
      rw [List.length_map] at ll
      have hb : boundsD (.list ds2) = true := by
        show ((decide (2 ≤ (ds2.length : Int)) && decide ((ds2.length : Int) ≤ 10)) && (ds2.map boundD).all id) = true
        rw [all, decide_eq_true (by omega), decide_eq_true (by omega)]; rfl
      obtain ⟨w1', w2'⟩ := ok2 ds2 (by omega) hb ok1 ok2'
      have dn := rb.dn
      have d2 := (d2.ext (Ext.same S6)).ext rb.e
      have e3 := rb.e _ _ n3 (S6 _ _ (S5 _ _ e3))
      have eo := rb.e _ _ mo eo
      have E17 := E1.trans (E16.trans rb.e)
      walk_at "xs"
      intro T1 hT1
      have S8 := same_upd hT1 (o := .tup [.ref F, .ref f2, .ref f3])
      have e8 := upd_same (H := H') (a := T1) (o := .tup [.ref F, .ref f2, .ref f3])
      have nT1 : T1 ∉ [b] := by
        obtain ⟨ob, hob⟩ := rb.bag.at
        exact new_out (Same.refl H') hob hT1
      have B8 := rb.bag.ext S8
      have wa8 : WdAt [b] (upd H' T1 (.tup [.ref F, .ref f2, .ref f3])) T1 ds2 rs ls := ⟨F, f2, f3, e8, nT1, dn.ext (Ext.same S8), d2.ext (Ext.same S8), n3, S8 _ _ e3⟩
      have eo := S8 _ _ eo
      generalize upd H' T1 _ = H8 at *
      walk_at "xs"
      intro T0 hT0
      have S9 := same_upd hT0 (o := .tup [.ref T1, .ref o])
      have nT0 : T0 ∉ [b] := by
        obtain ⟨ob, hob⟩ := B8.at
        exact new_out (Same.refl H8) hob hT0
      exact q _ T0 T1 o ds2 rs ls ls2 (E17.trans (Ext.same (S8.trans S9))) (B8.ext S9) upd_same nT0 (wa8.ext (Ext.same S9)) mo (S9 _ _ eo) w1' w2' (by omega)
end
/-! ### a search along pairs -/
inductive Rch (ps : List (Int × Int)) (ss : List Int) : Int → Prop
  | start {x : Int} : x ∈ ss → Rch ps ss x
  | step {a b : Int} : Rch ps ss a → (a, b) ∈ ps → Rch ps ss b
theorem Rch.mono {ps qs : List (Int × Int)} {ss : List Int} (h : ∀ p ∈ ps, p ∈ qs) {x : Int} (r : Rch ps ss x) : Rch qs ss x := by
  induction r with
  | start h1 => exact .start h1
  | step _ e ih => exact .step ih (h _ e)
def intsI (kvs : List (Key × V)) : Prop := ∀ (x : Int) (v : V), valV kvs (.inl x) = some v → ∃ i : Int, v = .int i
theorem ints_put {kvs : List (Key × V)} (h : intsI kvs) (k i : Int) : intsI (putK kvs (.inl k) (.int i)) := fun x v e => by
  rw [valV_put] at e
  split at e
  · exact ⟨i, (Option.some.inj e).symm⟩
  · exact h x v e
def hasI (kvs : List (Key × V)) (x : Int) : Bool := (valV kvs (.inl x)).isSome
theorem has_put (kvs : List (Key × V)) (k x : Int) (v : V) : hasI (putK kvs (.inl k) v) x = (decide (x = k) || hasI kvs x) := by
  unfold hasI
  rw [valV_put]
  by_cases h : x = k
  · subst h; simp
  · rw [if_neg (by intro e; exact h (Sum.inl.inj e)), decide_eq_false h]; rfl
/-- how many of the first ten are missing -/
def cntI (kvs : List (Key × V)) : List Nat → Nat
  | [] => 0
  | i :: r => (if hasI kvs (i : Nat) = true then 0 else 1) + cntI kvs r
theorem cnt_le (kvs : List (Key × V)) : ∀ l : List Nat, cntI kvs l ≤ l.length
  | [] => Nat.le_refl _
  | i :: r => by
    have := cnt_le kvs r
    show (if hasI kvs (i : Nat) = true then 0 else 1) + cntI kvs r ≤ r.length + 1
    split <;> omega
theorem cnt_put_le (kvs : List (Key × V)) (k : Int) (v : V) : ∀ l : List Nat, cntI (putK kvs (.inl k) v) l ≤ cntI kvs l
  | [] => Nat.le_refl _
  | i :: r => by
    have ih := cnt_put_le kvs k v r
    show (if hasI (putK kvs (.inl k) v) (i : Nat) = true then 0 else 1) + cntI (putK kvs (.inl k) v) r ≤ (if hasI kvs (i : Nat) = true then 0 else 1) + cntI kvs r
    rw [has_put]
    cases hasI kvs (i : Nat)
    · simp only [Bool.or_false, decide_eq_true_eq]
      split <;> simp <;> omega
    · simp; exact ih
theorem cnt_put (kvs : List (Key × V)) (k : Int) (v : V) (hk : hasI kvs k = false) : ∀ l : List Nat, (∃ i ∈ l, ((i : Nat) : Int) = k) → cntI (putK kvs (.inl k) v) l + 1 ≤ cntI kvs l
  | [], h => by obtain ⟨_, h, _⟩ := h; cases h
  | i :: r, h => by
    have le := cnt_put_le kvs k v r
    show (if hasI (putK kvs (.inl k) v) (i : Nat) = true then 0 else 1) + cntI (putK kvs (.inl k) v) r + 1 ≤ (if hasI kvs (i : Nat) = true then 0 else 1) + cntI kvs r
    rw [has_put]
    by_cases e : ((i : Nat) : Int) = k
    · rw [decide_eq_true e, e, hk]
      simp
      omega
    · obtain ⟨j, hj, ej⟩ := h
      have hj : j ∈ r := by
        rcases List.mem_cons.mp hj with rfl | h
        · exact absurd ej e
        · exact h
      have ih := cnt_put kvs k v hk r ⟨j, hj, ej⟩
      rw [decide_eq_false e, Bool.false_or]
      omega
theorem in_ten {k : Int} (h0 : 0 ≤ k) (h1 : k < 10) : ∃ i ∈ List.range 10, ((i : Nat) : Int) = k := ⟨k.toNat, List.mem_range.mpr (by omega), by omega⟩
/-- reached in so many steps -/
inductive Wk (ps : List (Int × Int)) (ss : List Int) : Nat → Int → Prop
  | start {x : Int} : x ∈ ss → Wk ps ss 0 x
  | step {k : Nat} {a b : Int} : Wk ps ss k a → (a, b) ∈ ps → Wk ps ss (k + 1) b
theorem Rch.wk {ps : List (Int × Int)} {ss : List Int} {x : Int} (h : Rch ps ss x) : ∃ k, Wk ps ss k x := by
  induction h with
  | start h => exact ⟨0, .start h⟩
  | step _ e ih => obtain ⟨k, hk⟩ := ih; exact ⟨k + 1, .step hk e⟩
theorem Wk.rch {ps : List (Int × Int)} {ss : List Int} {k : Nat} {x : Int} (h : Wk ps ss k x) : Rch ps ss x := by
  induction h with
  | start h => exact .start h
  | step _ e ih => exact .step ih e
def vI (kvs : List (Key × V)) (x : Int) (k : Nat) : Prop := valV kvs (.inl x) = some (.int (k : Int))
theorem vI.one {kvs : List (Key × V)} {x : Int} {j k : Nat} (a : vI kvs x j) (b : vI kvs x k) : j = k := by
  have := Option.some.inj (a.symm.trans b)
  injection this with e
  omega
theorem vI.has {kvs : List (Key × V)} {x : Int} {k : Nat} (h : vI kvs x k) : hasI kvs x = true := by
  unfold hasI; rw [h]; rfl
def KeysI (kvs : List (Key × V)) : Prop := ∃ ks : List Int, kvs.map (·.1) = ks.map Sum.inl ∧ ks.Nodup ∧ ∀ x, x ∈ ks ↔ hasI kvs x = true
theorem keys_nil : KeysI [] := ⟨[], rfl, List.nodup_nil, fun x => by simp [hasI, valV]⟩
theorem keys_put {kvs : List (Key × V)} (h : KeysI kvs) (k : Int) (v : V) : KeysI (putK kvs (.inl k) v) := by
  obtain ⟨ks, e, nd, m⟩ := h
  by_cases c : hasI kvs k = true
  · refine ⟨ks, ?_, nd, fun x => ?_⟩
    · have any : (kvs.any fun kv => decide (kv.1 = Sum.inl k)) = true := by
        unfold hasI valV at c
        rw [Option.isSome_map] at c
        rw [List.any_eq_true]
        obtain ⟨a, ha⟩ := Option.isSome_iff_exists.mp c
        exact ⟨a, List.mem_of_find?_eq_some ha, by simpa using List.find?_some ha⟩
      unfold putK
      rw [if_pos any, List.map_map, ← e]
      refine List.map_congr_left fun kv _ => ?_
      show (if kv.1 = Sum.inl k then (kv.1, v) else kv).1 = kv.1
      split <;> rfl
    · rw [has_put, m, Bool.or_eq_true, decide_eq_true_eq]
      exact ⟨.inr, fun h => h.elim (fun h => h ▸ c) id⟩
  · have c : hasI kvs k = false := by simpa using c
    have nv : valV kvs (.inl k) = none := by
      unfold hasI at c
      simpa using c
    refine ⟨ks ++ [k], ?_, ?_, fun x => ?_⟩
    · rw [putK_new v nv, List.map_append, e, List.map_append]
      rfl
    · rw [List.nodup_append]
      refine ⟨nd, by simp, fun a ha b hb => ?_⟩
      rw [List.mem_singleton] at hb
      subst hb
      intro e
      subst e
      rw [m, c] at ha
      cases ha
    · rw [has_put, List.mem_append, m, Bool.or_eq_true, decide_eq_true_eq, List.mem_singleton]
      exact Or.comm
structure BfI (ps : List (Int × Int)) (ss : List Int) (kvs : List (Key × V)) (d : Nat) (q1 q2 : List Int) : Prop where
  sound : ∀ x v, valV kvs (.inl x) = some v → ∃ k : Nat, v = .int (k : Int) ∧ k ≤ d + 1 ∧ Wk ps ss k x ∧ k + cntI kvs (List.range 10) ≤ 10
  st : ∀ x ∈ ss, vI kvs x 0
  h1 : ∀ x ∈ q1, vI kvs x d
  h2 : ∀ x ∈ q2, vI kvs x (d + 1)
  keys : KeysI kvs
theorem v_put {kvs : List (Key × V)} {x y : Int} {j k : Nat} (hy : hasI kvs y = false) (h : vI kvs x j) : vI (putK kvs (.inl y) (.int (k : Int))) x j := by
  unfold vI
  rw [valV_put, if_neg (fun e => by
    have e := Sum.inl.inj e
    subst e
    rw [h.has] at hy
    cases hy)]
  exact h
theorem v_new (kvs : List (Key × V)) (y : Int) (k : Nat) : vI (putK kvs (.inl y) (.int (k : Int))) y k := by
  unfold vI
  rw [valV_put, if_pos rfl]
theorem BfI.put {ps : List (Int × Int)} {ss : List Int} {kvs : List (Key × V)} {d : Nat} {q1 q2 : List Int} (b : BfI ps ss kvs d q1 q2) {y : Int} (hy : hasI kvs y = false) (w : Wk ps ss (d + 1) y) (y0 : 0 ≤ y) (y1 : y < 10) (hd : d + cntI kvs (List.range 10) ≤ 10) : BfI ps ss (putK kvs (.inl y) (.int ((d + 1 : Nat) : Int))) d q1 (q2 ++ [y]) := by
  refine ⟨fun x v e => ?_, fun x h => v_put hy (b.st x h), fun x h => v_put hy (b.h1 x h), fun x h => ?_, keys_put b.keys _ _⟩
  · rw [valV_put] at e
    split at e
    · rename_i e2
      have e2 := Sum.inl.inj e2
      subst e2
      have := cnt_put kvs x (.int ((d + 1 : Nat) : Int)) hy _ (in_ten y0 y1)
      exact ⟨d + 1, (Option.some.inj e).symm, Nat.le_refl _, w, by omega⟩
    · obtain ⟨k, e1, e2, e3, e4⟩ := b.sound x v e
      have := cnt_put_le kvs y (.int ((d + 1 : Nat) : Int)) (List.range 10)
      exact ⟨k, e1, e2, e3, by omega⟩
  · rcases List.mem_append.mp h with h | h
    · exact v_put hy (b.h2 x h)
    · rw [List.mem_singleton] at h
      subst h
      exact v_new _ _ _
theorem BfI.pop {ps : List (Int × Int)} {ss : List Int} {kvs : List (Key × V)} {d : Nat} {q1 q2 : List Int} (b : BfI ps ss kvs d q1 q2) {here : Int} {rest : List Int} (e : q1 ++ q2 = here :: rest) : ∃ d' q1' q2', rest = q1' ++ q2' ∧ vI kvs here d' ∧ BfI ps ss kvs d' q1' q2' := by
  cases q1 with
  | cons x r =>
    have e : x :: (r ++ q2) = here :: rest := e
    injection e with e1 e2
    subst e1
    exact ⟨d, r, q2, e2.symm, b.h1 x (by simp), b.sound, b.st, fun y h => b.h1 y (by simp [h]), b.h2, b.keys⟩
  | nil =>
    have e : q2 = here :: rest := e
    subst e
    refine ⟨d + 1, rest, [], by simp, b.h2 here (by simp), ⟨fun x v h => ?_, b.st, fun y h => b.h2 y (by simp [h]), by simp, b.keys⟩⟩
    obtain ⟨k, e, l, w⟩ := b.sound x v h
    exact ⟨k, e, by omega, w⟩
/-- the fewest steps, by key -/
structure Dst (ps : List (Int × Int)) (ss : List Int) (kvs : List (Key × V)) : Prop where
  has : ∀ x, hasI kvs x = true ↔ Rch ps ss x
  val : ∀ x v, valV kvs (.inl x) = some v → ∃ k : Nat, v = .int (k : Int) ∧ Wk ps ss k x ∧ k ≤ 10 ∧ ∀ j, Wk ps ss j x → k ≤ j
  keys : KeysI kvs
theorem BfI.done {ps : List (Int × Int)} {ss : List Int} {kvs : List (Key × V)} {d : Nat} {q1 q2 : List Int} (b : BfI ps ss kvs d q1 q2) (h : ∀ a e ka, (a, e) ∈ ps → vI kvs a ka → ∃ ke, vI kvs e ke ∧ ke ≤ ka + 1) : Dst ps ss kvs := by
  have all : ∀ {j : Nat} {x : Int}, Wk ps ss j x → ∃ k, vI kvs x k ∧ k ≤ j := fun w => by
    induction w with
    | start h => exact ⟨0, b.st _ h, Nat.le_refl _⟩
    | step _ e ih =>
      obtain ⟨k, hk, lk⟩ := ih
      obtain ⟨ke, h1, h2⟩ := h _ _ _ e hk
      exact ⟨ke, h1, by omega⟩
  refine ⟨fun x => ⟨fun hx => ?_, fun r => ?_⟩, fun x v e => ?_, b.keys⟩
  · obtain ⟨v, hv⟩ := Option.isSome_iff_exists.mp hx
    obtain ⟨k, _, _, w, _⟩ := b.sound x v hv
    exact w.rch
  · obtain ⟨j, w⟩ := r.wk
    obtain ⟨k, hk, _⟩ := all w
    exact hk.has
  · obtain ⟨k, rfl, _, w, hc⟩ := b.sound x v e
    refine ⟨k, rfl, w, by omega, fun j wj => ?_⟩
    obtain ⟨k', hk', l⟩ := all wj
    rw [vI.one e hk']
    exact l
def spSteps : Sp := fun vs H Q _ => ∃ (M : List Addr) (p s : Addr) (ps : List (Int × Int)) (ss : List Int), vs = [.ref p, .ref s] ∧ Dn M H (.ref p) (.list (ps.map prD)) ∧ H s = some (.lst (ss.map V.int)) ∧ ss.length ≤ 100 ∧ (∀ q ∈ ps, 0 ≤ q.2 ∧ q.2 < 10) ∧
  ∀ (H' : Hp) (d : Addr) (kvs : List (Key × V)), Same H H' → H d = none → H' d = some (.dK kvs) → Dst ps ss kvs → Q (.ref d) H'
section
variable {P : Program} {w : World} {K : PySem.W.Frag} {mg : Str → Option Value} {base : Heap} {t0 t1 t2 t3 t4 : Tok} {C : Addr}
theorem kn_steps {k : Nat} (D : Df K mg "steps_from" s_steps_from) (B : Bl mg) : Kn P w K mg base "steps_from" (k + 1) spSteps := by
  refine kn_of D (fun _ _ _ _ _ _ us hl => match us, hl with | [_, _], _ => rfl) sc_steps_from (fun vs H Q E h => by obtain ⟨M, p, s, ps, ss, rfl, _⟩ := h; rfl) (fun f cd B' fr z H vs Q E hr gd h => ?_)
  obtain ⟨M, p, s, ps, ss, rfl, dp, hs, ls, rng, q⟩ := h
  refine ⟨_, (pss_cons (ps_setDc (i := 2) (own := [("start", 7)]) rfl sc_steps_from.nd rfl rfl (sw_trueD rfl rfl rfl (by decide +kernel)) (pi_list (pv 1)) (blkOk_by (N := ["pairs", "starts", "steps", "queue", "here", "one", "other", "start"]) (sc := defScope s_steps_from) (by decide +kernel)) (fun _ _ _ _ _ => (pg_name (i := 7) sc_steps_from.nd rfl (.inl rfl))) (fun _ _ _ _ _ => pts_nil) (fun _ _ _ _ _ => (pv 7)) (fun _ _ _ _ _ => pe_int))
  (pss_cons (ps_set (i := 3) sc_steps_from.nd rfl (.inl rfl) (pe_callTy call_list_of (by rfl) B.«list» (by decide +kernel) (pa_cons (pv 1) pa_nil)))
  (pss_cons (ps_while PassesOwn.never (pt_truth (pv 3) (by intro _; rfl)) (pss_cons (ps_set (i := 4) sc_steps_from.nd rfl (.inl rfl) (pe_bm PySem.F.plainAttrs_list PySem.F.slot_list_pop PySem.F.type_list_pop mt_popAt (pv 3) (pa_cons pe_int pa_nil)))
  (pss_one (ps_for PassesOwn.never rfl (pi_list (pv 0)) (pg_tup (by rfl) (pgs_cons (pg_name (i := 5) sc_steps_from.nd rfl (.inl rfl)) (pgs_cons (pg_name (i := 6) sc_steps_from.nd rfl (.inl rfl)) pgs_nil)))
  (pss_one (ps_if (PW.pt (pw_and (pt_cmpR op_eq (pv 5) (pv 4) (nomark _)) (pw_and1 (pt_cmp (pc_dnotin (units1 (by exact hr.units)) (pv 6) (pv 2)) (by rfl))))) (pss_cons (ps_asg (pe_op op_add (pe_dget (units1 (by exact hr.units)) (pv 2) (pv 4) (fun _ _ => rfl)) pe_int) (pg_sub (pv 2) (pv 6) (set_dict (units1 hr.units))))
  (pss_one (ps_expr (pe_bm PySem.F.plainAttrs_list PySem.F.slot_list_append PySem.F.type_list_append mt_append (pv 3) (pa_cons (pv 6) pa_nil))))) pss_nil))))))
  (pss_one (ps_ret (pv 2)))))), ?_⟩
  cases dp with
  | @lst _ xs _ ep mp A =>
  have lx := A.length
  rw [List.length_map] at lx
  walk_at "xs"
  intro Dd hDd
  refine dc_list (K := K) (a := s) (xs := ss.map V.int) (fun i H' => Same H H' ∧ ∃ kvs : List (Key × V), H' Dd = some (.dK kvs) ∧ kvs.length ≤ i ∧ KeysI kvs ∧ (∀ x v, valV kvs (.inl x) = some v → v = .int 0) ∧ ∀ x, hasI kvs x = true ↔ x ∈ ss.take i) ?_ ?_ ?_ ?_
  · exact ⟨same_upd hDd, [], upd_same, Nat.le_refl _, keys_nil, fun x v e => (by cases e), fun x => by simp [hasI, valV]⟩
  · rintro i H' _ ⟨S, _⟩
    exact SqL.of (S _ _ hs)
  · rintro i v H' hv ⟨S, kvs, eD, lk, ikk, iv, ik⟩
    obtain ⟨m, hm, rfl⟩ := int_at hv
    have hi := (List.getElem?_eq_some_iff.mp hm).1
    walk_at "xs"
    refine x_wiped rfl ?_
    walk_at "xs"
    refine ⟨kvs, .inl m, rfl, eD, by rw [sizeLine_eq]; omega, fun z o e => ?_, _, upd_same, ?_, keys_put ikk _ _, fun x v e => ?_, fun x => ?_⟩
    · rw [upd_ne (ne_of_none e hDd)]; exact S _ _ e
    · have := length_putK kvs (Sum.inl m) (V.int 0)
      omega
    · rw [valV_put] at e
      split at e
      · exact (Option.some.inj e).symm
      · exact iv x v e
    · rw [has_put, List.take_add_one, hm, Bool.or_eq_true, decide_eq_true_eq, ik]
      simp [or_comm]
  · rintro H1 ⟨S1, kvs, eD, lk, ikk, iv, ik⟩
    rw [List.length_map, List.take_length] at ik
    rw [List.length_map] at lk
    have hs1 := S1 _ _ hs
    walk_at "xs"
    intro Qd hQd
    have DQ : Dd ≠ Qd := ne_of_none eD hQd
    have hQ0 : H Qd = none := S1.free hQd
    have S2 := same_upd hQd (o := .lst (ss.map V.int))
    have eQ := upd_same (H := H1) (a := Qd) (o := .lst (ss.map V.int))
    have eD := S2 _ _ eD
    have S12 := S1.trans S2
    generalize upd H1 Qd _ = H2 at *
    have c10 := cnt_le kvs (List.range 10)
    rw [List.length_range] at c10
    walk_at "xs"
    refine x_while ⟨fun m σ' H' => ∃ (y4 y5 y6 : Option V) (qs : List Int) (kvs : List (Key × V)), σ' = [some (.ref p), some (.ref s), some (.ref Dd), some (.ref Qd), y4, y5, y6, none] ∧ Same H H' ∧ H' Dd = some (.dK kvs) ∧ H' Qd = some (.lst (qs.map V.int)) ∧ m = 2 * cntI kvs (List.range 10) + qs.length ∧ kvs.length + cntI kvs (List.range 10) ≤ 110 ∧ qs.length + cntI kvs (List.range 10) ≤ 110 ∧
      (∃ (d : Nat) (q1 q2 : List Int), qs = q1 ++ q2 ∧ BfI ps ss kvs d q1 q2) ∧ (∀ a b ka, (a, b) ∈ ps → vI kvs a ka → a ∈ qs ∨ ∃ kb, vI kvs b kb ∧ kb ≤ ka + 1), ?_, ?_⟩
    · have v0 : ∀ x, hasI kvs x = true → vI kvs x 0 := fun x h => by
        obtain ⟨v, hv⟩ := Option.isSome_iff_exists.mp h
        have := iv x v hv
        subst this
        exact hv
      refine ⟨_, _, _, _, ss, kvs, rfl, S12, eD, eQ, rfl, by omega, by omega, ⟨0, ss, [], by simp, fun x v e => ?_, fun x h => v0 x ((ik x).mpr h), fun x h => v0 x ((ik x).mpr h), by simp, ikk⟩, fun a b ka _ h => .inl ((ik a).mp h.has)⟩
      have := iv x v e
      subst this
      exact ⟨0, rfl, by omega, .start ((ik x).mp (by unfold hasI; rw [e]; rfl)), by omega⟩
    · rintro m _ H3 ⟨y4, y5, y6, qs, kvs, rfl, S, eD, eQ, rfl, b1, b2, ⟨dd, q1, q2, eqs, bf⟩, i4⟩
      walk_at "xs"
      refine ⟨!(qs.map V.int).isEmpty, .inl ⟨qs.map V.int, SqL.of eQ, rfl⟩, ?_⟩
      cases qs with
      | nil =>
        show if false = true then _ else _
        refine x_iteF ?_
        walk_at "xs"
        exact q _ Dd kvs S hDd eD (bf.done fun a e ka h hv => (i4 a e ka h hv).resolve_left (by simp))
      | cons here rest =>
        show if true = true then _ else _
        refine x_iteT ⟨_, fun _ _ h => h, ?_⟩
        have lq : rest.length + 1 = (here :: rest).length := rfl
        walk_at "xs"
        refine ⟨Qd, _, 0, 0, .int here, rfl, rfl, eQ, by decide, by decide, ?_, rfl, ?_⟩
        · simp [PySem.seqIndex?]
        have E4 : (upd H3 Qd (.lst (((here :: rest).map V.int).eraseIdx 0))) Qd = some (.lst (rest.map V.int)) := by rw [upd_same]; rfl
        have eD4 : (upd H3 Qd (.lst (((here :: rest).map V.int).eraseIdx 0))) Dd = some (.dK kvs) := by rw [upd_ne DQ]; exact eD
        have S4 : Same H (upd H3 Qd (.lst (((here :: rest).map V.int).eraseIdx 0))) := fun z o e => by rw [upd_ne (ne_of_none e hQ0)]; exact S _ _ e
        obtain ⟨d2, p1, p2, er, vh, bf2⟩ := bf.pop eqs.symm
        generalize upd H3 Qd _ = H4 at *
        have ep4 := S4 _ _ ep
        walk_at "xs"
        refine for_list (K := K) (a := p) (xs := xs) (fun j σ' H' => ∃ (y5 y6 : Option V) (qs : List Int) (kvs2 : List (Key × V)), σ' = [some (.ref p), some (.ref s), some (.ref Dd), some (.ref Qd), some (.int here), y5, y6, none] ∧ Same H H' ∧ H' Dd = some (.dK kvs2) ∧ H' Qd = some (.lst (qs.map V.int)) ∧ 2 * cntI kvs2 (List.range 10) + qs.length < 2 * cntI kvs (List.range 10) + (here :: rest).length ∧ kvs2.length + cntI kvs2 (List.range 10) ≤ 110 ∧ qs.length + cntI kvs2 (List.range 10) ≤ 110 ∧
          vI kvs2 here d2 ∧ (∃ q2 : List Int, qs = p1 ++ q2 ∧ BfI ps ss kvs2 d2 p1 q2) ∧ (∀ (t : Nat) a b ka, ps[t]? = some (a, b) → vI kvs2 a ka → a ∈ qs ∨ (∃ kb, vI kvs2 b kb ∧ kb ≤ ka + 1) ∨ (a = here ∧ j ≤ t))) ?_ ?_ ?_ ?_
        · refine ⟨_, _, rest, kvs, rfl, S4, eD4, E4, by omega, b1, by omega, vh, ⟨p2, er, bf2⟩, fun t a b ka ht ha => ?_⟩
          rcases i4 a b ka (List.mem_of_getElem? ht) ha with h | h
          · rcases List.mem_cons.mp h with h | h
            · exact .inr (.inr ⟨h, Nat.zero_le _⟩)
            · exact .inl h
          · exact .inr (.inl h)
        · rintro j _ H' _ ⟨_, _, _, _, _, S, _⟩
          exact SqL.of (S _ _ ep)
        · rintro j v _ H5 hv ⟨y5, y6, qs, kvs2, rfl, S5, eD5, eQ5, ms, c1, c2, jh, ⟨q2, eq2, bf⟩, j4⟩
          obtain ⟨dP, hdP, dnP⟩ := (A.ext (Ext.same S5)).get hv
          rw [List.getElem?_map] at hdP
          cases hpr : ps[j]? with
          | none => rw [hpr] at hdP; cases hdP
          | some pr =>
          rw [hpr] at hdP
          cases hdP
          obtain ⟨r2, rfl, _, hr5⟩ := dnP.pair
          have rg := rng pr (List.mem_of_getElem? hpr)
          have pin := List.mem_of_getElem? hpr
          have skip : (pr.1 = here → ∃ kb, vI kvs2 pr.2 kb ∧ kb ≤ d2 + 1) → ∀ (t : Nat) a b ka, ps[t]? = some (a, b) → vI kvs2 a ka → a ∈ qs ∨ (∃ kb, vI kvs2 b kb ∧ kb ≤ ka + 1) ∨ (a = here ∧ j + 1 ≤ t) := fun hs t a b ka ht ha => by
            rcases j4 t a b ka ht ha with h | h | ⟨h, h'⟩
            · exact .inl h
            · exact .inr (.inl h)
            · by_cases e : j = t
              · subst e
                rw [hpr] at ht
                have ht : pr = (a, b) := Option.some.inj ht
                subst ht
                have h : a = here := h
                obtain ⟨kb, h3, h4⟩ := hs h
                have : ka = d2 := vI.one ha (by rw [h]; exact jh)
                exact .inr (.inl ⟨kb, h3, by omega⟩)
              · exact .inr (.inr ⟨h, by omega⟩)
          walk_at "xs"
          refine x_ite (fun h1 => ?_) (fun h1 => ?_)
          · walk_at "xs"
            refine ⟨Dd, _, rfl, DGet.k (k := .inl pr.2) eD5, ?_⟩
            walk_at "xs"
            refine x_iteNB (fun h2 => ?_) (fun h2 => ?_)
            · have h2 : hasI kvs2 pr.2 = false := h2
              walk_at "xs"
              refine ⟨Dd, .int d2, rfl, by rw [← jh]; exact DGet.k (k := .inl here) eD5, ?_⟩
              walk_at "xs"
              refine ⟨Dd, _, rfl, DPut.k (k := .inl pr.2) eD5 (by rw [sizeLine_eq]; omega), ?_⟩
              have eQ6 : (upd H5 Dd (.dK (putK kvs2 (.inl pr.2) (.int ((d2 : Int) + 1))))) Qd = some (.lst (qs.map V.int)) := by rw [upd_ne DQ.symm]; exact eQ5
              have wh : Wk ps ss (d2 + 1) pr.2 ∧ d2 + cntI kvs2 (List.range 10) ≤ 10 := by
                obtain ⟨k, e, _, w, hc⟩ := bf.sound here _ jh
                injection e with e
                have : k = d2 := by omega
                subst this
                exact ⟨.step w (by rw [← h1]; exact pin), hc⟩
              have bf' := bf.put h2 wh.1 rg.1 rg.2 wh.2
              have ed : (((d2 + 1 : Nat) : Int)) = (d2 : Int) + 1 := by omega
              have cp := cnt_put kvs2 pr.2 (.int ((d2 : Int) + 1)) h2 _ (in_ten rg.1 rg.2)
              have lp := length_putK kvs2 (Sum.inl pr.2) (V.int ((d2 : Int) + 1))
              walk_at "xs"
              refine x_app eQ6 (by rw [List.length_map, sizeLine_eq]; omega) ?_
              walk_at "xs"
              rw [← ed] at eQ6 cp lp ⊢
              refine ⟨_, _, qs ++ [pr.2], putK kvs2 (.inl pr.2) (.int ((d2 + 1 : Nat) : Int)), rfl, fun z o e => ?_, ?_, ?_, ?_, ?_, ?_, v_put h2 jh, ⟨q2 ++ [pr.2], by rw [eq2, List.append_assoc], bf'⟩, fun t a b ka ht ha => ?_⟩
              · rw [upd_ne (ne_of_none e hQ0), upd_ne (ne_of_none e hDd)]; exact S5 _ _ e
              · rw [upd_ne DQ, upd_same]
              · rw [upd_same, List.map_append]; rfl
              · rw [List.length_append, List.length_singleton]; omega
              · omega
              · rw [List.length_append, List.length_singleton]; omega
              · by_cases ea : a = pr.2
                · exact .inl (List.mem_append_right _ (by simp [ea]))
                · have ha' : vI kvs2 a ka := by
                    unfold vI at ha ⊢
                    rw [valV_put, if_neg (fun z => ea (Sum.inl.inj z))] at ha
                    exact ha
                  rcases j4 t a b ka ht ha' with h | ⟨kb, h, l⟩ | ⟨h, h'⟩
                  · exact .inl (List.mem_append_left _ h)
                  · exact .inr (.inl ⟨kb, v_put h2 h, l⟩)
                  · by_cases e : j = t
                    · subst e
                      rw [hpr] at ht
                      have ht : pr = (a, b) := Option.some.inj ht
                      subst ht
                      have h : a = here := h
                      have : ka = d2 := vI.one ha' (by rw [h]; exact jh)
                      exact .inr (.inl ⟨d2 + 1, v_new _ _ _, by omega⟩)
                    · exact .inr (.inr ⟨h, by omega⟩)
            · have h2 : hasI kvs2 pr.2 = true := h2
              obtain ⟨v2, hv2⟩ := Option.isSome_iff_exists.mp h2
              obtain ⟨k2, rfl, l2, _⟩ := bf.sound _ _ hv2
              walk_at "xs"
              exact ⟨_, _, qs, kvs2, rfl, S5, eD5, eQ5, ms, c1, c2, jh, ⟨q2, eq2, bf⟩, skip (fun _ => ⟨k2, hv2, l2⟩)⟩
          · walk_at "xs"
            exact ⟨_, _, qs, kvs2, rfl, S5, eD5, eQ5, ms, c1, c2, jh, ⟨q2, eq2, bf⟩, skip (fun h => absurd h h1)⟩
        · rintro _ H5 ⟨y5, y6, qs, kvs2, rfl, S5, eD5, eQ5, ms, c1, c2, jh, ⟨q2, eq2, bf⟩, j4⟩
          refine ⟨_, ms, _, _, _, qs, kvs2, rfl, S5, eD5, eQ5, rfl, c1, c2, ⟨d2, p1, q2, eq2, bf⟩, fun a b ka hab ha => ?_⟩
          obtain ⟨t, lt, ht⟩ := List.getElem_of_mem hab
          rcases j4 t a b ka (by rw [List.getElem?_eq_getElem lt, ht]) ha with h | h | ⟨_, h⟩
          · exact .inl h
          · exact .inr h
          · omega
end
/-! ### pairs turned -/
def swP (ps : List (Int × Int)) : List (Int × Int) := ps.map fun p => (p.2, p.1)
def spTurned : Sp := fun vs H Q _ => ∃ (M : List Addr) (p : Addr) (ps : List (Int × Int)), vs = [.ref p] ∧ Dn M H (.ref p) (.list (ps.map prD)) ∧ ps.length ≤ 1000 ∧ ∀ (H' : Hp) (d : Addr), Same H H' → H d = none → Dn [] H' (.ref d) (.list ((swP ps).map prD)) → Q (.ref d) H'
section
variable {P : Program} {w : World} {K : PySem.W.Frag} {mg : Str → Option Value} {base : Heap} {t0 t1 t2 t3 t4 : Tok} {C : Addr}
theorem kn_turned {k : Nat} (D : Df K mg "turned" s_turned) (B : Bl mg) : Kn P w K mg base "turned" (k + 1) spTurned := by
  refine kn_of D (fun _ _ _ _ _ _ us hl => match us, hl with | [_], _ => rfl) sc_turned (fun vs H Q E h => by obtain ⟨M, p, ps, rfl, _⟩ := h; rfl) (fun f cd B' fr z H vs Q E hr gd h => ?_)
  obtain ⟨M, p, ps, rfl, dp, lp, q⟩ := h
  refine ⟨_, (pss_one (ps_ret (pe_lc (own := [("one", 1), ("other", 2)]) rfl sc_turned.nd (pi_list (pv 0)) (blkOk_by (N := ["pairs", "one", "other"]) (sc := defScope s_turned) (by decide +kernel)) (fun _ _ _ _ _ => (pg_tupK K (n := 2) (pgs_cons (pg_name (i := 1) sc_turned.nd rfl (.inl rfl)) (pgs_cons (pg_name (i := 2) sc_turned.nd rfl (.inl rfl)) pgs_nil)))) (fun _ _ _ _ _ => pts_nil) (fun _ _ _ _ _ => (pe_tup (pa_cons (pv 2) (pa_cons (pv 1) pa_nil))))))), ?_⟩
  cases dp with
  | @lst _ xs _ ep mp A =>
  have lx := A.length
  rw [List.length_map] at lx
  walk_at "xs"
  intro L hL
  refine lc_list (K := K) (a := p) (xs := xs) (fun i H' => Same H H' ∧ ∃ acc : List V, H' L = some (.lst acc) ∧ DnAll [L] H' acc ((swP (ps.take i)).map prD)) ?_ ?_ ?_ ?_
  · exact ⟨same_upd hL, [], upd_same, .nil⟩
  · rintro i H' _ ⟨S, _⟩
    exact SqL.of (S _ _ ep)
  · rintro i v H' hv ⟨S, acc, eL, Y⟩
    obtain ⟨dP, hdP, dnP⟩ := (A.ext (Ext.same S)).get hv
    rw [List.getElem?_map] at hdP
    cases hpr : ps[i]? with
    | none => rw [hpr] at hdP; cases hdP
    | some pr =>
    rw [hpr] at hdP
    cases hdP
    obtain ⟨r2, rfl, _, hr5⟩ := dnP.pair
    have hi := (List.getElem?_eq_some_iff.mp hpr).1
    have ly := Y.length
    have l2 : ((swP (ps.take i)).map prD).length ≤ 1000 := by unfold swP; rw [List.length_map, List.length_map, List.length_take]; omega
    walk_at "xs"
    refine x_wiped rfl ?_
    walk_at "xs"
    intro t ht
    have S2 := same_upd ht (o := .tup [.int pr.2, .int pr.1])
    have et := upd_same (H := H') (a := t) (o := .tup [.int pr.2, .int pr.1])
    have tL : t ≠ L := ne_of_none2 ht eL
    have eL := S2 _ _ eL
    have Y := Y.ext (Ext.same S2)
    generalize upd H' t _ = H4 at *
    refine x_acc eL (by rw [sizeLine_eq]; omega) ?_
    have X : Ext [L] H4 (upd H4 L (.lst (acc ++ [.ref t]))) := Ext.upd (by simp)
    refine ⟨fun z o e => ?_, acc ++ [.ref t], upd_same, ?_⟩
    · rw [upd_ne (ne_of_none e hL)]; exact S2 _ _ (S _ _ e)
    · rw [List.take_add_one, hpr]
      unfold swP
      rw [List.map_append, List.map_append]
      exact (Y.ext X).app (.cons (.tup (X _ _ (by simpa using tL) et) (by simpa using tL) (DnAll.ints [pr.2, pr.1])) .nil)
  · rintro H' ⟨S, acc, eL, Y⟩
    rw [lx, List.take_length] at Y
    walk_at "xs"
    exact q H' L S hL (.lst eL (by simp) (Y.sub (by simp)))
end

/-! ### ways along pairs: the first of the shortest ones -/
def Chn (ps : List (Int × Int)) : List Int → Prop
  | [] => False
  | [_] => True
  | x :: y :: r => (x, y) ∈ ps ∧ Chn ps (y :: r)
structure Way (ps : List (Int × Int)) (s t : Int) (w : List Int) : Prop where
  c : Chn ps w
  h : w.head? = some s
  l : w.getLast? = some t
def Best (ps : List (Int × Int)) (s t : Int) (w : List Int) : Prop := Way ps s t w ∧ ∀ w', Way ps s t w' → w.length ≤ w'.length ∧ (w.length = w'.length → w ≤ w')
section
variable {ps : List (Int × Int)}
theorem Best.one {s t : Int} {w v : List Int} (a : Best ps s t w) (b : Best ps s t v) : w = v := by
  obtain ⟨l1, e1⟩ := a.2 v b.1
  obtain ⟨l2, e2⟩ := b.2 w a.1
  exact List.le_antisymm (e1 (by omega)) (e2 (by omega))
theorem lex_app : ∀ {a b c d : List Int}, a ≤ b → a.length = b.length → (a = b → c ≤ d) → a ++ c ≤ b ++ d
  | [], [], _, _, _, _, e => e rfl
  | x :: a, y :: b, c, d, h, l, e => by
    rw [List.cons_append, List.cons_append]
    rw [List.cons_le_cons_iff] at h ⊢
    rcases h with h | ⟨h1, h2⟩
    · exact .inl h
    · subst h1
      exact .inr ⟨rfl, lex_app h2 (by simpa using l) fun z => e (by rw [z])⟩
  | [], _ :: _, _, _, _, l, _ => by simp at l
  | _ :: _, [], _, _, _, l, _ => by simp at l
theorem chn_snoc : ∀ {w : List Int} {x y : Int}, Chn ps w → w.getLast? = some x → (x, y) ∈ ps → Chn ps (w ++ [y])
  | [], _, _, h, _, _ => h.elim
  | [a], x, y, _, l, e => by
    have l : a = x := by simpa using l
    subst l
    exact ⟨e, trivial⟩
  | a :: b :: r, x, y, h, l, e => ⟨h.1, chn_snoc (w := b :: r) h.2 (by simpa using l) e⟩
theorem chn_unsnoc : ∀ {w : List Int} {y : Int}, Chn ps (w ++ [y]) → w ≠ [] → ∃ x, w.getLast? = some x ∧ (x, y) ∈ ps ∧ Chn ps w
  | [], _, _, h => absurd rfl h
  | [a], y, h, _ => ⟨a, rfl, h.1, trivial⟩
  | a :: b :: r, y, h, _ => by
    obtain ⟨x, l, e, c⟩ := chn_unsnoc (w := b :: r) (y := y) h.2 (by simp)
    exact ⟨x, by simpa using l, e, h.1, c⟩
theorem Way.snoc {s x y : Int} {w : List Int} (a : Way ps s x w) (e : (x, y) ∈ ps) : Way ps s y (w ++ [y]) := by
  refine ⟨chn_snoc a.c a.l e, ?_, by simp⟩
  cases w with
  | nil => exact a.c.elim
  | cons b r => simpa using a.h
theorem Way.cases {s t : Int} {w : List Int} (a : Way ps s t w) : (w = [s] ∧ t = s) ∨ ∃ w' x, w = w' ++ [t] ∧ Way ps s x w' ∧ (x, t) ∈ ps := by
  obtain ⟨v, e⟩ := List.getLast?_eq_some_iff.mp a.l
  subst e
  cases v with
  | nil =>
    have h : t = s := by simpa using a.h
    subst h
    exact .inl ⟨rfl, rfl⟩
  | cons b r =>
    obtain ⟨x, l, e, c⟩ := chn_unsnoc a.c (by simp)
    exact .inr ⟨b :: r, x, rfl, ⟨c, by simpa using a.h, l⟩, e⟩
theorem Way.self (s : Int) : Way ps s s [s] := ⟨trivial, rfl, rfl⟩
theorem Way.pos {s t : Int} {w : List Int} (a : Way ps s t w) : 0 < w.length := by
  cases w with
  | nil => exact a.c.elim
  | cons b r => simp
/-- from the end -/
theorem Way.wk : ∀ {w : List Int} {x t : Int}, Way ps x t w → Wk (ps.map fun p => (p.2, p.1)) [t] (w.length - 1) x
  | [], _, _, a => a.c.elim
  | [a], x, t, h => by
    have h1 : a = x := by simpa using h.h
    have h2 : a = t := by simpa using h.l
    subst h1
    subst h2
    exact .start (by simp)
  | a :: b :: r, x, t, h => by
    have h1 : a = x := by simpa using h.h
    subst h1
    have w := Way.wk (w := b :: r) ⟨h.c.2, rfl, by simpa using h.l⟩
    exact .step w (List.mem_map.mpr ⟨_, h.c.1, rfl⟩)
theorem Wk.way {t : Int} {k : Nat} {x : Int} (h : Wk (ps.map fun p => (p.2, p.1)) [t] k x) : ∃ w, Way ps x t w ∧ w.length = k + 1 := by
  induction h with
  | start h =>
    have h := List.mem_singleton.mp h
    subst h
    exact ⟨[_], Way.self _, rfl⟩
  | @step k a b _ e ih =>
    obtain ⟨w, a1, l⟩ := ih
    obtain ⟨p, hp, e⟩ := List.mem_map.mp e
    cases e
    cases w with
    | nil => exact a1.c.elim
    | cons c r =>
      have h1 : c = p.2 := by simpa using a1.h
      subst h1
      exact ⟨p.1 :: p.2 :: r, ⟨⟨hp, a1.c⟩, rfl, by simpa using a1.l⟩, by simp at l ⊢; omega⟩
theorem chn_drop : ∀ {w : List Int} (i : Nat), Chn ps w → i < w.length → Chn ps (w.drop i)
  | [], _, h, _ => h.elim
  | _, 0, h, _ => by simpa using h
  | [a], i + 1, _, l => by simp at l
  | a :: b :: r, i + 1, h, l => by
    rw [List.drop_succ_cons]
    exact chn_drop (w := b :: r) i h.2 (by simpa using l)
theorem Way.drop {s t x : Int} {w : List Int} (a : Way ps s t w) {i : Nat} (h : w[i]? = some x) : Way ps x t (w.drop i) := by
  have hi := (List.getElem?_eq_some_iff.mp h).1
  refine ⟨chn_drop i a.c hi, by rw [List.head?_drop]; exact h, ?_⟩
  rw [List.getLast?_drop, if_neg (by omega)]
  exact a.l
theorem chn_get : ∀ {w : List Int} {i : Nat} {x y : Int}, Chn ps w → w[i]? = some x → w[i + 1]? = some y → (x, y) ∈ ps
  | [], _, _, _, h, _, _ => h.elim
  | [a], i, _, _, _, _, e => by simp at e
  | a :: b :: r, 0, x, y, h, e1, e2 => by
    have e1 : a = x := by simpa using e1
    have e2 : b = y := by simpa using e2
    subst e1; subst e2
    exact h.1
  | a :: b :: r, i + 1, x, y, h, e1, e2 => chn_get (w := b :: r) (i := i) h.2 (by simpa using e1) (by simpa using e2)
theorem Way.rng {s t : Int} {w : List Int} (hs : 0 ≤ s ∧ s < 10) (hp : ∀ q ∈ ps, 0 ≤ q.2 ∧ q.2 < 10) (a : Way ps s t w) : ∀ m ∈ w, 0 ≤ m ∧ m < 10 := by
  obtain ⟨c, h, l⟩ := a
  clear l
  revert s
  induction w with
  | nil => exact c.elim
  | cons b r ih =>
    intro s hs h m hm
    have h : b = s := by simpa using h
    subst h
    rcases List.mem_cons.mp hm with rfl | hm
    · exact hs
    · cases r with
      | nil => cases hm
      | cons d r => exact ih c.2 (hp _ c.1) rfl m hm
end
/-! ### the first of the shortest ways, step by step -/
section
variable {ps : List (Int × Int)} {t : Int} {kvs : List (Key × V)}
theorem d_way (D : Dst (swP ps) [t] kvs) {x : Int} {k : Nat} (h : vI kvs x k) {w : List Int} (a : Way ps x t w) : k + 1 ≤ w.length := by
  obtain ⟨k', e, _, _, m⟩ := D.val x _ h
  injection e with e
  have := m _ a.wk
  have := a.pos
  omega
theorem d_val (D : Dst (swP ps) [t] kvs) {x : Int} (h : hasI kvs x = true) : ∃ k, vI kvs x k ∧ k ≤ 10 := by
  obtain ⟨v, hv⟩ := Option.isSome_iff_exists.mp h
  obtain ⟨k, rfl, _, l, _⟩ := D.val x v hv
  exact ⟨k, hv, l⟩
theorem d_wk (D : Dst (swP ps) [t] kvs) {x : Int} {k : Nat} (h : vI kvs x k) : Wk (swP ps) [t] k x ∧ ∀ j, Wk (swP ps) [t] j x → k ≤ j := by
  obtain ⟨k', e, w, _, m⟩ := D.val x _ h
  injection e with e
  have : k' = k := by omega
  subst this
  exact ⟨w, m⟩
theorem d_of (D : Dst (swP ps) [t] kvs) {x : Int} {j : Nat} (h : Wk (swP ps) [t] j x) : ∃ k, vI kvs x k ∧ k ≤ j := by
  obtain ⟨k, hk, _⟩ := d_val D ((D.has x).mpr h.rch)
  exact ⟨k, hk, (d_wk D hk).2 _ h⟩
theorem d_edge (D : Dst (swP ps) [t] kvs) {x y : Int} {k j : Nat} (h : vI kvs x k) (e : (x, y) ∈ ps) (hy : vI kvs y j) : k ≤ j + 1 :=
  (d_wk D h).2 _ (.step (d_wk D hy).1 (List.mem_map.mpr ⟨_, e, rfl⟩))
theorem d_next (D : Dst (swP ps) [t] kvs) {x : Int} {m : Nat} (h : vI kvs x (m + 1)) : ∃ y, (x, y) ∈ ps ∧ vI kvs y m := by
  have w := (d_wk D h).1
  cases w with
  | @step _ a _ wa e =>
    obtain ⟨p, hp, e⟩ := List.mem_map.mp e
    cases e
    obtain ⟨j, hj, l⟩ := d_of D wa
    have := d_edge D h hp hj
    have : j = m := by omega
    subst this
    exact ⟨_, hp, hj⟩
theorem d_zero (D : Dst (swP ps) [t] kvs) {x : Int} (h : vI kvs x 0) : x = t := by
  have w := (d_wk D h).1
  cases w with
  | start h => simpa using h
theorem d_t (D : Dst (swP ps) [t] kvs) {k : Nat} (h : vI kvs t k) : k = 0 := by
  have := (d_wk D h).2 0 (.start (by simp))
  omega
/-- so far -/
structure Gr (ps : List (Int × Int)) (t : Int) (kvs : List (Key × V)) (one : Int) (k0 : Nat) (pre : List Int) (x : Int) (m : Nat) : Prop where
  way : Way ps one x pre
  v : vI kvs x m
  len : m + pre.length = k0 + 1
  best : ∀ w', Way ps one t w' → w'.length = k0 + 1 → pre ≤ w'.take pre.length
theorem Gr.start {one : Int} {k0 : Nat} (h : vI kvs one k0) : Gr ps t kvs one k0 [one] one k0 := by
  refine ⟨Way.self one, h, rfl, fun w' a l => ?_⟩
  cases w' with
  | nil => exact a.c.elim
  | cons b r =>
    have e : b = one := by simpa using a.h
    subst e
    exact List.le_refl _
theorem Gr.step (D : Dst (swP ps) [t] kvs) {one : Int} {k0 : Nat} {pre : List Int} {x y : Int} {m : Nat} (g : Gr ps t kvs one k0 pre x (m + 1)) (e : (x, y) ∈ ps) (hy : vI kvs y m) (least : ∀ z, (x, z) ∈ ps → vI kvs z m → y ≤ z) : Gr ps t kvs one k0 (pre ++ [y]) y m := by
  have gl := g.len
  have gp := g.way.pos
  refine ⟨g.way.snoc e, hy, by rw [List.length_append, List.length_singleton]; omega, fun w' a l => ?_⟩
  have hn : pre.length < w'.length := by omega
  obtain ⟨z, hz⟩ : ∃ z, w'[pre.length]? = some z := ⟨_, List.getElem?_eq_getElem hn⟩
  rw [List.length_append, List.length_singleton, List.take_add_one, hz]
  refine lex_app (g.best w' a l) (by rw [List.length_take]; omega) fun eq => ?_
  have hx : w'[pre.length - 1]? = some x := by
    have h1 := g.way.l
    rw [List.getLast?_eq_getElem?] at h1
    have h2 : (w'.take pre.length)[pre.length - 1]? = some x := by rw [← eq]; exact h1
    rw [List.getElem?_take_of_lt (by omega)] at h2
    exact h2
  have exz : (x, z) ∈ ps := chn_get a.c hx (by rw [show pre.length - 1 + 1 = pre.length by omega]; exact hz)
  have wz := (a.drop hz).wk
  rw [List.length_drop] at wz
  obtain ⟨j, hj, lj⟩ := d_of D wz
  have := d_edge D g.v exz hj
  have ej : j = m := by omega
  subst ej
  have := least z exz hj
  show [y] ≤ [z]
  rw [List.cons_le_cons_iff]
  by_cases c : y = z
  · exact .inr ⟨c, List.le_refl _⟩
  · exact .inl (by omega)
theorem Gr.done (D : Dst (swP ps) [t] kvs) {one : Int} {k0 : Nat} {pre : List Int} {m : Nat} (h0 : vI kvs one k0) (g : Gr ps t kvs one k0 pre t m) : Best ps one t pre := by
  have := d_t D g.v
  subst this
  have gl := g.len
  refine ⟨g.way, fun w' a => ?_⟩
  have := d_way D h0 a
  refine ⟨by omega, fun e => ?_⟩
  have b := g.best w' a (by omega)
  rwa [e, List.take_length] at b
end
theorem atI_getLast {xs : List V} {v : V} (h : xs.getLast? = some v) : atI xs (-1) = some v := by
  rw [List.getLast?_eq_getElem?] at h
  have hl := (List.getElem?_eq_some_iff.mp h).1
  have e : ixN xs.length (-1) = some (xs.length - 1) := by
    unfold ixN
    rw [if_neg (by decide), if_pos (by omega)]
    congr 1
    omega
  unfold atI
  rw [e]
  exact h
/-- what is told of a way -/
def WayV (ps : List (Int × Int)) (one t : Int) (H H' : Hp) (v : V) : Prop := (v = .non ∧ ∀ w, ¬ Way ps one t w) ∨ ∃ l w, v = .ref l ∧ H l = none ∧ H' l = some (.lst (w.map V.int)) ∧ w.length ≤ 11 ∧ Best ps one t w
def spShort : Sp := fun vs H Q _ => ∃ (M : List Addr) (p : Addr) (ps : List (Int × Int)) (one t : Int), vs = [.ref p, .int one, .int t] ∧ Dn M H (.ref p) (.list (ps.map prD)) ∧ ps.length ≤ 1000 ∧ (∀ q ∈ ps, 0 ≤ q.1 ∧ q.1 < 10) ∧ ∀ H' v, Same H H' → WayV ps one t H H' v → Q v H'
section
variable {P : Program} {w : World} {K : PySem.W.Frag} {mg : Str → Option Value} {base : Heap} {t0 t1 t2 t3 t4 : Tok} {C : Addr}
theorem x_dget1 {td ty : TE} {σ : L2.St} {H : Hp} {Q : VK} (h : td σ H fun x H1 => ∃ a, x = .ref a ∧ IsD H1 a ∧ ty σ H1 fun y H2 => ∃ o, DGet H2 a y o ∧ Q (o.getD .non) H2) : tDGet1 td ty σ H Q := h
theorem kn_short {k : Nat} (D : Df K mg "first_shortest" s_first_shortest) (B : Bl mg) (c_turned : Kn P w K mg base "turned" k spTurned) (c_steps_from : Kn P w K mg base "steps_from" k spSteps) : Kn P w K mg base "first_shortest" (k + 1) spShort := by
  refine kn_of D (fun _ _ _ _ _ _ us hl => match us, hl with | [_, _, _], _ => rfl) sc_first_shortest (fun vs H Q E h => by obtain ⟨M, p, ps, one, t, rfl, _⟩ := h; rfl) (fun f cd B' fr z H vs Q E hr gd h => ?_)
  obtain ⟨M, p, ps, one, t, rfl, dp, lp, rng, q⟩ := h
  refine ⟨_, (pss_cons (ps_set (i := 3) sc_first_shortest.nd rfl (.inr rfl) (pe_own c_steps_from hr gd (by rfl) (pa_cons (pe_own c_turned hr gd (by rfl) (pa_cons (pv 0) pa_nil)) (pa_cons (pe_lst (pa_cons (pv 2) pa_nil)) pa_nil))))
  (pss_cons (ps_if (pt_cmp (pc_dnotin (units1 (by exact hr.units)) (pv 1) (pv 3)) (by rfl)) (pss_one (ps_ret pe_non)) pss_nil)
  (pss_cons (ps_set (i := 4) sc_first_shortest.nd rfl (.inr rfl) (pe_lst (pa_cons (pv 1) pa_nil)))
  (pss_cons (ps_while PassesOwn.never (pt_cmpR op_ne (pe_ix (r := rIxL K) ix_list (pv 4) (pe_un un_neg pe_int) (fun _ _ => rfl)) (pv 2) (nomark _)) (pss_cons (ps_set (i := 5) sc_first_shortest.nd rfl (.inr rfl) (pe_op op_sub (pe_dget (units1 (by exact hr.units)) (pv 3) (pe_ix (r := rIxL K) ix_list (pv 4) (pe_un un_neg pe_int) (fun _ _ => rfl)) (fun _ _ => rfl)) pe_int))
  (pss_one (ps_expr (pe_bm PySem.F.plainAttrs_list PySem.F.slot_list_append PySem.F.type_list_append mt_append (pv 4) (pa_cons (pe_callB (cr_min rfl) (by rfl) B.min (by decide +kernel) (pa_cons (pe_lc (own := [("tail", 6), ("head", 7)]) rfl sc_first_shortest.nd (pi_list (pv 0)) (blkOk_by (N := ["pairs", "one", "other", "steps", "way", "wanted", "tail", "head"]) (sc := defScope s_first_shortest) (by decide +kernel)) (fun _ _ _ _ _ => (pg_tupK K (n := 2) (pgs_cons (pg_name (i := 6) sc_first_shortest.nd rfl (.inl rfl)) (pgs_cons (pg_name (i := 7) sc_first_shortest.nd rfl (.inl rfl)) pgs_nil)))) (fun _ _ _ _ _ => (pts_one (PW.pt (pw_and (pt_cmpR op_eq (pv 6) (pe_ix (r := rIxL K) ix_list (pv 4) (pe_un un_neg pe_int) (fun _ _ => rfl)) (nomark _)) (pw_and1 (pt_cmpR (op_eqDK K (by exact hr.units)) (pe_dget1 (units1 (by exact hr.units)) (pv 3) (pv 7) ⟨rfl, rfl, rfl, rfl⟩) (pv 5) (nomark _))))))) (fun _ _ _ _ _ => (pv 7))) pa_nil)) pa_nil))))))
  (pss_one (ps_ret (pv 4))))))), ?_⟩
  walk_at "xs"
  refine ⟨M, p, ps, rfl, dp, lp, ?_⟩
  intro H1 tp S1 ntp dtp
  walk_at "xs"
  intro sl hsl
  have S2 := same_upd hsl (o := .lst [.int t])
  have esl := upd_same (H := H1) (a := sl) (o := .lst [.int t])
  have dtp := dtp.ext (Ext.same S2)
  generalize upd H1 sl _ = H2 at *
  walk_at "xs"
  refine ⟨[], tp, sl, swP ps, [t], rfl, dtp, esl, by simp, fun q hq => ?_, ?_⟩
  · obtain ⟨p0, hp0, rfl⟩ := List.mem_map.mp hq
    exact rng p0 hp0
  intro H3 Dd kvs S3 nD eD dst
  have S13 := S1.trans (S2.trans S3)
  walk_at "xs"
  refine ⟨Dd, _, rfl, DGet.k (k := .inl one) eD, ?_⟩
  walk_at "xs"
  refine x_iteNB (fun hone => ?_) (fun hone => ?_)
  · have hone : hasI kvs one = false := hone
    walk_at "xs"
    refine q _ _ S13 (.inl ⟨rfl, fun w a => ?_⟩)
    have := (dst.has one).mpr a.wk.rch
    rw [hone] at this
    cases this
  · have hone : hasI kvs one = true := hone
    obtain ⟨k0, hk0, lk0⟩ := d_val dst hone
    have ep3 : ∃ xs, H p = some (.lst xs) ∧ DnAll M H xs (ps.map prD) := by
      cases dp with
      | lst e _ A => exact ⟨_, e, A⟩
    obtain ⟨xs, ep0, A⟩ := ep3
    have ep := S13 _ _ ep0
    have lx := A.length
    rw [List.length_map] at lx
    walk_at "xs"
    intro W hW
    have S4 := same_upd hW (o := .lst [.int one])
    have eW := upd_same (H := H3) (a := W) (o := .lst [.int one])
    have WD : W ≠ Dd := fun z => by rw [z, eD] at hW; cases hW
    have Wp : W ≠ p := fun z => by rw [z, ep] at hW; cases hW
    have eD4 := S4 _ _ eD
    have ep4 := S4 _ _ ep
    generalize upd H3 W _ = H4 at *
    walk_at "xs"
    refine x_while ⟨fun m σ' H' => ∃ (y5 : Option V) (pre : List Int) (x : Int), σ' = [some (.ref p), some (.int one), some (.int t), some (.ref Dd), some (.ref W), y5, none, none] ∧ Ext [W] H3 H' ∧ H' W = some (.lst (pre.map V.int)) ∧ Gr ps t kvs one k0 pre x m, ?_, ?_⟩
    · exact ⟨k0, _, [one], one, rfl, Ext.same S4, eW, .start hk0⟩
    · rintro m _ H5 ⟨y5, pre, x, rfl, X5, eW5, g⟩
      have eD5 := X5 _ _ (by simpa using WD.symm) eD
      have ep5 := X5 _ _ (by simpa using Wp.symm) ep
      have gl := atI_getLast (xs := pre.map V.int) (v := .int x) (by rw [List.getLast?_map, g.way.l]; rfl)
      have gn := g.len
      walk_at "xs"
      refine x_ixL (SqL.of eW5) gl ?_
      walk_at "xs"
      have nW : H W = none := S13.free hW
      have S5 : Same H H5 := fun z o e => X5 _ _ (by simpa using ne_of_none e nW) (S13 _ _ e)
      by_cases c : x = t
      · subst c
        rw [if_neg (by simp)]
        walk_at "xs"
        exact q _ _ S5 (.inr ⟨W, pre, rfl, nW, eW5, by omega, g.done dst hk0⟩)
      · rw [if_pos (by simp [c])]
        refine ⟨_, fun _ _ h => h, ?_⟩
        obtain ⟨m1, rfl⟩ : ∃ m1, m = m1 + 1 := by
          cases m with
          | zero => exact absurd (d_zero dst g.v) c
          | succ n => exact ⟨n, rfl⟩
        walk_at "xs"
        refine x_ixL (SqL.of eW5) gl ?_
        walk_at "xs"
        refine ⟨Dd, .int ((m1 + 1 : Nat) : Int), rfl, by rw [← show valV kvs (.inl x) = _ from g.v]; exact DGet.k (k := .inl x) eD5, ?_⟩
        walk_at "xs"
        have em : ((m1 + 1 : Nat) : Int) - 1 = (m1 : Int) := by omega
        rw [em]
        intro L hL
        have LW : L ≠ W := fun z => by rw [z, eW5] at hL; cases hL
        obtain ⟨bq, ebq⟩ : ∃ bq : Int × Int → Bool, bq = fun q => decide (q.1 = x) && decide (valV kvs (.inl q.2) = some (.int (m1 : Int))) := ⟨_, rfl⟩
        refine lc_list (K := K) (a := p) (xs := xs) (fun j H' => Same H5 H' ∧ H' L = some (.lst ((((ps.take j).filter bq).map (·.2)).map V.int))) ?_ ?_ ?_ ?_
        · exact ⟨same_upd hL, by rw [upd_same]; rfl⟩
        · rintro j H' _ ⟨S, _⟩
          exact SqL.of (S _ _ ep5)
        · rintro j v H6 hv ⟨S6, eL⟩
          obtain ⟨dP, hdP, dnP⟩ := (A.ext (Ext.same (S5.trans S6))).get hv
          rw [List.getElem?_map] at hdP
          cases hpr : ps[j]? with
          | none => rw [hpr] at hdP; cases hdP
          | some pr =>
          rw [hpr] at hdP
          cases hdP
          obtain ⟨r2, rfl, _, hr5⟩ := dnP.pair
          have eW6 := S6 _ _ eW5
          have eD6 := S6 _ _ eD5
          have hj := (List.getElem?_eq_some_iff.mp hpr).1
          have fs : (ps.take (j + 1)).filter bq = (ps.take j).filter bq ++ (if bq pr = true then [pr] else []) := by
            rw [List.take_add_one, hpr, List.filter_append]
            congr 1
            show List.filter _ [pr] = _
            rw [List.filter_cons]
            rfl
          have fl := List.length_filter_le bq (ps.take j)
          rw [List.length_take] at fl
          walk_at "xs"
          refine x_wiped rfl ?_
          walk_at "xs"
          refine x_ixL (SqL.of eW6) gl ?_
          walk_at "xs"
          refine x_ite (fun h1 => ?_) (fun h1 => ?_)
          · walk_at "xs"
            refine x_dget1 ?_
            walk_at "xs"
            refine ⟨Dd, rfl, .inl ⟨kvs, .inl eD6⟩, ?_⟩
            walk_at "xs"
            refine ⟨_, DGet.k (k := .inl pr.2) eD6, ?_⟩
            walk_at "xs"
            obtain ⟨ee, dx, hdx, shx, hee⟩ : ∃ (ee : Bool) (dx : PyData), Dn [] H6 ((valV kvs (.inl pr.2)).getD .non) dx ∧ SeqAt.shaped dx = true ∧ PyData.eqv dx (.int (m1 : Int)) = decide (valV kvs (.inl pr.2) = some (.int (m1 : Int))) := by
              cases hv2 : valV kvs (.inl pr.2) with
              | none => exact ⟨true, .none, .non, rfl, by simp [PyData.eqv]⟩
              | some v2 =>
                obtain ⟨k2, rfl, _⟩ := dst.val _ _ hv2
                refine ⟨true, .int (k2 : Int), .int _, rfl, ?_⟩
                rw [Bool.eq_iff_iff]
                simp [PyData.eqv]
            refine x_eqDn (M := []) (N := []) hdx (.int _) shx rfl ?_
            rw [hee]
            refine ⟨_, rfl, ?_⟩
            by_cases h2 : valV kvs (.inl pr.2) = some (.int (m1 : Int))
            · rw [if_pos (decide_eq_true h2)]
              walk_at "xs"
              refine x_acc eL (by rw [List.length_map, List.length_map, sizeLine_eq]; omega) ?_
              refine ⟨fun z o e => ?_, ?_⟩
              · rw [upd_ne (ne_of_none e hL)]; exact S6 _ _ e
              · rw [upd_same, fs, if_pos (by rw [ebq]; simp [h1, h2]), List.map_append, List.map_append]; rfl
            · rw [if_neg (by simp [h2])]
              refine ⟨S6, ?_⟩
              rw [fs, if_neg (by rw [ebq]; simp [h2]), List.append_nil]
              exact eL
          · refine ⟨S6, ?_⟩
            rw [fs, if_neg (by rw [ebq]; simp [h1]), List.append_nil]
            exact eL
        · rintro H6 ⟨S6, eL⟩
          rw [List.take_of_length_le (by omega)] at eL
          have eW6 := S6 _ _ eW5
          have cm : ∀ y, y ∈ (ps.filter bq).map (·.2) ↔ (x, y) ∈ ps ∧ vI kvs y m1 := fun y => by
            rw [List.mem_map]
            constructor
            · rintro ⟨q0, h, rfl⟩
              obtain ⟨h1, h2⟩ := List.mem_filter.mp h
              rw [ebq] at h2
              simp only [Bool.and_eq_true, decide_eq_true_eq] at h2
              exact ⟨by rw [← h2.1]; exact h1, h2.2⟩
            · rintro ⟨h1, h2⟩
              refine ⟨(x, y), List.mem_filter.mpr ⟨h1, ?_⟩, rfl⟩
              rw [ebq]
              show (decide (x = x) && decide (valV kvs (.inl y) = some (.int (m1 : Int)))) = true
              rw [decide_eq_true rfl, decide_eq_true (show valV kvs (.inl y) = some (.int (m1 : Int)) from h2)]
              rfl
          obtain ⟨y0, hy0⟩ := d_next dst g.v
          walk_at "xs"
          refine ⟨L, _, rfl, SqL.of eL, List.length_pos_iff.mpr (List.ne_nil_of_mem ((cm y0).mpr hy0)), fun y hy hl => ?_⟩
          obtain ⟨y1, y2⟩ := (cm y).mp hy
          walk_at "xs"
          refine x_app eW6 (by rw [List.length_map, sizeLine_eq]; omega) ?_
          walk_at "xs"
          refine ⟨m1, by omega, _, pre ++ [y], y, rfl, (X5.trans (Ext.same S6)).trans (Ext.upd (by simp)), by rw [upd_same, List.map_append]; rfl, g.step dst y1 y2 fun z z1 z2 => hl z ((cm z).mpr ⟨z1, z2⟩)⟩
end
/-! ### all first ways, level by level: pure -/
def putM (fm : Int → Option (List Int)) (y : Int) (w : List Int) : Int → Option (List Int) := fun z => if z = y then some w else fm z
structure Lvl (ps : List (Int × Int)) (s : Int) (fm : Int → Option (List Int)) (n : Nat) (rows : List (List Int)) : Prop where
  best : ∀ x w, fm x = some w → Best ps s x w ∧ w.length ≤ n
  all : ∀ x w, Way ps s x w → w.length ≤ n → ∃ v, fm x = some v
  r1 : ∀ w ∈ rows, ∃ x, fm x = some w ∧ w.length = n
  r2 : ∀ x w, fm x = some w → w.length = n → w ∈ rows
structure Inn (ps : List (Int × Int)) (s : Int) (fm0 : Int → Option (List Int)) (n : Nat) (rs : List (List Int)) (fm : Int → Option (List Int)) (ws : List (List Int)) (i : Nat) : Prop where
  ext : ∀ x w, fm0 x = some w → fm x = some w
  new : ∀ x w, fm x = some w → fm0 x = some w ∨ (Best ps s x w ∧ w.length = n + 1 ∧ w ∈ ws)
  wsr : ∀ w ∈ ws, ∃ x, fm x = some w ∧ w.length = n + 1
  don : ∀ i', i' < i → ∀ r x y, rs[i']? = some r → r.getLast? = some x → (x, y) ∈ ps → ∃ v, fm y = some v
section
variable {ps : List (Int × Int)} {s : Int} {fm0 fm : Int → Option (List Int)} {n : Nat} {rows rs ws : List (List Int)}
theorem Lvl.start (s : Int) : Lvl ps s (putM (fun _ => none) s [s]) 1 [[s]] := by
  have e1 : ∀ x w, putM (fun _ => none) s [s] x = some w → x = s ∧ w = [s] := fun x w e => by
    unfold putM at e
    split at e
    · exact ⟨by assumption, (Option.some.inj e).symm⟩
    · cases e
  have e2 : putM (fun _ => none) s [s] s = some [s] := if_pos rfl
  refine ⟨fun x w e => ?_, fun x w a l => ?_, fun w h => ?_, fun x w e _ => ?_⟩
  · obtain ⟨rfl, rfl⟩ := e1 x w e
    refine ⟨⟨Way.self _, fun w' a => ?_⟩, Nat.le_refl _⟩
    have := a.pos
    refine ⟨this, fun e => ?_⟩
    rcases a.cases with ⟨rfl, _⟩ | ⟨v, y, rfl, b, _⟩
    · exact List.le_refl _
    · have := b.pos
      simp at e
      rw [e] at this
      cases this
  · rcases a.cases with ⟨_, rfl⟩ | ⟨v, y, rfl, b, _⟩
    · exact ⟨_, e2⟩
    · have := b.pos
      simp at l
      rw [l] at this
      cases this
  · rw [List.mem_singleton] at h
    subst h
    exact ⟨s, e2, rfl⟩
  · rw [(e1 x w e).2]; simp
theorem Inn.start : Inn ps s fm0 n rs fm0 [] 0 := ⟨fun _ _ h => h, fun _ _ h => .inl h, fun w h => (by cases h), fun i' h => absurd h (by omega)⟩
theorem Lvl.next0 (b : Lvl ps s fm0 n rows) {x y : Int} {w : List Int} (a : Way ps s x w) (l : w.length ≤ n) (e : (x, y) ∈ ps) (hy : ∀ v, fm0 y ≠ some v) : ∃ v, fm0 x = some v ∧ v ∈ rows ∧ v.length = n ∧ (w.length = n → v ≤ w) := by
  obtain ⟨v, hv⟩ := b.all x w a l
  obtain ⟨bv, lv⟩ := b.best x v hv
  by_cases c : v.length = n
  · exact ⟨v, hv, b.r2 x v hv c, c, fun lw => (bv.2 w a).2 (by omega)⟩
  · obtain ⟨u, hu⟩ := b.all y _ (bv.1.snoc e) (by rw [List.length_append, List.length_singleton]; omega)
    exact absurd hu (hy u)
theorem Inn.add {i : Nat} (b : Lvl ps s fm0 n rows) (mem : ∀ w, w ∈ rs ↔ w ∈ rows) (up : rs.Pairwise (· ≤ ·)) (g : Inn ps s fm0 n rs fm ws i) {r : List Int} {x y : Int} (hr : rs[i]? = some r) (hx : r.getLast? = some x) (e : (x, y) ∈ ps) (hy : fm y = none) :
    Inn ps s fm0 n rs (putM fm y (r ++ [y])) (ws ++ [r ++ [y]]) i := by
  have hi := (List.getElem?_eq_some_iff.mp hr).1
  have hy0 : ∀ v, fm0 y ≠ some v := fun v h => by rw [g.ext y v h] at hy; cases hy
  obtain ⟨x', hx', lr⟩ := b.r1 r ((mem r).mp (List.mem_of_getElem? hr))
  obtain ⟨br, _⟩ := b.best x' r hx'
  have ex : x' = x := by
    have h1 := br.1.l
    rw [hx] at h1
    exact (Option.some.inj h1).symm
  subst ex
  have wy := br.1.snoc e
  have ly : (r ++ [y]).length = n + 1 := by rw [List.length_append, List.length_singleton, lr]
  have bst : Best ps s y (r ++ [y]) := by
    refine ⟨wy, fun w' a => ?_⟩
    have ge : n + 1 ≤ w'.length := by
      by_cases c : w'.length ≤ n
      · obtain ⟨v, hv⟩ := b.all y w' a c
        exact absurd hv (hy0 v)
      · omega
    refine ⟨by omega, fun le => ?_⟩
    rcases a.cases with ⟨e1, e2⟩ | ⟨w2, x2, e1, a2, e2⟩
    · subst e2
      obtain ⟨v, hv⟩ := b.all _ _ (Way.self (ps := ps) y) (by have := br.1.pos; simp; omega)
      exact absurd hv (hy0 v)
    · subst e1
      have l2 : w2.length = n := by
        rw [ly, List.length_append, List.length_singleton] at le
        omega
      obtain ⟨v, hv, hm, lv, vle⟩ := b.next0 a2 (by omega) e2 hy0
      have vw := vle l2
      obtain ⟨k, hk, ek⟩ := List.getElem_of_mem ((mem v).mpr hm)
      have hk' : rs[k]? = some v := by rw [List.getElem?_eq_getElem hk, ek]
      obtain ⟨bv, _⟩ := b.best x2 v hv
      have rv : r ≤ v := by
        by_cases c1 : k < i
        · obtain ⟨u, hu⟩ := g.don k c1 v x2 y hk' bv.1.l e2
          rw [hy] at hu
          cases hu
        · by_cases c2 : k = i
          · subst c2
            rw [hr] at hk'
            rw [Option.some.inj hk']
            exact List.le_refl _
          · have := List.pairwise_iff_getElem.mp up i k hi hk (by omega)
            rw [ek] at this
            rw [List.getElem?_eq_getElem hi] at hr
            rw [Option.some.inj hr] at this
            exact this
      exact lex_app (List.le_trans rv vw) (by omega) fun _ => List.le_refl _
  have old : ∀ z w, fm z = some w → putM fm y (r ++ [y]) z = some w := fun z w h => by
    unfold putM
    rw [if_neg (fun c => by rw [c, hy] at h; cases h)]
    exact h
  refine ⟨fun z w h => old z w (g.ext z w h), fun z w h => ?_, fun w h => ?_, fun i' hi' r' x'' y' h1 h2 h3 => ?_⟩
  · unfold putM at h
    split at h
    · rename_i c
      subst c
      cases h
      exact .inr ⟨bst, ly, by simp⟩
    · rcases g.new z w h with h | ⟨h1, h2, h3⟩
      · exact .inl h
      · exact .inr ⟨h1, h2, by simp [h3]⟩
  · rcases List.mem_append.mp h with h | h
    · obtain ⟨z, h1, h2⟩ := g.wsr w h
      exact ⟨z, old z w h1, h2⟩
    · rw [List.mem_singleton] at h
      subst h
      exact ⟨y, if_pos rfl, ly⟩
  · obtain ⟨v, hv⟩ := g.don i' hi' r' x'' y' h1 h2 h3
    exact ⟨v, old _ _ hv⟩
theorem Lvl.next (b : Lvl ps s fm0 n rows) (n0 : 0 < n) (mem : ∀ w, w ∈ rs ↔ w ∈ rows) (g : Inn ps s fm0 n rs fm ws rs.length) : Lvl ps s fm (n + 1) ws := by
  refine ⟨fun x w h => ?_, fun x w a l => ?_, g.wsr, fun x w h l => ?_⟩
  · rcases g.new x w h with h | ⟨h1, h2, _⟩
    · obtain ⟨h1, h2⟩ := b.best x w h
      exact ⟨h1, by omega⟩
    · exact ⟨h1, by omega⟩
  · by_cases c : w.length ≤ n
    · obtain ⟨v, hv⟩ := b.all x w a c
      exact ⟨v, g.ext x v hv⟩
    · rcases a.cases with ⟨rfl, _⟩ | ⟨w2, x2, rfl, a2, e2⟩
      · exact absurd (show [s].length ≤ n from n0) c
      · rw [List.length_append, List.length_singleton] at l c
        by_cases hy : ∃ v, fm0 x = some v
        · obtain ⟨v, hv⟩ := hy
          exact ⟨v, g.ext x v hv⟩
        · obtain ⟨v, hv, hm, lv, _⟩ := b.next0 a2 (by omega) e2 (fun v h => hy ⟨v, h⟩)
          obtain ⟨k, hk, ek⟩ := List.getElem_of_mem ((mem v).mpr hm)
          obtain ⟨bv, _⟩ := b.best x2 v hv
          exact g.don k hk v x2 x (by rw [List.getElem?_eq_getElem hk, ek]) bv.1.l e2
  · rcases g.new x w h with h | ⟨_, _, h⟩
    · have := (b.best x w h).2
      omega
    · exact h
theorem Lvl.fin (b : Lvl ps s fm0 n []) (n0 : 0 < n) : ∀ (k : Nat) (x : Int) (w : List Int), w.length = k → Way ps s x w → ∃ v, fm0 x = some v
  | 0, x, w, l, a => by have := a.pos; omega
  | k + 1, x, w, l, a => by
    rcases a.cases with ⟨rfl, rfl⟩ | ⟨w2, x2, rfl, a2, e2⟩
    · exact b.all _ _ a n0
    · rw [List.length_append, List.length_singleton] at l
      obtain ⟨v, hv⟩ := Lvl.fin b n0 k x2 w2 (by omega) a2
      obtain ⟨bv, lv⟩ := b.best x2 v hv
      have : v.length ≠ n := fun c => absurd (b.r2 x2 v hv c) (by simp)
      exact b.all x _ (bv.1.snoc e2) (by rw [List.length_append, List.length_singleton]; omega)
end
/-! ### all first ways: the law's own search -/
def rowD' (w : List Int) : PyData := .list (w.map PyData.int)
def Fd (N : List Addr) (H : Hp) (kvs : List (Key × V)) (x : Int) (w : List Int) : Prop := ∃ l, l ∉ N ∧ valV kvs (.inl x) = some (.ref l) ∧ H l = some (.lst (w.map V.int))
def Agr (N : List Addr) (H : Hp) (kvs : List (Key × V)) (fm : Int → Option (List Int)) : Prop := ∀ x, (fm x = none → hasI kvs x = false) ∧ ∀ w, fm x = some w → Fd N H kvs x w
theorem Fd.has {N : List Addr} {H : Hp} {kvs : List (Key × V)} {x : Int} {w : List Int} (h : Fd N H kvs x w) : hasI kvs x = true := by
  obtain ⟨l, _, e, _⟩ := h
  unfold hasI; rw [e]; rfl
theorem Agr.ext {N : List Addr} {H H' : Hp} {kvs : List (Key × V)} {fm : Int → Option (List Int)} (a : Agr N H kvs fm) (X : Ext N H H') : Agr N H' kvs fm := fun x => ⟨(a x).1, fun w e => by
  obtain ⟨l, nl, e1, e2⟩ := (a x).2 w e
  exact ⟨l, nl, e1, X _ _ nl e2⟩⟩
theorem Agr.avoid {N N' : List Addr} {H : Hp} {kvs : List (Key × V)} {fm : Int → Option (List Int)} (a : Agr N H kvs fm) (h : ∀ l w, l ∉ N → H l = some (.lst w) → l ∉ N') : Agr N' H kvs fm := fun x => ⟨(a x).1, fun w e => by
  obtain ⟨l, nl, e1, e2⟩ := (a x).2 w e
  exact ⟨l, h l _ nl e2, e1, e2⟩⟩
theorem Agr.put {N : List Addr} {H : Hp} {kvs : List (Key × V)} {fm : Int → Option (List Int)} (a : Agr N H kvs fm) {y : Int} {l : Addr} {w : List Int} (nl : l ∉ N) (e : H l = some (.lst (w.map V.int))) : Agr N H (putK kvs (.inl y) (.ref l)) (putM fm y w) := fun x => by
  unfold putM
  by_cases c : x = y
  · subst c
    rw [if_pos rfl]
    refine ⟨fun h => (by cases h), fun v h => ?_⟩
    cases h
    exact ⟨l, nl, by rw [valV_put, if_pos rfl], e⟩
  · rw [if_neg c, has_put, decide_eq_false c, Bool.false_or]
    refine ⟨(a x).1, fun v h => ?_⟩
    obtain ⟨l2, n2, e1, e2⟩ := (a x).2 v h
    exact ⟨l2, n2, by rw [valV_put, if_neg (fun z => c (Sum.inl.inj z))]; exact e1, e2⟩
theorem Agr.new {N : List Addr} {H : Hp} {kvs : List (Key × V)} {fm : Int → Option (List Int)} (a : Agr N H kvs fm) {y : Int} (h : hasI kvs y = false) : fm y = none := by
  cases e : fm y with
  | none => rfl
  | some w => rw [((a y).2 w e).has] at h; cases h
theorem Agr.old {N : List Addr} {H : Hp} {kvs : List (Key × V)} {fm : Int → Option (List Int)} (a : Agr N H kvs fm) {y : Int} (h : hasI kvs y = true) : ∃ w, fm y = some w := by
  cases e : fm y with
  | none => rw [(a y).1 e] at h; cases h
  | some w => exact ⟨w, rfl⟩
theorem x_pairs1 {tk tv : TE} {σ : L2.St} {H : Hp} {Q : List (V × V) → Hp → Prop} (h : tk σ H fun x H1 => tv σ H1 fun y H2 => Q [(x, y)] H2) : tPairs [(tk, tv)] σ H Q := h
theorem rows_facts : ∀ rows : List (List Int), PyData.canLayAll0 (rows.map rowD') = true ∧ PyData.depthAll (rows.map rowD') ≤ 1
  | [] => ⟨rfl, by decide⟩
  | r :: rest => by
    obtain ⟨a, b⟩ := rows_facts rest
    obtain ⟨x, y, z⟩ := ints_facts r
    refine ⟨by simp [PyData.canLayAll0, rowD', PyData.canLay0, a, x], ?_⟩
    simp only [List.map_cons, PyData.depthAll, rowD', PyData.depth, y]
    omega
theorem shaped_rows (rows : List (List Int)) : SeqAt.shaped (.list (rows.map rowD')) = true := by
  obtain ⟨f1, f2⟩ := rows_facts rows
  have : PyData.depthAll (rows.map rowD') + 1 ≤ 64 := by omega
  simp [SeqAt.shaped, PyData.canLay0, f1, PyData.depth, this]
theorem rows_depth {rows : List (List Int)} : ∀ d ∈ rows.map rowD', d.depth ≤ 20 := fun d hd => by
  obtain ⟨r, _, rfl⟩ := List.mem_map.mp hd
  obtain ⟨x, y, z⟩ := ints_facts r
  simp only [rowD', PyData.depth, y]
  omega
theorem eqv_nil' {ds : List PyData} : PyData.eqv (.list ds) (.list []) = decide (ds = []) := by
  cases ds <;> simp [PyData.eqv, PyData.eqvAll]
/-- what the law's search tells -/
structure Fwy (ps : List (Int × Int)) (s : Int) (H : Hp) (kvs : List (Key × V)) : Prop where
  has : ∀ x, hasI kvs x = true → ∃ l w, valV kvs (.inl x) = some (.ref l) ∧ H l = some (.lst (w.map V.int)) ∧ w.length ≤ 10 ∧ Best ps s x w
  all : ∀ x w, Way ps s x w → hasI kvs x = true
def spFways : Sp := fun vs H Q _ => ∃ (M : List Addr) (p : Addr) (ps : List (Int × Int)) (s : Int), vs = [.ref p, .int s] ∧ Dn M H (.ref p) (.list (ps.map prD)) ∧ ps.length ≤ 1000 ∧ 0 ≤ s ∧ s < 10 ∧ (∀ q ∈ ps, 0 ≤ q.2 ∧ q.2 < 10) ∧
  ∀ H' d kvs, Same H H' → H d = none → H' d = some (.dK kvs) → Fwy ps s H' kvs → Q (.ref d) H'
section
variable {P : Program} {w : World} {K : PySem.W.Frag} {mg : Str → Option Value} {base : Heap} {t0 t1 t2 t3 t4 : Tok} {C : Addr}
theorem kn_fways {k : Nat} (D : Df K mg "_law_first_ways" s_Lfirst_ways) (B : Bl mg) : Kn P w K mg base "_law_first_ways" (k + 1) spFways := by
  refine kn_of D (fun _ _ _ _ _ _ us hl => match us, hl with | [_, _], _ => rfl) sc_Lfirst_ways (fun vs H Q E h => by obtain ⟨M, p, ps, s, rfl, _⟩ := h; rfl) (fun f cd B' fr z H vs Q E hr gd h => ?_)
  obtain ⟨M, p, ps, s, rfl, dp, lp, s0, s1, rng, q⟩ := h
  refine ⟨_, (pss_cons (ps_par (i := 2) (j := 3) (by rfl) sc_Lfirst_ways.nd rfl rfl (by decide) rfl rfl (pa_cons (pe_disp (pps_cons (pv 1) (pe_lst (pa_cons (pv 1) pa_nil)) pps_nil) rfl rfl (by simp) (by decide)) (pa_cons (pe_lst (pa_cons (pe_lst (pa_cons (pv 1) pa_nil)) pa_nil)) pa_nil)) (by rfl))
  (pss_cons (ps_while PassesOwn.never (pt_cmpR (op_neD hr.units) (pv 3) (pe_lst pa_nil) (nomark _)) (pss_cons (ps_set (i := 4) sc_Lfirst_ways.nd rfl (.inl rfl) (pe_lst pa_nil))
  (pss_cons (ps_for PassesOwn.never rfl (pi_list (pe_callB (cr_sortedD hr.units) (by rfl) B.sorted (by decide +kernel) (pa_cons (pv 3) pa_nil))) (pg_name (i := 5) sc_Lfirst_ways.nd rfl (.inl rfl))
  (pss_one (ps_for PassesOwn.never rfl (pi_list (pv 0)) (pg_tup (by rfl) (pgs_cons (pg_name (i := 6) sc_Lfirst_ways.nd rfl (.inl rfl)) (pgs_cons (pg_name (i := 7) sc_Lfirst_ways.nd rfl (.inl rfl)) pgs_nil)))
  (pss_one (ps_if (PW.pt (pw_and (pt_cmpR op_eq (pv 6) (pe_ix (r := rIxL K) ix_list (pv 5) (pe_un un_neg pe_int) (fun _ _ => rfl)) (nomark _)) (pw_and1 (pt_cmp (pc_dnotin (units1 (by exact hr.units)) (pv 7) (pv 2)) (by rfl))))) (pss_cons (ps_asg (pe_op op_cat (pv 5) (pe_lst (pa_cons (pv 7) pa_nil))) (pg_sub (pv 2) (pv 7) (set_dict (units1 hr.units))))
  (pss_one (ps_expr (pe_bm PySem.F.plainAttrs_list PySem.F.slot_list_append PySem.F.type_list_append mt_append (pv 4) (pa_cons (pe_op op_cat (pv 5) (pe_lst (pa_cons (pv 7) pa_nil))) pa_nil))))) pss_nil)))))
  (pss_one (ps_set (i := 3) sc_Lfirst_ways.nd rfl (.inl rfl) (pv 4))))))
  (pss_one (ps_ret (pv 2))))), ?_⟩
  obtain ⟨xs, ep, A⟩ : ∃ xs, H p = some (.lst xs) ∧ DnAll M H xs (ps.map prD) := by
    cases dp with
    | lst e _ A => exact ⟨_, e, A⟩
  have lx := A.length
  rw [List.length_map] at lx
  walk_at "xs"
  intro Dd hDd
  have S1 := same_upd hDd (o := .dK [])
  have eD := upd_same (H := H) (a := Dd) (o := .dK [])
  generalize upd H Dd _ = H1 at *
  refine x_pairs1 ?_
  walk_at "xs"
  intro l0 hl0
  have lD : l0 ≠ Dd := (ne_of_none eD hl0).symm
  have S2 := same_upd hl0 (o := .lst [.int s])
  have el0 := upd_same (H := H1) (a := l0) (o := .lst [.int s])
  have eD := S2 _ _ eD
  generalize upd H1 l0 _ = H2 at *
  refine ⟨eD, [(.inl s, .ref l0)], rfl, by simp, ?_⟩
  have mk : mergeK [] [(Sum.inl s, V.ref l0)] = putK [] (.inl s) (.ref l0) := rfl
  rw [mk]
  have S3 : Same H (upd H2 Dd (.dK (putK [] (.inl s) (.ref l0)))) := fun z o e => by rw [upd_ne (ne_of_none e hDd)]; exact S2 _ _ (S1 _ _ e)
  have eD3 := upd_same (H := H2) (a := Dd) (o := .dK (putK [] (.inl s) (.ref l0)))
  have el03 : (upd H2 Dd (.dK (putK [] (.inl s) (.ref l0)))) l0 = some (.lst [.int s]) := by rw [upd_ne lD]; exact el0
  generalize upd H2 Dd _ = H3 at *
  walk_at "xs"
  intro l1 hl1
  have nl1D : l1 ≠ Dd := (ne_of_none eD3 hl1).symm
  have S4 := same_upd hl1 (o := .lst [.int s])
  have el1 := upd_same (H := H3) (a := l1) (o := .lst [.int s])
  have eD3 := S4 _ _ eD3
  have el03 := S4 _ _ el03
  generalize upd H3 l1 _ = H4 at *
  walk_at "xs"
  intro Lv hLv
  have S5 := same_upd hLv (o := .lst [.ref l1])
  have eL := upd_same (H := H4) (a := Lv) (o := .lst [.ref l1])
  have eD5 := S5 _ _ eD3
  have nl0 : l0 ≠ Lv := ne_of_none el03 hLv
  have nl1 : l1 ≠ Lv := ne_of_none el1 hLv
  have el05 := S5 _ _ el03
  have el15 := S5 _ _ el1
  generalize upd H4 Lv _ = H5 at *
  have S15 := S3.trans (S4.trans S5)
  have c10 := cnt_le ([] : List (Key × V)) (List.range 10)
  rw [List.length_range] at c10
  have cp := cnt_put ([] : List (Key × V)) s (.ref l0) rfl _ (in_ten s0 s1)
  walk_at "xs"
  refine x_while ⟨fun m σ' H' => ∃ (y4 y5 y6 y7 : Option V) (Lv : Addr) (kvs : List (Key × V)) (lvs : List V) (fm : Int → Option (List Int)) (n : Nat) (rows : List (List Int)), σ' = [some (.ref p), some (.int s), some (.ref Dd), some (.ref Lv), y4, y5, y6, y7] ∧ Same H H' ∧ H' Dd = some (.dK kvs) ∧ H' Lv = some (.lst lvs) ∧ DnAll [Dd, Lv] H' lvs (rows.map rowD') ∧ Agr [Dd, Lv] H' kvs fm ∧ Lvl ps s fm n rows ∧ 0 < n ∧
    kvs.length + cntI kvs (List.range 10) ≤ 11 ∧ (∀ x w, fm x = some w → w.length + cntI kvs (List.range 10) ≤ 10) ∧ m = 2 * cntI kvs (List.range 10) + (if rows = [] then 0 else 1), ?_, ?_⟩
  · refine ⟨_, _, _, _, _, Lv, _, _, putM (fun _ => none) s [s], 1, [[s]], rfl, S15, eD5, eL, .cons (.lst el15 (by simp; exact ⟨nl1D, nl1⟩) (DnAll.ints [s])) .nil, ?_, Lvl.start s, by decide, ?_, ?_, rfl⟩
    · exact Agr.put (fun x => ⟨fun _ => rfl, fun w e => (by cases e)⟩) (by simp; exact ⟨lD, nl0⟩) el05
    · show 1 + _ ≤ 11
      omega
    · intro x w e
      unfold putM at e
      split at e
      · cases e
        show 1 + _ ≤ 10
        omega
      · cases e
  · rintro m _ H6 ⟨y4, y5, y6, y7, Lv, kvs, lvs, fm, n, rows, rfl, S, eD, eL, AL, ag, lv, n0, kb, wb, rfl⟩
    walk_at "xs"
    intro ne0 hne0
    have S7 := same_upd hne0 (o := .lst [])
    have ene := upd_same (H := H6) (a := ne0) (o := .lst [])
    have eD7 := S7 _ _ eD
    have eL7 := S7 _ _ eL
    have AL7 := AL.ext (Ext.same S7)
    have ag7 := ag.ext (Ext.same S7)
    have S07 := S.trans S7
    generalize upd H6 ne0 _ = H7 at *
    refine x_neDn (M := []) (N := []) (.lst eL7 (by simp) (AL7.sub (by simp))) (.lst ene (by simp) .nil) (shaped_rows rows) rfl ?_
    rw [eqv_nil']
    refine ⟨_, rfl, ?_⟩
    by_cases c : rows = []
    · subst c
      rw [if_neg (by simp)]
      walk_at "xs"
      refine q _ Dd kvs S07 hDd eD7 ⟨fun x h => ?_, fun x w a => ?_⟩
      · obtain ⟨w, e⟩ := ag7.old h
        obtain ⟨l, _, h1, h2⟩ := (ag7 x).2 w e
        have := wb x w e
        exact ⟨l, w, h1, h2, by omega, (lv.best x w e).1⟩
      · obtain ⟨v, e⟩ := lv.fin n0 w.length x w rfl a
        exact ((ag7 x).2 v e).has
    · rw [if_pos (by simp [c])]
      have rn : rows.map rowD' ≠ [] := by simpa using c
      refine ⟨_, fun _ _ h => h, ?_⟩
      walk_at "xs"
      intro Wd hWd
      have nWD : Wd ≠ Dd := (ne_of_none eD7 hWd).symm
      have nWL : Wd ≠ Lv := (ne_of_none eL7 hWd).symm
      have hW0 : H Wd = none := S07.free hWd
      have AL7' : DnAll [Dd, Wd] H7 lvs (rows.map rowD') := AL7.avoid fun a o na e => by
        simp only [List.mem_cons, List.not_mem_nil, or_false, not_or] at na ⊢
        exact ⟨na.1, ne_of_none e hWd⟩
      have ag7' : Agr [Dd, Wd] H7 kvs fm := ag7.avoid fun l w nl e => by
        simp only [List.mem_cons, List.not_mem_nil, or_false, not_or] at nl ⊢
        exact ⟨nl.1, ne_of_none e hWd⟩
      have S8 := same_upd hWd (o := .lst [])
      have eW := upd_same (H := H7) (a := Wd) (o := .lst [])
      have eD8 := S8 _ _ eD7
      have eL8 := S8 _ _ eL7
      have AL8 := AL7'.ext (Ext.same S8)
      have ag8 := ag7'.ext (Ext.same S8)
      have S08 := S07.trans S8
      generalize upd H7 Wd _ = H8 at *
      walk_at "xs"
      refine x_srtDM (M := [Dd, Wd]) (by
        intro m hm
        simp only [List.mem_cons, List.not_mem_nil, or_false] at hm
        rcases hm with rfl | rfl
        · exact ⟨_, eD8⟩
        · exact ⟨_, eW⟩) eL8 AL8 (rows_alike fun w hw => by
          obtain ⟨x, e, l⟩ := lv.r1 w hw
          intro z
          rw [z] at l
          simp at l
          omega) (rows_sortable rows) rows_depth ?_
      intro H9 Ls S9 nLs dLs
      rw [show (rows.map rowD').mergeSort (PySem.W.dataLe false id) = _ from rows_sort rows] at dLs
      have up := rows_up rows
      have pm := List.mergeSort_perm rows (fun a b : List Int => decide (a ≤ b))
      generalize (rows.mergeSort fun a b => decide (a ≤ b)) = rs at *
      have mem : ∀ w, w ∈ rs ↔ w ∈ rows := fun w => pm.mem_iff
      cases dLs with
      | @lst _ ys _ eLs nLs2 AR =>
      have lAR := AR.length
      rw [List.length_map] at lAR
      have eD9 := S9 _ _ eD8
      have eW9 := S9 _ _ eW
      have ag9 := ag8.ext (Ext.same S9)
      have S09 := S08.trans S9
      walk_at "xs"
      refine for_list (K := K) (a := Ls) (xs := ys) (fun i σ' H' => ∃ (y5 y6 y7 : Option V) (kvs2 : List (Key × V)) (fm2 : Int → Option (List Int)) (ws : List (List Int)) (wvs : List V), σ' = [some (.ref p), some (.int s), some (.ref Dd), some (.ref Lv), some (.ref Wd), y5, y6, y7] ∧ Ext [Dd, Wd] H9 H' ∧ H' Dd = some (.dK kvs2) ∧ H' Wd = some (.lst wvs) ∧ DnAll [Dd, Wd] H' wvs (ws.map rowD') ∧ Agr [Dd, Wd] H' kvs2 fm2 ∧ Inn ps s fm n rs fm2 ws i ∧
        kvs2.length + cntI kvs2 (List.range 10) ≤ 11 ∧ (∀ x w, fm2 x = some w → w.length + cntI kvs2 (List.range 10) ≤ 10) ∧ ws.length + cntI kvs2 (List.range 10) ≤ cntI kvs (List.range 10)) ?_ ?_ ?_ ?_
      · exact ⟨_, _, _, kvs, fm, [], [], rfl, Ext.refl _ _, eD9, eW9, .nil, ag9, .start, kb, wb, by simp⟩
      · rintro i _ H' _ ⟨_, _, _, _, _, _, _, _, X, _⟩
        exact SqL.of (X _ _ (by simpa using nLs2) eLs)
      · rintro i v _ H10 hv ⟨y5, y6, y7, kvs2, fm2, ws, wvs, rfl, X, eD10, eW10, AW, ag2, g, kb2, wb2, cb2⟩
        have hi := (List.getElem?_eq_some_iff.mp hv).1
        obtain ⟨dR, hdR, dnR⟩ := (AR.ext X).get hv
        rw [List.getElem?_map] at hdR
        cases hr0 : rs[i]? with
        | none => rw [hr0] at hdR; cases hdR
        | some r =>
        rw [hr0] at hdR
        cases hdR
        cases dnR with
        | @lst ra zs _ era nra AZ =>
        obtain rfl := DnAll.toInts (ms := r) AZ
        have era : H10 ra = some (.lst (r.map V.int)) := era
        have S10 : Same H H10 := fun z o e => X _ _ (by simp; exact ⟨ne_of_none e hDd, ne_of_none e hW0⟩) (S09 _ _ e)
        have ep10 := S10 _ _ ep
        obtain ⟨xr, hxr, lr⟩ := lv.r1 r ((mem r).mp (List.mem_of_getElem? hr0))
        have br := (lv.best xr r hxr).1
        have gl := atI_getLast (xs := r.map V.int) (v := .int xr) (by rw [List.getLast?_map, br.1.l]; rfl)
        have wr := wb2 xr r (g.ext xr r hxr)
        walk_at "xs"
        refine for_list (K := K) (a := p) (xs := xs) (fun j σ' H' => ∃ (y6 y7 : Option V) (kvs2 : List (Key × V)) (fm2 : Int → Option (List Int)) (ws : List (List Int)) (wvs : List V), σ' = [some (.ref p), some (.int s), some (.ref Dd), some (.ref Lv), some (.ref Wd), some (.ref ra), y6, y7] ∧ Ext [Dd, Wd] H9 H' ∧ H' ra = some (.lst (r.map V.int)) ∧ H' Dd = some (.dK kvs2) ∧ H' Wd = some (.lst wvs) ∧ DnAll [Dd, Wd] H' wvs (ws.map rowD') ∧ Agr [Dd, Wd] H' kvs2 fm2 ∧ Inn ps s fm n rs fm2 ws i ∧
          (∀ t' y, t' < j → ps[t']? = some (xr, y) → ∃ v, fm2 y = some v) ∧ kvs2.length + cntI kvs2 (List.range 10) ≤ 11 ∧ (∀ x w, fm2 x = some w → w.length + cntI kvs2 (List.range 10) ≤ 10) ∧ ws.length + cntI kvs2 (List.range 10) ≤ cntI kvs (List.range 10)) ?_ ?_ ?_ ?_
        · exact ⟨_, _, kvs2, fm2, ws, wvs, rfl, X, era, eD10, eW10, AW, ag2, g, fun t' y h => absurd h (by omega), kb2, wb2, cb2⟩
        · rintro j _ H' _ ⟨_, _, _, _, _, _, _, X', _⟩
          have S' : Same H H' := fun z o e => X' _ _ (by simp; exact ⟨ne_of_none e hDd, ne_of_none e hW0⟩) (S09 _ _ e)
          exact SqL.of (S' _ _ ep)
        · rintro j v _ H11 hv ⟨y6, y7, kvs2, fm2, ws, wvs, rfl, X, era, eD10, eW10, AW, ag2, g, cur, kb2, wb2, cb2⟩
          have S11 : Same H H11 := fun z o e => X _ _ (by simp; exact ⟨ne_of_none e hDd, ne_of_none e hW0⟩) (S09 _ _ e)
          obtain ⟨dP, hdP, dnP⟩ := (A.ext (Ext.same S11)).get hv
          rw [List.getElem?_map] at hdP
          cases hpr : ps[j]? with
          | none => rw [hpr] at hdP; cases hdP
          | some pr =>
          rw [hpr] at hdP
          cases hdP
          obtain ⟨r2, rfl, _, hr5⟩ := dnP.pair
          have pin := List.mem_of_getElem? hpr
          have rg := rng pr pin
          have skip : (pr.1 = xr → ∃ v, fm2 pr.2 = some v) → ∀ t' y, t' < j + 1 → ps[t']? = some (xr, y) → ∃ v, fm2 y = some v := fun hs t' y ht e => by
            by_cases c2 : t' = j
            · subst c2
              rw [hpr] at e
              have e : pr = (xr, y) := Option.some.inj e
              subst e
              exact hs rfl
            · exact cur t' y (by omega) e
          walk_at "xs"
          refine x_ixL (SqL.of era) gl ?_
          walk_at "xs"
          refine x_ite (fun h1 => ?_) (fun h1 => ?_)
          · walk_at "xs"
            refine ⟨Dd, _, rfl, DGet.k (k := .inl pr.2) eD10, ?_⟩
            walk_at "xs"
            refine x_iteNB (fun h2 => ?_) (fun h2 => ?_)
            · have h2 : hasI kvs2 pr.2 = false := h2
              have wr2 := wb2 xr r (g.ext xr r hxr)
              have em : r.map V.int ++ [V.int pr.2] = (r ++ [pr.2]).map V.int := by rw [List.map_append]; rfl
              have lrm : (r.map V.int).length + [V.int pr.2].length ≤ sizeLine := by rw [List.length_map, List.length_singleton, sizeLine_eq]; omega
              have g2 := g.add lv mem up hr0 br.1.l (by rw [← h1]; exact pin) (ag2.new h2)
              walk_at "xs"
              intro t1 ht1
              have T1 := same_upd ht1 (o := .lst [.int pr.2])
              have et1 := upd_same (H := H11) (a := t1) (o := .lst [.int pr.2])
              have era1 := T1 _ _ era
              have eD1 := T1 _ _ eD10
              have eW1 := T1 _ _ eW10
              have AW1 := AW.ext (Ext.same T1)
              have ag1 := ag2.ext (Ext.same T1)
              have X1 := X.trans (Ext.same T1)
              generalize upd H11 t1 _ = H12 at *
              refine x_cat era1 et1 lrm ?_
              intro t2 ht2
              have t2D : t2 ≠ Dd := (ne_of_none eD1 ht2).symm
              have t2W : t2 ≠ Wd := (ne_of_none eW1 ht2).symm
              rw [em]
              have T2 := same_upd ht2 (o := .lst ((r ++ [pr.2]).map V.int))
              have et2 := upd_same (H := H12) (a := t2) (o := .lst ((r ++ [pr.2]).map V.int))
              have era2 := T2 _ _ era1
              have eD2 := T2 _ _ eD1
              have eW2 := T2 _ _ eW1
              have AW2 := AW1.ext (Ext.same T2)
              have ag2' := ag1.ext (Ext.same T2)
              have X2 := X1.trans (Ext.same T2)
              generalize upd H12 t2 _ = H13 at *
              walk_at "xs"
              refine ⟨Dd, _, rfl, DPut.k (k := .inl pr.2) eD2 (by rw [sizeLine_eq]; omega), ?_⟩
              have X3 : Ext [Dd, Wd] H13 (upd H13 Dd (.dK (putK kvs2 (.inl pr.2) (.ref t2)))) := Ext.upd (by simp)
              have era3 := X3 _ _ nra era2
              have eD3' := upd_same (H := H13) (a := Dd) (o := .dK (putK kvs2 (.inl pr.2) (.ref t2)))
              have eW3 : (upd H13 Dd (.dK (putK kvs2 (.inl pr.2) (.ref t2)))) Wd = some (.lst wvs) := by rw [upd_ne nWD]; exact eW2
              have AW3 := AW2.ext X3
              have ag3 := (ag2'.put (y := pr.2) (l := t2) (w := r ++ [pr.2]) (by simp; exact ⟨t2D, t2W⟩) et2).ext X3
              have X3' := X2.trans X3
              have cp2 := cnt_put kvs2 pr.2 (.ref t2) h2 _ (in_ten rg.1 rg.2)
              have lp2 := length_putK kvs2 (Sum.inl pr.2) (V.ref t2)
              generalize upd H13 Dd _ = H14 at *
              walk_at "xs"
              intro t3 ht3
              have T4 := same_upd ht3 (o := .lst [.int pr.2])
              have et3 := upd_same (H := H14) (a := t3) (o := .lst [.int pr.2])
              have era4 := T4 _ _ era3
              have eD4 := T4 _ _ eD3'
              have eW4 := T4 _ _ eW3
              have AW4 := AW3.ext (Ext.same T4)
              have ag4 := ag3.ext (Ext.same T4)
              have X4 := X3'.trans (Ext.same T4)
              generalize upd H14 t3 _ = H15 at *
              refine x_cat era4 et3 lrm ?_
              intro t4 ht4
              have t4D : t4 ≠ Dd := (ne_of_none eD4 ht4).symm
              have t4W : t4 ≠ Wd := (ne_of_none eW4 ht4).symm
              rw [em]
              have T5 := same_upd ht4 (o := .lst ((r ++ [pr.2]).map V.int))
              have et4 := upd_same (H := H15) (a := t4) (o := .lst ((r ++ [pr.2]).map V.int))
              have era5 := T5 _ _ era4
              have eD5' := T5 _ _ eD4
              have eW5 := T5 _ _ eW4
              have AW5 := AW4.ext (Ext.same T5)
              have ag5 := ag4.ext (Ext.same T5)
              have X5 := X4.trans (Ext.same T5)
              generalize upd H15 t4 _ = H16 at *
              have lws := AW5.length
              rw [List.length_map] at lws
              walk_at "xs"
              refine x_app eW5 (by rw [sizeLine_eq]; omega) ?_
              have X6 : Ext [Dd, Wd] H16 (upd H16 Wd (.lst (wvs ++ [.ref t4]))) := Ext.upd (by simp)
              walk_at "xs"
              refine ⟨_, _, _, _, ws ++ [r ++ [pr.2]], _, rfl, X5.trans X6, X6 _ _ nra era5, by rw [upd_ne nWD.symm]; exact eD5', upd_same, ?_, ag5.ext X6, g2, ?_, by omega, fun x w e => ?_, ?_⟩
              · rw [List.map_append]
                exact DnAll.app (AW5.ext X6) (.cons (.lst (X6 _ _ (by simp; exact ⟨t4D, t4W⟩) et4) (by simp; exact ⟨t4D, t4W⟩) (DnAll.ints _)) .nil)
              · intro t' y ht e
                by_cases c2 : t' = j
                · subst c2
                  rw [hpr] at e
                  have e : pr = (xr, y) := Option.some.inj e
                  subst e
                  exact ⟨_, if_pos rfl⟩
                · obtain ⟨v, hv⟩ := cur t' y (by omega) e
                  unfold putM
                  by_cases c3 : y = pr.2
                  · rw [if_pos c3]; exact ⟨_, rfl⟩
                  · rw [if_neg c3]; exact ⟨v, hv⟩
              · unfold putM at e
                split at e
                · cases e
                  rw [List.length_append, List.length_singleton]
                  omega
                · have := wb2 x w e
                  omega
              · rw [List.length_append, List.length_singleton]
                omega
            · have h2 : hasI kvs2 pr.2 = true := h2
              walk_at "xs"
              exact ⟨_, _, kvs2, fm2, ws, wvs, rfl, X, era, eD10, eW10, AW, ag2, g, skip (fun _ => ag2.old h2), kb2, wb2, cb2⟩
          · walk_at "xs"
            exact ⟨_, _, kvs2, fm2, ws, wvs, rfl, X, era, eD10, eW10, AW, ag2, g, skip (fun h => absurd h h1), kb2, wb2, cb2⟩
        · rintro _ H11 ⟨y6, y7, kvs2, fm2, ws, wvs, rfl, X, era, eD10, eW10, AW, ag2, g, cur, kb2, wb2, cb2⟩
          refine ⟨_, _, _, kvs2, fm2, ws, wvs, rfl, X, eD10, eW10, AW, ag2, ⟨g.ext, g.new, g.wsr, fun i' hi' r' x' y' h1 h2 h3 => ?_⟩, kb2, wb2, cb2⟩
          by_cases c2 : i' = i
          · subst c2
            rw [hr0] at h1
            cases h1
            rw [br.1.l] at h2
            cases h2
            obtain ⟨t', lt, ht⟩ := List.getElem_of_mem h3
            exact cur t' y' (by omega) (by rw [List.getElem?_eq_getElem lt, ht])
          · exact g.don i' (by omega) r' x' y' h1 h2 h3
      · rintro _ H10 ⟨y5, y6, y7, kvs2, fm2, ws, wvs, rfl, X, eD10, eW10, AW, ag2, g, kb2, wb2, cb2⟩
        rw [lAR] at g
        have lw := lv.next n0 mem g
        have S10 : Same H H10 := fun z o e => X _ _ (by simp; exact ⟨ne_of_none e hDd, ne_of_none e hW0⟩) (S09 _ _ e)
        walk_at "xs"
        refine ⟨2 * cntI kvs2 (List.range 10) + (if ws = [] then 0 else 1), ?_, _, _, _, _, Wd, kvs2, wvs, fm2, n + 1, ws, rfl, S10, eD10, eW10, AW, ag2, lw, by omega, kb2, wb2, rfl⟩
        rw [if_neg c]
        split
        · omega
        · have : 0 < ws.length := List.length_pos_iff.mpr (by assumption)
          omega
end
/-! ### free brokers by the law; what is low -/
def spFreeW : Sp := fun vs H Q _ => ∃ (M : List Addr) (T : Addr) (ds rs : List PyData) (ls : List Int), vs = [.ref T] ∧ WdAt M H T ds rs ls ∧ Wd ds rs ls ∧ ∀ H' f, Same H H' → H f = none → H' f = some (.lst ((cI (lsL ds)).map V.int)) → Q (.ref f) H'
theorem inV_int (x : Int) (ms : List Int) : inV (.int x) (ms.map V.int) = decide (x ∈ ms) := by
  induction ms with
  | nil => rfl
  | cons a r ih =>
    have ih : (r.map V.int).any (fun y => eqV y (.int x)) = decide (x ∈ r) := ih
    show ((a == x) || (r.map V.int).any (fun y => eqV y (.int x))) = _
    rw [ih]
    by_cases h : a = x
    · subst h; simp
    · have h' : ¬ x = a := fun e => h e.symm
      simp [h, h']
theorem flat_ints (ms : List Int) : (ms.map V.int).all flatV = true := by
  rw [List.all_eq_true]
  intro v hv
  obtain ⟨m, _, rfl⟩ := List.mem_map.mp hv
  rfl
theorem x_inI {K : PySem.W.Frag} {H : Hp} {Q : VK} {x : Int} {p : Addr} {ms : List Int} (hp : H p = some (.lst (ms.map V.int))) (h : Q (.bl (decide (x ∈ ms))) H) : rIn K false (.int x) (.ref p) H Q :=
  ⟨p, _, rfl, .inl (SqL.of hp), rfl, flat_ints ms, by rw [if_neg Bool.false_ne_true, inV_int]; exact h⟩
theorem x_notInI {K : PySem.W.Frag} {H : Hp} {Q : VK} {x : Int} {p : Addr} {ms : List Int} (hp : H p = some (.lst (ms.map V.int))) (h : Q (.bl (!decide (x ∈ ms))) H) : rIn K true (.int x) (.ref p) H Q :=
  ⟨p, _, rfl, .inl (SqL.of hp), rfl, flat_ints ms, by rw [if_pos rfl, inV_int]; exact h⟩
/-- nothing of it is there at first, and nothing leads into it from outside -/
def LowG (ps : List (Int × Int)) (st ms : List Int) : Prop := (∀ x ∈ ms, x ∉ st) ∧ ∀ p ∈ ps, p.2 ∈ ms → p.1 ∈ ms
def spIsLow (hi : Bool) : Sp := fun vs H Q _ => ∃ (M : List Addr) (T m : Addr) (ds rs : List PyData) (ls ms : List Int), vs = [.ref T, .ref m] ∧ WdAt M H T ds rs ls ∧ Wd ds rs ls ∧ H m = some (.lst (ms.map V.int)) ∧
  ∀ H' b, Same H H' → (b = true ↔ LowG (if hi = true then swP (arcsOf ds rs ls ls.length) else arcsOf ds rs ls ls.length) (if hi = true then dnL ds (ldOf ds.length rs ls ls.length) else upL ds (ldOf ds.length rs ls ls.length)) ms) → Q (.bl b) H'
theorem filt_none {α : Type} {p : α → Bool} {l : List α} : l.filter p = [] ↔ ∀ x ∈ l, p x = false := by
  rw [List.filter_eq_nil_iff]
  constructor
  · intro h x hx
    have := h x hx
    cases e : p x
    · rfl
    · exact absurd e this
  · intro h x hx e
    rw [h x hx] at e; cases e
theorem low_iff {ps qs : List (Int × Int)} {st ms : List Int} (pm : qs.Perm ps) : ((st.filter fun x => decide (x ∈ ms)) = [] ∧ (qs.filter fun p => !decide (p.1 ∈ ms) && decide (p.2 ∈ ms)) = []) ↔ LowG ps st ms := by
  rw [filt_none, filt_none]
  constructor
  · rintro ⟨h1, h2⟩
    refine ⟨fun x hx hs => ?_, fun p hp h => ?_⟩
    · have := h1 x hs
      simp [hx] at this
    · have := h2 p (pm.mem_iff.mpr hp)
      by_cases e : p.1 ∈ ms
      · exact e
      · simp [e, h] at this
  · rintro ⟨h1, h2⟩
    refine ⟨fun x hx => ?_, fun p hp => ?_⟩
    · exact decide_eq_false fun h => h1 x h hx
    · by_cases e : p.2 ∈ ms
      · simp [h2 p (pm.mem_iff.mp hp) e]
      · simp [e]
theorem high_iff {ps qs : List (Int × Int)} {st ms : List Int} (pm : qs.Perm ps) : ((st.filter fun x => decide (x ∈ ms)) = [] ∧ (qs.filter fun p => decide (p.1 ∈ ms) && !decide (p.2 ∈ ms)) = []) ↔ LowG (swP ps) st ms := by
  rw [filt_none, filt_none]
  constructor
  · rintro ⟨h1, h2⟩
    refine ⟨fun x hx hs => ?_, fun p hp h => ?_⟩
    · have := h1 x hs
      simp [hx] at this
    · obtain ⟨p0, hp0, rfl⟩ := List.mem_map.mp hp
      have := h2 p0 (pm.mem_iff.mpr hp0)
      by_cases e : p0.2 ∈ ms
      · exact e
      · simp [e, show p0.1 ∈ ms from h] at this
  · rintro ⟨h1, h2⟩
    refine ⟨fun x hx => ?_, fun p hp => ?_⟩
    · exact decide_eq_false fun h => h1 x h hx
    · by_cases e : p.1 ∈ ms
      · have := h2 (p.2, p.1) (List.mem_map.mpr ⟨p, pm.mem_iff.mp hp, rfl⟩) e
        simp [show p.2 ∈ ms from this]
      · simp [e]
section
variable {P : Program} {w : World} {K : PySem.W.Frag} {mg : Str → Option Value} {base : Heap} {t0 t1 t2 t3 t4 : Tok} {C : Addr}
theorem kn_freeW {k : Nat} (D : Df K mg "_law_free" s_Lfree) (B : Bl mg) : Kn P w K mg base "_law_free" (k + 1) spFreeW := by
  refine kn_of D (fun _ _ _ _ _ _ us hl => match us, hl with | [_], _ => rfl) sc_Lfree (fun vs H Q E h => by obtain ⟨M, T, ds, rs, ls, rfl, _⟩ := h; rfl) (fun f cd B' fr z H vs Q E hr gd h => ?_)
  obtain ⟨M, T, ds, rs, ls, rfl, wa, wd, q⟩ := h
  refine ⟨_, (pss_one (ps_ret (pe_lc (own := [("_law_broker", 1)]) rfl sc_Lfree.nd (pi_range1 (by rfl) B.range (pa_cons (pe_callB call_len_seq (by rfl) B.len (by decide +kernel) (pa_cons (pe_ix (r := rIxT K) ix_tup (pv 0) pe_int (fun _ _ => rfl)) pa_nil)) pa_nil)) (blkOk_by (N := ["_law_world_here", "_law_broker"]) (sc := defScope s_Lfree) (by decide +kernel)) (fun _ _ _ _ _ => (pg_name (i := 1) sc_Lfree.nd rfl (.inl rfl))) (fun _ _ _ _ _ => (pts_one (pt_cmpR op_lt (pe_ix (r := rIxT K) ix_tup (pe_ix (r := rIxL K) ix_list (pe_ix (r := rIxT K) ix_tup (pv 0) pe_int (fun _ _ => rfl)) (pv 1) (fun _ _ => rfl)) pe_int (fun _ _ => rfl)) (pe_ix (r := rIxT K) ix_tup (pe_ix (r := rIxL K) ix_list (pe_ix (r := rIxT K) ix_tup (pv 0) pe_int (fun _ _ => rfl)) (pv 1) (fun _ _ => rfl)) pe_int (fun _ _ => rfl)) (nomark _)))) (fun _ _ _ _ _ => (pv 1))))), ?_⟩
  have n10 := bounds_len wd.b1
  obtain ⟨f1, f2, f3, eT, nT, d1, d2, n3, e3⟩ := wa.ex
  cases d1 with
  | @lst _ xs1 _ e1 m1 A1 =>
  have l1 := A1.length
  walk_at "xs"
  intro L hL
  rw [l1, Int.toNat_natCast]
  refine lc_range (lo := 0) (n := ds.length) (fun i H' => Same H H' ∧ H' L = some (.lst ((cI ((List.range i).filter (lsB ds))).map V.int))) ?_ ?_ ?_
  · exact ⟨same_upd hL, upd_same⟩
  · rintro i H' hi ⟨S, eL⟩
    have eT := S _ _ eT
    have e1' := S _ _ e1
    obtain ⟨r, lo, up, at1, hr, hrow, _, _⟩ := bnd_at (i := 0 + (i : Int)) e1' (A1.ext (Ext.same S)) wd.b1 (by omega) (by omega)
    rw [show (0 + (i : Int)).toNat = i by omega] at hrow
    have ub := ls_at hrow
    have rg : (List.range (i + 1)).filter (lsB ds) = (List.range i).filter (lsB ds) ++ (if lsB ds i = true then [i] else []) := by rw [List.range_succ, filt_next]
    have fl := filt_le (p := lsB ds) (List.range i)
    rw [List.length_range] at fl
    walk_at "xs"
    refine x_wiped rfl ?_
    walk_at "xs"
    refine x_ixL (SqL.of e1') at1 ?_
    walk_at "xs"
    refine x_ixL (SqL.of e1') at1 ?_
    walk_at "xs"
    refine x_ite (fun hc => ?_) (fun hc => ?_)
    · walk_at "xs"
      refine x_acc eL (by rw [List.length_map, cI_len, sizeLine_eq]; omega) ?_
      refine ⟨fun z o e => ?_, ?_⟩
      · rw [upd_ne (ne_of_none e hL)]; exact S _ _ e
      · rw [upd_same, rg, ub, if_pos (decide_eq_true hc), cI_app, List.map_append, Int.zero_add]; rfl
    · refine ⟨S, ?_⟩
      rw [rg, ub, if_neg (by rw [decide_eq_false hc]; exact Bool.false_ne_true), List.append_nil]
      exact eL
  · rintro H' ⟨S, eL⟩
    walk_at "xs"
    exact q H' L S hL eL
end

/-! ### a spread by a list: the law's own search -/
theorem cI_mem {l : List Nat} {i : Nat} : ((i : Nat) : Int) ∈ cI l ↔ i ∈ l := by
  unfold cI
  rw [List.mem_map]
  constructor
  · rintro ⟨j, hj, e⟩
    have : j = i := by omega
    exact this ▸ hj
  · exact fun h => ⟨i, h, rfl⟩
theorem cI_up {n : Nat} (f : Nat → Bool) : (cI ((List.range n).filter f)).Pairwise (· < ·) := by
  unfold cI
  rw [List.pairwise_map]
  exact ((List.pairwise_lt_range (n := n)).filter f).imp (fun h => by omega)
theorem cI_nodup {n : Nat} (f : Nat → Bool) : (cI ((List.range n).filter f)).Nodup := (cI_up f).imp (fun h => by omega)
def spSpread : Sp := fun vs H Q _ => ∃ (M : List Addr) (p s : Addr) (ps : List (Int × Int)) (ss : List Int), vs = [.ref p, .ref s] ∧ Dn M H (.ref p) (.list (ps.map prD)) ∧ H s = some (.lst (ss.map V.int)) ∧ ss.Nodup ∧ (∀ x ∈ ss, 0 ≤ x ∧ x < 10) ∧ (∀ q ∈ ps, 0 ≤ q.2 ∧ q.2 < 10) ∧
  ∀ (H' : Hp) (l : Addr) (ys : List Int), Same H H' → H l = none → H' l = some (.lst (ys.map V.int)) → ys.length ≤ 10 → ys.Nodup → ys.Pairwise (· ≤ ·) → (∀ x, x ∈ ys ↔ Rch ps ss x) → Q (.ref l) H'
theorem ten_len {xs : List Int} (nd : xs.Nodup) (h : ∀ x ∈ xs, 0 ≤ x ∧ x < 10) : xs.length ≤ 10 := by
  have := nd.length_le_of_subset (l₂ := cI (List.range 10)) (fun x hx => by
    obtain ⟨i, hi, e⟩ := in_ten (h x hx).1 (h x hx).2
    exact List.mem_map.mpr ⟨i, hi, e⟩)
  rwa [cI_len, List.length_range] at this
section
variable {P : Program} {w : World} {K : PySem.W.Frag} {mg : Str → Option Value} {base : Heap} {t0 t1 t2 t3 t4 : Tok} {C : Addr}
theorem kn_spread {k : Nat} (D : Df K mg "_law_spread" s_Lspread) (B : Bl mg) : Kn P w K mg base "_law_spread" (k + 1) spSpread := by
  refine kn_of D (fun _ _ _ _ _ _ us hl => match us, hl with | [_, _], _ => rfl) sc_Lspread (fun vs H Q E h => by obtain ⟨M, p, s, ps, ss, rfl, _⟩ := h; rfl) (fun f cd B' fr z H vs Q E hr gd h => ?_)
  obtain ⟨M, p, s, ps, ss, rfl, dp, hs, snd, srg, rng, q⟩ := h
  refine ⟨_, (pss_cons (ps_par (i := 2) (j := 3) (by rfl) sc_Lspread.nd rfl rfl (by decide) rfl rfl (pa_cons (pe_callTy call_list_of (by rfl) B.«list» (by decide +kernel) (pa_cons (pv 1) pa_nil)) (pa_cons pe_int pa_nil)) (by rfl))
  (pss_cons (ps_while PassesOwn.never (pt_cmpR op_lt (pv 3) (pe_callB call_len_seq (by rfl) B.len (by decide +kernel) (pa_cons (pv 2) pa_nil)) (nomark _)) (pss_cons (ps_for PassesOwn.never rfl (pi_list (pv 0)) (pg_tup (by rfl) (pgs_cons (pg_name (i := 4) sc_Lspread.nd rfl (.inl rfl)) (pgs_cons (pg_name (i := 5) sc_Lspread.nd rfl (.inl rfl)) pgs_nil)))
  (pss_one (ps_if (PW.pt (pw_and (pt_cmpR op_eq (pv 4) (pe_ix (r := rIxL K) ix_list (pv 2) (pv 3) (fun _ _ => rfl)) (nomark _)) (pw_and1 (pt_cmpR (op_notInSK K) (pv 5) (pv 2) (by rfl))))) (pss_one (ps_expr (pe_bm PySem.F.plainAttrs_list PySem.F.slot_list_append PySem.F.type_list_append mt_append (pv 2) (pa_cons (pv 5) pa_nil)))) pss_nil)))
  (pss_one (ps_set (i := 3) sc_Lspread.nd rfl (.inl rfl) (pe_op op_add (pv 3) pe_int)))))
  (pss_one (ps_ret (pe_callB cr_sorted (by rfl) B.sorted (by decide +kernel) (pa_cons (pv 2) pa_nil)))))), ?_⟩
  have sl := ten_len snd srg
  cases dp with
  | @lst _ xs _ ep mp A =>
  have lx := A.length
  rw [List.length_map] at lx
  walk_at "xs"
  intro F hF
  have S1 := same_upd hF (o := .lst (ss.map V.int))
  have eF := upd_same (H := H) (a := F) (o := .lst (ss.map V.int))
  generalize upd H F _ = H1 at *
  walk_at "xs"
  refine x_while ⟨fun m σ' H' => ∃ (y4 y5 : Option V) (fs : List Int) (j : Nat), σ' = [some (.ref p), some (.ref s), some (.ref F), some (.int (j : Int)), y4, y5] ∧ Same H H' ∧ H' F = some (.lst (fs.map V.int)) ∧ m = 10 - j ∧ j ≤ fs.length ∧ fs.Nodup ∧ (∀ x ∈ fs, 0 ≤ x ∧ x < 10) ∧ (∀ x ∈ ss, x ∈ fs) ∧ (∀ x ∈ fs, Rch ps ss x) ∧ (∀ a b, (a, b) ∈ ps → a ∈ fs.take j → b ∈ fs), ?_, ?_⟩
  · exact ⟨_, _, _, ss, 0, rfl, S1, eF, rfl, Nat.zero_le _, snd, srg, fun x h => h, fun x h => .start h, fun a b _ h => by simp at h⟩
  · rintro m _ H3 ⟨y4, y5, fs, j, rfl, S, eF, rfl, jl, nd, rg, i1, i2, i3⟩
    have fl := ten_len nd rg
    walk_at "xs"
    have eF3 := eF
    have lF : ((fs.map V.int).length : Int) = fs.length := by rw [List.length_map]
    refine x_ite (fun c1 => ?_) (fun c1 => ?_)
    · have jl' : j < fs.length := by rw [List.length_map] at c1; omega
      obtain ⟨here, eh⟩ : ∃ here, fs[j]? = some here := ⟨_, List.getElem?_eq_getElem jl'⟩
      have ep3 := S _ _ ep
      refine ⟨fun σ' H' => ∃ (y4 y5 : Option V) (fs' : List Int), σ' = [some (.ref p), some (.ref s), some (.ref F), some (.int ((j + 1 : Nat) : Int)), y4, y5] ∧ Same H H' ∧ H' F = some (.lst (fs'.map V.int)) ∧ j + 1 ≤ fs'.length ∧ fs'.Nodup ∧ (∀ x ∈ fs', 0 ≤ x ∧ x < 10) ∧ (∀ x ∈ ss, x ∈ fs') ∧ (∀ x ∈ fs', Rch ps ss x) ∧ (∀ a b, (a, b) ∈ ps → a ∈ fs'.take (j + 1) → b ∈ fs'), ?_, ?_⟩
      · rintro σ' H' ⟨y4, y5, fs', rfl, S', e', j1, j2, j3, j4, j5, j6⟩
        exact ⟨10 - (j + 1), by omega, y4, y5, fs', j + 1, rfl, S', e', rfl, j1, j2, j3, j4, j5, j6⟩
      walk_at "xs"
      refine for_list (K := K) (a := p) (xs := xs) (fun t σ' H' => ∃ (y4 y5 : Option V) (ex : List Int), σ' = [some (.ref p), some (.ref s), some (.ref F), some (.int (j : Int)), y4, y5] ∧ Same H H' ∧ H' F = some (.lst ((fs ++ ex).map V.int)) ∧ (fs ++ ex).Nodup ∧ (∀ x ∈ fs ++ ex, 0 ≤ x ∧ x < 10) ∧ (∀ x ∈ fs ++ ex, Rch ps ss x) ∧ (∀ (u : Nat) b, u < t → ps[u]? = some (here, b) → b ∈ fs ++ ex)) ?_ ?_ ?_ ?_
      · exact ⟨_, _, [], rfl, S, by rw [List.append_nil]; exact eF3, by rw [List.append_nil]; exact nd, by rw [List.append_nil]; exact rg, by rw [List.append_nil]; exact i2, fun u b h => by omega⟩
      · rintro t _ H' _ ⟨_, _, _, _, S', _⟩
        exact SqL.of (S' _ _ ep)
      · rintro t v _ H5 hv ⟨y4, y5, ex, rfl, S5, eF5, nd5, rg5, r5, cl5⟩
        have fl5 := ten_len nd5 rg5
        obtain ⟨dP, hdP, dnP⟩ := (A.ext (Ext.same S5)).get hv
        rw [List.getElem?_map] at hdP
        cases hpr : ps[t]? with
        | none => rw [hpr] at hdP; cases hdP
        | some pr =>
        rw [hpr] at hdP
        cases hdP
        obtain ⟨r2, rfl, _, hr5⟩ := dnP.pair
        have pin := List.mem_of_getElem? hpr
        have skip : (pr.1 = here → pr.2 ∈ fs ++ ex) → ∀ (u : Nat) b, u < t + 1 → ps[u]? = some (here, b) → b ∈ fs ++ ex := fun hs u b hu hb => by
          by_cases e : u = t
          · subst e
            rw [hpr] at hb
            have hb : pr = (here, b) := Option.some.inj hb
            subst hb
            exact hs rfl
          · exact cl5 u b (by omega) hb
        have ehx : (fs ++ ex)[j]? = some here := by rw [List.getElem?_append_left jl']; exact eh
        obtain ⟨u1, eu1, au1⟩ := ix_at (xs := (fs ++ ex).map V.int) eF5 (i := (j : Int)) (by omega) (by rw [List.length_map, List.length_append]; omega)
        have eu1' : u1 = .int here := by
          rw [Int.toNat_natCast, List.getElem?_map, ehx] at eu1
          exact (Option.some.inj eu1).symm
        subst eu1'
        walk_at "xs"
        refine x_ixL (SqL.of eF5) au1 ?_
        walk_at "xs"
        refine x_ite (fun h1 => ?_) (fun h1 => ?_)
        · walk_at "xs"
          refine x_notInI eF5 ?_
          refine ⟨_, rfl, ?_⟩
          by_cases c2 : pr.2 ∈ fs ++ ex
          · rw [if_neg (by simp [c2])]
            walk_at "xs"
            exact ⟨_, _, ex, rfl, S5, eF5, nd5, rg5, r5, skip (fun _ => c2)⟩
          · rw [if_pos (by rw [decide_eq_false c2]; rfl)]
            walk_at "xs"
            refine x_app eF5 (by rw [List.length_map, sizeLine_eq]; omega) ?_
            have nd6 : (fs ++ (ex ++ [pr.2])).Nodup := by
              rw [← List.append_assoc]
              refine List.nodup_append.mpr ⟨nd5, by simp, fun a ha b hb e => ?_⟩
              simp at hb; subst hb; subst e; exact c2 ha
            have in6 : ∀ {R : Int → Prop}, (∀ x ∈ fs ++ ex, R x) → R pr.2 → ∀ x ∈ fs ++ (ex ++ [pr.2]), R x := fun h1 h2 x hx => by
              rw [← List.append_assoc] at hx
              rcases List.mem_append.mp hx with h | h
              · exact h1 x h
              · simp at h; subst h; exact h2
            refine ⟨_, _, ex ++ [pr.2], rfl, fun z o e => ?_, ?_, nd6, in6 rg5 (rng pr pin), in6 r5 ?_, fun u b hu hb => ?_⟩
            · rw [upd_ne (ne_of_none e hF)]; exact S5 _ _ e
            · rw [upd_same, ← List.append_assoc, List.map_append (l₁ := fs ++ ex)]; rfl
            · refine .step (a := here) (i2 here (List.mem_of_getElem? eh)) ?_
              have : (here, pr.2) = pr := by rw [← h1]
              rw [this]; exact pin
            · rw [← List.append_assoc]
              by_cases e : u = t
              · subst e
                rw [hpr] at hb
                have hb : pr = (here, b) := Option.some.inj hb
                subst hb
                simp
              · exact List.mem_append_left _ (cl5 u b (by omega) hb)
        · exact ⟨_, _, ex, rfl, S5, eF5, nd5, rg5, r5, skip (fun h => absurd h h1)⟩
      · rintro _ H5 ⟨y4, y5, ex, rfl, S5, eF5, nd5, rg5, r5, cl5⟩
        rw [lx] at cl5
        walk_at "xs"
        refine ⟨_, _, fs ++ ex, rfl, S5, eF5, by rw [List.length_append]; omega, nd5, rg5, fun x hx => List.mem_append_left _ (i1 x hx), r5, fun a b hab ha => ?_⟩
        rw [List.take_append_of_le_length (by omega), List.take_add_one, eh] at ha
        rcases List.mem_append.mp ha with h | h
        · exact List.mem_append_left _ (i3 a b hab h)
        · have h : a = here := by simpa using h
          subst h
          obtain ⟨u, hu⟩ := List.getElem?_of_mem hab
          exact cl5 u b (List.getElem?_eq_some_iff.mp hu).1 hu
    · have jl' : j = fs.length := by rw [List.length_map] at c1; omega
      walk_at "xs"
      refine ⟨F, fs, rfl, SqL.of eF3, by omega, ?_⟩
      intro ys r pm up hr2
      have S7 := same_upd hr2 (o := .lst (ys.map V.int))
      refine q _ r ys (S.trans S7) (S.free hr2) upd_same (by rw [pm.length_eq]; exact fl) (pm.nodup_iff.mpr nd) up fun x => ?_
      rw [pm.mem_iff]
      refine ⟨i2 x, fun r => ?_⟩
      induction r with
      | start h => exact i1 _ h
      | step _ e ih => exact i3 _ _ e (by rw [jl', List.take_length]; exact ih)
end

section
variable {P : Program} {w : World} {K : PySem.W.Frag} {mg : Str → Option Value} {base : Heap} {t0 t1 t2 t3 t4 : Tok} {C : Addr}
theorem kn_backE {k : Nat} (D : Df K mg "_law_back_edges" s_Lback_edges) (B : Bl mg) : Kn P w K mg base "_law_back_edges" (k + 1) spTurned := by
  refine kn_of D (fun _ _ _ _ _ _ us hl => match us, hl with | [_], _ => rfl) sc_Lback_edges (fun vs H Q E h => by obtain ⟨M, p, ps, rfl, _⟩ := h; rfl) (fun f cd B' fr z H vs Q E hr gd h => ?_)
  obtain ⟨M, p, ps, rfl, dp, lp, q⟩ := h
  refine ⟨_, (pss_one (ps_ret (pe_lc (own := [("_law_one", 1), ("_law_other", 2)]) rfl sc_Lback_edges.nd (pi_list (pv 0)) (blkOk_by (N := ["_law_edges_here", "_law_one", "_law_other"]) (sc := defScope s_Lback_edges) (by decide +kernel)) (fun _ _ _ _ _ => (pg_tupK K (n := 2) (pgs_cons (pg_name (i := 1) sc_Lback_edges.nd rfl (.inl rfl)) (pgs_cons (pg_name (i := 2) sc_Lback_edges.nd rfl (.inl rfl)) pgs_nil)))) (fun _ _ _ _ _ => pts_nil) (fun _ _ _ _ _ => (pe_tup (pa_cons (pv 2) (pa_cons (pv 1) pa_nil))))))), ?_⟩
  cases dp with
  | @lst _ xs _ ep mp A =>
  have lx := A.length
  rw [List.length_map] at lx
  walk_at "xs"
  intro L hL
  refine lc_list (K := K) (a := p) (xs := xs) (fun i H' => Same H H' ∧ ∃ acc : List V, H' L = some (.lst acc) ∧ DnAll [L] H' acc ((swP (ps.take i)).map prD)) ?_ ?_ ?_ ?_
  · exact ⟨same_upd hL, [], upd_same, .nil⟩
  · rintro i H' _ ⟨S, _⟩
    exact SqL.of (S _ _ ep)
  · rintro i v H' hv ⟨S, acc, eL, Y⟩
    obtain ⟨dP, hdP, dnP⟩ := (A.ext (Ext.same S)).get hv
    rw [List.getElem?_map] at hdP
    cases hpr : ps[i]? with
    | none => rw [hpr] at hdP; cases hdP
    | some pr =>
    rw [hpr] at hdP
    cases hdP
    obtain ⟨r2, rfl, _, hr5⟩ := dnP.pair
    have hi := (List.getElem?_eq_some_iff.mp hpr).1
    have ly := Y.length
    have l2 : ((swP (ps.take i)).map prD).length ≤ 1000 := by unfold swP; rw [List.length_map, List.length_map, List.length_take]; omega
    walk_at "xs"
    refine x_wiped rfl ?_
    walk_at "xs"
    intro t ht
    have S2 := same_upd ht (o := .tup [.int pr.2, .int pr.1])
    have et := upd_same (H := H') (a := t) (o := .tup [.int pr.2, .int pr.1])
    have tL : t ≠ L := ne_of_none2 ht eL
    have eL := S2 _ _ eL
    have Y := Y.ext (Ext.same S2)
    generalize upd H' t _ = H4 at *
    refine x_acc eL (by rw [sizeLine_eq]; omega) ?_
    have X : Ext [L] H4 (upd H4 L (.lst (acc ++ [.ref t]))) := Ext.upd (by simp)
    refine ⟨fun z o e => ?_, acc ++ [.ref t], upd_same, ?_⟩
    · rw [upd_ne (ne_of_none e hL)]; exact S2 _ _ (S _ _ e)
    · rw [List.take_add_one, hpr]
      unfold swP
      rw [List.map_append, List.map_append]
      exact (Y.ext X).app (.cons (.tup (X _ _ (by simpa using tL) et) (by simpa using tL) (DnAll.ints [pr.2, pr.1])) .nil)
  · rintro H' ⟨S, acc, eL, Y⟩
    rw [lx, List.take_length] at Y
    walk_at "xs"
    exact q H' L S hL (.lst eL (by simp) (Y.sub (by simp)))
end

/-! ### facts of arcs -/
theorem Rch.perm {ps qs : List (Int × Int)} {ss : List Int} (h : qs.Perm ps) (x : Int) : Rch qs ss x ↔ Rch ps ss x := ⟨fun r => r.mono fun p hp => h.mem_iff.mp hp, fun r => r.mono fun p hp => h.mem_iff.mpr hp⟩
theorem arc_mem {ds rs : List PyData} {ls : List Int} {n : Int} (hb : bundlesD (.list rs) n = true) (n1 : n ≤ 10) : ∀ i, ∀ p ∈ arcsOf ds rs ls i, (0 ≤ p.1 ∧ p.1 < n ∧ 0 ≤ p.2 ∧ p.2 < n) ∧ lsB ds p.1.toNat = true ∧ lsB ds p.2.toNat = true
  | 0, p, hp => by cases hp
  | i + 1, p, hp => by
    have hp : p ∈ arcsOf ds rs ls i ++ (match ls[i]?, rs[i]? with
      | some l, some r => arcStep ds r l
      | _, _ => []) := hp
    rcases List.mem_append.mp hp with h | h
    · exact arc_mem hb n1 i p h
    · split at h
      · rename_i l r hl hr
        have lr := (List.getElem?_eq_some_iff.mp hr).1
        obtain ⟨a, b, c, hr', a0, ab, bn, _⟩ := rows_at hb n1 lr
        rw [hr] at hr'
        have hr' : r = tupD [a, b, c] := Option.some.inj hr'
        subst hr'
        have h : p ∈ (if (lsB ds a.toNat && lsB ds b.toNat) = true then (if l > 0 then [(a, b)] else []) ++ (if l < c then [(b, a)] else []) else []) := h
        split at h
        · rename_i lb
          rw [Bool.and_eq_true] at lb
          rcases List.mem_append.mp h with h | h
          · split at h
            · simp at h; subst h; exact ⟨⟨a0, by omega, by omega, bn⟩, lb.1, lb.2⟩
            · cases h
          · split at h
            · simp at h; subst h; exact ⟨⟨by omega, bn, a0, by omega⟩, lb.2, lb.1⟩
            · cases h
        · cases h
      · cases h
/-! ### reached, reaching, first ways of the program -/
theorem Way.mono {ps qs : List (Int × Int)} (h : ∀ p ∈ ps, p ∈ qs) : ∀ {w : List Int} {s t : Int}, Way ps s t w → Way qs s t w := fun a => by
  obtain ⟨c, h1, h2⟩ := a
  refine ⟨?_, h1, h2⟩
  clear h1 h2
  rename_i w s t
  induction w with
  | nil => exact c.elim
  | cons x r ih =>
    cases r with
    | nil => trivial
    | cons y r => exact ⟨h _ c.1, ih c.2⟩
theorem Best.perm {ps qs : List (Int × Int)} (h : qs.Perm ps) {s t : Int} {w : List Int} (b : Best qs s t w) : Best ps s t w :=
  ⟨b.1.mono fun p hp => h.mem_iff.mp hp, fun w' a => b.2 w' (a.mono fun p hp => h.mem_iff.mpr hp)⟩
theorem WayV.perm {ps qs : List (Int × Int)} (h : qs.Perm ps) {s t : Int} {H H' : Hp} {v : V} (b : WayV qs s t H H' v) : WayV ps s t H H' v := by
  rcases b with ⟨e, n⟩ | ⟨l, w, e, n, el, lw, b⟩
  · exact .inl ⟨e, fun w a => n w (a.mono fun p hp => h.mem_iff.mpr hp)⟩
  · exact .inr ⟨l, w, e, n, el, lw, b.perm h⟩
theorem sort_eq {xs ys : List Int} (n1 : xs.Nodup) (n2 : ys.Nodup) (u1 : xs.Pairwise (· ≤ ·)) (u2 : ys.Pairwise (· ≤ ·)) (m : ∀ x, x ∈ xs ↔ x ∈ ys) : xs = ys :=
  ((List.perm_ext_iff_of_nodup n1 n2).mpr m).eq_of_pairwise (fun a b _ _ h1 h2 => by omega) u1 u2
def lsF (ds : List PyData) (bs : List Int) : List Int := bs.filter fun m => lsB ds m.toNat
def spEndsR (C : Addr) : Sp := fun vs H Q _ => ∃ (M N : List Addr) (x p b : Addr) (ds : List PyData) (d2 : PyData) (ps : List (Int × Int)) (bs : List Int), vs = [.ref x, .ref p, .ref b] ∧ Clu C M H x (.list ds) d2 ∧ boundsD (.list ds) = true ∧ Dn N H (.ref p) (.list (ps.map prD)) ∧ (∀ q ∈ ps, 0 ≤ q.2 ∧ q.2 < 10) ∧ H b = some (.lst (bs.map V.int)) ∧ (∀ m ∈ bs, 0 ≤ m ∧ m < ds.length) ∧ bs.length ≤ 10 ∧
  ∀ (H' : Hp) (l : Addr) (ys : List Int), Same H H' → H l = none → H' l = some (.lst (ys.map V.int)) → ys.length ≤ 10 → ys.Nodup → ys.Pairwise (· ≤ ·) → (∀ x, x ∈ ys ↔ Rch ps (lsF ds bs) x) → Q (.ref l) H'
def spReached (C : Addr) (hi : Bool) : Sp := fun vs H Q _ => ∃ (M : List Addr) (x p b : Addr) (ds rs : List PyData) (ls bs : List Int), vs = [.ref x, .ref p, .ref b] ∧ Clu C M H x (.list ds) (.list rs) ∧ H p = some (.tup (ls.map V.int)) ∧ Wd ds rs ls ∧ H b = some (.lst (bs.map V.int)) ∧ (∀ m ∈ bs, 0 ≤ m ∧ m < ds.length) ∧ bs.length ≤ 10 ∧
  ∀ (H' : Hp) (l : Addr) (ys : List Int), Same H H' → H l = none → H' l = some (.lst (ys.map V.int)) → ys.length ≤ 10 → ys.Nodup → ys.Pairwise (· ≤ ·) → (∀ x, x ∈ ys ↔ Rch (if hi = true then swP (arcsOf ds rs ls ls.length) else arcsOf ds rs ls ls.length) (lsF ds bs) x) → Q (.ref l) H'
def spFirst (C : Addr) : Sp := fun vs H Q _ => ∃ (M : List Addr) (x p : Addr) (ds rs : List PyData) (ls : List Int) (one t : Int), vs = [.ref x, .ref p, .int one, .int t] ∧ Clu C M H x (.list ds) (.list rs) ∧ H p = some (.tup (ls.map V.int)) ∧ Wd ds rs ls ∧ 0 ≤ one ∧ one < ds.length ∧
  ∀ H' v, Same H H' → ((lsB ds one.toNat = false ∧ v = .non) ∨ (lsB ds one.toNat = true ∧ WayV (arcsOf ds rs ls ls.length) one t H H' v)) → Q v H'
theorem ls_bnd {ds : List PyData} {a : Int} (hb : boundsD (.list ds) = true) (a0 : 0 ≤ a) (a1 : a < ds.length) : ∃ lw up, ds[a.toNat]? = some (tupD [lw, up]) ∧ decide (lw = up) = !lsB ds a.toNat := by
  obtain ⟨lw, up, hrow, _, le, _⟩ := bound_at hb (i := a.toNat) (by omega)
  refine ⟨lw, up, hrow, ?_⟩
  rw [ls_at hrow]
  by_cases h : lw = up
  · rw [decide_eq_true h, decide_eq_false (by omega)]; rfl
  · rw [decide_eq_false h, decide_eq_true (by omega)]; rfl
section
variable {P : Program} {w : World} {K : PySem.W.Frag} {mg : Str → Option Value} {base : Heap} {t0 t1 t2 t3 t4 : Tok} {C : Addr}
theorem kn_endsR {k : Nat} (D : DfA K mg "ends_arcs" "_ends" s_ends_arcs) (B : Bl mg) (cc : Cc K mg C) (m_is_rigid : Km P w K mg base C "is_rigid" k (spRigid C)) (c_steps_from : Kn P w K mg base "steps_from" k spSteps) : Kn P w K mg base "ends_arcs" (k + 1) (spEndsR C) := by
  refine kn_ofA D (fun _ _ _ _ _ _ us hl => match us, hl with | [_, _, _], _ => rfl) sc_ends_arcs (fun vs H Q E h => by obtain ⟨M, N, x, p, b, ds, d2, ps, bs, rfl, _⟩ := h; rfl) (fun f cd B' fr z H vs Q E hr gd h => ?_)
  obtain ⟨M, N, x, p, b, ds, d2, ps, bs, rfl, cl, b1, dp, rng, hb, brg, bl, q⟩ := h
  have c_Cluster := cc.ck
  refine ⟨_, (pss_one (ps_ret (pe_callB (call_sortedDI rfl) (by rfl) B.sorted (by decide +kernel) (pa_cons (pe_own c_steps_from hr gd (by rfl) (pa_cons (pv 1) (pa_cons (pe_lc (own := [("broker", 3)]) rfl sc_ends_arcs.nd (pi_list (pv 2)) (blkOk_by (N := ["cluster", "pairs", "brokers", "broker"]) (sc := defScope s_ends_arcs) (by decide +kernel)) (fun _ _ _ _ _ => (pg_name (i := 3) sc_ends_arcs.nd rfl (.inl rfl))) (fun _ _ _ _ _ => (pts_one (pt_not (pt_val (pe_ownM (pv 0) c_Cluster.cls m_is_rigid hr gd (pa_cons (pv 3) pa_nil)))))) (fun _ _ _ _ _ => (pv 3))) pa_nil))) pa_nil)))), ?_⟩
  have n10 := bounds_len b1
  obtain ⟨dx, B0, U0, N0, kvs, hx, _⟩ := id cl
  walk_at "xs"
  intro L hL
  refine lc_list (K := K) (a := b) (xs := bs.map V.int) (fun i H' => Same H H' ∧ H' L = some (.lst ((lsF ds (bs.take i)).map V.int))) ?_ ?_ ?_ ?_
  · exact ⟨same_upd hL, upd_same⟩
  · rintro i H' _ ⟨S, _⟩
    exact SqL.of (S _ _ hb)
  · rintro i v H' hv ⟨S, eL⟩
    obtain ⟨m, hm, rfl⟩ := int_at hv
    have hi := (List.getElem?_eq_some_iff.mp hm).1
    have mr := brg m (List.mem_of_getElem? hm)
    obtain ⟨lw, up, hrow, er⟩ := ls_bnd b1 mr.1 mr.2
    have hx' := S _ _ hx
    have fs : lsF ds (bs.take (i + 1)) = lsF ds (bs.take i) ++ (if lsB ds m.toNat = true then [m] else []) := by
      unfold lsF
      rw [List.take_add_one, hm, List.filter_append]
      congr 1
      show List.filter _ [m] = _
      rw [List.filter_cons]
      rfl
    have fl := List.length_filter_le (fun m : Int => lsB ds m.toNat) (bs.take i)
    rw [List.length_take] at fl
    have fl : (lsF ds (bs.take i)).length ≤ min i bs.length := fl
    walk_at "xs"
    refine x_wiped rfl ?_
    walk_at "xs"
    refine x_mAt hx' (f3_none _ _ _ (by decide) (by decide) (by decide)) ?_
    walk_at "xs"
    refine ⟨x, M, ds, _, m, lw, up, rfl, cl.ext (Ext.same S), mr.1, mr.2, hrow, ?_⟩
    rw [er]
    walk_at "xs"
    cases c : lsB ds m.toNat with
    | true =>
      rw [if_pos (show (!!true) = true from rfl)]
      walk_at "xs"
      refine x_acc eL (by rw [List.length_map, sizeLine_eq]; omega) ?_
      refine ⟨fun z o e => ?_, ?_⟩
      · rw [upd_ne (ne_of_none e hL)]; exact S _ _ e
      · rw [upd_same, fs, c, if_pos rfl, List.map_append]; rfl
    | false =>
      rw [if_neg (show ¬ (!!false) = true by decide)]
      refine ⟨S, ?_⟩
      rw [fs, c, if_neg (by decide), List.append_nil]
      exact eL
  · rintro H1 ⟨S1, eL⟩
    rw [List.length_map, List.take_length] at eL
    have fl := List.length_filter_le (fun m : Int => lsB ds m.toNat) bs
    have fl : (lsF ds bs).length ≤ bs.length := fl
    walk_at "xs"
    refine ⟨N, p, L, ps, lsF ds bs, rfl, dp.ext (Ext.same S1), eL, by omega, rng, ?_⟩
    intro H2 Dd kvs S2 nD eD dst
    obtain ⟨ks, ek, nd, km⟩ := dst.keys
    have rk : ∀ x, Rch ps (lsF ds bs) x → 0 ≤ x ∧ x < 10 := fun x h => by
      induction h with
      | start h =>
        have := brg _ (List.mem_filter.mp h).1
        omega
      | step _ e _ => exact rng _ e
    have kr : ∀ x, x ∈ ks ↔ Rch ps (lsF ds bs) x := fun x => (km x).trans (dst.has x)
    have lk := ten_len nd fun x h => rk x ((kr x).mp h)
    walk_at "xs"
    refine ⟨Dd, kvs, ks, rfl, .inl eD, ek, by omega, fun ys p2 pm up hp2 => ?_⟩
    have S3 := same_upd hp2 (o := .lst (ys.map V.int))
    have S13 := S1.trans (S2.trans S3)
    exact q _ p2 ys S13 ((S1.trans S2).free hp2) upd_same (by rw [pm.length_eq]; exact lk) (pm.symm.nodup nd) up fun x => pm.mem_iff.trans (kr x)
theorem kn_reached {k : Nat} (D : Df K mg "reached" s_reached) (B : Bl mg) (c_arcs : Kn P w K mg base "arcs" k (spArcs C)) (c_ends_arcs : Kn P w K mg base "ends_arcs" k (spEndsR C)) : Kn P w K mg base "reached" (k + 1) (spReached C false) := by
  refine kn_of D (fun _ _ _ _ _ _ us hl => match us, hl with | [_, _, _], _ => rfl) sc_reached (fun vs H Q E h => by obtain ⟨M, x, p, b, ds, rs, ls, bs, rfl, _⟩ := h; rfl) (fun f cd B' fr z H vs Q E hr gd h => ?_)
  obtain ⟨M, x, p, b, ds, rs, ls, bs, rfl, cl, hp, wd, hb, brg, bl, q⟩ := h
  refine ⟨_, (pss_one (ps_ret (pe_own c_ends_arcs hr gd (by rfl) (pa_cons (pv 0) (pa_cons (pe_own c_arcs hr gd (by rfl) (pa_cons (pv 0) (pa_cons (pv 1) pa_nil))) (pa_cons (pv 2) pa_nil)))))), ?_⟩
  have n10 := bounds_len wd.b1
  have am := arc_mem (ds := ds) (ls := ls) wd.b2 (by omega) ls.length
  walk_at "xs"
  refine ⟨x, p, M, [], ds, rs, ls, rfl, cl, hp, wd, fun m hm => (by cases hm), ?_⟩
  intro H2 g ys qs S2 ng eg A so
  walk_at "xs"
  refine ⟨M, [], x, g, b, ds, _, qs, bs, rfl, cl.ext (Ext.same S2), wd.b1, .lst eg (by simp) A, fun q0 hq => ?_, S2 _ _ hb, brg, bl, ?_⟩
  · have := (am q0 (so.1.mem_iff.mp hq)).1
    omega
  intro H3 l zs S3 nl el ll nd up m
  exact q _ l zs (S2.trans S3) (S2.free nl) el ll nd up fun x => (m x).trans (Rch.perm so.1 x)
theorem kn_reaching {k : Nat} (D : Df K mg "reaching" s_reaching) (B : Bl mg) (c_arcs : Kn P w K mg base "arcs" k (spArcs C)) (c_turned : Kn P w K mg base "turned" k spTurned) (c_ends_arcs : Kn P w K mg base "ends_arcs" k (spEndsR C)) : Kn P w K mg base "reaching" (k + 1) (spReached C true) := by
  refine kn_of D (fun _ _ _ _ _ _ us hl => match us, hl with | [_, _, _], _ => rfl) sc_reaching (fun vs H Q E h => by obtain ⟨M, x, p, b, ds, rs, ls, bs, rfl, _⟩ := h; rfl) (fun f cd B' fr z H vs Q E hr gd h => ?_)
  obtain ⟨M, x, p, b, ds, rs, ls, bs, rfl, cl, hp, wd, hb, brg, bl, q⟩ := h
  refine ⟨_, (pss_one (ps_ret (pe_own c_ends_arcs hr gd (by rfl) (pa_cons (pv 0) (pa_cons (pe_own c_turned hr gd (by rfl) (pa_cons (pe_own c_arcs hr gd (by rfl) (pa_cons (pv 0) (pa_cons (pv 1) pa_nil))) pa_nil)) (pa_cons (pv 2) pa_nil)))))), ?_⟩
  have n10 := bounds_len wd.b1
  have len := (bundles_len wd.b2).1
  have same := wd.lo.1
  have al := arcs_len ds rs ls ls.length
  have am := arc_mem (ds := ds) (ls := ls) wd.b2 (by omega) ls.length
  walk_at "xs"
  refine ⟨x, p, M, [], ds, rs, ls, rfl, cl, hp, wd, fun m hm => (by cases hm), ?_⟩
  intro H2 g ys qs S2 ng eg A so
  have ql : qs.length ≤ 1000 := by rw [so.1.length_eq]; omega
  walk_at "xs"
  refine ⟨[], g, qs, rfl, .lst eg (by simp) A, ql, ?_⟩
  intro H3 g2 S3 ng2 dg2
  have S23 := S2.trans S3
  walk_at "xs"
  refine ⟨M, [], x, g2, b, ds, _, swP qs, bs, rfl, cl.ext (Ext.same S23), wd.b1, dg2, fun q0 hq => ?_, S23 _ _ hb, brg, bl, ?_⟩
  · obtain ⟨p0, hp0, rfl⟩ := List.mem_map.mp hq
    have := (am p0 (so.1.mem_iff.mp hp0)).1
    show 0 ≤ p0.1 ∧ p0.1 < 10
    omega
  intro H4 l zs S4 nl el ll nd up m
  exact q _ l zs (S23.trans S4) (S23.free nl) el ll nd up fun x => (m x).trans (Rch.perm (so.1.map _) x)
theorem kn_firstW {k : Nat} (D : Df K mg "first_way" s_first_way) (B : Bl mg) (cc : Cc K mg C) (m_is_rigid : Km P w K mg base C "is_rigid" k (spRigid C)) (c_arcs : Kn P w K mg base "arcs" k (spArcs C)) (c_first_shortest : Kn P w K mg base "first_shortest" k spShort) : Kn P w K mg base "first_way" (k + 1) (spFirst C) := by
  refine kn_of D (fun _ _ _ _ _ _ us hl => match us, hl with | [_, _, _, _], _ => rfl) sc_first_way (fun vs H Q E h => by obtain ⟨M, x, p, ds, rs, ls, one, t, rfl, _⟩ := h; rfl) (fun f cd B' fr z H vs Q E hr gd h => ?_)
  obtain ⟨M, x, p, ds, rs, ls, one, t, rfl, cl, hp, wd, o0, o1, q⟩ := h
  have c_Cluster := cc.ck
  refine ⟨_, (pss_cons (ps_if (pt_val (pe_ownM (pv 0) c_Cluster.cls m_is_rigid hr gd (pa_cons (pv 2) pa_nil))) (pss_one (ps_ret pe_non)) pss_nil)
  (pss_one (ps_ret (pe_own c_first_shortest hr gd (by rfl) (pa_cons (pe_own c_arcs hr gd (by rfl) (pa_cons (pv 0) (pa_cons (pv 1) pa_nil))) (pa_cons (pv 2) (pa_cons (pv 3) pa_nil))))))), ?_⟩
  have n10 := bounds_len wd.b1
  have len := (bundles_len wd.b2).1
  have same := wd.lo.1
  have al := arcs_len ds rs ls ls.length
  have am := arc_mem (ds := ds) (ls := ls) wd.b2 (by omega) ls.length
  obtain ⟨dx, B0, U0, N0, kvs, hx, _⟩ := id cl
  obtain ⟨lw, up, hrow, er⟩ := ls_bnd wd.b1 o0 o1
  walk_at "xs"
  refine x_mAt hx (f3_none _ _ _ (by decide) (by decide) (by decide)) ?_
  walk_at "xs"
  refine ⟨x, M, ds, _, one, lw, up, rfl, cl, o0, o1, hrow, ?_⟩
  rw [er]
  cases c : lsB ds one.toNat with
  | false =>
    walk_at "xs"
    exact q _ _ (Same.refl _) (.inl ⟨c, rfl⟩)
  | true =>
    walk_at "xs"
    refine ⟨x, p, M, [], ds, rs, ls, rfl, cl, hp, wd, fun m hm => (by cases hm), ?_⟩
    intro H2 g ys qs S2 ng eg A so
    walk_at "xs"
    refine ⟨[], g, qs, one, t, rfl, .lst eg (by simp) A, by rw [so.1.length_eq]; omega, fun q0 hq => ?_, ?_⟩
    · have := (am q0 (so.1.mem_iff.mp hq)).1
      omega
    intro H3 v S3 wv
    refine q _ v (S2.trans S3) (.inr ⟨c, ?_⟩)
    rcases wv.perm so.1 with h | ⟨l, w, e, n, el, lw, b⟩
    · exact .inl h
    · exact .inr ⟨l, w, e, S2.free n, el, lw, b⟩
end
/-! ### low and high sets of the program -/
def spStepsR : Sp := fun vs H Q _ => ∃ (M : List Addr) (p s : Addr) (ps : List (Int × Int)) (ss : List Int), vs = [.ref p, .ref s] ∧ Dn M H (.ref p) (.list (ps.map prD)) ∧ H s = some (.lst (ss.map V.int)) ∧ ss.length ≤ 100 ∧ (∀ q ∈ ps, 0 ≤ q.2 ∧ q.2 < 10) ∧
  ∀ (H' : Hp) (d : Addr) (kvs : List (Key × V)), Same H H' → H d = none → H' d = some (.dK kvs) → (∀ x, hasI kvs x = true ↔ Rch ps ss x) → Q (.ref d) H'
theorem stepsR {H : Hp} {Q : VK} {E : XK} {vs : List V} (h : spStepsR vs H Q E) : spSteps vs H Q E := by
  obtain ⟨M, p, s, ps, ss, e, d, hs, l, r, q⟩ := h
  exact ⟨M, p, s, ps, ss, e, d, hs, l, r, fun H' d kvs S n e D => q H' d kvs S n e D.has⟩
def IsSet (n : Nat) (Pr : Nat → Prop) (l : List Int) : Prop := ∃ f : Nat → Bool, (∀ i, i < n → (f i = true ↔ Pr i)) ∧ l = cI ((List.range n).filter f)
theorem IsSet.one {n : Nat} {Pr Qr : Nat → Prop} {l m : List Int} (a : IsSet n Pr l) (b : IsSet n Qr m) (h : ∀ i, i < n → (Pr i ↔ Qr i)) : l = m := by
  obtain ⟨f, hf, rfl⟩ := a
  obtain ⟨g, hg, rfl⟩ := b
  congr 1
  refine List.filter_congr fun i hi => ?_
  have hi := List.mem_range.mp hi
  have := (hf i hi).trans ((h i hi).trans (hg i hi).symm)
  cases e : f i <;> cases e2 : g i <;> simp_all
theorem IsSet.len {n : Nat} {Pr : Nat → Prop} {l : List Int} (a : IsSet n Pr l) : l.length ≤ n := by
  obtain ⟨f, _, rfl⟩ := a
  rw [cI_len]
  have := filt_le (p := f) (List.range n)
  rw [List.length_range] at this
  exact this
theorem IsSet.mem {n : Nat} {Pr : Nat → Prop} {l : List Int} (a : IsSet n Pr l) {x : Int} : x ∈ l ↔ ∃ i : Nat, i < n ∧ x = (i : Nat) ∧ Pr i := by
  obtain ⟨f, hf, rfl⟩ := a
  unfold cI
  rw [List.mem_map]
  constructor
  · rintro ⟨i, hi, rfl⟩
    obtain ⟨h1, h2⟩ := List.mem_filter.mp hi
    have h1 := List.mem_range.mp h1
    exact ⟨i, h1, rfl, (hf i h1).mp h2⟩
  · rintro ⟨i, h1, rfl, h2⟩
    exact ⟨i, List.mem_filter.mpr ⟨List.mem_range.mpr h1, (hf i h1).mpr h2⟩, rfl⟩
theorem IsSet.mono {n : Nat} {Pr Qr : Nat → Prop} {l : List Int} (a : IsSet n Pr l) (h : ∀ i, i < n → (Pr i ↔ Qr i)) : IsSet n Qr l := by
  obtain ⟨f, hf, e⟩ := a
  exact ⟨f, fun i hi => (hf i hi).trans (h i hi), e⟩
/-- what is not reached -/
def NotR (ds : List PyData) (ps : List (Int × Int)) (ss : List Int) (i : Nat) : Prop := lsB ds i = true ∧ ¬ Rch ps ss (i : Nat)
def spOthers (C : Addr) : Sp := fun vs H Q _ => ∃ (M : List Addr) (x d : Addr) (ds : List PyData) (d2 : PyData) (kvs : List (Key × V)) (ps : List (Int × Int)) (ss : List Int), vs = [.ref x, .ref d] ∧ Clu C M H x (.list ds) d2 ∧ boundsD (.list ds) = true ∧ H d = some (.dK kvs) ∧ (∀ x, hasI kvs x = true ↔ Rch ps ss x) ∧
  ∀ (H' : Hp) (l : Addr) (ms : List Int), Same H H' → H l = none → H' l = some (.lst (ms.map V.int)) → IsSet ds.length (NotR ds ps ss) ms → Q (.ref l) H'
def spGrt (C : Addr) (hi : Bool) : Sp := fun vs H Q _ => ∃ (M N : List Addr) (x p a : Addr) (ds rs : List PyData) (ls : List Int) (ps : List (Int × Int)), vs = [.ref x, .ref p, .ref a] ∧ Clu C M H x (.list ds) (.list rs) ∧ H p = some (.tup (ls.map V.int)) ∧ Wd ds rs ls ∧ Dn N H (.ref a) (.list (ps.map prD)) ∧ ps.length ≤ 1000 ∧ (∀ q ∈ ps, 0 ≤ q.1 ∧ q.1 < 10 ∧ 0 ≤ q.2 ∧ q.2 < 10) ∧
  ∀ (H' : Hp) (l : Addr) (ms : List Int), Same H H' → H l = none → H' l = some (.lst (ms.map V.int)) → IsSet ds.length (NotR ds (if hi = true then swP ps else ps) (if hi = true then dnL ds (ldOf ds.length rs ls ls.length) else upL ds (ldOf ds.length rs ls ls.length))) ms → Q (.ref l) H'
def spLow (C : Addr) (hi : Bool) : Sp := fun vs H Q _ => ∃ (M : List Addr) (x p : Addr) (ds rs : List PyData) (ls : List Int), vs = [.ref x, .ref p] ∧ Clu C M H x (.list ds) (.list rs) ∧ H p = some (.tup (ls.map V.int)) ∧ Wd ds rs ls ∧
  ∀ (H' : Hp) (l : Addr) (ms : List Int), Same H H' → H l = none → H' l = some (.lst (ms.map V.int)) → IsSet ds.length (NotR ds (if hi = true then swP (arcsOf ds rs ls ls.length) else arcsOf ds rs ls ls.length) (if hi = true then dnL ds (ldOf ds.length rs ls ls.length) else upL ds (ldOf ds.length rs ls ls.length))) ms → Q (.ref l) H'
theorem sw_in {ps : List (Int × Int)} {n : Int} (h : ∀ q ∈ ps, 0 ≤ q.1 ∧ q.1 < n ∧ 0 ≤ q.2 ∧ q.2 < n) : ∀ q ∈ swP ps, 0 ≤ q.2 ∧ q.2 < n := fun q hq => by
  obtain ⟨p, hp, rfl⟩ := List.mem_map.mp hq
  have := h p hp
  exact ⟨this.1, this.2.1⟩
theorem upL_len (ds : List PyData) (hs : List Int) : (upL ds hs).length ≤ ds.length := by
  unfold upL
  have := filt_le (p := upB ds hs) (List.range ds.length)
  rw [List.length_range] at this
  rw [cI_len]
  exact this
theorem dnL_len (ds : List PyData) (hs : List Int) : (dnL ds hs).length ≤ ds.length := by
  unfold dnL
  have := filt_le (p := dnB ds hs) (List.range ds.length)
  rw [List.length_range] at this
  rw [cI_len]
  exact this
section
variable {P : Program} {w : World} {K : PySem.W.Frag} {mg : Str → Option Value} {base : Heap} {t0 t1 t2 t3 t4 : Tok} {C : Addr}
theorem kn_others {k : Nat} (D : Df K mg "_others" s__others) (B : Bl mg) (cc : Cc K mg C) (m_size : Km P w K mg base C "size" k (spSize C)) (m_is_rigid : Km P w K mg base C "is_rigid" k (spRigid C)) : Kn P w K mg base "_others" (k + 1) (spOthers C) := by
  refine kn_of D (fun _ _ _ _ _ _ us hl => match us, hl with | [_, _], _ => rfl) sc__others (fun vs H Q E h => by obtain ⟨M, x, d, ds, d2, kvs, ps, ss, rfl, _⟩ := h; rfl) (fun f cd B' fr z H vs Q E hr gd h => ?_)
  obtain ⟨M, x, d, ds, d2, kvs, ps, ss, rfl, cl, hb, hd, ik, q⟩ := h
  have c_Cluster := cc.ck
  refine ⟨_, (pss_one (ps_ret (pe_lc (own := [("broker", 2)]) rfl sc__others.nd (pi_range1 (by rfl) B.range (pa_cons (pe_ownM0 (pv 0) c_Cluster.cls m_size hr gd) pa_nil)) (blkOk_by (N := ["cluster", "steps", "broker"]) (sc := defScope s__others) (by decide +kernel)) (fun _ _ _ _ _ => (pg_name (i := 2) sc__others.nd rfl (.inl rfl))) (fun _ _ _ _ _ => (pts_one (PW.pt (pw_and (pt_not (pt_val (pe_ownM (pv 0) c_Cluster.cls m_is_rigid hr gd (pa_cons (pv 2) pa_nil)))) (pw_and1 (pt_cmp (pc_dnotin (units1 (by exact hr.units)) (pv 2) (pv 1)) (by rfl))))))) (fun _ _ _ _ _ => (pv 2))))), ?_⟩
  have n10 := bounds_len hb
  obtain ⟨dx, B0, U0, N0, kvs0, hx, _⟩ := id cl
  obtain ⟨g, hg⟩ : ∃ g : Nat → Bool, g = fun i => lsB ds i && !hasI kvs (i : Nat) := ⟨_, rfl⟩
  walk_at "xs"
  refine x_mAt hx (f3_none _ _ _ (by decide) (by decide) (by decide)) ?_
  walk_at "xs"
  refine ⟨x, M, ds, _, rfl, cl, ?_⟩
  walk_at "xs"
  intro L hL
  rw [Int.toNat_natCast]
  refine lc_range (lo := 0) (n := ds.length) (fun i H' => Same H H' ∧ H' L = some (.lst ((cI ((List.range i).filter g)).map V.int))) ?_ ?_ ?_
  · exact ⟨same_upd hL, upd_same⟩
  · rintro i H' hi ⟨S, eL⟩
    have hx := S _ _ hx
    have cl := cl.ext (Ext.same S)
    have hd := S _ _ hd
    obtain ⟨lo, up, hrow, _, le, _⟩ := bound_at hb hi
    have hrow' : ds[(0 + (i : Int)).toNat]? = some (tupD [lo, up]) := by rw [show (0 + (i : Int)).toNat = i by omega]; exact hrow
    have ub := ls_at hrow
    have gi : g i = (lsB ds i && !hasI kvs (i : Nat)) := by rw [hg]
    have rg : (List.range (i + 1)).filter g = (List.range i).filter g ++ (if g i = true then [i] else []) := by rw [List.range_succ, filt_next]
    have fl := filt_le (p := g) (List.range i)
    rw [List.length_range] at fl
    walk_at "xs"
    refine x_wiped rfl ?_
    walk_at "xs"
    refine x_mAt hx (f3_none _ _ _ (by decide) (by decide) (by decide)) ?_
    walk_at "xs"
    refine ⟨x, M, ds, _, 0 + (i : Int), lo, up, rfl, cl, by omega, by omega, hrow', ?_⟩
    walk_at "xs"
    refine x_iteN (fun hc => ?_) (fun hc => ?_)
    · walk_at "xs"
      refine ⟨d, _, rfl, DGet.k (k := .inl (0 + (i : Int))) hd, ?_⟩
      walk_at "xs"
      have hv : (valV kvs (.inl (0 + (i : Int)))).isSome = hasI kvs (i : Nat) := by unfold hasI; rw [Int.zero_add]
      refine x_iteNB (fun h2 => ?_) (fun h2 => ?_)
      · rw [hv] at h2
        walk_at "xs"
        refine x_acc eL (by rw [List.length_map, cI_len, sizeLine_eq]; omega) ?_
        refine ⟨fun z o e => ?_, ?_⟩
        · rw [upd_ne (ne_of_none e hL)]; exact S _ _ e
        · rw [upd_same, rg, gi, ub, h2, decide_eq_true (show lo < up by omega), if_pos (show (true && !false) = true from rfl), cI_app, List.map_append, Int.zero_add]; rfl
      · rw [hv] at h2
        refine ⟨S, ?_⟩
        rw [rg, gi, h2, Bool.not_true, Bool.and_false, if_neg Bool.false_ne_true, List.append_nil]
        exact eL
    · walk_at "xs"
      refine ⟨S, ?_⟩
      rw [rg, gi, ub, decide_eq_false (show ¬ lo < up by omega), Bool.false_and, if_neg Bool.false_ne_true, List.append_nil]
      exact eL
  · rintro H' ⟨S, eL⟩
    walk_at "xs"
    refine q H' L _ S hL eL ⟨g, fun i _ => ?_, rfl⟩
    rw [hg]
    unfold NotR
    rw [Bool.and_eq_true, ← ik]
    simp
theorem kn_grtLow {k : Nat} (D : Df K mg "greatest_low" s_greatest_low) (B : Bl mg) (c__others : Kn P w K mg base "_others" k (spOthers C)) (c_steps_from : Kn P w K mg base "steps_from" k spStepsR) (c_givers : Kn P w K mg base "givers" k (spNumsP C upL)) : Kn P w K mg base "greatest_low" (k + 1) (spGrt C false) := by
  refine kn_of D (fun _ _ _ _ _ _ us hl => match us, hl with | [_, _, _], _ => rfl) sc_greatest_low (fun vs H Q E h => by obtain ⟨M, N, x, p, a, ds, rs, ls, ps, rfl, _⟩ := h; rfl) (fun f cd B' fr z H vs Q E hr gd h => ?_)
  obtain ⟨M, N, x, p, a, ds, rs, ls, ps, rfl, cl, hp, wd, da, lps, rng, q⟩ := h
  refine ⟨_, (pss_one (ps_ret (pe_own c__others hr gd (by rfl) (pa_cons (pv 0) (pa_cons (pe_own c_steps_from hr gd (by rfl) (pa_cons (pv 2) (pa_cons (pe_own c_givers hr gd (by rfl) (pa_cons (pv 0) (pa_cons (pv 1) pa_nil))) pa_nil))) pa_nil))))), ?_⟩
  have n10 := bounds_len wd.b1
  walk_at "xs"
  refine ⟨x, p, M, ds, rs, ls, rfl, cl, hp, wd, ?_⟩
  intro H1 G S1 nG eG
  walk_at "xs"
  have ul := upL_len ds (ldOf ds.length rs ls ls.length)
  refine ⟨N, a, G, ps, _, rfl, da.ext (Ext.same S1), eG, by omega, fun q hq => ⟨(rng q hq).2.2.1, (rng q hq).2.2.2⟩, ?_⟩
  intro H2 d kvs S2 nd ed ik
  have S12 := S1.trans S2
  walk_at "xs"
  refine ⟨M, x, d, ds, _, kvs, ps, _, rfl, cl.ext (Ext.same S12), wd.b1, ed, ik, ?_⟩
  intro H3 l ms S3 nl el is
  exact q H3 l ms (S12.trans S3) (S12.free nl) el is
theorem kn_grtHigh {k : Nat} (D : Df K mg "greatest_high" s_greatest_high) (B : Bl mg) (c__others : Kn P w K mg base "_others" k (spOthers C)) (c_steps_from : Kn P w K mg base "steps_from" k spStepsR) (c_takers : Kn P w K mg base "takers" k (spNumsP C dnL)) (c_turned : Kn P w K mg base "turned" k spTurned) : Kn P w K mg base "greatest_high" (k + 1) (spGrt C true) := by
  refine kn_of D (fun _ _ _ _ _ _ us hl => match us, hl with | [_, _, _], _ => rfl) sc_greatest_high (fun vs H Q E h => by obtain ⟨M, N, x, p, a, ds, rs, ls, ps, rfl, _⟩ := h; rfl) (fun f cd B' fr z H vs Q E hr gd h => ?_)
  obtain ⟨M, N, x, p, a, ds, rs, ls, ps, rfl, cl, hp, wd, da, lps, rng, q⟩ := h
  refine ⟨_, (pss_one (ps_ret (pe_own c__others hr gd (by rfl) (pa_cons (pv 0) (pa_cons (pe_own c_steps_from hr gd (by rfl) (pa_cons (pe_own c_turned hr gd (by rfl) (pa_cons (pv 2) pa_nil)) (pa_cons (pe_own c_takers hr gd (by rfl) (pa_cons (pv 0) (pa_cons (pv 1) pa_nil))) pa_nil))) pa_nil))))), ?_⟩
  have n10 := bounds_len wd.b1
  walk_at "xs"
  refine ⟨N, a, ps, rfl, da, lps, ?_⟩
  intro H0 t S0 nt dt
  have hp := S0 _ _ hp
  walk_at "xs"
  refine ⟨x, p, M, ds, rs, ls, rfl, cl.ext (Ext.same S0), hp, wd, ?_⟩
  intro H1 G S1 nG eG
  have S01 := S0.trans S1
  walk_at "xs"
  have ul := dnL_len ds (ldOf ds.length rs ls ls.length)
  refine ⟨[], t, G, swP ps, _, rfl, dt.ext (Ext.same S1), eG, by omega, sw_in rng, ?_⟩
  intro H2 d kvs S2 nd ed ik
  have S12 := S01.trans S2
  walk_at "xs"
  refine ⟨M, x, d, ds, _, kvs, swP ps, _, rfl, cl.ext (Ext.same S12), wd.b1, ed, ik, ?_⟩
  intro H3 l ms S3 nl el is
  exact q H3 l ms (S12.trans S3) (S12.free nl) el is
theorem kn_lowSet {k : Nat} (D : Df K mg "low_set" s_low_set) (B : Bl mg) (c_greatest_low : Kn P w K mg base "greatest_low" k (spGrt C false)) (c_arcs : Kn P w K mg base "arcs" k (spArcs C)) : Kn P w K mg base "low_set" (k + 1) (spLow C false) := by
  refine kn_of D (fun _ _ _ _ _ _ us hl => match us, hl with | [_, _], _ => rfl) sc_low_set (fun vs H Q E h => by obtain ⟨M, x, p, ds, rs, ls, rfl, _⟩ := h; rfl) (fun f cd B' fr z H vs Q E hr gd h => ?_)
  obtain ⟨M, x, p, ds, rs, ls, rfl, cl, hp, wd, q⟩ := h
  refine ⟨_, (pss_one (ps_ret (pe_own c_greatest_low hr gd (by rfl) (pa_cons (pv 0) (pa_cons (pv 1) (pa_cons (pe_own c_arcs hr gd (by rfl) (pa_cons (pv 0) (pa_cons (pv 1) pa_nil))) pa_nil)))))), ?_⟩
  have n10 := bounds_len wd.b1
  have len := (bundles_len wd.b2).1
  have al := arcs_len ds rs ls ls.length
  have same := wd.lo.1
  have am := arc_mem (ds := ds) (ls := ls) wd.b2 (by omega) ls.length
  walk_at "xs"
  refine ⟨x, p, M, [], ds, rs, ls, rfl, cl, hp, wd, fun m hm => (by cases hm), ?_⟩
  intro H1 a ys qs S1 na ea A so
  have hp := S1 _ _ hp
  walk_at "xs"
  refine ⟨M, [], x, p, a, ds, rs, ls, qs, rfl, cl.ext (Ext.same S1), hp, wd, .lst ea (by simp) A, by rw [so.1.length_eq]; omega, fun q hq => ?_, ?_⟩
  · have := (am q (so.1.mem_iff.mp hq)).1
    omega
  intro H2 l ms S2 nl el is
  refine q H2 l ms (S1.trans S2) (S1.free nl) el (is.mono fun i _ => ?_)
  show lsB ds i = true ∧ ¬ Rch qs _ _ ↔ lsB ds i = true ∧ ¬ Rch (arcsOf ds rs ls ls.length) _ _
  rw [Rch.perm so.1]
theorem kn_highSet {k : Nat} (D : Df K mg "high_set" s_high_set) (B : Bl mg) (c_greatest_high : Kn P w K mg base "greatest_high" k (spGrt C true)) (c_arcs : Kn P w K mg base "arcs" k (spArcs C)) : Kn P w K mg base "high_set" (k + 1) (spLow C true) := by
  refine kn_of D (fun _ _ _ _ _ _ us hl => match us, hl with | [_, _], _ => rfl) sc_high_set (fun vs H Q E h => by obtain ⟨M, x, p, ds, rs, ls, rfl, _⟩ := h; rfl) (fun f cd B' fr z H vs Q E hr gd h => ?_)
  obtain ⟨M, x, p, ds, rs, ls, rfl, cl, hp, wd, q⟩ := h
  refine ⟨_, (pss_one (ps_ret (pe_own c_greatest_high hr gd (by rfl) (pa_cons (pv 0) (pa_cons (pv 1) (pa_cons (pe_own c_arcs hr gd (by rfl) (pa_cons (pv 0) (pa_cons (pv 1) pa_nil))) pa_nil)))))), ?_⟩
  have n10 := bounds_len wd.b1
  have len := (bundles_len wd.b2).1
  have al := arcs_len ds rs ls ls.length
  have same := wd.lo.1
  have am := arc_mem (ds := ds) (ls := ls) wd.b2 (by omega) ls.length
  walk_at "xs"
  refine ⟨x, p, M, [], ds, rs, ls, rfl, cl, hp, wd, fun m hm => (by cases hm), ?_⟩
  intro H1 a ys qs S1 na ea A so
  have hp := S1 _ _ hp
  walk_at "xs"
  refine ⟨M, [], x, p, a, ds, rs, ls, qs, rfl, cl.ext (Ext.same S1), hp, wd, .lst ea (by simp) A, by rw [so.1.length_eq]; omega, fun q hq => ?_, ?_⟩
  · have := (am q (so.1.mem_iff.mp hq)).1
    omega
  intro H2 l ms S2 nl el is
  refine q H2 l ms (S1.trans S2) (S1.free nl) el (is.mono fun i _ => ?_)
  show lsB ds i = true ∧ ¬ Rch (swP qs) _ _ ↔ lsB ds i = true ∧ ¬ Rch (swP (arcsOf ds rs ls ls.length)) _ _
  rw [Rch.perm (show (swP qs).Perm (swP (arcsOf ds rs ls ls.length)) from so.1.map _)]
end
/-! ### what is low, what is high: by the law's own words -/
theorem x_nums {H : Hp} {Q : VK} {E : XK} {L : List PyData → List Int → List Int} {M : List Addr} {T : Addr} {ds rs : List PyData} {ls : List Int} (wa : WdAt M H T ds rs ls) (wd : Wd ds rs ls) (h : ∀ H' f, Same H H' → H f = none → H' f = some (.lst ((L ds (ldOf ds.length rs ls ls.length)).map V.int)) → Q (.ref f) H') : spNums L [.ref T] H Q E := ⟨M, T, ds, rs, ls, rfl, wa, wd, h⟩
theorem x_edges {H : Hp} {Q : VK} {E : XK} {M : List Addr} {T : Addr} {ds rs : List PyData} {ls : List Int} (wa : WdAt M H T ds rs ls) (wd : Wd ds rs ls) (h : ∀ (H' : Hp) (f : Addr) (ys : List V) (qs : List (Int × Int)), Same H H' → H f = none → H' f = some (.lst ys) → DnAll [] H' ys (qs.map prD) → SrtOf (arcsOf ds rs ls ls.length) qs → Q (.ref f) H') : spEdges [.ref T] H Q E := ⟨[], T, ds, rs, ls, rfl, fun m hm => (by cases hm), wa.sub (fun a h => by cases h), wd, h⟩
theorem map_nilB {α β : Type} (f : α → β) (l : List α) : (l.map f = []) = (l = []) := by simp
section
variable {P : Program} {w : World} {K : PySem.W.Frag} {mg : Str → Option Value} {base : Heap} {t0 t1 t2 t3 t4 : Tok} {C : Addr}
theorem kn_isLow {k : Nat} (D : Df K mg "_law_is_low" s_Lis_low) (B : Bl mg) (c_Labove : Kn P w K mg base "_law_above" k (spNums upL)) (c_Ledges : Kn P w K mg base "_law_edges" k spEdges) : Kn P w K mg base "_law_is_low" (k + 1) (spIsLow false) := by
  refine kn_of D (fun _ _ _ _ _ _ us hl => match us, hl with | [_, _], _ => rfl) sc_Lis_low (fun vs H Q E h => by obtain ⟨M, T, m, ds, rs, ls, ms, rfl, _⟩ := h; rfl) (fun f cd B' fr z H vs Q E hr gd h => ?_)
  obtain ⟨M, T, m, ds, rs, ls, ms, rfl, wa, wd, hm, q⟩ := h
  refine ⟨_, (pss_cons (ps_setLc (i := 2) (own := [("_law_broker", 4)]) rfl sc_Lis_low.nd rfl rfl (sw_true rfl rfl rfl (by decide +kernel)) (pi_list (pe_own c_Labove hr gd (by rfl) (pa_cons (pv 0) pa_nil))) (blkOk_by (N := ["_law_world_here", "_law_members", "_law_giving", "_law_into", "_law_broker", "_law_pair"]) (sc := defScope s_Lis_low) (by decide +kernel)) (fun _ _ _ _ _ => (pg_name (i := 4) sc_Lis_low.nd rfl (.inl rfl))) (fun _ _ _ _ _ => (pts_one (pt_cmpR (op_inSK K) (pv 4) (pv 1) (by rfl)))) (fun _ _ _ _ _ => (pv 4)))
  (pss_cons (ps_setLc (i := 3) (own := [("_law_pair", 5)]) rfl sc_Lis_low.nd rfl rfl (sw_true rfl rfl rfl (by decide +kernel)) (pi_list (pe_own c_Ledges hr gd (by rfl) (pa_cons (pv 0) pa_nil))) (blkOk_by (N := ["_law_world_here", "_law_members", "_law_giving", "_law_into", "_law_broker", "_law_pair"]) (sc := defScope s_Lis_low) (by decide +kernel)) (fun _ _ _ _ _ => (pg_name (i := 5) sc_Lis_low.nd rfl (.inl rfl))) (fun _ _ _ _ _ => (pts_one (PW.pt (pw_and (pt_cmpR (op_notInSK K) (pe_ix (r := rIxT K) ix_tup (pv 5) pe_int (fun _ _ => rfl)) (pv 1) (by rfl)) (pw_and1 (pt_cmpR (op_inSK K) (pe_ix (r := rIxT K) ix_tup (pv 5) pe_int (fun _ _ => rfl)) (pv 1) (by rfl))))))) (fun _ _ _ _ _ => (pv 5)))
  (pss_one (ps_ret (pe_and (pe_cmpR (op_eqD hr.units) (pv 2) (pe_lst pa_nil) (nomark _)) (pe_one (pe_cmpR (op_eqD hr.units) (pv 3) (pe_lst pa_nil) (nomark _)))))))), ?_⟩
  have n10 := bounds_len wd.b1
  have am := arc_mem (ds := ds) (ls := ls) wd.b2 (by omega) ls.length
  have al := arcs_len ds rs ls ls.length
  have len := (bundles_len wd.b2).1
  have same := wd.lo.1
  obtain ⟨st, est⟩ : ∃ st, st = upL ds (ldOf ds.length rs ls ls.length) := ⟨_, rfl⟩
  have stl : st.length ≤ 10 := by rw [est]; have := upL_len ds (ldOf ds.length rs ls ls.length); omega
  walk_at "xs"
  refine x_nums wa wd ?_
  intro H1 F1 S1 nF1 eF1
  rw [← est] at eF1
  have hm1 := S1 _ _ hm
  walk_at "xs"
  intro L hL
  have S2 := same_upd hL (o := .lst [])
  refine lc_list (K := K) (a := F1) (xs := st.map V.int) (fun i H' => Same H1 H' ∧ H' L = some (.lst (((st.take i).filter fun x => decide (x ∈ ms)).map V.int))) ?_ ?_ ?_ ?_
  · exact ⟨same_upd hL, upd_same⟩
  · rintro i H' _ ⟨S, _⟩
    exact SqL.of (S _ _ eF1)
  · rintro i v H' hv ⟨S, eL⟩
    obtain ⟨one, h1, rfl⟩ := int_at hv
    have hi := (List.getElem?_eq_some_iff.mp h1).1
    have fl := List.length_filter_le (fun x => decide (x ∈ ms)) (st.take i)
    rw [List.length_take] at fl
    walk_at "xs"
    refine x_wiped rfl ?_
    walk_at "xs"
    refine x_inI (S _ _ hm1) ?_
    walk_at "xs"
    have fs : (st.take (i + 1)).filter (fun x => decide (x ∈ ms)) = (st.take i).filter (fun x => decide (x ∈ ms)) ++ (if decide (one ∈ ms) = true then [one] else []) := by
      rw [List.take_add_one, h1, List.filter_append]
      congr 1
      show List.filter _ [one] = _
      by_cases e : one ∈ ms
      · simp [e]
      · simp [e]
    refine x_ite (fun hc => ?_) (fun hc => ?_)
    · walk_at "xs"
      refine x_acc eL (by rw [List.length_map, sizeLine_eq]; omega) ?_
      refine ⟨fun z o e => ?_, ?_⟩
      · rw [upd_ne (ne_of_none e hL)]; exact S _ _ e
      · rw [upd_same, fs, if_pos (decide_eq_true hc), List.map_append]; rfl
    · refine ⟨S, ?_⟩
      rw [fs, if_neg (by simpa using hc), List.append_nil]
      exact eL
  · rintro H' ⟨S, eL⟩
    rw [List.length_map, List.take_length] at eL
    have SA := S1.trans S
    walk_at "xs"
    refine x_edges (wa.ext (Ext.same SA)) wd ?_
    intro H3 F3 ys qs S3 nF3 eF3 A3 so
    have eL := S3 _ _ eL
    have SB := SA.trans S3
    have hm3 := SB _ _ hm
    have ly := A3.length
    rw [List.length_map] at ly
    have ql : qs.length ≤ 100 := by rw [so.1.length_eq]; omega
    walk_at "xs"
    intro L2 hL2
    refine lc_list (K := K) (a := F3) (xs := ys) (fun i H' => Same H3 H' ∧ ∃ acc : List V, H' L2 = some (.lst acc) ∧ DnAll [L2] H' acc (((qs.take i).filter fun p => !decide (p.1 ∈ ms) && decide (p.2 ∈ ms)).map prD)) ?_ ?_ ?_ ?_
    · exact ⟨same_upd hL2, [], upd_same, .nil⟩
    · rintro i H' _ ⟨S, _⟩
      exact SqL.of (S _ _ eF3)
    · rintro i v H4 hv ⟨S4, acc, eA, Y⟩
      obtain ⟨dP, hdP, dnP⟩ := (A3.ext (Ext.same S4)).get hv
      rw [List.getElem?_map] at hdP
      cases hpr : qs[i]? with
      | none => rw [hpr] at hdP; cases hdP
      | some pr =>
      rw [hpr] at hdP
      cases hdP
      obtain ⟨r2, rfl, nr2, hr5⟩ := dnP.pair
      have hi := (List.getElem?_eq_some_iff.mp hpr).1
      have lY := Y.length
      have fl := List.length_filter_le (fun p : Int × Int => !decide (p.1 ∈ ms) && decide (p.2 ∈ ms)) (qs.take i)
      rw [List.length_take] at fl
      rw [List.length_map] at lY
      have hm4 := S4 _ _ hm3
      walk_at "xs"
      refine x_wiped rfl ?_
      walk_at "xs"
      have fs : (qs.take (i + 1)).filter (fun p => !decide (p.1 ∈ ms) && decide (p.2 ∈ ms)) = (qs.take i).filter (fun p => !decide (p.1 ∈ ms) && decide (p.2 ∈ ms)) ++ (if (!decide (pr.1 ∈ ms) && decide (pr.2 ∈ ms)) = true then [pr] else []) := by
        rw [List.take_add_one, hpr, List.filter_append]
        congr 1
        show List.filter _ [pr] = _
        rw [List.filter_cons]
        rfl
      have skip : (!decide (pr.1 ∈ ms) && decide (pr.2 ∈ ms)) = false → DnAll [L2] H4 acc (((qs.take (i + 1)).filter fun p => !decide (p.1 ∈ ms) && decide (p.2 ∈ ms)).map prD) := fun e => by
        rw [fs, e, if_neg Bool.false_ne_true, List.append_nil]; exact Y
      refine x_notInI hm4 ?_
      refine ⟨_, rfl, ?_⟩
      by_cases c1 : pr.1 ∈ ms
      · rw [if_neg (by simp [c1])]
        exact ⟨S4, acc, eA, skip (by simp [c1])⟩
      · rw [if_pos (by simp [c1])]
        walk_at "xs"
        refine x_inI hm4 ?_
        walk_at "xs"
        refine x_ite (fun c2 => ?_) (fun c2 => ?_)
        · walk_at "xs"
          refine x_acc eA (by rw [lY, sizeLine_eq]; omega) ?_
          have X : Ext [L2] H4 (upd H4 L2 (.lst (acc ++ [.ref r2]))) := Ext.upd (by simp)
          refine ⟨fun z o e => ?_, acc ++ [.ref r2], upd_same, ?_⟩
          · rw [upd_ne (ne_of_none e hL2)]; exact S4 _ _ e
          · rw [fs, if_pos (by simp [c1, c2]), List.map_append]
            have rL : r2 ≠ L2 := fun z => by rw [z, eA] at hr5; cases hr5
            exact (Y.ext X).app (.cons (.tup (X _ _ (by simpa using rL) hr5) (by simpa using rL) (DnAll.ints [pr.1, pr.2])) .nil)
        · exact ⟨S4, acc, eA, skip (by simp [c1, c2])⟩
    · rintro H4 ⟨S4, acc, eA, Y⟩
      walk_at "xs"
      rw [ly, List.take_length] at Y
      intro p hp
      have Sp1 := same_upd hp (o := .lst [])
      have eL4 := Sp1 _ _ (S4 _ _ eL)
      have Y := Y.ext (Ext.same Sp1)
      have eA := Sp1 _ _ eA
      have ep := upd_same (H := H4) (a := p) (o := .lst [])
      have SC := SB.trans (S4.trans Sp1)
      generalize upd H4 p _ = H5 at *
      refine x_eqDn (M := []) (N := []) (.lst eL4 (by simp) (DnAll.ints _)) (.lst ep (by simp) .nil) (shaped_ints _) rfl ?_
      rw [eqv_nil]
      walk_at "xs"
      simp only [map_nilB]
      refine x_ite (fun c1 => ?_) (fun c1 => ?_)
      · walk_at "xs"
        intro p2 hp2
        have Sp2 := same_upd hp2 (o := .lst [])
        have Y := Y.ext (Ext.same Sp2)
        have eA := Sp2 _ _ eA
        have ep2 := upd_same (H := H5) (a := p2) (o := .lst [])
        have SD := SC.trans Sp2
        refine x_eqDn (M := []) (N := []) (.lst eA (by simp) (Y.sub (by simp))) (.lst ep2 (by simp) .nil) (shaped_tups (fun u hu => by obtain ⟨p, _, rfl⟩ := List.mem_map.mp hu; exact ⟨[p.1, p.2], rfl⟩)) rfl ?_
        rw [eqv_nil]
        refine q _ _ SD ?_
        show _ ↔ LowG (arcsOf ds rs ls ls.length) (upL ds (ldOf ds.length rs ls ls.length)) ms
        rw [decide_eq_true_iff, map_nilB, ← est, ← low_iff so.1]
        exact ⟨fun h => ⟨c1, h⟩, fun h => h.2⟩
      · refine q _ _ SC ⟨fun h => (by cases h), fun h => ?_⟩
        have h : LowG (arcsOf ds rs ls ls.length) (upL ds (ldOf ds.length rs ls ls.length)) ms := h
        rw [← est, ← low_iff so.1] at h
        exact absurd h.1 c1
theorem kn_isHigh {k : Nat} (D : Df K mg "_law_is_high" s_Lis_high) (B : Bl mg) (c_Lbelow : Kn P w K mg base "_law_below" k (spNums dnL)) (c_Ledges : Kn P w K mg base "_law_edges" k spEdges) : Kn P w K mg base "_law_is_high" (k + 1) (spIsLow true) := by
  refine kn_of D (fun _ _ _ _ _ _ us hl => match us, hl with | [_, _], _ => rfl) sc_Lis_high (fun vs H Q E h => by obtain ⟨M, T, m, ds, rs, ls, ms, rfl, _⟩ := h; rfl) (fun f cd B' fr z H vs Q E hr gd h => ?_)
  obtain ⟨M, T, m, ds, rs, ls, ms, rfl, wa, wd, hm, q⟩ := h
  refine ⟨_, (pss_cons (ps_setLc (i := 2) (own := [("_law_broker", 4)]) rfl sc_Lis_high.nd rfl rfl (sw_true rfl rfl rfl (by decide +kernel)) (pi_list (pe_own c_Lbelow hr gd (by rfl) (pa_cons (pv 0) pa_nil))) (blkOk_by (N := ["_law_world_here", "_law_members", "_law_taking", "_law_away", "_law_broker", "_law_pair"]) (sc := defScope s_Lis_high) (by decide +kernel)) (fun _ _ _ _ _ => (pg_name (i := 4) sc_Lis_high.nd rfl (.inl rfl))) (fun _ _ _ _ _ => (pts_one (pt_cmpR (op_inSK K) (pv 4) (pv 1) (by rfl)))) (fun _ _ _ _ _ => (pv 4)))
  (pss_cons (ps_setLc (i := 3) (own := [("_law_pair", 5)]) rfl sc_Lis_high.nd rfl rfl (sw_true rfl rfl rfl (by decide +kernel)) (pi_list (pe_own c_Ledges hr gd (by rfl) (pa_cons (pv 0) pa_nil))) (blkOk_by (N := ["_law_world_here", "_law_members", "_law_taking", "_law_away", "_law_broker", "_law_pair"]) (sc := defScope s_Lis_high) (by decide +kernel)) (fun _ _ _ _ _ => (pg_name (i := 5) sc_Lis_high.nd rfl (.inl rfl))) (fun _ _ _ _ _ => (pts_one (PW.pt (pw_and (pt_cmpR (op_inSK K) (pe_ix (r := rIxT K) ix_tup (pv 5) pe_int (fun _ _ => rfl)) (pv 1) (by rfl)) (pw_and1 (pt_cmpR (op_notInSK K) (pe_ix (r := rIxT K) ix_tup (pv 5) pe_int (fun _ _ => rfl)) (pv 1) (by rfl))))))) (fun _ _ _ _ _ => (pv 5)))
  (pss_one (ps_ret (pe_and (pe_cmpR (op_eqD hr.units) (pv 2) (pe_lst pa_nil) (nomark _)) (pe_one (pe_cmpR (op_eqD hr.units) (pv 3) (pe_lst pa_nil) (nomark _)))))))), ?_⟩
  have n10 := bounds_len wd.b1
  have am := arc_mem (ds := ds) (ls := ls) wd.b2 (by omega) ls.length
  have al := arcs_len ds rs ls ls.length
  have len := (bundles_len wd.b2).1
  have same := wd.lo.1
  obtain ⟨st, est⟩ : ∃ st, st = dnL ds (ldOf ds.length rs ls ls.length) := ⟨_, rfl⟩
  have stl : st.length ≤ 10 := by rw [est]; have := dnL_len ds (ldOf ds.length rs ls ls.length); omega
  walk_at "xs"
  refine x_nums wa wd ?_
  intro H1 F1 S1 nF1 eF1
  rw [← est] at eF1
  have hm1 := S1 _ _ hm
  walk_at "xs"
  intro L hL
  have S2 := same_upd hL (o := .lst [])
  refine lc_list (K := K) (a := F1) (xs := st.map V.int) (fun i H' => Same H1 H' ∧ H' L = some (.lst (((st.take i).filter fun x => decide (x ∈ ms)).map V.int))) ?_ ?_ ?_ ?_
  · exact ⟨same_upd hL, upd_same⟩
  · rintro i H' _ ⟨S, _⟩
    exact SqL.of (S _ _ eF1)
  · rintro i v H' hv ⟨S, eL⟩
    obtain ⟨one, h1, rfl⟩ := int_at hv
    have hi := (List.getElem?_eq_some_iff.mp h1).1
    have fl := List.length_filter_le (fun x => decide (x ∈ ms)) (st.take i)
    rw [List.length_take] at fl
    walk_at "xs"
    refine x_wiped rfl ?_
    walk_at "xs"
    refine x_inI (S _ _ hm1) ?_
    walk_at "xs"
    have fs : (st.take (i + 1)).filter (fun x => decide (x ∈ ms)) = (st.take i).filter (fun x => decide (x ∈ ms)) ++ (if decide (one ∈ ms) = true then [one] else []) := by
      rw [List.take_add_one, h1, List.filter_append]
      congr 1
      show List.filter _ [one] = _
      by_cases e : one ∈ ms
      · simp [e]
      · simp [e]
    refine x_ite (fun hc => ?_) (fun hc => ?_)
    · walk_at "xs"
      refine x_acc eL (by rw [List.length_map, sizeLine_eq]; omega) ?_
      refine ⟨fun z o e => ?_, ?_⟩
      · rw [upd_ne (ne_of_none e hL)]; exact S _ _ e
      · rw [upd_same, fs, if_pos (decide_eq_true hc), List.map_append]; rfl
    · refine ⟨S, ?_⟩
      rw [fs, if_neg (by simpa using hc), List.append_nil]
      exact eL
  · rintro H' ⟨S, eL⟩
    rw [List.length_map, List.take_length] at eL
    have SA := S1.trans S
    walk_at "xs"
    refine x_edges (wa.ext (Ext.same SA)) wd ?_
    intro H3 F3 ys qs S3 nF3 eF3 A3 so
    have eL := S3 _ _ eL
    have SB := SA.trans S3
    have hm3 := SB _ _ hm
    have ly := A3.length
    rw [List.length_map] at ly
    have ql : qs.length ≤ 100 := by rw [so.1.length_eq]; omega
    walk_at "xs"
    intro L2 hL2
    refine lc_list (K := K) (a := F3) (xs := ys) (fun i H' => Same H3 H' ∧ ∃ acc : List V, H' L2 = some (.lst acc) ∧ DnAll [L2] H' acc (((qs.take i).filter fun p => decide (p.1 ∈ ms) && !decide (p.2 ∈ ms)).map prD)) ?_ ?_ ?_ ?_
    · exact ⟨same_upd hL2, [], upd_same, .nil⟩
    · rintro i H' _ ⟨S, _⟩
      exact SqL.of (S _ _ eF3)
    · rintro i v H4 hv ⟨S4, acc, eA, Y⟩
      obtain ⟨dP, hdP, dnP⟩ := (A3.ext (Ext.same S4)).get hv
      rw [List.getElem?_map] at hdP
      cases hpr : qs[i]? with
      | none => rw [hpr] at hdP; cases hdP
      | some pr =>
      rw [hpr] at hdP
      cases hdP
      obtain ⟨r2, rfl, nr2, hr5⟩ := dnP.pair
      have hi := (List.getElem?_eq_some_iff.mp hpr).1
      have lY := Y.length
      have fl := List.length_filter_le (fun p : Int × Int => decide (p.1 ∈ ms) && !decide (p.2 ∈ ms)) (qs.take i)
      rw [List.length_take] at fl
      rw [List.length_map] at lY
      have hm4 := S4 _ _ hm3
      walk_at "xs"
      refine x_wiped rfl ?_
      walk_at "xs"
      have fs : (qs.take (i + 1)).filter (fun p => decide (p.1 ∈ ms) && !decide (p.2 ∈ ms)) = (qs.take i).filter (fun p => decide (p.1 ∈ ms) && !decide (p.2 ∈ ms)) ++ (if (decide (pr.1 ∈ ms) && !decide (pr.2 ∈ ms)) = true then [pr] else []) := by
        rw [List.take_add_one, hpr, List.filter_append]
        congr 1
        show List.filter _ [pr] = _
        rw [List.filter_cons]
        rfl
      have skip : (decide (pr.1 ∈ ms) && !decide (pr.2 ∈ ms)) = false → DnAll [L2] H4 acc (((qs.take (i + 1)).filter fun p => decide (p.1 ∈ ms) && !decide (p.2 ∈ ms)).map prD) := fun e => by
        rw [fs, e, if_neg Bool.false_ne_true, List.append_nil]; exact Y
      refine x_inI hm4 ?_
      refine ⟨_, rfl, ?_⟩
      by_cases c1 : pr.1 ∈ ms
      rotate_left
      · rw [if_neg (by simp [c1])]
        exact ⟨S4, acc, eA, skip (by simp [c1])⟩
      · rw [if_pos (by simp [c1])]
        walk_at "xs"
        refine x_notInI hm4 ?_
        refine ⟨_, rfl, ?_⟩
        by_cases c2 : pr.2 ∈ ms
        · rw [if_neg (by simp [c2])]
          exact ⟨S4, acc, eA, skip (by simp [c1, c2])⟩
        rw [if_pos (by simp [c2])]
        · walk_at "xs"
          refine x_acc eA (by rw [lY, sizeLine_eq]; omega) ?_
          have X : Ext [L2] H4 (upd H4 L2 (.lst (acc ++ [.ref r2]))) := Ext.upd (by simp)
          refine ⟨fun z o e => ?_, acc ++ [.ref r2], upd_same, ?_⟩
          · rw [upd_ne (ne_of_none e hL2)]; exact S4 _ _ e
          · rw [fs, if_pos (by simp [c1, c2]), List.map_append]
            have rL : r2 ≠ L2 := fun z => by rw [z, eA] at hr5; cases hr5
            exact (Y.ext X).app (.cons (.tup (X _ _ (by simpa using rL) hr5) (by simpa using rL) (DnAll.ints [pr.1, pr.2])) .nil)
    · rintro H4 ⟨S4, acc, eA, Y⟩
      walk_at "xs"
      rw [ly, List.take_length] at Y
      intro p hp
      have Sp1 := same_upd hp (o := .lst [])
      have eL4 := Sp1 _ _ (S4 _ _ eL)
      have Y := Y.ext (Ext.same Sp1)
      have eA := Sp1 _ _ eA
      have ep := upd_same (H := H4) (a := p) (o := .lst [])
      have SC := SB.trans (S4.trans Sp1)
      generalize upd H4 p _ = H5 at *
      refine x_eqDn (M := []) (N := []) (.lst eL4 (by simp) (DnAll.ints _)) (.lst ep (by simp) .nil) (shaped_ints _) rfl ?_
      rw [eqv_nil]
      walk_at "xs"
      simp only [map_nilB]
      refine x_ite (fun c1 => ?_) (fun c1 => ?_)
      · walk_at "xs"
        intro p2 hp2
        have Sp2 := same_upd hp2 (o := .lst [])
        have Y := Y.ext (Ext.same Sp2)
        have eA := Sp2 _ _ eA
        have ep2 := upd_same (H := H5) (a := p2) (o := .lst [])
        have SD := SC.trans Sp2
        refine x_eqDn (M := []) (N := []) (.lst eA (by simp) (Y.sub (by simp))) (.lst ep2 (by simp) .nil) (shaped_tups (fun u hu => by obtain ⟨p, _, rfl⟩ := List.mem_map.mp hu; exact ⟨[p.1, p.2], rfl⟩)) rfl ?_
        rw [eqv_nil]
        refine q _ _ SD ?_
        show _ ↔ LowG (swP (arcsOf ds rs ls ls.length)) (dnL ds (ldOf ds.length rs ls ls.length)) ms
        rw [decide_eq_true_iff, map_nilB, ← est, ← high_iff so.1]
        exact ⟨fun h => ⟨c1, h⟩, fun h => h.2⟩
      · refine q _ _ SC ⟨fun h => (by cases h), fun h => ?_⟩
        have h : LowG (swP (arcsOf ds rs ls ls.length)) (dnL ds (ldOf ds.length rs ls ls.length)) ms := h
        rw [← est, ← high_iff so.1] at h
        exact absurd h.1 c1
end

/-! ### low and high sets by the law's own search -/
theorem filt_lt {p : Nat → Bool} {n : Nat} : ∀ i ∈ (List.range n).filter p, i < n := fun i hi => List.mem_range.mp (List.mem_filter.mp hi).1
theorem st_rng {l : List Nat} {n : Nat} (h : ∀ i ∈ l, i < n) (n10 : n ≤ 10) : ∀ x ∈ cI l, 0 ≤ x ∧ x < 10 := fun x hx => by
  obtain ⟨i, hi, rfl⟩ := List.mem_map.mp hx
  have := h i hi
  omega
theorem set_notin {ds : List PyData} {ps : List (Int × Int)} {st ys : List Int} (h : ∀ x, x ∈ ys ↔ Rch ps st x) : IsSet ds.length (NotR ds ps st) ((cI (lsL ds)).filter fun x => !decide (x ∈ ys)) := by
  refine ⟨fun i => lsB ds i && !decide (((i : Nat) : Int) ∈ ys), fun i hi => ?_, ?_⟩
  · rw [Bool.and_eq_true]
    simp [NotR, h]
  · unfold cI lsL
    rw [List.filter_map, List.filter_filter]
    congr 1
    refine List.filter_congr fun i _ => ?_
    show ((!decide (((i : Nat) : Int) ∈ ys)) && lsB ds i) = _
    rw [Bool.and_comm]
def spLowW (hi : Bool) : Sp := fun vs H Q _ => ∃ (M : List Addr) (T : Addr) (ds rs : List PyData) (ls : List Int), vs = [.ref T] ∧ WdAt M H T ds rs ls ∧ Wd ds rs ls ∧
  ∀ (H' : Hp) (l : Addr) (ms : List Int), Same H H' → H l = none → H' l = some (.lst (ms.map V.int)) → IsSet ds.length (NotR ds (if hi = true then swP (arcsOf ds rs ls ls.length) else arcsOf ds rs ls ls.length) (if hi = true then dnL ds (ldOf ds.length rs ls ls.length) else upL ds (ldOf ds.length rs ls ls.length))) ms → Q (.ref l) H'
section
variable {P : Program} {w : World} {K : PySem.W.Frag} {mg : Str → Option Value} {base : Heap} {t0 t1 t2 t3 t4 : Tok} {C : Addr}
theorem kn_lowW {k : Nat} (D : Df K mg "_law_low" s_Llow) (B : Bl mg) (c_Lspread : Kn P w K mg base "_law_spread" k spSpread) (c_Ledges : Kn P w K mg base "_law_edges" k spEdges) (c_Labove : Kn P w K mg base "_law_above" k (spNums upL)) (c_Lfree : Kn P w K mg base "_law_free" k spFreeW) : Kn P w K mg base "_law_low" (k + 1) (spLowW false) := by
  refine kn_of D (fun _ _ _ _ _ _ us hl => match us, hl with | [_], _ => rfl) sc_Llow (fun vs H Q E h => by obtain ⟨M, T, ds, rs, ls, rfl, _⟩ := h; rfl) (fun f cd B' fr z H vs Q E hr gd h => ?_)
  obtain ⟨M, T, ds, rs, ls, rfl, wa, wd, q⟩ := h
  refine ⟨_, (pss_cons (ps_set (i := 1) sc_Llow.nd rfl (.inr rfl) (pe_own c_Lspread hr gd (by rfl) (pa_cons (pe_own c_Ledges hr gd (by rfl) (pa_cons (pv 0) pa_nil)) (pa_cons (pe_own c_Labove hr gd (by rfl) (pa_cons (pv 0) pa_nil)) pa_nil))))
  (pss_one (ps_ret (pe_lc (own := [("_law_broker", 2)]) rfl sc_Llow.nd (pi_list (pe_own c_Lfree hr gd (by rfl) (pa_cons (pv 0) pa_nil))) (blkOk_by (N := ["_law_world_here", "_law_found", "_law_broker"]) (sc := defScope s_Llow) (by decide +kernel)) (fun _ _ _ _ _ => (pg_name (i := 2) sc_Llow.nd rfl (.inl rfl))) (fun _ _ _ _ _ => (pts_one (pt_cmpR (op_notInSK K) (pv 2) (pv 1) (by rfl)))) (fun _ _ _ _ _ => (pv 2)))))), ?_⟩
  have n10 := bounds_len wd.b1
  have am := arc_mem (ds := ds) (ls := ls) wd.b2 (by omega) ls.length
  walk_at "xs"
  refine x_edges wa wd ?_
  intro H1 E1 ys qs S1 nE eE A1 so
  have dE : Dn [] H1 (.ref E1) (.list (qs.map prD)) := .lst eE (by simp) A1
  have qm : ∀ q ∈ qs, 0 ≤ q.2 ∧ q.2 < 10 := fun q hq => by
    have := (am q (so.1.mem_iff.mp hq)).1
    omega
  walk_at "xs"
  refine x_nums (wa.ext (Ext.same S1)) wd ?_
  intro H2 G S2 nG eG
  have S12 := S1.trans S2
  walk_at "xs"
  refine ⟨[], E1, G, qs, _, rfl, dE.ext (Ext.same S2), eG, cI_nodup _, st_rng filt_lt n10, qm, ?_⟩
  intro H3 l fs S3 nl el l10 nd up ik
  have S13 := S12.trans S3
  walk_at "xs"
  refine ⟨M, T, ds, rs, ls, rfl, wa.ext (Ext.same S13), wd, ?_⟩
  intro H4 fp S4 nfp efp
  have el := S4 _ _ el
  have S14 := S13.trans S4
  obtain ⟨pool, epool⟩ : ∃ pool, pool = cI (lsL ds) := ⟨_, rfl⟩
  rw [← epool] at efp
  have pl : pool.length ≤ 10 := by
    rw [epool, cI_len]
    have := filt_le (p := lsB ds) (List.range ds.length)
    rw [List.length_range] at this
    show ((List.range ds.length).filter (lsB ds)).length ≤ 10
    omega
  walk_at "xs"
  intro L hL
  refine lc_list (K := K) (a := fp) (xs := pool.map V.int) (fun j H' => Same H4 H' ∧ H' L = some (.lst (((pool.take j).filter fun x => !decide (x ∈ fs)).map V.int))) ?_ ?_ ?_ ?_
  · exact ⟨same_upd hL, upd_same⟩
  · rintro j H' _ ⟨S, _⟩
    exact SqL.of (S _ _ efp)
  · rintro j v H' hv ⟨S, eL⟩
    obtain ⟨one, h1, rfl⟩ := int_at hv
    have hj := (List.getElem?_eq_some_iff.mp h1).1
    have fl := List.length_filter_le (fun x => !decide (x ∈ fs)) (pool.take j)
    rw [List.length_take] at fl
    have e2 : (pool.take (j + 1)).filter (fun x => !decide (x ∈ fs)) = (pool.take j).filter (fun x => !decide (x ∈ fs)) ++ (if (!decide (one ∈ fs)) = true then [one] else []) := by
      rw [List.take_add_one, h1, List.filter_append]
      congr 1
      show List.filter _ [one] = _
      rw [List.filter_cons]
      rfl
    walk_at "xs"
    refine x_wiped rfl ?_
    walk_at "xs"
    refine x_notInI (S _ _ el) ?_
    refine ⟨_, rfl, ?_⟩
    by_cases c1 : one ∈ fs
    · rw [if_neg (by simp [c1])]
      refine ⟨S, ?_⟩
      rw [e2, if_neg (by simp [c1]), List.append_nil]
      exact eL
    · rw [if_pos (by simp [c1])]
      walk_at "xs"
      refine x_acc eL (by rw [List.length_map, sizeLine_eq]; omega) ?_
      refine ⟨fun z o e => ?_, ?_⟩
      · rw [upd_ne (ne_of_none e hL)]; exact S _ _ e
      · rw [upd_same, e2, if_pos (by simp [c1]), List.map_append]; rfl
  · rintro H' ⟨S, eL⟩
    rw [List.length_map, List.take_length] at eL
    walk_at "xs"
    refine q H' L _ (S14.trans S) (S14.free hL) eL ?_
    rw [epool]
    exact set_notin (ps := arcsOf ds rs ls ls.length) (fun x => (ik x).trans (Rch.perm so.1 x))
theorem kn_highW {k : Nat} (D : Df K mg "_law_high" s_Lhigh) (B : Bl mg) (c_Lspread : Kn P w K mg base "_law_spread" k spSpread) (c_Ledges : Kn P w K mg base "_law_edges" k spEdges) (c_Lbelow : Kn P w K mg base "_law_below" k (spNums dnL)) (c_Lback_edges : Kn P w K mg base "_law_back_edges" k spTurned) (c_Lfree : Kn P w K mg base "_law_free" k spFreeW) : Kn P w K mg base "_law_high" (k + 1) (spLowW true) := by
  refine kn_of D (fun _ _ _ _ _ _ us hl => match us, hl with | [_], _ => rfl) sc_Lhigh (fun vs H Q E h => by obtain ⟨M, T, ds, rs, ls, rfl, _⟩ := h; rfl) (fun f cd B' fr z H vs Q E hr gd h => ?_)
  obtain ⟨M, T, ds, rs, ls, rfl, wa, wd, q⟩ := h
  refine ⟨_, (pss_cons (ps_set (i := 1) sc_Lhigh.nd rfl (.inr rfl) (pe_own c_Lspread hr gd (by rfl) (pa_cons (pe_own c_Lback_edges hr gd (by rfl) (pa_cons (pe_own c_Ledges hr gd (by rfl) (pa_cons (pv 0) pa_nil)) pa_nil)) (pa_cons (pe_own c_Lbelow hr gd (by rfl) (pa_cons (pv 0) pa_nil)) pa_nil))))
  (pss_one (ps_ret (pe_lc (own := [("_law_broker", 2)]) rfl sc_Lhigh.nd (pi_list (pe_own c_Lfree hr gd (by rfl) (pa_cons (pv 0) pa_nil))) (blkOk_by (N := ["_law_world_here", "_law_found", "_law_broker"]) (sc := defScope s_Lhigh) (by decide +kernel)) (fun _ _ _ _ _ => (pg_name (i := 2) sc_Lhigh.nd rfl (.inl rfl))) (fun _ _ _ _ _ => (pts_one (pt_cmpR (op_notInSK K) (pv 2) (pv 1) (by rfl)))) (fun _ _ _ _ _ => (pv 2)))))), ?_⟩
  have n10 := bounds_len wd.b1
  have am := arc_mem (ds := ds) (ls := ls) wd.b2 (by omega) ls.length
  walk_at "xs"
  refine x_edges wa wd ?_
  intro H1 E1 ys qs S1 nE eE A1 so
  have dE : Dn [] H1 (.ref E1) (.list (qs.map prD)) := .lst eE (by simp) A1
  have qm : ∀ q ∈ swP qs, 0 ≤ q.2 ∧ q.2 < 10 := fun q hq => by
    obtain ⟨p0, hp0, rfl⟩ := List.mem_map.mp hq
    have := (am p0 (so.1.mem_iff.mp hp0)).1
    show 0 ≤ p0.1 ∧ p0.1 < 10
    omega
  have al := arcs_len ds rs ls ls.length
  have len := (bundles_len wd.b2).1
  have same := wd.lo.1
  walk_at "xs"
  refine ⟨[], E1, qs, rfl, dE, by rw [so.1.length_eq]; omega, ?_⟩
  intro H1 E1 S1' nE dE
  have S1 := S1.trans S1'
  walk_at "xs"
  refine x_nums (wa.ext (Ext.same S1)) wd ?_
  intro H2 G S2 nG eG
  have S12 := S1.trans S2
  walk_at "xs"
  refine ⟨[], E1, G, swP qs, _, rfl, dE.ext (Ext.same S2), eG, cI_nodup _, st_rng filt_lt n10, qm, ?_⟩
  intro H3 l fs S3 nl el l10 nd up ik
  have S13 := S12.trans S3
  walk_at "xs"
  refine ⟨M, T, ds, rs, ls, rfl, wa.ext (Ext.same S13), wd, ?_⟩
  intro H4 fp S4 nfp efp
  have el := S4 _ _ el
  have S14 := S13.trans S4
  obtain ⟨pool, epool⟩ : ∃ pool, pool = cI (lsL ds) := ⟨_, rfl⟩
  rw [← epool] at efp
  have pl : pool.length ≤ 10 := by
    rw [epool, cI_len]
    have := filt_le (p := lsB ds) (List.range ds.length)
    rw [List.length_range] at this
    show ((List.range ds.length).filter (lsB ds)).length ≤ 10
    omega
  walk_at "xs"
  intro L hL
  refine lc_list (K := K) (a := fp) (xs := pool.map V.int) (fun j H' => Same H4 H' ∧ H' L = some (.lst (((pool.take j).filter fun x => !decide (x ∈ fs)).map V.int))) ?_ ?_ ?_ ?_
  · exact ⟨same_upd hL, upd_same⟩
  · rintro j H' _ ⟨S, _⟩
    exact SqL.of (S _ _ efp)
  · rintro j v H' hv ⟨S, eL⟩
    obtain ⟨one, h1, rfl⟩ := int_at hv
    have hj := (List.getElem?_eq_some_iff.mp h1).1
    have fl := List.length_filter_le (fun x => !decide (x ∈ fs)) (pool.take j)
    rw [List.length_take] at fl
    have e2 : (pool.take (j + 1)).filter (fun x => !decide (x ∈ fs)) = (pool.take j).filter (fun x => !decide (x ∈ fs)) ++ (if (!decide (one ∈ fs)) = true then [one] else []) := by
      rw [List.take_add_one, h1, List.filter_append]
      congr 1
      show List.filter _ [one] = _
      rw [List.filter_cons]
      rfl
    walk_at "xs"
    refine x_wiped rfl ?_
    walk_at "xs"
    refine x_notInI (S _ _ el) ?_
    refine ⟨_, rfl, ?_⟩
    by_cases c1 : one ∈ fs
    · rw [if_neg (by simp [c1])]
      refine ⟨S, ?_⟩
      rw [e2, if_neg (by simp [c1]), List.append_nil]
      exact eL
    · rw [if_pos (by simp [c1])]
      walk_at "xs"
      refine x_acc eL (by rw [List.length_map, sizeLine_eq]; omega) ?_
      refine ⟨fun z o e => ?_, ?_⟩
      · rw [upd_ne (ne_of_none e hL)]; exact S _ _ e
      · rw [upd_same, e2, if_pos (by simp [c1]), List.map_append]; rfl
  · rintro H' ⟨S, eL⟩
    rw [List.length_map, List.take_length] at eL
    walk_at "xs"
    refine q H' L _ (S14.trans S) (S14.free hL) eL ?_
    rw [epool]
    exact set_notin (ps := swP (arcsOf ds rs ls ls.length)) (fun x => (ik x).trans (Rch.perm (so.1.map _) x))
end
/-! ### frozen bundles -/
def frE (ds : List PyData) (st : List Int) (a : Int) : Bool := !lsB ds a.toNat || decide (a ∈ st)
def frB (ds rs : List PyData) (st : List Int) (i : Nat) : Bool := match rs[i]? with
  | some (.tuple [.int a, .int b, _]) => frE ds st a || frE ds st b
  | _ => false
def frL (ds rs : List PyData) (st : List Int) : List Int := cI ((List.range rs.length).filter (frB ds rs st))
theorem frB_at {ds rs : List PyData} {st : List Int} {i : Nat} {a b c : Int} (h : rs[i]? = some (tupD [a, b, c])) : frB ds rs st i = (frE ds st a || frE ds st b) := by
  unfold frB
  rw [h]
  rfl
theorem frE_rig {ds : List PyData} {st : List Int} {a : Int} (a0 : 0 ≤ a) (a1 : a < ds.length) : decide (a ∈ st ++ cI ((List.range ds.length).filter fun i => !lsB ds i)) = frE ds st a := by
  have this : a ∈ cI ((List.range ds.length).filter fun i => !lsB ds i) ↔ lsB ds a.toNat = false := by
    have h := @cI_mem ((List.range ds.length).filter fun i => !lsB ds i) a.toNat
    rw [show ((a.toNat : Nat) : Int) = a by omega] at h
    rw [h, List.mem_filter, List.mem_range]
    exact ⟨fun h => by simpa using h.2, fun h => ⟨by omega, by simp [h]⟩⟩
  unfold frE
  rw [Bool.eq_iff_iff, decide_eq_true_iff, Bool.or_eq_true, decide_eq_true_iff, List.mem_append, this]
  simp [or_comm]
theorem x_lowS {C : Addr} {H : Hp} {Q : VK} {E : XK} {hi : Bool} {M : List Addr} {x p : Addr} {ds rs : List PyData} {ls : List Int} (cl : Clu C M H x (.list ds) (.list rs)) (hp : H p = some (.tup (ls.map V.int))) (wd : Wd ds rs ls)
    (h : ∀ (H' : Hp) (l : Addr) (ms : List Int), Same H H' → H l = none → H' l = some (.lst (ms.map V.int)) → IsSet ds.length (NotR ds (if hi = true then swP (arcsOf ds rs ls ls.length) else arcsOf ds rs ls ls.length) (if hi = true then dnL ds (ldOf ds.length rs ls ls.length) else upL ds (ldOf ds.length rs ls ls.length))) ms → Q (.ref l) H') : spLow C hi [.ref x, .ref p] H Q E := ⟨M, x, p, ds, rs, ls, rfl, cl, hp, wd, h⟩
def LoS (ds rs : List PyData) (ls : List Int) (l : List Int) : Prop := IsSet ds.length (NotR ds (arcsOf ds rs ls ls.length) (upL ds (ldOf ds.length rs ls ls.length))) l
def HiS (ds rs : List PyData) (ls : List Int) (l : List Int) : Prop := IsSet ds.length (NotR ds (swP (arcsOf ds rs ls ls.length)) (dnL ds (ldOf ds.length rs ls ls.length))) l
def spFrozen (C : Addr) : Sp := fun vs H Q _ => ∃ (M : List Addr) (x p : Addr) (ds rs : List PyData) (ls lo hi : List Int), vs = [.ref x, .ref p] ∧ Clu C M H x (.list ds) (.list rs) ∧ H p = some (.tup (ls.map V.int)) ∧ Wd ds rs ls ∧ LoS ds rs ls lo ∧ HiS ds rs ls hi ∧
  ∀ (H' : Hp) (l : Addr), Same H H' → H l = none → H' l = some (.lst ((frL ds rs (lo ++ hi)).map V.int)) → Q (.ref l) H'
section
variable {P : Program} {w : World} {K : PySem.W.Frag} {mg : Str → Option Value} {base : Heap} {t0 t1 t2 t3 t4 : Tok} {C : Addr}
theorem kn_frozen {k : Nat} (D : Df K mg "frozen" s_frozen) (B : Bl mg) (cc : Cc K mg C) (c_low_set : Kn P w K mg base "low_set" k (spLow C false)) (c_high_set : Kn P w K mg base "high_set" k (spLow C true)) (m_size : Km P w K mg base C "size" k (spSize C)) (m_is_rigid : Km P w K mg base C "is_rigid" k (spRigid C)) (m_bundles : Km P w K mg base C "bundles" k (spCopy C)) : Kn P w K mg base "frozen" (k + 1) (spFrozen C) := by
  refine kn_of D (fun _ _ _ _ _ _ us hl => match us, hl with | [_, _], _ => rfl) sc_frozen (fun vs H Q E h => by obtain ⟨M, x, p, ds, rs, ls, lo, hi, rfl, _⟩ := h; rfl) (fun f cd B' fr z H vs Q E hr gd h => ?_)
  obtain ⟨M, x, p, ds, rs, ls, lo, hi, rfl, cl, hp, wd, is1, is2, q⟩ := h
  have c_Cluster := cc.ck
  refine ⟨_, (pss_cons (ps_set (i := 2) sc_frozen.nd rfl (.inr rfl) (pe_op op_cat (pe_own c_low_set hr gd (by rfl) (pa_cons (pv 0) (pa_cons (pv 1) pa_nil))) (pe_own c_high_set hr gd (by rfl) (pa_cons (pv 0) (pa_cons (pv 1) pa_nil)))))
  (pss_cons (ps_aug (i := 2) sc_frozen.nd rfl (.inr rfl) (pe_lc (own := [("broker", 3)]) rfl sc_frozen.nd (pi_range1 (by rfl) B.range (pa_cons (pe_ownM0 (pv 0) c_Cluster.cls m_size hr gd) pa_nil)) (blkOk_by (N := ["cluster", "leads", "still", "broker", "at", "row"]) (sc := defScope s_frozen) (by decide +kernel)) (fun _ _ _ _ _ => (pg_name (i := 3) sc_frozen.nd rfl (.inl rfl))) (fun _ _ _ _ _ => (pts_one (pt_val (pe_ownM (pv 0) c_Cluster.cls m_is_rigid hr gd (pa_cons (pv 3) pa_nil))))) (fun _ _ _ _ _ => (pv 3))) ip_ext)
  (pss_one (ps_ret (pe_lc (own := [("at", 4), ("row", 5)]) rfl sc_frozen.nd (pi_enum (by rfl) B.enumerate (pa_cons (pe_ownM0 (pv 0) c_Cluster.cls m_bundles hr gd) pa_nil)) (blkOk_by (N := ["cluster", "leads", "still", "broker", "at", "row"]) (sc := defScope s_frozen) (by decide +kernel)) (fun _ _ _ _ _ => (pg_tupK K (n := 2) (pgs_cons (pg_name (i := 4) sc_frozen.nd rfl (.inl rfl)) (pgs_cons (pg_name (i := 5) sc_frozen.nd rfl (.inl rfl)) pgs_nil)))) (fun _ _ _ _ _ => (pts_one (PW.pt (pw_or (pt_cmpR (op_inSK K) (pe_ix (r := rIxT K) ix_tup (pv 5) pe_int (fun _ _ => rfl)) (pv 2) (by rfl)) (pw_or1 (pt_cmpR (op_inSK K) (pe_ix (r := rIxT K) ix_tup (pv 5) pe_int (fun _ _ => rfl)) (pv 2) (by rfl))))))) (fun _ _ _ _ _ => (pv 4))))))), ?_⟩
  have n10 := bounds_len wd.b1
  have l1 := IsSet.len is1
  have l2 := IsSet.len is2
  have len := (bundles_len wd.b2).1
  obtain ⟨dx, B0, U0, N0, kvs, hx, _⟩ := id cl
  walk_at "xs"
  refine x_lowS cl hp wd ?_
  intro H1 G1 ms1 S1 nG1 eG1 j1
  obtain rfl := IsSet.one is1 j1 (fun _ _ => Iff.rfl)
  walk_at "xs"
  refine x_lowS (cl.ext (Ext.same S1)) (S1 _ _ hp) wd ?_
  intro H2 G2 ms2 S2 nG2 eG2 j2
  obtain rfl := IsSet.one is2 j2 (fun _ _ => Iff.rfl)
  have S12 := S1.trans S2
  have eG1 := S2 _ _ eG1
  walk_at "xs"
  intro F hF
  rw [← List.map_append]
  have S3 := same_upd hF (o := .lst ((lo ++ hi).map V.int))
  have eF := upd_same (H := H2) (a := F) (o := .lst ((lo ++ hi).map V.int))
  have S13 := S12.trans S3
  have nF : H F = none := S12.free hF
  generalize upd H2 F _ = H3 at *
  walk_at "xs"
  refine x_aug rfl ?_
  have hx3 := S13 _ _ hx
  walk_at "xs"
  refine x_mAt hx3 (f3_none _ _ _ (by decide) (by decide) (by decide)) ?_
  walk_at "xs"
  refine ⟨x, M, ds, _, rfl, cl.ext (Ext.same S13), ?_⟩
  walk_at "xs"
  intro L hL
  rw [Int.toNat_natCast]
  refine lc_range (lo := 0) (n := ds.length) (fun i H' => Same H3 H' ∧ H' L = some (.lst ((cI ((List.range i).filter fun i => !lsB ds i)).map V.int))) ?_ ?_ ?_
  · exact ⟨same_upd hL, upd_same⟩
  · rintro i H' hi ⟨S, eL⟩
    have hx := S _ _ hx3
    have cl := cl.ext (Ext.same (S13.trans S))
    obtain ⟨lw, up, hrow, _, le, _⟩ := bound_at wd.b1 hi
    have hrow' : ds[(0 + (i : Int)).toNat]? = some (tupD [lw, up]) := by rw [show (0 + (i : Int)).toNat = i by omega]; exact hrow
    have ub := ls_at hrow
    have rg : (List.range (i + 1)).filter (fun i => !lsB ds i) = (List.range i).filter (fun i => !lsB ds i) ++ (if (!lsB ds i) = true then [i] else []) := by rw [List.range_succ, filt_next]
    have fl := filt_le (p := fun i => !lsB ds i) (List.range i)
    rw [List.length_range] at fl
    walk_at "xs"
    refine x_wiped rfl ?_
    walk_at "xs"
    refine x_mAt hx (f3_none _ _ _ (by decide) (by decide) (by decide)) ?_
    walk_at "xs"
    refine ⟨x, M, ds, _, 0 + (i : Int), lw, up, rfl, cl, by omega, by omega, hrow', ?_⟩
    walk_at "xs"
    refine x_ite (fun hc => ?_) (fun hc => ?_)
    · walk_at "xs"
      refine x_acc eL (by rw [List.length_map, cI_len, sizeLine_eq]; omega) ?_
      refine ⟨fun z o e => ?_, ?_⟩
      · rw [upd_ne (ne_of_none e hL)]; exact S _ _ e
      · rw [upd_same, rg, ub, decide_eq_false (show ¬ lw < up by omega), if_pos (show (!false) = true from rfl), cI_app, List.map_append, Int.zero_add]; rfl
    · refine ⟨S, ?_⟩
      rw [rg, ub, decide_eq_true (show lw < up by omega), if_neg (by decide), List.append_nil]
      exact eL
  · rintro H4 ⟨S4, eL⟩
    have S14 := S13.trans S4
    have eF4 := S4 _ _ eF
    have fl := filt_le (p := fun i => !lsB ds i) (List.range ds.length)
    rw [List.length_range] at fl
    refine x_ext eF4 eL (by rw [List.length_map, List.length_append, List.length_map, cI_len, sizeLine_eq]; omega) ?_
    rw [← List.map_append]
    obtain ⟨st, est⟩ : ∃ st, st = lo ++ hi ++ cI ((List.range ds.length).filter fun i => !lsB ds i) := ⟨_, rfl⟩
    rw [← est]
    have S5 : Same H (upd H4 F (.lst (st.map V.int))) := fun z o e => by rw [upd_ne (ne_of_none e nF)]; exact S14 _ _ e
    have eF5 := upd_same (H := H4) (a := F) (o := .lst (st.map V.int))
    generalize upd H4 F _ = H5 at *
    have hx5 := S5 _ _ hx
    walk_at "xs"
    refine x_mAt hx5 (f3_none _ _ _ (by decide) (by decide) (by decide)) ?_
    walk_at "xs"
    refine ⟨x, M, _, rs, rfl, cl.ext (Ext.same S5), ?_⟩
    intro H6 lb S6 nlb db
    cases db with
    | @lst _ rxs _ elb _ A =>
    have lA := A.length
    have eF6 := S6 _ _ eF5
    have S06 := S5.trans S6
    walk_at "xs"
    intro L2 hL2
    refine lc_enum (K := K) (a := lb) (xs := rxs) (fun i H' => Same H6 H' ∧ H' L2 = some (.lst ((cI ((List.range i).filter (frB ds rs (lo ++ hi)))).map V.int))) ?_ ?_ ?_ ?_
    · exact ⟨same_upd hL2, upd_same⟩
    · rintro i H' _ ⟨S, _⟩
      exact SqL.of (S _ _ elb)
    · rintro i v t H' hv ⟨S, eL2⟩ ht
      obtain ⟨dR, hdR, dnR⟩ := (A.ext (Ext.same S)).get hv
      have hi' := (List.getElem?_eq_some_iff.mp hdR).1
      obtain ⟨a', b', c', hr', a0, ab, bn, _⟩ := rows_at wd.b2 (by omega) hi'
      have := hr'
      rw [hdR] at this
      obtain rfl : dR = tupD [a', b', c'] := Option.some.inj this
      obtain ⟨r', rfl, _, hr2⟩ := Dn.tup3 (a := a') (b := b') (c := c') dnR
      have rg : (List.range (i + 1)).filter (frB ds rs (lo ++ hi)) = (List.range i).filter (frB ds rs (lo ++ hi)) ++ (if frB ds rs (lo ++ hi) i = true then [i] else []) := by rw [List.range_succ, filt_next]
      have fa := frB_at (ds := ds) (st := lo ++ hi) hdR
      have ea : decide (a' ∈ st) = frE ds (lo ++ hi) a' := by rw [est]; exact frE_rig a0 (by omega)
      have eb : decide (b' ∈ st) = frE ds (lo ++ hi) b' := by rw [est]; exact frE_rig (by omega) bn
      have fl2 := filt_le (p := frB ds rs (lo ++ hi)) (List.range i)
      rw [List.length_range] at fl2
      have S7 := same_upd ht (o := .tup [.int (i : Nat), .ref r'])
      have et := upd_same (H := H') (a := t) (o := .tup [.int (i : Nat), .ref r'])
      have hr3 := S7 _ _ hr2
      have eF7 := S7 _ _ (S _ _ eF6)
      have eL2 := S7 _ _ eL2
      have S := S.trans S7
      generalize upd H' t _ = H7 at *
      walk_at "xs"
      refine x_wiped rfl ?_
      walk_at "xs"
      refine x_inI eF7 ?_
      refine ⟨_, rfl, ?_⟩
      by_cases c1 : a' ∈ st
      · rw [if_pos (decide_eq_true c1)]
        walk_at "xs"
        refine x_acc eL2 (by rw [List.length_map, cI_len, sizeLine_eq]; omega) ?_
        refine ⟨fun z o e => ?_, ?_⟩
        · rw [upd_ne (ne_of_none e hL2)]; exact S _ _ e
        · rw [upd_same, rg, fa, if_pos (by rw [← ea, ← eb]; simp [c1]), cI_app, List.map_append]; rfl
      · rw [if_neg (by simp [c1])]
        walk_at "xs"
        refine x_inI eF7 ?_
        walk_at "xs"
        refine x_ite (fun c2 => ?_) (fun c2 => ?_)
        · walk_at "xs"
          refine x_acc eL2 (by rw [List.length_map, cI_len, sizeLine_eq]; omega) ?_
          refine ⟨fun z o e => ?_, ?_⟩
          · rw [upd_ne (ne_of_none e hL2)]; exact S _ _ e
          · rw [upd_same, rg, fa, if_pos (by rw [← ea, ← eb]; simp [c1, c2]), cI_app, List.map_append]; rfl
        · refine ⟨S, ?_⟩
          rw [rg, fa, if_neg (by rw [← ea, ← eb]; simp [c1, c2]), List.append_nil]
          exact eL2
    · rintro H' ⟨S, eL2⟩
      rw [lA] at eL2
      walk_at "xs"
      exact q H' L2 (S06.trans S) (S06.free hL2) eL2
end
/-! ### frozen bundles by the law's words -/
def spFrozenW : Sp := fun vs H Q _ => ∃ (M : List Addr) (T : Addr) (ds rs : List PyData) (ls lo hi : List Int), vs = [.ref T] ∧ WdAt M H T ds rs ls ∧ Wd ds rs ls ∧ LoS ds rs ls lo ∧ HiS ds rs ls hi ∧
  ∀ (H' : Hp) (l : Addr), Same H H' → H l = none → H' l = some (.lst ((frL ds rs (lo ++ hi)).map V.int)) → Q (.ref l) H'
theorem x_lowW {H : Hp} {Q : VK} {E : XK} {hi : Bool} {M : List Addr} {T : Addr} {ds rs : List PyData} {ls : List Int} (wa : WdAt M H T ds rs ls) (wd : Wd ds rs ls)
    (h : ∀ (H' : Hp) (l : Addr) (ms : List Int), Same H H' → H l = none → H' l = some (.lst (ms.map V.int)) → IsSet ds.length (NotR ds (if hi = true then swP (arcsOf ds rs ls ls.length) else arcsOf ds rs ls ls.length) (if hi = true then dnL ds (ldOf ds.length rs ls ls.length) else upL ds (ldOf ds.length rs ls ls.length))) ms → Q (.ref l) H') : spLowW hi [.ref T] H Q E := ⟨M, T, ds, rs, ls, rfl, wa, wd, h⟩
theorem free_mem {ds : List PyData} {a : Int} (a0 : 0 ≤ a) (a1 : a < ds.length) : a ∈ cI (lsL ds) ↔ lsB ds a.toNat = true := by
  have h := @cI_mem (lsL ds) a.toNat
  rw [show ((a.toNat : Nat) : Int) = a by omega] at h
  rw [h]
  unfold lsL
  rw [List.mem_filter, List.mem_range]
  exact ⟨fun h => h.2, fun h => ⟨by omega, h⟩⟩
section
variable {P : Program} {w : World} {K : PySem.W.Frag} {mg : Str → Option Value} {base : Heap} {t0 t1 t2 t3 t4 : Tok} {C : Addr}
theorem kn_frozenW {k : Nat} (D : Df K mg "_law_frozen" s_Lfrozen) (B : Bl mg) (c_Llow : Kn P w K mg base "_law_low" k (spLowW false)) (c_Lhigh : Kn P w K mg base "_law_high" k (spLowW true)) (c_Lfree : Kn P w K mg base "_law_free" k spFreeW) : Kn P w K mg base "_law_frozen" (k + 1) spFrozenW := by
  refine kn_of D (fun _ _ _ _ _ _ us hl => match us, hl with | [_], _ => rfl) sc_Lfrozen (fun vs H Q E h => by obtain ⟨M, T, ds, rs, ls, lo, hi, rfl, _⟩ := h; rfl) (fun f cd B' fr z H vs Q E hr gd h => ?_)
  obtain ⟨M, T, ds, rs, ls, lo, hi, rfl, wa, wd, is1, is2, q⟩ := h
  refine ⟨_, (pss_cons (ps_asg (pe_tup (pa_cons (pe_own c_Lfree hr gd (by rfl) (pa_cons (pv 0) pa_nil)) (pa_cons (pe_op op_cat (pe_own c_Llow hr gd (by rfl) (pa_cons (pv 0) pa_nil)) (pe_own c_Lhigh hr gd (by rfl) (pa_cons (pv 0) pa_nil))) pa_nil))) (pg_tup (by rfl) (pgs_cons (pg_name (i := 1) sc_Lfrozen.nd rfl (.inr rfl)) (pgs_cons (pg_name (i := 2) sc_Lfrozen.nd rfl (.inr rfl)) pgs_nil))))
  (pss_cons (ps_set (i := 3) sc_Lfrozen.nd rfl (.inl rfl) (pe_lst pa_nil))
  (pss_cons (ps_for PassesOwn.never rfl (pi_range1 (by rfl) B.range (pa_cons (pe_callB call_len_seq (by rfl) B.len (by decide +kernel) (pa_cons (pe_ix (r := rIxT K) ix_tup (pv 0) pe_int (fun _ _ => rfl)) pa_nil)) pa_nil)) (pg_name (i := 4) sc_Lfrozen.nd rfl (.inl rfl))
  (pss_cons (ps_set (i := 5) sc_Lfrozen.nd rfl (.inl rfl) (pe_slice (r := rSlA K) sl_tupA (pe_ix (r := rIxL K) ix_list (pe_ix (r := rIxT K) ix_tup (pv 0) pe_int (fun _ _ => rfl)) (pv 4) (fun _ _ => rfl)) po_none (po_some pe_int)))
  (pss_one (ps_if (pt_cmpR (op_neD hr.units) (pe_lc (own := [("_law_broker", 6)]) rfl sc_Lfrozen.nd (pi_tup (pv 5)) (blkOk_by (N := ["_law_world_here", "_law_free_here", "_law_still", "_law_found", "_law_number", "_law_pair", "_law_broker"]) (sc := defScope s_Lfrozen) (by decide +kernel)) (fun _ _ _ _ _ => (pg_name (i := 6) sc_Lfrozen.nd rfl (.inl rfl))) (fun _ _ _ _ _ => (pts_one (PW.pt (pw_or (pt_cmpR (op_notInSK K) (pv 6) (pv 1) (by rfl)) (pw_or1 (pt_cmpR (op_inSK K) (pv 6) (pv 2) (by rfl))))))) (fun _ _ _ _ _ => (pv 6))) (pe_lst pa_nil) (nomark _)) (pss_one (ps_expr (pe_bm PySem.F.plainAttrs_list PySem.F.slot_list_append PySem.F.type_list_append mt_append (pv 3) (pa_cons (pv 4) pa_nil)))) pss_nil))))
  (pss_one (ps_ret (pv 3)))))), ?_⟩
  have n10 := bounds_len wd.b1
  have l1 := IsSet.len is1
  have l2 := IsSet.len is2
  have len := (bundles_len wd.b2).1
  walk_at "xs"
  refine ⟨M, T, ds, rs, ls, rfl, wa, wd, ?_⟩
  intro H1 fp S1 nfp efp
  walk_at "xs"
  refine x_lowW (wa.ext (Ext.same S1)) wd ?_
  intro H2 G1 ms1 S2 nG1 eG1 j1
  obtain rfl := IsSet.one is1 j1 (fun _ _ => Iff.rfl)
  have S12 := S1.trans S2
  have efp := S2 _ _ efp
  walk_at "xs"
  refine x_lowW (wa.ext (Ext.same S12)) wd ?_
  intro H3 G2 ms2 S3 nG2 eG2 j2
  obtain rfl := IsSet.one is2 j2 (fun _ _ => Iff.rfl)
  have S13 := S12.trans S3
  have efp := S3 _ _ efp
  have eG1 := S3 _ _ eG1
  walk_at "xs"
  intro F hF
  rw [← List.map_append]
  have S4 := same_upd hF (o := .lst ((lo ++ hi).map V.int))
  have eF := upd_same (H := H3) (a := F) (o := .lst ((lo ++ hi).map V.int))
  have efp := S4 _ _ efp
  have S14 := S13.trans S4
  generalize upd H3 F _ = H4 at *
  obtain ⟨pool, epool⟩ : ∃ pool, pool = cI (lsL ds) := ⟨_, rfl⟩
  rw [← epool] at efp
  walk_at "xs"
  intro tt htt
  have St := same_upd htt (o := .tup [.ref fp, .ref F])
  have ett := upd_same (H := H4) (a := tt) (o := .tup [.ref fp, .ref F])
  have efp := St _ _ efp
  have eF := St _ _ eF
  have S14 := S14.trans St
  generalize upd H4 tt _ = H4 at *
  walk_at "xs"
  intro R hR
  have S5 := same_upd hR (o := .lst [])
  have efp0 := efp
  have eF0 := eF
  have eR := upd_same (H := H4) (a := R) (o := .lst [])
  have nR : H R = none := S14.free hR
  have efp := S5 _ _ efp
  have eF := S5 _ _ eF
  have S15 := S14.trans S5
  generalize upd H4 R _ = H5 at *
  obtain ⟨f1, f2, f3, eT, nT, d1, d2, n3, e3⟩ := wa.ex
  have eT5 := S15 _ _ eT
  cases d2 with
  | @lst _ rxs _ e2 m2 A =>
  have lA := A.length
  have e25 := S15 _ _ e2
  walk_at "xs"
  rw [lA, Int.toNat_natCast]
  refine for_range (lo := 0) (n := rs.length) (fun i σ' H' => ∃ y4 y5 y6, σ' = [some (.ref T), some (.ref fp), some (.ref F), some (.ref R), y4, y5, y6] ∧ Ext [R] H5 H' ∧ Same H H' ∧ H' R = some (.lst ((cI ((List.range i).filter (frB ds rs (lo ++ hi)))).map V.int))) ?_ ?_ ?_
  · exact ⟨_, _, _, rfl, Ext.refl _ _, S15, eR⟩
  · rintro i _ H' hi' ⟨y4, y5, y6, rfl, X, S, eR⟩
    obtain ⟨a', b', c', hr', a0, ab, bn, _⟩ := rows_at wd.b2 (by omega) hi'
    have eT' := S _ _ eT
    have e2' := S _ _ e2
    obtain ⟨u, eu, au⟩ := ix_at e2' (i := 0 + (i : Int)) (by omega) (by omega)
    rw [show (0 + (i : Int)).toNat = i by omega] at eu
    obtain ⟨dR, hdR, dnR⟩ := (A.ext (Ext.same S)).get eu
    rw [hr'] at hdR
    obtain rfl : tupD [a', b', c'] = dR := Option.some.inj hdR
    obtain ⟨r', rfl, _, hr2⟩ := Dn.tup3 (a := a') (b := b') (c := c') dnR
    have fa := frB_at (ds := ds) (st := lo ++ hi) hr'
    have rg : (List.range (i + 1)).filter (frB ds rs (lo ++ hi)) = (List.range i).filter (frB ds rs (lo ++ hi)) ++ (if frB ds rs (lo ++ hi) i = true then [i] else []) := by rw [List.range_succ, filt_next]
    have fl2 := filt_le (p := frB ds rs (lo ++ hi)) (List.range i)
    rw [List.length_range] at fl2
    have efp6 := X _ _ (by simp; exact ne_of_none efp0 hR) efp
    have eF6 := X _ _ (by simp; exact ne_of_none eF0 hR) eF
    walk_at "xs"
    refine x_ixL (SqL.of e2') au ?_
    walk_at "xs"
    refine x_sl2 hr2 ?_
    intro pp H6 S6 epp
    have efp6 := S6 _ _ efp6
    have eF6 := S6 _ _ eF6
    have eR6 := S6 _ _ eR
    walk_at "xs"
    intro L hL
    refine lc_tup (K := K) (a := pp) (xs := [.int a', .int b']) (fun j H' => Same H6 H' ∧ H' L = some (.lst ((([a', b'].take j).filter (frE ds (lo ++ hi))).map V.int))) ?_ ?_ ?_ ?_
    · exact ⟨same_upd hL, upd_same⟩
    · rintro j H' _ ⟨S, _⟩
      exact SqT.of (S _ _ epp)
    · rintro j v H7 hv ⟨S7, eL⟩
      obtain ⟨one, h1, rfl⟩ := int_at (ls := [a', b']) hv
      have hj := (List.getElem?_eq_some_iff.mp h1).1
      have hj : j < 2 := hj
      have one_in : 0 ≤ one ∧ one < ds.length := by
        have := List.mem_of_getElem? h1
        simp only [List.mem_cons, List.not_mem_nil, or_false] at this
        rcases this with rfl | rfl <;> omega
      have pm := free_mem one_in.1 one_in.2
      rw [← epool] at pm
      have fl := List.length_filter_le (frE ds (lo ++ hi)) ([a', b'].take j)
      rw [List.length_take] at fl
      have fs : ([a', b'].take (j + 1)).filter (frE ds (lo ++ hi)) = ([a', b'].take j).filter (frE ds (lo ++ hi)) ++ (if frE ds (lo ++ hi) one = true then [one] else []) := by
        rw [List.take_add_one, h1, List.filter_append]
        congr 1
        show List.filter _ [one] = _
        rw [List.filter_cons]
        rfl
      walk_at "xs"
      refine x_wiped rfl ?_
      walk_at "xs"
      refine x_notInI (S7 _ _ efp6) ?_
      refine ⟨_, rfl, ?_⟩
      by_cases c1 : one ∈ pool
      · rw [if_neg (by simp [c1])]
        walk_at "xs"
        refine x_inI (S7 _ _ eF6) ?_
        walk_at "xs"
        have fe : frE ds (lo ++ hi) one = decide (one ∈ lo ++ hi) := by unfold frE; rw [pm.mp c1]; rfl
        refine x_ite (fun c2 => ?_) (fun c2 => ?_)
        · walk_at "xs"
          refine x_acc eL (by rw [List.length_map, sizeLine_eq]; omega) ?_
          refine ⟨fun z o e => ?_, ?_⟩
          · rw [upd_ne (ne_of_none e hL)]; exact S7 _ _ e
          · rw [upd_same, fs, if_pos (by rw [fe]; exact decide_eq_true c2), List.map_append]; rfl
        · refine ⟨S7, ?_⟩
          rw [fs, if_neg (by rw [fe]; simpa using c2), List.append_nil]
          exact eL
      · rw [if_pos (by simp [c1])]
        walk_at "xs"
        have fe : frE ds (lo ++ hi) one = true := by
          unfold frE
          cases e : lsB ds one.toNat
          · rfl
          · exact absurd (pm.mpr e) c1
        refine x_acc eL (by rw [List.length_map, sizeLine_eq]; omega) ?_
        refine ⟨fun z o e => ?_, ?_⟩
        · rw [upd_ne (ne_of_none e hL)]; exact S7 _ _ e
        · rw [upd_same, fs, if_pos fe, List.map_append]; rfl
    · rintro H7 ⟨S7, eL⟩
      have S67 := S6.trans S7
      have eR7 := S7 _ _ eR6
      walk_at "xs"
      intro p hp
      have Sp := same_upd hp (o := .lst [])
      have ep := upd_same (H := H7) (a := p) (o := .lst [])
      have eL8 := Sp _ _ eL
      have eR8 := Sp _ _ eR7
      have S68 := S67.trans Sp
      generalize upd H7 p _ = H8 at *
      have nil : ([a', b'].filter (frE ds (lo ++ hi)) = []) = (frB ds rs (lo ++ hi) i = false) := by
        rw [fa, filt_none, eq_iff_iff]
        simp
      refine x_neDn (M := []) (N := []) (.lst eL8 (by simp) (DnAll.ints _)) (.lst ep (by simp) .nil) (shaped_ints _) rfl ?_
      rw [eqv_nil]
      simp only [map_nilB]
      have tk2 : [a', b'].take [V.int a', V.int b'].length = [a', b'] := rfl
      rw [tk2]
      by_cases fb : frB ds rs (lo ++ hi) i = true
      · have ne : ¬ ([a', b'].filter (frE ds (lo ++ hi)) = []) := by rw [nil, fb]; exact fun h => by cases h
        refine ⟨_, rfl, ?_⟩
        rw [if_pos (by rw [decide_eq_false ne]; rfl)]
        walk_at "xs"
        refine x_app eR8 (by rw [List.length_map, cI_len, sizeLine_eq]; omega) ?_
        refine ⟨_, _, _, rfl, X.trans ((Ext.same S68).trans (Ext.upd (by simp))), fun z o e => ?_, ?_⟩
        · rw [upd_ne (ne_of_none e nR)]; exact S68 _ _ (S _ _ e)
        · rw [upd_same, rg, if_pos fb, cI_app, List.map_append, Int.zero_add]; rfl
      · have ne : [a', b'].filter (frE ds (lo ++ hi)) = [] := by rw [nil]; simpa using fb
        refine ⟨_, rfl, ?_⟩
        rw [if_neg (by rw [decide_eq_true ne]; decide)]
        walk_at "xs"
        refine ⟨_, _, _, rfl, X.trans (Ext.same S68), S.trans S68, ?_⟩
        rw [rg, if_neg fb, List.append_nil]
        exact eR8
  · rintro _ H' ⟨y4, y5, y6, rfl, X, S, eR⟩
    walk_at "xs"
    exact q H' R S nR eR
end
/-! ### what bars a bundle -/
def hitB (ms : List Int) (a b : Int) : Bool := decide (a ∈ ms) || decide (b ∈ ms)
def barK (ds : List PyData) (lo hi : List Int) (a b : Int) : PyData :=
  if lsB ds a.toNat = false then .tuple [.str "rigid", .int a] else if lsB ds b.toNat = false then .tuple [.str "rigid", .int b] else
  if hitB lo a b = true then .tuple [.str "low", .list (lo.map PyData.int)] else if hitB hi a b = true then .tuple [.str "high", .list (hi.map PyData.int)] else .none
def BarV (H H' : Hp) (v : V) (d : PyData) : Prop := (d = .none ∧ v = .non) ∨ (∃ (t : Addr) (m : Int), d = .tuple [.str "rigid", .int m] ∧ v = .ref t ∧ H t = none ∧ H' t = some (.tup [.str "rigid", .int m])) ∨
  (∃ (t l : Addr) (k : Str) (ms : List Int), d = .tuple [.str k, .list (ms.map PyData.int)] ∧ (k = "low" ∨ k = "high") ∧ v = .ref t ∧ H t = none ∧ H' t = some (.tup [.str k, .ref l]) ∧ H l = none ∧ H' l = some (.lst (ms.map V.int)))
def spEnds (C : Addr) : Sp := fun vs H Q _ => ∃ (M : List Addr) (x : Addr) (n : Int) (d1 : PyData) (rs : List PyData) (a b c : Int), vs = [.ref x, .int n] ∧ Clu C M H x d1 (.list rs) ∧ 0 ≤ n ∧ rs[n.toNat]? = some (tupD [a, b, c]) ∧ ∀ H' l, Same H H' → H l = none → H' l = some (.lst [.int a, .int b]) → Q (.ref l) H'
def spMeet : Sp := fun vs H Q _ => ∃ (p q : Addr) (ms ws : List Int), vs = [.ref p, .ref q] ∧ H p = some (.lst (ms.map V.int)) ∧ H q = some (.lst (ws.map V.int)) ∧ ws.length ≤ 100 ∧ ∀ H', Same H H' → Q (.bl (ws.any fun x => decide (x ∈ ms))) H'
section
variable {P : Program} {w : World} {K : PySem.W.Frag} {mg : Str → Option Value} {base : Heap} {t0 t1 t2 t3 t4 : Tok} {C : Addr}
theorem kn_ends {k : Nat} (D : DfA K mg "ends_frozen" "_ends" s_ends_frozen) (B : Bl mg) (cc : Cc K mg C) (m_bundles : Km P w K mg base C "bundles" k (spCopy C)) : Kn P w K mg base "ends_frozen" (k + 1) (spEnds C) := by
  refine kn_ofA D (fun _ _ _ _ _ _ us hl => match us, hl with | [_, _], _ => rfl) sc_ends_frozen (fun vs H Q E h => by obtain ⟨M, x, n, d1, rs, a, b, c, rfl, _⟩ := h; rfl) (fun f cd B' fr z H vs Q E hr gd h => ?_)
  obtain ⟨M, x, n, d1, rs, a, b, c, rfl, cl, n0, hrow, q⟩ := h
  have c_Cluster := cc.ck
  refine ⟨_, (pss_cons (ps_asg (pe_ix (r := rIxL K) ix_list (pe_ownM0 (pv 0) c_Cluster.cls m_bundles hr gd) (pv 1) (fun _ _ => rfl)) (pg_tup (by rfl) (pgs_cons (pg_name (i := 2) sc_ends_frozen.nd rfl (.inl rfl)) (pgs_cons (pg_name (i := 3) sc_ends_frozen.nd rfl (.inl rfl)) (pgs_cons (pg_name (i := 4) sc_ends_frozen.nd rfl (.inl rfl)) pgs_nil)))))
  (pss_one (ps_ret (pe_lst (pa_cons (pv 2) (pa_cons (pv 3) pa_nil)))))), ?_⟩
  obtain ⟨dx, B0, U0, N0, kvs, hx, _⟩ := id cl
  walk_at "xs"
  refine x_mAt hx (f3_none _ _ _ (by decide) (by decide) (by decide)) ?_
  walk_at "xs"
  refine ⟨x, M, d1, rs, rfl, cl, ?_⟩
  intro H6 lb S6 nlb db
  cases db with
  | @lst _ rxs _ elb _ A =>
  have lA := A.length
  have n1 := (List.getElem?_eq_some_iff.mp hrow).1
  obtain ⟨u, eu, au⟩ := ix_at elb (i := n) n0 (by omega)
  obtain ⟨dR, hdR, dnR⟩ := A.get eu
  rw [hrow] at hdR
  obtain rfl : tupD [a, b, c] = dR := Option.some.inj hdR
  obtain ⟨r', rfl, _, hr2⟩ := Dn.tup3 (a := a) (b := b) (c := c) dnR
  walk_at "xs"
  refine x_ixL (SqL.of elb) au ?_
  walk_at "xs"
  intro l hl
  exact q _ l (S6.trans (same_upd hl)) (S6.free hl) upd_same
theorem kn_meet {k : Nat} (D : Df K mg "_meet" s__meet) (B : Bl mg) : Kn P w K mg base "_meet" (k + 1) spMeet := by
  refine kn_of D (fun _ _ _ _ _ _ us hl => match us, hl with | [_, _], _ => rfl) sc__meet (fun vs H Q E h => by obtain ⟨p, q, ms, ws, rfl, _⟩ := h; rfl) (fun f cd B' fr z H vs Q E hr gd h => ?_)
  obtain ⟨p, r, ms, ws, rfl, hp, hr2, l100, q⟩ := h
  refine ⟨_, (pss_one (ps_ret (pe_callB (cr_any rfl) (by rfl) B.any (by decide +kernel) (pa_cons (pe_lc (own := [("broker", 2)]) rfl sc__meet.nd (pi_list (pv 1)) (blkOk_by (N := ["members", "wanted", "broker"]) (sc := defScope s__meet) (by decide +kernel)) (fun _ _ _ _ _ => (pg_name (i := 2) sc__meet.nd rfl (.inl rfl))) (fun _ _ _ _ _ => pts_nil) (fun _ _ _ _ _ => (pe_cmpR (op_inSK K) (pv 2) (pv 0) (by rfl)))) pa_nil)))), ?_⟩
  walk_at "xs"
  intro L hL
  refine lc_list (K := K) (a := r) (xs := ws.map V.int) (fun j H' => Same H H' ∧ H' L = some (.lst (((ws.take j).map fun x => decide (x ∈ ms)).map V.bl))) ?_ ?_ ?_ ?_
  · exact ⟨same_upd hL, upd_same⟩
  · rintro j H' _ ⟨S, _⟩
    exact SqL.of (S _ _ hr2)
  · rintro j v H' hv ⟨S, eL⟩
    obtain ⟨one, h1, rfl⟩ := int_at hv
    have hj := (List.getElem?_eq_some_iff.mp h1).1
    walk_at "xs"
    refine x_wiped rfl ?_
    walk_at "xs"
    refine x_inI (S _ _ hp) ?_
    walk_at "xs"
    refine x_acc eL (by rw [List.length_map, List.length_map, List.length_take, sizeLine_eq]; omega) ?_
    refine ⟨fun z o e => ?_, ?_⟩
    · rw [upd_ne (ne_of_none e hL)]; exact S _ _ e
    · rw [upd_same, List.take_add_one, h1, List.map_append, List.map_append]; rfl
  · rintro H' ⟨S, eL⟩
    rw [List.length_map, List.take_length] at eL
    walk_at "xs"
    refine ⟨L, _, rfl, SqL.of eL, ?_⟩
    rw [List.any_map]
    exact q _ S
end
/-- the first obstacle of two ends -/
def spFO (C : Addr) : Sp := fun vs H Q _ => ∃ (M N : List Addr) (x p g e : Addr) (ds rs : List PyData) (ls lo hi : List Int) (qs : List (Int × Int)) (a b : Int), vs = [.ref x, .ref p, .ref g, .ref e, .ref e, .ref e] ∧ Clu C M H x (.list ds) (.list rs) ∧ H p = some (.tup (ls.map V.int)) ∧ Wd ds rs ls ∧
  Dn N H (.ref g) (.list (qs.map prD)) ∧ SrtOf (arcsOf ds rs ls ls.length) qs ∧ H e = some (.lst [.int a, .int b]) ∧ 0 ≤ a ∧ a < b ∧ b < ds.length ∧ LoS ds rs ls lo ∧ HiS ds rs ls hi ∧ ∀ H' v, Same H H' → BarV H H' v (barK ds lo hi a b) → Q v H'
theorem set_perm {ds : List PyData} {ps qs : List (Int × Int)} {st l : List Int} (h : qs.Perm ps) (is : IsSet ds.length (NotR ds qs st) l) : IsSet ds.length (NotR ds ps st) l :=
  is.mono fun i _ => by unfold NotR; rw [Rch.perm h]
theorem hit_any (ms : List Int) (a b : Int) : ([a, b].any fun x => decide (x ∈ ms)) = hitB ms a b := by
  simp [hitB]
section
variable {P : Program} {w : World} {K : PySem.W.Frag} {mg : Str → Option Value} {base : Heap} {t0 t1 t2 t3 t4 : Tok} {C : Addr}
theorem kn_first {k : Nat} (D : Df K mg "first_obstacle" s_first_obstacle) (B : Bl mg) (cc : Cc K mg C) (m_is_rigid : Km P w K mg base C "is_rigid" k (spRigid C)) (c_greatest_low : Kn P w K mg base "greatest_low" k (spGrt C false)) (c_greatest_high : Kn P w K mg base "greatest_high" k (spGrt C true)) (c__meet : Kn P w K mg base "_meet" k spMeet) : Kn P w K mg base "first_obstacle" (k + 1) (spFO C) := by
  refine kn_of D (fun _ _ _ _ _ _ us hl => match us, hl with | [_, _, _, _, _, _], _ => rfl) sc_first_obstacle (fun vs H Q E h => by obtain ⟨M, N, x, p, g, e, ds, rs, ls, lo, hi, qs, a, b, rfl, _⟩ := h; rfl) (fun f cd B' fr z H vs Q E hr gd h => ?_)
  obtain ⟨M, N, x, p, g, e, ds, rs, ls, lo, hi, qs, a, b, rfl, cl, hp, wd, dg, so, he, a0, ab, bn, is1, is2, q⟩ := h
  have c_Cluster := cc.ck
  refine ⟨_, (pss_cons (ps_setLc (i := 6) (own := [("broker", 8)]) rfl sc_first_obstacle.nd rfl rfl (sw_true rfl rfl rfl (by decide +kernel)) (pi_list (pe_callB cr_sorted (by rfl) B.sorted (by decide +kernel) (pa_cons (pv 3) pa_nil))) (blkOk_by (N := ["cluster", "leads", "pairs", "ends", "lows", "highs", "rigid", "members", "broker"]) (sc := defScope s_first_obstacle) (by decide +kernel)) (fun _ _ _ _ _ => (pg_name (i := 8) sc_first_obstacle.nd rfl (.inl rfl))) (fun _ _ _ _ _ => (pts_one (pt_val (pe_ownM (pv 0) c_Cluster.cls m_is_rigid hr gd (pa_cons (pv 8) pa_nil))))) (fun _ _ _ _ _ => (pv 8)))
  (pss_cons (ps_if (pt_truth (pv 6) (by intro _; rfl)) (pss_one (ps_ret (pe_tup (pa_cons pe_str (pa_cons (pe_ix (r := rIxL K) ix_list (pv 6) pe_int (fun _ _ => rfl)) pa_nil))))) pss_nil)
  (pss_cons (ps_set (i := 7) sc_first_obstacle.nd rfl (.inl rfl) (pe_own c_greatest_low hr gd (by rfl) (pa_cons (pv 0) (pa_cons (pv 1) (pa_cons (pv 2) pa_nil)))))
  (pss_cons (ps_if (pt_val (pe_own c__meet hr gd (by rfl) (pa_cons (pv 7) (pa_cons (pv 4) pa_nil)))) (pss_one (ps_ret (pe_tup (pa_cons pe_str (pa_cons (pv 7) pa_nil))))) pss_nil)
  (pss_cons (ps_set (i := 7) sc_first_obstacle.nd rfl (.inl rfl) (pe_own c_greatest_high hr gd (by rfl) (pa_cons (pv 0) (pa_cons (pv 1) (pa_cons (pv 2) pa_nil)))))
  (pss_cons (ps_if (pt_val (pe_own c__meet hr gd (by rfl) (pa_cons (pv 7) (pa_cons (pv 5) pa_nil)))) (pss_one (ps_ret (pe_tup (pa_cons pe_str (pa_cons (pv 7) pa_nil))))) pss_nil)
  (pss_one (ps_ret pe_non)))))))), ?_⟩
  obtain ⟨dx, B0, U0, N0, kvs, hx, _⟩ := id cl
  have n10 := bounds_len wd.b1
  have len := (bundles_len wd.b2).1
  have same := wd.lo.1
  have al := arcs_len ds rs ls ls.length
  have am := arc_mem (ds := ds) (ls := ls) wd.b2 (by omega) ls.length
  have ql : qs.length ≤ 1000 := by rw [so.1.length_eq]; omega
  have qr : ∀ q ∈ qs, 0 ≤ q.1 ∧ q.1 < 10 ∧ 0 ≤ q.2 ∧ q.2 < 10 := fun q hq => by
    have := (am q (so.1.mem_iff.mp hq)).1
    omega
  have bx : ∀ one ∈ [a, b], 0 ≤ one ∧ one < ds.length := fun one h => by
    simp only [List.mem_cons, List.not_mem_nil, or_false] at h
    rcases h with rfl | rfl <;> omega
  walk_at "xs"
  refine ⟨e, [a, b], rfl, SqL.of he, (show 2 < 64 by decide), ?_⟩
  intro ys r pm up hr2
  have ey : ys = [a, b] := by
    refine pm.eq_of_pairwise (le := (· ≤ ·)) (fun a b _ _ h1 h2 => by omega) up ?_
    simp
    omega
  subst ey
  have S1 := same_upd hr2 (o := .lst ([a, b].map V.int))
  have er := upd_same (H := H) (a := r) (o := .lst ([a, b].map V.int))
  generalize upd H r _ = H1 at *
  walk_at "xs"
  intro L hL
  refine lc_list (K := K) (a := r) (xs := [a, b].map V.int) (fun j H' => Same H1 H' ∧ H' L = some (.lst ((([a, b].take j).filter fun x => !lsB ds x.toNat).map V.int))) ?_ ?_ ?_ ?_
  · exact ⟨same_upd hL, upd_same⟩
  · rintro j H' _ ⟨S, _⟩
    exact SqL.of (S _ _ er)
  · rintro j v H' hv ⟨S, eL⟩
    obtain ⟨one, h1, rfl⟩ := int_at hv
    have hj := (List.getElem?_eq_some_iff.mp h1).1
    have hj : j < 2 := hj
    have oi := bx one (List.mem_of_getElem? h1)
    obtain ⟨lw, up', hrow, eb⟩ := ls_bnd wd.b1 oi.1 oi.2
    have fl := List.length_filter_le (fun x : Int => !lsB ds x.toNat) ([a, b].take j)
    rw [List.length_take] at fl
    have fs : ([a, b].take (j + 1)).filter (fun x => !lsB ds x.toNat) = ([a, b].take j).filter (fun x => !lsB ds x.toNat) ++ (if (!lsB ds one.toNat) = true then [one] else []) := by
      rw [List.take_add_one, h1, List.filter_append]
      congr 1
      show List.filter _ [one] = _
      rw [List.filter_cons]
      rfl
    have hx' := S _ _ (S1 _ _ hx)
    walk_at "xs"
    refine x_wiped rfl ?_
    walk_at "xs"
    refine x_mAt hx' (f3_none _ _ _ (by decide) (by decide) (by decide)) ?_
    walk_at "xs"
    refine ⟨x, M, ds, _, one, lw, up', rfl, cl.ext (Ext.same (S1.trans S)), oi.1, oi.2, hrow, ?_⟩
    walk_at "xs"
    refine x_ite (fun hc => ?_) (fun hc => ?_)
    · rw [decide_eq_true hc] at eb
      walk_at "xs"
      refine x_acc eL (by rw [List.length_map, sizeLine_eq]; omega) ?_
      refine ⟨fun z o e => ?_, ?_⟩
      · rw [upd_ne (ne_of_none e hL)]; exact S _ _ e
      · rw [upd_same, fs, if_pos eb.symm, List.map_append]; rfl
    · rw [decide_eq_false hc] at eb
      refine ⟨S, ?_⟩
      rw [fs, if_neg (by rw [← eb]; decide), List.append_nil]
      exact eL
  · rintro H2 ⟨S2, eL⟩
    have S12 := S1.trans S2
    have tk2 : [a, b].take ([a, b].map V.int).length = [a, b] := rfl
    rw [tk2] at eL
    have nL : H L = none := S1.free hL
    have hp2 := S12 _ _ hp
    have he2 := S12 _ _ he
    have alt : ([a, b].filter (fun x => !lsB ds x.toNat) = [] ∧ lsB ds a.toNat = true ∧ lsB ds b.toNat = true) ∨ ∃ m rest, [a, b].filter (fun x => !lsB ds x.toNat) = m :: rest ∧ rest.length ≤ 1 ∧ barK ds lo hi a b = .tuple [.str "rigid", .int m] := by
      cases ea : lsB ds a.toNat with
      | false =>
        refine .inr ⟨a, [b].filter (fun x => !lsB ds x.toNat), ?_, ?_, ?_⟩
        · rw [List.filter_cons, ea]; rfl
        · exact List.length_filter_le ..
        · unfold barK; rw [if_pos ea]
      | true =>
        cases eb : lsB ds b.toNat with
        | false =>
          refine .inr ⟨b, [], ?_, by decide, ?_⟩
          · rw [List.filter_cons, ea, List.filter_cons, eb]; rfl
          · unfold barK; rw [if_neg (by rw [ea]; decide), if_pos eb]
        | true => exact .inl ⟨by rw [List.filter_cons, ea, List.filter_cons, eb]; rfl, rfl, rfl⟩
    walk_at "xs"
    rcases alt with ⟨e0, ea, eb⟩ | ⟨m, rest, e0, lr, ek⟩
    · rw [e0] at eL
      refine ⟨false, .inl ⟨[], SqL.of eL, rfl⟩, ?_⟩
      refine x_iteF ?_
      walk_at "xs"
      refine ⟨M, N, x, p, g, ds, rs, ls, qs, rfl, cl.ext (Ext.same S12), hp2, wd, dg.ext (Ext.same S12), ql, qr, ?_⟩
      intro H3 l3 ms S3 nl3 el3 j1
      have j1 := set_perm so.1 j1
      obtain rfl := IsSet.one is1 j1 (fun _ _ => Iff.rfl)
      have S13 := S12.trans S3
      have he3 := S3 _ _ he2
      have hp3 := S3 _ _ hp2
      have nl3' : H l3 = none := S12.free nl3
      walk_at "xs"
      refine ⟨l3, e, lo, [a, b], rfl, el3, he3, (show 2 ≤ 100 by decide), ?_⟩
      intro H4 S4
      rw [hit_any]
      have S14 := S13.trans S4
      have el4 := S4 _ _ el3
      have hp4 := S4 _ _ hp3
      have he4 := S4 _ _ he3
      walk_at "xs"
      have bk : barK ds lo hi a b = if hitB lo a b = true then .tuple [.str "low", .list (lo.map PyData.int)] else if hitB hi a b = true then .tuple [.str "high", .list (hi.map PyData.int)] else .none := by
        unfold barK
        rw [if_neg (by rw [ea]; decide), if_neg (by rw [eb]; decide)]
      by_cases h1 : hitB lo a b = true
      · rw [if_pos h1]
        rw [if_pos h1] at bk
        walk_at "xs"
        intro t ht
        have S5 := same_upd ht (o := .tup [.str "low", .ref l3])
        exact q _ _ (S14.trans S5) (.inr (.inr ⟨t, l3, "low", lo, bk, .inl rfl, rfl, S14.free ht, upd_same, nl3', S5 _ _ el4⟩))
      · rw [if_neg h1]
        rw [if_neg h1] at bk
        walk_at "xs"
        refine ⟨M, N, x, p, g, ds, rs, ls, qs, rfl, cl.ext (Ext.same S14), hp4, wd, dg.ext (Ext.same S14), ql, qr, ?_⟩
        intro H5 l5 ms S5 nl5 el5 j2
        have j2 := set_perm (so.1.map _) j2
        obtain rfl := IsSet.one is2 j2 (fun _ _ => Iff.rfl)
        have S15 := S14.trans S5
        have he5 := S5 _ _ he4
        have nl5' : H l5 = none := S14.free nl5
        walk_at "xs"
        refine ⟨l5, e, hi, [a, b], rfl, el5, he5, (show 2 ≤ 100 by decide), ?_⟩
        intro H6 S6
        rw [hit_any]
        have S16 := S15.trans S6
        have el6 := S6 _ _ el5
        walk_at "xs"
        by_cases h2 : hitB hi a b = true
        · rw [if_pos h2]
          rw [if_pos h2] at bk
          walk_at "xs"
          intro t ht
          have S7 := same_upd ht (o := .tup [.str "high", .ref l5])
          exact q _ _ (S16.trans S7) (.inr (.inr ⟨t, l5, "high", hi, bk, .inr rfl, rfl, S16.free ht, upd_same, nl5', S7 _ _ el6⟩))
        · rw [if_neg h2]
          rw [if_neg h2] at bk
          walk_at "xs"
          exact q _ _ S16 (.inl ⟨bk, rfl⟩)
    · rw [e0] at eL
      refine ⟨true, .inl ⟨(m :: rest).map V.int, SqL.of eL, rfl⟩, ?_⟩
      refine x_iteT ?_
      walk_at "xs"
      obtain ⟨u, eu, au⟩ := ix_at eL (i := 0) (by decide) (by rw [List.length_map, List.length_cons]; omega)
      obtain rfl : V.int m = u := Option.some.inj eu
      refine x_ixL (SqL.of eL) au ?_
      walk_at "xs"
      intro t ht
      have S5 := same_upd ht (o := .tup [.str "rigid", .int m])
      exact q _ _ (S12.trans S5) (.inr (.inl ⟨t, m, ek, rfl, S12.free ht, upd_same⟩))
end
/-- bar -/
def spBar (C : Addr) : Sp := fun vs H Q _ => ∃ (M : List Addr) (x p : Addr) (n : Int) (ds rs : List PyData) (ls lo hi : List Int) (a b c : Int), vs = [.ref x, .ref p, .int n] ∧ Clu C M H x (.list ds) (.list rs) ∧ H p = some (.tup (ls.map V.int)) ∧ Wd ds rs ls ∧
  0 ≤ n ∧ rs[n.toNat]? = some (tupD [a, b, c]) ∧ LoS ds rs ls lo ∧ HiS ds rs ls hi ∧ ∀ H' v, Same H H' → BarV H H' v (barK ds lo hi a b) → Q v H'
theorem row_rng {ds rs : List PyData} {ls : List Int} {n : Nat} {a b c : Int} (wd : Wd ds rs ls) (h : rs[n]? = some (tupD [a, b, c])) : 0 ≤ a ∧ a < b ∧ b < ds.length := by
  have n10 := bounds_len wd.b1
  obtain ⟨a', b', c', hr', a0, ab, bn, _⟩ := rows_at wd.b2 (by omega) (List.getElem?_eq_some_iff.mp h).1
  rw [h] at hr'
  injection Option.some.inj hr' with e
  injection e with e1 e
  injection e with e2 e
  injection e1 with e1
  injection e2 with e2
  subst e1; subst e2
  exact ⟨a0, ab, bn⟩
theorem BarV.from {H0 H H' : Hp} {v : V} {d : PyData} (S : Same H0 H) (h : BarV H H' v d) : BarV H0 H' v d := by
  rcases h with h | ⟨t, m, h1, h2, h3, h4⟩ | ⟨t, l, k, ms, h1, h2, h3, h4, h5, h6, h7⟩
  · exact .inl h
  · exact .inr (.inl ⟨t, m, h1, h2, S.free h3, h4⟩)
  · exact .inr (.inr ⟨t, l, k, ms, h1, h2, h3, S.free h4, h5, S.free h6, h7⟩)
section
variable {P : Program} {w : World} {K : PySem.W.Frag} {mg : Str → Option Value} {base : Heap} {t0 t1 t2 t3 t4 : Tok} {C : Addr}
theorem kn_bar {k : Nat} (D : Df K mg "bar" s_bar) (B : Bl mg) (c_ends_frozen : Kn P w K mg base "ends_frozen" k (spEnds C)) (c_first_obstacle : Kn P w K mg base "first_obstacle" k (spFO C)) (c_arcs : Kn P w K mg base "arcs" k (spArcs C)) : Kn P w K mg base "bar" (k + 1) (spBar C) := by
  refine kn_of D (fun _ _ _ _ _ _ us hl => match us, hl with | [_, _, _], _ => rfl) sc_bar (fun vs H Q E h => by obtain ⟨M, x, p, n, ds, rs, ls, lo, hi, a, b, c, rfl, _⟩ := h; rfl) (fun f cd B' fr z H vs Q E hr gd h => ?_)
  obtain ⟨M, x, p, n, ds, rs, ls, lo, hi, a, b, c, rfl, cl, hp, wd, n0, hrow, is1, is2, q⟩ := h
  refine ⟨_, (pss_cons (ps_set (i := 3) sc_bar.nd rfl (.inl rfl) (pe_own c_ends_frozen hr gd (by rfl) (pa_cons (pv 0) (pa_cons (pv 2) pa_nil))))
  (pss_one (ps_ret (pe_own c_first_obstacle hr gd (by rfl) (pa_cons (pv 0) (pa_cons (pv 1) (pa_cons (pe_own c_arcs hr gd (by rfl) (pa_cons (pv 0) (pa_cons (pv 1) pa_nil))) (pa_cons (pv 3) (pa_cons (pv 3) (pa_cons (pv 3) pa_nil)))))))))), ?_⟩
  obtain ⟨a0, ab, bn⟩ := row_rng wd hrow
  walk_at "xs"
  refine ⟨M, x, n, _, rs, a, b, c, rfl, cl, n0, hrow, ?_⟩
  intro H1 e S1 ne he
  have hp1 := S1 _ _ hp
  walk_at "xs"
  refine ⟨x, p, M, [], ds, rs, ls, rfl, cl.ext (Ext.same S1), hp1, wd, fun m hm => (by cases hm), ?_⟩
  intro H2 g ys qs S2 ng eg A so
  have S12 := S1.trans S2
  walk_at "xs"
  refine ⟨M, [], x, p, g, e, ds, rs, ls, lo, hi, qs, a, b, rfl, cl.ext (Ext.same S12), S2 _ _ hp1, wd, .lst eg (by simp) A, so, S2 _ _ he, a0, ab, bn, is1, is2, ?_⟩
  intro H3 v S3 bv
  exact q _ v (S12.trans S3) (bv.from S12)
end
/-! ### is_bar of what bar told; the law's own bar -/
section
variable {P : Program} {w : World} {K : PySem.W.Frag} {mg : Str → Option Value} {base : Heap} {t0 t1 t2 t3 t4 : Tok} {C : Addr}
def spBarW : Sp := fun vs H Q _ => ∃ (M : List Addr) (T : Addr) (n : Int) (ds rs : List PyData) (ls lo hi : List Int) (a b c : Int), vs = [.ref T, .int n] ∧ WdAt M H T ds rs ls ∧ Wd ds rs ls ∧ 0 ≤ n ∧ rs[n.toNat]? = some (tupD [a, b, c]) ∧ LoS ds rs ls lo ∧ HiS ds rs ls hi ∧
  ∀ H' v, Same H H' → BarV H H' v (barK ds lo hi a b) → Q v H'
theorem kn_barW {k : Nat} (D : Df K mg "_law_bar" s_Lbar) (B : Bl mg) (c_Lfree : Kn P w K mg base "_law_free" k spFreeW) (c_Llow : Kn P w K mg base "_law_low" k (spLowW false)) (c_Lhigh : Kn P w K mg base "_law_high" k (spLowW true)) : Kn P w K mg base "_law_bar" (k + 1) spBarW := by
  refine kn_of D (fun _ _ _ _ _ _ us hl => match us, hl with | [_, _], _ => rfl) sc_Lbar (fun vs H Q E h => by obtain ⟨M, T, n, ds, rs, ls, lo, hi, a, b, c, rfl, _⟩ := h; rfl) (fun f cd B' fr z H vs Q E hr gd h => ?_)
  obtain ⟨M, T, n, ds, rs, ls, lo, hi, a, b, c, rfl, wa, wd, n0, hrow, is1, is2, q⟩ := h
  refine ⟨_, (pss_cons (ps_for PassesOwn.never rfl (pi_tup (pe_slice (r := rSlA K) sl_tupA (pe_ix (r := rIxL K) ix_list (pe_ix (r := rIxT K) ix_tup (pv 0) pe_int (fun _ _ => rfl)) (pv 1) (fun _ _ => rfl)) po_none (po_some pe_int))) (pg_name (i := 2) sc_Lbar.nd rfl (.inl rfl))
  (pss_one (ps_if (pt_cmpR (op_notInSK K) (pv 2) (pe_own c_Lfree hr gd (by rfl) (pa_cons (pv 0) pa_nil)) (by rfl)) (pss_one (ps_ret (pe_tup (pa_cons pe_str (pa_cons (pv 2) pa_nil))))) pss_nil)))
  (pss_cons (ps_for PassesOwn.never rfl (pi_tup (pe_tup (pa_cons (pe_tup (pa_cons pe_str (pa_cons (pe_own c_Llow hr gd (by rfl) (pa_cons (pv 0) pa_nil)) pa_nil))) (pa_cons (pe_tup (pa_cons pe_str (pa_cons (pe_own c_Lhigh hr gd (by rfl) (pa_cons (pv 0) pa_nil)) pa_nil))) pa_nil)))) (pg_tup (by rfl) (pgs_cons (pg_name (i := 3) sc_Lbar.nd rfl (.inl rfl)) (pgs_cons (pg_name (i := 4) sc_Lbar.nd rfl (.inr rfl)) pgs_nil)))
  (pss_one (ps_if (pt_cmpR (op_neD hr.units) (pe_lc (own := [("_law_broker", 2)]) rfl sc_Lbar.nd (pi_tup (pe_slice (r := rSlA K) sl_tupA (pe_ix (r := rIxL K) ix_list (pe_ix (r := rIxT K) ix_tup (pv 0) pe_int (fun _ _ => rfl)) (pv 1) (fun _ _ => rfl)) po_none (po_some pe_int))) (blkOk_by (N := ["_law_world_here", "_law_number", "_law_broker", "_law_word", "_law_members"]) (sc := defScope s_Lbar) (by decide +kernel)) (fun _ _ _ _ _ => (pg_name (i := 2) sc_Lbar.nd rfl (.inl rfl))) (fun _ _ _ _ _ => (pts_one (pt_cmpR (op_inSK K) (pv 2) (pv 4) (by rfl)))) (fun _ _ _ _ _ => (pv 2))) (pe_lst pa_nil) (nomark _)) (pss_one (ps_ret (pe_tup (pa_cons (pv 3) (pa_cons (pv 4) pa_nil))))) pss_nil)))
  (pss_one (ps_ret pe_non)))), ?_⟩
  obtain ⟨a0, ab, bn⟩ := row_rng wd hrow
  obtain ⟨f1, f2, f3, eT, nT, d1, d2, n3, e3⟩ := wa.ex
  cases d2 with
  | @lst _ rxs _ e2 m2 A =>
  have lA := A.length
  have n1 := (List.getElem?_eq_some_iff.mp hrow).1
  obtain ⟨u, eu, au⟩ := ix_at e2 (i := n) n0 (by omega)
  obtain ⟨dR, hdR, dnR⟩ := A.get eu
  rw [hrow] at hdR
  obtain rfl : tupD [a, b, c] = dR := Option.some.inj hdR
  obtain ⟨r', rfl, _, hr2⟩ := Dn.tup3 (a := a) (b := b) (c := c) dnR
  walk_at "xs"
  refine x_ixL (SqL.of e2) au ?_
  walk_at "xs"
  refine x_sl2 hr2 ?_
  intro pp H1 S1 epp
  walk_at "xs"
  refine for_tup (K := K) (a := pp) (xs := [.int a, .int b]) (fun j σ' H' => ∃ y2, σ' = [some (.ref T), some (.int n), y2, none, none] ∧ Same H1 H' ∧ (0 < j → lsB ds a.toNat = true) ∧ (1 < j → lsB ds b.toNat = true)) ?_ ?_ ?_ ?_
  · exact ⟨_, rfl, Same.refl _, fun h => by omega, fun h => by omega⟩
  · rintro j _ H' _ ⟨_, _, S, _⟩
    exact SqT.of (S _ _ epp)
  · rintro j v _ H2 hv ⟨y2, rfl, S2, k0, k1⟩
    have S12 := S1.trans S2
    obtain ⟨one, h1, rfl⟩ := int_at (ls := [a, b]) hv
    have hj := (List.getElem?_eq_some_iff.mp h1).1
    have hj : j < 2 := hj
    have oi : 0 ≤ one ∧ one < ds.length := by
      have := List.mem_of_getElem? h1
      simp only [List.mem_cons, List.not_mem_nil, or_false] at this
      rcases this with rfl | rfl <;> omega
    walk_at "xs"
    refine ⟨M, T, ds, rs, ls, rfl, wa.ext (Ext.same S12), wd, ?_⟩
    intro H3 fp S3 nfp efp
    have S13 := S12.trans S3
    have pm := free_mem oi.1 oi.2
    walk_at "xs"
    refine x_notInI efp ?_
    refine ⟨_, rfl, ?_⟩
    by_cases c1 : one ∈ cI (lsL ds)
    · rw [if_neg (by simp [c1])]
      have ll := pm.mp c1
      walk_at "xs"
      refine ⟨_, rfl, S2.trans S3, fun _ => ?_, fun h => ?_⟩
      · match j, hj, h1, k0 with
        | 0, _, h1, _ => cases h1; exact ll
        | 1, _, _, k0 => exact k0 (by decide)
      · match j, hj, h1, h with
        | 0, _, _, h => omega
        | 1, _, h1, _ => cases h1; exact ll
    · rw [if_pos (by simp [c1])]
      have lf : lsB ds one.toNat = false := by
        cases e : lsB ds one.toNat
        · rfl
        · exact absurd (pm.mpr e) c1
      have bk : barK ds lo hi a b = .tuple [.str "rigid", .int one] := by
        unfold barK
        match j, hj, h1, k0 with
        | 0, _, h1, _ => cases h1; rw [if_pos lf]
        | 1, _, h1, k0 => cases h1; rw [if_neg (by rw [k0 (by decide)]; decide), if_pos lf]
      walk_at "xs"
      intro t ht
      have S4 := same_upd ht (o := .tup [.str "rigid", .int one])
      exact q _ _ (S13.trans S4) (.inr (.inl ⟨t, one, bk, rfl, S13.free ht, upd_same⟩))
  · rintro _ H2 ⟨y2, rfl, S2, k0, k1⟩
    have S12 := S1.trans S2
    have ea := k0 (show 0 < 2 by decide)
    have eb := k1 (show 1 < 2 by decide)
    have bk : barK ds lo hi a b = if hitB lo a b = true then .tuple [.str "low", .list (lo.map PyData.int)] else if hitB hi a b = true then .tuple [.str "high", .list (hi.map PyData.int)] else .none := by
      unfold barK
      rw [if_neg (by rw [ea]; decide), if_neg (by rw [eb]; decide)]
    walk_at "xs"
    refine x_lowW (wa.ext (Ext.same S12)) wd ?_
    intro H3 G1 ms1 S3 nG1 eG1 j1
    obtain rfl := IsSet.one is1 j1 (fun _ _ => Iff.rfl)
    have S13 := S12.trans S3
    have nG1' : H G1 = none := S12.free nG1
    walk_at "xs"
    intro w1 hw1
    have S4 := same_upd hw1 (o := .tup [.str "low", .ref G1])
    have ew1 := upd_same (H := H3) (a := w1) (o := .tup [.str "low", .ref G1])
    have eG1 := S4 _ _ eG1
    have S14 := S13.trans S4
    generalize upd H3 w1 _ = H4 at *
    walk_at "xs"
    refine x_lowW (wa.ext (Ext.same S14)) wd ?_
    intro H5 G2 ms2 S5 nG2 eG2 j2
    obtain rfl := IsSet.one is2 j2 (fun _ _ => Iff.rfl)
    have S15 := S14.trans S5
    have nG2' : H G2 = none := S14.free nG2
    have eG1 := S5 _ _ eG1
    have ew1 := S5 _ _ ew1
    walk_at "xs"
    intro w2 hw2
    have S6 := same_upd hw2 (o := .tup [.str "high", .ref G2])
    have ew2 := upd_same (H := H5) (a := w2) (o := .tup [.str "high", .ref G2])
    have eG1 := S6 _ _ eG1
    have eG2 := S6 _ _ eG2
    have ew1 := S6 _ _ ew1
    have S16 := S15.trans S6
    generalize upd H5 w2 _ = H6 at *
    walk_at "xs"
    intro ww hww
    have S7 := same_upd hww (o := .tup [.ref w1, .ref w2])
    have eww := upd_same (H := H6) (a := ww) (o := .tup [.ref w1, .ref w2])
    have eG1 := S7 _ _ eG1
    have eG2 := S7 _ _ eG2
    have ew1 := S7 _ _ ew1
    have ew2 := S7 _ _ ew2
    have S17 := S16.trans S7
    generalize upd H6 ww _ = H7 at *
    walk_at "xs"
    refine for_tup (K := K) (a := ww) (xs := [.ref w1, .ref w2]) (fun j σ' H' => ∃ y2 y3 y4, σ' = [some (.ref T), some (.int n), y2, y3, y4] ∧ Same H7 H' ∧ (0 < j → hitB lo a b = false) ∧ (1 < j → hitB hi a b = false)) ?_ ?_ ?_ ?_
    · exact ⟨_, _, _, rfl, Same.refl _, fun h => by omega, fun h => by omega⟩
    · rintro j _ H' _ ⟨_, _, _, _, S, _⟩
      exact SqT.of (S _ _ eww)
    · rintro j v _ H8 hv ⟨y2, y3, y4, rfl, S8, k0, k1⟩
      have hj := (List.getElem?_eq_some_iff.mp hv).1
      have hj : j < 2 := hj
      obtain ⟨wt, kk, G, ms, rfl, ewt, eG, nG, hk, hy, hn⟩ : ∃ (wt : Addr) (kk : Str) (G : Addr) (ms : List Int), v = .ref wt ∧ H7 wt = some (.tup [.str kk, .ref G]) ∧ H7 G = some (.lst (ms.map V.int)) ∧ H G = none ∧ (kk = "low" ∨ kk = "high") ∧ (hitB ms a b = true → barK ds lo hi a b = .tuple [.str kk, .list (ms.map PyData.int)]) ∧ (hitB ms a b = false → (0 < j + 1 → hitB lo a b = false) ∧ (1 < j + 1 → hitB hi a b = false)) := by
        match j, hj, hv, k0 with
        | 0, _, hv, _ =>
          cases hv
          exact ⟨w1, "low", G1, lo, rfl, ew1, eG1, nG1', .inl rfl, fun h => by rw [bk, if_pos h], fun h => ⟨fun _ => h, fun h => by omega⟩⟩
        | 1, _, hv, k0 =>
          cases hv
          have z := k0 (by decide)
          exact ⟨w2, "high", G2, hi, rfl, ew2, eG2, nG2', .inr rfl, fun h => by rw [bk, if_neg (by rw [z]; decide), if_pos h], fun h => ⟨fun _ => z, fun _ => h⟩⟩
      have S18 := S17.trans S8
      have ewt := S8 _ _ ewt
      have eG := S8 _ _ eG
      have eT8 := S18 _ _ eT
      have e28 := S18 _ _ e2
      have hr28 := S18 _ _ hr2
      walk_at "xs"
      refine x_ixL (SqL.of e28) au ?_
      walk_at "xs"
      refine x_sl2 hr28 ?_
      intro pq H9 S9 epq
      have eG9 := S9 _ _ eG
      walk_at "xs"
      intro L hL
      refine lc_tup (K := K) (a := pq) (xs := [.int a, .int b]) (fun i H' => Same H9 H' ∧ H' L = some (.lst ((([a, b].take i).filter fun x => decide (x ∈ ms)).map V.int))) ?_ ?_ ?_ ?_
      · exact ⟨same_upd hL, upd_same⟩
      · rintro i H' _ ⟨S, _⟩
        exact SqT.of (S _ _ epq)
      · rintro i v H10 hv ⟨S10, eL⟩
        obtain ⟨one, h1, rfl⟩ := int_at (ls := [a, b]) hv
        have hi2 := (List.getElem?_eq_some_iff.mp h1).1
        have hi2 : i < 2 := hi2
        have fl := List.length_filter_le (fun x => decide (x ∈ ms)) ([a, b].take i)
        rw [List.length_take] at fl
        have fs : ([a, b].take (i + 1)).filter (fun x => decide (x ∈ ms)) = ([a, b].take i).filter (fun x => decide (x ∈ ms)) ++ (if decide (one ∈ ms) = true then [one] else []) := by
          rw [List.take_add_one, h1, List.filter_append]
          congr 1
          show List.filter _ [one] = _
          rw [List.filter_cons]
          rfl
        walk_at "xs"
        refine x_wiped rfl ?_
        walk_at "xs"
        refine x_inI (S10 _ _ eG9) ?_
        walk_at "xs"
        refine x_ite (fun c1 => ?_) (fun c1 => ?_)
        · walk_at "xs"
          refine x_acc eL (by rw [List.length_map, sizeLine_eq]; omega) ?_
          refine ⟨fun z o e => ?_, ?_⟩
          · rw [upd_ne (ne_of_none e hL)]; exact S10 _ _ e
          · rw [upd_same, fs, if_pos (decide_eq_true c1), List.map_append]; rfl
        · refine ⟨S10, ?_⟩
          rw [fs, if_neg (by simpa using c1), List.append_nil]
          exact eL
      · rintro H10 ⟨S10, eL⟩
        have tk2 : [a, b].take [V.int a, V.int b].length = [a, b] := rfl
        rw [tk2] at eL
        walk_at "xs"
        intro p hp
        have Sp := same_upd hp (o := .lst [])
        have ep := upd_same (H := H10) (a := p) (o := .lst [])
        have eL8 := Sp _ _ eL
        have S8p := S8.trans (S9.trans (S10.trans Sp))
        have eG10 := Sp _ _ (S10 _ _ eG9)
        generalize upd H10 p _ = H11 at *
        have nil : ([a, b].filter (fun x => decide (x ∈ ms)) = []) = (hitB ms a b = false) := by
          rw [filt_none, eq_iff_iff]
          simp [hitB]
        refine x_neDn (M := []) (N := []) (.lst eL8 (by simp) (DnAll.ints _)) (.lst ep (by simp) .nil) (shaped_ints _) rfl ?_
        rw [eqv_nil]
        simp only [map_nilB]
        refine ⟨_, rfl, ?_⟩
        cases hb : hitB ms a b with
        | false =>
          have e0 : [a, b].filter (fun x => decide (x ∈ ms)) = [] := by rw [nil]; exact hb
          rw [if_neg (by rw [decide_eq_true e0]; decide)]
          walk_at "xs"
          exact ⟨_, _, _, rfl, S8p, (hn hb).1, (hn hb).2⟩
        | true =>
          have ne : ¬ ([a, b].filter (fun x => decide (x ∈ ms)) = []) := by rw [nil, hb]; exact fun h => by cases h
          rw [if_pos (by rw [decide_eq_false ne]; rfl)]
          walk_at "xs"
          intro t ht
          have St := same_upd ht (o := .tup [.str kk, .ref G])
          exact q _ _ (S17.trans (S8p.trans St)) (.inr (.inr ⟨t, G, kk, ms, hy hb, hk, rfl, (S17.trans S8p).free ht, upd_same, nG, St _ _ eG10⟩))
    · rintro _ H8 ⟨y2, y3, y4, rfl, S8, k0, k1⟩
      rw [k0 (show 0 < 2 by decide), k1 (show 1 < 2 by decide), if_neg Bool.false_ne_true, if_neg Bool.false_ne_true] at bk
      walk_at "xs"
      exact q _ _ (S17.trans S8) (.inl ⟨bk, rfl⟩)
end
section
variable {P : Program} {w : World} {K : PySem.W.Frag} {mg : Str → Option Value} {base : Heap} {t0 t1 t2 t3 t4 : Tok}
def chk (n : Int) : Int → List PyData → Bool
  | _, [] => true
  | b, .int i :: r => (decide (0 ≤ i) && decide (i < n)) && (decide (b < i) && chk n i r)
  | _, _ :: _ => false
def setD (d : PyData) (n : Int) : Bool := match d with
  | .list ds => chk n (-1) ds
  | _ => false
theorem kn_is_set {k : Nat} (D : Df K mg "is_set" s_is_set) (B : Bl mg) (c_is_broker : Kn P w K mg base "is_broker" k (sp2 brokerD)) : Kn P w K mg base "is_set" (k + 1) (sp2 setD) := by
  refine kn_of D (fun _ _ _ _ _ _ us hl => match us, hl with | [_, _], _ => rfl) sc_is_set (fun vs H Q E h => by obtain ⟨v, d, M, n, rfl, _⟩ := h; rfl) (fun f cd B' fr z H vs Q E hr gd h => ?_)
  obtain ⟨v, d, M, n, rfl, hd, q⟩ := h
  refine ⟨_, (pss_cons (ps_if (pt_not (pt_val (pe_callB call_isD (by rfl) B.isinstance (by decide +kernel) (pa_cons (pv 0) (pa_cons (pe_bltn (v := .ty "list") (u := .type "list") (by rfl) B.«list» (by decide +kernel) rfl) pa_nil))))) (pss_one (ps_ret pe_bl)) pss_nil)
  (pss_cons (ps_set (i := 2) sc_is_set.nd rfl (.inl rfl) (pe_un un_neg pe_int))
  (pss_cons (ps_for PassesOwn.never rfl (pi_list (pv 0)) (pg_name (i := 3) sc_is_set.nd rfl (.inl rfl))
  (pss_cons (ps_if (PW.pt (pw_or (pt_not (pt_val (pe_own c_is_broker hr gd (by rfl) (pa_cons (pv 3) (pa_cons (pv 1) pa_nil))))) (pw_or1 (pt_cmpR op_le (pv 3) (pv 2) (nomark _))))) (pss_one (ps_ret pe_bl)) pss_nil)
  (pss_one (ps_set (i := 2) sc_is_set.nd rfl (.inl rfl) (pv 3)))))
  (pss_one (ps_ret pe_bl))))), ?_⟩
  walk_at "xs"
  refine x_iteNB (fun h => ?_) (fun h => ?_)
  · walk_at "xs"
    rw [isT_list] at h
    have e : setD d n = false := by cases d <;> first | rfl | cases h
    rw [e] at q; exact q
  · rw [isT_list] at h
    cases hd with
    | @lst a xs ds ha hm hxs =>
      walk_at "xs"
      refine for_list (K := K) (xs := xs) (fun i σ' H' => ∃ (b : Int) (y : Option V), σ' = [some (.ref a), some (.int n), some (.int b), y] ∧ H' = H ∧ chk n (-1) ds = chk n b (ds.drop i)) ?_ ?_ ?_ ?_
      · exact ⟨-1, none, rfl, rfl, rfl⟩
      · rintro i _ _ _ ⟨b, y, rfl, rfl, _⟩
        exact SqL.of ha
      · rintro i x _ _ hx ⟨b, y, rfl, rfl, e⟩
        obtain ⟨d, hd, dx⟩ := hxs.get hx
        have hdr : ds.drop i = d :: ds.drop (i + 1) := by
          obtain ⟨h1, h2⟩ := List.getElem?_eq_some_iff.mp hd
          rw [← h2]; exact List.drop_eq_getElem_cons h1
        rw [hdr] at e
        walk_at "xs"
        refine x_sp2 dx ?_
        walk_at "xs"
        refine x_iteNB (fun h => ?_) (fun h => ?_)
        · walk_at "xs"
          have e2 : setD (.list ds) n = false := by
            show chk n (-1) ds = false
            rw [e]
            cases d <;> first | rfl | (simp only [brokerD] at h; simp only [chk, h, Bool.false_and])
          rw [e2] at q; exact q
        · obtain ⟨j, rfl, rfl⟩ := dx.isInt (by cases d <;> first | rfl | cases h)
          simp only [brokerD] at h
          walk_at "xs"
          refine x_ite (fun h1 => ?_) (fun h1 => ?_)
          · walk_at "xs"
            have e2 : setD (.list ds) n = false := by
              show chk n (-1) ds = false
              rw [e]
              simp only [chk, h, Bool.true_and, decide_eq_false (show ¬ b < j by omega), Bool.false_and]
            rw [e2] at q; exact q
          · walk_at "xs"
            refine ⟨j, some (.int j), rfl, rfl, ?_⟩
            rw [e]
            simp only [chk, h, Bool.true_and, decide_eq_true (show b < j by omega)]
      · rintro _ _ ⟨b, y, rfl, rfl, e⟩
        walk_at "xs"
        have e2 : setD (.list ds) n = true := by
          show chk n (-1) ds = true
          rw [e, hxs.length, List.drop_length]
          rfl
        rw [e2] at q; exact q
    | _ => cases h
end

/-! ### closed or not, over any sets -/
def spClosedB (C : Addr) : Sp := fun vs H Q _ => ∃ (M N : List Addr) (x g m s : Addr) (ds : List PyData) (d2 : PyData) (qs : List (Int × Int)) (ms st : List Int), vs = [.ref x, .ref g, .ref m, .ref s] ∧ Clu C M H x (.list ds) d2 ∧ boundsD (.list ds) = true ∧ Dn N H (.ref g) (.list (qs.map prD)) ∧ qs.length ≤ 1000 ∧
  H m = some (.lst (ms.map V.int)) ∧ ms.length ≤ 10 ∧ H s = some (.lst (st.map V.int)) ∧ (∀ x ∈ ms, 0 ≤ x ∧ x < ds.length) ∧ ∀ H' b, Same H H' → (b = true ↔ (∀ x ∈ ms, lsB ds x.toNat = true) ∧ LowG qs st ms) → Q (.bl b) H'
def LoP (hi : Bool) (ds rs : List PyData) (ls ms : List Int) : Prop := (∀ x ∈ ms, lsB ds x.toNat = true) ∧
  (if hi = true then LowG (swP (arcsOf ds rs ls ls.length)) (dnL ds (ldOf ds.length rs ls ls.length)) ms else LowG (arcsOf ds rs ls ls.length) (upL ds (ldOf ds.length rs ls ls.length)) ms)
def spIsLB (C : Addr) (hi : Bool) : Sp := fun vs H Q _ => ∃ (M N : List Addr) (x p g m : Addr) (ds rs : List PyData) (ls : List Int) (qs : List (Int × Int)) (ms : List Int), vs = [.ref x, .ref p, .ref g, .ref m] ∧ Clu C M H x (.list ds) (.list rs) ∧ H p = some (.tup (ls.map V.int)) ∧ Wd ds rs ls ∧
  Dn N H (.ref g) (.list (qs.map prD)) ∧ SrtOf (arcsOf ds rs ls ls.length) qs ∧ H m = some (.lst (ms.map V.int)) ∧ ms.length ≤ 10 ∧ (∀ x ∈ ms, 0 ≤ x ∧ x < ds.length) ∧ ∀ H' b, Same H H' → (b = true ↔ LoP hi ds rs ls ms) → Q (.bl b) H'
theorem LowG.perm {ps qs : List (Int × Int)} {st ms : List Int} (h : qs.Perm ps) : LowG qs st ms ↔ LowG ps st ms := by
  unfold LowG
  constructor
  · rintro ⟨a, b⟩; exact ⟨a, fun p hp => b p (h.mem_iff.mpr hp)⟩
  · rintro ⟨a, b⟩; exact ⟨a, fun p hp => b p (h.mem_iff.mp hp)⟩
theorem any_no {α : Type} {f : α → Bool} {l : List α} : (l.map f).any id = false ↔ ∀ x ∈ l, f x = false := by
  induction l with
  | nil => simp
  | cons a r ih =>
    rw [List.map_cons, List.any_cons, Bool.or_eq_false_iff, ih]
    simp
section
variable {P : Program} {w : World} {K : PySem.W.Frag} {mg : Str → Option Value} {base : Heap} {t0 t1 t2 t3 t4 : Tok} {C : Addr}
theorem kn_closedB {k : Nat} (D : Df K mg "_is_closed" s__is_closed) (B : Bl mg) (cc : Cc K mg C) (m_is_rigid : Km P w K mg base C "is_rigid" k (spRigid C)) : Kn P w K mg base "_is_closed" (k + 1) (spClosedB C) := by
  refine kn_of D (fun _ _ _ _ _ _ us hl => match us, hl with | [_, _, _, _], _ => rfl) sc__is_closed (fun vs H Q E h => by obtain ⟨M, N, x, g, m, s, ds, d2, qs, ms, st, rfl, _⟩ := h; rfl) (fun f cd B' fr z H vs Q E hr gd h => ?_)
  obtain ⟨M, N, x, g, m, s, ds, d2, qs, ms, st, rfl, cl, hb, dg, ql, hm, ml, hs, inn, q⟩ := h
  have c_Cluster := cc.ck
  refine ⟨_, (pss_cons (ps_if (pt_val (pe_callB (cr_any rfl) (by rfl) B.any (by decide +kernel) (pa_cons (pe_lc (own := [("broker", 4)]) rfl sc__is_closed.nd (pi_list (pv 2)) (blkOk_by (N := ["cluster", "pairs", "members", "barred", "broker", "one", "other"]) (sc := defScope s__is_closed) (by decide +kernel)) (fun _ _ _ _ _ => (pg_name (i := 4) sc__is_closed.nd rfl (.inl rfl))) (fun _ _ _ _ _ => pts_nil) (fun _ _ _ _ _ => (pe_or (pe_ownM (pv 0) c_Cluster.cls m_is_rigid hr gd (pa_cons (pv 4) pa_nil)) (pe_one (pe_cmpR (op_inSK K) (pv 4) (pv 3) (by rfl)))))) pa_nil))) (pss_one (ps_ret pe_bl)) pss_nil)
  (pss_one (ps_ret (pe_not (pe_callB (cr_any rfl) (by rfl) B.any (by decide +kernel) (pa_cons (pe_lc (own := [("one", 5), ("other", 6)]) rfl sc__is_closed.nd (pi_list (pv 1)) (blkOk_by (N := ["cluster", "pairs", "members", "barred", "broker", "one", "other"]) (sc := defScope s__is_closed) (by decide +kernel)) (fun _ _ _ _ _ => (pg_tupK K (n := 2) (pgs_cons (pg_name (i := 5) sc__is_closed.nd rfl (.inl rfl)) (pgs_cons (pg_name (i := 6) sc__is_closed.nd rfl (.inl rfl)) pgs_nil)))) (fun _ _ _ _ _ => pts_nil) (fun _ _ _ _ _ => (pe_and (pe_cmpR (op_notInSK K) (pv 5) (pv 2) (by rfl)) (pe_one (pe_cmpR (op_inSK K) (pv 6) (pv 2) (by rfl)))))) pa_nil)))))), ?_⟩
  obtain ⟨dx, B0, U0, N0, kvs, hx, _⟩ := id cl
  cases dg with
  | @lst _ gxs _ eg mg' A =>
  have lA := A.length
  rw [List.length_map] at lA
  walk_at "xs"
  intro L hL
  obtain ⟨f, hf⟩ : ∃ f : Int → Bool, f = fun x => !lsB ds x.toNat || decide (x ∈ st) := ⟨_, rfl⟩
  obtain ⟨g2, hg2⟩ : ∃ g2 : Int × Int → Bool, g2 = fun p => !decide (p.1 ∈ ms) && decide (p.2 ∈ ms) := ⟨_, rfl⟩
  refine lc_list (K := K) (a := m) (xs := ms.map V.int) (fun j H' => Same H H' ∧ H' L = some (.lst (((ms.take j).map f).map V.bl))) ?_ ?_ ?_ ?_
  · exact ⟨same_upd hL, upd_same⟩
  · rintro j H' _ ⟨S, _⟩
    exact SqL.of (S _ _ hm)
  · rintro j v H' hv ⟨S, eL⟩
    obtain ⟨one, h1, rfl⟩ := int_at hv
    have hj := (List.getElem?_eq_some_iff.mp h1).1
    have om := List.mem_of_getElem? h1
    obtain ⟨o0, o1⟩ := inn one om
    obtain ⟨lw, up', hrow, eb⟩ := ls_bnd hb o0 o1
    have hx' := S _ _ hx
    have add : ∀ bv : Bool, bv = f one → Same H (upd H' L (.lst (((ms.take j).map f).map V.bl ++ [.bl bv]))) ∧ (upd H' L (.lst (((ms.take j).map f).map V.bl ++ [.bl bv]))) L = some (.lst (((ms.take (j + 1)).map f).map V.bl)) := fun bv e => by
      refine ⟨fun z o e => ?_, ?_⟩
      · rw [upd_ne (ne_of_none e hL)]; exact S _ _ e
      · rw [upd_same, List.take_add_one, h1, List.map_append, List.map_append, e]; rfl
    walk_at "xs"
    refine x_wiped rfl ?_
    walk_at "xs"
    refine x_mAt hx' (f3_none _ _ _ (by decide) (by decide) (by decide)) ?_
    walk_at "xs"
    refine ⟨x, M, ds, _, one, lw, up', rfl, cl.ext (Ext.same S), o0, o1, hrow, ?_⟩
    rw [eb]
    cases e : lsB ds one.toNat with
    | true =>
      walk_at "xs"
      refine x_inI (S _ _ hs) ?_
      refine x_acc eL (by rw [List.length_map, List.length_map, List.length_take, sizeLine_eq]; omega) ?_
      exact add _ (by rw [hf]; simp [e])
    | false =>
      walk_at "xs"
      refine x_acc eL (by rw [List.length_map, List.length_map, List.length_take, sizeLine_eq]; omega) ?_
      exact add _ (by rw [hf]; simp [e])
  · rintro H1 ⟨S1, eL⟩
    rw [List.length_map, List.take_length] at eL
    walk_at "xs"
    refine ⟨L, _, rfl, SqL.of eL, ?_⟩
    have hm1 := S1 _ _ hm
    have eg1 := S1 _ _ eg
    have i1 : (ms.map f).any id = false ↔ (∀ x ∈ ms, lsB ds x.toNat = true) ∧ ∀ x ∈ ms, x ∉ st := by
      rw [any_no, hf]
      simp only [Bool.or_eq_false_iff, Bool.not_eq_false', decide_eq_false_iff_not]
      exact ⟨fun h => ⟨fun x hx => (h x hx).1, fun x hx => (h x hx).2⟩, fun h x hx => ⟨h.1 x hx, h.2 x hx⟩⟩
    have i2 : (qs.map g2).any id = false ↔ ∀ p ∈ qs, p.2 ∈ ms → p.1 ∈ ms := by
      rw [any_no, hg2]
      constructor
      · intro h p hp h2
        have := h p hp
        simp only [Bool.and_eq_false_iff, Bool.not_eq_false', decide_eq_true_eq, decide_eq_false_iff_not] at this
        rcases this with h | h
        · exact h
        · exact absurd h2 h
      · intro h p hp
        simp only [Bool.and_eq_false_iff, Bool.not_eq_false', decide_eq_true_eq, decide_eq_false_iff_not]
        by_cases h2 : p.2 ∈ ms
        · exact .inl (h p hp h2)
        · exact .inr h2
    cases ea : (ms.map f).any id with
    | true =>
      walk_at "xs"
      refine q _ _ S1 ⟨fun h => (by cases h), fun h => ?_⟩
      rw [i1.mpr ⟨h.1, h.2.1⟩] at ea
      cases ea
    | false =>
    have i1 := i1.mp ea
    walk_at "xs"
    intro L2 hL2
    refine lc_list (K := K) (a := g) (xs := gxs) (fun j H' => Same H1 H' ∧ H' L2 = some (.lst (((qs.take j).map g2).map V.bl))) ?_ ?_ ?_ ?_
    · exact ⟨same_upd hL2, upd_same⟩
    · rintro j H' _ ⟨S, _⟩
      exact SqL.of (S _ _ (S1 _ _ eg))
    · rintro j v H' hv ⟨S, eL2⟩
      obtain ⟨dP, hdP, dnP⟩ := (A.ext (Ext.same (S1.trans S))).get hv
      rw [List.getElem?_map] at hdP
      cases hpr : qs[j]? with
      | none => rw [hpr] at hdP; cases hdP
      | some pr =>
      rw [hpr] at hdP
      cases hdP
      obtain ⟨r2, rfl, nr2, hr5⟩ := dnP.pair
      have hj := (List.getElem?_eq_some_iff.mp hpr).1
      have add : ∀ bv : Bool, bv = g2 pr → Same H1 (upd H' L2 (.lst (((qs.take j).map g2).map V.bl ++ [.bl bv]))) ∧ (upd H' L2 (.lst (((qs.take j).map g2).map V.bl ++ [.bl bv]))) L2 = some (.lst (((qs.take (j + 1)).map g2).map V.bl)) := fun bv e => by
        refine ⟨fun z o e => ?_, ?_⟩
        · rw [upd_ne (ne_of_none e hL2)]; exact S _ _ e
        · rw [upd_same, List.take_add_one, hpr, List.map_append, List.map_append, e]; rfl
      walk_at "xs"
      refine x_wiped rfl ?_
      walk_at "xs"
      refine x_notInI (S _ _ hm1) ?_
      refine ⟨_, rfl, ?_⟩
      by_cases c1 : pr.1 ∈ ms
      · rw [if_neg (by simp [c1])]
        refine x_acc eL2 (by rw [List.length_map, List.length_map, List.length_take, sizeLine_eq]; omega) ?_
        exact add _ (by rw [hg2]; simp [c1])
      · rw [if_pos (by simp [c1])]
        walk_at "xs"
        refine x_inI (S _ _ hm1) ?_
        refine x_acc eL2 (by rw [List.length_map, List.length_map, List.length_take, sizeLine_eq]; omega) ?_
        exact add _ (by rw [hg2]; simp [c1])
    · rintro H2 ⟨S2, eL2⟩
      rw [lA, List.take_length] at eL2
      walk_at "xs"
      refine ⟨L2, _, rfl, SqL.of eL2, ?_⟩
      refine ⟨_, rfl, q _ _ (S1.trans S2) ?_⟩
      rw [Bool.not_eq_true', i2]
      exact ⟨fun h => ⟨i1.1, i1.2, h⟩, fun h => h.2.2⟩
theorem kn_isLowB {k : Nat} (D : Df K mg "is_low" s_is_low) (B : Bl mg) (c__is_closed : Kn P w K mg base "_is_closed" k (spClosedB C)) (c_givers : Kn P w K mg base "givers" k (spNumsP C upL)) : Kn P w K mg base "is_low" (k + 1) (spIsLB C false) := by
  refine kn_of D (fun _ _ _ _ _ _ us hl => match us, hl with | [_, _, _, _], _ => rfl) sc_is_low (fun vs H Q E h => by obtain ⟨M, N, x, p, g, m, ds, rs, ls, qs, ms, rfl, _⟩ := h; rfl) (fun f cd B' fr z H vs Q E hr gd h => ?_)
  obtain ⟨M, N, x, p, g, m, ds, rs, ls, qs, ms, rfl, cl, hp, wd, dg, so, hm, ml, inn, q⟩ := h
  refine ⟨_, (pss_one (ps_ret (pe_own c__is_closed hr gd (by rfl) (pa_cons (pv 0) (pa_cons (pv 2) (pa_cons (pv 3) (pa_cons (pe_own c_givers hr gd (by rfl) (pa_cons (pv 0) (pa_cons (pv 1) pa_nil))) pa_nil))))))), ?_⟩
  have len := (bundles_len wd.b2).1
  have same := wd.lo.1
  have al := arcs_len ds rs ls ls.length
  have n10 := bounds_len wd.b1
  have ql : qs.length ≤ 1000 := by rw [so.1.length_eq]; omega
  walk_at "xs"
  refine ⟨x, p, M, ds, rs, ls, rfl, cl, hp, wd, ?_⟩
  intro H1 s S1 ns es
  walk_at "xs"
  refine ⟨M, N, x, g, m, s, ds, _, qs, ms, _, rfl, cl.ext (Ext.same S1), wd.b1, dg.ext (Ext.same S1), ql, S1 _ _ hm, ml, es, inn, ?_⟩
  intro H2 b S2 hb
  refine q _ b (S1.trans S2) ?_
  rw [hb, LowG.perm so.1]
  rfl
theorem kn_isHighB {k : Nat} (D : Df K mg "is_high" s_is_high) (B : Bl mg) (c__is_closed : Kn P w K mg base "_is_closed" k (spClosedB C)) (c_takers : Kn P w K mg base "takers" k (spNumsP C dnL)) (c_turned : Kn P w K mg base "turned" k spTurned) : Kn P w K mg base "is_high" (k + 1) (spIsLB C true) := by
  refine kn_of D (fun _ _ _ _ _ _ us hl => match us, hl with | [_, _, _, _], _ => rfl) sc_is_high (fun vs H Q E h => by obtain ⟨M, N, x, p, g, m, ds, rs, ls, qs, ms, rfl, _⟩ := h; rfl) (fun f cd B' fr z H vs Q E hr gd h => ?_)
  obtain ⟨M, N, x, p, g, m, ds, rs, ls, qs, ms, rfl, cl, hp, wd, dg, so, hm, ml, inn, q⟩ := h
  refine ⟨_, (pss_one (ps_ret (pe_own c__is_closed hr gd (by rfl) (pa_cons (pv 0) (pa_cons (pe_own c_turned hr gd (by rfl) (pa_cons (pv 2) pa_nil)) (pa_cons (pv 3) (pa_cons (pe_own c_takers hr gd (by rfl) (pa_cons (pv 0) (pa_cons (pv 1) pa_nil))) pa_nil))))))), ?_⟩
  have len := (bundles_len wd.b2).1
  have same := wd.lo.1
  have al := arcs_len ds rs ls ls.length
  have n10 := bounds_len wd.b1
  have ql : qs.length ≤ 1000 := by rw [so.1.length_eq]; omega
  walk_at "xs"
  refine ⟨N, g, qs, rfl, dg, ql, ?_⟩
  intro H0 g2 S0 ng2 dg2
  have hp0 := S0 _ _ hp
  have hm0 := S0 _ _ hm
  walk_at "xs"
  refine ⟨x, p, M, ds, rs, ls, rfl, cl.ext (Ext.same S0), hp0, wd, ?_⟩
  intro H1 s S1 ns es
  have S01 := S0.trans S1
  walk_at "xs"
  refine ⟨M, [], x, g2, m, s, ds, _, swP qs, ms, _, rfl, cl.ext (Ext.same S01), wd.b1, dg2.ext (Ext.same S1), by unfold swP; rw [List.length_map]; exact ql, S1 _ _ hm0, ml, es, inn, ?_⟩
  intro H2 b S2 hb
  refine q _ b (S01.trans S2) ?_
  rw [hb, show LowG (swP qs) (dnL ds (ldOf ds.length rs ls ls.length)) ms ↔ LowG (swP (arcsOf ds rs ls ls.length)) (dnL ds (ldOf ds.length rs ls ls.length)) ms from LowG.perm (so.1.map _)]
  rfl
end
/-! ### lists of ints in data -/
def intsOf : List PyData → List Int
  | .int i :: r => i :: intsOf r
  | _ => []
theorem isT_strD (d : PyData) : isT "str" d = (match d with | .str _ => true | _ => false) := by cases d <;> simp only [tyD, isT] <;> decide +kernel
theorem chk_ints {n : Int} : ∀ {es : List PyData} {b : Int}, chk n b es = true → es = (intsOf es).map PyData.int ∧ (∀ m ∈ intsOf es, 0 ≤ m ∧ m < n) ∧ (∀ m ∈ intsOf es, b < m) ∧ (intsOf es).Pairwise (· < ·)
  | [], _, _ => ⟨rfl, by simp [intsOf], by simp [intsOf], List.Pairwise.nil⟩
  | d :: r, b, h => by
    cases d with
    | int i =>
      have h : ((decide (0 ≤ i) && decide (i < n)) && (decide (b < i) && chk n i r)) = true := h
      simp only [Bool.and_eq_true, decide_eq_true_eq] at h
      obtain ⟨⟨i0, i1⟩, bi, hc⟩ := h
      obtain ⟨e, rg, up, pw⟩ := chk_ints hc
      refine ⟨?_, ?_, ?_, ?_⟩
      · show PyData.int i :: r = PyData.int i :: (intsOf r).map PyData.int
        rw [← e]
      · intro m hm
        rcases List.mem_cons.mp (show m ∈ i :: intsOf r from hm) with rfl | hm
        · exact ⟨i0, i1⟩
        · exact rg m hm
      · intro m hm
        rcases List.mem_cons.mp (show m ∈ i :: intsOf r from hm) with rfl | hm
        · exact bi
        · have := up m hm; omega
      · exact List.pairwise_cons.mpr ⟨fun y hy => up y hy, pw⟩
    | _ => cases h
theorem intsOf_map (ms : List Int) : intsOf (ms.map PyData.int) = ms := by
  induction ms with
  | nil => rfl
  | cons m r ih =>
    show m :: intsOf (r.map PyData.int) = _
    rw [ih]
theorem DnAll.intsV {M : List Addr} {H : Hp} : ∀ {vs : List V} {ns : List Int}, DnAll M H vs (ns.map PyData.int) → vs = ns.map V.int
  | _, [], h => by cases h; rfl
  | _, n :: r, h => by
    cases h with
    | cons a h =>
      cases a
      rw [DnAll.intsV h]
      rfl
theorem nd_le {α : Type} [DecidableEq α] : ∀ {l m : List α}, l.Nodup → (∀ x ∈ l, x ∈ m) → l.length ≤ m.length
  | [], _, _, _ => Nat.zero_le _
  | a :: l, m, nd, h => by
    have nd := List.nodup_cons.mp nd
    have am := h a (List.mem_cons_self ..)
    have ih := nd_le (m := m.erase a) nd.2 fun x hx => (List.mem_erase_of_ne (fun e => nd.1 (by rw [← e]; exact hx))).mpr (h x (List.mem_cons_of_mem _ hx))
    rw [List.length_erase_of_mem am] at ih
    have := List.length_pos_of_mem am
    rw [List.length_cons]
    omega
theorem canAll_filter {p : PyData → Bool} : ∀ {es : List PyData}, PyData.canLayAll0 es = true → PyData.canLayAll0 (es.filter p) = true
  | [], _ => rfl
  | d :: r, h => by
    have h : (PyData.canLay0 d && PyData.canLayAll0 r) = true := h
    rw [Bool.and_eq_true] at h
    have ih := canAll_filter (p := p) h.2
    rw [List.filter_cons]
    split
    · show (PyData.canLay0 d && PyData.canLayAll0 _) = true
      rw [h.1, ih]; rfl
    · exact ih
theorem depAll_filter {p : PyData → Bool} : ∀ {es : List PyData}, PyData.depthAll (es.filter p) ≤ PyData.depthAll es
  | [] => Nat.le_refl _
  | d :: r => by
    have ih := depAll_filter (p := p) (es := r)
    rw [List.filter_cons]
    split
    · simp only [PyData.depthAll]
      omega
    · simp only [PyData.depthAll]
      omega
theorem shaped_filter {p : PyData → Bool} {es : List PyData} (h : SeqAt.shaped (.list es) = true) : SeqAt.shaped (.list (es.filter p)) = true := by
  have h1 : PyData.canLayAll0 es = true := SeqAt.canLay_of_shaped h
  have h2 := SeqAt.depth_of_shaped h
  have h3 := depAll_filter (p := p) (es := es)
  have h2 : PyData.depthAll es + 1 ≤ 64 := by simpa [PyData.depth, Nat.add_comm] using h2
  refine (Bool.and_eq_true _ _).mpr ⟨canAll_filter h1, decide_eq_true ?_⟩
  have e : PyData.depth (.list (es.filter p)) = PyData.depthAll (es.filter p) + 1 := by simp [PyData.depth, Nat.add_comm]
  omega
theorem chk_of {n : Int} : ∀ {ms : List Int} {b : Int}, (∀ m ∈ ms, 0 ≤ m ∧ m < n) → (∀ m ∈ ms, b < m) → ms.Pairwise (· < ·) → chk n b (ms.map PyData.int) = true
  | [], _, _, _, _ => rfl
  | m :: r, b, rg, up, pw => by
    obtain ⟨h1, h2⟩ := List.pairwise_cons.mp pw
    have ih := chk_of (b := m) (fun x hx => rg x (List.mem_cons_of_mem _ hx)) h1 h2
    have g := rg m (List.mem_cons_self ..)
    have u := up m (List.mem_cons_self ..)
    show ((decide (0 ≤ m) && decide (m < n)) && (decide (b < m) && chk n m (r.map PyData.int))) = true
    rw [ih, decide_eq_true g.1, decide_eq_true g.2, decide_eq_true u]
    rfl
theorem pw_eq {xs ys : List Int} (u1 : xs.Pairwise (· < ·)) (u2 : ys.Pairwise (· < ·)) (m : ∀ x, x ∈ xs ↔ x ∈ ys) : xs = ys := by
  have n1 : xs.Nodup := u1.imp fun h => by omega
  have n2 : ys.Nodup := u2.imp fun h => by omega
  have pm : xs.Perm ys := (List.perm_ext_iff_of_nodup n1 n2).mpr m
  exact pm.eq_of_pairwise (fun a b _ _ h1 h2 => by omega) u1 u2
theorem Dn.tupI {M : List Addr} {H : Hp} {v : V} {l : List Int} (h : Dn M H v (tupD l)) : ∃ r, v = .ref r ∧ r ∉ M ∧ H r = some (.tup (l.map V.int)) := by
  unfold tupD at h
  cases h with
  | @tup r xs _ e n A =>
    rw [A.intsV] at e
    exact ⟨r, rfl, n, e⟩
theorem eqv_nil'' {ds : List PyData} : PyData.eqv (.list ds) (.list []) = decide (ds = []) := by
  cases ds <;> simp [PyData.eqv, PyData.eqvAll]
theorem ints_inj : ∀ {ms ns : List Int}, ms.map PyData.int = ns.map PyData.int → ms = ns
  | [], [], _ => rfl
  | [], _ :: _, h => by cases h
  | _ :: _, [], h => by cases h
  | m :: r, n :: t, h => by
    injection h with h1 h2
    injection h1 with h1
    rw [h1, ints_inj h2]

/-! ### is_bar, over any data -/
def BarP (ds rs : List PyData) (ls : List Int) (a b : Int) : PyData → Prop
  | .tuple [.str k, w] => (k = Str.ofString "rigid" ∧ ∃ m, w = .int m ∧ m ∈ [a, b] ∧ lsB ds m.toNat = false) ∨
      (∃ ms : List Int, w = .list (ms.map PyData.int) ∧ setD w ds.length = true ∧ hitB ms a b = true ∧ ((k = Str.ofString "low" ∧ LoP false ds rs ls ms) ∨ (k = Str.ofString "high" ∧ LoP true ds rs ls ms)))
  | _ => False
theorem barP_tup {ds rs : List PyData} {ls : List Int} {a b : Int} {es : List PyData} (h : es.length ≠ 2) : ¬ BarP ds rs ls a b (.tuple es) := by
  intro hb
  unfold BarP at hb
  split at hb
  · rename_i e
    cases e
    exact h rfl
  · exact hb
theorem barP_no {ds rs : List PyData} {ls : List Int} {a b : Int} {k : Str} {w : PyData} (h1 : k ≠ Str.ofString "rigid") (h2 : setD w ds.length = false) : ¬ BarP ds rs ls a b (.tuple [.str k, w]) := by
  rintro (⟨e, _⟩ | ⟨ms, _, hs, _⟩)
  · exact h1 e
  · rw [h2] at hs; cases hs
def spIsObsB (C : Addr) : Sp := fun vs H Q _ => ∃ (M N O : List Addr) (x p g e : Addr) (v : V) (d : PyData) (ds rs : List PyData) (ls : List Int) (qs : List (Int × Int)) (a b : Int), vs = [.ref x, .ref p, .ref g, .ref e, .ref e, .ref e, v] ∧ Clu C M H x (.list ds) (.list rs) ∧ H p = some (.tup (ls.map V.int)) ∧ Wd ds rs ls ∧
  Dn N H (.ref g) (.list (qs.map prD)) ∧ SrtOf (arcsOf ds rs ls ls.length) qs ∧ H e = some (.lst [.int a, .int b]) ∧ 0 ≤ a ∧ a < b ∧ b < ds.length ∧ Dn O H v d ∧ ∀ H' r, Same H H' → (r = true ↔ BarP ds rs ls a b d) → Q (.bl r) H'
def spIsBarB (C : Addr) : Sp := fun vs H Q _ => ∃ (M O : List Addr) (x p : Addr) (n : Int) (v : V) (d : PyData) (ds rs : List PyData) (ls : List Int) (a b c : Int), vs = [.ref x, .ref p, .int n, v] ∧ Clu C M H x (.list ds) (.list rs) ∧ H p = some (.tup (ls.map V.int)) ∧ Wd ds rs ls ∧
  0 ≤ n ∧ rs[n.toNat]? = some (tupD [a, b, c]) ∧ Dn O H v d ∧ ∀ H' r, Same H H' → (r = true ↔ BarP ds rs ls a b d) → Q (.bl r) H'
section
variable {P : Program} {w : World} {K : PySem.W.Frag} {mg : Str → Option Value} {base : Heap} {t0 t1 t2 t3 t4 : Tok} {C : Addr}
theorem kn_isObsB {k : Nat} (D : Df K mg "is_obstacle" s_is_obstacle) (B : Bl mg) (cc : Cc K mg C) (c_is_broker : Kn P w K mg base "is_broker" k (sp2 brokerD)) (c_is_set : Kn P w K mg base "is_set" k (sp2 setD)) (c__meet : Kn P w K mg base "_meet" k spMeet) (c_is_low : Kn P w K mg base "is_low" k (spIsLB C false)) (c_is_high : Kn P w K mg base "is_high" k (spIsLB C true)) (m_size : Km P w K mg base C "size" k (spSize C)) (m_is_rigid : Km P w K mg base C "is_rigid" k (spRigid C)) : Kn P w K mg base "is_obstacle" (k + 1) (spIsObsB C) := by
  refine kn_of D (fun _ _ _ _ _ _ us hl => match us, hl with | [_, _, _, _, _, _, _], _ => rfl) sc_is_obstacle (fun vs H Q E h => by obtain ⟨M, N, O, x, p, g, e, v, d, ds, rs, ls, qs, a, b, rfl, _⟩ := h; rfl) (fun f cd B' fr z H vs Q E hr gd h => ?_)
  obtain ⟨M, N, O, x, p, g, e, v, d, ds, rs, ls, qs, a, b, rfl, cl, hp, wd, dg, so, he, a0, ab, bn, hd, q⟩ := h
  have c_Cluster := cc.ck
  refine ⟨_, (pss_cons (ps_if (PW.pt (pw_or (pt_not (pt_val (pe_callB call_isD (by rfl) B.isinstance (by decide +kernel) (pa_cons (pv 6) (pa_cons (pe_bltn (v := .ty "tuple") (u := .type "tuple") (by rfl) B.«tuple» (by decide +kernel) rfl) pa_nil))))) (pw_or (pt_cmpR op_ne (pe_callB call_len_seq (by rfl) B.len (by decide +kernel) (pa_cons (pv 6) pa_nil)) pe_int (nomark _)) (pw_or1 (pt_not (pt_val (pe_callB call_isD (by rfl) B.isinstance (by decide +kernel) (pa_cons (pe_ix (r := rIxT K) ix_tup (pv 6) pe_int (fun _ _ => rfl)) (pa_cons (pe_bltn (v := .ty "str") (u := .type "str") (by rfl) B.«str» (by decide +kernel) rfl) pa_nil))))))))) (pss_one (ps_ret pe_bl)) pss_nil)
  (pss_cons (ps_asg (pv 6) (pg_tup (by rfl) (pgs_cons (pg_name (i := 7) sc_is_obstacle.nd rfl (.inl rfl)) (pgs_cons (pg_name (i := 8) sc_is_obstacle.nd rfl (.inl rfl)) pgs_nil))))
  (pss_cons (ps_if (pt_cmpR op_eq (pv 7) pe_str (nomark _)) (pss_one (ps_ret (pe_and (pe_own c_is_broker hr gd (by rfl) (pa_cons (pv 8) (pa_cons (pe_ownM0 (pv 0) c_Cluster.cls m_size hr gd) pa_nil))) (pe_and (pe_cmpR (op_inSK K) (pv 8) (pv 3) (by rfl)) (pe_one (pe_ownM (pv 0) c_Cluster.cls m_is_rigid hr gd (pa_cons (pv 8) pa_nil))))))) pss_nil)
  (pss_cons (ps_if (pt_not (pt_val (pe_own c_is_set hr gd (by rfl) (pa_cons (pv 8) (pa_cons (pe_ownM0 (pv 0) c_Cluster.cls m_size hr gd) pa_nil))))) (pss_one (ps_ret pe_bl)) pss_nil)
  (pss_cons (ps_if (pt_cmpR op_eq (pv 7) pe_str (nomark _)) (pss_one (ps_ret (pe_and (pe_own c__meet hr gd (by rfl) (pa_cons (pv 8) (pa_cons (pv 4) pa_nil))) (pe_one (pe_own c_is_low hr gd (by rfl) (pa_cons (pv 0) (pa_cons (pv 1) (pa_cons (pv 2) (pa_cons (pv 8) pa_nil))))))))) pss_nil)
  (pss_one (ps_ret (pe_and (pe_cmpR op_eq (pv 7) pe_str (nomark _)) (pe_and (pe_own c__meet hr gd (by rfl) (pa_cons (pv 8) (pa_cons (pv 5) pa_nil))) (pe_one (pe_own c_is_high hr gd (by rfl) (pa_cons (pv 0) (pa_cons (pv 1) (pa_cons (pv 2) (pa_cons (pv 8) pa_nil))))))))))))))), ?_⟩
  obtain ⟨dx, B0, U0, N0, kvs, hx, _⟩ := id cl
  have n10 := bounds_len wd.b1
  have no : ∀ {H' : Hp}, Same H H' → ¬ BarP ds rs ls a b d → Q (.bl false) H' := fun S h => q _ _ S ⟨fun h => (by cases h), fun h2 => absurd h2 h⟩
  walk_at "xs"
  refine x_iteNB (fun h => ?_) (fun h => ?_)
  · walk_at "xs"
    rw [isT_tuple] at h
    exact no (Same.refl _) (by cases d <;> first | exact id | cases h)
  rw [isT_tuple] at h
  cases hd with
  | @tup ta xs es ha hm hxs =>
    have lx := hxs.length
    walk_at "xs"
    refine x_iteN (fun h2 => ?_) (fun h2 => ?_)
    · walk_at "xs"
      exact no (Same.refl _) (barP_tup (by omega))
    · have l2 : es.length = 2 := by omega
      obtain ⟨d0, d1, rfl⟩ : ∃ d0 d1, es = [d0, d1] := by
        match es, l2 with
        | [a, b], _ => exact ⟨a, b, rfl⟩
      cases hxs with
      | @cons v0 vr _ _ h0 hr' =>
      cases hr' with
      | @cons v1 vr1 _ _ h1 hr' =>
      cases hr'
      walk_at "xs"
      refine x_iteNB (fun h => ?_) (fun h => ?_)
      · walk_at "xs"
        rw [isT_strD] at h
        exact no (Same.refl _) (by cases d0 <;> first | exact id | cases h)
      rw [isT_strD] at h
      cases h0 with
      | str k =>
        walk_at "xs"
        refine x_ite (fun hk => ?_) (fun hk => ?_)
        · walk_at "xs"
          refine x_mAt hx (f3_none _ _ _ (by decide) (by decide) (by decide)) ?_
          walk_at "xs"
          refine ⟨x, M, ds, _, rfl, cl, ?_⟩
          walk_at "xs"
          refine x_sp2 h1 ?_
          have iffR : BarP ds rs ls a b (.tuple [.str k, d1]) ↔ ∃ m, d1 = .int m ∧ m ∈ [a, b] ∧ lsB ds m.toNat = false := by
            constructor
            · rintro (⟨_, h⟩ | ⟨ms, _, _, _, ⟨e, _⟩ | ⟨e, _⟩⟩)
              · exact h
              · rw [hk] at e; exact absurd e (by decide)
              · rw [hk] at e; exact absurd e (by decide)
            · exact fun h => .inl ⟨hk, h⟩
          refine ⟨_, rfl, ?_⟩
          refine x_iteB (fun c => ?_) (fun c => ?_)
          · cases h1 with
            | int m =>
              have c : (decide (0 ≤ m) && decide (m < (ds.length : Int))) = true := c
              rw [Bool.and_eq_true, decide_eq_true_eq, decide_eq_true_eq] at c
              walk_at "xs"
              refine x_inI (ms := [a, b]) he ?_
              cases ci : decide (m ∈ [a, b]) with
              | false =>
                walk_at "xs"
                refine no (Same.refl _) fun h => ?_
                obtain ⟨m', e, h1, _⟩ := iffR.mp h
                injection e with e
                rw [← e] at h1
                rw [decide_eq_true h1] at ci
                cases ci
              | true =>
                walk_at "xs"
                refine x_mAt hx (f3_none _ _ _ (by decide) (by decide) (by decide)) ?_
                walk_at "xs"
                obtain ⟨lw, up', hrow, eb⟩ := ls_bnd wd.b1 c.1 c.2
                refine ⟨x, M, ds, _, m, lw, up', rfl, cl, c.1, c.2, hrow, ?_⟩
                rw [eb]
                refine q _ _ (Same.refl _) ?_
                rw [iffR, Bool.not_eq_true']
                constructor
                · exact fun h => ⟨m, rfl, of_decide_eq_true ci, h⟩
                · rintro ⟨m', e, _, h⟩
                  injection e with e
                  rw [e]; exact h
            | _ => cases c
          · refine no (Same.refl _) fun h => ?_
            obtain ⟨m, rfl, hm, _⟩ := iffR.mp h
            have c : (decide (0 ≤ m) && decide (m < (ds.length : Int))) = false := c
            have : 0 ≤ m ∧ m < (ds.length : Int) := by
              simp only [List.mem_cons, List.not_mem_nil, or_false] at hm
              rcases hm with rfl | rfl <;> omega
            rw [decide_eq_true this.1, decide_eq_true this.2] at c
            cases c
        · walk_at "xs"
          refine x_mAt hx (f3_none _ _ _ (by decide) (by decide) (by decide)) ?_
          walk_at "xs"
          refine ⟨x, M, ds, _, rfl, cl, ?_⟩
          walk_at "xs"
          refine x_sp2 h1 ?_
          walk_at "xs"
          refine x_iteNB (fun h => ?_) (fun h => ?_)
          · walk_at "xs"
            exact no (Same.refl _) (barP_no hk h)
          cases h1 with
          | @lst a1 ys es h1 hm1 A1 =>
            have h' : chk ds.length (-1) es = true := h
            obtain ⟨ems, rg, _, pw⟩ := chk_ints h'
            obtain ⟨ms, hms⟩ : ∃ ms, ms = intsOf es := ⟨_, rfl⟩
            rw [← hms] at ems rg pw
            subst ems
            obtain rfl := A1.intsV
            have lm : ms.length ≤ 10 := ten_len (pw.imp (fun h => by omega)) fun m hm => by have := rg m hm; omega
            have iff1 : BarP ds rs ls a b (.tuple [.str k, .list (ms.map PyData.int)]) ↔ hitB ms a b = true ∧ ((k = Str.ofString "low" ∧ LoP false ds rs ls ms) ∨ (k = Str.ofString "high" ∧ LoP true ds rs ls ms)) := by
              constructor
              · rintro (⟨e, _⟩ | ⟨ms', e, _, h1, h2⟩)
                · exact absurd e hk
                · injection e with e
                  obtain rfl := ints_inj e
                  exact ⟨h1, h2⟩
              · rintro ⟨h1, h2⟩
                exact .inr ⟨ms, rfl, h, h1, h2⟩
            walk_at "xs"
            refine x_ite (fun hl => ?_) (fun hl => ?_)
            · walk_at "xs"
              refine ⟨a1, e, ms, [a, b], rfl, h1, he, (show 2 ≤ 100 by decide), ?_⟩
              intro H1 S1
              rw [hit_any]
              cases hit : hitB ms a b with
              | false =>
                walk_at "xs"
                exact no S1 (fun h => by rw [iff1, hit] at h; cases h.1)
              | true =>
                have S1p := S1 _ _ hp
                walk_at "xs"
                refine ⟨M, N, x, p, g, a1, ds, rs, ls, qs, ms, rfl, cl.ext (Ext.same S1), S1p, wd, dg.ext (Ext.same S1), so, S1 _ _ h1, lm, rg, ?_⟩
                intro H2 r S2 hr2
                refine q _ _ (S1.trans S2) ?_
                rw [hr2, iff1]
                constructor
                · exact fun h => ⟨hit, .inl ⟨hl, h⟩⟩
                · rintro ⟨_, ⟨_, h⟩ | ⟨h, _⟩⟩
                  · exact h
                  · rw [hl] at h; exact absurd h (by decide)
            · walk_at "xs"
              refine x_ite (fun hh => ?_) (fun hh => ?_)
              · walk_at "xs"
                refine ⟨a1, e, ms, [a, b], rfl, h1, he, (show 2 ≤ 100 by decide), ?_⟩
                intro H1 S1
                rw [hit_any]
                cases hit : hitB ms a b with
                | false =>
                  walk_at "xs"
                  exact no S1 (fun h => by rw [iff1, hit] at h; cases h.1)
                | true =>
                  have S1p := S1 _ _ hp
                  walk_at "xs"
                  refine ⟨M, N, x, p, g, a1, ds, rs, ls, qs, ms, rfl, cl.ext (Ext.same S1), S1p, wd, dg.ext (Ext.same S1), so, S1 _ _ h1, lm, rg, ?_⟩
                  intro H2 r S2 hr2
                  refine q _ _ (S1.trans S2) ?_
                  rw [hr2, iff1]
                  constructor
                  · exact fun h => ⟨hit, .inr ⟨hh, h⟩⟩
                  · rintro ⟨_, ⟨h, _⟩ | ⟨_, h⟩⟩
                    · exact absurd h hl
                    · exact h
              · refine no (Same.refl _) fun h => ?_
                obtain ⟨_, ⟨h, _⟩ | ⟨h, _⟩⟩ := iff1.mp h
                · exact hl h
                · exact hh h
          | _ => cases h
      | _ => cases h
  | _ => cases h
theorem kn_isBarB {k : Nat} (D : Df K mg "is_bar" s_is_bar) (B : Bl mg) (c_ends_frozen : Kn P w K mg base "ends_frozen" k (spEnds C)) (c_is_obstacle : Kn P w K mg base "is_obstacle" k (spIsObsB C)) (c_arcs : Kn P w K mg base "arcs" k (spArcs C)) : Kn P w K mg base "is_bar" (k + 1) (spIsBarB C) := by
  refine kn_of D (fun _ _ _ _ _ _ us hl => match us, hl with | [_, _, _, _], _ => rfl) sc_is_bar (fun vs H Q E h => by obtain ⟨M, O, x, p, n, v, d, ds, rs, ls, a, b, c, rfl, _⟩ := h; rfl) (fun f cd B' fr z H vs Q E hr gd h => ?_)
  obtain ⟨M, O, x, p, n, v, d, ds, rs, ls, a, b, c, rfl, cl, hp, wd, n0, hrow, hd, q⟩ := h
  refine ⟨_, (pss_cons (ps_set (i := 4) sc_is_bar.nd rfl (.inl rfl) (pe_own c_ends_frozen hr gd (by rfl) (pa_cons (pv 0) (pa_cons (pv 2) pa_nil))))
  (pss_one (ps_ret (pe_own c_is_obstacle hr gd (by rfl) (pa_cons (pv 0) (pa_cons (pv 1) (pa_cons (pe_own c_arcs hr gd (by rfl) (pa_cons (pv 0) (pa_cons (pv 1) pa_nil))) (pa_cons (pv 4) (pa_cons (pv 4) (pa_cons (pv 4) (pa_cons (pv 3) pa_nil))))))))))), ?_⟩
  obtain ⟨a0, ab, bn⟩ := row_rng wd hrow
  walk_at "xs"
  refine ⟨M, x, n, _, rs, a, b, c, rfl, cl, n0, hrow, ?_⟩
  intro H1 e S1 ne he
  have hp1 := S1 _ _ hp
  walk_at "xs"
  refine ⟨x, p, M, [], ds, rs, ls, rfl, cl.ext (Ext.same S1), hp1, wd, fun m hm => (by cases hm), ?_⟩
  intro H2 g ys qs S2 ng eg A so
  have S12 := S1.trans S2
  walk_at "xs"
  refine ⟨M, [], O, x, p, g, e, v, d, ds, rs, ls, qs, a, b, rfl, cl.ext (Ext.same S12), S2 _ _ hp1, wd, .lst eg (by simp) A, so, S2 _ _ he, a0, ab, bn, hd.ext (Ext.same S12), ?_⟩
  intro H3 r S3 hr3
  exact q _ r (S12.trans S3) hr3
end
/-! ### a step that is legal: what stays -/
def hsOf (ds rs : List PyData) (ls : List Int) : List Int := ldOf ds.length rs ls ls.length
structure Stp (ds rs : List PyData) (ls : List Int) (i j : Int) : Prop where
  arc : (i, j) ∈ arcsOf ds rs ls ls.length
  up : i ∈ upL ds (hsOf ds rs ls)
  dn : j ∈ dnL ds (hsOf ds rs ls)
theorem arcs_mem {ds rs : List PyData} {ls : List Int} {p : Int × Int} : ∀ n, p ∈ arcsOf ds rs ls n ↔ ∃ (k : Nat) (l : Int) (r : PyData), k < n ∧ ls[k]? = some l ∧ rs[k]? = some r ∧ p ∈ arcStep ds r l
  | 0 => ⟨fun h => (by cases h), fun ⟨k, _, _, h, _⟩ => absurd h (Nat.not_lt_zero _)⟩
  | n + 1 => by
    show p ∈ arcsOf ds rs ls n ++ _ ↔ _
    rw [List.mem_append, arcs_mem n]
    constructor
    · rintro (⟨k, l, r, h1, h2, h3, h4⟩ | h)
      · exact ⟨k, l, r, by omega, h2, h3, h4⟩
      · split at h
        · rename_i l r h2 h3
          exact ⟨n, l, r, by omega, h2, h3, h⟩
        · cases h
    · rintro ⟨k, l, r, h1, h2, h3, h4⟩
      by_cases c : k = n
      · subst c
        right
        rw [h2, h3]
        exact h4
      · exact .inl ⟨k, l, r, by omega, h2, h3, h4⟩
section
variable {ds rs : List PyData} {ls : List Int} {i j : Int}
theorem arc_led (wd : Wd ds rs ls) {x y : Int} : (x, y) ∈ arcsOf ds rs ls ls.length ↔ lsB ds x.toNat = true ∧ lsB ds y.toNat = true ∧ ∃ v, LedIs rs ls x y v ∧ 0 < v := by
  have n10 := bounds_len wd.b1
  have same := wd.lo.1
  rw [arcs_mem]
  constructor
  · rintro ⟨k, l, r, h1, h2, h3, h4⟩
    obtain ⟨a, b, c, hr, _⟩ := rows_at wd.b2 (by omega) (List.getElem?_eq_some_iff.mp h3).1
    rw [h3] at hr
    obtain rfl : r = tupD [a, b, c] := Option.some.inj hr
    have h4 : (x, y) ∈ (if (lsB ds a.toNat && lsB ds b.toNat) = true then (if l > 0 then [(a, b)] else []) ++ (if l < c then [(b, a)] else []) else []) := h4
    split at h4
    · rename_i lb
      rw [Bool.and_eq_true] at lb
      rcases List.mem_append.mp h4 with h | h
      · split at h
        · simp at h
          obtain ⟨rfl, rfl⟩ := h
          exact ⟨lb.1, lb.2, l, .inl ⟨k, x, y, c, l, h3, h2, .inl ⟨rfl, rfl, rfl⟩⟩, by omega⟩
        · cases h
      · split at h
        · simp at h
          obtain ⟨rfl, rfl⟩ := h
          exact ⟨lb.2, lb.1, c - l, .inl ⟨k, y, x, c, l, h3, h2, .inr ⟨rfl, rfl, rfl⟩⟩, by omega⟩
        · cases h
    · cases h4
  · rintro ⟨h1, h2, v, ⟨k, a, b, c, l, hk, hl, m⟩ | ⟨_, h⟩, v0⟩
    · refine ⟨k, l, _, (List.getElem?_eq_some_iff.mp hl).1, hl, hk, ?_⟩
      show (x, y) ∈ (if (lsB ds a.toNat && lsB ds b.toNat) = true then (if l > 0 then [(a, b)] else []) ++ (if l < c then [(b, a)] else []) else [])
      rcases m with ⟨rfl, rfl, rfl⟩ | ⟨rfl, rfl, rfl⟩
      · rw [if_pos (by rw [h1, h2]; rfl), if_pos v0]
        simp
      · rw [if_pos (by rw [h1, h2]; rfl), if_pos (show l < c by omega)]
        simp
    · omega
theorem up_iff {hs : List Int} (lh : hs.length = ds.length) {k : Nat} {lo u : Int} (h : ds[k]? = some (tupD [lo, u])) : ((k : Nat) : Int) ∈ upL ds hs ↔ lo < hs.getD k 0 := by
  have hk := (List.getElem?_eq_some_iff.mp h).1
  have hh : hs[k]? = some hs[k] := List.getElem?_eq_getElem (by omega)
  unfold upL
  rw [cI_mem, List.mem_filter, List.mem_range, List.getD_eq_getElem?_getD, hh]
  have e : upB ds hs k = decide (hs[k] > lo) := by
    unfold upB
    rw [h, hh]
    rfl
  rw [e, decide_eq_true_iff]
  exact ⟨fun h => h.2, fun h => ⟨hk, h⟩⟩
theorem dn_iff {hs : List Int} (lh : hs.length = ds.length) {k : Nat} {lo u : Int} (h : ds[k]? = some (tupD [lo, u])) : ((k : Nat) : Int) ∈ dnL ds hs ↔ hs.getD k 0 < u := by
  have hk := (List.getElem?_eq_some_iff.mp h).1
  have hh : hs[k]? = some hs[k] := List.getElem?_eq_getElem (by omega)
  unfold dnL
  rw [cI_mem, List.mem_filter, List.mem_range, List.getD_eq_getElem?_getD, hh]
  have e : dnB ds hs k = decide (hs[k] < u) := by
    unfold dnB
    rw [h, hh]
    rfl
  rw [e, decide_eq_true_iff]
  exact ⟨fun h => h.2, fun h => ⟨hk, h⟩⟩
theorem up_rng {hs : List Int} {x : Int} (h : x ∈ upL ds hs) : ∃ k : Nat, k < ds.length ∧ x = (k : Nat) := by
  obtain ⟨k, hk, rfl⟩ := List.mem_map.mp h
  exact ⟨k, List.mem_range.mp (List.mem_filter.mp hk).1, rfl⟩
theorem dn_rng {hs : List Int} {x : Int} (h : x ∈ dnL ds hs) : ∃ k : Nat, k < ds.length ∧ x = (k : Nat) := by
  obtain ⟨k, hk, rfl⟩ := List.mem_map.mp h
  exact ⟨k, List.mem_range.mp (List.mem_filter.mp hk).1, rfl⟩
/-- all facts of one step -/
structure StF (ds rs : List PyData) (ls : List Int) (i j : Int) : Prop where
  ne : i ≠ j
  i0 : 0 ≤ i
  i1 : i < ds.length
  j0 : 0 ≤ j
  j1 : j < ds.length
  li : lsB ds i.toNat = true
  lj : lsB ds j.toNat = true
  led : ∃ v, LedIs rs ls i j v ∧ 0 < v
  row : ∃ (k : Nat) (a b c l : Int), rs[k]? = some (tupD [a, b, c]) ∧ ls[k]? = some l ∧ 0 ≤ l ∧ l ≤ c ∧ a < b ∧ ((i = a ∧ j = b ∧ 0 < l) ∨ (i = b ∧ j = a ∧ l < c))
  ld : ∀ x : Nat, x < ds.length → (hsOf ds rs (mvL rs ls i j 1)).getD x 0 = (hsOf ds rs ls).getD x 0 + (if (x : Int) = i then -1 else if (x : Int) = j then 1 else 0)
theorem Stp.f (wd : Wd ds rs ls) (s : Stp ds rs ls i j) : StF ds rs ls i j := by
  have n10 := bounds_len wd.b1
  have same := wd.lo.1
  obtain ⟨h1, h2, v, lv, v0⟩ := (arc_led wd).mp s.arc
  have am := arc_mem (ds := ds) (ls := ls) wd.b2 (by omega) ls.length _ s.arc
  have row : ∃ (k : Nat) (a b c l : Int), rs[k]? = some (tupD [a, b, c]) ∧ ls[k]? = some l ∧ 0 ≤ l ∧ l ≤ c ∧ a < b ∧ ((i = a ∧ j = b ∧ 0 < l) ∨ (i = b ∧ j = a ∧ l < c)) := by
    rcases lv with ⟨k, a, b, c, l, hk, hl, m⟩ | ⟨_, h⟩
    · obtain ⟨a', b', c', hr, _, ab, _⟩ := rows_at wd.b2 (by omega) (List.getElem?_eq_some_iff.mp hk).1
      rw [hk] at hr
      have hr : tupD [a, b, c] = tupD [a', b', c'] := Option.some.inj hr
      cases hr
      have lo : 0 ≤ l ∧ l ≤ c := wd.lo.2 k l _ hl hk
      refine ⟨k, a, b, c, l, hk, hl, lo.1, lo.2, ab, ?_⟩
      rcases m with ⟨h1, h2, h3⟩ | ⟨h1, h2, h3⟩
      · exact .inl ⟨h1, h2, by omega⟩
      · exact .inr ⟨h1, h2, by omega⟩
    · omega
  have ne : i ≠ j := by
    obtain ⟨_, a, b, _, _, _, _, _, _, ab, m⟩ := row
    omega
  refine ⟨ne, am.1.1, am.1.2.1, am.1.2.2.1, am.1.2.2.2, h1, h2, ⟨v, lv, v0⟩, row, fun x hx => ?_⟩
  have := ld_mv (x := (x : Int)) wd.b2 (by omega) same (pin_of lv v0) ne am.1.1 am.1.2.1 am.1.2.2.1 am.1.2.2.2 (by omega) (by omega)
  rw [Int.toNat_natCast, Int.toNat_natCast] at this
  exact this
theorem hs_len (ds rs : List PyData) (ls : List Int) : (hsOf ds rs ls).length = ds.length := ld_len _ _ _ _
theorem hs_at {k : Nat} (h : k < ds.length) : (hsOf ds rs ls)[k]? = some ((hsOf ds rs ls).getD k 0) := by
  have := hs_len ds rs ls
  rw [List.getD_eq_getElem?_getD, List.getElem?_eq_getElem (by omega)]
  rfl
theorem hs_ok (wd : Wd ds rs ls) {k : Nat} {lo u : Int} (h : ds[k]? = some (tupD [lo, u])) : lo ≤ (hsOf ds rs ls).getD k 0 ∧ (hsOf ds rs ls).getD k 0 ≤ u :=
  wd.ok k lo u _ h (hs_at (List.getElem?_eq_some_iff.mp h).1)
theorem Stp.wd (wd : Wd ds rs ls) (s : Stp ds rs ls i j) : Wd ds rs (mvL rs ls i j 1) := by
  have f := s.f wd
  have n10 := bounds_len wd.b1
  obtain ⟨v, lv, v0⟩ := f.led
  refine ⟨wd.b1, wd.b2, mv_ok wd.b2 (by omega) wd.lo lv v0, fun k lo u h e1 e2 => ?_⟩
  have hk := (List.getElem?_eq_some_iff.mp e1).1
  have e3 := hs_at (ds := ds) (rs := rs) (ls := mvL rs ls i j 1) hk
  have e2 : (hsOf ds rs (mvL rs ls i j 1))[k]? = some h := e2
  rw [e2] at e3
  have e3 := Option.some.inj e3
  have o := hs_ok wd e1
  rw [f.ld k hk] at e3
  have ui : (k : Int) = i → lo < (hsOf ds rs ls).getD k 0 := fun e => (up_iff (hs_len ds rs ls) e1).mp (by rw [e]; exact s.up)
  have dj : (k : Int) = j → (hsOf ds rs ls).getD k 0 < u := fun e => (dn_iff (hs_len ds rs ls) e1).mp (by rw [e]; exact s.dn)
  split at e3
  · have := ui (by assumption)
    omega
  · split at e3
    · have := dj (by assumption)
      omega
    · omega
theorem Stp.led' (wd : Wd ds rs ls) (s : Stp ds rs ls i j) : ∃ v, LedIs rs (mvL rs ls i j 1) j i v ∧ 0 < v := by
  have f := s.f wd
  obtain ⟨k, a, b, c, l, hk, hl, l0, l1, ab, m⟩ := f.row
  have e := mvL_at (i := i) (j := j) (t := 1) hl hk
  have e1 : mv1 (tupD [a, b, c]) l i j 1 = if a = i ∧ b = j then l - 1 else if a = j ∧ b = i then l + 1 else l := rfl
  rw [e1] at e
  rcases m with ⟨rfl, rfl, m⟩ | ⟨rfl, rfl, m⟩
  · rw [if_pos ⟨rfl, rfl⟩] at e
    exact ⟨c - (l - 1), .inl ⟨k, i, j, c, l - 1, hk, e, .inr ⟨rfl, rfl, rfl⟩⟩, by omega⟩
  · rw [if_neg (by omega), if_pos ⟨rfl, rfl⟩] at e
    exact ⟨l + 1, .inl ⟨k, j, i, c, l + 1, hk, e, .inl ⟨rfl, rfl, rfl⟩⟩, by omega⟩
theorem Stp.sym (wd : Wd ds rs ls) (s : Stp ds rs ls i j) : Stp ds rs (mvL rs ls i j 1) j i := by
  have f := s.f wd
  have wd' := s.wd wd
  obtain ⟨ki, hki, ei⟩ := up_rng s.up
  obtain ⟨kj, hkj, ej⟩ := dn_rng s.dn
  subst ei
  subst ej
  have fne := f.ne
  refine ⟨(arc_led wd').mpr ⟨f.lj, f.li, s.led' wd⟩, ?_, ?_⟩
  · obtain ⟨lo, u, hrow, _⟩ := bound_at wd.b1 hkj
    have := hs_ok wd hrow
    rw [up_iff (hs_len _ _ _) hrow, f.ld kj hkj, if_neg (by omega), if_pos rfl]
    omega
  · obtain ⟨lo, u, hrow, _⟩ := bound_at wd.b1 hki
    have := hs_ok wd hrow
    rw [dn_iff (hs_len _ _ _) hrow, f.ld ki hki, if_pos rfl]
    omega
theorem Stp.back (wd : Wd ds rs ls) (s : Stp ds rs ls i j) : mvL rs (mvL rs ls i j 1) j i 1 = ls := by
  have f := s.f wd
  have n10 := bounds_len wd.b1
  have same := wd.lo.1
  have l1 := mvL_len (i := i) (j := j) (t := 1) same
  have l2 := mvL_len (i := j) (j := i) (t := 1) l1
  refine List.ext_getElem? fun q => ?_
  by_cases hq : q < ls.length
  · obtain ⟨a, b, c, hr, _⟩ := rows_at wd.b2 (by omega) (m := q) (by omega)
    have hl : ls[q]? = some ls[q] := List.getElem?_eq_getElem hq
    rw [mvL_at (mvL_at hl hr) hr, hl]
    have e1 : ∀ l x y, mv1 (tupD [a, b, c]) l x y 1 = if a = x ∧ b = y then l - 1 else if a = y ∧ b = x then l + 1 else l := fun _ _ _ => rfl
    rw [e1, e1]
    congr 1
    have := f.ne
    by_cases c1 : a = i ∧ b = j
    · rw [if_neg (by omega), if_pos c1, if_pos c1]
      omega
    · by_cases c2 : a = j ∧ b = i
      · rw [if_pos c2, if_neg c1, if_pos c2]
        omega
      · rw [if_neg c2, if_neg c1, if_neg c1, if_neg c2]
  · rw [List.getElem?_eq_none (by omega), List.getElem?_eq_none (by omega)]
theorem Stp.keep (wd : Wd ds rs ls) (s : Stp ds rs ls i j) {x y : Int} (h : (x, y) ∈ arcsOf ds rs ls ls.length) : (x = i ∧ y = j) ∨ (x, y) ∈ arcsOf ds rs (mvL rs ls i j 1) (mvL rs ls i j 1).length := by
  have f := s.f wd
  have n10 := bounds_len wd.b1
  by_cases c1 : x = i ∧ y = j
  · exact .inl c1
  right
  by_cases c2 : x = j ∧ y = i
  · rw [c2.1, c2.2]
    exact (s.sym wd).arc
  · obtain ⟨h1, h2, v, lv, v0⟩ := (arc_led wd).mp h
    obtain ⟨v', lv', v0'⟩ := f.led
    exact (arc_led (s.wd wd)).mpr ⟨h1, h2, v, led_keep wd.b2 (by omega) wd.lo.1 (pin_of lv' v0') f.ne lv c1 c2, v0⟩
theorem Stp.rup (wd : Wd ds rs ls) (s : Stp ds rs ls i j) {x : Int} (h : Rch (arcsOf ds rs ls ls.length) (upL ds (hsOf ds rs ls)) x) : Rch (arcsOf ds rs (mvL rs ls i j 1) (mvL rs ls i j 1).length) (upL ds (hsOf ds rs (mvL rs ls i j 1))) x := by
  have f := s.f wd
  have sy := s.sym wd
  have rj := Rch.start (ps := arcsOf ds rs (mvL rs ls i j 1) (mvL rs ls i j 1).length) sy.up
  have ri := Rch.step rj sy.arc
  induction h with
  | @start x h =>
    by_cases c : x = i
    · rw [c]; exact ri
    · by_cases c2 : x = j
      · rw [c2]; exact rj
      · obtain ⟨k, hk, ek⟩ := up_rng h
        obtain ⟨lo, u, hrow, _⟩ := bound_at wd.b1 hk
        refine .start ?_
        rw [ek] at h ⊢
        rw [up_iff (hs_len _ _ _) hrow] at h ⊢
        rw [f.ld k hk, if_neg (by omega), if_neg (by omega)]
        omega
  | step _ e ih =>
    rcases s.keep wd e with ⟨_, rfl⟩ | e
    · exact rj
    · exact .step ih e
theorem Stp.rdn (wd : Wd ds rs ls) (s : Stp ds rs ls i j) {x : Int} (h : Rch (swP (arcsOf ds rs ls ls.length)) (dnL ds (hsOf ds rs ls)) x) : Rch (swP (arcsOf ds rs (mvL rs ls i j 1) (mvL rs ls i j 1).length)) (dnL ds (hsOf ds rs (mvL rs ls i j 1))) x := by
  have f := s.f wd
  have sy := s.sym wd
  have ri := Rch.start (ps := swP (arcsOf ds rs (mvL rs ls i j 1) (mvL rs ls i j 1).length)) sy.dn
  have rj : Rch _ _ j := Rch.step ri (List.mem_map.mpr ⟨_, sy.arc, rfl⟩)
  induction h with
  | @start x h =>
    by_cases c : x = i
    · rw [c]; exact ri
    · by_cases c2 : x = j
      · rw [c2]; exact rj
      · obtain ⟨k, hk, ek⟩ := dn_rng h
        obtain ⟨lo, u, hrow, _⟩ := bound_at wd.b1 hk
        refine .start ?_
        rw [ek] at h ⊢
        rw [dn_iff (hs_len _ _ _) hrow] at h ⊢
        rw [f.ld k hk, if_neg (by omega), if_neg (by omega)]
        omega
  | step _ e ih =>
    obtain ⟨p, hp, e⟩ := List.mem_map.mp e
    cases e
    rcases s.keep wd hp with ⟨h1, _⟩ | e
    · rw [h1]; exact ri
    · exact .step ih (List.mem_map.mpr ⟨_, e, rfl⟩)
theorem Stp.lo (wd : Wd ds rs ls) (s : Stp ds rs ls i j) {l : List Int} (h : LoS ds rs ls l) : LoS ds rs (mvL rs ls i j 1) l := by
  refine IsSet.mono h fun k hk => ?_
  have b := s.back wd
  have r2 := (s.sym wd).rup (s.wd wd) (x := (k : Nat))
  rw [b] at r2
  exact ⟨fun h => ⟨h.1, fun r => h.2 (r2 r)⟩, fun h => ⟨h.1, fun r => h.2 (s.rup wd r)⟩⟩
theorem Stp.hi (wd : Wd ds rs ls) (s : Stp ds rs ls i j) {l : List Int} (h : HiS ds rs ls l) : HiS ds rs (mvL rs ls i j 1) l := by
  refine IsSet.mono h fun k hk => ?_
  have b := s.back wd
  have r2 := (s.sym wd).rdn (s.wd wd) (x := (k : Nat))
  rw [b] at r2
  exact ⟨fun h => ⟨h.1, fun r => h.2 (r2 r)⟩, fun h => ⟨h.1, fun r => h.2 (s.rdn wd r)⟩⟩
/-- the bundle that is switched is not frozen -/
theorem Stp.nf (wd : Wd ds rs ls) (s : Stp ds rs ls i j) {lo hi : List Int} (h1 : LoS ds rs ls lo) (h2 : HiS ds rs ls hi) {k : Nat} {a b c : Int} (hk : rs[k]? = some (tupD [a, b, c])) (m : (i = a ∧ j = b) ∨ (i = b ∧ j = a)) : frB ds rs (lo ++ hi) k = false := by
  have f := s.f wd
  have sy := s.sym wd
  have nlo : ∀ x : Int, Rch (arcsOf ds rs ls ls.length) (upL ds (hsOf ds rs ls)) x → x ∉ lo := fun x r h => by
    obtain ⟨n, _, rfl, q⟩ := (IsSet.mem h1).mp h
    exact q.2 r
  have nhi : ∀ x : Int, Rch (swP (arcsOf ds rs ls ls.length)) (dnL ds (hsOf ds rs ls)) x → x ∉ hi := fun x r h => by
    obtain ⟨n, _, rfl, q⟩ := (IsSet.mem h2).mp h
    exact q.2 r
  have i1 := nlo i (.start s.up)
  have j1 := nlo j (.step (.start s.up) s.arc)
  have j2 := nhi j (.start s.dn)
  have i2 := nhi i (.step (.start s.dn) (List.mem_map.mpr ⟨_, s.arc, rfl⟩))
  have ei : frE ds (lo ++ hi) i = false := by
    unfold frE
    rw [f.li]
    simp [i1, i2]
  have ej : frE ds (lo ++ hi) j = false := by
    unfold frE
    rw [f.lj]
    simp [j1, j2]
  rw [frB_at hk]
  rcases m with ⟨rfl, rfl⟩ | ⟨rfl, rfl⟩
  · rw [ei, ej]; rfl
  · rw [ei, ej]; rfl
end

/-! ### what a broker leads of a bundle -/
theorem nums_val (rs : List PyData) (a b : Int) : ∀ n, n ≤ rs.length → (∀ w, valV (nums rs n) [.inl a, .inl b] = some w → ∃ k : Nat, k < n ∧ w = .int (k : Nat) ∧ ∃ d, rs[k]? = some d ∧ pairD d = [a, b]) ∧
    (valV (nums rs n) [.inl a, .inl b] = none → ∀ k d, k < n → rs[k]? = some d → pairD d ≠ [a, b])
  | 0, _ => ⟨fun w h => (by cases h), fun _ k d h => absurd h (Nat.not_lt_zero _)⟩
  | n + 1, hn => by
    obtain ⟨i1, i2⟩ := nums_val rs a b n (by omega)
    have e : nums rs (n + 1) = (match rs[n]? with
      | some (.tuple (.int a :: .int b :: _)) => putK (nums rs n) [.inl a, .inl b] (.int (n : Nat))
      | _ => nums rs n) := rfl
    rw [e]
    split
    · rename_i x y r hr
      have hp : pairD (.tuple (.int x :: .int y :: r)) = [x, y] := rfl
      rw [valV_put]
      by_cases h : ([.inl a, .inl b] : List Key) = [.inl x, .inl y]
      · rw [if_pos h]
        have hxy : a = x ∧ b = y := by simpa using h
        refine ⟨fun w hw => ⟨n, by omega, (Option.some.inj hw).symm, _, hr, by rw [hp, hxy.1, hxy.2]⟩, fun hw => by cases hw⟩
      · rw [if_neg h]
        refine ⟨fun w hw => ?_, fun hw k d hk hd => ?_⟩
        · obtain ⟨k, hk, r1, r2⟩ := i1 w hw
          exact ⟨k, by omega, r1, r2⟩
        · by_cases hkn : k < n
          · exact i2 hw k d hkn hd
          · have : k = n := by omega
            subst this
            rw [hr] at hd
            cases hd
            rw [hp]
            intro e2
            apply h
            simp only [List.cons.injEq, and_true] at e2
            rw [e2.1, e2.2]
    · rename_i hr
      refine ⟨fun w hw => ?_, fun hw k d hk hd => ?_⟩
      · obtain ⟨k, hk, r1, r2⟩ := i1 w hw
        exact ⟨k, by omega, r1, r2⟩
      · by_cases hkn : k < n
        · exact i2 hw k d hkn hd
        · have : k = n := by omega
          subst this
          intro e2
          unfold pairD at e2
          split at e2
          · rename_i x y r
            exact hr x y r hd
          · cases e2
def spLed (C : Addr) : Sp := fun vs H Q _ => ∃ (x p : Addr) (M : List Addr) (ds1 rs : List PyData) (ls : List Int) (n i j : Int), vs = [.ref x, .ref p, .int i, .int j] ∧ Clu C M H x (.list ds1) (.list rs) ∧ H p = some (.tup (ls.map V.int)) ∧ bundlesD (.list rs) n = true ∧ n ≤ 10 ∧ ls.length = rs.length ∧ i ≠ j ∧
  ∀ (H' : Hp) (v : Int), Same H H' → LedIs rs ls i j v → Q (.int v) H'
section
variable {P : Program} {w : World} {K : PySem.W.Frag} {mg : Str → Option Value} {base : Heap} {t0 t1 t2 t3 t4 : Tok} {C : Addr}
theorem kn_led {k : Nat} (D : Df K mg "led" s_led) (B : Bl mg) (cc : Cc K mg C) (m_bundle_of : Km P w K mg base C "bundle_of" k (spOf C)) (m_bundles : Km P w K mg base C "bundles" k (spCopy C)) : Kn P w K mg base "led" (k + 1) (spLed C) := by
  refine kn_of D (fun _ _ _ _ _ _ us hl => match us, hl with | [_, _, _, _], _ => rfl) sc_led (fun vs H Q E h => by obtain ⟨x, p, M, ds1, rs, ls, n, i, j, rfl, _⟩ := h; rfl) (fun f cd B' fr z H vs Q E hr gd h => ?_)
  obtain ⟨x, p, M, ds1, rs, ls, n, i, j, rfl, hc, hp, hb, n1, same, nij, q⟩ := h
  have c_Cluster := cc.ck
  refine ⟨_, (pss_cons (ps_set (i := 4) sc_led.nd rfl (.inl rfl) (pe_ownM (pv 0) c_Cluster.cls m_bundle_of hr gd (pa_cons (pv 2) (pa_cons (pv 3) pa_nil))))
  (pss_cons (ps_if (pt_cmpR op_isN (pv 4) pe_non (nomark _)) (pss_one (ps_ret pe_int)) pss_nil)
  (pss_cons (ps_asg (pe_ix (r := rIxL K) ix_list (pe_ownM0 (pv 0) c_Cluster.cls m_bundles hr gd) (pv 4) (fun _ _ => rfl)) (pg_tup (by rfl) (pgs_cons (pg_name (i := 5) sc_led.nd rfl (.inl rfl)) (pgs_cons (pg_name (i := 6) sc_led.nd rfl (.inl rfl)) (pgs_cons (pg_name (i := 7) sc_led.nd rfl (.inl rfl)) pgs_nil)))))
  (pss_cons (ps_if (pt_cmpR op_eq (pv 2) (pv 5) (nomark _)) (pss_one (ps_ret (pe_ix (r := rIxT K) ix_tup (pv 1) (pv 4) (fun _ _ => rfl)))) pss_nil)
  (pss_one (ps_ret (pe_op op_sub (pv 7) (pe_ix (r := rIxT K) ix_tup (pv 1) (pv 4) (fun _ _ => rfl))))))))), ?_⟩
  obtain ⟨len, all⟩ := bundles_len hb
  obtain ⟨dx, B0, U0, N0, kvs, hx, _⟩ := id hc
  walk_at "xs"
  refine x_mAt hx (f3_none _ _ _ (by decide) (by decide) (by decide)) ?_
  walk_at "xs"
  refine ⟨x, M, _, rs, i, j, rfl, hc, ?_⟩
  intro H1 S1
  obtain ⟨v1, v2⟩ := nums_val rs (if j < i then j else i) (if j > i then j else i) rs.length (Nat.le_refl _)
  have rowAt : ∀ (k : Nat) (d : PyData), rs[k]? = some d → ∃ a b c : Int, d = tupD [a, b, c] ∧ 0 ≤ a ∧ a < b ∧ b < n ∧ 1 ≤ c ∧ c ≤ 10 ^ 18 := fun k d h => by
    rw [List.all_eq_true] at all
    exact bundle_row (all _ (List.mem_map.mpr ⟨d, List.mem_of_getElem? h, rfl⟩)) n1
  cases e : valV (nums rs rs.length) [.inl (if j < i then j else i), .inl (if j > i then j else i)] with
  | none =>
    have v2 := v2 e
    show gName 4 V.non _ _ _
    walk_at "xs"
    refine ⟨rfl, ?_⟩
    walk_at "xs"
    refine x_ite (fun _ => ?_) (fun h => absurd rfl h)
    walk_at "xs"
    refine q _ _ S1 (.inr ⟨fun k a b c hk => ?_, rfl⟩)
    have ab : a < b := by
      obtain ⟨a2, b2, c2, e2, _, h, _⟩ := rowAt k _ hk
      have e2 : tupD [a, b, c] = tupD [a2, b2, c2] := e2
      cases e2
      exact h
    have hne := v2 k _ (List.getElem?_eq_some_iff.mp hk).1 hk
    have hne : ([a, b] : List Int) ≠ [if j < i then j else i, if j > i then j else i] := hne
    constructor
    · rintro ⟨rfl, rfl⟩
      apply hne
      rw [if_neg (by omega), if_pos (by omega)]
    · rintro ⟨rfl, rfl⟩
      apply hne
      rw [if_pos (by omega), if_neg (by omega)]
  | some w' =>
    obtain ⟨kk, hk, rfl, d, hd, hpd⟩ := v1 _ e
    obtain ⟨a, b, c, rfl, a0, ab, bn, c0, c1⟩ := rowAt kk d hd
    have hpd : ([a, b] : List Int) = [if j < i then j else i, if j > i then j else i] := hpd
    simp only [List.cons.injEq, and_true] at hpd
    show gName 4 (V.int (kk : Nat)) _ _ _
    walk_at "xs"
    refine ⟨rfl, ?_⟩
    walk_at "xs"
    refine x_ite (fun h => by cases h) (fun _ => ?_)
    walk_at "xs"
    refine x_mAt (S1 _ _ hx) (f3_none _ _ _ (by decide) (by decide) (by decide)) ?_
    walk_at "xs"
    refine ⟨x, M, _, rs, rfl, hc.ext (Ext.same S1), ?_⟩
    intro H2 l S2 nl dl
    have S12 := S1.trans S2
    cases dl with
    | @lst _ xs _ el _ A =>
    have lx := A.length
    obtain ⟨u, eu, au⟩ := ix_at (i := (kk : Int)) el (by omega) (by omega)
    obtain ⟨d2, hd2, dn2⟩ := A.get eu
    rw [Int.toNat_natCast, hd] at hd2
    cases hd2
    obtain ⟨r, rfl, _, hr2⟩ := Dn.tup3 (a := a) (b := b) (c := c) dn2
    walk_at "xs"
    refine x_ixL (SqL.of el) au ?_
    walk_at "xs"
    have hl : kk < ls.length := by omega
    have hp2 := S12 _ _ hp
    have lk : ls[kk]? = some ls[kk] := List.getElem?_eq_getElem hl
    have al : atI (ls.map V.int) (kk : Int) = some (.int ls[kk]) := atI_nat (by rw [List.getElem?_map, lk]; rfl)
    refine x_ite (fun h => ?_) (fun h => ?_)
    · walk_at "xs"
      refine x_ixT (SqT.of hp2) al ?_
      refine q _ _ S12 (.inl ⟨kk, a, b, c, _, hd, lk, .inl ⟨h, ?_, rfl⟩⟩)
      split at hpd <;> split at hpd <;> omega
    · walk_at "xs"
      refine x_ixT (SqT.of hp2) al ?_
      walk_at "xs"
      refine q _ _ S12 (.inl ⟨kk, a, b, c, _, hd, lk, .inr ⟨?_, ?_, rfl⟩⟩)
      · split at hpd <;> split at hpd <;> omega
      · split at hpd <;> split at hpd <;> omega
end

/-! ### legal switches -/
theorem x_loadsP {C : Addr} {H : Hp} {Q : VK} {E : XK} {x p : Addr} {M : List Addr} {ds1 rs : List PyData} {ls : List Int} (cl : Clu C M H x (.list ds1) (.list rs)) (hp : H p = some (.tup (ls.map V.int))) (hb1 : boundsD (.list ds1) = true) (hb : bundlesD (.list rs) ds1.length = true) (same : ls.length = rs.length)
    (h : ∀ (H' : Hp) (f : Addr), Same H H' → H f = none → H' f = some (.lst ((ldOf ds1.length rs ls ls.length).map V.int)) → Q (.ref f) H') : spLoadsP C [.ref x, .ref p] H Q E := ⟨x, p, M, ds1, rs, ls, rfl, cl, hp, hb1, hb, same, h⟩
def loAt (ds : List PyData) (i : Nat) : Int := match ds[i]? with
  | some (.tuple [.int lo, .int _]) => lo
  | _ => 0
def upAt (ds : List PyData) (i : Nat) : Int := match ds[i]? with
  | some (.tuple [.int _, .int up]) => up
  | _ => 0
theorem bndL_at {ds : List PyData} (h : boundsD (.list ds) = true) {i : Int} (i0 : 0 ≤ i) (i1 : i < ds.length) : ds[i.toNat]? = some (tupD [loAt ds i.toNat, upAt ds i.toNat]) ∧ 0 ≤ loAt ds i.toNat ∧ loAt ds i.toNat ≤ upAt ds i.toNat ∧ upAt ds i.toNat ≤ 10 ^ 30 := by
  have hi : i.toNat < ds.length := by omega
  obtain ⟨lo, up, e, h0, h1, h2⟩ := bound_row (bounds_all h _ (List.getElem_mem hi))
  have er : ds[i.toNat]? = some (tupD [lo, up]) := by rw [List.getElem?_eq_getElem hi, e]
  have e1 : loAt ds i.toNat = lo := by unfold loAt; rw [er]; rfl
  have e2 : upAt ds i.toNat = up := by unfold upAt; rw [er]; rfl
  rw [e1, e2]
  exact ⟨er, h0, h1, h2⟩
theorem bounds_ge {ds : List PyData} (h : boundsD (.list ds) = true) : 2 ≤ ds.length := by
  have h : ((decide (2 ≤ (ds.length : Int)) && decide ((ds.length : Int) ≤ 10)) && (ds.map boundD).all id) = true := h
  rw [Bool.and_eq_true, Bool.and_eq_true, decide_eq_true_eq] at h
  omega
def lds (ds rs : List PyData) (ls : List Int) : List Int := ldOf ds.length rs ls ls.length
def legB (ds rs : List PyData) (ls : List Int) (i j : Int) : Bool :=
  !decide (ledS rs ls i j ls.length = 0) && (decide ((lds ds rs ls).getD i.toNat 0 > loAt ds i.toNat) && decide ((lds ds rs ls).getD j.toNat 0 < upAt ds j.toNat))
def spIsLegal (C : Addr) : Sp := fun vs H Q _ => ∃ (x p : Addr) (M : List Addr) (ds rs : List PyData) (ls : List Int) (i j : Int), vs = [.ref x, .ref p, .int i, .int j] ∧ Clu C M H x (.list ds) (.list rs) ∧ H p = some (.tup (ls.map V.int)) ∧ boundsD (.list ds) = true ∧ bundlesD (.list rs) ds.length = true ∧ ls.length = rs.length ∧
  i ≠ j ∧ 0 ≤ i ∧ i < ds.length ∧ 0 ≤ j ∧ j < ds.length ∧ ∀ H', Same H H' → Q (.bl (legB ds rs ls i j)) H'
def prOf : PyData → List (Int × Int)
  | .tuple [.int a, .int b, .int _] => [(a, b), (b, a)]
  | _ => []
def pairsOf : List PyData → List (Int × Int)
  | [] => []
  | d :: r => prOf d ++ pairsOf r
theorem pairsOf_app : ∀ xs ys : List PyData, pairsOf (xs ++ ys) = pairsOf xs ++ pairsOf ys
  | [], _ => rfl
  | d :: r, ys => by
    show prOf d ++ pairsOf (r ++ ys) = (prOf d ++ pairsOf r) ++ pairsOf ys
    rw [pairsOf_app r ys, List.append_assoc]
theorem prOf_len (d : PyData) : (prOf d).length ≤ 2 := by
  unfold prOf
  split
  · exact Nat.le_refl _
  · exact Nat.zero_le _
theorem pairsOf_len : ∀ xs : List PyData, (pairsOf xs).length ≤ 2 * xs.length
  | [] => Nat.le_refl _
  | d :: r => by
    have h1 := pairsOf_len r
    have h2 := prOf_len d
    have e : (pairsOf (d :: r)).length = (prOf d).length + (pairsOf r).length := List.length_append ..
    rw [e, List.length_cons]
    omega
theorem pairsOf_mem : ∀ {rs : List PyData} {p : Int × Int}, p ∈ pairsOf rs → ∃ a b c : Int, tupD [a, b, c] ∈ rs ∧ (p = (a, b) ∨ p = (b, a))
  | d :: r, p, h => by
    rcases List.mem_append.mp (show p ∈ prOf d ++ pairsOf r from h) with h2 | h2
    · clear h
      unfold prOf at h2
      split at h2
      · rename_i a b c
        simp only [List.mem_cons, List.not_mem_nil, or_false] at h2
        exact ⟨a, b, c, List.mem_cons_self .., h2⟩
      · cases h2
    · obtain ⟨a, b, c, hm, e⟩ := pairsOf_mem h2
      exact ⟨a, b, c, List.mem_cons_of_mem _ hm, e⟩
theorem pairs_in {rs : List PyData} {n : Int} (hb : bundlesD (.list rs) n = true) (n1 : n ≤ 10) {p : Int × Int} (h : p ∈ pairsOf rs) : 0 ≤ p.1 ∧ p.1 < n ∧ 0 ≤ p.2 ∧ p.2 < n ∧ p.1 ≠ p.2 := by
  obtain ⟨a, b, c, hm, e⟩ := pairsOf_mem h
  obtain ⟨_, all⟩ := bundles_len hb
  rw [List.all_eq_true] at all
  obtain ⟨a', b', c', e2, h0, h1, h2, _⟩ := bundle_row (all (bundleD (tupD [a, b, c]) n) (List.mem_map.mpr ⟨tupD [a, b, c], hm, rfl⟩)) n1
  have e2 : tupD [a, b, c] = tupD [a', b', c'] := e2
  cases e2
  rcases e with rfl | rfl
  · exact ⟨h0, by omega, by omega, h2, by omega⟩
  · exact ⟨by omega, h2, h0, by omega, by omega⟩
def legL (ds rs : List PyData) (ls : List Int) : List (Int × Int) := (pairsOf rs).filter fun p => legB ds rs ls p.1 p.2
section
variable {P : Program} {w : World} {K : PySem.W.Frag} {mg : Str → Option Value} {base : Heap} {t0 t1 t2 t3 t4 : Tok} {C : Addr}
theorem kn_isLegal {k : Nat} (D : Df K mg "is_legal" s_is_legal) (B : Bl mg) (cc : Cc K mg C) (c_led : Kn P w K mg base "led" k (spLed C)) (c_loads : Kn P w K mg base "loads" k (spLoadsP C)) (m_floor : Km P w K mg base C "floor" k (spSide C false)) (m_ceiling : Km P w K mg base C "ceiling" k (spSide C true)) :
    Kn P w K mg base "is_legal" (k + 1) (spIsLegal C) := by
  refine kn_of D (fun _ _ _ _ _ _ us hl => match us, hl with | [_, _, _, _], _ => rfl) sc_is_legal (fun vs H Q E h => by obtain ⟨x, p, M, ds, rs, ls, i, j, rfl, _⟩ := h; rfl) (fun f cd B' fr z H vs Q E hr gd h => ?_)
  obtain ⟨x, p, M, ds, rs, ls, i, j, rfl, hc, hp, hb1, hb, same, nij, i0, i1, j0, j1, q⟩ := h
  have c_Cluster := cc.ck
  refine ⟨_, (pss_cons (ps_if (pt_cmpR op_eq (pe_own c_led hr gd (by rfl) (pa_cons (pv 0) (pa_cons (pv 1) (pa_cons (pv 2) (pa_cons (pv 3) pa_nil))))) pe_int (nomark _)) (pss_one (ps_ret pe_bl)) pss_nil)
  (pss_cons (ps_set (i := 4) sc_is_legal.nd rfl (.inl rfl) (pe_own c_loads hr gd (by rfl) (pa_cons (pv 0) (pa_cons (pv 1) pa_nil))))
  (pss_one (ps_ret (pe_and (pe_cmpR op_gt (pe_ix (r := rIxL K) ix_list (pv 4) (pv 2) (fun _ _ => rfl)) (pe_ownM (pv 0) c_Cluster.cls m_floor hr gd (pa_cons (pv 2) pa_nil)) (nomark _)) (pe_one (pe_cmpR op_lt (pe_ix (r := rIxL K) ix_list (pv 4) (pv 3) (fun _ _ => rfl)) (pe_ownM (pv 0) c_Cluster.cls m_ceiling hr gd (pa_cons (pv 3) pa_nil)) (nomark _)))))))), ?_⟩
  have n10 := bounds_len hb1
  have n10' : (ds.length : Int) ≤ 10 := by omega
  walk_at "xs"
  refine ⟨x, p, M, ds, rs, ls, ds.length, i, j, rfl, hc, hp, hb, n10', same, nij, ?_⟩
  intro H1 v S1 il
  have ev := LedIs.one hb n10' il (ledS_is hb n10' same)
  subst ev
  walk_at "xs"
  refine x_ite (fun h => ?_) (fun h => ?_)
  · walk_at "xs"
    have e : legB ds rs ls i j = false := by unfold legB; rw [decide_eq_true h]; rfl
    have := q _ S1
    rw [e] at this
    exact this
  · have hc := hc.ext (Ext.same S1)
    have hp := S1 _ _ hp
    walk_at "xs"
    refine x_loadsP hc hp hb1 hb same ?_
    intro H2 ff S2 nf ef
    have hc := hc.ext (Ext.same S2)
    have S12 := S1.trans S2
    have lh : (lds ds rs ls).length = ds.length := ld_len ds.length rs ls ls.length
    have ef : H2 ff = some (.lst ((lds ds rs ls).map V.int)) := ef
    obtain ⟨dx, B0, U0, N0, kvs, hx, _⟩ := id hc
    obtain ⟨v1, hv1, at1⟩ := at_map (hs := lds ds rs ls) i0 (by omega)
    obtain ⟨v2, hv2, at2⟩ := at_map (hs := lds ds rs ls) j0 (by omega)
    have el : legB ds rs ls i j = (decide (v1 > loAt ds i.toNat) && decide (v2 < upAt ds j.toNat)) := by
      unfold legB
      rw [decide_eq_false h, getD_of hv1, getD_of hv2]; rfl
    rw [el] at q
    walk_at "xs"
    refine x_ixL (SqL.of ef) at1 ?_
    walk_at "xs"
    refine x_mAt hx (f3_none _ _ _ (by decide) (by decide) (by decide)) ?_
    walk_at "xs"
    refine ⟨x, M, ds, _, i, loAt ds i.toNat, upAt ds i.toNat, rfl, hc, i0, i1, (bndL_at hb1 i0 i1).1, ?_⟩
    rw [if_neg Bool.false_ne_true]
    walk_at "xs"
    refine x_ite (fun h1 => ?_) (fun h1 => ?_)
    · walk_at "xs"
      refine x_ixL (SqL.of ef) at2 ?_
      walk_at "xs"
      refine x_mAt hx (f3_none _ _ _ (by decide) (by decide) (by decide)) ?_
      walk_at "xs"
      refine ⟨x, M, ds, _, j, loAt ds j.toNat, upAt ds j.toNat, rfl, hc, j0, j1, (bndL_at hb1 j0 j1).1, ?_⟩
      rw [if_pos rfl]
      walk_at "xs"
      have := q _ S12
      rw [decide_eq_true h1, Bool.true_and] at this
      exact this
    · have := q _ S12
      rw [decide_eq_false h1, Bool.false_and] at this
      exact this
end

/-! ### legal of the program -/
def spLegal (C : Addr) : Sp := fun vs H Q _ => ∃ (x p : Addr) (M N : List Addr) (ds rs : List PyData) (ls : List Int), vs = [.ref x, .ref p] ∧ Clu C M H x (.list ds) (.list rs) ∧ H p = some (.tup (ls.map V.int)) ∧ boundsD (.list ds) = true ∧ bundlesD (.list rs) ds.length = true ∧ ls.length = rs.length ∧ (∀ m ∈ N, ∃ o, H m = some o) ∧
  ∀ (H' : Hp) (f : Addr) (ys : List V) (qs : List (Int × Int)), Same H H' → H f = none → H' f = some (.lst ys) → DnAll N H' ys (qs.map prD) → SrtOf (legL ds rs ls) qs → Q (.ref f) H'
theorem filter_one {α : Type} {p : α → Bool} {a : α} (xs : List α) : (xs ++ [a]).filter p = if p a = true then xs.filter p ++ [a] else xs.filter p := by
  rw [List.filter_append]
  by_cases h : p a = true
  · rw [if_pos h]; simp [h]
  · rw [if_neg h]; simp [h]
section
variable {P : Program} {w : World} {K : PySem.W.Frag} {mg : Str → Option Value} {base : Heap} {t0 t1 t2 t3 t4 : Tok} {C : Addr}
theorem kn_legal {k : Nat} (D : Df K mg "legal" s_legal) (B : Bl mg) (cc : Cc K mg C) (c_is_legal : Kn P w K mg base "is_legal" k (spIsLegal C)) (m_bundles : Km P w K mg base C "bundles" k (spCopy C)) : Kn P w K mg base "legal" (k + 1) (spLegal C) := by
  refine kn_of D (fun _ _ _ _ _ _ us hl => match us, hl with | [_, _], _ => rfl) sc_legal (fun vs H Q E h => by obtain ⟨x, p, M, N, ds, rs, ls, rfl, _⟩ := h; rfl) (fun f cd B' fr z H vs Q E hr gd h => ?_)
  obtain ⟨x, p, M, N, ds, rs, ls, rfl, hc, hp, hb1, hb, same, hN, q⟩ := h
  have c_Cluster := cc.ck
  refine ⟨_, (pss_cons (ps_set (i := 2) sc_legal.nd rfl (.inl rfl) (pe_lst pa_nil))
  (pss_cons (ps_for PassesOwn.never rfl (pi_list (pe_ownM0 (pv 0) c_Cluster.cls m_bundles hr gd)) (pg_tup (by rfl) (pgs_cons (pg_name (i := 3) sc_legal.nd rfl (.inl rfl)) (pgs_cons (pg_name (i := 4) sc_legal.nd rfl (.inl rfl)) (pgs_cons (pg_name (i := 5) sc_legal.nd rfl (.inl rfl)) pgs_nil))))
  (pss_one (ps_for PassesOwn.never rfl (pi_tup (pe_tup (pa_cons (pe_tup (pa_cons (pv 3) (pa_cons (pv 4) pa_nil))) (pa_cons (pe_tup (pa_cons (pv 4) (pa_cons (pv 3) pa_nil))) pa_nil)))) (pg_tup (by rfl) (pgs_cons (pg_name (i := 6) sc_legal.nd rfl (.inl rfl)) (pgs_cons (pg_name (i := 7) sc_legal.nd rfl (.inl rfl)) pgs_nil)))
  (pss_one (ps_if (pt_val (pe_own c_is_legal hr gd (by rfl) (pa_cons (pv 0) (pa_cons (pv 1) (pa_cons (pv 6) (pa_cons (pv 7) pa_nil)))))) (pss_one (ps_expr (pe_bm PySem.F.plainAttrs_list PySem.F.slot_list_append PySem.F.type_list_append mt_append (pv 2) (pa_cons (pe_tup (pa_cons (pv 6) (pa_cons (pv 7) pa_nil))) pa_nil)))) pss_nil)))))
  (pss_one (ps_ret (pe_callB cr_sortedPO (by rfl) B.sorted (by decide +kernel) (pa_cons (pv 2) pa_nil)))))), ?_⟩
  have n10 := bounds_len hb1
  have n10' : (ds.length : Int) ≤ 10 := by omega
  have len := (bundles_len hb).1
  obtain ⟨dx, B0, U0, N0, kvs, hx, _⟩ := id hc
  walk_at "xs"
  intro F hF
  have S0 := same_upd hF (o := .lst [])
  have e0 := upd_same (H := H) (a := F) (o := .lst [])
  have nN : F ∉ N := fun m => by obtain ⟨o, e⟩ := hN _ m; rw [e] at hF; cases hF
  have hc0 := hc.ext (Ext.same S0)
  have hx0 := S0 _ _ hx
  generalize upd H F _ = H0 at *
  walk_at "xs"
  refine x_mAt hx0 (f3_none _ _ _ (by decide) (by decide) (by decide)) ?_
  walk_at "xs"
  refine ⟨x, M, _, rs, rfl, hc0, ?_⟩
  intro H1 l S1 nl dl
  have S01 := S0.trans S1
  have eF1 := S1 _ _ e0
  have lF : l ≠ F := ne_of_none2 nl e0
  cases dl with
  | @lst _ xs _ el _ A =>
  have lx := A.length
  walk_at "xs"
  refine for_list (K := K) (a := l) (xs := xs) (fun i σ' H' => ∃ (acc : List V) (y3 y4 y5 y6 y7 : Option V), σ' = [some (.ref x), some (.ref p), some (.ref F), y3, y4, y5, y6, y7] ∧ Same H H' ∧ Ext [F] H1 H' ∧ H' F = some (.lst acc) ∧ acc.length ≤ 2 * i ∧ DnAll (F :: N) H' acc (((pairsOf (rs.take i)).filter fun p => legB ds rs ls p.1 p.2).map prD)) ?_ ?_ ?_ ?_
  · exact ⟨[], _, _, _, _, _, rfl, S01, Ext.refl _ _, eF1, Nat.le_refl _, .nil⟩
  · rintro i _ H' _ ⟨_, _, _, _, _, _, _, _, X, _⟩
    exact SqL.of (X _ _ (by simpa using lF) el)
  · rintro i v _ H' hv ⟨acc, y3, y4, y5, y6, y7, rfl, S, X, eF, la, Y⟩
    obtain ⟨dR, hdR, dnR⟩ := A.get hv
    have hi := (List.getElem?_eq_some_iff.mp hv).1
    obtain ⟨a', b', c', hr', p0, p1, p2, p3, p4⟩ := rows_at hb n10' (m := i) (by omega)
    rw [hdR] at hr'
    obtain rfl : dR = tupD [a', b', c'] := Option.some.inj hr'
    obtain ⟨r', rfl, _, hr2⟩ := Dn.tup3 (a := a') (b := b') (c := c') dnR
    have rF : r' ≠ F := fun e => by rw [e, eF1] at hr2; cases hr2
    have hr3 := X _ _ (by simpa using rF) hr2
    have eF0 := eF
    walk_at "xs"
    intro q1 hq1
    have S2 := same_upd hq1 (o := .tup [.int a', .int b'])
    have e1 := upd_same (H := H') (a := q1) (o := .tup [.int a', .int b'])
    have q1F : q1 ≠ F := ne_of_none2 hq1 eF
    generalize upd H' q1 _ = H2 at *
    walk_at "xs"
    intro q2 hq2
    have S3 := same_upd hq2 (o := .tup [.int b', .int a'])
    have e2 := upd_same (H := H2) (a := q2) (o := .tup [.int b', .int a'])
    have q2F : q2 ≠ F := ne_of_none2 hq2 (S2 _ _ eF)
    have e1 := S3 _ _ e1
    generalize upd H2 q2 _ = H3 at *
    walk_at "xs"
    intro q3 hq3
    have S4 := same_upd hq3 (o := .tup [.ref q1, .ref q2])
    have e3 := upd_same (H := H3) (a := q3) (o := .tup [.ref q1, .ref q2])
    have q3F : q3 ≠ F := ne_of_none2 hq3 (S3 _ _ (S2 _ _ eF))
    have e1 := S4 _ _ e1
    have e2 := S4 _ _ e2
    have S24 := S2.trans (S3.trans S4)
    have eF := S24 _ _ eF
    have Y := Y.ext (Ext.same S24)
    have S := S.trans S24
    have X := X.trans (Ext.same S24)
    generalize upd H3 q3 _ = H4 at *
    obtain ⟨prs, eprs⟩ : ∃ prs, prs = [(a', b'), (b', a')] := ⟨_, rfl⟩
    have Z : DnAll [F] H4 [.ref q1, .ref q2] (prs.map prD) := by
      rw [eprs]
      exact .cons (.tup e1 (by simpa using q1F) (DnAll.ints [a', b'])) (.cons (.tup e2 (by simpa using q2F) (DnAll.ints [b', a'])) .nil)
    have pin : ∀ pr ∈ prs, pr ∈ pairsOf rs := by
      intro pr hpr
      have : pairsOf rs = pairsOf (rs.take i) ++ pairsOf (rs.drop i) := by rw [← pairsOf_app, List.take_append_drop]
      rw [this]
      refine List.mem_append_right _ ?_
      have : rs.drop i = tupD [a', b', c'] :: rs.drop (i + 1) := by
        have hi2 := (List.getElem?_eq_some_iff.mp hdR)
        rw [List.drop_eq_getElem_cons hi2.1, hi2.2]
      rw [this]
      have : pairsOf (tupD [a', b', c'] :: rs.drop (i + 1)) = prs ++ pairsOf (rs.drop (i + 1)) := by rw [eprs]; rfl
      rw [this]
      exact List.mem_append_left _ hpr
    walk_at "xs"
    refine for_tup (K := K) (a := q3) (xs := [.ref q1, .ref q2]) (fun m σ' H' => ∃ (acc : List V) (y3 y4 y5 y6 y7 : Option V), σ' = [some (.ref x), some (.ref p), some (.ref F), y3, y4, y5, y6, y7] ∧ Same H H' ∧ Ext [F] H4 H' ∧ H' F = some (.lst acc) ∧ acc.length ≤ 2 * i + m ∧ DnAll (F :: N) H' acc (((pairsOf (rs.take i) ++ prs.take m).filter fun p => legB ds rs ls p.1 p.2).map prD)) ?_ ?_ ?_ ?_
    · exact ⟨acc, _, _, _, _, _, rfl, S, Ext.refl _ _, eF, by omega, by rw [List.take_zero, List.append_nil]; exact Y⟩
    · rintro m _ H' _ ⟨_, _, _, _, _, _, _, _, X, _⟩
      exact SqT.of (X _ _ (by simpa using q3F) e3)
    · rintro m v _ H5 hv2 ⟨acc, y3, y4, y5, y6, y7, rfl, S, X2, eF, la, Y⟩
      obtain ⟨dP, hdP, dnP⟩ := Z.get hv2
      have hm := (List.getElem?_eq_some_iff.mp hv2).1
      have hm : m < 2 := hm
      rw [List.getElem?_map] at hdP
      cases hpr : prs[m]? with
      | none => rw [hpr] at hdP; cases hdP
      | some pr =>
      rw [hpr] at hdP
      cases hdP
      obtain ⟨r2, rfl, nr2, hr5⟩ := dnP.pair
      have hr6 := X2 _ _ nr2 hr5
      obtain ⟨g0, g1, g2, g3, g4⟩ := pairs_in hb n10' (pin pr (List.mem_of_getElem? hpr))
      have tk : prs.take (m + 1) = prs.take m ++ [pr] := by rw [List.take_add_one, hpr]; rfl
      walk_at "xs"
      refine ⟨x, p, M, ds, rs, ls, pr.1, pr.2, rfl, hc.ext (Ext.same S), S _ _ hp, hb1, hb, same, g4, g0, g1, g2, g3, ?_⟩
      intro H6 S6
      have eF5 := eF
      have eF := S6 _ _ eF
      have Y := Y.ext (Ext.same S6)
      walk_at "xs"
      refine x_iteB (fun h1 => ?_) (fun h1 => ?_)
      · walk_at "xs"
        intro t ht
        have S7 := same_upd ht (o := .tup [.int pr.1, .int pr.2])
        have et := upd_same (H := H6) (a := t) (o := .tup [.int pr.1, .int pr.2])
        have nt : t ∉ F :: N := fun m => by
          rcases List.mem_cons.mp m with e | m
          · rw [e, eF] at ht; cases ht
          · obtain ⟨o, e⟩ := hN _ m
            rw [S6 _ _ (S _ _ e)] at ht; cases ht
        have eF := S7 _ _ eF
        have Y := Y.ext (Ext.same S7)
        generalize upd H6 t _ = H7 at *
        walk_at "xs"
        refine x_app eF (by rw [sizeLine_eq]; omega) ?_
        have X8 : Ext (F :: N) H7 (upd H7 F (.lst (acc ++ [.ref t]))) := Ext.upd (by simp)
        walk_at "xs"
        refine ⟨acc ++ [.ref t], _, _, _, _, _, rfl, fun z o e => ?_, fun z o n e => ?_, upd_same, by rw [List.length_append, List.length_singleton]; omega, ?_⟩
        · rw [upd_ne (ne_of_none e hF)]; exact S7 _ _ (S6 _ _ (S _ _ e))
        · rw [upd_ne (by simpa using n)]; exact S7 _ _ (S6 _ _ (X2 _ _ n e))
        · rw [tk, ← List.append_assoc, filter_one, if_pos h1, List.map_append]
          exact (Y.ext X8).app (.cons (.tup (X8 _ _ nt et) nt (DnAll.ints [pr.1, pr.2])) .nil)
      · walk_at "xs"
        refine ⟨acc, _, _, _, _, _, rfl, S.trans S6, X2.trans (Ext.same S6), eF, by omega, ?_⟩
        rw [tk, ← List.append_assoc, filter_one, if_neg (by rw [h1]; exact Bool.false_ne_true)]
        exact Y
    · rintro _ H5 ⟨acc, y3, y4, y5, y6, y7, rfl, S, X2, eF, la, Y⟩
      refine ⟨acc, _, _, _, _, _, rfl, S, X.trans X2, eF, by have : ([V.ref q1, V.ref q2] : List V).length = 2 := rfl; omega, ?_⟩
      have e : pairsOf (rs.take (i + 1)) = pairsOf (rs.take i) ++ prs := by
        rw [List.take_add_one, hdR, pairsOf_app, eprs]; rfl
      have e2 : prs.take ([V.ref q1, V.ref q2] : List V).length = prs := by rw [eprs]; rfl
      rw [e2] at Y
      rw [e]
      exact Y
  · rintro _ H' ⟨acc, y3, y4, y5, y6, y7, rfl, S, X, eF, la, Y⟩
    rw [lx, List.take_length] at Y
    walk_at "xs"
    refine x_sortP (SqL.of eF) (DnAll.sub (fun z h => List.mem_cons_of_mem _ h) Y) ?_
    intro g ys qs hg so Z eg
    exact q _ g ys qs (S.trans (same_upd hg)) (S.free hg) eg Z so
end
/-! ### legal steps: the program's and the law's -/
def stB (ds rs : List PyData) (ls : List Int) (p : Int × Int) : Bool := decide (p.1 ∈ upL ds (hsOf ds rs ls)) && decide (p.2 ∈ dnL ds (hsOf ds rs ls))
theorem lo_at {ds : List PyData} {k : Nat} {lo u : Int} (h : ds[k]? = some (tupD [lo, u])) : loAt ds k = lo ∧ upAt ds k = u := by
  unfold loAt upAt
  rw [h]
  exact ⟨rfl, rfl⟩
theorem st_eq {ds rs : List PyData} {ls : List Int} {x y : Int} (wd : Wd ds rs ls) (x0 : 0 ≤ x) (x1 : x < ds.length) (y0 : 0 ≤ y) (y1 : y < ds.length) :
    (decide ((lds ds rs ls).getD x.toNat 0 > loAt ds x.toNat) && decide ((lds ds rs ls).getD y.toNat 0 < upAt ds y.toNat)) = stB ds rs ls (x, y) := by
  obtain ⟨l1, u1, r1, _⟩ := bound_at wd.b1 (i := x.toNat) (by omega)
  obtain ⟨l2, u2, r2, _⟩ := bound_at wd.b1 (i := y.toNat) (by omega)
  have h1 := up_iff (hs_len ds rs ls) r1
  have h2 := dn_iff (hs_len ds rs ls) r2
  rw [show ((x.toNat : Nat) : Int) = x by omega] at h1
  rw [show ((y.toNat : Nat) : Int) = y by omega] at h2
  have el : lds ds rs ls = hsOf ds rs ls := rfl
  unfold stB
  rw [el, (lo_at r1).1, (lo_at r2).2, decide_eq_decide.mpr h1, decide_eq_decide.mpr h2]
theorem st_ls {ds rs : List PyData} {ls : List Int} {x y : Int} (wd : Wd ds rs ls) (h : stB ds rs ls (x, y) = true) : lsB ds x.toNat = true ∧ lsB ds y.toNat = true := by
  unfold stB at h
  rw [Bool.and_eq_true, decide_eq_true_eq, decide_eq_true_eq] at h
  obtain ⟨i, hi, e1⟩ := List.mem_map.mp h.1
  obtain ⟨j, hj, e2⟩ := List.mem_map.mp h.2
  have e1 : ((i : Nat) : Int) = x := e1
  have e2 : ((j : Nat) : Int) = y := e2
  have h1 := up_ls wd.ok (List.mem_filter.mp hi).2
  have h2 := dn_ls wd.ok (List.mem_filter.mp hj).2
  rw [show x.toNat = i by omega, show y.toNat = j by omega]
  exact ⟨h1, h2⟩
theorem leg_two {ds rs : List PyData} {ls : List Int} {k : Nat} {a b c l : Int} (wd : Wd ds rs ls) (hr : rs[k]? = some (tupD [a, b, c])) (hl : ls[k]? = some l) :
    (prOf (tupD [a, b, c])).filter (fun p => legB ds rs ls p.1 p.2) = (arcStep ds (tupD [a, b, c]) l).filter (stB ds rs ls) := by
  have n10 := bounds_len wd.b1
  have lk := (List.getElem?_eq_some_iff.mp hr).1
  obtain ⟨a', b', c', e, a0, ab, bn, _⟩ := rows_at wd.b2 (by omega) lk
  rw [hr] at e
  have e := Option.some.inj e
  injection e with e
  injection e with e1 e
  injection e with e2 e
  injection e with e3 _
  injection e1 with e1
  injection e2 with e2
  injection e3 with e3
  subst e1; subst e2; subst e3
  have lok := wd.lo.2 k l _ hl hr
  have lok : 0 ≤ l ∧ l ≤ c := lok
  have L1 : LedIs rs ls a b l := .inl ⟨k, a, b, c, l, hr, hl, .inl ⟨rfl, rfl, rfl⟩⟩
  have L2 : LedIs rs ls b a (c - l) := .inl ⟨k, a, b, c, l, hr, hl, .inr ⟨rfl, rfl, rfl⟩⟩
  have s1 := (ledS_is (i := a) (j := b) wd.b2 (by omega) wd.lo.1).one wd.b2 (by omega) L1
  have s2 := (ledS_is (i := b) (j := a) wd.b2 (by omega) wd.lo.1).one wd.b2 (by omega) L2
  have g1 : legB ds rs ls a b = (!decide (l = 0) && stB ds rs ls (a, b)) := by
    unfold legB
    rw [s1, st_eq wd a0 (by omega) (by omega) bn]
  have g2 : legB ds rs ls b a = (!decide (c - l = 0) && stB ds rs ls (b, a)) := by
    unfold legB
    rw [s2, st_eq wd (by omega) bn a0 (by omega)]
  have e0 : prOf (tupD [a, b, c]) = [(a, b)] ++ [(b, a)] := rfl
  have ea : arcStep ds (tupD [a, b, c]) l = if (lsB ds a.toNat && lsB ds b.toNat) = true then (if l > 0 then [(a, b)] else []) ++ (if l < c then [(b, a)] else []) else [] := rfl
  have f1 : ∀ (q : Int × Int → Bool) (p : Int × Int), [p].filter q = if q p = true then [p] else [] := fun q p => by
    rw [List.filter_cons]; rfl
  rw [e0, ea, List.filter_append, f1, f1]
  show (if legB ds rs ls a b = true then [(a, b)] else []) ++ (if legB ds rs ls b a = true then [(b, a)] else []) = _
  rw [g1, g2]
  by_cases lo : (lsB ds a.toNat && lsB ds b.toNat) = true
  · rw [if_pos lo, List.filter_append]
    congr 1
    · by_cases h : l > 0
      · rw [if_pos h, f1, decide_eq_false (by omega)]; rfl
      · rw [if_neg h, decide_eq_true (by omega)]; rfl
    · by_cases h : l < c
      · rw [if_pos h, f1, decide_eq_false (by omega)]; rfl
      · rw [if_neg h, decide_eq_true (by omega)]; rfl
  · rw [if_neg lo]
    have n1 : stB ds rs ls (a, b) = false := by
      cases e : stB ds rs ls (a, b) with
      | false => rfl
      | true => obtain ⟨h1, h2⟩ := st_ls wd e; exact absurd (by rw [h1, h2]; rfl) lo
    have n2 : stB ds rs ls (b, a) = false := by
      cases e : stB ds rs ls (b, a) with
      | false => rfl
      | true => obtain ⟨h1, h2⟩ := st_ls wd e; exact absurd (by rw [h1, h2]; rfl) lo
    rw [n1, n2, Bool.and_false, Bool.and_false]; rfl
theorem leg_arcs {ds rs : List PyData} {ls : List Int} (wd : Wd ds rs ls) : legL ds rs ls = (arcsOf ds rs ls ls.length).filter (stB ds rs ls) := by
  have key : ∀ n, n ≤ rs.length → (pairsOf (rs.take n)).filter (fun p => legB ds rs ls p.1 p.2) = (arcsOf ds rs ls n).filter (stB ds rs ls) := by
    intro n
    induction n with
    | zero => intro _; rfl
    | succ n ih =>
      intro hn
      have n10 := bounds_len wd.b1
      obtain ⟨a, b, c, hr, _⟩ := rows_at wd.b2 (by omega) (show n < rs.length by omega)
      obtain ⟨l, hl⟩ : ∃ l, ls[n]? = some l := ⟨_, List.getElem?_eq_getElem (by rw [wd.lo.1]; omega)⟩
      have e1 : rs.take (n + 1) = rs.take n ++ [tupD [a, b, c]] := by rw [List.take_add_one, hr]; rfl
      have e2 : pairsOf [tupD [a, b, c]] = prOf (tupD [a, b, c]) := List.append_nil _
      have e3 : arcsOf ds rs ls (n + 1) = arcsOf ds rs ls n ++ arcStep ds (tupD [a, b, c]) l := by
        show arcsOf ds rs ls n ++ (match ls[n]?, rs[n]? with
          | some l, some r => arcStep ds r l
          | _, _ => []) = _
        rw [hl, hr]
      rw [e1, pairsOf_app, e2, e3, List.filter_append, List.filter_append, ih (by omega), leg_two wd hr hl]
  have k := key rs.length (Nat.le_refl _)
  rw [List.take_length] at k
  rw [wd.lo.1]
  exact k
theorem leg_srt {ds rs : List PyData} {ls : List Int} {qs ms : List (Int × Int)} (wd : Wd ds rs ls) (a : SrtOf (arcsOf ds rs ls ls.length) qs) (b : SrtOf (legL ds rs ls) ms) : qs.filter (stB ds rs ls) = ms := by
  refine SrtOf.one (ps := legL ds rs ls) ⟨?_, a.2.sublist List.filter_sublist⟩ b
  rw [leg_arcs wd]
  exact a.1.filter _

/-! ### the law's legal steps, all of them -/
def spStepsE : Sp := fun vs H Q _ => ∃ (M : List Addr) (T : Addr) (ds rs : List PyData) (ls : List Int), vs = [.ref T] ∧ (∀ m ∈ M, ∃ o, H m = some o) ∧ WdAt M H T ds rs ls ∧ Wd ds rs ls ∧
  ∀ H' f ys (qs : List (Int × Int)), Same H H' → H f = none → H' f = some (.lst ys) → DnAll M H' ys ((qs.filter (stB ds rs ls)).map prD) → SrtOf (arcsOf ds rs ls ls.length) qs → Q (.ref f) H'
section
variable {P : Program} {w : World} {K : PySem.W.Frag} {mg : Str → Option Value} {base : Heap} {t0 t1 t2 t3 t4 : Tok} {C : Addr}
theorem kn_stepsE {k : Nat} (D : Df K mg "_law_steps" s_Lsteps) (B : Bl mg) (c_Labove : Kn P w K mg base "_law_above" k (spNums upL)) (c_Lbelow : Kn P w K mg base "_law_below" k (spNums dnL)) (c_Ledges : Kn P w K mg base "_law_edges" k spEdges) : Kn P w K mg base "_law_steps" (k + 1) spStepsE := by
  refine kn_of D (fun _ _ _ _ _ _ us hl => match us, hl with | [_], _ => rfl) sc_Lsteps (fun vs H Q E h => by obtain ⟨M, T, ds, rs, ls, rfl, _⟩ := h; rfl) (fun f cd B' fr z H vs Q E hr gd h => ?_)
  obtain ⟨M, T, ds, rs, ls, rfl, hM, wa, wd, q⟩ := h
  refine ⟨_, (pss_cons (ps_asg (pe_tup (pa_cons (pe_own c_Labove hr gd (by rfl) (pa_cons (pv 0) pa_nil)) (pa_cons (pe_own c_Lbelow hr gd (by rfl) (pa_cons (pv 0) pa_nil)) pa_nil))) (pg_tup (by rfl) (pgs_cons (pg_name (i := 1) sc_Lsteps.nd rfl (.inr rfl)) (pgs_cons (pg_name (i := 2) sc_Lsteps.nd rfl (.inr rfl)) pgs_nil))))
  (pss_one (ps_ret (pe_lc (own := [("_law_edge", 3)]) rfl sc_Lsteps.nd (pi_list (pe_own c_Ledges hr gd (by rfl) (pa_cons (pv 0) pa_nil))) (blkOk_by (N := ["_law_world_here", "_law_above_here", "_law_below_here", "_law_edge"]) (sc := defScope s_Lsteps) (by decide +kernel)) (fun _ _ _ _ _ => (pg_name (i := 3) sc_Lsteps.nd rfl (.inl rfl))) (fun _ _ _ _ _ => (pts_one (PW.pt (pw_and (pt_cmpR (op_inSK K) (pe_ix (r := rIxT K) ix_tup (pv 3) pe_int (fun _ _ => rfl)) (pv 1) (by rfl)) (pw_and1 (pt_cmpR (op_inSK K) (pe_ix (r := rIxT K) ix_tup (pv 3) pe_int (fun _ _ => rfl)) (pv 2) (by rfl))))))) (fun _ _ _ _ _ => (pv 3)))))), ?_⟩
  have n10 := bounds_len wd.b1
  have len := (bundles_len wd.b2).1
  have same := wd.lo.1
  have al := arcs_len ds rs ls ls.length
  walk_at "xs"
  refine ⟨M, T, ds, rs, ls, rfl, wa, wd, ?_⟩
  intro H1 A1 S1 nA eA
  walk_at "xs"
  refine ⟨M, T, ds, rs, ls, rfl, wa.ext (Ext.same S1), wd, ?_⟩
  intro H2 A2 S2 nA2 eA2
  have eA := S2 _ _ eA
  have S12 := S1.trans S2
  walk_at "xs"
  intro tt htt
  have St := same_upd htt (o := .tup [.ref A1, .ref A2])
  have ett := upd_same (H := H2) (a := tt) (o := .tup [.ref A1, .ref A2])
  have eA := St _ _ eA
  have eA2 := St _ _ eA2
  have S12 := S12.trans St
  generalize upd H2 tt _ = H2 at *
  walk_at "xs"
  refine ⟨M, T, ds, rs, ls, rfl, fun m hm => by obtain ⟨o, e⟩ := hM m hm; exact ⟨o, S12 _ _ e⟩, wa.ext (Ext.same S12), wd, ?_⟩
  intro H3 g ys qs S3 ng eg Ag so
  have S13 := S12.trans S3
  have eA := S3 _ _ eA
  have eA2 := S3 _ _ eA2
  walk_at "xs"
  intro L hL
  have lq : qs.length ≤ 1000 := by rw [so.1.length_eq]; omega
  have ly := Ag.length
  rw [List.length_map] at ly
  have AgL : DnAll (L :: M) H3 ys (qs.map prD) := Ag.avoid fun a o na e m => by
    rcases List.mem_cons.mp m with rfl | m
    · rw [hL] at e; cases e
    · exact na m
  obtain ⟨bq, ebq⟩ : ∃ bq : Int × Int → Bool, bq = fun p => decide (p.1 ∈ upL ds (hsOf ds rs ls)) && decide (p.2 ∈ dnL ds (hsOf ds rs ls)) := ⟨_, rfl⟩
  refine lc_list (K := K) (a := g) (xs := ys) (fun j H' => Same H3 H' ∧ ∃ acc : List V, H' L = some (.lst acc) ∧ DnAll (L :: M) H' acc (((qs.take j).filter bq).map prD)) ?_ ?_ ?_ ?_
  · exact ⟨same_upd hL, [], upd_same, .nil⟩
  · rintro j H' _ ⟨S, _⟩
    exact SqL.of (S _ _ eg)
  · rintro j v H' hv ⟨S, acc, eL, Y⟩
    obtain ⟨dP, hdP, dnP⟩ := (AgL.ext (Ext.same S)).get hv
    rw [List.getElem?_map] at hdP
    cases hpr : qs[j]? with
    | none => rw [hpr] at hdP; cases hdP
    | some pr =>
    rw [hpr] at hdP
    cases hdP
    have dnP0 := dnP
    obtain ⟨r2, rfl, _, hr5⟩ := dnP.pair
    have hj := (List.getElem?_eq_some_iff.mp hpr).1
    have fs : (qs.take (j + 1)).filter bq = (qs.take j).filter bq ++ (if bq pr = true then [pr] else []) := by
      rw [List.take_add_one, hpr, List.filter_append]
      congr 1
      show List.filter _ [pr] = _
      rw [List.filter_cons]
      rfl
    have fl := List.length_filter_le bq (qs.take j)
    rw [List.length_take] at fl
    have lY := Y.length
    rw [List.length_map] at lY
    have eA' := S _ _ eA
    have eA2' := S _ _ eA2
    walk_at "xs"
    refine x_wiped rfl ?_
    walk_at "xs"
    refine x_inI eA' ?_
    walk_at "xs"
    refine x_ite (fun h1 => ?_) (fun h1 => ?_)
    · walk_at "xs"
      refine x_inI eA2' ?_
      walk_at "xs"
      refine x_ite (fun h2 => ?_) (fun h2 => ?_)
      · walk_at "xs"
        refine x_acc eL (by rw [sizeLine_eq]; omega) ?_
        have X : Ext (L :: M) H' (upd H' L (.lst (acc ++ [.ref r2]))) := Ext.upd (by simp)
        refine ⟨fun z o e => ?_, _, upd_same, ?_⟩
        · rw [upd_ne (ne_of_none e hL)]; exact S _ _ e
        · rw [fs, if_pos (by rw [ebq]; exact (Bool.and_eq_true _ _).mpr ⟨decide_eq_true h1, decide_eq_true h2⟩), List.map_append]
          exact DnAll.app (Y.ext X) (.cons (dnP0.ext X) .nil)
      · refine ⟨S, acc, eL, ?_⟩
        rw [fs, if_neg (by rw [ebq]; intro z; exact h2 (of_decide_eq_true ((Bool.and_eq_true _ _).mp z).2)), List.append_nil]
        exact Y
    · refine ⟨S, acc, eL, ?_⟩
      rw [fs, if_neg (by rw [ebq]; intro z; exact h1 (of_decide_eq_true ((Bool.and_eq_true _ _).mp z).1)), List.append_nil]
      exact Y
  · rintro H' ⟨S, acc, eL, Y⟩
    rw [ly, List.take_length] at Y
    walk_at "xs"
    have es : bq = stB ds rs ls := ebq
    rw [es] at Y
    exact q _ L acc qs (S13.trans S) (S13.free hL) eL (Y.sub (by intro a h; simp [h])) so
end
/-! ### the law's own is_bar, of things that are well shaped -/
theorem chk_up {n : Int} : ∀ (ms : List Int) (b : Int), ms.Pairwise (· < ·) → (∀ m ∈ ms, 0 ≤ m ∧ m < n ∧ b < m) → chk n b (ms.map PyData.int) = true
  | [], _, _, _ => rfl
  | m :: r, b, hp, hm => by
    obtain ⟨h1, h2, h3⟩ := hm m (List.mem_cons_self ..)
    rw [List.pairwise_cons] at hp
    have ih := chk_up r m hp.2 (fun x hx => ⟨(hm x (List.mem_cons_of_mem _ hx)).1, (hm x (List.mem_cons_of_mem _ hx)).2.1, hp.1 x hx⟩)
    show ((decide (0 ≤ m) && decide (m < n)) && (decide (b < m) && chk n m (r.map PyData.int))) = true
    rw [decide_eq_true h1, decide_eq_true h2, decide_eq_true h3, ih]
    rfl
theorem IsSet.isSet {n : Nat} {Pr : Nat → Prop} {l : List Int} (a : IsSet n Pr l) : setD (.list (l.map PyData.int)) n = true := by
  obtain ⟨f, hf, rfl⟩ := a
  refine chk_up _ _ (cI_up _) fun m hm => ?_
  obtain ⟨i, hi, rfl⟩ := List.mem_map.mp hm
  have := filt_lt i hi
  omega
theorem x_inIT {K : PySem.W.Frag} {H : Hp} {Q : VK} {x : Int} {p : Addr} {ms : List Int} (hp : H p = some (.tup (ms.map V.int))) (h : Q (.bl (decide (x ∈ ms))) H) : rIn K false (.int x) (.ref p) H Q :=
  ⟨p, _, rfl, .inr (SqT.of hp), rfl, flat_ints ms, by rw [if_neg Bool.false_ne_true, inV_int]; exact h⟩
def Thg (H : Hp) (n : Nat) (t : Addr) (d : PyData) : Prop := (∃ m : Int, H t = some (.tup [.str "rigid", .int m]) ∧ d = .tuple [.str "rigid", .int m]) ∨
  (∃ (l : Addr) (k : Str) (ms : List Int), H t = some (.tup [.str k, .ref l]) ∧ (k = Str.ofString "low" ∨ k = Str.ofString "high") ∧ H l = some (.lst (ms.map V.int)) ∧ d = .tuple [.str k, .list (ms.map PyData.int)] ∧ setD (.list (ms.map PyData.int)) n = true ∧ ms.length ≤ 10)
def spIsBar7 : Sp := fun vs H Q _ => ∃ (M : List Addr) (T t : Addr) (n : Int) (d : PyData) (ds rs : List PyData) (ls : List Int) (a b c : Int), vs = [.ref T, .int n, .ref t] ∧ WdAt M H T ds rs ls ∧ Wd ds rs ls ∧ 0 ≤ n ∧ rs[n.toNat]? = some (tupD [a, b, c]) ∧ Thg H ds.length t d ∧
  ∀ H' r, Same H H' → (r = true ↔ BarP ds rs ls a b d) → Q (.bl r) H'
section
variable {P : Program} {w : World} {K : PySem.W.Frag} {mg : Str → Option Value} {base : Heap} {t0 t1 t2 t3 t4 : Tok} {C : Addr}
theorem kn_isBar7 {k : Nat} (D : Df K mg "_law_is_bar" s_Lis_bar) (B : Bl mg) (c_Lfree : Kn P w K mg base "_law_free" k spFreeW) (c_Lis_low : Kn P w K mg base "_law_is_low" k (spIsLow false)) (c_Lis_high : Kn P w K mg base "_law_is_high" k (spIsLow true)) : Kn P w K mg base "_law_is_bar" (k + 1) spIsBar7 := by
  refine kn_of D (fun _ _ _ _ _ _ us hl => match us, hl with | [_, _, _], _ => rfl) sc_Lis_bar (fun vs H Q E h => by obtain ⟨M, T, t, n, d, ds, rs, ls, a, b, c, rfl, _⟩ := h; rfl) (fun f cd B' fr z H vs Q E hr gd h => ?_)
  obtain ⟨M, T, t, n, d, ds, rs, ls, a, b, c, rfl, wa, wd, n0, hrow, th, q⟩ := h
  refine ⟨_, (pss_cons (ps_asg (pv 2) (pg_tup (by rfl) (pgs_cons (pg_name (i := 3) sc_Lis_bar.nd rfl (.inl rfl)) (pgs_cons (pg_name (i := 4) sc_Lis_bar.nd rfl (.inr rfl)) pgs_nil))))
  (pss_cons (ps_if (pt_cmpR op_eq (pv 3) pe_str (nomark _)) (pss_one (ps_ret (pe_and (pe_cmpR (op_inSK K) (pv 4) (pe_slice (r := rSlA K) sl_tupA (pe_ix (r := rIxL K) ix_list (pe_ix (r := rIxT K) ix_tup (pv 0) pe_int (fun _ _ => rfl)) (pv 1) (fun _ _ => rfl)) po_none (po_some pe_int)) (by rfl)) (pe_one (pe_cmpR (op_notInSK K) (pv 4) (pe_own c_Lfree hr gd (by rfl) (pa_cons (pv 0) pa_nil)) (by rfl)))))) pss_nil)
  (pss_cons (ps_if (pt_cmpR (op_neD hr.units) (pe_lc (own := [("_law_broker", 6)]) rfl sc_Lis_bar.nd (pi_list (pv 4)) (blkOk_by (N := ["_law_world_here", "_law_number", "_law_thing", "_law_word", "_law_part", "_law_is_there", "_law_broker"]) (sc := defScope s_Lis_bar) (by decide +kernel)) (fun _ _ _ _ _ => (pg_name (i := 6) sc_Lis_bar.nd rfl (.inl rfl))) (fun _ _ _ _ _ => (pts_one (pt_cmpR (op_notInSK K) (pv 6) (pe_own c_Lfree hr gd (by rfl) (pa_cons (pv 0) pa_nil)) (by rfl)))) (fun _ _ _ _ _ => (pv 6))) (pe_lst pa_nil) (nomark _)) (pss_one (ps_ret pe_bl)) pss_nil)
  (pss_cons (ps_set (i := 5) sc_Lis_bar.nd rfl (.inl rfl) (pe_cmpR (op_neD hr.units) (pe_lc (own := [("_law_broker", 6)]) rfl sc_Lis_bar.nd (pi_tup (pe_slice (r := rSlA K) sl_tupA (pe_ix (r := rIxL K) ix_list (pe_ix (r := rIxT K) ix_tup (pv 0) pe_int (fun _ _ => rfl)) (pv 1) (fun _ _ => rfl)) po_none (po_some pe_int))) (blkOk_by (N := ["_law_world_here", "_law_number", "_law_thing", "_law_word", "_law_part", "_law_is_there", "_law_broker"]) (sc := defScope s_Lis_bar) (by decide +kernel)) (fun _ _ _ _ _ => (pg_name (i := 6) sc_Lis_bar.nd rfl (.inl rfl))) (fun _ _ _ _ _ => (pts_one (pt_cmpR (op_inSK K) (pv 6) (pv 4) (by rfl)))) (fun _ _ _ _ _ => (pv 6))) (pe_lst pa_nil) (nomark _)))
  (pss_cons (ps_if (pt_cmpR op_eq (pv 3) pe_str (nomark _)) (pss_one (ps_ret (pe_and (pv 5) (pe_one (pe_own c_Lis_low hr gd (by rfl) (pa_cons (pv 0) (pa_cons (pv 4) pa_nil))))))) pss_nil)
  (pss_one (ps_ret (pe_and (pv 5) (pe_one (pe_own c_Lis_high hr gd (by rfl) (pa_cons (pv 0) (pa_cons (pv 4) pa_nil)))))))))))), ?_⟩
  have n10 := bounds_len wd.b1
  obtain ⟨a0, ab, bn⟩ := row_rng wd hrow
  obtain ⟨f1, f2, f3, eT, nT, d1', d2', n3, e3⟩ := id wa.ex
  cases d2' with
  | @lst _ rxs _ e2 m2 AR =>
  have lR := AR.length
  have n1 := (List.getElem?_eq_some_iff.mp hrow).1
  obtain ⟨u, eu, au⟩ := ix_at e2 (i := n) n0 (by omega)
  obtain ⟨dR, hdR, dnR⟩ := AR.get eu
  rw [hrow] at hdR
  obtain rfl : tupD [a, b, c] = dR := Option.some.inj hdR
  obtain ⟨r', rfl, _, hr2⟩ := Dn.tup3 (a := a) (b := b) (c := c) dnR
  rcases th with ⟨m, et, rfl⟩ | ⟨l, kk, ms, et, hk, el, rfl, hs, lms⟩
  · have iffR : BarP ds rs ls a b (.tuple [.str "rigid", .int m]) ↔ m ∈ [a, b] ∧ lsB ds m.toNat = false := by
      constructor
      · rintro (⟨_, m', e, h1, h2⟩ | ⟨ms, e, _⟩)
        · injection e with e
          rw [e]; exact ⟨h1, h2⟩
        · cases e
      · rintro ⟨h1, h2⟩
        exact .inl ⟨rfl, m, rfl, h1, h2⟩
    walk_at "xs"
    rw [decide_eq_true rfl]
    walk_at "xs"
    refine x_ixL (SqL.of e2) au ?_
    walk_at "xs"
    refine x_sl2 hr2 ?_
    intro pp H2 S2 epp
    walk_at "xs"
    refine x_inIT (ms := [a, b]) epp ?_
    cases ci : decide (m ∈ [a, b]) with
    | false =>
      walk_at "xs"
      refine q _ _ S2 ⟨fun h => (by cases h), fun h => ?_⟩
      rw [iffR] at h
      rw [decide_eq_true h.1] at ci
      cases ci
    | true =>
      have ci := of_decide_eq_true ci
      have mr : 0 ≤ m ∧ m < ds.length := by
        simp only [List.mem_cons, List.not_mem_nil, or_false] at ci
        rcases ci with rfl | rfl <;> omega
      walk_at "xs"
      refine ⟨M, T, ds, rs, ls, rfl, wa.ext (Ext.same S2), wd, ?_⟩
      intro H3 F S3 nF eF
      walk_at "xs"
      refine x_notInI eF ?_
      refine q _ _ (S2.trans S3) ?_
      rw [iffR, Bool.not_eq_true', decide_eq_false_iff_not, free_mem mr.1 mr.2]
      constructor
      · exact fun h => ⟨ci, by cases e : lsB ds m.toNat with | false => rfl | true => exact absurd e h⟩
      · rintro ⟨_, h⟩
        rw [h]; decide
  · have kr : kk ≠ Str.ofString "rigid" := by
      rcases hk with rfl | rfl <;> decide
    obtain ⟨_, rg0, _, _⟩ := chk_ints (show chk ds.length (-1) (ms.map PyData.int) = true from hs)
    rw [intsOf_map] at rg0
    have iffR : BarP ds rs ls a b (.tuple [.str kk, .list (ms.map PyData.int)]) ↔ hitB ms a b = true ∧ ((kk = Str.ofString "low" ∧ LoP false ds rs ls ms) ∨ (kk = Str.ofString "high" ∧ LoP true ds rs ls ms)) := by
      constructor
      · rintro (⟨e, _⟩ | ⟨ms', e, _, h1, h2⟩)
        · exact absurd e kr
        · injection e with e
          obtain rfl := ints_inj e
          exact ⟨h1, h2⟩
      · rintro ⟨h1, h2⟩
        exact .inr ⟨ms, rfl, hs, h1, h2⟩
    walk_at "xs"
    rw [decide_eq_false kr]
    walk_at "xs"
    intro L hL
    refine lc_list (K := K) (a := l) (xs := ms.map V.int) (fun j H' => Same H H' ∧ H' L = some (.lst (((ms.take j).filter fun m => !decide (m ∈ cI (lsL ds))).map V.int))) ?_ ?_ ?_ ?_
    · exact ⟨same_upd hL, upd_same⟩
    · rintro j H' _ ⟨S, _⟩
      exact SqL.of (S _ _ el)
    · rintro j v H4 hv ⟨S4, eL⟩
      obtain ⟨m, hm, rfl⟩ := int_at hv
      have hj := (List.getElem?_eq_some_iff.mp hm).1
      have fs : (ms.take (j + 1)).filter (fun m => !decide (m ∈ cI (lsL ds))) = (ms.take j).filter (fun m => !decide (m ∈ cI (lsL ds))) ++ (if (!decide (m ∈ cI (lsL ds))) = true then [m] else []) := by
        rw [List.take_add_one, hm, List.filter_append]
        congr 1
        show List.filter _ [m] = _
        rw [List.filter_cons]
        rfl
      have fl := List.length_filter_le (fun m => !decide (m ∈ cI (lsL ds))) (ms.take j)
      rw [List.length_take] at fl
      walk_at "xs"
      refine x_wiped rfl ?_
      walk_at "xs"
      refine ⟨M, T, ds, rs, ls, rfl, wa.ext (Ext.same S4), wd, ?_⟩
      intro H5 F S5 nF eF
      have eL5 := S5 _ _ eL
      have S45 := S4.trans S5
      walk_at "xs"
      refine x_notInI eF ?_
      refine ⟨_, rfl, ?_⟩
      cases c1 : decide (m ∈ cI (lsL ds)) with
      | false =>
        rw [if_pos (by rfl)]
        walk_at "xs"
        refine x_acc eL5 (by rw [List.length_map, sizeLine_eq]; omega) ?_
        refine ⟨fun z o e => ?_, ?_⟩
        · rw [upd_ne (ne_of_none e hL)]; exact S45 _ _ e
        · rw [upd_same, fs, c1, if_pos (by rfl), List.map_append]; rfl
      | true =>
        rw [if_neg (by decide)]
        refine ⟨S45, ?_⟩
        rw [fs, c1, if_neg (by decide), List.append_nil]
        exact eL5
    rintro H4 ⟨S4, eL⟩
    rw [List.length_map, List.take_length] at eL
    walk_at "xs"
    intro p hp
    have Sp := same_upd hp (o := .lst [])
    have ep := upd_same (H := H4) (a := p) (o := .lst [])
    have eLp := Sp _ _ eL
    have S5 := S4.trans Sp
    clear eL
    generalize upd H4 p _ = H5 at *
    refine x_neDn (M := []) (N := []) (.lst eLp (by simp) (DnAll.ints _)) (.lst ep (by simp) .nil) (shaped_ints _) rfl ?_
    rw [eqv_nil'']
    refine ⟨_, rfl, ?_⟩
    refine x_iteN (fun c1 => ?_) (fun c1 => ?_)
    · walk_at "xs"
      refine q _ _ S5 ⟨fun h => (by cases h), fun h => ?_⟩
      rw [iffR] at h
      exfalso
      refine c1 ?_
      rw [List.map_eq_nil_iff, List.filter_eq_nil_iff]
      intro m hm
      have fr : ∀ x ∈ ms, lsB ds x.toNat = true := by
        rcases h.2 with ⟨_, h⟩ | ⟨_, h⟩
        · exact h.1
        · exact h.1
      have := rg0 m hm
      rw [decide_eq_true ((free_mem this.1 this.2).mpr (fr m hm))]
      decide
    rw [List.map_eq_nil_iff, List.filter_eq_nil_iff] at c1
    have fr : ∀ x ∈ ms, lsB ds x.toNat = true := fun x hx => by
      have h := c1 x hx
      have r := rg0 x hx
      exact (free_mem r.1 r.2).mp (by simpa using h)
    have e2' := S5 _ _ e2
    have eT' := S5 _ _ eT
    have hr2' := S5 _ _ hr2
    have el' := S5 _ _ el
    walk_at "xs"
    refine x_ixL (SqL.of e2') au ?_
    walk_at "xs"
    refine x_sl2 hr2' ?_
    intro pp H6 S6 epp
    have el6 := S6 _ _ el'
    have S16 := S5.trans S6
    walk_at "xs"
    intro L9 hL9
    refine lc_tup (K := K) (a := pp) (xs := [.int a, .int b]) (fun i H' => Same H6 H' ∧ H' L9 = some (.lst ((([a, b].take i).filter fun x => decide (x ∈ ms)).map V.int))) ?_ ?_ ?_ ?_
    · exact ⟨same_upd hL9, upd_same⟩
    · rintro i H' _ ⟨S, _⟩
      exact SqT.of (S _ _ epp)
    · rintro i v H10 hv ⟨S10, eL⟩
      obtain ⟨one, h1', rfl⟩ := int_at (ls := [a, b]) hv
      have hi2 := (List.getElem?_eq_some_iff.mp h1').1
      have hi2 : i < 2 := hi2
      have fl := List.length_filter_le (fun x => decide (x ∈ ms)) ([a, b].take i)
      rw [List.length_take] at fl
      have fs : ([a, b].take (i + 1)).filter (fun x => decide (x ∈ ms)) = ([a, b].take i).filter (fun x => decide (x ∈ ms)) ++ (if decide (one ∈ ms) = true then [one] else []) := by
        rw [List.take_add_one, h1', List.filter_append]
        congr 1
        show List.filter _ [one] = _
        rw [List.filter_cons]
        rfl
      walk_at "xs"
      refine x_wiped rfl ?_
      walk_at "xs"
      refine x_inI (S10 _ _ el6) ?_
      walk_at "xs"
      refine x_ite (fun c1 => ?_) (fun c1 => ?_)
      · walk_at "xs"
        refine x_acc eL (by rw [List.length_map, sizeLine_eq]; omega) ?_
        refine ⟨fun z o e => ?_, ?_⟩
        · rw [upd_ne (ne_of_none e hL9)]; exact S10 _ _ e
        · rw [upd_same, fs, if_pos (decide_eq_true c1), List.map_append]; rfl
      · refine ⟨S10, ?_⟩
        rw [fs, if_neg (by simpa using c1), List.append_nil]
        exact eL
    rintro H10 ⟨S10, eL9⟩
    have tk2 : [a, b].take [V.int a, V.int b].length = [a, b] := rfl
    rw [tk2] at eL9
    walk_at "xs"
    intro p2 hp2
    have Sp2 := same_upd hp2 (o := .lst [])
    have ep2 := upd_same (H := H10) (a := p2) (o := .lst [])
    have eL8 := Sp2 _ _ eL9
    have S6p := S10.trans Sp2
    have el7 := S6p _ _ el6
    have S17 := S16.trans S6p
    have wa7 := wa.ext (Ext.same S17)
    clear eL9
    generalize upd H10 p2 _ = H11 at *
    have nil : ([a, b].filter (fun x => decide (x ∈ ms)) = []) = (hitB ms a b = false) := by
      rw [filt_none, eq_iff_iff]
      simp [hitB]
    refine x_neDn (M := []) (N := []) (.lst eL8 (by simp) (DnAll.ints _)) (.lst ep2 (by simp) .nil) (shaped_ints _) rfl ?_
    rw [eqv_nil'']
    have hb : (!decide (([a, b].filter fun x => decide (x ∈ ms)).map PyData.int = [])) = hitB ms a b := by
      simp only [map_nilB, nil]
      cases hitB ms a b <;> rfl
    rw [hb]
    walk_at "xs"
    rcases hk with rfl | rfl
    · rw [decide_eq_true rfl]
      walk_at "xs"
      cases hh : hitB ms a b with
      | false =>
        walk_at "xs"
        refine q _ _ S17 ⟨fun h => (by cases h), fun h => ?_⟩
        rw [iffR, hh] at h
        cases h.1
      | true =>
        walk_at "xs"
        refine ⟨M, T, l, ds, rs, ls, ms, rfl, wa7, wd, el7, ?_⟩
        intro H12 r S12 hr'
        refine q _ _ (S17.trans S12) ?_
        rw [hr', iffR, hh]
        constructor
        · exact fun h => ⟨rfl, .inl ⟨rfl, fr, h⟩⟩
        · rintro ⟨_, ⟨_, _, h⟩ | ⟨e, _⟩⟩
          · exact h
          · exact absurd e (by decide)
    · rw [decide_eq_false (show ¬ Str.ofString "high" = Str.ofString "low" by decide)]
      walk_at "xs"
      cases hh : hitB ms a b with
      | false =>
        walk_at "xs"
        refine q _ _ S17 ⟨fun h => (by cases h), fun h => ?_⟩
        rw [iffR, hh] at h
        cases h.1
      | true =>
        walk_at "xs"
        refine ⟨M, T, l, ds, rs, ls, ms, rfl, wa7, wd, el7, ?_⟩
        intro H12 r S12 hr'
        refine q _ _ (S17.trans S12) ?_
        rw [hr', iffR, hh]
        constructor
        · exact fun h => ⟨rfl, .inr ⟨rfl, fr, h⟩⟩
        · rintro ⟨_, ⟨e, _⟩ | ⟨_, _, h⟩⟩
          · exact absurd e (by decide)
          · exact h
end
theorem prs_tups (qs : List (Int × Int)) : ∀ u ∈ qs.map prD, ∃ k, u = tupD k := fun u hu => by
  obtain ⟨pr, _, rfl⟩ := List.mem_map.mp hu
  exact ⟨[pr.1, pr.2], rfl⟩
theorem prs_shows {qs : List (Int × Int)} (h : ∀ p ∈ qs, 0 ≤ p.1 ∧ p.1 < 10 ∧ 0 ≤ p.2 ∧ p.2 < 10) (n : qs.length ≤ 100) : Shows (.list (qs.map prD)) := by
  have big : (10 : Nat) < 2 ^ 200 := by decide
  have h1 : ∀ d ∈ qs.map prD, Sz d 409 1 := by
    intro d hd
    obtain ⟨pr, hp, rfl⟩ := List.mem_map.mp hd
    obtain ⟨a0, a1, b0, b1⟩ := h pr hp
    have := sz_tuple (p := 201) (q := 0) (ds := [.int pr.1, .int pr.2]) (fun d hd => by
      simp only [List.mem_cons, List.not_mem_nil, or_false] at hd
      rcases hd with rfl | rfl
      · exact sz_int (by omega)
      · exact sz_int (by omega))
    exact this.mono (Nat.le_of_ble_eq_true rfl) (Nat.le_refl _)
  have := sz_list h1
  rw [List.length_map] at this
  exact this.shows (by omega) (by decide)
theorem srt_shows {ds rs : List PyData} {ls : List Int} {qs : List (Int × Int)} (hb : bundlesD (.list rs) ds.length = true) (n : ds.length ≤ 10) (s : SrtOf (legL ds rs ls) qs) : Shows (.list (qs.map prD)) := by
  refine prs_shows (fun p hp => ?_) ?_
  · have hm := (List.mem_filter.mp (s.1.mem_iff.mp hp)).1
    obtain ⟨a, b, c, d, _⟩ := pairs_in hb (by omega) hm
    omega
  · have h1 := s.1.length_eq
    have h2 : (legL ds rs ls).length ≤ (pairsOf rs).length := List.length_filter_le ..
    have h3 := pairsOf_len rs
    have h4 := (bundles_len hb).1
    omega

/-! ### the law's test of a world -/
theorem shaped_n2 {ms ns : List Int} : SeqAt.shaped (.list [.list (ms.map PyData.int), .list (ns.map PyData.int)]) = true := by
  obtain ⟨g1, g2, g3⟩ := ints_facts ms
  obtain ⟨k1, k2, k3⟩ := ints_facts ns
  simp [SeqAt.shaped, PyData.canLay0, PyData.canLayAll0, g1, k1, PyData.depth, PyData.depthAll, g2, k2]
theorem sz_list' {p q n : Nat} {ds : List PyData} (h : ∀ d ∈ ds, Sz d p q) (hn : ds.length ≤ n) : Sz (.list ds) (n * (p + 2) + 3) (q + 1) :=
  (sz_list h).mono (Nat.add_le_add_right (Nat.mul_le_mul_right _ hn) 3) (Nat.le_refl _)
theorem sz_ints {ms : List Int} (hm : ∀ m ∈ ms, m.natAbs < 2 ^ 200) (m : ms.length ≤ 48) : Sz (.list (ms.map PyData.int)) 620000 5 :=
  (sz_list' (n := 48) (p := 201) (q := 0) (fun d hd => by obtain ⟨m, hx, rfl⟩ := List.mem_map.mp hd; exact sz_int (hm m hx)) (by rw [List.length_map]; exact m)).mono (by decide) (by decide)
theorem shows_n2 {ms ns : List Int} (hm : ∀ m ∈ ms, m.natAbs < 2 ^ 200) (lm : ms.length ≤ 48) (hn : ∀ m ∈ ns, m.natAbs < 2 ^ 200) (ln : ns.length ≤ 48) : Shows (.list [.list (ms.map PyData.int), .list (ns.map PyData.int)]) :=
  (sz_list' (n := 2) (p := 620000) (q := 5) (fun d hd => by
    simp only [List.mem_cons, List.not_mem_nil, or_false] at hd
    rcases hd with rfl | rfl
    · exact sz_ints hm lm
    · exact sz_ints hn ln) (Nat.le_refl _)).shows (by decide) (by decide)
theorem x_dnewK {σ : L2.St} {H : Hp} {Q : VK} (h : ∀ p, H p = none → Q (.ref p) (upd H p (.dK []))) : tDNewK σ H Q := h
theorem small10 {m : Int} (h : 0 ≤ m ∧ m < 10) : m.natAbs < 2 ^ 200 := by
  have big : (10 : Nat) < 2 ^ 200 := by decide
  omega
/-- what the program tells of a way -/
def WayOr (ds rs : List PyData) (ls : List Int) (one t : Int) (H H' : Hp) (v : V) : Prop := (lsB ds one.toNat = false ∧ v = .non) ∨ (lsB ds one.toNat = true ∧ WayV (arcsOf ds rs ls ls.length) one t H H' v)
theorem lsF_free {ds : List PyData} {bs : List Int} (h : ∀ m ∈ bs, 0 ≤ m ∧ m < ds.length) : (bs.filter fun m => decide (m ∈ cI (lsL ds))) = lsF ds bs := by
  refine List.filter_congr fun m hm => ?_
  have := h m hm
  have e := @cI_mem (lsL ds) m.toNat
  rw [show ((m.toNat : Nat) : Int) = m by omega] at e
  rw [Bool.eq_iff_iff, decide_eq_true_iff, e]
  unfold lsL
  rw [List.mem_filter, List.mem_range]
  exact ⟨fun h => h.2, fun h => ⟨by omega, h⟩⟩
/-- what the law's ways give -/
theorem way_get {ds rs : List PyData} {ls : List Int} {one t : Int} {qs : List (Int × Int)} {H : Hp} {kvs : List (Key × V)} (pm : qs.Perm (arcsOf ds rs ls ls.length)) (rq : ∀ q ∈ qs, 0 ≤ q.2 ∧ q.2 < 10) (o0 : 0 ≤ one) (o1 : one < 10) (h : (lsB ds one.toNat = false ∧ kvs = []) ∨ (lsB ds one.toNat = true ∧ Fwy qs one H kvs)) :
    ∃ d, Dn [] H ((valV kvs (.inl t)).getD .non) d ∧ SeqAt.shaped d = true ∧ Shows d ∧ (∀ es, d = .list es → es.length ≤ 1000) ∧ ∀ (N : List Addr) (H0 H' : Hp) (v : V), (∀ m ∈ N, ∃ o, H0 m = some o) → WayOr ds rs ls one t H0 H' v → Dn N H' v d := by
  rcases h with ⟨c, rfl⟩ | ⟨c, fw⟩
  · refine ⟨.none, .non, rfl, sz_none.shows (by decide) (by decide), fun es e => (by cases e), fun N H0 H' v _ w => ?_⟩
    rcases w with ⟨_, rfl⟩ | ⟨c2, _⟩
    · exact .non
    · rw [c] at c2; cases c2
  · cases hh : hasI kvs t with
    | false =>
      have nw : ∀ w, ¬ Way qs one t w := fun w a => by
        rw [fw.all t w a] at hh; cases hh
      have e : valV kvs (.inl t) = none := by
        unfold hasI at hh
        simpa using hh
      rw [e]
      refine ⟨.none, .non, rfl, sz_none.shows (by decide) (by decide), fun es e => (by cases e), fun N H0 H' v _ w => ?_⟩
      rcases w with ⟨c2, _⟩ | ⟨_, ⟨rfl, _⟩ | ⟨l, w, _, _, _, _, b⟩⟩
      · rw [c] at c2; cases c2
      · exact .non
      · exact absurd (b.1.mono fun p hp => pm.mem_iff.mpr hp) (nw w)
    | true =>
      obtain ⟨l, w, e1, e2, lw, b⟩ := fw.has t hh
      rw [e1]
      have sm : ∀ m ∈ w, m.natAbs < 2 ^ 200 := fun m hm => small10 (b.1.rng ⟨o0, o1⟩ rq m hm)
      refine ⟨.list (w.map PyData.int), .lst e2 (by simp) (DnAll.ints _), shaped_ints _, (sz_ints sm (by omega)).shows (by decide) (by decide), fun es e => (by cases e; rw [List.length_map]; omega), fun N H0 H' v hN w' => ?_⟩
      rcases w' with ⟨c2, _⟩ | ⟨_, ⟨_, n⟩ | ⟨l', w', rfl, nl', el', _, b'⟩⟩
      · rw [c] at c2; cases c2
      · exact absurd (b.1.mono fun p hp => pm.mem_iff.mp hp) (n w)
      · have := b'.one (b.perm pm)
        subst this
        exact .lst el' (fun h => by obtain ⟨o, e⟩ := hN _ h; rw [nl'] at e; cases e) (DnAll.ints _)
section
variable {P : Program} {w : World} {K : PySem.W.Frag} {mg : Str → Option Value} {base : Heap} {t0 t1 t2 t3 t4 : Tok} {C : Addr}
end

/-! ### what bar tells, as data -/
theorem isSet_ex (n : Nat) (Pr : Nat → Prop) : ∃ l, IsSet n Pr l := by
  classical
  exact ⟨_, fun i => decide (Pr i), fun i _ => by rw [decide_eq_true_iff], rfl⟩
theorem IsSet.small {n : Nat} {Pr : Nat → Prop} {l : List Int} (a : IsSet n Pr l) (hn : n ≤ 10) : ∀ m ∈ l, m.natAbs < 2 ^ 200 := fun m hm => by
  have big : (10 : Nat) < 2 ^ 200 := by decide
  obtain ⟨i, hi, rfl, _⟩ := a.mem.mp hm
  omega
theorem BarV.dn {H0 H : Hp} {v : V} {d : PyData} (h : BarV H0 H v d) : Dn [] H v d := by
  rcases h with ⟨rfl, rfl⟩ | ⟨t, m, rfl, rfl, _, e⟩ | ⟨t, l, k, ms, rfl, _, rfl, _, e, _, el⟩
  · exact .non
  · exact .tup e (by simp) (.cons (.str _) (.cons (.int _) .nil))
  · exact .tup e (by simp) (.cons (.str _) (.cons (.lst el (by simp) (DnAll.ints _)) .nil))
theorem shaped_rig (m : Int) : SeqAt.shaped (.tuple [.str "rigid", .int m]) = true := by
  have c : PyData.strOk (Str.ofString "rigid") = true := by decide +kernel
  simp [SeqAt.shaped, PyData.canLay0, PyData.canLayAll0, PyData.depth, PyData.depthAll]
  exact c
theorem shaped_bset {k : Str} (hk : k = "low" ∨ k = "high") (ms : List Int) : SeqAt.shaped (.tuple [.str k, .list (ms.map PyData.int)]) = true := by
  obtain ⟨g1, g2, g3⟩ := ints_facts ms
  have c1 : PyData.strOk (Str.ofString "low") = true := by decide +kernel
  have c2 : PyData.strOk (Str.ofString "high") = true := by decide +kernel
  have c : PyData.strOk k = true := by
    rcases hk with rfl | rfl
    · exact c1
    · exact c2
  simp [SeqAt.shaped, PyData.canLay0, PyData.canLayAll0, g1, PyData.depth, PyData.depthAll, g2, c]
theorem shows_rig {m : Int} (h : m.natAbs < 2 ^ 200) : Shows (.tuple [.str "rigid", .int m]) :=
  (sz_tuple (p := 201) (q := 1) (ds := [.str "rigid", .int m]) (fun d hd => by
    simp only [List.mem_cons, List.not_mem_nil, or_false] at hd
    rcases hd with rfl | rfl
    · exact ⟨rfl, by decide +kernel, by decide⟩
    · exact (sz_int h).mono (by decide) (by decide))).shows (by simp only [List.length_cons, List.length_nil]; omega) (by decide)
theorem shows_bset {k : Str} {ms : List Int} (hk : k = "low" ∨ k = "high") (hm : ∀ m ∈ ms, m.natAbs < 2 ^ 200) (lm : ms.length ≤ 48) : Shows (.tuple [.str k, .list (ms.map PyData.int)]) :=
  (sz_tuple (p := 620000) (q := 5) (ds := [.str k, .list (ms.map PyData.int)]) (fun d hd => by
    simp only [List.mem_cons, List.not_mem_nil, or_false] at hd
    rcases hd with rfl | rfl
    · rcases hk with rfl | rfl
      · exact ⟨rfl, by decide +kernel, by decide⟩
      · exact ⟨rfl, by decide +kernel, by decide⟩
    · exact sz_ints hm lm)).shows (by simp only [List.length_cons, List.length_nil]; omega) (by decide)
theorem bar_shape {ds : List PyData} {lo hi : List Int} {a b : Int} (a1 : a.natAbs < 2 ^ 200) (b1 : b.natAbs < 2 ^ 200) (l1 : ∀ m ∈ lo, m.natAbs < 2 ^ 200) (l2 : lo.length ≤ 48) (h1 : ∀ m ∈ hi, m.natAbs < 2 ^ 200) (h2 : hi.length ≤ 48) :
    SeqAt.shaped (barK ds lo hi a b) = true ∧ Shows (barK ds lo hi a b) := by
  unfold barK
  split
  · exact ⟨shaped_rig _, shows_rig a1⟩
  · split
    · exact ⟨shaped_rig _, shows_rig b1⟩
    · split
      · exact ⟨shaped_bset (.inl rfl) _, shows_bset (.inl rfl) l1 l2⟩
      · split
        · exact ⟨shaped_bset (.inr rfl) _, shows_bset (.inr rfl) h1 h2⟩
        · exact ⟨rfl, sz_none.shows (by decide) (by decide)⟩
theorem bar_none {ds rs : List PyData} {lo hi : List Int} {i : Nat} {a b c : Int} (h : rs[i]? = some (tupD [a, b, c])) : barK ds lo hi a b = .none ↔ frB ds rs (lo ++ hi) i = false := by
  rw [frB_at h]
  unfold barK frE hitB
  cases lsB ds a.toNat <;> cases lsB ds b.toNat <;> simp only [Bool.not_true, Bool.not_false, Bool.true_or, Bool.or_true, Bool.false_or, if_true, Bool.true_eq_false, Bool.false_eq_true, if_false, reduceCtorEq, List.mem_append] <;> try trivial
  by_cases c1 : a ∈ lo <;> by_cases c2 : a ∈ hi <;> by_cases c3 : b ∈ lo <;> by_cases c4 : b ∈ hi <;> simp [c1, c2, c3, c4]

/-! ### answers: what is told and what is due -/
def AnsD (d : PyData) : Prop := SeqAt.shaped d = true ∧ Shows d ∧ ∀ es, d = .list es → es.length ≤ 1000
def Ans (N : List Addr) (H H' : Hp) (A : Addr) : Prop := ∃ v1 v2 d, H' A = some (.tup [v1, v2]) ∧ (∀ p, v1 = .ref p → H p = none) ∧ Dn N H' v1 d ∧ Dn [] H' v2 d ∧ AnsD d
theorem ansD_nums {ms : List Int} (h : ∀ m ∈ ms, m.natAbs < 2 ^ 200) (l : ms.length ≤ 48) : AnsD (.list (ms.map PyData.int)) :=
  ⟨shaped_ints _, (sz_ints h l).shows (by decide) (by decide), fun es e => by cases e; rw [List.length_map]; omega⟩
theorem ansD_ints {ms : List Int} (h : ∀ m ∈ ms, 0 ≤ m ∧ m < 10) (l : ms.length ≤ 10) : AnsD (.list (ms.map PyData.int)) := ansD_nums (fun m hm => small10 (h m hm)) (by omega)
theorem bounds_two {ds : List PyData} (h : boundsD (.list ds) = true) : 2 ≤ ds.length := by
  have h : ((decide (2 ≤ (ds.length : Int)) && decide ((ds.length : Int) ≤ 10)) && (ds.map boundD).all id) = true := h
  rw [Bool.and_eq_true, Bool.and_eq_true, decide_eq_true_eq, decide_eq_true_eq] at h
  omega
theorem rch_ten {ps : List (Int × Int)} {ss : List Int} (hs : ∀ m ∈ ss, 0 ≤ m ∧ m < 10) (hp : ∀ q ∈ ps, 0 ≤ q.2 ∧ q.2 < 10) : ∀ x, Rch ps ss x → 0 ≤ x ∧ x < 10 := fun x h => by
  induction h with
  | start h => exact hs _ h
  | step _ e _ => exact hp _ e
theorem IsSet.ten {n : Nat} {Pr : Nat → Prop} {l : List Int} (a : IsSet n Pr l) (hn : n ≤ 10) : ∀ m ∈ l, 0 ≤ m ∧ m < 10 := fun m hm => by
  obtain ⟨i, hi, rfl, _⟩ := a.mem.mp hm
  omega
theorem Ext.get1 {b : Addr} {H H' : Hp} (e : Ext [b] H H') {a : Addr} {o : HO} (h : H a = some o) (n : a ≠ b) : H' a = some o := e _ _ (by rw [List.mem_singleton]; exact n) h
theorem fresh_b {b c r : Addr} {H H1 : Hp} (E : Ext [b] H H1) (B : Bag H1 b c) (n : H1 r = none) : H r = none := by
  cases e : H r with
  | none => rfl
  | some o =>
    by_cases h : r = b
    · obtain ⟨ob, hob⟩ := B.at
      rw [h, hob] at n; cases n
    · have := E.get1 e h
      rw [this] at n; cases n
theorem Bag.ne {b c r : Addr} {H : Hp} (B : Bag H b c) (n : H r = none) : r ∉ [b] := by
  obtain ⟨ob, hob⟩ := B.at
  exact new_out (Same.refl H) hob n
/-- a list of numbers, told and due -/
theorem live_b {N : List Addr} {b c : Addr} {H H1 : Hp} (hN : ∀ m ∈ N, ∃ o, H m = some o) (E : Ext [b] H H1) (B : Bag H1 b c) : ∀ m ∈ N, ∃ o, H1 m = some o := fun m hm => by
  obtain ⟨o, e⟩ := hN m hm
  by_cases h : m = b
  · rw [h]; exact B.at
  · exact ⟨o, E.get1 e h⟩
theorem out_b {N : List Addr} {b c r : Addr} {H H1 : Hp} (hN : ∀ m ∈ N, ∃ o, H m = some o) (E : Ext [b] H H1) (B : Bag H1 b c) (n : H1 r = none) : r ∉ N := fun h => by
  obtain ⟨o, e⟩ := live_b hN E B r h
  rw [n] at e; cases e
theorem ans_ints {N : List Addr} {b c : Addr} {H H1 H2 H3 H4 : Hp} {A p1 p2 : Addr} {ms : List Int} (hN : ∀ m ∈ N, ∃ o, H m = some o) (E1 : Ext [b] H H1) (B1 : Bag H1 b c) (n1 : H1 p1 = none) (e1 : H2 p1 = some (.lst (ms.map V.int))) (S3 : Same H2 H3) (e2 : H3 p2 = some (.lst (ms.map V.int))) (S4 : Same H3 H4) (eA : H4 A = some (.tup [.ref p1, .ref p2]))
    (ad : AnsD (.list (ms.map PyData.int))) : Ans N H H4 A :=
  ⟨.ref p1, .ref p2, _, eA, fun p e => (by cases e; exact fresh_b E1 B1 n1), .lst (S4 _ _ (S3 _ _ e1)) (out_b hN E1 B1 n1) (DnAll.ints _), .lst (S4 _ _ e2) (by simp) (DnAll.ints _), ad⟩
def spBrok (C : Addr) : Sp := fun vs H Q _ => ∃ (N : List Addr) (b c T x : Addr) (t : Int) (ds rs : List PyData) (ls : List Int), vs = [.ref b, .ref T, .ref x, .int t] ∧ (∀ m ∈ N, ∃ o, H m = some o) ∧ Bag H b c ∧ WdAt [b] H T ds rs ls ∧ Wd ds rs ls ∧ Clu C [b] H x (.list ds) (.list rs) ∧ 0 ≤ t ∧ t < 5 ∧
  ∀ H' A, Ext [b] H H' → Bag H' b c → Ans N H H' A → Q (.ref A) H'
section
variable {P : Program} {w : World} {K : PySem.W.Frag} {mg : Str → Option Value} {base : Heap} {t0 t1 t2 t3 t4 : Tok} {C : Addr}
theorem kn_brok {k : Nat} (D : Df K mg "_law_of_brokers" s_Lof_brokers) (B : Bl mg) (c_Ledges : Kn P w K mg base "_law_edges" k spEdges) (c_Lfree : Kn P w K mg base "_law_free" k spFreeW) (c_Ltake : Kn P w K mg base "_law_take" k spTake) (c_reached : Kn P w K mg base "reached" k (spReached C false)) (c_reaching : Kn P w K mg base "reaching" k (spReached C true)) (c_Lspread : Kn P w K mg base "_law_spread" k spSpread) (c_Lback_edges : Kn P w K mg base "_law_back_edges" k spTurned) (c_Lfirst_ways : Kn P w K mg base "_law_first_ways" k spFways) (c_first_way : Kn P w K mg base "first_way" k (spFirst C)) (c_low_set : Kn P w K mg base "low_set" k (spLow C false)) (c_high_set : Kn P w K mg base "high_set" k (spLow C true)) (c_Llow : Kn P w K mg base "_law_low" k (spLowW false)) (c_Lhigh : Kn P w K mg base "_law_high" k (spLowW true)) : Kn P w K mg base "_law_of_brokers" (k + 1) (spBrok C) := by
  refine kn_of D (fun _ _ _ _ _ _ us hl => match us, hl with | [_, _, _, _], _ => rfl) sc_Lof_brokers (fun vs H Q E h => by obtain ⟨N, b, c, T, x, t, ds, rs, ls, rfl, _⟩ := h; rfl) (fun f cd B' fr z H vs Q E hr gd h => ?_)
  obtain ⟨N, b, c, T, x, t, ds, rs, ls, rfl, hN, hB, wa, wd, cl, t0', t5, q⟩ := h
  refine ⟨_, (pss_cons (ps_par (i := 4) (j := 5) (by rfl) sc_Lof_brokers.nd rfl rfl (by decide) rfl rfl (pa_cons (pe_callB call_len_seq (by rfl) B.len (by decide +kernel) (pa_cons (pe_ix (r := rIxT K) ix_tup (pv 1) pe_int (fun _ _ => rfl)) pa_nil)) (pa_cons (pe_own c_Ledges hr gd (by rfl) (pa_cons (pv 1) pa_nil)) pa_nil)) (by rfl))
  (pss_cons (ps_set (i := 6) sc_Lof_brokers.nd rfl (.inr rfl) (pe_own c_Lfree hr gd (by rfl) (pa_cons (pv 1) pa_nil)))
  (pss_cons (ps_par (i := 7) (j := 8) (by rfl) sc_Lof_brokers.nd rfl rfl (by decide) rfl rfl (pa_cons (pe_own c_Ltake hr gd (by rfl) (pa_cons (pv 0) (pa_cons (pv 4) pa_nil))) (pa_cons (pe_own c_Ltake hr gd (by rfl) (pa_cons (pv 0) (pa_cons (pv 4) pa_nil))) pa_nil)) (by rfl))
  (pss_cons (ps_setLc (i := 9) (own := [("_law_broker", 12)]) rfl sc_Lof_brokers.nd rfl rfl (sw_true rfl rfl rfl (by decide +kernel)) (pi_list (pe_lst (pa_cons (pv 7) pa_nil))) (blkOk_by (N := ["_law_bag_here", "_law_world_here", "_law_cluster_here", "_law_way", "_law_size", "_law_edges_here", "_law_free_here", "_law_one", "_law_other", "_law_begins", "_law_told", "_law_ways", "_law_broker"]) (sc := defScope s_Lof_brokers) (by decide +kernel)) (fun _ _ _ _ _ => (pg_name (i := 12) sc_Lof_brokers.nd rfl (.inl rfl))) (fun _ _ _ _ _ => (pts_one (pt_cmpR (op_inSK K) (pv 12) (pv 6) (by rfl)))) (fun _ _ _ _ _ => (pv 12)))
  (pss_cons (ps_if (pt_cmpR op_eq (pv 3) pe_int (nomark _)) (pss_one (ps_ret (pe_tup (pa_cons (pe_own c_reached hr gd (by rfl) (pa_cons (pv 2) (pa_cons (pe_ix (r := rIxT K) ix_tup (pv 1) pe_int (fun _ _ => rfl)) (pa_cons (pe_lst (pa_cons (pv 7) pa_nil)) pa_nil)))) (pa_cons (pe_own c_Lspread hr gd (by rfl) (pa_cons (pv 5) (pa_cons (pv 9) pa_nil))) pa_nil))))) pss_nil)
  (pss_cons (ps_if (pt_cmpR op_eq (pv 3) pe_int (nomark _)) (pss_cons (ps_set (i := 10) sc_Lof_brokers.nd rfl (.inl rfl) (pe_own c_reaching hr gd (by rfl) (pa_cons (pv 2) (pa_cons (pe_ix (r := rIxT K) ix_tup (pv 1) pe_int (fun _ _ => rfl)) (pa_cons (pe_lst (pa_cons (pv 7) pa_nil)) pa_nil)))))
  (pss_one (ps_ret (pe_tup (pa_cons (pv 10) (pa_cons (pe_own c_Lspread hr gd (by rfl) (pa_cons (pe_own c_Lback_edges hr gd (by rfl) (pa_cons (pv 5) pa_nil)) (pa_cons (pv 9) pa_nil))) pa_nil)))))) pss_nil)
  (pss_cons (ps_if (pt_cmpR op_eq (pv 3) pe_int (nomark _)) (pss_cons (ps_set (i := 11) sc_Lof_brokers.nd rfl (.inl rfl) (pe_ifExp (pt_cmpR (op_inSK K) (pv 7) (pv 6) (by rfl)) (pe_own c_Lfirst_ways hr gd (by rfl) (pa_cons (pv 5) (pa_cons (pv 7) pa_nil))) pe_dnewK))
  (pss_one (ps_ret (pe_tup (pa_cons (pe_own c_first_way hr gd (by rfl) (pa_cons (pv 2) (pa_cons (pe_ix (r := rIxT K) ix_tup (pv 1) pe_int (fun _ _ => rfl)) (pa_cons (pv 7) (pa_cons (pv 8) pa_nil))))) (pa_cons (pe_dget1 (units1 (by exact hr.units)) (pv 11) (pv 8) ⟨rfl, rfl, rfl, rfl⟩) pa_nil)))))) pss_nil)
  (pss_cons (ps_if (pt_cmpR op_eq (pv 3) pe_int (nomark _)) (pss_one (ps_ret (pe_tup (pa_cons (pe_own c_low_set hr gd (by rfl) (pa_cons (pv 2) (pa_cons (pe_ix (r := rIxT K) ix_tup (pv 1) pe_int (fun _ _ => rfl)) pa_nil))) (pa_cons (pe_own c_Llow hr gd (by rfl) (pa_cons (pv 1) pa_nil)) pa_nil))))) pss_nil)
  (pss_one (ps_ret (pe_tup (pa_cons (pe_own c_high_set hr gd (by rfl) (pa_cons (pv 2) (pa_cons (pe_ix (r := rIxT K) ix_tup (pv 1) pe_int (fun _ _ => rfl)) pa_nil))) (pa_cons (pe_own c_Lhigh hr gd (by rfl) (pa_cons (pv 1) pa_nil)) pa_nil))))))))))))), ?_⟩
  have n10 := bounds_len wd.b1
  have n2 := bounds_two wd.b1
  have len := (bundles_len wd.b2).1
  have same := wd.lo.1
  have al := arcs_len ds rs ls ls.length
  have am := arc_mem (ds := ds) (ls := ls) wd.b2 (by omega) ls.length
  obtain ⟨ob, hob⟩ := hB.at
  obtain ⟨f1, f2, f3, eT, nT, d1, d2, n3, e3⟩ := id wa.ex
  cases d1 with
  | @lst _ bxs _ e1 m1 A =>
  have lA := A.length
  walk_at "xs"
  refine ⟨[b], T, ds, rs, ls, rfl, fun m hm => (by rw [List.mem_singleton] at hm; subst hm; exact hB.at), wa, wd, ?_⟩
  intro H1 g ys qs S1 ng eg Ag so
  have gb : g ∉ [b] := new_out (Same.refl H) hob ng
  have ql : qs.length ≤ 1000 := by rw [so.1.length_eq]; omega
  have rq : ∀ q ∈ qs, 0 ≤ q.2 ∧ q.2 < 10 := fun q0 hq => by
    have := (am q0 (so.1.mem_iff.mp hq)).1
    omega
  walk_at "xs"
  refine ⟨[b], T, ds, rs, ls, rfl, wa.ext (Ext.same S1), wd, ?_⟩
  intro H2 fp S2 nfp efp
  have S12 := S1.trans S2
  have B2 := hB.ext S12
  have fpb : fp ∉ [b] := new_out S1 hob nfp
  walk_at "xs"
  have big : (10 : Nat) < 2 ^ 200 := by decide
  refine x_take B2 (by omega) (by omega) ?_
  intro H3 one E3 B3 o0 o1
  walk_at "xs"
  refine x_take B3 (by omega) (by omega) ?_
  intro H4 oth E4 B4 p0 p1
  have E24 := E3.trans E4
  have E04 := (Ext.same (M := [b]) S12).trans E24
  have efp4 := E24 _ _ fpb efp
  obtain ⟨ob4, hob4⟩ := B4.at
  walk_at "xs"
  intro sl hsl
  have S5 := same_upd hsl (o := .lst [.int one])
  have esl := upd_same (H := H4) (a := sl) (o := .lst [.int one])
  have efp5 := S5 _ _ efp4
  generalize upd H4 sl _ = H5 at *
  walk_at "xs"
  intro L hL
  refine lc_list (K := K) (a := sl) (xs := [one].map V.int) (fun j H' => Same H5 H' ∧ H' L = some (.lst ((([one].take j).filter fun m => decide (m ∈ cI (lsL ds))).map V.int))) ?_ ?_ ?_ ?_
  · exact ⟨same_upd hL, upd_same⟩
  · rintro j H' _ ⟨S, _⟩
    exact SqL.of (S _ _ esl)
  · rintro j v H' hv ⟨S, eL⟩
    obtain ⟨m, hm, rfl⟩ := int_at hv
    have hj := (List.getElem?_eq_some_iff.mp hm).1
    have fs : ([one].take (j + 1)).filter (fun m => decide (m ∈ cI (lsL ds))) = ([one].take j).filter (fun m => decide (m ∈ cI (lsL ds))) ++ (if decide (m ∈ cI (lsL ds)) = true then [m] else []) := by
      rw [List.take_add_one, hm, List.filter_append]
      congr 1
      show List.filter _ [m] = _
      rw [List.filter_cons]
      rfl
    have fl := List.length_filter_le (fun m => decide (m ∈ cI (lsL ds))) ([one].take j)
    rw [List.length_take] at fl
    have hj : j < 1 := hj
    walk_at "xs"
    refine x_wiped rfl ?_
    walk_at "xs"
    refine x_inI (S _ _ efp5) ?_
    walk_at "xs"
    refine x_ite (fun c1 => ?_) (fun c1 => ?_)
    · walk_at "xs"
      refine x_acc eL (by rw [List.length_map, sizeLine_eq]; omega) ?_
      refine ⟨fun z o e => ?_, ?_⟩
      · rw [upd_ne (ne_of_none e hL)]; exact S _ _ e
      · rw [upd_same, fs, if_pos (decide_eq_true c1), List.map_append]; rfl
    · refine ⟨S, ?_⟩
      rw [fs, if_neg (by simpa using c1), List.append_nil]
      exact eL
  rintro H6 ⟨S56, eL⟩
  have tk1 : [one].take ([one].map V.int).length = [one] := rfl
  rw [tk1, lsF_free (ds := ds) (fun m hm => by rw [List.mem_singleton] at hm; omega)] at eL
  have S46 := S5.trans S56
  have E06 := E04.trans (Ext.same S46)
  have B6 := B4.ext S46
  have efp6 := S46 _ _ efp4
  have eg6 : H6 g = some (.lst ys) := (E24.trans (Ext.same S46)) _ _ gb (S2 _ _ eg)
  have Ag6 := Ag.ext ((Ext.same (M := [b]) S2).trans (E24.trans (Ext.same S46)))
  have cl6 := cl.ext E06
  have wa6 := wa.ext E06
  have eT6 := E06 _ _ nT eT
  have e36 := E06 _ _ n3 e3
  have ndF : (lsF ds [one]).Nodup := (by simp : [one].Nodup).filter _
  have rgF : ∀ m ∈ lsF ds [one], 0 ≤ m ∧ m < 10 := fun m hm => by
    have := (List.mem_filter.mp hm).1
    rw [List.mem_singleton] at this
    omega
  have dg6 : Dn [b] H6 (.ref g) (.list (qs.map prD)) := .lst eg6 gb Ag6
  clear E3 E4 S5 S56
  walk_at "xs"
  refine x_ite (fun t1 => ?_) (fun t1 => ?_)
  · walk_at "xs"
    intro hl hhl
    have S7 := same_upd hhl (o := .lst [.int one])
    have ehl := upd_same (H := H6) (a := hl) (o := .lst [.int one])
    have e37 := S7 _ _ e36
    have eL7 := S7 _ _ eL
    have dg7 := dg6.ext (Ext.same S7)
    generalize upd H6 hl _ = H7 at *
    walk_at "xs"
    refine ⟨[b], x, f3, hl, ds, rs, ls, [one], rfl, cl6.ext (Ext.same S7), e37, wd, ehl, fun m hm => (by rw [List.mem_singleton] at hm; omega), (by simp), ?_⟩
    intro H8 r1 ws1 S8 nr1 er1 lr1 ndr1 upr1 mr1
    have eL8 := S8 _ _ eL7
    have dg8 := dg7.ext (Ext.same S8)
    walk_at "xs"
    refine ⟨[b], g, L, qs, lsF ds [one], rfl, dg8, eL8, ndF, rgF, rq, ?_⟩
    intro H9 y1 zs1 S9 ny1 ey1 ll1 nd1 up1 mm1
    obtain rfl : ws1 = zs1 := sort_eq ndr1 nd1 upr1 up1 fun x => (mr1 x).trans ((Rch.perm so.1 x).symm.trans (mm1 x).symm)
    walk_at "xs"
    intro A hA
    have E08 := E06.trans (Ext.same (S7.trans S8))
    exact q _ A (E08.trans (Ext.same (S9.trans (same_upd hA)))) ((((B6.ext S7).ext S8).ext S9).ext (same_upd hA)) (ans_ints hN (E06.trans (Ext.same S7)) (B6.ext S7) nr1 er1 S9 ey1 (same_upd hA) upd_same (ansD_ints (fun m hm => rch_ten rgF rq m ((mm1 m).mp hm)) ll1))
  walk_at "xs"
  refine x_ite (fun t2 => ?_) (fun t2 => ?_)
  · walk_at "xs"
    intro hl hhl
    have S7 := same_upd hhl (o := .lst [.int one])
    have ehl := upd_same (H := H6) (a := hl) (o := .lst [.int one])
    have e37 := S7 _ _ e36
    have eL7 := S7 _ _ eL
    have dg7 := dg6.ext (Ext.same S7)
    generalize upd H6 hl _ = H7 at *
    walk_at "xs"
    refine ⟨[b], x, f3, hl, ds, rs, ls, [one], rfl, cl6.ext (Ext.same S7), e37, wd, ehl, fun m hm => (by rw [List.mem_singleton] at hm; omega), (by simp), ?_⟩
    intro H8 r1 ws1 S8 nr1 er1 lr1 ndr1 upr1 mr1
    have eL8 := S8 _ _ eL7
    have dg8 := dg7.ext (Ext.same S8)
    have rs' : ∀ q ∈ swP qs, 0 ≤ q.2 ∧ q.2 < 10 := fun q0 hq => by
      obtain ⟨p0, hp0, rfl⟩ := List.mem_map.mp hq
      have := (am p0 (so.1.mem_iff.mp hp0)).1
      show 0 ≤ p0.1 ∧ p0.1 < 10
      omega
    walk_at "xs"
    refine ⟨[b], g, qs, rfl, dg8, ql, ?_⟩
    intro H9 g2 S9 ng2 dg2
    have eL9 := S9 _ _ eL8
    walk_at "xs"
    refine ⟨[], g2, L, swP qs, lsF ds [one], rfl, dg2, eL9, ndF, rgF, rs', ?_⟩
    intro H10 y1 zs1 S10 ny1 ey1 ll1 nd1 up1 mm1
    obtain rfl : ws1 = zs1 := sort_eq ndr1 nd1 upr1 up1 fun x => (mr1 x).trans ((Rch.perm (so.1.map _) x).symm.trans (mm1 x).symm)
    walk_at "xs"
    intro A hA
    have E08 := E06.trans (Ext.same (S7.trans S8))
    exact q _ A (E08.trans (Ext.same (S9.trans (S10.trans (same_upd hA))))) (((((B6.ext S7).ext S8).ext S9).ext S10).ext (same_upd hA)) (ans_ints hN (E06.trans (Ext.same S7)) (B6.ext S7) nr1 er1 (S9.trans S10) ey1 (same_upd hA) upd_same (ansD_ints (fun m hm => rch_ten rgF rs' m ((mm1 m).mp hm)) ll1))
  walk_at "xs"
  refine x_ite (fun t3 => ?_) (fun t3 => ?_)
  · have fm : one ∈ cI (lsL ds) ↔ lsB ds one.toNat = true := free_mem o0 (by omega)
    walk_at "xs"
    refine x_inI efp6 ?_
    walk_at "xs"
    refine x_ite (fun c1 => ?ka) (fun c1 => ?kb)
    case' ka =>
      walk_at "xs"
      refine ⟨[b], g, qs, one, rfl, dg6, ql, o0, by omega, rq, ?_⟩
      intro H7 wy kvs S7 nwy ewy fw
      have wor : (lsB ds one.toNat = false ∧ kvs = []) ∨ (lsB ds one.toNat = true ∧ Fwy qs one H7 kvs) := .inr ⟨fm.mp c1, fw⟩
      clear fw
    case' kb =>
      refine x_dnewK ?_
      intro wy nwy
      have S7 := same_upd nwy (o := .dK [])
      have ewy := upd_same (H := H6) (a := wy) (o := .dK [])
      generalize upd H6 wy _ = H7 at *
      obtain ⟨kvs, ekvs⟩ : ∃ kvs : List (Key × V), kvs = [] := ⟨_, rfl⟩
      rw [← ekvs] at ewy
      have wor : (lsB ds one.toNat = false ∧ kvs = []) ∨ (lsB ds one.toNat = true ∧ Fwy qs one H7 kvs) := .inl ⟨by
        cases e : lsB ds one.toNat
        · rfl
        · exact absurd (fm.mpr e) c1, ekvs⟩
      clear ekvs
    all_goals
      obtain ⟨d, dg, sh, sw, ld, dv⟩ := way_get (t := oth) so.1 rq (by omega) (by omega) wor
      have e37 := S7 _ _ e36
      have eT7 := S7 _ _ eT6
      walk_at "xs"
      refine ⟨[b], x, f3, ds, rs, ls, one, oth, rfl, cl6.ext (Ext.same S7), e37, wd, by omega, by omega, ?_⟩
      intro H8 v S8 wv
      have ewy8 := S8 _ _ ewy
      have dv8 := dv N _ _ v (live_b hN (E06.trans (Ext.same S7)) (B6.ext S7)) wv
      walk_at "xs"
      refine x_dget1 ?_
      walk_at "xs"
      refine ⟨wy, rfl, .inl ⟨kvs, .inl ewy8⟩, ?_⟩
      walk_at "xs"
      refine ⟨_, DGet.k (k := .inl oth) ewy8, ?_⟩
      walk_at "xs"
      intro A hA
      have B7 := B6.ext S7
      have dgA := dg.ext (Ext.same (M := []) (S8.trans (same_upd (o := .tup [v, (valV kvs (.inl oth)).getD .non]) hA)))
      have nv : ∀ p, v = .ref p → H7 p = none := fun p e => by
        rcases wv with ⟨_, e'⟩ | ⟨_, ⟨e', _⟩ | ⟨l, w, e1, e2, _⟩⟩
        · rw [e'] at e; cases e
        · rw [e'] at e; cases e
        · rw [e1] at e; cases e; exact e2
      have dvb : Dn N (upd H8 A (.tup [v, (valV kvs (.inl oth)).getD .non])) v d := dv8.ext (Ext.same (same_upd hA))
      exact q _ A (E06.trans (Ext.same (S7.trans (S8.trans (same_upd hA))))) ((B7.ext S8).ext (same_upd hA)) ⟨v, _, d, upd_same, fun p e => fresh_b (E06.trans (Ext.same S7)) B7 (nv p e), dvb, dgA, sh, sw, ld⟩
  walk_at "xs"
  refine x_ite (fun t4 => ?_) (fun t4 => ?_)
  · walk_at "xs"
    refine x_lowS cl6 e36 wd ?_
    intro H7 p1 ms1 S7 n1 e1' is1
    walk_at "xs"
    refine x_lowW (wa6.ext (Ext.same S7)) wd ?_
    intro H8 p2 ms2 S8 n2 e2' is2
    obtain rfl : ms1 = ms2 := is1.one is2 fun _ _ => Iff.rfl
    walk_at "xs"
    intro A hA
    exact q _ A (E06.trans (Ext.same (S7.trans (S8.trans (same_upd hA))))) (((B6.ext S7).ext S8).ext (same_upd hA)) (ans_ints hN E06 B6 n1 e1' S8 e2' (same_upd hA) upd_same (ansD_ints (is1.ten (by omega)) (Nat.le_trans is1.len (by omega))))
  · walk_at "xs"
    refine x_lowS cl6 e36 wd ?_
    intro H7 p1 ms1 S7 n1 e1' is1
    walk_at "xs"
    refine x_lowW (wa6.ext (Ext.same S7)) wd ?_
    intro H8 p2 ms2 S8 n2 e2' is2
    obtain rfl : ms1 = ms2 := is1.one is2 fun _ _ => Iff.rfl
    walk_at "xs"
    intro A hA
    exact q _ A (E06.trans (Ext.same (S7.trans (S8.trans (same_upd hA))))) (((B6.ext S7).ext S8).ext (same_upd hA)) (ans_ints hN E06 B6 n1 e1' S8 e2' (same_upd hA) upd_same (ansD_ints (is1.ten (by omega)) (Nat.le_trans is1.len (by omega))))
end
/-! ### two worlds; what is asked of bundles -/
def Ws (M : List Addr) (H : Hp) (W : Addr) (ds rs : List PyData) (l1 l2 : List Int) : Prop := ∃ T1 T2, H W = some (.lst [.ref T1, .ref T2]) ∧ W ∉ M ∧ WdAt M H T1 ds rs l1 ∧ WdAt M H T2 ds rs l2 ∧ Wd ds rs l1 ∧ Wd ds rs l2
theorem Ws.ext {M : List Addr} {H H' : Hp} {W : Addr} {ds rs : List PyData} {l1 l2 : List Int} (h : Ws M H W ds rs l1 l2) (e : Ext M H H') : Ws M H' W ds rs l1 l2 := by
  obtain ⟨T1, T2, h1, h2, h3, h4, h5, h6⟩ := h
  exact ⟨T1, T2, e _ _ h2 h1, h2, h3.ext e, h4.ext e, h5, h6⟩
theorem Ws.get {M : List Addr} {H : Hp} {W : Addr} {ds rs : List PyData} {l1 l2 : List Int} (h : Ws M H W ds rs l1 l2) {i : Int} (i0 : 0 ≤ i) (i1 : i < 2) : ∃ xs T ls, H W = some (.lst xs) ∧ W ∉ M ∧ atI xs i = some (.ref T) ∧ WdAt M H T ds rs ls ∧ Wd ds rs ls := by
  obtain ⟨T1, T2, h1, h2, h3, h4, h5, h6⟩ := h
  obtain ⟨u, eu, au⟩ := ix_at h1 i0 (by show i < (2 : Int); omega)
  have hu := List.mem_of_getElem? eu
  simp only [List.mem_cons, List.not_mem_nil, or_false] at hu
  rcases hu with rfl | rfl
  · exact ⟨_, T1, l1, h1, h2, au, h3, h5⟩
  · exact ⟨_, T2, l2, h1, h2, au, h4, h6⟩
theorem BarV.dnM {M : List Addr} {H0 H : Hp} {v : V} {d : PyData} (hM : ∀ m ∈ M, ∃ o, H0 m = some o) (h : BarV H0 H v d) : Dn M H v d := by
  have nm : ∀ p, H0 p = none → p ∉ M := fun p e h => by
    obtain ⟨o, e'⟩ := hM p h
    rw [e] at e'; cases e'
  rcases h with ⟨rfl, rfl⟩ | ⟨t, m, rfl, rfl, n, e⟩ | ⟨t, l, k, ms, rfl, _, rfl, n, e, nl, el⟩
  · exact .non
  · exact .tup e (nm _ n) (.cons (.str _) (.cons (.int _) .nil))
  · exact .tup e (nm _ n) (.cons (.str _) (.cons (.lst el (nm _ nl) (DnAll.ints _)) .nil))
theorem BarV.new {H0 H : Hp} {v : V} {d : PyData} (h : BarV H0 H v d) : ∀ p, v = .ref p → H0 p = none := fun p e => by
  rcases h with ⟨_, rfl⟩ | ⟨t, m, _, rfl, n, _⟩ | ⟨t, l, k, ms, _, _, rfl, n, _⟩
  · cases e
  · cases e; exact n
  · cases e; exact n
theorem ansD_bar {ds rs : List PyData} {ls lo hi : List Int} {n : Nat} {a b c : Int} (wd : Wd ds rs ls) (hr : rs[n]? = some (tupD [a, b, c])) (is1 : LoS ds rs ls lo) (is2 : HiS ds rs ls hi) : AnsD (barK ds lo hi a b) := by
  have n10 := bounds_len wd.b1
  obtain ⟨a0, ab, bn⟩ := row_rng wd hr
  obtain ⟨h1, h2⟩ := bar_shape (ds := ds) (lo := lo) (hi := hi) (small10 (m := a) (by omega)) (small10 (m := b) (by omega)) (is1.small (by omega)) (Nat.le_trans is1.len (by omega)) (is2.small (by omega)) (Nat.le_trans is2.len (by omega))
  refine ⟨h1, h2, fun es e => ?_⟩
  unfold barK at e
  split at e
  · cases e
  · split at e
    · cases e
    · split at e
      · cases e
      · split at e <;> cases e
theorem ansD_frz {ds rs : List PyData} {st : List Int} (h : rs.length ≤ 45) : AnsD (.list ((frL ds rs st).map PyData.int)) := by
  have big : (45 : Nat) < 2 ^ 200 := by decide
  refine ansD_nums (fun m hm => ?_) ?_
  · obtain ⟨i, hi, rfl⟩ := List.mem_map.mp hm
    have := filt_lt i hi
    omega
  · unfold frL
    rw [cI_len]
    have := filt_le (p := frB ds rs st) (List.range rs.length)
    rw [List.length_range] at this
    omega
theorem ansD_bool (r : Bool) : AnsD (.bool r) := ⟨rfl, (sz_bool r).shows (by decide) (by decide), fun es e => by cases e⟩
theorem Thg.ext {H H' : Hp} {n : Nat} {t : Addr} {d : PyData} (h : Thg H n t d) (S : Same H H') : Thg H' n t d := by
  rcases h with ⟨m, e, e'⟩ | ⟨l, k, ms, e, hk, el, e', h1, h2⟩
  · exact .inl ⟨m, S _ _ e, e'⟩
  · exact .inr ⟨l, k, ms, S _ _ e, hk, S _ _ el, e', h1, h2⟩
def spBund (C : Addr) : Sp := fun vs H Q _ => ∃ (N : List Addr) (b c W x : Addr) (i t : Int) (ds rs : List PyData) (l1 l2 : List Int), vs = [.ref b, .ref W, .int i, .ref x, .int t] ∧ (∀ m ∈ N, ∃ o, H m = some o) ∧ Bag H b c ∧ Ws [b] H W ds rs l1 l2 ∧ 0 ≤ i ∧ i < 2 ∧ rs ≠ [] ∧ Clu C [b] H x (.list ds) (.list rs) ∧
  ∀ H' A, Ext [b] H H' → Bag H' b c → Ans N H H' A → Q (.ref A) H'
section
variable {P : Program} {w : World} {K : PySem.W.Frag} {mg : Str → Option Value} {base : Heap} {t0 t1 t2 t3 t4 : Tok} {C : Addr}
theorem kn_bund {k : Nat} (D : Df K mg "_law_of_bundles" s_Lof_bundles) (B : Bl mg) (c_Ltake : Kn P w K mg base "_law_take" k spTake) (c_bar : Kn P w K mg base "bar" k (spBar C)) (c_Lbar : Kn P w K mg base "_law_bar" k spBarW) (c_frozen : Kn P w K mg base "frozen" k (spFrozen C)) (c_Lfrozen : Kn P w K mg base "_law_frozen" k spFrozenW) (c_is_bar : Kn P w K mg base "is_bar" k (spIsBarB C)) (c_Lis_bar : Kn P w K mg base "_law_is_bar" k spIsBar7) : Kn P w K mg base "_law_of_bundles" (k + 1) (spBund C) := by
  refine kn_of D (fun _ _ _ _ _ _ us hl => match us, hl with | [_, _, _, _, _], _ => rfl) sc_Lof_bundles (fun vs H Q E h => by obtain ⟨N, b, c, W, x, i, t, ds, rs, l1, l2, rfl, _⟩ := h; rfl) (fun f cd B' fr z H vs Q E hr gd h => ?_)
  obtain ⟨N, b, c, W, x, i, t, ds, rs, l1, l2, rfl, hN, hB, ws, i0, i1, nr, cl, q⟩ := h
  refine ⟨_, (pss_cons (ps_par (i := 5) (j := 6) (by rfl) sc_Lof_bundles.nd rfl rfl (by decide) rfl rfl (pa_cons (pe_ix (r := rIxL K) ix_list (pv 1) (pv 2) (fun _ _ => rfl)) (pa_cons (pe_own c_Ltake hr gd (by rfl) (pa_cons (pv 0) (pa_cons (pe_callB call_len_seq (by rfl) B.len (by decide +kernel) (pa_cons (pe_ix (r := rIxT K) ix_tup (pe_ix (r := rIxL K) ix_list (pv 1) (pv 2) (fun _ _ => rfl)) pe_int (fun _ _ => rfl)) pa_nil)) pa_nil))) pa_nil)) (by rfl))
  (pss_cons (ps_if (pt_cmpR op_eq (pv 4) pe_int (nomark _)) (pss_one (ps_ret (pe_tup (pa_cons (pe_own c_bar hr gd (by rfl) (pa_cons (pv 3) (pa_cons (pe_ix (r := rIxT K) ix_tup (pv 5) pe_int (fun _ _ => rfl)) (pa_cons (pv 6) pa_nil)))) (pa_cons (pe_own c_Lbar hr gd (by rfl) (pa_cons (pv 5) (pa_cons (pv 6) pa_nil))) pa_nil))))) pss_nil)
  (pss_cons (ps_set (i := 7) sc_Lof_bundles.nd rfl (.inl rfl) (pe_own c_Lbar hr gd (by rfl) (pa_cons (pe_ix (r := rIxL K) ix_list (pv 1) (pe_own c_Ltake hr gd (by rfl) (pa_cons (pv 0) (pa_cons pe_int pa_nil))) (fun _ _ => rfl)) (pa_cons (pv 6) pa_nil))))
  (pss_cons (ps_if (pt_cmpR op_isN (pv 7) pe_non (nomark _)) (pss_cons (ps_set (i := 8) sc_Lof_bundles.nd rfl (.inl rfl) (pe_own c_frozen hr gd (by rfl) (pa_cons (pv 3) (pa_cons (pe_ix (r := rIxT K) ix_tup (pv 5) pe_int (fun _ _ => rfl)) pa_nil))))
  (pss_one (ps_ret (pe_tup (pa_cons (pv 8) (pa_cons (pe_own c_Lfrozen hr gd (by rfl) (pa_cons (pv 5) pa_nil)) pa_nil)))))) pss_nil)
  (pss_cons (ps_set (i := 8) sc_Lof_bundles.nd rfl (.inl rfl) (pe_own c_is_bar hr gd (by rfl) (pa_cons (pv 3) (pa_cons (pe_ix (r := rIxT K) ix_tup (pv 5) pe_int (fun _ _ => rfl)) (pa_cons (pv 6) (pa_cons (pv 7) pa_nil))))))
  (pss_one (ps_ret (pe_tup (pa_cons (pv 8) (pa_cons (pe_own c_Lis_bar hr gd (by rfl) (pa_cons (pv 5) (pa_cons (pv 6) (pa_cons (pv 7) pa_nil)))) pa_nil)))))))))), ?_⟩
  have big : (45 : Nat) < 2 ^ 200 := by decide
  obtain ⟨xs, T, ls, eW, nW, aT, wa, wd⟩ := ws.get i0 i1
  have n10 := bounds_len wd.b1
  have len := (bundles_len wd.b2).1
  obtain ⟨f1, f2, f3, eT, nT, d1, d2, n3, e3⟩ := id wa.ex
  cases d2 with
  | @lst _ rxs _ e2 m2 A2 =>
  have lA := A2.length
  have lp : 0 < rs.length := by
    cases rs with
    | nil => exact absurd rfl nr
    | cons _ _ => simp
  walk_at "xs"
  refine x_ixL (SqL.of eW) aT ?_
  walk_at "xs"
  refine x_ixL (SqL.of eW) aT ?_
  walk_at "xs"
  refine x_take hB (by omega) (by omega) ?_
  intro H1 n E1 B1 n0 n1
  have hn : n.toNat < rs.length := by omega
  obtain ⟨a, b', c', hrow, _⟩ := rows_at wd.b2 (by omega) hn
  obtain ⟨lo, is1⟩ := isSet_ex ds.length (NotR ds (arcsOf ds rs ls ls.length) (upL ds (ldOf ds.length rs ls ls.length)))
  obtain ⟨hi, is2⟩ := isSet_ex ds.length (NotR ds (swP (arcsOf ds rs ls ls.length)) (dnL ds (ldOf ds.length rs ls ls.length)))
  have wa1 := wa.ext E1
  have eT1 := E1 _ _ nT eT
  have e31 := E1 _ _ n3 e3
  have cl1 := cl.ext E1
  have ws1 := ws.ext E1
  have al1 : ∀ m ∈ [b], ∃ o, H1 m = some o := fun m hm => by rw [List.mem_singleton] at hm; subst hm; exact B1.at
  walk_at "xs"
  refine x_ite (fun t1 => ?_) (fun t1 => ?_)
  · walk_at "xs"
    refine ⟨[b], x, f3, n, ds, rs, ls, lo, hi, a, b', c', rfl, cl1, e31, wd, n0, hrow, is1, is2, ?_⟩
    intro H2 v1 S2 bv1
    walk_at "xs"
    refine ⟨[b], T, n, ds, rs, ls, lo, hi, a, b', c', rfl, wa1.ext (Ext.same S2), wd, n0, hrow, is1, is2, ?_⟩
    intro H3 v2 S3 bv2
    walk_at "xs"
    intro A hA
    have SA := same_upd hA (o := .tup [v1, v2])
    exact q _ A (E1.trans (Ext.same (S2.trans (S3.trans SA)))) (((B1.ext S2).ext S3).ext SA) ⟨v1, v2, _, upd_same, fun p e => fresh_b E1 B1 (bv1.new p e), (bv1.dnM (live_b hN E1 B1)).ext (Ext.same (S3.trans SA)), bv2.dn.ext (Ext.same SA), ansD_bar wd hrow is1 is2⟩
  walk_at "xs"
  refine x_take B1 (by decide) (by decide) ?_
  intro H2 u E2 B2 u0 u1
  have E02 := E1.trans E2
  obtain ⟨xs', T', ls', eW', _, aT', wa', wd'⟩ := (ws1.ext E2).get u0 u1
  obtain ⟨lo', is1'⟩ := isSet_ex ds.length (NotR ds (arcsOf ds rs ls' ls'.length) (upL ds (ldOf ds.length rs ls' ls'.length)))
  obtain ⟨hi', is2'⟩ := isSet_ex ds.length (NotR ds (swP (arcsOf ds rs ls' ls'.length)) (dnL ds (ldOf ds.length rs ls' ls'.length)))
  walk_at "xs"
  refine x_ixL (SqL.of eW') aT' ?_
  walk_at "xs"
  refine ⟨[b], T', n, ds, rs, ls', lo', hi', a, b', c', rfl, wa', wd', n0, hrow, is1', is2', ?_⟩
  intro H3 v S3 bv
  have B3 := B2.ext S3
  have E23 := E2.trans (Ext.same S3)
  have E03 := E1.trans E23
  have eT3 := E23 _ _ nT eT1
  have e33 := E23 _ _ n3 e31
  have cl3 := cl1.ext E23
  have wa3 := wa1.ext E23
  have dv := bv.dn
  by_cases hv : v = .non
  · subst hv
    walk_at "xs"
    refine ⟨rfl, _, rfl, ?_⟩
    refine x_ite (fun _ => ?_) (fun h => absurd rfl h)
    walk_at "xs"
    refine ⟨[b], x, f3, ds, rs, ls, lo, hi, rfl, cl3, e33, wd, is1, is2, ?_⟩
    intro H4 l S4 nl el
    have eT4 := S4 _ _ eT3
    walk_at "xs"
    refine ⟨[b], T, ds, rs, ls, lo, hi, rfl, wa3.ext (Ext.same S4), wd, is1, is2, ?_⟩
    intro H5 l2 S5 nl2 el2
    walk_at "xs"
    intro A hA
    exact q _ A (E03.trans (Ext.same (S4.trans (S5.trans (same_upd hA))))) (((B3.ext S4).ext S5).ext (same_upd hA)) (ans_ints hN E03 B3 nl el S5 el2 (same_upd hA) upd_same (ansD_frz len))
  · obtain ⟨t', rfl, th⟩ : ∃ t', v = .ref t' ∧ Thg H3 ds.length t' (barK ds lo' hi' a b') := by
      have key : ∀ (k : Str) (ms : List Int), barK ds lo' hi' a b' = .tuple [.str k, .list (ms.map PyData.int)] → setD (.list (ms.map PyData.int)) ds.length = true ∧ ms.length ≤ 10 := fun k ms e => by
        unfold barK at e
        split at e
        · cases e
        · split at e
          · cases e
          · split at e
            · injection e with e
              injection e with _ e
              injection e with e _
              injection e with e
              obtain rfl := ints_inj e
              exact ⟨is1'.isSet, Nat.le_trans is1'.len (by omega)⟩
            · split at e
              · injection e with e
                injection e with _ e
                injection e with e _
                injection e with e
                obtain rfl := ints_inj e
                exact ⟨is2'.isSet, Nat.le_trans is2'.len (by omega)⟩
              · cases e
      rcases bv with ⟨_, e⟩ | ⟨t', m, e, e', _, et⟩ | ⟨t', l, k, ms, e, hk, e', _, et, _, el⟩
      · exact absurd e hv
      · exact ⟨t', e', .inl ⟨m, et, e⟩⟩
      · exact ⟨t', e', .inr ⟨l, k, ms, et, hk, el, e, (key k ms e).1, (key k ms e).2⟩⟩
    walk_at "xs"
    refine ⟨rfl, _, rfl, ?_⟩
    refine x_ite (fun h => nomatch h) (fun _ => ?_)
    walk_at "xs"
    refine ⟨[b], [], x, f3, n, .ref t', _, ds, rs, ls, a, b', c', rfl, cl3, e33, wd, n0, hrow, dv, ?_⟩
    intro H4 r1 S4 h1
    have eT4 := S4 _ _ eT3
    walk_at "xs"
    refine ⟨[b], T, t', n, _, ds, rs, ls, a, b', c', rfl, wa3.ext (Ext.same S4), wd, n0, hrow, th.ext S4, ?_⟩
    intro H5 r2 S5 h2
    obtain rfl : r1 = r2 := by
      have h := h1.trans h2.symm
      cases r1 <;> cases r2 <;> simp_all
    walk_at "xs"
    intro A hA
    have SA := same_upd hA (o := .tup [.bl r1, .bl r1])
    exact q _ A (E03.trans (Ext.same (S4.trans (S5.trans SA)))) (((B3.ext S4).ext S5).ext SA) ⟨_, _, _, upd_same, fun p e => (by cases e), .bl r1, .bl r1, ansD_bool r1⟩
end
/-! ### what is asked -/
theorem ansD_prs {qs : List (Int × Int)} (h : ∀ p ∈ qs, 0 ≤ p.1 ∧ p.1 < 10 ∧ 0 ≤ p.2 ∧ p.2 < 10) (n : qs.length ≤ 100) : AnsD (.list (qs.map prD)) :=
  ⟨shaped_tups (prs_tups qs), prs_shows h n, fun es e => by cases e; rw [List.length_map]; omega⟩
theorem up_rng' {ds : List PyData} {hs : List Int} {x : Int} (h : x ∈ upL ds hs) : ∃ k : Nat, k < ds.length ∧ x = (k : Nat) := by
  obtain ⟨i, hi, rfl⟩ := List.mem_map.mp h
  exact ⟨i, filt_lt i hi, rfl⟩
theorem dn_rng' {ds : List PyData} {hs : List Int} {x : Int} (h : x ∈ dnL ds hs) : ∃ k : Nat, k < ds.length ∧ x = (k : Nat) := by
  obtain ⟨i, hi, rfl⟩ := List.mem_map.mp h
  exact ⟨i, filt_lt i hi, rfl⟩
/-- a list of pairs, told and due -/
theorem ans_prs {N : List Addr} {b c : Addr} {H H1 H2 H3 H4 : Hp} {A p1 p2 : Addr} {xs ys : List V} {qs : List (Int × Int)} (hN : ∀ m ∈ N, ∃ o, H m = some o) (E1 : Ext [b] H H1) (B1 : Bag H1 b c) (n1 : H1 p1 = none) (e1 : H2 p1 = some (.lst xs)) (A1 : DnAll N H2 xs (qs.map prD)) (S3 : Same H2 H3) (e2 : H3 p2 = some (.lst ys)) (A2 : DnAll [b] H3 ys (qs.map prD)) (S4 : Same H3 H4) (eA : H4 A = some (.tup [.ref p1, .ref p2]))
    (ad : AnsD (.list (qs.map prD))) : Ans N H H4 A :=
  ⟨.ref p1, .ref p2, _, eA, fun p e => (by cases e; exact fresh_b E1 B1 n1), .lst (S4 _ _ (S3 _ _ e1)) (out_b hN E1 B1 n1) (A1.ext (Ext.same (S3.trans S4))), .lst (S4 _ _ e2) (by simp) ((A2.sub (by simp)).ext (Ext.same S4)), ad⟩
theorem x_brok {C : Addr} {H : Hp} {Q : VK} {E : XK} {N : List Addr} {b c T x : Addr} {t : Int} {ds rs : List PyData} {ls : List Int} (hN : ∀ m ∈ N, ∃ o, H m = some o) (hB : Bag H b c) (wa : WdAt [b] H T ds rs ls) (wd : Wd ds rs ls) (cl : Clu C [b] H x (.list ds) (.list rs)) (h0 : 0 ≤ t) (h5 : t < 5) (h : ∀ H' A, Ext [b] H H' → Bag H' b c → Ans N H H' A → Q (.ref A) H') : spBrok C [.ref b, .ref T, .ref x, .int t] H Q E := ⟨N, b, c, T, x, t, ds, rs, ls, rfl, hN, hB, wa, wd, cl, h0, h5, h⟩
theorem x_bund {C : Addr} {H : Hp} {Q : VK} {E : XK} {N : List Addr} {b c W x : Addr} {i t : Int} {ds rs : List PyData} {l1 l2 : List Int} (hN : ∀ m ∈ N, ∃ o, H m = some o) (hB : Bag H b c) (ws : Ws [b] H W ds rs l1 l2) (i0 : 0 ≤ i) (i1 : i < 2) (nr : rs ≠ []) (cl : Clu C [b] H x (.list ds) (.list rs)) (h : ∀ H' A, Ext [b] H H' → Bag H' b c → Ans N H H' A → Q (.ref A) H') : spBund C [.ref b, .ref W, .int i, .ref x, .int t] H Q E := ⟨N, b, c, W, x, i, t, ds, rs, l1, l2, rfl, hN, hB, ws, i0, i1, nr, cl, h⟩
theorem Ans.back {N : List Addr} {b c : Addr} {H H1 H2 : Hp} {A : Addr} (E : Ext [b] H H1) (B : Bag H1 b c) (a : Ans N H1 H2 A) : Ans N H H2 A := by
  obtain ⟨v1, v2, d, e, n, h1, h2, h3⟩ := a
  exact ⟨v1, v2, d, e, fun p hp => fresh_b E B (n p hp), h1, h2, h3⟩
def spAsk (C : Addr) : Sp := fun vs H Q _ => ∃ (N : List Addr) (b c W x : Addr) (i : Int) (ds rs : List PyData) (l1 l2 : List Int), vs = [.ref b, .ref W, .int i, .ref x] ∧ (∀ m ∈ N, ∃ o, H m = some o) ∧ Bag H b c ∧ Ws [b] H W ds rs l1 l2 ∧ 0 ≤ i ∧ i < 2 ∧ Clu C [b] H x (.list ds) (.list rs) ∧
  ∀ H' A, Ext [b] H H' → Bag H' b c → Ans N H H' A → Q (.ref A) H'
section
variable {P : Program} {w : World} {K : PySem.W.Frag} {mg : Str → Option Value} {base : Heap} {t0 t1 t2 t3 t4 : Tok} {C : Addr}
theorem kn_ask {k : Nat} (D : Df K mg "_law_asked" s_Lasked) (B : Bl mg) (c_Ltake : Kn P w K mg base "_law_take" k spTake) (c_Lof_brokers : Kn P w K mg base "_law_of_brokers" k (spBrok C)) (c_Lof_bundles : Kn P w K mg base "_law_of_bundles" k (spBund C)) (c_givers : Kn P w K mg base "givers" k (spNumsP C upL)) (c_takers : Kn P w K mg base "takers" k (spNumsP C dnL)) (c_Labove : Kn P w K mg base "_law_above" k (spNums upL)) (c_Lbelow : Kn P w K mg base "_law_below" k (spNums dnL)) (c_arcs : Kn P w K mg base "arcs" k (spArcs C)) (c_Ledges : Kn P w K mg base "_law_edges" k spEdges) (c_legal : Kn P w K mg base "legal" k (spLegal C)) (c_Lsteps : Kn P w K mg base "_law_steps" k spStepsE) (c_frozen : Kn P w K mg base "frozen" k (spFrozen C)) (c_Lfrozen : Kn P w K mg base "_law_frozen" k spFrozenW) : Kn P w K mg base "_law_asked" (k + 1) (spAsk C) := by
  refine kn_of D (fun _ _ _ _ _ _ us hl => match us, hl with | [_, _, _, _], _ => rfl) sc_Lasked (fun vs H Q E h => by obtain ⟨N, b, c, W, x, i, ds, rs, l1, l2, rfl, _⟩ := h; rfl) (fun f cd B' fr z H vs Q E hr gd h => ?_)
  obtain ⟨N, b, c, W, x, i, ds, rs, l1, l2, rfl, hN, hB, ws, i0, i1, cl, q⟩ := h
  refine ⟨_, (pss_cons (ps_par (i := 4) (j := 5) (by rfl) sc_Lasked.nd rfl rfl (by decide) rfl rfl (pa_cons (pe_ix (r := rIxL K) ix_list (pv 1) (pv 2) (fun _ _ => rfl)) (pa_cons (pe_own c_Ltake hr gd (by rfl) (pa_cons (pv 0) (pa_cons pe_int pa_nil))) pa_nil)) (by rfl))
  (pss_cons (ps_if (pt_cmpR op_lt (pv 5) pe_int (nomark _)) (pss_one (ps_ret (pe_own c_Lof_brokers hr gd (by rfl) (pa_cons (pv 0) (pa_cons (pv 4) (pa_cons (pv 3) (pa_cons (pv 5) pa_nil))))))) pss_nil)
  (pss_cons (ps_if (PW.pt (pw_and (pt_cmpR op_lt (pv 5) pe_int (nomark _)) (pw_and1 (pt_cmpR (op_neD hr.units) (pe_ix (r := rIxT K) ix_tup (pv 4) pe_int (fun _ _ => rfl)) (pe_lst pa_nil) (nomark _))))) (pss_one (ps_ret (pe_own c_Lof_bundles hr gd (by rfl) (pa_cons (pv 0) (pa_cons (pv 1) (pa_cons (pv 2) (pa_cons (pv 3) (pa_cons (pe_op op_mod (pv 5) pe_int) pa_nil)))))))) pss_nil)
  (pss_cons (ps_if (pt_cmpR op_eq (pv 5) pe_int (nomark _)) (pss_one (ps_ret (pe_tup (pa_cons (pe_own c_givers hr gd (by rfl) (pa_cons (pv 3) (pa_cons (pe_ix (r := rIxT K) ix_tup (pv 4) pe_int (fun _ _ => rfl)) pa_nil))) (pa_cons (pe_own c_Labove hr gd (by rfl) (pa_cons (pv 4) pa_nil)) pa_nil))))) pss_nil)
  (pss_cons (ps_if (pt_cmpR op_eq (pv 5) pe_int (nomark _)) (pss_one (ps_ret (pe_tup (pa_cons (pe_own c_takers hr gd (by rfl) (pa_cons (pv 3) (pa_cons (pe_ix (r := rIxT K) ix_tup (pv 4) pe_int (fun _ _ => rfl)) pa_nil))) (pa_cons (pe_own c_Lbelow hr gd (by rfl) (pa_cons (pv 4) pa_nil)) pa_nil))))) pss_nil)
  (pss_cons (ps_if (pt_cmpR op_eq (pv 5) pe_int (nomark _)) (pss_one (ps_ret (pe_tup (pa_cons (pe_own c_arcs hr gd (by rfl) (pa_cons (pv 3) (pa_cons (pe_ix (r := rIxT K) ix_tup (pv 4) pe_int (fun _ _ => rfl)) pa_nil))) (pa_cons (pe_own c_Ledges hr gd (by rfl) (pa_cons (pv 4) pa_nil)) pa_nil))))) pss_nil)
  (pss_cons (ps_if (pt_cmpR op_eq (pv 5) pe_int (nomark _)) (pss_one (ps_ret (pe_tup (pa_cons (pe_own c_legal hr gd (by rfl) (pa_cons (pv 3) (pa_cons (pe_ix (r := rIxT K) ix_tup (pv 4) pe_int (fun _ _ => rfl)) pa_nil))) (pa_cons (pe_own c_Lsteps hr gd (by rfl) (pa_cons (pv 4) pa_nil)) pa_nil))))) pss_nil)
  (pss_one (ps_ret (pe_tup (pa_cons (pe_own c_frozen hr gd (by rfl) (pa_cons (pv 3) (pa_cons (pe_ix (r := rIxT K) ix_tup (pv 4) pe_int (fun _ _ => rfl)) pa_nil))) (pa_cons (pe_own c_Lfrozen hr gd (by rfl) (pa_cons (pv 4) pa_nil)) pa_nil)))))))))))), ?_⟩
  obtain ⟨xs, T, ls, eW, nW, aT, wa, wd⟩ := ws.get i0 i1
  have n10 := bounds_len wd.b1
  have len := (bundles_len wd.b2).1
  have same := wd.lo.1
  have al := arcs_len ds rs ls ls.length
  have am := arc_mem (ds := ds) (ls := ls) wd.b2 (by omega) ls.length
  walk_at "xs"
  refine x_ixL (SqL.of eW) aT ?_
  walk_at "xs"
  refine x_take hB (by decide) (by decide) ?_
  intro H1 t E1 B1 t0' t14
  have ws1 := ws.ext E1
  have wa1 := wa.ext E1
  have cl1 := cl.ext E1
  walk_at "xs"
  refine x_ite (fun c5 => ?_) (fun c5 => ?_)
  · walk_at "xs"
    refine x_brok (live_b hN E1 B1) B1 wa1 wd cl1 t0' c5 ?_
    intro H2 A E2 B2 an
    exact q _ A (E1.trans E2) B2 (an.back E1 B1)
  obtain ⟨f1, f2, f3, eT, nT, d1, d2, n3, e3⟩ := id wa1.ex
  cases d2 with
  | @lst _ rxs _ e2 m2 A2 =>
  walk_at "xs"
  refine x_ite (fun c9 => ?ka) (fun c9 => ?kb)
  case' ka =>
    walk_at "xs"
    intro p hp
    have S2 := same_upd hp (o := .lst [])
    have ep := upd_same (H := H1) (a := p) (o := .lst [])
    generalize upd H1 p _ = H2 at *
    refine x_neDn (M := [b]) (N := []) (.lst (S2 _ _ e2) m2 (A2.ext (Ext.same S2))) (.lst ep (by simp) .nil) (shaped_tups (bundles_tups wd.b2)) rfl ?_
    rw [eqv_nil'']
    refine ⟨_, rfl, ?_⟩
    refine x_iteN (fun nr => ?_) (fun nr => ?_)
    · walk_at "xs"
      refine x_bund (live_b hN (E1.trans (Ext.same S2)) (B1.ext S2)) (B1.ext S2) (ws1.ext (Ext.same S2)) i0 i1 nr (cl1.ext (Ext.same S2)) ?_
      intro H3 A E3 B3 an
      exact q _ A ((E1.trans (Ext.same S2)).trans E3) B3 (an.back (E1.trans (Ext.same S2)) (B1.ext S2))
    clear ep hp nr
  case' kb =>
    obtain ⟨H2, S2, eH⟩ : ∃ H2, Same H1 H2 ∧ H2 = H1 := ⟨H1, Same.refl _, rfl⟩
    rw [← eH]
    clear eH
  all_goals
    have E2 := E1.trans (Ext.same S2)
    have B2 := B1.ext S2
    have eT2 := S2 _ _ eT
    have e32 := S2 _ _ e3
    have cl2 := cl1.ext (Ext.same S2)
    have wa2 := wa1.ext (Ext.same S2)
    have al2 : ∀ m ∈ [b], ∃ o, H2 m = some o := fun m hm => by rw [List.mem_singleton] at hm; subst hm; exact B2.at
    clear eT
    walk_at "xs"
    refine x_ite (fun c1 => ?_) (fun c1 => ?_)
    · walk_at "xs"
      refine ⟨x, f3, [b], ds, rs, ls, rfl, cl2, e32, wd, ?_⟩
      intro H3 g1 S3 n1 e1
      have wa3 := wa2.ext (Ext.same S3)
      have eT3 := S3 _ _ eT2
      walk_at "xs"
      refine ⟨[b], T, ds, rs, ls, rfl, wa3, wd, ?_⟩
      intro H4 g2 S4 n2 e4
      walk_at "xs"
      intro A hA
      exact q _ A (E2.trans (Ext.same (S3.trans (S4.trans (same_upd hA))))) (((B2.ext S3).ext S4).ext (same_upd hA)) (ans_ints hN E2 B2 n1 e1 S4 e4 (same_upd hA) upd_same (ansD_ints (fun m hm => by obtain ⟨k, hk, rfl⟩ := up_rng' hm; omega) (Nat.le_trans (upL_len _ _) n10)))
    walk_at "xs"
    refine x_ite (fun c1 => ?_) (fun c1 => ?_)
    · walk_at "xs"
      refine ⟨x, f3, [b], ds, rs, ls, rfl, cl2, e32, wd, ?_⟩
      intro H3 g1 S3 n1 e1
      have wa3 := wa2.ext (Ext.same S3)
      have eT3 := S3 _ _ eT2
      walk_at "xs"
      refine ⟨[b], T, ds, rs, ls, rfl, wa3, wd, ?_⟩
      intro H4 g2 S4 n2 e4
      walk_at "xs"
      intro A hA
      exact q _ A (E2.trans (Ext.same (S3.trans (S4.trans (same_upd hA))))) (((B2.ext S3).ext S4).ext (same_upd hA)) (ans_ints hN E2 B2 n1 e1 S4 e4 (same_upd hA) upd_same (ansD_ints (fun m hm => by obtain ⟨k, hk, rfl⟩ := dn_rng' hm; omega) (Nat.le_trans (dnL_len _ _) n10)))
    walk_at "xs"
    refine x_ite (fun c1 => ?_) (fun c1 => ?_)
    · walk_at "xs"
      refine ⟨x, f3, [b], N, ds, rs, ls, rfl, cl2, e32, wd, live_b hN E2 B2, ?_⟩
      intro H3 g1 ys1 qs1 S3 n1 e1 Ag1 so1
      have wa3 := wa2.ext (Ext.same S3)
      have eT3 := S3 _ _ eT2
      walk_at "xs"
      refine ⟨[b], T, ds, rs, ls, rfl, fun m hm => (by obtain ⟨o, e⟩ := al2 m hm; exact ⟨o, S3 _ _ e⟩), wa3, wd, ?_⟩
      intro H4 g2 ys2 qs2 S4 n2 e4 Ag2 so2
      obtain rfl := SrtOf.one so1 so2
      walk_at "xs"
      intro A hA
      exact q _ A (E2.trans (Ext.same (S3.trans (S4.trans (same_upd hA))))) (((B2.ext S3).ext S4).ext (same_upd hA)) (ans_prs hN E2 B2 n1 e1 Ag1 S4 e4 Ag2 (same_upd hA) upd_same (ansD_prs (fun p hp => by have := (am p (so1.1.mem_iff.mp hp)).1; omega) (by rw [so1.1.length_eq]; omega)))
    walk_at "xs"
    refine x_ite (fun c1 => ?_) (fun c1 => ?_)
    · walk_at "xs"
      refine ⟨x, f3, [b], N, ds, rs, ls, rfl, cl2, e32, wd.b1, wd.b2, same, live_b hN E2 B2, ?_⟩
      intro H3 g1 ys1 qs1 S3 n1 e1 Ag1 so1
      have wa3 := wa2.ext (Ext.same S3)
      have eT3 := S3 _ _ eT2
      walk_at "xs"
      refine ⟨[b], T, ds, rs, ls, rfl, fun m hm => (by obtain ⟨o, e⟩ := al2 m hm; exact ⟨o, S3 _ _ e⟩), wa3, wd, ?_⟩
      intro H4 g2 ys2 qs2 S4 n2 e4 Ag2 so2
      obtain rfl := leg_srt wd so2 so1
      walk_at "xs"
      intro A hA
      exact q _ A (E2.trans (Ext.same (S3.trans (S4.trans (same_upd hA))))) (((B2.ext S3).ext S4).ext (same_upd hA)) (ans_prs hN E2 B2 n1 e1 Ag1 S4 e4 Ag2 (same_upd hA) upd_same (ansD_prs (fun p hp => by have := (am p (so2.1.mem_iff.mp (List.mem_filter.mp hp).1)).1; omega) (Nat.le_trans (List.length_filter_le _ _) (by rw [so2.1.length_eq]; omega))))
    obtain ⟨lo, is1⟩ := isSet_ex ds.length (NotR ds (arcsOf ds rs ls ls.length) (upL ds (ldOf ds.length rs ls ls.length)))
    obtain ⟨hi, is2⟩ := isSet_ex ds.length (NotR ds (swP (arcsOf ds rs ls ls.length)) (dnL ds (ldOf ds.length rs ls ls.length)))
    walk_at "xs"
    refine ⟨[b], x, f3, ds, rs, ls, lo, hi, rfl, cl2, e32, wd, is1, is2, ?_⟩
    intro H4 l S4 nl el
    have eT4 := S4 _ _ eT2
    walk_at "xs"
    refine ⟨[b], T, ds, rs, ls, lo, hi, rfl, wa2.ext (Ext.same S4), wd, is1, is2, ?_⟩
    intro H5 l2' S5 nl2 el2
    walk_at "xs"
    intro A hA
    exact q _ A (E2.trans (Ext.same (S4.trans (S5.trans (same_upd hA))))) (((B2.ext S4).ext S5).ext (same_upd hA)) (ans_ints hN E2 B2 nl el S5 el2 (same_upd hA) upd_same (ansD_frz len))
end
/-! ### the law -/
def spLaw (K : PySem.W.Frag) : Sp := fun vs H Q _ => ∃ (a : Addr) (ns : List Int), vs = [.ref a] ∧ SqL K H a (ns.map V.int) ∧ ∀ H', Q (.bl true) H'
theorem x_bag {K : PySem.W.Frag} {H : Hp} {Q : VK} {E : XK} {a : Addr} {ns : List Int} (ha : SqL K H a (ns.map V.int)) (h : ∀ H' b c, Same H H' → H b = none → Bag H' b c → Q (.ref b) H') : spBag K [.ref a] H Q E := ⟨a, ns, rfl, ha, h⟩
theorem x_cluW {C : Addr} {H : Hp} {Q : VK} {E : XK} {M : List Addr} {T : Addr} {ds rs : List PyData} {ls : List Int} (hM : ∀ m ∈ M, ∃ o, H m = some o) (wa : WdAt M H T ds rs ls) (wd : Wd ds rs ls) (h : ∀ H' x, Same H H' → H x = none → Clu C M H' x (.list ds) (.list rs) → Q (.ref x) H') : spCluW C [.ref T] H Q E := ⟨M, T, ds, rs, ls, rfl, hM, wa, wd, h⟩
theorem x_ask {C : Addr} {H : Hp} {Q : VK} {E : XK} {N : List Addr} {b c W x : Addr} {i : Int} {ds rs : List PyData} {l1 l2 : List Int} (hN : ∀ m ∈ N, ∃ o, H m = some o) (hB : Bag H b c) (ws : Ws [b] H W ds rs l1 l2) (i0 : 0 ≤ i) (i1 : i < 2) (cl : Clu C [b] H x (.list ds) (.list rs)) (h : ∀ H' A, Ext [b] H H' → Bag H' b c → Ans N H H' A → Q (.ref A) H') : spAsk C [.ref b, .ref W, .int i, .ref x] H Q E := ⟨N, b, c, W, x, i, ds, rs, l1, l2, rfl, hN, hB, ws, i0, i1, cl, h⟩
theorem al1 {H : Hp} {b c : Addr} (hB : Bag H b c) : ∀ m ∈ [b], ∃ o, H m = some o := fun m hm => by simp at hm; subst hm; exact hB.at
theorem x_isY {K : PySem.W.Frag} {H : Hp} {Q : VK} {x : V} {T T0 : String} {b : Bool} (ty : TyX K H x (.type T0)) (e : kitB T0 T = some b) (h : Q (.bl b) H) : rIsi K [x, .ty T] H Q := ⟨x, .ty T, .type T0, .type T, b, rfl, .ty T, ty, kit_ty e, h⟩
theorem WdAt.more {M : List Addr} {H : Hp} {T p : Addr} {ds rs : List PyData} {ls : List Int} (hp : H p = none) (w : WdAt M H T ds rs ls) : WdAt (p :: M) H T ds rs ls := by
  obtain ⟨f1, f2, f3, h1, h2, h3, h4, h5, h6⟩ := w.ex
  have nm : ∀ q o, q ∉ M → H q = some o → q ∉ p :: M := fun q o h e m => by
    rcases List.mem_cons.mp m with rfl | m
    · rw [hp] at e; cases e
    · exact h m
  exact ⟨f1, f2, f3, h1, nm _ _ h2 h1, h3.more hp, h4.more hp, nm _ _ h5 h6, h6⟩
theorem Clu.more {C : Addr} {M : List Addr} {H : Hp} {x p : Addr} {d1 d2 : PyData} (hp : H p = none) (c : Clu C M H x d1 d2) : Clu C (p :: M) H x d1 d2 := by
  obtain ⟨dx, B, U, N, kvs, h1, h2, h3, h4, h5, h6, h7⟩ := c
  have nm : ∀ q o, q ∉ M → H q = some o → q ∉ p :: M := fun q o h e m => by
    rcases List.mem_cons.mp m with rfl | m
    · rw [hp] at e; cases e
    · exact h m
  exact ⟨dx, B, U, N, kvs, h1, nm _ _ h2 h1, h3.more hp, h4.more hp, h5, nm _ _ h6 h5, h7⟩
theorem Clu.sub {C : Addr} {M N : List Addr} {H : Hp} {x : Addr} {d1 d2 : PyData} (h : ∀ a, a ∈ N → a ∈ M) (c : Clu C M H x d1 d2) : Clu C N H x d1 d2 := by
  obtain ⟨dx, B, U, Nn, kvs, h1, h2, h3, h4, h5, h6, h7⟩ := c
  exact ⟨dx, B, U, Nn, kvs, h1, fun m => h2 (h _ m), h3.sub h, h4.sub h, h5, fun m => h6 (h _ m), h7⟩
theorem Ws.sub {M N : List Addr} {H : Hp} {W : Addr} {ds rs : List PyData} {l1 l2 : List Int} (h : ∀ a, a ∈ N → a ∈ M) (s : Ws M H W ds rs l1 l2) : Ws N H W ds rs l1 l2 := by
  obtain ⟨T1, T2, h1, h2, h3, h4, h5, h6⟩ := s
  exact ⟨T1, T2, h1, fun m => h2 (h _ m), h3.sub h, h4.sub h, h5, h6⟩
theorem Bag.put {b c p : Addr} {H : Hp} {o : HO} (h : Bag H b c) (n : p ≠ b) (m : p ≠ c) : Bag (upd H p o) b c := by
  obtain ⟨x, y, k, cs, e1, e2, h⟩ := h
  exact ⟨x, y, k, cs, by rw [upd_ne n.symm]; exact e1, by rw [upd_ne m.symm]; exact e2, h⟩
theorem freshN {N : List Addr} {H H1 : Hp} {p : Addr} (hN : ∀ m ∈ N, ∃ o, H1 m = some o) (E : Ext N H H1) (n : H1 p = none) : H p = none := by
  cases e : H p with
  | none => rfl
  | some o =>
    by_cases h : p ∈ N
    · obtain ⟨o', e'⟩ := hN p h
      rw [n] at e'; cases e'
    · rw [E _ _ h e] at n; cases n
/-- a row of what is kept: an answer and how the due one showed -/
def Row (N : List Addr) (H0 H : Hp) (r : V) : Prop := ∃ p v d, r = .ref p ∧ H p = some (.tup [v, .str d.shown]) ∧ p ∉ N ∧ (∀ p, v = .ref p → H0 p = none) ∧ Dn N H v d ∧ AnsD d
theorem Row.ext {N : List Addr} {H0 H H' : Hp} {r : V} (h : Row N H0 H r) (e : Ext N H H') : Row N H0 H' r := by
  obtain ⟨p, v, d, h1, h2, h3, h4, h5, h6⟩ := h
  exact ⟨p, v, d, h1, e _ _ h3 h2, h3, h4, h5.ext e, h6⟩
/-- all of H1 stands in H, but lists that were not in H0 may have grown -/
def Grew (H0 H1 H : Hp) (j : Nat) : Prop := ∀ z o, H1 z = some o → H z = some o ∨ (H0 z = none ∧ ∃ xs ys, o = .lst xs ∧ H z = some (.lst ys) ∧ ys.length ≤ xs.length + j)
theorem Grew.refl {H0 H1 : Hp} (j : Nat) : Grew H0 H1 H1 j := fun z o e => .inl e
theorem Grew.kept {H0 H1 H : Hp} {j : Nat} (g : Grew H0 H1 H j) {z : Addr} {o o' : HO} (e : H1 z = some o) (n : H0 z = some o') : H z = some o := by
  rcases g z o e with h | ⟨h, _⟩
  · exact h
  · rw [n] at h; cases h
theorem Grew.tup {H0 H1 H : Hp} {j : Nat} (g : Grew H0 H1 H j) {z : Addr} {xs : List V} (e : H1 z = some (.tup xs)) : H z = some (.tup xs) := by
  rcases g z _ e with h | ⟨_, xs, ys, h, _⟩
  · exact h
  · cases h
theorem Grew.lst {H0 H1 H : Hp} {j : Nat} (g : Grew H0 H1 H j) {z : Addr} {xs : List V} (e : H1 z = some (.lst xs)) : ∃ ys, H z = some (.lst ys) ∧ ys.length ≤ xs.length + j := by
  rcases g z _ e with h | ⟨_, xs, ys, h, h1, h2⟩
  · exact ⟨xs, h, by omega⟩
  · cases h; exact ⟨ys, h1, h2⟩
theorem Grew.step {H0 H1 H : Hp} {j : Nat} (g : Grew H0 H1 H j) : Grew H0 H1 H (j + 1) := fun z o e => by
  rcases g z o e with h | ⟨h, xs, ys, h1, h2, h3⟩
  · exact .inl h
  · exact .inr ⟨h, xs, ys, h1, h2, by omega⟩
theorem Grew.put {H0 H1 H : Hp} {j : Nat} (g : Grew H0 H1 H j) {z : Addr} {xs ys : List V} (n : H0 z = none) (e : H1 z = some (.lst xs)) (e' : H z = some (.lst ys)) (l : ys.length ≤ xs.length + j) (v : V) : Grew H0 H1 (upd H z (.lst (ys ++ [v]))) (j + 1) := fun y o h => by
  by_cases hy : y = z
  · subst hy
    rw [e] at h
    cases h
    exact .inr ⟨n, xs, _, rfl, upd_same, by rw [List.length_append]; show _ + 1 ≤ _; omega⟩
  · rw [upd_ne hy]
    exact g.step y o h
theorem nil_nil {K : PySem.W.Frag} {H : Hp} {Q : VK} {p q : Addr} (hp : H p = some (.lst [])) (hq : H q = some (.lst [])) (h : Q (.bl false) H) : rNeD K (.ref p) (.ref q) H Q :=
  x_neDn (M := []) (N := []) (d := .list []) (e := .list []) (.lst hp (by simp) .nil) (.lst hq (by simp) .nil) rfl rfl h
section
variable {P : Program} {w : World} {K : PySem.W.Frag} {mg : Str → Option Value} {t0 t1 t2 t3 t4 : Tok} {C : Addr}
theorem ok_law {base : Heap} (B : Bl mg) (cc : Cc K mg C) (sys : ∃ o, base.get? sysModules = some o) {k : Nat}
    (c_Lbag : Kn P w K mg base "_law_bag" (k + 1) (spBag K)) (c_Ltake : Kn P w K mg base "_law_take" (k + 1) spTake) (c_Lcluster : Kn P w K mg base "_law_cluster" (k + 1) (spCluW C)) (c_Ltwins : Kn P w K mg base "_law_twins" (k + 1) spTwins) (c_Lasked : Kn P w K mg base "_law_asked" (k + 1) (spAsk C)) (c_Lalike : Kn P w K mg base "_law_alike" (k + 1) spAlike)
    (f : Addr) (cd : Value) (B' : Around) (fr : List Env) (z : Shared) (H : Hp) (vs : List V) (Q : VK) (E : XK)
    (hr : Room (k + 1) (B'.deeper (envOfC "law" (defScope s_law) z.heap.objs.size f cd))) (gd : (B'.deeper (envOfC "law" (defScope s_law) z.heap.objs.size f cd)).guards = some []) (h : spLaw K vs H Q E) :
    ∃ t, PSs (bodyX P w K mg base ["_law_script", "_law_bag_here", "_law_k", "_law_world_here", "_law_other", "_law_cluster_here", "_law_kept", "_law_worlds", "_law_turn", "_law_told", "_law_due", "_law_shown", "_law_elder"] "law" s_law f cd B' fr z H E) (defBody s_law) t ∧
      t { nx := fun _ H' => Q .non H', rt := Q } (start ["_law_script", "_law_bag_here", "_law_k", "_law_world_here", "_law_other", "_law_cluster_here", "_law_kept", "_law_worlds", "_law_turn", "_law_told", "_law_due", "_law_shown", "_law_elder"] vs) H := by
  obtain ⟨a, ns, rfl, ha, q⟩ := h
  have c_Cluster := cc.ck
  refine ⟨_, (pss_cons (ps_set (i := 1) sc_law.nd rfl (.inl rfl) (pe_own c_Lbag hr gd (by rfl) (pa_cons (pv 0) pa_nil)))
  (pss_cons (ps_for PassesOwn.never rfl (pi_range1 (by rfl) B.range (pa_cons pe_int pa_nil)) (pg_name (i := 2) sc_law.nd rfl (.inl rfl))
  (pss_cons (ps_asg (pe_own c_Ltwins hr gd (by rfl) (pa_cons (pv 1) (pa_cons pe_int (pa_cons (pe_ix (r := rIxL K) ix_list (pe_lst (pa_cons pe_int (pa_cons (pe_op op_pow pe_int pe_int) pa_nil))) (pe_own c_Ltake hr gd (by rfl) (pa_cons (pv 1) (pa_cons pe_int pa_nil))) (fun _ _ => rfl)) pa_nil)))) (pg_tup (by rfl) (pgs_cons (pg_name (i := 3) sc_law.nd rfl (.inl rfl)) (pgs_cons (pg_name (i := 4) sc_law.nd rfl (.inl rfl)) pgs_nil))))
  (pss_cons (ps_par (i := 5) (j := 6) (by rfl) sc_law.nd rfl rfl (by decide) rfl rfl (pa_cons (pe_own c_Lcluster hr gd (by rfl) (pa_cons (pv 3) pa_nil)) (pa_cons (pe_lst pa_nil) pa_nil)) (by rfl))
  (pss_cons (ps_set (i := 7) sc_law.nd rfl (.inl rfl) (pe_lst (pa_cons (pv 3) (pa_cons (pe_tup (pa_cons (pe_ix (r := rIxT K) ix_tup (pv 3) pe_int (fun _ _ => rfl)) (pa_cons (pe_ix (r := rIxT K) ix_tup (pv 3) pe_int (fun _ _ => rfl)) (pa_cons (pv 4) pa_nil)))) pa_nil))))
  (pss_cons (ps_for PassesOwn.never rfl (pi_range1 (by rfl) B.range (pa_cons pe_int pa_nil)) (pg_name (i := 8) sc_law.nd rfl (.inl rfl))
  (pss_cons (ps_asg (pe_own c_Lasked hr gd (by rfl) (pa_cons (pv 1) (pa_cons (pv 7) (pa_cons (pe_own c_Ltake hr gd (by rfl) (pa_cons (pv 1) (pa_cons pe_int pa_nil))) (pa_cons (pv 5) pa_nil))))) (pg_tup (by rfl) (pgs_cons (pg_name (i := 9) sc_law.nd rfl (.inl rfl)) (pgs_cons (pg_name (i := 10) sc_law.nd rfl (.inl rfl)) pgs_nil))))
  (pss_cons (ps_if (pt_not (pt_val (pe_own c_Lalike hr gd (by rfl) (pa_cons (pv 9) (pa_cons (pv 10) pa_nil))))) (pss_one (ps_ret pe_bl)) pss_nil)
  (pss_cons (ps_expr (pe_bm PySem.F.plainAttrs_list PySem.F.slot_list_append PySem.F.type_list_append mt_append (pv 6) (pa_cons (pe_tup (pa_cons (pv 9) (pa_cons (pe_callB (call_reprD gd hr.units sys) (by rfl) B.repr (by decide +kernel) (pa_cons (pv 10) pa_nil)) pa_nil))) pa_nil)))
  (pss_one (ps_if (pt_cmpR (op_neD hr.units) (pe_lc (own := [("_law_elder", 12), ("_law_shown", 11)]) rfl sc_law.nd (pi_list (pv 6)) (blkOk_by (N := ["_law_script", "_law_bag_here", "_law_k", "_law_world_here", "_law_other", "_law_cluster_here", "_law_kept", "_law_worlds", "_law_turn", "_law_told", "_law_due", "_law_shown", "_law_elder"]) (sc := defScope s_law) (by decide +kernel)) (fun _ _ _ _ _ => (pg_tupK K (n := 2) (pgs_cons (pg_name (i := 12) sc_law.nd rfl (.inl rfl)) (pgs_cons (pg_name (i := 11) sc_law.nd rfl (.inl rfl)) pgs_nil)))) (fun _ _ _ _ _ => (pts_one (pt_cmpR op_ne (pe_callB (call_reprD gd hr.units sys) (by rfl) B.repr (by decide +kernel) (pa_cons (pv 12) pa_nil)) (pv 11) (nomark _)))) (fun _ _ _ _ _ => pe_int)) (pe_lst pa_nil) (nomark _)) (pss_one (ps_ret pe_bl)) pss_nil))))))
  (pss_cons (ps_for PassesOwn.never rfl (pi_list (pv 6)) (pg_tup (by rfl) (pgs_cons (pg_name (i := 9) sc_law.nd rfl (.inl rfl)) (pgs_cons (pg_name (i := 11) sc_law.nd rfl (.inl rfl)) pgs_nil)))
  (pss_one (ps_if (pt_val (pe_callB call_isi (by rfl) B.isinstance (by decide +kernel) (pa_cons (pv 9) (pa_cons (pe_bltn (v := .ty "list") (u := .type "list") (by rfl) B.«list» (by decide +kernel) rfl) pa_nil)))) (pss_one (ps_expr (pe_bm PySem.F.plainAttrs_list PySem.F.slot_list_append PySem.F.type_list_append mt_append (pv 9) (pa_cons pe_int pa_nil)))) pss_nil)))
  (pss_one (ps_for PassesOwn.never rfl (pi_range1 (by rfl) B.range (pa_cons pe_int pa_nil)) (pg_name (i := 8) sc_law.nd rfl (.inl rfl))
  (pss_cons (ps_asg (pe_own c_Lasked hr gd (by rfl) (pa_cons (pv 1) (pa_cons (pv 7) (pa_cons (pe_own c_Ltake hr gd (by rfl) (pa_cons (pv 1) (pa_cons pe_int pa_nil))) (pa_cons (pv 5) pa_nil))))) (pg_tup (by rfl) (pgs_cons (pg_name (i := 9) sc_law.nd rfl (.inl rfl)) (pgs_cons (pg_name (i := 10) sc_law.nd rfl (.inl rfl)) pgs_nil))))
  (pss_one (ps_if (pt_not (pt_val (pe_own c_Lalike hr gd (by rfl) (pa_cons (pv 9) (pa_cons (pv 10) pa_nil))))) (pss_one (ps_ret pe_bl)) pss_nil)))))))))))
  (pss_one (ps_ret pe_bl)))), ?_⟩
  have e18 : (10 : Int) ^ (18 : Int).toNat = 1000000000000000000 := by decide
  walk_at "xs"
  refine x_bag ha ?_
  intro H1 b c S1 nb hB
  walk_at "xs"
  refine for_range (lo := 0) (n := (2 : Int).toNat) (fun i σ' H' => ∃ y2 y3 y4 y5 y6 y7 y8 y9 y10 y11, σ' = [some (.ref a), some (.ref b), y2, y3, y4, y5, y6, y7, y8, y9, y10, y11, none] ∧ Bag H' b c) ?_ ?_ ?_
  · exact ⟨_, _, _, _, _, _, _, _, _, _, rfl, hB⟩
  · rintro i _ H4 hi ⟨y2, y3, y4, y5, y6, y7, y8, y9, y10, y11, rfl, B4⟩
    have hi : i < 2 := hi
    walk_at "xs"
    intro p3 hp3
    have S6 := same_upd hp3 (o := .lst [.int 3, .int (10 ^ (18 : Int).toNat)])
    have e3 := upd_same (H := H4) (a := p3) (o := .lst [.int 3, .int (10 ^ (18 : Int).toNat)])
    have B6 := B4.ext S6
    have np3 : p3 ∉ [b] := B4.ne hp3
    generalize upd H4 p3 _ = H6 at *
    walk_at "xs"
    refine x_take B6 (by decide) (by decide) ?_
    intro H7 v7 E7 B7 a7 c7
    have e3 := E7 _ _ np3 e3
    walk_at "xs"
    obtain ⟨u3, eu3, au3⟩ := ix_at e3 a7 c7
    refine x_ixL (SqL.of e3) au3 ?_
    obtain ⟨wd0, rfl, wd1, wd2⟩ := pick (ms := [3, 10 ^ (18 : Int).toNat]) (lo := 1) (hi := 1000000000000000000) (List.mem_of_getElem? eu3) (by intro m hm; simp only [List.mem_cons, List.not_mem_nil, or_false] at hm; omega)
    walk_at "xs"
    refine x_twins B7 (by decide) (by decide) wd1 wd2 ?_
    intro H8 T0 T o ds rs ls ls2 E8 B8 eT0 nT0 wa no eo wd wd' dm
    walk_at "xs"
    refine x_cluW (M := [b]) (al1 B8) wa wd ?_
    intro H9 x S9 nx cl
    have wa9 := wa.ext (Ext.same S9)
    have eo9 := S9 _ _ eo
    have B9 := B8.ext S9
    walk_at "xs"
    intro kp hkp
    have S10 := same_upd hkp (o := .lst [])
    have ekp := upd_same (H := H9) (a := kp) (o := .lst [])
    have cl10 := (cl.more hkp).ext (Ext.same S10)
    have wa10 := (wa9.more hkp).ext (Ext.same S10)
    have eo10 := S10 _ _ eo9
    have B10 := B9.ext S10
    have nkb : kp ∉ [b] := B9.ne hkp
    have kc := B9.cne hkp
    have ok : o ∉ [kp, b] := fun m => by
      rcases List.mem_cons.mp m with rfl | m
      · rw [hkp] at eo9; cases eo9
      · exact no m
    generalize upd H9 kp _ = H10 at *
    obtain ⟨f1, f2, f3, eT, nT, d1, d2, n3, e3⟩ := id wa10.ex
    walk_at "xs"
    intro t2 ht2
    have S11 := same_upd ht2 (o := .tup [.ref f1, .ref f2, .ref o])
    have et2 := upd_same (H := H10) (a := t2) (o := .tup [.ref f1, .ref f2, .ref o])
    have live10 : ∀ m ∈ [kp, b], ∃ o, H10 m = some o := fun m hm => by
      rcases List.mem_cons.mp hm with rfl | hm
      · exact ⟨_, ekp⟩
      · exact al1 B10 m hm
    have nt2 : t2 ∉ [kp, b] := fun m => by
      obtain ⟨o, e⟩ := live10 _ m
      rw [ht2] at e; cases e
    have wa2 : WdAt [kp, b] (upd H10 t2 (.tup [.ref f1, .ref f2, .ref o])) t2 ds rs ls2 := ⟨f1, f2, o, et2, nt2, d1.ext (Ext.same S11), d2.ext (Ext.same S11), ok, S11 _ _ eo10⟩
    have wa11 := wa10.ext (Ext.same S11)
    have cl11 := cl10.ext (Ext.same S11)
    have B11 := B10.ext S11
    have ekp11 := S11 _ _ ekp
    generalize upd H10 t2 _ = H11 at *
    walk_at "xs"
    intro W hW
    have S12 := same_upd hW (o := .lst [.ref T, .ref t2])
    have eW := upd_same (H := H11) (a := W) (o := .lst [.ref T, .ref t2])
    have nW : W ∉ [kp, b] := fun m => by
      rcases List.mem_cons.mp m with rfl | m
      · rw [ekp11] at hW; cases hW
      · exact B11.ne hW m
    have B0 := B11.ext S12
    have cl0 := cl11.ext (Ext.same S12)
    have ekp0 := S12 _ _ ekp11
    have ws0 : Ws [kp, b] (upd H11 W (.lst [.ref T, .ref t2])) W ds rs ls ls2 := ⟨T, t2, eW, nW, wa11.ext (Ext.same S12), wa2.ext (Ext.same S12), wd, wd'⟩
    clear S12 hW eW nW wa11 wa2 cl11 ekp11 B11 S11 ht2 et2 nt2 live10 wa10 eo10 B10 cl10 ekp d1 d2 n3 e3 eT nT S10 hkp wa9 eo9 eo B9 cl nx S9
    generalize upd H11 W _ = H0 at *
    have sb : ∀ a, a ∈ [b] → a ∈ [kp, b] := fun a h => List.mem_cons_of_mem _ h
    walk_at "xs"
    refine for_range (lo := 0) (n := (20 : Int).toNat) (fun i' σ' H' => ∃ y8 y9 y10, σ' = [some (.ref a), some (.ref b), some (.int (0 + (i : Int))), some (.ref T), some (.ref o), some (.ref x), some (.ref kp), some (.ref W), y8, y9, y10, y11, none] ∧ Ext [kp, b] H0 H' ∧ Bag H' b c ∧ ∃ rws : List V, H' kp = some (.lst rws) ∧ rws.length = i' ∧ ∀ r ∈ rws, Row [kp, b] H0 H' r) ?_ ?_ ?_
    · exact ⟨_, _, _, rfl, Ext.refl _ _, B0, [], ekp0, rfl, fun r hr => (by cases hr)⟩
    · rintro i' _ H1' hi' ⟨y8, y9, y10, rfl, E1, B1, rws, ek1, lr, rw1⟩
      have hi' : i' < 20 := hi'
      walk_at "xs"
      refine x_take B1 (by decide) (by decide) ?_
      intro H2 v2 E2 B2 a2 c2
      have E02 := E1.trans (E2.mono sb)
      have ek2 := E2 _ _ nkb ek1
      walk_at "xs"
      have live2 : ∀ m ∈ [kp, b], ∃ o, H2 m = some o := fun m hm => by
        rcases List.mem_cons.mp hm with rfl | hm
        · exact ⟨_, ek2⟩
        · exact al1 B2 m hm
      refine x_ask live2 B2 ((ws0.ext E02).sub sb) a2 c2 ((cl0.ext E02).sub sb) ?_
      intro H3 A E3 B3 an
      obtain ⟨u1, u2, d, eA, n1, dn1, dn2, ad⟩ := an
      have ek3 := E3 _ _ nkb ek2
      have E03 := E02.trans (E3.mono sb)
      have E13 := (E2.trans E3).mono sb
      walk_at "xs"
      refine x_alike (M := []) (dn1.sub (by simp)) dn2 ad.1 ad.2.1 ?_
      walk_at "xs"
      refine x_repr dn2 ad.2.1 ?_
      walk_at "xs"
      intro r hr'
      have S4 := same_upd hr' (o := .tup [u1, .str d.shown])
      have er := upd_same (H := H3) (a := r) (o := .tup [u1, .str d.shown])
      have nr : r ∉ [kp, b] := fun m => by
        rcases List.mem_cons.mp m with rfl | m
        · rw [ek3] at hr'; cases hr'
        · exact B3.ne hr' m
      have B4 := B3.ext S4
      have ek4 := S4 _ _ ek3
      have E04 := E03.trans (Ext.same S4)
      have E14 := E13.trans (Ext.same S4)
      have row : Row [kp, b] H0 (upd H3 r (.tup [u1, .str d.shown])) (.ref r) := ⟨r, u1, d, rfl, er, nr, fun p e => freshN live2 E02 (n1 p e), dn1.ext (Ext.same S4), ad⟩
      clear S4 hr' er
      generalize upd H3 r _ = H4 at *
      walk_at "xs"
      refine x_app ek4 (by rw [lr, sizeLine_eq]; omega) ?_
      have X : Ext [kp, b] H4 (upd H4 kp (.lst (rws ++ [.ref r]))) := Ext.upd (by simp)
      have ek5 := upd_same (H := H4) (a := kp) (o := .lst (rws ++ [.ref r]))
      have B5 : Bag (upd H4 kp (.lst (rws ++ [.ref r]))) b c := Bag.put B4 (by simpa using nkb) kc.symm
      have E05 := E04.trans X
      have rw5 : ∀ u ∈ rws ++ [.ref r], Row [kp, b] H0 (upd H4 kp (.lst (rws ++ [.ref r]))) u := fun u hu => by
        rcases List.mem_append.mp hu with hu | hu
        · exact (rw1 u hu).ext (E14.trans X)
        · rw [List.mem_singleton] at hu; subst hu
          exact row.ext X
      have l5 : (rws ++ [V.ref r]).length = i' + 1 := by rw [List.length_append, lr]; rfl
      generalize upd H4 kp _ = H5 at *
      generalize rws ++ [V.ref r] = rws5 at *
      clear X row E14 E04 ek4 B4 nr rw1 ek3 E03 E13
      walk_at "xs"
      intro L hL
      refine lc_list (K := K) (a := kp) (xs := rws5) (fun j H' => Same H5 H' ∧ H' L = some (.lst [])) ?_ ?_ ?_ ?_
      · exact ⟨same_upd hL, upd_same⟩
      · rintro j H' _ ⟨S, _⟩
        exact SqL.of (S _ _ ek5)
      · rintro j v H' hv ⟨S, eL⟩
        obtain ⟨p, w', d', rfl, ep, np, nw, dw, aw⟩ := rw5 v (List.mem_of_getElem? hv)
        have ep' := S _ _ ep
        walk_at "xs"
        refine x_wiped rfl ?_
        walk_at "xs"
        refine x_repr (dw.ext (Ext.same S)) aw.2.1 ?_
        walk_at "xs"
        rw [decide_eq_true rfl]
        walk_at "xs"
        exact ⟨S, eL⟩
      · rintro H6 ⟨S6, eL⟩
        walk_at "xs"
        intro p0 hp0
        have S7 := same_upd hp0 (o := .lst [])
        refine nil_nil (S7 _ _ eL) upd_same ?_
        have S57 := S6.trans S7
        generalize upd H6 p0 _ = H7 at *
        walk_at "xs"
        exact ⟨_, _, _, rfl, E05.trans (Ext.same S57), B5.ext S57, rws5, S57 _ _ ek5, l5, fun u hu => (rw5 u hu).ext (Ext.same S57)⟩
    · rintro _ H2 ⟨y8, y9, y10, rfl, E2, B2, rws, ek2, lr, rw2⟩
      walk_at "xs"
      have gk : ∀ {j : Nat} {H' : Hp}, Grew H0 H2 H' j → H' kp = some (.lst rws) := fun g => g.kept ek2 ekp0
      refine for_list (K := K) (a := kp) (xs := rws) (fun j σ' H' => ∃ y9 y11, σ' = [some (.ref a), some (.ref b), some (.int (0 + (i : Int))), some (.ref T), some (.ref o), some (.ref x), some (.ref kp), some (.ref W), y8, y9, y10, y11, none] ∧ Grew H0 H2 H' j) ?_ ?_ ?_ ?_
      · exact ⟨_, _, rfl, Grew.refl _⟩
      · rintro j _ H' _ ⟨y9, y11, rfl, g⟩
        exact SqL.of (gk g)
      · rintro j v _ H' hv ⟨y9, y11, rfl, g⟩
        have hj := (List.getElem?_eq_some_iff.mp hv).1
        obtain ⟨p, w', d', rfl, ep, np, nw, dw, aw⟩ := rw2 v (List.mem_of_getElem? hv)
        have ep' := g.tup ep
        walk_at "xs"
        cases dw with
        | @lst p' xs ds' e np' A =>
          obtain ⟨ys, ey, ly⟩ := g.lst e
          have lx : xs.length ≤ 1000 := by
            rw [A.length]
            exact aw.2.2 _ rfl
          refine x_isY (.base (.lst ey)) (b := true) (by decide +kernel) ?_
          walk_at "xs"
          refine x_app ey (by rw [sizeLine_eq]; omega) ?_
          walk_at "xs"
          exact ⟨_, _, rfl, g.put (nw _ rfl) e ey ly _⟩
        | @tup p' xs ds' e np' A =>
          refine x_isY (.base (.tup (g.tup e))) (b := false) (by decide +kernel) ?_
          walk_at "xs"
          exact ⟨_, _, rfl, g.step⟩
        | @dic p' kvs ds' e np' A A' =>
          have e' : H' p' = some (.dK kvs) := by
            rcases g _ _ e with h | ⟨_, xs, _, h, _⟩
            · exact h
            · cases h
          refine x_isY (.base (.dK e')) (b := false) (by decide +kernel) ?_
          walk_at "xs"
          exact ⟨_, _, rfl, g.step⟩
        | non =>
          refine x_isY (.base .non) (b := false) (by decide +kernel) ?_
          walk_at "xs"
          exact ⟨_, _, rfl, g.step⟩
        | bl b =>
          refine x_isY (.base (.bl b)) (b := false) (by decide +kernel) ?_
          walk_at "xs"
          exact ⟨_, _, rfl, g.step⟩
        | int n =>
          refine x_isY (.base (.int n)) (b := false) (by decide +kernel) ?_
          walk_at "xs"
          exact ⟨_, _, rfl, g.step⟩
        | str n =>
          refine x_isY (.base (.str n)) (b := false) (by decide +kernel) ?_
          walk_at "xs"
          exact ⟨_, _, rfl, g.step⟩
      · rintro _ H3 ⟨y9, y11, rfl, g⟩
        have B3 : Bag H3 b c := by
          obtain ⟨x1, x2, x3, x4, h1, h2, h3⟩ := B2
          obtain ⟨_, _, _, _, k1, k2, _⟩ := B0
          exact ⟨x1, x2, x3, x4, g.kept h1 k1, g.kept h2 k2, h3⟩
        have E03 : Ext [kp, b] H0 H3 := fun z' o' n e => g.kept (E2 _ _ n e) e
        have ws3 := (ws0.ext E03).sub sb
        have cl3 := (cl0.ext E03).sub sb
        clear gk rw2 ek2 E2 B2 g
        walk_at "xs"
        refine for_range (lo := 0) (n := (8 : Int).toNat) (fun i' σ' H' => ∃ y8 y9 y10 y11, σ' = [some (.ref a), some (.ref b), some (.int (0 + (i : Int))), some (.ref T), some (.ref o), some (.ref x), some (.ref kp), some (.ref W), y8, y9, y10, y11, none] ∧ Ext [b] H3 H' ∧ Bag H' b c) ?_ ?_ ?_
        · exact ⟨_, _, _, _, rfl, Ext.refl _ _, B3⟩
        · rintro i' _ H5 hi' ⟨y8, y9, y10, y11, rfl, E5, B5⟩
          walk_at "xs"
          refine x_take B5 (by decide) (by decide) ?_
          intro H6 v6 E6 B6 a6 c6
          walk_at "xs"
          refine x_ask (al1 B6) B6 (ws3.ext (E5.trans E6)) a6 c6 (cl3.ext (E5.trans E6)) ?_
          intro H7 A E7 B7 an
          obtain ⟨u1, u2, d, eA, n1, dn1, dn2, ad⟩ := an
          walk_at "xs"
          refine x_alike (M := []) (dn1.sub (by simp)) dn2 ad.1 ad.2.1 ?_
          walk_at "xs"
          exact ⟨_, _, _, _, rfl, E5.trans (E6.trans E7), B7⟩
        · rintro _ H5 ⟨y8, y9, y10, y11, rfl, E5, B5⟩
          walk_at "xs"
          exact ⟨_, _, _, _, _, _, _, _, _, _, rfl, B5⟩
  · rintro _ H4 ⟨y2, y3, y4, y5, y6, y7, y8, y9, y10, y11, rfl, B4⟩
    walk_at "xs"
    exact q H4
end
theorem cc_mk {K : PySem.W.Frag} {h : Heap} {mg : Str → Option Value} {C : Addr} (X : K.In h) (G : h.Ns mainGlobals mg)
    (a : PySem.W.nsIn K mainGlobals "Cluster" = some (some (.ref C))) (p1 : PySem.W.plainGet K C Str.empty = true) (p2 : PySem.W.hasDictIn K C = true) (p3 : PySem.W.plainOver K C = true)
    (p4 : PySem.W.findIn K (.ref C) "__setattr__" = some (some (.builtin "object.__setattr__"))) (m : PySem.W.makesIn K C = true) (k : PySem.W.keepIn K (.ref C) = true)
    (n1 : PySem.W.findIn K (.ref C) "_bounds" = some none) (n2 : PySem.W.findIn K (.ref C) "_bundles" = some none) (n3 : PySem.W.findIn K (.ref C) "_numbers" = some none) : Cc K mg C :=
  ⟨⟨⟨p1, p2, p3, p4⟩, m, k, PySem.W.mg_of X G a⟩, n1, n2, n3⟩
theorem len1 {K : PySem.W.Frag} : ∀ vs H Q E, spLaw K vs H Q E → vs.length = (["_law_script"] : List Str).length := fun vs H Q E h => by obtain ⟨a, ns, rfl, _⟩ := h; rfl
theorem all_mk {P : Program} {w : World} {K : PySem.W.Frag} {mg : Str → Option Value} {fa C : Addr} {t0 t1 t2 t3 t4 : Tok} (hfa : mg "law" = some (.ref fa)) (cc : Cc K mg C)
    (m_init : Dm K C "__init__" "Cluster.__init__" s_Cluster_init) (m_keep : Dm K C "_keep" "Cluster._keep" s_Clusterkeep) (m_size : Dm K C "size" "Cluster.size" s_Cluster_size) (m_floor : Dm K C "floor" "Cluster.floor" s_Cluster_floor) (m_ceiling : Dm K C "ceiling" "Cluster.ceiling" s_Cluster_ceiling) (m_bundles : Dm K C "bundles" "Cluster.bundles" s_Cluster_bundles) (m_is_rigid : Dm K C "is_rigid" "Cluster.is_rigid" s_Cluster_is_rigid) (m_bundle_of : Dm K C "bundle_of" "Cluster.bundle_of" s_Cluster_bundle_of)
    (d_is_integer : Df K mg "is_integer" s_is_integer) (d_is_amount : Df K mg "is_amount" s_is_amount) (d_is_count : Df K mg "is_count" s_is_count) (d_is_broker : Df K mg "is_broker" s_is_broker) (d__is_bound : Df K mg "_is_bound" s__is_bound) (d_are_bounds : Df K mg "are_bounds" s_are_bounds) (d__is_bundle : Df K mg "_is_bundle" s__is_bundle) (d_are_bundles : Df K mg "are_bundles" s_are_bundles) (d_loads : Df K mg "loads" s_loads) (d_givers : Df K mg "givers" s_givers) (d_takers : Df K mg "takers" s_takers) (d__free : Df K mg "_free" s__free) (d_arcs : Df K mg "arcs" s_arcs) (d_turned : Df K mg "turned" s_turned) (d_steps_from : Df K mg "steps_from" s_steps_from) (d_first_shortest : Df K mg "first_shortest" s_first_shortest) (d_reached : Df K mg "reached" s_reached) (d_reaching : Df K mg "reaching" s_reaching) (d_first_way : Df K mg "first_way" s_first_way) (d_greatest_low : Df K mg "greatest_low" s_greatest_low) (d_greatest_high : Df K mg "greatest_high" s_greatest_high) (d__others : Df K mg "_others" s__others) (d_low_set : Df K mg "low_set" s_low_set) (d_high_set : Df K mg "high_set" s_high_set) (d_frozen : Df K mg "frozen" s_frozen) (d_bar : Df K mg "bar" s_bar) (d_is_bar : Df K mg "is_bar" s_is_bar) (d_first_obstacle : Df K mg "first_obstacle" s_first_obstacle) (d_is_obstacle : Df K mg "is_obstacle" s_is_obstacle) (d__meet : Df K mg "_meet" s__meet) (d_is_low : Df K mg "is_low" s_is_low) (d_is_high : Df K mg "is_high" s_is_high) (d__is_closed : Df K mg "_is_closed" s__is_closed) (d_is_set : Df K mg "is_set" s_is_set) (d_led : Df K mg "led" s_led) (d_is_legal : Df K mg "is_legal" s_is_legal) (d_legal : Df K mg "legal" s_legal) (d_Lbag : Df K mg "_law_bag" s_Lbag) (d_Ltake : Df K mg "_law_take" s_Ltake) (d_Lalike : Df K mg "_law_alike" s_Lalike) (d_Lbundles : Df K mg "_law_bundles" s_Lbundles) (d_Lleads : Df K mg "_law_leads" s_Lleads) (d_Lloads : Df K mg "_law_loads" s_Lloads) (d_Lbounds : Df K mg "_law_bounds" s_Lbounds) (d_Lworld : Df K mg "_law_world" s_Lworld) (d_Lcluster : Df K mg "_law_cluster" s_Lcluster) (d_Ledges : Df K mg "_law_edges" s_Ledges) (d_Labove : Df K mg "_law_above" s_Labove) (d_Lbelow : Df K mg "_law_below" s_Lbelow) (d_Lmoved : Df K mg "_law_moved" s_Lmoved) (d_Lnumber_of : Df K mg "_law_number_of" s_Lnumber_of) (d_Lled : Df K mg "_law_led" s_Lled) (d_Lturned_ring : Df K mg "_law_turned_ring" s_Lturned_ring) (d_Ltwins : Df K mg "_law_twins" s_Ltwins) (d_Lspread : Df K mg "_law_spread" s_Lspread) (d_Lback_edges : Df K mg "_law_back_edges" s_Lback_edges) (d_Lfree : Df K mg "_law_free" s_Lfree) (d_Lfirst_ways : Df K mg "_law_first_ways" s_Lfirst_ways) (d_Lis_low : Df K mg "_law_is_low" s_Lis_low) (d_Lis_high : Df K mg "_law_is_high" s_Lis_high) (d_Llow : Df K mg "_law_low" s_Llow) (d_Lhigh : Df K mg "_law_high" s_Lhigh) (d_Lfrozen : Df K mg "_law_frozen" s_Lfrozen) (d_Lbar : Df K mg "_law_bar" s_Lbar) (d_Lsteps : Df K mg "_law_steps" s_Lsteps) (d_Lis_bar : Df K mg "_law_is_bar" s_Lis_bar) (d_Lof_brokers : Df K mg "_law_of_brokers" s_Lof_brokers) (d_Lof_bundles : Df K mg "_law_of_bundles" s_Lof_bundles) (d_Lasked : Df K mg "_law_asked" s_Lasked) (d_law : Df K mg "law" s_law)
    (d_ends_arcs : DfA K mg "ends_arcs" "_ends" s_ends_arcs) (d_ends_frozen : DfA K mg "ends_frozen" "_ends" s_ends_frozen)
    (B : Bl mg) (CS : Cs mg t0 t1 t2 t3 t4) :
    ∃ fd : FuncData, (∀ (s : Shared) (u : Value), BindsTo s fd ⟨[u], []⟩ [("_law_script", u)]) ∧
      ∀ base : Heap, K.In base → base.Ns mainGlobals mg → (∃ o, base.get? sysModules = some o) → FnG P w K mg base (9 + 1) fa fd ["_law_script"] (spLaw K) := by
  refine law_of d_law hfa (fun _ _ _ _ _ _ us hl => match us, hl with | [_], _ => rfl) sc_law len1 (fun base sys f cd B' fr z H vs Q E hr gd h => ?_)
  have i1 : Kn P w K mg base "is_integer" 1 (sp1 isIntD) := kn_is_integer d_is_integer B
  have i2 := kn_is_amount d_is_amount B CS i1
  have i3 := kn_is_count d_is_count B CS i1
  have i4 := kn_is_broker d_is_broker B i1
  have i5 := kn__is_bound d__is_bound B i2
  have i6 := kn_are_bounds d_are_bounds B CS i5
  have i7 := kn__is_bundle d__is_bundle B i4 i3
  have i8 := kn_are_bundles d_are_bundles B CS i7
  have e1 : Km P w K mg base C "_keep" 1 (spKeep C) := km_keep m_keep B cc
  have e2 := km_init m_init B cc i6 i8 (e1.up (by decide)) trivial
  have e3 : Km P w K mg base C "size" 1 (spSize C) := km_size m_size B cc
  have e4 : Km P w K mg base C "bundles" 1 (spCopy C) := km_bundles m_bundles B cc
  have e5 : Km P w K mg base C "floor" 1 (spSide C false) := km_floor m_floor B cc
  have e6 : Km P w K mg base C "ceiling" 1 (spSide C true) := km_ceiling m_ceiling B cc
  have e10 := km_rigid m_is_rigid B cc e5 e6
  have e7 : Km P w K mg base C "bundle_of" 1 (spOf C) := km_bundle_of m_bundle_of B cc
  have p1 := kn_loadsP d_loads B cc e3 e4
  have p2 := kn_free d__free B cc (e3.up (by decide)) e10
  have p3 := kn_givers d_givers B cc (p1.up (by decide)) p2 (e5.up (by decide))
  have p4 := kn_takers d_takers B cc (p1.up (by decide)) p2 (e6.up (by decide))
  have p5 := kn_arcs d_arcs B cc e10 (e4.up (by decide))
  have t2 : Kn P w K mg base "_law_alike" 1 spAlike := kn_alike d_Lalike B sys
  have u1 : Kn P w K mg base "_law_take" 1 spTake := kn_take d_Ltake B
  have u2 := kn_bunW d_Lbundles B u1
  have u3 := kn_leadsW d_Lleads B u1
  have u4 : Kn P w K mg base "_law_loads" 1 spLoadsU := kn_loadsU d_Lloads B
  have u5 := kn_bndW d_Lbounds B u1
  have u6 := kn_world d_Lworld B (u1.up (by decide)) u2 u3 u5 (u4.up (by decide))
  have u7 := kn_cluW d_Lcluster B cc e2
  have u8 := kn_above d_Labove B u4
  have u9 := kn_below d_Lbelow B u4
  have u10 : Kn P w K mg base "_law_edges" 1 spEdges := kn_edges d_Ledges B
  have u11 : Kn P w K mg base "_law_number_of" 1 spNumOf := kn_numOf d_Lnumber_of B
  have u12 := kn_ledW d_Lled B u11
  have u13 : Kn P w K mg base "_law_moved" 1 spMovedW := kn_movedW d_Lmoved B
  have u14 := kn_ring d_Lturned_ring B (u1.up (by decide)) u12 (u13.up (by decide))
  have u15 := kn_twins d_Ltwins B (u1.up (by decide)) u6 u14 (u3.up (by decide)) (u4.up (by decide))
  have q1 : Kn P w K mg base "turned" 1 spTurned := kn_turned d_turned B
  have l1 := kn_led d_led B cc e7 e4
  have l2 := kn_isLegal d_is_legal B cc l1 p1 (e5.up (by decide)) (e6.up (by decide))
  have l3 := kn_legal d_legal B cc l2 (e4.up (by decide))
  have q2 : Kn P w K mg base "steps_from" 1 spSteps := kn_steps d_steps_from B
  have q2r := q2.weak (fun vs H Q E h => stepsR h)
  have q3 := kn_others d__others B cc (e3.up (by decide)) e10
  have q4 := kn_grtLow d_greatest_low B (q3.up (by decide)) (q2r.up (by decide)) p3
  have q5 := kn_grtHigh d_greatest_high B (q3.up (by decide)) (q2r.up (by decide)) p4 (q1.up (by decide))
  have q6 := kn_lowSet d_low_set B q4 (p5.up (by decide))
  have q7 := kn_highSet d_high_set B q5 (p5.up (by decide))
  have v1 : Kn P w K mg base "_law_free" 1 spFreeW := kn_freeW d_Lfree B
  have v2 : Kn P w K mg base "_law_spread" 1 spSpread := kn_spread d_Lspread B
  have v3 : Kn P w K mg base "_law_back_edges" 1 spTurned := kn_backE d_Lback_edges B
  have v4 := kn_lowW d_Llow B (v2.up (by decide)) (u10.up (by decide)) u8 (v1.up (by decide))
  have v5 := kn_highW d_Lhigh B (v2.up (by decide)) (u10.up (by decide)) u9 (v3.up (by decide)) (v1.up (by decide))
  have v6 := kn_frozenW d_Lfrozen B v4 v5 (v1.up (by decide))
  have v7 := kn_barW d_Lbar B (v1.up (by decide)) v4 v5
  have v8 : Kn P w K mg base "_law_first_ways" 1 spFways := kn_fways d_Lfirst_ways B
  have r1 := kn_short d_first_shortest B q1 q2
  have r2 := kn_endsR d_ends_arcs B cc e10 (q2.up (by decide))
  have r3 := kn_reached d_reached B p5 r2
  have r4 := kn_reaching d_reaching B p5 (q1.up (by decide)) r2
  have r5 := kn_firstW d_first_way B cc (e10.up (by decide)) p5 (r1.up (by decide))
  have w1 := kn_frozen d_frozen B cc q6 q7 (e3.up (by decide)) (e10.up (by decide)) (e4.up (by decide))
  have w2 := kn_ends d_ends_frozen B cc e4
  have w3 : Kn P w K mg base "_meet" 1 spMeet := kn_meet d__meet B
  have w4 := kn_first d_first_obstacle B cc (e10.up (by decide)) q4 q5 (w3.up (by decide))
  have w5 := kn_bar d_bar B (w2.up (by decide)) w4 (p5.up (by decide))
  have w6 := kn_is_set d_is_set B i4
  have w7 := kn_closedB d__is_closed B cc e10
  have w8 := kn_isLowB d_is_low B (w7.up (by decide)) p3
  have w9 := kn_isHighB d_is_high B (w7.up (by decide)) p4 (q1.up (by decide))
  have w10 := kn_isObsB d_is_obstacle B cc (i4.up (by decide)) (w6.up (by decide)) (w3.up (by decide)) w8 w9 (e3.up (by decide)) (e10.up (by decide))
  have w11 := kn_isBarB d_is_bar B (w2.up (by decide)) w10 (p5.up (by decide))
  have x1 := kn_isLow d_Lis_low B u8 (u10.up (by decide))
  have x2 := kn_isHigh d_Lis_high B u9 (u10.up (by decide))
  have x3 := kn_stepsE d_Lsteps B u8 u9 (u10.up (by decide))
  have x4 := kn_isBar7 d_Lis_bar B (v1.up (by decide)) x1 x2
  have y1 := kn_brok d_Lof_brokers B (u10.up (k := 7) (by decide)) (v1.up (by decide)) (u1.up (by decide)) (r3.up (by decide)) (r4.up (by decide)) (v2.up (by decide)) (v3.up (by decide)) (v8.up (by decide)) (r5.up (by decide)) (q6.up (by decide)) (q7.up (by decide)) (v4.up (by decide)) (v5.up (by decide))
  have y2 := kn_bund d_Lof_bundles B (u1.up (by decide)) (w5.up (by decide)) (v7.up (by decide)) (w1.up (by decide)) (v6.up (by decide)) (w11.up (k := 7) (by decide)) (x4.up (by decide))
  have y3 := kn_ask d_Lasked B (u1.up (by decide)) y1 y2 (p3.up (by decide)) (p4.up (by decide)) (u8.up (by decide)) (u9.up (by decide)) (p5.up (by decide)) (u10.up (by decide)) (l3.up (by decide)) (x3.up (by decide)) (w1.up (by decide)) (v6.up (by decide))
  exact ok_law (k := 8) B cc sys ((kn_bag d_Lbag B (k := 0)).up (by decide)) (u1.up (by decide)) (u7.up (by decide)) (u15.up (by decide)) y3 (t2.up (by decide)) f cd B' fr z H vs Q E hr gd h
end Lw
open PySem PySem.W PyProof.Rows
local macro_rules | `(tactic| walk_at "df") => `(tactic| (refine' Lw.df_mk (by assumption) (by assumption) ?za ?zl ?zc ?zk; (case za => k_is); (case zl => k_is); (case zc => k_is); (case zk => k_is)))
local macro_rules | `(tactic| walk_at "dm") => `(tactic| (refine' Lw.dm_mk ?za ?zi ?zl ?zc ?zk; (case za => k_is); (case zi => k_is); (case zl => k_is); (case zc => k_is); (case zk => k_is)))
set_option maxRecDepth 100000 in
set_option maxHeartbeats 0 in
theorem PySem.Challenge.cw_leadswitch_k37_whole_asked_by_turns_holds : PySem.Challenge.rw_leadswitch_k37_whole_asked_by_turns.Holds := by
  w_on; o_law; k_head; (case hw => w_witness2)
  k_fill
  refine Lw.walk_g (l := PySem.Challenge.rw_leadswitch_k37_whole_asked_by_turns) (n := 63) (k := 10) (x := "_law_script") (sp := Lw.spLaw) rfl (by decide) rfl ⟨rfl, by decide, by decide⟩ (by decide +kernel) (fun w h Y => PySem.W.kIn_of Y) ?F (fun K H a ns hl hS => ⟨a, ns, rfl, hS, fun _ => rfl⟩)
  case F =>
    intro w mg fa h KX G hmg
    refine' Lw.all_mk hmg ?cl ?m_init ?m_keep ?m_size ?m_floor ?m_ceiling ?m_bundles ?m_is_rigid ?m_bundle_of ?d_is_integer ?d_is_amount ?d_is_count ?d_is_broker ?d__is_bound ?d_are_bounds ?d__is_bundle ?d_are_bundles ?d_loads ?d_givers ?d_takers ?d__free ?d_arcs ?d_turned ?d_steps_from ?d_first_shortest ?d_reached ?d_reaching ?d_first_way ?d_greatest_low ?d_greatest_high ?d__others ?d_low_set ?d_high_set ?d_frozen ?d_bar ?d_is_bar ?d_first_obstacle ?d_is_obstacle ?d__meet ?d_is_low ?d_is_high ?d__is_closed ?d_is_set ?d_led ?d_is_legal ?d_legal ?d_Lbag ?d_Ltake ?d_Lalike ?d_Lbundles ?d_Lleads ?d_Lloads ?d_Lbounds ?d_Lworld ?d_Lcluster ?d_Ledges ?d_Labove ?d_Lbelow ?d_Lmoved ?d_Lnumber_of ?d_Lled ?d_Lturned_ring ?d_Ltwins ?d_Lspread ?d_Lback_edges ?d_Lfree ?d_Lfirst_ways ?d_Lis_low ?d_Lis_high ?d_Llow ?d_Lhigh ?d_Lfrozen ?d_Lbar ?d_Lsteps ?d_Lis_bar ?d_Lof_brokers ?d_Lof_bundles ?d_Lasked ?d_law ?d_ends_arcs ?d_ends_frozen ?bb ?cs
    case cl =>
      refine' Lw.cc_mk KX G ?x0 ?x1 ?x2 ?x3 ?x4 ?x5 ?x6 ?x7 ?x8 ?x9
      (case x0 => k_is); (case x1 => k_is); (case x2 => k_is); (case x3 => k_is); (case x4 => k_is); (case x5 => k_is); (case x6 => k_is); (case x7 => k_is); (case x8 => k_is); (case x9 => k_is)
    (case m_init => walk_at "dm")
    (case m_keep => walk_at "dm")
    (case m_size => walk_at "dm")
    (case m_floor => walk_at "dm")
    (case m_ceiling => walk_at "dm")
    (case m_bundles => walk_at "dm")
    (case m_is_rigid => walk_at "dm")
    (case m_bundle_of => walk_at "dm")
    (case d_is_integer => walk_at "df")
    (case d_is_amount => walk_at "df")
    (case d_is_count => walk_at "df")
    (case d_is_broker => walk_at "df")
    (case d__is_bound => walk_at "df")
    (case d_are_bounds => walk_at "df")
    (case d__is_bundle => walk_at "df")
    (case d_are_bundles => walk_at "df")
    (case d_loads => walk_at "df")
    (case d_givers => walk_at "df")
    (case d_takers => walk_at "df")
    (case d__free => walk_at "df")
    (case d_arcs => walk_at "df")
    (case d_turned => walk_at "df")
    (case d_steps_from => walk_at "df")
    (case d_first_shortest => walk_at "df")
    (case d_reached => walk_at "df")
    (case d_reaching => walk_at "df")
    (case d_first_way => walk_at "df")
    (case d_greatest_low => walk_at "df")
    (case d_greatest_high => walk_at "df")
    (case d__others => walk_at "df")
    (case d_low_set => walk_at "df")
    (case d_high_set => walk_at "df")
    (case d_frozen => walk_at "df")
    (case d_bar => walk_at "df")
    (case d_is_bar => walk_at "df")
    (case d_first_obstacle => walk_at "df")
    (case d_is_obstacle => walk_at "df")
    (case d__meet => walk_at "df")
    (case d_is_low => walk_at "df")
    (case d_is_high => walk_at "df")
    (case d__is_closed => walk_at "df")
    (case d_is_set => walk_at "df")
    (case d_led => walk_at "df")
    (case d_is_legal => walk_at "df")
    (case d_legal => walk_at "df")
    (case d_Lbag => walk_at "df")
    (case d_Ltake => walk_at "df")
    (case d_Lalike => walk_at "df")
    (case d_Lbundles => walk_at "df")
    (case d_Lleads => walk_at "df")
    (case d_Lloads => walk_at "df")
    (case d_Lbounds => walk_at "df")
    (case d_Lworld => walk_at "df")
    (case d_Lcluster => walk_at "df")
    (case d_Ledges => walk_at "df")
    (case d_Labove => walk_at "df")
    (case d_Lbelow => walk_at "df")
    (case d_Lmoved => walk_at "df")
    (case d_Lnumber_of => walk_at "df")
    (case d_Lled => walk_at "df")
    (case d_Lturned_ring => walk_at "df")
    (case d_Ltwins => walk_at "df")
    (case d_Lspread => walk_at "df")
    (case d_Lback_edges => walk_at "df")
    (case d_Lfree => walk_at "df")
    (case d_Lfirst_ways => walk_at "df")
    (case d_Lis_low => walk_at "df")
    (case d_Lis_high => walk_at "df")
    (case d_Llow => walk_at "df")
    (case d_Lhigh => walk_at "df")
    (case d_Lfrozen => walk_at "df")
    (case d_Lbar => walk_at "df")
    (case d_Lsteps => walk_at "df")
    (case d_Lis_bar => walk_at "df")
    (case d_Lof_brokers => walk_at "df")
    (case d_Lof_bundles => walk_at "df")
    (case d_Lasked => walk_at "df")
    (case d_law => walk_at "df")
    (case d_ends_arcs => (refine' Lw.dfa_mk (by assumption) (by assumption) ?za ?zl ?zc ?zk; (case za => k_is); (case zl => k_is); (case zc => k_is); (case zk => k_is)))
    (case d_ends_frozen => (refine' Lw.dfa_mk (by assumption) (by assumption) ?za ?zl ?zc ?zk; (case za => k_is); (case zl => k_is); (case zc => k_is); (case zk => k_is)))
    case bb =>
      refine' Lw.bl_mk KX G ?z0 ?z1 ?z2 ?z3 ?z4 ?z5 ?z6 ?z7 ?z8 ?z9 ?z10 ?z11 ?z12 ?z13 ?z14 ?z15 ?z16 ?z17 ?z18 ?z19
      (case z0 => k_is); (case z1 => k_is); (case z2 => k_is); (case z3 => k_is); (case z4 => k_is); (case z5 => k_is); (case z6 => k_is); (case z7 => k_is); (case z8 => k_is); (case z9 => k_is); (case z10 => k_is); (case z11 => k_is); (case z12 => k_is); (case z13 => k_is); (case z14 => k_is); (case z15 => k_is); (case z16 => k_is); (case z17 => k_is); (case z18 => k_is); (case z19 => k_is)
    case cs =>
      refine' Lw.cs_mk KX G ?y0 ?y1 ?y2 ?y3 ?y4
      (case y0 => k_is); (case y1 => k_is); (case y2 => k_is); (case y3 => k_is); (case y4 => k_is)
