import PyProof.Rows.All
import Wide.All
import OpenK.AllK
import Wide.FinOn
import HandS.ForMost
import HandS.Wide
import HandS.IsInst
import HandS.Flow
import PyProof.ReprRoads
import HandS.Style
import HandS.SetBool
import HandS.TupSets
import KE.DataFind
import HandS.TupAny
import PySem.Challenge.RW_leadswitch_k12_bounds_and_bundles
set_option Elab.async false
set_option linter.all false
set_option maxRecDepth 100000
set_option maxHeartbeats 4000000
namespace Lw
open PySem PySem.Spec PyProof.Rows L2
/-! Calls whose surroundings have no open guard (repr asks for that). -/

/-- a def's promise, for surroundings without open guards -/
structure FnG (P : Program) (w : World) (K : PySem.W.Frag) (mg : Str → Option Value) (base : Heap)
    (k : Nat) (f : Addr) (fd : FuncData) (ps : List Str) (sp : Sp) : Prop where
  len : ∀ vs H Q E, sp vs H Q E → vs.length = ps.length
  go : ∀ (B : Around) (fr : List Env) (z : Shared) (H : Hp) (ar : Args) (us : List Value) (vs : List V) (Q : VK) (E : XK),
    Room k B → B.guards = some [] → Env0 P w K mg base B fr z H → BindsTo z fd ar (ps.zip us) → Vals vs us →
    sp vs H Q E → codeAny (model P w) B (.call (.ref f) ar) (CR CX0 fr P w H z Q E) z

section
variable {P : Program} {w : World} {K : PySem.W.Frag} {mg : Str → Option Value} {base : Heap}
theorem FnG.of {k : Nat} {f : Addr} {fd : FuncData} {ps : List Str} {sp : Sp}
    (F : FnOk P w K mg base CX0 k f fd ps sp) : FnG P w K mg base k f fd ps sp :=
  ⟨F.len, fun B fr z H ar us vs Q E r _ => F.run B fr z H ar us vs Q E r⟩
theorem FnG.up {j k : Nat} {f : Addr} {fd : FuncData} {ps : List Str} {sp : Sp}
    (F : FnG P w K mg base j f fd ps sp) (h : j ≤ k) : FnG P w K mg base k f fd ps sp :=
  ⟨F.len, fun B fr z H ar us vs Q E r => F.go B fr z H ar us vs Q E (r.mono h)⟩

/-- the context of a body -/
abbrev bodyX (P : Program) (w : World) (K : PySem.W.Frag) (mg : Str → Option Value) (base : Heap) (N : List Str) (qual : Str)
    (st : Stmt) (f : Addr) (cd : Value) (B : Around) (fr : List Env) (z : Shared) (H : Hp) (E : XK) : Cx :=
  (cxOf CX0 P w K mg base N qual (defScope st) f cd B fr z H E).nox

theorem FnG.mk' {x qual : Str} {st : Stmt} {f : Addr} {fd : FuncData} {N ps : List Str} {k : Nat} {sp : Sp}
    (F : Fun K x qual st f fd) (S : FnScope N ps (defScope st)) (len : ∀ vs H Q E, sp vs H Q E → vs.length = ps.length)
    (body : ∀ (cd : Value) (B : Around) (fr : List Env) (z : Shared) (H : Hp) (vs : List V) (Q : VK) (E : XK),
      Room k (B.deeper (envOfC qual (defScope st) z.heap.objs.size f cd)) →
      (B.deeper (envOfC qual (defScope st) z.heap.objs.size f cd)).guards = some [] → sp vs H Q E →
      ∃ t, PSs (bodyX P w K mg base N qual st f cd B fr z H E) (defBody st) t ∧
        t { nx := fun _ H' => Q .non H', rt := Q } (start N vs) H) : FnG P w K mg base (k + 1) f fd ps sp := by
  obtain ⟨oc, od, kV, doc, pm, an, cd, ct, osl, rfl, lk, hc⟩ := F.ex
  constructor
  · exact len
  intro B fr z H ar us vs Q E room guard env bind rel want
  have n1 := len _ _ _ _ want
  have kin : K.In z.heap := env.mod.kin.keeps fun b o e => (env.bs b o e).1
  have lim : z.heap.NoLimit :=
    env.mod.nolimit.keeps fun b o e => (env.bs b o e).1
  have kinds : ∀ y ∈ ps.zip us, (defScope st).names.lookup y.1 = some .local ∨
      ((defScope st).names.lookup y.1 = some .cell ∧
        ((cellsFrom (z.heap.objs.size + 1) (defScope st).names []).lookup y.1).isSome = true) := by
    intro y hy
    rcases S.par y.1 (List.of_mem_zip (show (y.1, y.2) ∈ ps.zip us from hy)).1 with h | h
    · exact Or.inl h
    · exact Or.inr ⟨h, PySem.W.cellsFrom_some _ _ _ (.inl h)⟩
  apply codeAny_call_function room.depth (kin _ _ lk) rfl S.co S.gen rfl (PySem.W.codeRec_of kin hc)
  apply bind
  apply wpAny_newFunctionEnv_cells S.kind kinds
  intro e he z1 ic
  subst he
  refine ⟨lim.keeps ic.toInCall.keep, codeAny_func ?_⟩
  obtain ⟨t, ht, hq⟩ := body cd B fr z H vs Q E (room.deeper _) guard want
  have I0 := inv_start (CX := CX0) (E := E) S room.hd env n1 rel ic
  refine wpAny_mono (ht.nox.run [] z1 (start N vs) H _ I0 hq) ?_ (fun _ _ h => h)
  intro fl z2 h2
  match fl, h2 with
  | .ret u, h2 =>
    obtain ⟨v, σ2, H2, J, rv, q⟩ := h2
    exact ⟨v, H2, J.os, J.bare, J.base, J.hok, rv, q⟩
  | .next, h2 =>
    obtain ⟨σ2, H2, J, q⟩ := h2
    exact ⟨V.non, H2, J.os, J.bare, J.base, J.hok, rfl, q⟩
  | .brk, h2 =>
    obtain ⟨_, _, _, q⟩ := h2
    exact q.elim
  | .cont, h2 =>
    obtain ⟨_, _, _, q⟩ := h2
    exact q.elim

/-- a def of the module, known by its name -/
structure Kn (P : Program) (w : World) (K : PySem.W.Frag) (mg : Str → Option Value) (base : Heap) (nm : Str) (k : Nat) (sp : Sp) : Prop where
  ex : ∃ f fd ps, FnG P w K mg base k f fd ps sp ∧ mg nm = some (.ref f) ∧ PySem.W.keepIn K (.ref f) = true ∧ Binds K fd ps []
theorem Kn.up {nm : Str} {j k : Nat} {sp : Sp} (F : Kn P w K mg base nm j sp) (h : j ≤ k) : Kn P w K mg base nm k sp := by
  obtain ⟨f, fd, ps, a, b⟩ := F.ex
  exact ⟨f, fd, ps, a.up h, b⟩
end

section
variable {X : Cx} {k : Nat} {sp : Sp} {nm : Str} {p pos : Pos} {e : Expr} {es : List Expr} {t : TA}
theorem run_own {pins : List (Addr × Obj)} {σ : L2.St} {H : Hp} {s : Shared} {Q : VK} {us : List Value} {vs : List V} {f : Addr} {fd : FuncData} {ps : List Str}
    (F : FnG X.prog X.w X.K X.mg X.base k f fd ps sp) (room : Room k X.A) (gd : X.A.guards = some []) (hb : Binds X.K fd ps [])
    (I : Inv X pins σ H s) (r : Vals vs us) (h : sp vs H Q E0) : wpAny (model X.prog X.w) X.A (call (.ref f) us) (EP X pins σ Q) X.xe s := by
  have n1 : us.length = ps.length := r.length.symm.trans (F.len _ _ _ _ h)
  have bt := hb s us I.kIn (by rw [List.append_nil]; exact n1)
  rw [List.append_nil] at bt
  apply wpAny_call
  refine codeAny_mono (F.go X.A X.stack s H ⟨us, []⟩ us vs Q E0 room gd I.env0 bt r h) ?_
  intro res z hz
  match res, hz with
  | .error e, hz => exact False.elim hz
  | .ok (.ret u), hz => exact I.after hz
  | .ok .next, hz => exact False.elim hz
  | .ok .brk, hz => exact False.elim hz
  | .ok .cont, hz => exact False.elim hz

theorem pe_own (c : Kn X.prog X.w X.K X.mg X.base nm k sp) (room : Room k X.A) (gd : X.A.guards = some []) (hg : Gl X nm)
    (ha : PA X (e :: es) t) (hdb : (nm == ("__debug__" : Str)) = false := by decide)
    (he : starEach (e :: es) X.env = (false, eval e X.env) :: starEach es X.env := by rfl)
    (hp : (backTo pos (starEach es X.env)).any (·.1) = false := by rfl) : PE X (.Call (.Name nm p) (e :: es) [] pos) (tCall sp [] E0 t) := by
  obtain ⟨f, fd, ps, F, hm, hk, hb⟩ := c.ex
  constructor
  intro pins s σ H Q I h
  apply wpAny_Call_Name_kw
  refine ld_glob I hg hm ?_ hdb
  refine PySem.W.callWith_K (h₀ := X.base) I.ok.mod.kin hk ?_ he hp
  refine thn (ha.run pos pins s σ H _ I h) ?_
  rintro us s1 ⟨vs, H1, I1, r, q⟩
  rw [List.append_nil] at q
  exact ⟨I1.kIn, run_own F room gd hb I1 r q⟩
end
/-! Data in the abstract heap; what repr, isinstance and an item's in-place operator ask of it. -/

/-! ### values that hold data; none of their objects stands in M -/
mutual
inductive Dn (M : List Addr) (H : Hp) : V → PyData → Prop
  | non : Dn M H .non .none
  | bl (b : Bool) : Dn M H (.bl b) (.bool b)
  | int (i : Int) : Dn M H (.int i) (.int i)
  | str (x : Str) : Dn M H (.str x) (.str x)
  | lst {a : Addr} {xs : List V} {ds : List PyData} : H a = some (.lst xs) → a ∉ M → DnAll M H xs ds → Dn M H (.ref a) (.list ds)
  | tup {a : Addr} {xs : List V} {ds : List PyData} : H a = some (.tup xs) → a ∉ M → DnAll M H xs ds → Dn M H (.ref a) (.tuple ds)
  | dic {a : Addr} {kvs : List (Key × V)} {ds : List (PyData × PyData)} : H a = some (.dK kvs) → a ∉ M → DnAll M H (kvs.map fun p => kV p.1) (ds.map (·.1)) → DnAll M H (kvs.map (·.2)) (ds.map (·.2)) → Dn M H (.ref a) (.dict ds)
inductive DnAll (M : List Addr) (H : Hp) : List V → List PyData → Prop
  | nil : DnAll M H [] []
  | cons {v : V} {vs : List V} {d : PyData} {ds : List PyData} : Dn M H v d → DnAll M H vs ds → DnAll M H (v :: vs) (d :: ds)
end

/-- all that was tracked outside M is as it was -/
def Ext (M : List Addr) (H H' : Hp) : Prop := ∀ a o, a ∉ M → H a = some o → H' a = some o
theorem Ext.refl (M : List Addr) (H : Hp) : Ext M H H := fun _ _ _ h => h
theorem Ext.trans {M : List Addr} {H H1 H2 : Hp} (a : Ext M H H1) (b : Ext M H1 H2) : Ext M H H2 := fun c o n h => b c o n (a c o n h)
theorem Ext.mono {M M' : List Addr} {H H1 : Hp} (a : Ext M H H1) (h : ∀ c, c ∈ M → c ∈ M') : Ext M' H H1 := fun c o n e => a c o (fun m => n (h c m)) e
theorem Ext.same {M : List Addr} {H H1 : Hp} (a : Same H H1) : Ext M H H1 := fun c o _ h => a c o h
theorem Ext.toSame {H H1 : Hp} (a : Ext [] H H1) : Same H H1 := fun c o h => a c o (by simp) h
theorem same_upd {H : Hp} {p : Addr} {o : HO} (h : H p = none) : Same H (upd H p o) := fun b x e => by
  rw [upd_ne (ne_of_none e h)]; exact e
theorem Ext.upd {M : List Addr} {H : Hp} {p : Addr} {o : HO} (h : p ∈ M) : Ext M H (upd H p o) := fun b x n e => by
  rw [upd_ne (show b ≠ p from fun z => n (by rw [z]; exact h))]; exact e

mutual
theorem Dn.ext {M : List Addr} {H H' : Hp} (e : Ext M H H') : ∀ {v : V} {d : PyData}, Dn M H v d → Dn M H' v d
  | _, _, .non => .non
  | _, _, .bl b => .bl b
  | _, _, .int i => .int i
  | _, _, .str x => .str x
  | _, _, .lst h n a => .lst (e _ _ n h) n (DnAll.ext e a)
  | _, _, .tup h n a => .tup (e _ _ n h) n (DnAll.ext e a)
  | _, _, .dic h n a b => .dic (e _ _ n h) n (DnAll.ext e a) (DnAll.ext e b)
theorem DnAll.ext {M : List Addr} {H H' : Hp} (e : Ext M H H') : ∀ {v : List V} {d : List PyData}, DnAll M H v d → DnAll M H' v d
  | _, _, .nil => .nil
  | _, _, .cons a b => .cons (Dn.ext e a) (DnAll.ext e b)
end
/-! the avoided addresses may be others, where none of the data's objects stands in them -/
mutual
theorem Dn.avoid {M M' : List Addr} {H : Hp} (h : ∀ a o, a ∉ M → H a = some o → a ∉ M') : ∀ {v : V} {d : PyData}, Dn M H v d → Dn M' H v d
  | _, _, .non => .non
  | _, _, .bl b => .bl b
  | _, _, .int i => .int i
  | _, _, .str x => .str x
  | _, _, .lst e n a => .lst e (h _ _ n e) (DnAll.avoid h a)
  | _, _, .tup e n a => .tup e (h _ _ n e) (DnAll.avoid h a)
  | _, _, .dic e n a b => .dic e (h _ _ n e) (DnAll.avoid h a) (DnAll.avoid h b)
theorem DnAll.avoid {M M' : List Addr} {H : Hp} (h : ∀ a o, a ∉ M → H a = some o → a ∉ M') : ∀ {v : List V} {d : List PyData}, DnAll M H v d → DnAll M' H v d
  | _, _, .nil => .nil
  | _, _, .cons a b => .cons (Dn.avoid h a) (DnAll.avoid h b)
end
theorem Dn.sub {M M' : List Addr} {H : Hp} (h : ∀ a, a ∈ M' → a ∈ M) {v : V} {d : PyData} (x : Dn M H v d) : Dn M' H v d := x.avoid fun a _ n _ m => n (h a m)
theorem DnAll.sub {M M' : List Addr} {H : Hp} (h : ∀ a, a ∈ M' → a ∈ M) {v : List V} {d : List PyData} (x : DnAll M H v d) : DnAll M' H v d := x.avoid fun a _ n _ m => n (h a m)
theorem Dn.more {M : List Addr} {H : Hp} {p : Addr} (hp : H p = none) {v : V} {d : PyData} (x : Dn M H v d) : Dn (p :: M) H v d := x.avoid fun a o n e m => by
  rcases List.mem_cons.mp m with rfl | m
  · rw [hp] at e; cases e
  · exact n m
theorem DnAll.length {M : List Addr} {H : Hp} : ∀ {v : List V} {d : List PyData}, DnAll M H v d → v.length = d.length
  | _, _, .nil => rfl
  | _, _, .cons _ b => by simp [DnAll.length b]
theorem DnAll.get {M : List Addr} {H : Hp} : ∀ {v : List V} {d : List PyData} {i : Nat} {x : V}, DnAll M H v d → v[i]? = some x → ∃ y, d[i]? = some y ∧ Dn M H x y
  | _, _, _, _, .nil, e => by simp at e
  | _, _, 0, _, .cons a _, e => by simp at e; subst e; exact ⟨_, rfl, a⟩
  | _, _, i + 1, x, .cons _ b, e => by
    obtain ⟨y, h1, h2⟩ := DnAll.get (i := i) (x := x) b (by simpa using e)
    exact ⟨y, by simpa using h1, h2⟩
theorem DnAll.app {M : List Addr} {H : Hp} : ∀ {v w : List V} {d e : List PyData}, DnAll M H v d → DnAll M H w e → DnAll M H (v ++ w) (d ++ e)
  | _, _, _, _, .nil, s => s
  | _, _, _, _, .cons a b, s => .cons a (DnAll.app b s)
theorem DnAll.take {M : List Addr} {H : Hp} : ∀ {v : List V} {d : List PyData} (n : Nat), DnAll M H v d → DnAll M H (v.take n) (d.take n)
  | _, _, 0, _ => .nil
  | _, _, _ + 1, .nil => .nil
  | _, _, n + 1, .cons a b => .cons a (DnAll.take n b)
theorem DnAll.drop {M : List Addr} {H : Hp} : ∀ {v : List V} {d : List PyData} (n : Nat), DnAll M H v d → DnAll M H (v.drop n) (d.drop n)
  | _, _, 0, r => r
  | _, _, _ + 1, .nil => .nil
  | _, _, n + 1, .cons _ b => DnAll.drop n b
theorem DnAll.ints {M : List Addr} {H : Hp} : ∀ (ns : List Int), DnAll M H (ns.map V.int) (ns.map PyData.int)
  | [] => .nil
  | n :: r => .cons (.int n) (DnAll.ints r)

/-! ### the library's reading of such a value -/
section
variable {X : Cx} {pins : List (Addr × Obj)} {σ : L2.St} {H : Hp} {s : Shared} {M : List Addr}
theorem pairs_split {P : Program} {w : World} : ∀ {es : List DictEntry} {kvs : List (Key × V)} {vs : List (Key × Value)}, KV kvs vs → Pairs (mixKind P w) es vs →
    Vals (kvs.map fun p => kV p.1) (es.map (·.key)) ∧ Vals (kvs.map (·.2)) (es.map (·.val))
  | _, _, _, .nil, .nil => ⟨.nil, .nil⟩
  | _, _, _, .cons (a := p) (b := q) r t, .cons (e := e) h1 h2 h3 => by
    obtain ⟨a, b⟩ := pairs_split t h3
    have h1 : keyIs q.1 e.key = true := h1
    rw [← r.1] at h1
    refine ⟨.cons (show RelV (kV p.1) e.key from ?_) a, .cons (show RelV p.2 e.val from by rw [h2]; exact r.2) b⟩
    rcases keyIs_shape h1 with ⟨i, u, e1, e2⟩ | ⟨x, u, e1, e2⟩
    · rw [e1, e2]; exact ⟨u, rfl⟩
    · rw [e1, e2]; exact ⟨u, rfl⟩
mutual
theorem Dn.reads (I : Inv X pins σ H s) : ∀ (d : PyData) (v : V) (u : Value), Dn M H v d → RelV v u → ∃ as, Reads s.heap u d as ∧ ∀ a ∈ as, H a ≠ none
  | .none, _, _, h, r => by cases h; cases r; exact ⟨_, .none, by simp⟩
  | .bool b, _, _, h, r => by cases h; cases r; exact ⟨_, .bool b, by simp⟩
  | .int i, _, _, h, r => by
    cases h
    obtain ⟨t, rfl⟩ := r
    exact ⟨_, .int i t, by simp⟩
  | .str x, _, _, h, r => by
    cases h
    obtain ⟨t, rfl⟩ := r
    exact ⟨_, .str x t, by simp⟩
  | .list ds, _, _, h, r => by
    cases h with
    | lst e _ ha =>
      cases r
      obtain ⟨_, its, n, rv, ho⟩ := I.hok _ _ e
      obtain ⟨as, hr, hn⟩ := DnAll.reads I ds _ its ha rv
      refine ⟨_, .list ho rfl rfl hr, fun b hb => ?_⟩
      rcases List.mem_cons.mp hb with rfl | hb
      · rw [e]; simp
      · exact hn b hb
  | .tuple ds, _, _, h, r => by
    cases h with
    | tup e _ ha =>
      cases r
      obtain ⟨_, its, rv, ⟨o, ho, hc, n, hd⟩⟩ := I.hok _ _ e
      obtain ⟨as, hr, hn⟩ := DnAll.reads I ds _ its ha rv
      exact ⟨_, .tuple ho hc hd hr, hn⟩
  | .dict ds, _, _, h, r => by
    cases h with
    | dic e _ ha hb =>
      cases r
      obtain ⟨_, _, vs, kv, o, es, ep, ho, ex, hd, hk, hp, _⟩ := I.hok _ _ e
      obtain ⟨r1, r2⟩ := pairs_split kv hp
      obtain ⟨as, q1, n1⟩ := Dn.readsK I ds _ _ ha r1
      obtain ⟨bs, q2, n2⟩ := Dn.readsV I ds _ _ hb r2
      refine ⟨_, .dict ho ex.1 hd q1 q2, fun b hb => ?_⟩
      rcases List.mem_append.mp hb with hb | hb
      · rcases List.mem_cons.mp hb with rfl | hb
        · rw [e]; simp
        · exact n1 b hb
      · exact n2 b hb
theorem DnAll.reads (I : Inv X pins σ H s) : ∀ (ds : List PyData) (vs : List V) (us : List Value), DnAll M H vs ds → Vals vs us → ∃ as, ReadsAll s.heap us ds as ∧ ∀ a ∈ as, H a ≠ none
  | [], _, _, h, r => by cases h; cases r; exact ⟨_, .nil, by simp⟩
  | d :: ds, _, _, h, r => by
    cases h with
    | cons h1 h2 =>
      cases r with
      | cons r1 r2 =>
        obtain ⟨as, q1, n1⟩ := Dn.reads I d _ _ h1 r1
        obtain ⟨bs, q2, n2⟩ := DnAll.reads I ds _ _ h2 r2
        exact ⟨_, .cons q1 q2, fun b hb => (List.mem_append.mp hb).elim (n1 b) (n2 b)⟩
theorem Dn.readsK (I : Inv X pins σ H s) : ∀ (ds : List (PyData × PyData)) (vs : List V) (us : List Value), DnAll M H vs (ds.map (·.1)) → Vals vs us → ∃ as, ReadsAll s.heap us (ds.map (·.1)) as ∧ ∀ a ∈ as, H a ≠ none
  | [], _, _, h, r => by cases h; cases r; exact ⟨_, .nil, by simp⟩
  | (d, _) :: ds, _, _, h, r => by
    cases h with
    | cons h1 h2 =>
      cases r with
      | cons r1 r2 =>
        obtain ⟨as, q1, n1⟩ := Dn.reads I d _ _ h1 r1
        obtain ⟨bs, q2, n2⟩ := Dn.readsK I ds _ _ h2 r2
        exact ⟨_, .cons q1 q2, fun b hb => (List.mem_append.mp hb).elim (n1 b) (n2 b)⟩
theorem Dn.readsV (I : Inv X pins σ H s) : ∀ (ds : List (PyData × PyData)) (vs : List V) (us : List Value), DnAll M H vs (ds.map (·.2)) → Vals vs us → ∃ as, ReadsAll s.heap us (ds.map (·.2)) as ∧ ∀ a ∈ as, H a ≠ none
  | [], _, _, h, r => by cases h; cases r; exact ⟨_, .nil, by simp⟩
  | (_, d) :: ds, _, _, h, r => by
    cases h with
    | cons h1 h2 =>
      cases r with
      | cons r1 r2 =>
        obtain ⟨as, q1, n1⟩ := Dn.reads I d _ _ h1 r1
        obtain ⟨bs, q2, n2⟩ := Dn.readsV I ds _ _ h2 r2
        exact ⟨_, .cons q1 q2, fun b hb => (List.mem_append.mp hb).elim (n1 b) (n2 b)⟩
end

/-! ### repr of data -/
/-- data that repr shows within the model's limits -/
structure Shows (d : PyData) : Prop where
  sh : d.showable = true
  sz : d.shown.length ≤ 8000000
  dp : d.depth ≤ 20
def rRepr : List V → Hp → VK → Prop := fun xs H Q => ∃ x d M, xs = [x] ∧ Dn M H x d ∧ Shows d ∧ Q (.str d.shown) H
theorem call_reprD (gd : X.A.guards = some []) (hu : X.A.units + 64 < cLine) (sys : ∃ o, X.base.get? sysModules = some o) : CallR X (.builtin "repr") rRepr := by
  intro pins s σ H xs us Q I r h
  obtain ⟨x, d, M, rfl, hd, hs, q⟩ := h
  obtain ⟨u, rfl, rx⟩ := vals1 r
  obtain ⟨as, rd, hn⟩ := Dn.reads I d x u hd rx
  obtain ⟨o, ho⟩ := sys
  have hm : sysModules ∉ as := fun m => hn _ m (I.bs _ _ ho).2
  have hz : d.shown.length ≤ sizeLine := Nat.le_trans hs.sz (by decide)
  have big : ∀ {a : Addr}, u = .ref a → wpAny (model X.prog X.w) X.A (call (.builtin "repr") [u]) (EP X pins σ Q) X.xe s := by
    rintro a rfl
    refine repr_of_reads' rd hs.sh (fun _ => hm) gd (by have := hs.dp; omega) (fun _ _ e => e) (fun h' u tk hk => ?_) hz
    exact ⟨.str d.shown, H, I.kept hk, ⟨u, rfl⟩, q⟩
  cases rd with
  | none => exact P.repr_of_none ⟨.str _, H, I.tok _, ⟨_, rfl⟩, by simpa only [PyData.shown] using q⟩
  | bool b => exact P.repr_of_bool ⟨.str _, H, I.tok _, ⟨_, rfl⟩, by simpa only [PyData.shown] using q⟩
  | int i t => exact P.repr_of_int (by simpa [PyData.showable] using hs.sh) ⟨.str _, H, I.tok _, ⟨_, rfl⟩, by simpa only [PyData.shown] using q⟩
  | str y t => exact P.repr_of_str ⟨.str _, H, I.tok _, ⟨_, rfl⟩, by simpa only [PyData.shown] using q⟩ (by simpa only [PyData.shown] using hz)
  | list _ _ _ _ => exact big rfl
  | tuple _ _ _ _ => exact big rfl
  | dict _ _ _ _ _ => exact big rfl

/-! ### isinstance of data -/
def tyD : PyData → String
  | .none => "NoneType"
  | .bool _ => "bool"
  | .int _ => "int"
  | .str _ => "str"
  | .list _ => "list"
  | .tuple _ => "tuple"
  | .dict _ => "dict"
theorem Dn.ty {K : PySem.W.Frag} {v : V} {d : PyData} (h : Dn M H v d) : TyX K H v (.type (tyD d)) := by
  cases h with
  | non => exact .base .non
  | bl b => exact .base (.bl b)
  | int i => exact .base (.int i)
  | str x => exact .base (.str x)
  | lst e _ _ => exact .base (.lst e)
  | tup e _ _ => exact .base (.tup e)
  | dic e _ _ _ => exact .base (.dK e)
/-- isinstance(x, int), .. of data -/
def isT (T : String) (d : PyData) : Bool := (kitB (tyD d) T).getD false
theorem kit_isT {T : String} (hT : T = "int" ∨ T = "bool" ∨ T = "list" ∨ T = "tuple" ∨ T = "str" ∨ T = "dict") : ∀ d : PyData, kitB (tyD d) T = some (isT T d) := by
  intro d
  rcases hT with rfl | rfl | rfl | rfl | rfl | rfl <;> cases d <;> simp only [tyD, isT] <;> decide +kernel
theorem isT_int : ∀ d, isT "int" d = (match d with | .int _ => true | .bool _ => true | _ => false) := by intro d; cases d <;> simp only [tyD, isT] <;> decide +kernel
theorem isT_bool : ∀ d, isT "bool" d = (match d with | .bool _ => true | _ => false) := by intro d; cases d <;> simp only [tyD, isT] <;> decide +kernel
theorem isT_list : ∀ d, isT "list" d = (match d with | .list _ => true | _ => false) := by intro d; cases d <;> simp only [tyD, isT] <;> decide +kernel
theorem isT_tuple : ∀ d, isT "tuple" d = (match d with | .tuple _ => true | _ => false) := by intro d; cases d <;> simp only [tyD, isT] <;> decide +kernel
def rIsD : List V → Hp → VK → Prop := fun xs H Q => ∃ x T d M, xs = [x, .ty T] ∧ Dn M H x d ∧ (T = "int" ∨ T = "bool" ∨ T = "list" ∨ T = "tuple" ∨ T = "str" ∨ T = "dict") ∧ Q (.bl (isT T d)) H
theorem call_isD : CallR X (.builtin "isinstance") rIsD := by
  intro pins s σ H xs us Q I r h
  obtain ⟨x, T, d, M, rfl, hd, hT, q⟩ := h
  exact call_isi pins s σ H _ us Q I r ⟨x, .ty T, .type (tyD d), .type T, isT T d, rfl, .ty T, hd.ty, kit_ty (kit_isT hT d), q⟩

/-! ### xs[i] op= e of a list -/
def rGetL : V → V → Hp → VK → Prop := fun x y H Q => ∃ p xs i j v, x = .ref p ∧ y = .int i ∧ H p = some (.lst xs) ∧ i = (j : Nat) ∧ xs[j]? = some v ∧ Q v H
theorem get_list : PGet X rGetL := by
  intro pins s σ H x y u v Q I rx ry h
  obtain ⟨p, xs, i, j, z, rfl, rfl, hp, rfl, hj, q⟩ := h
  cases rx
  obtain ⟨t, rfl⟩ := ry
  obtain ⟨its, r, pl, hz⟩ := I.list (SqL.of hp)
  obtain ⟨w, ew, rw'⟩ := r.get hj
  have hn := line63
  have hl : j < xs.length := (List.getElem?_eq_some_iff.mp hj).1
  exact wpAny_getItem_list pl.isList (by omega) (by omega) (by simpa using ew) ⟨z, H, I, rw', q⟩
end
/-! Readings, one step each. -/

section
variable {X : Cx} {K : PySem.W.Frag} {σ : L2.St} {H : Hp} {Q : VK} {D : Ends} {t u : TS} {te ta tb tc : TE} {tr : TA} {c d : TT} {QT : Bool → Hp → Prop} {QA : List V → Hp → Prop}
-- statements
theorem x_seq (h : t { D with nx := u D } σ H) : tSeq t u D σ H := h
theorem x_next (h : D.nx σ H) : tNext D σ H := h
theorem x_asg {g : TG} (h : te σ H fun x H1 => g x σ H1 D.nx) : tAsg te g D σ H := h
theorem x_name {i : Nat} {v : V} {Qs : L2.St → Hp → Prop} (h : Qs (σ.set i (some v)) H) : gName i v σ H Qs := h
theorem x_drop (h : te σ H fun _ H1 => D.nx σ H1) : tDrop te D σ H := h
theorem x_ret (h : te σ H D.rt) : tRet te D σ H := h
theorem x_retN (h : D.rt .non H) : tRetN D σ H := h
theorem x_ifS (h : c σ H fun b H1 => if b = true then t D σ H1 else u D σ H1) : tIfS c t u D σ H := h
theorem x_break (h : D.bk σ H) : tBreak D σ H := h
theorem x_cont (h : D.ct σ H) : tCont D σ H := h
theorem x_aug {i : Nat} {x : V} {ti : TIp} (e : σ[i]? = some (some x)) (h : te σ H fun y H1 => ti x y H1 fun z H2 => D.nx (σ.set i (some z)) H2) : tAug i te ti D σ H := ⟨x, e, h⟩
theorem x_augS {to ti : TE} {g : V → V → Hp → VK → Prop} {p : TIp} {s : TSet} (h : to σ H fun o H1 => ti σ H1 fun i H2 => g o i H2 fun x H3 => te σ H3 fun y H4 => p x y H4 fun z H5 => s o i z H5 fun H6 => D.nx σ H6) : tAugS to ti te g p s D σ H := h
theorem x_par {i j : Nat} (h : tr σ H fun vs H1 => ∃ v w, vs = [v, w] ∧ D.nx ((σ.set i (some v)).set j (some w)) H1) : tPar i j tr D σ H := h
theorem x_par2 {v w : V} {P : V → V → Hp → Prop} (h : P v w H) : ∃ v' w', [v, w] = [v', w'] ∧ P v' w' H := ⟨v, w, rfl, h⟩
theorem x_gsub {to ti : TE} {s : TSet} {v : V} {Qs : L2.St → Hp → Prop} (h : to σ H fun o H1 => ti σ H1 fun i H2 => s o i v H2 fun H3 => Qs σ H3) : gSub to ti s v σ H Qs := h
-- expressions
theorem x_var {i : Nat} {v : V} (e : σ[i]? = some (some v)) (h : Q v H) : tVar i σ H Q := ⟨v, e, h⟩
theorem x_c {v : V} (h : Q v H) : tC v σ H Q := h
theorem x_op {r : R2} (h : ta σ H fun x H1 => tb σ H1 fun y H2 => r x y H2 Q) : tOp r ta tb σ H Q := h
theorem x_un {r : V → Hp → VK → Prop} (h : ta σ H fun x H1 => r x H1 Q) : tUn r ta σ H Q := h
theorem x_call {sp : Sp} {E : XK} (h : tr σ H fun vs H1 => sp vs H1 Q E) : tCall sp [] E tr σ H Q := by
  have e : (fun vs H1 => sp (vs ++ []) H1 Q E) = fun vs H1 => sp vs H1 Q E := by funext vs H1; rw [List.append_nil]
  show tr σ H fun vs H1 => sp (vs ++ []) H1 Q E
  rw [e]; exact h
theorem x_cb {r : List V → Hp → VK → Prop} (h : tr σ H fun vs H1 => r vs H1 Q) : tCB r tr σ H Q := h
theorem x_nil (h : QA [] H) : tNil σ H QA := h
theorem x_cons (h : te σ H fun x H1 => tr σ H1 fun xs H2 => QA (x :: xs) H2) : tCons te tr σ H QA := h
theorem x_tup (h : tr σ H fun xs H1 => xs.length ≤ sizeLine ∧ ∀ p, H1 p = none → Q (.ref p) (upd H1 p (.tup xs))) : tTup tr σ H Q := h
theorem x_lst (h : tr σ H fun xs H1 => xs.length ≤ sizeLine ∧ ∀ p, H1 p = none → Q (.ref p) (upd H1 p (.lst xs))) : tLst tr σ H Q := h
theorem x_new {xs : List V} {P : Prop} (z : xs.length ≤ 100000) (h : P) : xs.length ≤ sizeLine ∧ P := ⟨Nat.le_trans z (by decide), h⟩
theorem x_if (h : c σ H fun b H1 => if b = true then ta σ H1 Q else tb σ H1 Q) : tIf c ta tb σ H Q := h
theorem x_andV (h : ta σ H fun x H1 => ∃ k, x = .bl k ∧ if k = true then tb σ H1 Q else Q (.bl false) H1) : tAndV ta tb σ H Q := h
theorem x_orV (h : ta σ H fun x H1 => ∃ k, x = .bl k ∧ if k = true then Q (.bl true) H1 else tb σ H1 Q) : tOrV ta tb σ H Q := h
theorem x_andP {b1 b2 : Bool} (ha : ∀ Q : VK, Q (.bl b1) H → ta σ H Q) (hb : b1 = true → ∀ Q : VK, Q (.bl b2) H → tb σ H Q) (h : Q (.bl (b1 && b2)) H) : tAndV ta tb σ H Q := by
  refine ha _ ⟨b1, rfl, ?_⟩
  cases b1
  · rw [if_neg Bool.false_ne_true]; exact h
  · rw [if_pos rfl]; exact hb rfl _ (by rw [Bool.true_and] at h; exact h)
theorem x_notV (h : ta σ H fun x H1 => ∃ k, x = .bl k ∧ Q (.bl (!k)) H1) : tNotV ta σ H Q := h
theorem x_chain {r r' : R2} (h : ta σ H fun x H1 => tb σ H1 fun y H2 => r x y H2 fun z H3 => ∃ k, z = .bl k ∧ if k = true then tc σ H3 fun z H4 => r' y z H4 Q else Q (.bl false) H3) : tChain r r' ta tb tc σ H Q := h
-- tests
theorem x_test (h : te σ H fun x H1 => ∃ k, x = .bl k ∧ QT k H1) : tTest te σ H QT := h
theorem x_B (h : te σ H fun x H1 => ∃ k, x = .bl k ∧ QT k H1) : tB te σ H QT := h
theorem x_and (h : c σ H fun b H1 => if b = true then d σ H1 QT else QT false H1) : tAnd c d σ H QT := h
theorem x_or (h : c σ H fun b H1 => if b = true then QT true H1 else d σ H1 QT) : tOr c d σ H QT := h
theorem x_not (h : c σ H fun b H1 => QT (!b) H1) : tNot c σ H QT := h
theorem x_yes (h : QT true H) : tYes σ H QT := h
theorem x_bl {b : Bool} {P : Bool → Prop} (h : P b) : ∃ k, V.bl b = V.bl k ∧ P k := ⟨b, rfl, h⟩
theorem x_ite {p : Prop} [Decidable p] {A B : Prop} (h1 : p → A) (h2 : ¬ p → B) : if decide p = true then A else B := by
  by_cases h : p
  · rw [if_pos (decide_eq_true h)]; exact h1 h
  · rw [if_neg (by rw [decide_eq_false h]; exact Bool.false_ne_true)]; exact h2 h
theorem x_iteN {p : Prop} [Decidable p] {A B : Prop} (h1 : ¬ p → A) (h2 : p → B) : if (!decide p) = true then A else B := by
  by_cases h : p
  · rw [if_neg (by rw [decide_eq_true h]; decide)]; exact h2 h
  · rw [if_pos (by rw [decide_eq_false h]; rfl)]; exact h1 h
theorem x_iteB {b : Bool} {A B : Prop} (h1 : b = true → A) (h2 : b = false → B) : if b = true then A else B := by
  cases b
  · rw [if_neg Bool.false_ne_true]; exact h2 rfl
  · rw [if_pos rfl]; exact h1 rfl
theorem x_iteNB {b : Bool} {A B : Prop} (h1 : b = false → A) (h2 : b = true → B) : if (!b) = true then A else B := by
  cases b
  · rw [if_pos (show (!false) = true from rfl)]; exact h1 rfl
  · rw [if_neg (show ¬ (!true) = true by decide)]; exact h2 rfl
theorem x_iteT {A B : Prop} (h : A) : if true = true then A else B := by rw [if_pos rfl]; exact h
theorem x_iteF {A B : Prop} (h : B) : if false = true then A else B := by rw [if_neg Bool.false_ne_true]; exact h
theorem x_iteNF {A B : Prop} (h : A) : if (!false) = true then A else B := by rw [if_pos (show (!false) = true from rfl)]; exact h
theorem x_iteNT {A B : Prop} (h : B) : if (!true) = true then A else B := by rw [if_neg (by decide)]; exact h
-- values
theorem x_I0 {g : Int → Int → V} {i j : Int} (h : Q (g i j) H) : rI0 g (.int i) (.int j) H Q := ⟨i, j, rfl, rfl, h⟩
theorem x_U {g : Int → V} {i : Int} (h : Q (g i) H) : rU g (.int i) H Q := ⟨i, rfl, h⟩
theorem x_ipI {f : Int → Int → Int} {i j : Int} (h : Q (.int (f i j)) H) : ipI f (.int i) (.int j) H Q := ⟨i, j, rfl, rfl, h⟩
theorem x_eqI {i j : Int} (h : Q (.bl (decide (i = j))) H) : rEq (.int i) (.int j) H Q := by
  refine ⟨rfl, ?_⟩
  have e : decide (V.int i = V.int j) = decide (i = j) := by
    by_cases h : i = j
    · subst h; simp
    · rw [decide_eq_false h, decide_eq_false (fun z => h (V.int.inj z))]
  rw [e]; exact h
theorem x_neI {i j : Int} (h : Q (.bl (!decide (i = j))) H) : rNe (.int i) (.int j) H Q := by
  refine ⟨rfl, ?_⟩
  have e : decide (V.int i = V.int j) = decide (i = j) := by
    by_cases h : i = j
    · subst h; simp
    · rw [decide_eq_false h, decide_eq_false (fun z => h (V.int.inj z))]
  rw [e]; exact h
theorem x_eqS {i j : Str} (h : Q (.bl (decide (i = j))) H) : rEq (.str i) (.str j) H Q := by
  refine ⟨rfl, ?_⟩
  have e : decide (V.str i = V.str j) = decide (i = j) := by
    by_cases h : i = j
    · subst h; simp
    · rw [decide_eq_false h, decide_eq_false (fun z => h (V.str.inj z))]
  rw [e]; exact h
theorem x_neS {i j : Str} (h : Q (.bl (!decide (i = j))) H) : rNe (.str i) (.str j) H Q := by
  refine ⟨rfl, ?_⟩
  have e : decide (V.str i = V.str j) = decide (i = j) := by
    by_cases h : i = j
    · subst h; simp
    · rw [decide_eq_false h, decide_eq_false (fun z => h (V.str.inj z))]
  rw [e]; exact h
theorem x_ixL {p : Addr} {xs : List V} {i : Int} {v : V} (hp : SqL K H p xs) (e : atI xs i = some v) (h : Q v H) : rIxL K (.ref p) (.int i) H Q := ⟨p, xs, i, v, rfl, rfl, hp, e, h⟩
theorem x_ixT {p : Addr} {xs : List V} {i : Int} {v : V} (hp : SqT K H p xs) (e : atI xs i = some v) (h : Q v H) : rIxT K (.ref p) (.int i) H Q := ⟨p, xs, i, v, rfl, rfl, hp, e, h⟩
theorem x_getL {p : Addr} {xs : List V} {i : Int} {v : V} (hp : H p = some (.lst xs)) (hi : i = (i.toNat : Nat)) (e : xs[i.toNat]? = some v) (h : Q v H) : rGetL (.ref p) (.int i) H Q := ⟨p, xs, i, i.toNat, v, rfl, rfl, hp, hi, e, h⟩
theorem x_setL {p : Addr} {xs : List V} {i : Int} {j : Nat} {v : V} {P : Hp → Prop} (hp : H p = some (.lst xs)) (e : ixN xs.length i = some j) (h : P (upd H p (.lst (xs.set j v)))) : rSetL (.ref p) (.int i) v H P := ⟨p, xs, i, j, rfl, rfl, hp, e, h⟩
theorem x_len {p : Addr} {xs : List V} {Z : List V → Prop} (hp : SqL K H p xs) (h : Z xs) : ∃ p' ys, [V.ref p] = [V.ref p'] ∧ (SqL K H p' ys ∨ SqT K H p' ys) ∧ Z ys := ⟨p, xs, rfl, .inl hp, h⟩
theorem x_lenT {p : Addr} {xs : List V} {Z : List V → Prop} (hp : SqT K H p xs) (h : Z xs) : ∃ p' ys, [V.ref p] = [V.ref p'] ∧ (SqL K H p' ys ∨ SqT K H p' ys) ∧ Z ys := ⟨p, xs, rfl, .inr hp, h⟩
theorem x_int1 {i : Int} {Z : Int → Prop} (h : Z i) : ∃ j, [V.int i] = [V.int j] ∧ Z j := ⟨i, rfl, h⟩
theorem x_toTup {p : Addr} {xs : List V} {Z : List V → Prop} {Y : Addr → List V → Prop} (hp : SqL K H p xs) (h : Z xs) : ∃ p' ys, [V.ref p] = [V.ref p'] ∧ ((SqL K H p' ys ∧ Z ys) ∨ Y p' ys) := ⟨p, xs, rfl, .inl ⟨hp, h⟩⟩
theorem x_all {p : Addr} {bs : List Bool} (hp : SqL K H p (bs.map V.bl)) (h : Q (.bl (bs.all id)) H) : rAll K [.ref p] H Q := ⟨p, bs, rfl, hp, h⟩
theorem x_cat {p q : Addr} {xs ys : List V} (hp : H p = some (.lst xs)) (hq : H q = some (.lst ys)) (z : xs.length + ys.length ≤ sizeLine) (h : ∀ l, H l = none → Q (.ref l) (upd H l (.lst (xs ++ ys)))) : rCat (.ref p) (.ref q) H Q := ⟨p, q, xs, ys, rfl, rfl, hp, hq, z, h⟩
theorem x_rep {p : Addr} {k : Int} {xs : List V} (hp : H p = some (.lst xs)) (h1 : -(2 ^ 63) ≤ k) (h2 : k < 2 ^ 63) (z : xs.length * k.toNat ≤ sizeLine) (h : ∀ l, H l = none → Q (.ref l) (upd H l (.lst (List.replicate k.toNat xs).flatten))) : rRep (.ref p) (.int k) H Q := ⟨p, k, xs, rfl, rfl, hp, h1, h2, z, h⟩
theorem x_slL {p : Addr} {xs : List V} {lo hi : Option Int} (hp : SqL K H p xs) (h : ∀ l, H l = none → Q (.ref l) (upd H l (.lst (cutV xs lo hi)))) : rSlL K (.ref p) lo hi H Q := ⟨p, xs, rfl, hp, h⟩
theorem x_sl {r : V → Option Int → Option Int → Hp → VK → Prop} {tl th : TO} (h : te σ H fun x H1 => tl σ H1 fun l H2 => th σ H2 fun u H3 => r x l u H3 Q) : tSl r te tl th σ H Q := h
theorem x_noPart {QO : Option Int → Hp → Prop} (h : QO none H) : tNoPart σ H QO := h
theorem x_part {QO : Option Int → Hp → Prop} (h : te σ H fun x H1 => ∃ i, x = .int i ∧ QO (some i) H1) : tPart te σ H QO := h
theorem x_isI {i : Int} {Z : Int → Prop} (h : Z i) : ∃ j, V.int i = V.int j ∧ Z j := ⟨i, rfl, h⟩
theorem x_isD {M : List Addr} {x : V} {T : String} {d : PyData} (hd : Dn M H x d) (hT : T = "int" ∨ T = "bool" ∨ T = "list" ∨ T = "tuple" ∨ T = "str" ∨ T = "dict") (h : Q (.bl (isT T d)) H) : rIsD [x, .ty T] H Q := ⟨x, T, d, M, rfl, hd, hT, h⟩
theorem x_repr {M : List Addr} {x : V} {d : PyData} (hd : Dn M H x d) (hs : Shows d) (h : Q (.str d.shown) H) : rRepr [x] H Q := ⟨x, d, M, rfl, hd, hs, h⟩
theorem x_dnew {H : Hp} {Q : VK} {σ : L2.St} (h : ∀ p, H p = none → Q (.ref p) (upd H p (.dK []))) : tDNewK σ H Q := h
theorem x_disp {H : Hp} {Q : VK} {σ : L2.St} {trs : List (TE × TE)} (h : ∀ p, H p = none → tPairs trs σ (upd H p (.dK [])) fun ps H2 => H2 p = some (.dK []) ∧ ∃ kvs : List (Key × V), ps = kvs.map (fun kv => (kV kv.1, kv.2)) ∧ kvs.length ≤ 15 ∧ Q (.ref p) (upd H2 p (.dK (mergeK [] kvs)))) : tDisp trs σ H Q := h
-- loops
theorem x_for {wi : TI} {g : TG} {tb : TS} (h : wi σ H fun J H1 => ∃ W : Nat → Nat → L2.St → Hp → Prop, (∃ m, W 0 m σ H1) ∧ ∀ i m σ H, W i m σ H →
    (J.stop i H ∧ D.nx σ H) ∨ (J.go i H ∧ ∃ N : L2.St → Hp → Prop, (∀ σ' H', N σ' H' → ∃ m', m' < m ∧ W (i + 1) m' σ' H') ∧ ∀ x H', J.yld i H x H' → g x σ H' fun σ2 H2 => tb { D with nx := N, ct := N, bk := D.nx } σ2 H2)) : tFor wi g tb D σ H := h
theorem x_iL {tl : TE} {R : It → Hp → Prop} (h : tl σ H fun x H1 => ∃ a, x = .ref a ∧ (∃ xs, SqL K H1 a xs) ∧ R (Itl K a) H1) : iList K tl σ H R := h
theorem x_iT {tl : TE} {R : It → Hp → Prop} (h : tl σ H fun x H1 => ∃ a, x = .ref a ∧ (∃ xs, SqT K H1 a xs) ∧ R (Itt K a) H1) : iTup K tl σ H R := h
theorem x_r1 {R : It → Hp → Prop} (h : tr σ H fun vs H1 => ∃ j : Int, vs = [.int j] ∧ -(2 ^ 62) ≤ j ∧ j < 2 ^ 62 ∧ R (Itr 0 j.toNat) H1) : iRng1 tr σ H R := h
theorem x_r2 {R : It → Hp → Prop} (h : tr σ H fun vs H1 => ∃ i j : Int, vs = [.int i, .int j] ∧ (-(2 ^ 62) ≤ i ∧ i < 2 ^ 62 ∧ -(2 ^ 62) ≤ j ∧ j < 2 ^ 62) ∧ R (Itr i (j - i).toNat) H1) : iRng2 tr σ H R := h
theorem x_lp {p : Addr} {xs : List V} {Z : Addr → Prop} (hp : SqL K H p xs) (h : Z p) : ∃ a, V.ref p = V.ref a ∧ (∃ xs, SqL K H a xs) ∧ Z a := ⟨p, rfl, ⟨xs, hp⟩, h⟩
theorem x_tp {p : Addr} {xs : List V} {Z : Addr → Prop} (hp : SqT K H p xs) (h : Z p) : ∃ a, V.ref p = V.ref a ∧ (∃ xs, SqT K H a xs) ∧ Z a := ⟨p, rfl, ⟨xs, hp⟩, h⟩
theorem x_rg {j : Int} {Z : Int → Prop} (h1 : -(2 ^ 62) ≤ j) (h2 : j < 2 ^ 62) (h : Z j) : ∃ j' : Int, [V.int j] = [V.int j'] ∧ -(2 ^ 62) ≤ j' ∧ j' < 2 ^ 62 ∧ Z j' := ⟨j, rfl, h1, h2, h⟩
theorem x_rg2 {i j : Int} {Z : Int → Int → Prop} (h1 : -(2 ^ 62) ≤ i ∧ i < 2 ^ 62 ∧ -(2 ^ 62) ≤ j ∧ j < 2 ^ 62) (h : Z i j) : ∃ i' j' : Int, [V.int i, V.int j] = [V.int i', V.int j'] ∧ (-(2 ^ 62) ≤ i' ∧ i' < 2 ^ 62 ∧ -(2 ^ 62) ≤ j' ∧ j' < 2 ^ 62) ∧ Z i' j' := ⟨i, j, rfl, h1, h⟩
theorem x_lc {wi : TI} {g : TG} {tt : TT} {vs : List Nat} (h : wi σ H fun J H1 => ∀ L, H1 L = none → ∃ W : Nat → Nat → Hp → Prop, (∃ m, W 0 m (upd H1 L (.lst []))) ∧ ∀ i m H, W i m H →
    (J.stop i H ∧ Q (.ref L) H) ∨ (J.go i H ∧ ∃ N : Hp → Prop, (∀ H', N H' → ∃ m', m' < m ∧ W (i + 1) m' H') ∧ ∀ x H', J.yld i H x H' → g x (wipe σ vs) H' fun σ2 H2 => wipe σ2 vs = wipe σ vs ∧ tt σ2 H2 fun b H3 =>
      if b = true then te σ2 H3 fun y H4 => ∃ acc, H4 L = some (.lst acc) ∧ acc.length < sizeLine ∧ N (upd H4 L (.lst (acc ++ [y]))) else N H3)) : tLc wi g tt te vs σ H Q := h
theorem x_acc {L : Addr} {acc : List V} {Z : List V → Prop} (hl : H L = some (.lst acc)) (z : acc.length < sizeLine) (h : Z acc) : ∃ acc, H L = some (.lst acc) ∧ acc.length < sizeLine ∧ Z acc := ⟨acc, hl, z, h⟩
theorem x_wiped {A B : L2.St} {Z : Prop} (e : A = B) (h : Z) : A = B ∧ Z := ⟨e, h⟩
/-- a statement and what follows it, with a word of one's own between them -/
def tCut (t u : TS) : TS := fun D σ H => ∃ M : L2.St → Hp → Prop, (∀ σ1 H1, M σ1 H1 → u D σ1 H1) ∧ t { D with nx := M } σ H
theorem pss_cut {st : Stmt} {more : List Stmt} (a : PS X st t) (b : PSs X more u) : PSs X (st :: more) (tCut t u) := by
  constructor
  rintro pins s σ H D I ⟨M, hu, ht⟩
  apply wpAny_execs_cons
  refine thn (a.run pins s σ H _ I ht) fun f s1 h => ?_
  match f, h with
  | .next, ⟨σ1, H1, I1, m⟩ => exact b.run pins s1 σ1 H1 D I1 (hu σ1 H1 m)
  | .ret _, h => exact h
  | .brk, h => exact h
  | .cont, h => exact h
theorem x_cut (M : L2.St → Hp → Prop) (h : t { D with nx := M } σ H) (k : ∀ σ1 H1, M σ1 H1 → u D σ1 H1) : tCut t u D σ H := ⟨M, k, h⟩
theorem x_mod {g : Int → Int → V} {i j : Int} (hj : 0 < j) (h : Q (g i j) H) : rI (fun _ j => 0 < j) g (.int i) (.int j) H Q := ⟨i, j, rfl, rfl, hj, h⟩
theorem x_mul {g : Int → Int → V} {i j : Int} (hj : CMul i j) (h : Q (g i j) H) : rI CMul g (.int i) (.int j) H Q := ⟨i, j, rfl, rfl, hj, h⟩
theorem x_div {g : Int → Int → V} {i j : Int} (hj : CDivW i j) (h : Q (g i j) H) : rI CDivW g (.int i) (.int j) H Q := ⟨i, j, rfl, rfl, hj, h⟩
theorem x_pow {g : Int → Int → V} {i j : Int} (hj : CPow i j) (h : Q (g i j) H) : rI CPow g (.int i) (.int j) H Q := ⟨i, j, rfl, rfl, hj, h⟩
theorem ne_of_none2 {p q : Addr} {o : HO} (h : H p = none) (h' : H q = some o) : p ≠ q := fun e => by rw [e, h'] at h; cases h
theorem upd_ne2 {p q : Addr} {o : HO} {r : Option HO} (h : p ≠ q) (e : H p = r) : upd H q o p = r := (upd_ne h).trans e
end
/-! From the law's promise to the row's end; defs by their names. -/

/-- nothing is tracked but the script -/
def scriptH (K : PySem.W.Frag) (a : Addr) (o : Obj) (ns : List Int) : Hp :=
  fun b => if b = a ∧ K.lookup a = none then some (.frz o (.lst (ns.map V.int))) else none

section
variable {P : Program} {w : World} {K : PySem.W.Frag} {mg mb : Str → Option Value}
theorem script_run {k : Nat} {fa a : Addr} {fd : FuncData} {x : Str} {sp : Sp} {z : Shared} {vs : List Value} {ns : List Int}
    (kin : K.In z.heap) (gl : z.heap.Ns mainGlobals mg) (bl : z.heap.Ns builtinsNs mb) (bb : ∀ y : Str, y ≠ "__name__" → mb y = bootBuiltins y)
    (lim : z.heap.NoLimit) (sys : ∃ mm, z.heap.Ns sysModules mm) (gens : z.gens = #[])
    (ha : z.heap.get? a = some { cls := .type "list", data := .seq vs.toArray }) (hi : IntsAre vs ns) (few : ns.length ≤ sizeLine) (room : Room k callerA)
    (F : ∀ base : Heap, K.In base → base.Ns mainGlobals mg → (∃ o, base.get? sysModules = some o) → FnG P w K mg base k fa fd [x] sp)
    (bind : ∀ (s : Shared) (u : Value), BindsTo s fd ⟨[u], []⟩ [(x, u)])
    (want : ∀ H : Hp, SqL K H a (ns.map V.int) → sp [.ref a] H (fun v _ => v = .bl true) E0) :
    codeAny (model P w) callerA (.call (.ref fa) ⟨[.ref a], []⟩)
      (fun r z' => r = .ok (.ret (.bool true)) ∧ OldK z.heap z'.heap ∧ z'.os = z.os ∧ AllBare z'.gens) z := by
  have rv : Vals (ns.map V.int) vs := vals_of_ints hi
  let ob : Obj := { cls := .type "list", data := .seq vs.toArray }
  let H := scriptH K a ob ns
  have only : ∀ b u, H b = some u → b = a ∧ K.lookup a = none ∧ u = .frz ob (.lst (ns.map V.int)) := by
    intro b u e
    show b = a ∧ _
    have e : (if b = a ∧ K.lookup a = none then some (HO.frz ob (.lst (ns.map V.int))) else none) = some u := e
    split at e
    · rename_i h; cases e; exact ⟨h.1, h.2, rfl⟩
    · cases e
  have seen : SqL K H a (ns.map V.int) := by
    cases q : K.lookup a with
    | none => exact .inl (.inr ⟨ob, if_pos ⟨rfl, q⟩⟩)
    | some o =>
      have e := kin a o q
      rw [ha] at e
      cases e
      exact .inr ⟨_, vs.toArray, _, q, rfl, rfl, rfl, by rw [List.size_toArray, hi.length]; exact few, by simpa using rv⟩
  have hok : HOk P w H z.heap := by
    intro b u e
    obtain ⟨rfl, _, rfl⟩ := only b u e
    exact ⟨ha, by rw [List.length_map]; exact few, vs, _, rv, ha⟩
  have notDict : ∀ {b : Addr} {o : Obj} {es : Array DictEntry} {ep : Nat}, z.heap.get? b = some o → o.data = .dict es ep → H b = none := by
    intro b o es ep e d
    cases q : H b with
    | none => rfl
    | some u =>
      obtain ⟨rfl, _, _⟩ := only b u q
      rw [ha] at e; cases e; cases d
  have ns_ : ∀ {b : Addr} {m : Str → Option Value}, z.heap.Ns b m → (hidT z.heap H).Ns b m := by
    rintro b m ⟨o, es, ep, e, d, r⟩
    exact ⟨o, es, ep, hidT_get e (notDict e d), d, r⟩
  have kin' : K.In (hidT z.heap H) := by
    intro b o e
    refine hidT_get (kin b o e) ?_
    cases q : H b with
    | none => rfl
    | some u =>
      obtain ⟨rfl, n, _⟩ := only b u q
      rw [n] at e; cases e
  have modu : Mod K mg (hidT z.heap H) :=
    ⟨kin', ns_ gl, ⟨mb, ns_ bl, bb⟩, by obtain ⟨mc, h1, h2⟩ := lim; exact ⟨mc, ns_ h1, h2⟩⟩
  have sys' : ∃ o, (hidT z.heap H).get? sysModules = some o := by
    obtain ⟨mm, h⟩ := sys
    obtain ⟨o, _, _, e, _⟩ := ns_ h
    exact ⟨o, e⟩
  have entry : Env0 P w K mg (hidT z.heap H) callerA [] z H :=
    ⟨rfl, modu, fun b o e => of_hidT e, Nat.le_of_eq (hidT_size _ _), trivial, fun b hb => absurd hb (by simp [frs]), hok, .of_eq gens⟩
  refine codeAny_mono ((F _ kin' (ns_ gl) sys').go callerA [] z H ⟨[.ref a], []⟩ [.ref a] [.ref a] _ _ room rfl entry (bind z (.ref a)) (.cons rfl .nil) (want H seen)) ?_
  intro r z' h
  match r, h with
  | .error e, h => exact False.elim h
  | .ok .next, h => exact False.elim h
  | .ok .brk, h => exact False.elim h
  | .ok .cont, h => exact False.elim h
  | .ok (.ret u), h =>
    obtain ⟨v, H', os, bare, un, hok', rv', q⟩ := h
    have q : v = .bl true := q
    subst q
    have rv' : u = Value.bool true := rv'
    subst rv'
    refine ⟨rfl, OldK.of_keep ?_, os, bare⟩
    intro b o e
    cases q : H b with
    | none => exact un.keep b o e q (by simp [frs]) (by simp)
    | some u =>
      obtain ⟨rfl, _, rfl⟩ := only b u q
      have e1 := (hok b _ q).1
      have e2 := (hok' b _ (un.frzs b ob _ q)).1
      rw [e] at e1; cases e1
      exact e2

theorem walk_g {l : PySem.W.OpenLaw} {n k : Nat} {q : Program} {loose : List Str} {XP : (Str → Option Value) → Heap → Prop} {YP : World → Heap → Prop} {d : DefRec} {KK : Params → PySem.W.Frag} {sp : PySem.W.Frag → Sp} {x : Str}
    (hn : l.most = some n) (small : n ≤ sizeLine) (hdf : d.params.defaults = []) (room : Room k callerA) (none_ : importsNone q = true)
    (hY : ∀ (w : World) (h : Heap), YP w h → (KK w.params).In h)
    (F : ∀ (w : World) (mg : Str → Option Value) (fa : Addr) (h : Heap), (KK w.params).In h → h.Ns mainGlobals mg → mg d.name = some (.ref fa) →
      ∃ fd : FuncData, (∀ (s : Shared) (u : Value), BindsTo s fd ⟨[u], []⟩ [(x, u)]) ∧
        ∀ base : Heap, (KK w.params).In base → base.Ns mainGlobals mg → (∃ o, base.get? sysModules = some o) → FnG l.prog w (KK w.params) mg base k fa fd [x] (sp (KK w.params)))
    (want : ∀ (K : PySem.W.Frag) (H : Hp) (a : Addr) (ns : List Int), ns.length ≤ n → SqL K H a (ns.map V.int) → sp K [.ref a] H (fun v _ => v = .bl true) E0) :
    PySem.W.WalkO q loose XP YP l.row.toRowW d [] (fun f vs => PySem.call f vs) := by
  refine Att.attach_call hn hdf ?_
  intro w s0 z mg mb fa o pm cd doc a vs ns G Y ho hd hcd hmg hobj hints hlen hg
  have kin := hY w _ Y
  obtain ⟨fd, hb, hF⟩ := F w mg fa _ kin G.T.g hmg
  have sys : ∃ mm, z.heap.Ns sysModules mm := by
    obtain ⟨mm, h, _⟩ := (G.T.seer none_).mods
    exact ⟨mm, h⟩
  exact script_run kin G.T.g G.T.b G.T.builtins G.T.nolimit sys hg hobj hints (Nat.le_trans hlen small) room hF hb (fun H hS => want _ H a ns hlen hS)

/-! ### defs by name -/
structure Df (K : PySem.W.Frag) (mg : Str → Option Value) (nm : Str) (st : Stmt) : Prop where
  ex : ∃ f fd, Fun K nm nm st f fd ∧ mg nm = some (.ref f)
theorem df_mk {h : Heap} {nm : Str} {st : Stmt} {f : Addr} {oc : Value} {od an : Option Addr} {osl : Array (Option Value)} {kV doc pm cdv ct : Value} (X : K.In h) (G : h.Ns mainGlobals mg)
    (a : PySem.W.nsIn K mainGlobals nm = some (some (.ref f)))
    (l : K.lookup f = some ⟨oc, od, .func (PySem.W.fnOf nm nm (defArgs st) (defBody st) (defScope st) .none kV doc pm an cdv ct), osl⟩)
    (c : PySem.W.codeIn K cdv nm = true) (k : PySem.W.keepIn K (.ref f) = true) : Df K mg nm st :=
  ⟨f, _, fun_mk l c k, PySem.W.mg_of X G a⟩

theorem kn_of {base : Heap} {nm : Str} {st : Stmt} {N ps : List Str} {k : Nat} {sp : Sp} (D : Df K mg nm st)
    (bd : ∀ (kV doc pm : Value) (an : Option Addr) (cdv ct : Value) (us : List Value), us.length = ps.length → bindArgs (PySem.W.fnOf nm nm (defArgs st) (defBody st) (defScope st) .none kV doc pm an cdv ct) ⟨us, []⟩ = pure (ps.zip us))
    (S : FnScope N ps (defScope st)) (len : ∀ vs H Q E, sp vs H Q E → vs.length = ps.length)
    (body : ∀ (f : Addr) (cd : Value) (B : Around) (fr : List Env) (z : Shared) (H : Hp) (vs : List V) (Q : VK) (E : XK),
      Room k (B.deeper (envOfC nm (defScope st) z.heap.objs.size f cd)) →
      (B.deeper (envOfC nm (defScope st) z.heap.objs.size f cd)).guards = some [] → sp vs H Q E →
      ∃ t, PSs (bodyX P w K mg base N nm st f cd B fr z H E) (defBody st) t ∧
        t { nx := fun _ H' => Q .non H', rt := Q } (start N vs) H) : Kn P w K mg base nm (k + 1) sp := by
  obtain ⟨f, fd, F, hm⟩ := D.ex
  exact ⟨f, fd, ps, FnG.mk' F S len (body f), hm, F.kp, F.binds bd⟩
/-- the law's own def, for the row's end -/
theorem law_of {nm x : Str} {st : Stmt} {N : List Str} {k : Nat} {sp : Sp} {fa : Addr} (D : Df K mg nm st) (hfa : mg nm = some (.ref fa))
    (bd : ∀ (kV doc pm : Value) (an : Option Addr) (cdv ct : Value) (us : List Value), us.length = ([x] : List Str).length → bindArgs (PySem.W.fnOf nm nm (defArgs st) (defBody st) (defScope st) .none kV doc pm an cdv ct) ⟨us, []⟩ = pure (([x] : List Str).zip us))
    (S : FnScope N [x] (defScope st)) (len : ∀ vs H Q E, sp vs H Q E → vs.length = ([x] : List Str).length)
    (body : ∀ (base : Heap), (∃ o, base.get? sysModules = some o) → ∀ (f : Addr) (cd : Value) (B : Around) (fr : List Env) (z : Shared) (H : Hp) (vs : List V) (Q : VK) (E : XK),
      Room k (B.deeper (envOfC nm (defScope st) z.heap.objs.size f cd)) →
      (B.deeper (envOfC nm (defScope st) z.heap.objs.size f cd)).guards = some [] → sp vs H Q E →
      ∃ t, PSs (bodyX P w K mg base N nm st f cd B fr z H E) (defBody st) t ∧
        t { nx := fun _ H' => Q .non H', rt := Q } (start N vs) H) :
    ∃ fd : FuncData, (∀ (s : Shared) (u : Value), BindsTo s fd ⟨[u], []⟩ [(x, u)]) ∧
      ∀ base : Heap, K.In base → base.Ns mainGlobals mg → (∃ o, base.get? sysModules = some o) → FnG P w K mg base (k + 1) fa fd [x] sp := by
  obtain ⟨f, fd, F, hm⟩ := D.ex
  cases hfa.symm.trans hm
  refine ⟨fd, fun s u => ?_, fun base _ _ sys => FnG.mk' F S len (body base sys fa)⟩
  obtain ⟨oc, od, kV, doc, pm, an, cd, ct, osl, rfl, lk, hc⟩ := F.ex
  exact .of_eq (bd kV doc pm an cd ct [u] rfl)
end
/-! What data show; texts times a number; data as the deep equality wants them. -/

/-! ### sizes of what is shown -/
structure Sz (d : PyData) (p q : Nat) : Prop where
  sh : d.showable = true
  sz : d.shown.length ≤ p
  dp : d.depth ≤ q
theorem Sz.shows {d : PyData} {p q : Nat} (h : Sz d p q) (hp : p ≤ 8000000) (hq : q ≤ 20) : Shows d := ⟨h.sh, Nat.le_trans h.sz hp, Nat.le_trans h.dp hq⟩
theorem Sz.mono {d : PyData} {p q p' q' : Nat} (h : Sz d p q) (hp : p ≤ p') (hq : q ≤ q') : Sz d p' q' := ⟨h.sh, Nat.le_trans h.sz hp, Nat.le_trans h.dp hq⟩
theorem piled_le {p : Nat} : ∀ {ts : List Str}, (∀ t ∈ ts, t.length ≤ p) → piled ts ≤ ts.length * (p + 2)
  | [], _ => by simp [piled]
  | t :: r, h => by
    rw [piled_cons]
    have h1 := h t (by simp)
    have h2 := piled_le (p := p) (ts := r) fun u hu => h u (by simp [hu])
    rw [List.length_cons, Nat.succ_mul]
    omega
theorem textFrom_le : ∀ (ts : List Str) (k : Nat) (acc : Str), (textFrom k acc ts).length ≤ acc.length + piled ts
  | [], k, acc => by rw [piled_nil]; exact Nat.le_refl _
  | t :: r, k, acc => by
    have h := textFrom_le r (k + 1) (acc ++ (if k > 0 then ", " else "" : String) ++ t)
    have e : (acc ++ (if k > 0 then ", " else "" : String) ++ t).length ≤ acc.length + 2 + t.length := by
      rw [strLen_append, strLen_append]
      split
      · exact Nat.le_of_eq rfl
      · show acc.length + 0 + t.length ≤ _; omega
    rw [piled_cons]
    show (textFrom (k + 1) _ r).length ≤ _
    omega
theorem listText_le (ts : List Str) : (listText ts).length ≤ piled ts + 2 := by
  unfold listText
  rw [strLen_append]
  have h := textFrom_le ts 0 "["
  have e : (("[" : String) : Str).length = 1 := rfl
  have e2 : (("]" : String) : Str).length = 1 := rfl
  omega
theorem join_le (ts : List Str) : (Str.join ", " ts).length ≤ piled ts := by
  cases ts with
  | nil => exact Nat.zero_le _
  | cons t r => have := join_length_add (t :: r) (by simp); omega
theorem tupleText_le (ts : List Str) : (tupleText ts).length ≤ piled ts + 3 := by
  unfold tupleText
  rw [strLen_append, strLen_append]
  have h := join_le ts
  have e : (("(" : String) : Str).length = 1 := rfl
  have e2 : (((if ts.length == 1 then ",)" else ")" : String)) : Str).length ≤ 2 := by split <;> decide
  omega
theorem dictText_le (ts : List Str) : (dictText ts).length ≤ piled ts + 2 := by
  unfold dictText
  rw [strLen_append, strLen_append]
  have h := join_le ts
  have e : (("{" : String) : Str).length = 1 := rfl
  have e2 : (("}" : String) : Str).length = 1 := rfl
  omega
theorem all_sz {p q : Nat} : ∀ {ds : List PyData}, (∀ d ∈ ds, Sz d p q) → PyData.showableAll ds = true ∧ (∀ t ∈ PyData.shownAll ds, t.length ≤ p) ∧ PyData.depthAll ds ≤ q ∧ (PyData.shownAll ds).length = ds.length
  | [], _ => ⟨rfl, by simp [PyData.shownAll], Nat.zero_le _, rfl⟩
  | d :: r, h => by
    obtain ⟨a, b, c, e⟩ := all_sz (p := p) (q := q) (ds := r) fun u hu => h u (by simp [hu])
    have hd := h d (by simp)
    refine ⟨by simp only [PyData.showableAll, hd.sh, a, Bool.and_self], ?_, by simp only [PyData.depthAll]; exact Nat.max_le.mpr ⟨hd.dp, c⟩, by simp [PyData.shownAll, e]⟩
    intro t ht
    simp only [PyData.shownAll] at ht
    rcases List.mem_cons.mp ht with rfl | ht
    · exact hd.sz
    · exact b t ht
theorem sz_list {p q : Nat} {ds : List PyData} (h : ∀ d ∈ ds, Sz d p q) : Sz (.list ds) (ds.length * (p + 2) + 3) (q + 1) := by
  obtain ⟨a, b, c, e⟩ := all_sz h
  refine ⟨by simpa only [PyData.showable] using a, ?_, by simp only [PyData.depth]; omega⟩
  simp only [PyData.shown]
  have h1 := listText_le (PyData.shownAll ds)
  have h2 := piled_le b
  rw [e] at h2
  omega
theorem sz_tuple {p q : Nat} {ds : List PyData} (h : ∀ d ∈ ds, Sz d p q) : Sz (.tuple ds) (ds.length * (p + 2) + 3) (q + 1) := by
  obtain ⟨a, b, c, e⟩ := all_sz h
  refine ⟨by simpa only [PyData.showable] using a, ?_, by simp only [PyData.depth]; omega⟩
  simp only [PyData.shown]
  have h1 := tupleText_le (PyData.shownAll ds)
  have h2 := piled_le b
  rw [e] at h2
  omega
theorem sz_none : Sz .none 5 0 := ⟨rfl, by decide, by decide⟩
theorem sz_bool (b : Bool) : Sz (.bool b) 5 0 := ⟨rfl, by cases b <;> decide, by cases b <;> decide⟩
theorem sz_int {i : Int} (h : i.natAbs < 2 ^ 200) : Sz (.int i) 201 0 := by
  have hl : i.natAbs.log2 < 1920 := Nat.lt_of_le_of_lt (by
    by_cases h0 : i.natAbs = 0
    · rw [h0]; decide
    · exact Nat.le_of_lt ((Nat.log2_lt h0).mpr h)) (by decide : 200 < 1920)
  refine ⟨by simpa only [PyData.showable] using decide_eq_true hl, ?_, Nat.le_refl _⟩
  simp only [PyData.shown]
  show (Str.ofString (toString i)).length ≤ _
  rw [PySem.ofString_length]
  cases i with
  | ofNat n =>
    show (Nat.repr n).length ≤ _
    exact Nat.le_trans (nat_repr_length_le (by decide) h) (by decide)
  | negSucc n =>
    show ("-" ++ Nat.repr (n + 1)).length ≤ _
    rw [String.length_append]
    have := nat_repr_length_le (n := n + 1) (k := 200) (by decide) h
    have e : ("-" : String).length = 1 := by decide
    omega
theorem sz_zero : Sz (.int 0) 1 0 := ⟨by decide, by decide, by decide⟩

/-! ### 'a' * n -/
section
variable {X : Cx}
def rMulStr : R2 := fun x y H Q => ∃ s n, x = .str s ∧ y = .int n ∧ MulOk s n ∧ Q (.str (Txt.mul s n)) H
theorem op_mulStr : OpR X (binaryOp .Mult) rMulStr := by
  intro pins s σ H x y v u Q I rx ry h
  obtain ⟨z, n, rfl, rfl, ok, q⟩ := h
  obtain ⟨t, rfl⟩ := rx
  obtain ⟨t', rfl⟩ := ry
  exact SB.mul ok fun t' k => ⟨.str _, H, I.tok _, ⟨_, rfl⟩, q⟩
theorem x_mulS {H : Hp} {Q : VK} {s : Str} {n : Int} (ok : MulOk s n) (h : Q (.str (Txt.mul s n)) H) : rMulStr (.str s) (.int n) H Q := ⟨s, n, rfl, rfl, ok, h⟩
end

/-! ### data without dicts, for == -/
mutual
theorem Dn.dp {K : PySem.W.Frag} {M : List Addr} {H : Hp} : ∀ {v : V} {d : PyData}, Dn M H v d → d.hasDict = false → Dp K H v d
  | _, _, .non, _ => .non
  | _, _, .bl b, _ => .bl b
  | _, _, .int i, _ => .int i
  | _, _, .str x, _ => .str x
  | _, _, .lst e _ a, h => .lst (SqL.of e) (DnAll.dp a (by simpa only [PyData.hasDict] using h))
  | _, _, .tup e _ a, h => .tup (SqT.of e) (DnAll.dp a (by simpa only [PyData.hasDict] using h))
  | _, _, .dic _ _ _ _, h => by simp only [PyData.hasDict] at h; cases h
theorem DnAll.dp {K : PySem.W.Frag} {M : List Addr} {H : Hp} : ∀ {v : List V} {d : List PyData}, DnAll M H v d → PyData.hasDictAll d = false → DpAll K H v d
  | _, _, .nil, _ => .nil
  | _, _, .cons a b, h => by
    simp only [PyData.hasDictAll, Bool.or_eq_false_iff] at h
    exact .cons (Dn.dp a h.1) (DnAll.dp b h.2)
end
/-- equal data are equal -/
theorem x_eqSame {K : PySem.W.Frag} {M : List Addr} {H : Hp} {Q : VK} {x y : V} {d : PyData} (hx : Dn M H x d) (hy : Dn M H y d) (sh : SeqAt.shaped d = true) (h : Q (.bl true) H) : rEqD K x y H Q := by
  have c := SeqAt.canLay_of_shaped sh
  have n := PyData.hasDict_of_canLay d c
  refine ⟨d, d, hx.dp n, hy.dp n, sh, sh, ?_⟩
  rw [SeqAt.eqv_refl d c]
  exact h
/-- new objects beside what stands -/
theorem new_out {H H1 : Hp} {b p : Addr} {o : HO} (S : Same H H1) (hb : H b = some o) (hp : H1 p = none) : p ∉ [b] := by
  intro m
  have e : p = b := by simpa using m
  subst e
  rw [S _ _ hb] at hp; cases hp
theorem grow {H H1 : Hp} {b p : Addr} {o u : HO} {vs : List V} {ds : List PyData} {d : PyData} (S : Same H H1) (hb : H b = some o) (A : DnAll [b] H1 vs ds) (hp : H1 p = none)
    (hd : p ∉ [b] → Dn [b] (upd H1 p u) (.ref p) d) : Same H (upd H1 p u) ∧ DnAll [b] (upd H1 p u) (vs ++ [.ref p]) (ds ++ [d]) :=
  ⟨S.trans (same_upd hp), (A.ext (Ext.same (same_upd hp))).app (.cons (hd (new_out S hb hp)) .nil)⟩
theorem put {H H1 : Hp} {b p : Addr} {o : HO} {vs : List V} {ds : List PyData} (u : HO) (S : Same H H1) (hb : H b = some o) (A : DnAll [b] H1 vs ds) (hp : H1 p = none) :
    Same H (upd H1 p u) ∧ DnAll [b] (upd H1 p u) vs ds ∧ p ∉ [b] ∧ upd H1 p u p = some u :=
  ⟨S.trans (same_upd hp), A.ext (Ext.same (same_upd hp)), new_out S hb hp, upd_same⟩
theorem DnAll.rep {M : List Addr} {H : Hp} {v : V} {d : PyData} (h : Dn M H v d) : ∀ n : Nat, DnAll M H (List.replicate n [v]).flatten (List.replicate n d)
  | 0 => .nil
  | n + 1 => by rw [List.replicate_succ, List.replicate_succ, List.flatten_cons]; exact .cons h (DnAll.rep h n)
theorem atI_of {α : Type} {xs : List α} {i : Int} (h0 : 0 ≤ i) (h1 : i < xs.length) : ∃ v, xs[i.toNat]? = some v ∧ atI xs i = some v := by
  have hi : i.toNat < xs.length := by omega
  refine ⟨xs[i.toNat], List.getElem?_eq_getElem hi, ?_⟩
  have e : i = (i.toNat : Nat) := by omega
  have := atI_nat (xs := xs) (j := i.toNat) (v := xs[i.toNat]) (List.getElem?_eq_getElem hi)
  rw [← e] at this
  exact this
theorem x_revL {K : PySem.W.Frag} {H : Hp} {p : Addr} {xs : List V} {Z : List V → Prop} (hp : SqL K H p xs) (h : Z xs) : ∃ a ys, V.ref p = .ref a ∧ SqL K H a ys ∧ Z ys := ⟨p, xs, rfl, hp, h⟩
theorem x_rev {K : PySem.W.Frag} {σ : L2.St} {H : Hp} {Q : VK} {te : TE} (h : te σ H fun x H1 => ∃ a ys, x = .ref a ∧ SqL K H1 a ys ∧ ∀ l, H1 l = none → Q (.ref l) (upd H1 l (.lst ys.reverse))) : tRevL K te σ H Q := h
theorem ix_at {H : Hp} {p : Addr} {xs : List V} {i : Int} (_ : H p = some (.lst xs)) (h0 : 0 ≤ i) (h1 : i < xs.length) : ∃ v, xs[i.toNat]? = some v ∧ atI xs i = some v := atI_of h0 h1
/-! Sets of tuples of ints, made by a comprehension; their length. -/
/-- what is wanted of adding a value to the set at an address -/
abbrev TAdd := Addr → V → Hp → (Hp → Prop) → Prop
def AddR (X : Cx) (add : TAdd) : Prop :=
  ∀ (pins : List (Addr × Obj)) (σ : L2.St) (H : Hp) (s : Shared) (L : Addr) (y : V) (u : Value) (N : Hp → Prop), Inv X pins σ H s → RelV y u → add L y H N →
    wpAny (model X.prog X.w) X.A (call (.builtin "set.add") [.ref L, u]) (fun _ s' => ∃ H', Inv X pins σ H' s' ∧ N H') (fun _ _ => False) s
/-- the reading of a set comprehension: Z the new set, add what each value's adding asks and leaves -/
def tSetC (Z : Addr → HO) (add : TAdd) (wi : TI) (g : TG) (tt : TT) (te : TE) (vs : List Nat) : TE := fun σ H Q =>
  wi σ H fun J H1 => ∀ L, H1 L = none → ∃ W : Nat → Nat → Hp → Prop, (∃ m, W 0 m (upd H1 L (Z L))) ∧ ∀ i m H2, W i m H2 →
    (J.stop i H2 ∧ Q (.ref L) H2) ∨ (J.go i H2 ∧ ∃ N : Hp → Prop, (∀ H3, N H3 → ∃ m3, m3 < m ∧ W (i + 1) m3 H3) ∧ ∀ x H3, J.yld i H2 x H3 →
      g x (wipe σ vs) H3 fun τ H4 => wipe τ vs = wipe σ vs ∧ tt τ H4 fun b H5 => if b = true then te τ H5 fun y H6 => add L y H6 N else N H5)
def freshSet (w : World) : Obj := { cls := .type "set", dict := none, data := .set #[] 0 (.fresh 0 0 (!w.params.followText "set-order")) }

section
variable {X : Cx}
theorem setc_go {pins : List (Addr × Obj)} {s : Shared} {σ : L2.St} {H : Hp} {Q : VK} {elt tg iter : Expr} {ifs : List Expr} {sc : Scope} {own : List (PySem.Str × Nat)} {p p2 : Pos}
    {wi : TI} {g : TG} {tt : TT} {te : TE} {Z : Addr → HO} {add : TAdd}
    (calm : X.calm = true) (nodup : X.N.Nodup) (I : Inv X pins σ H s) (hi : PI X tg iter wi) (bo : BlkOk X.N X.env.scope sc own)
    (pg : ∀ s H C cl fp, PG (X.blk s H sc (compEnvC sc cl C X.env) fp) tg g)
    (pt : ∀ s H C cl fp, PTs (X.blk s H sc (compEnvC sc cl C X.env) fp) ifs tt)
    (pe : ∀ s H C cl fp, PE (X.blk s H sc (compEnvC sc cl C X.env) fp) elt te)
    (pa : ∀ s H C cl fp, AddR (X.blk s H sc (compEnvC sc cl C X.env) fp) add)
    (fr : ∀ (H : Hp) (h : Heap) (a : Addr), h.get? a = some (freshSet X.w) → ObjOk X.prog X.w H h a (Z a))
    (fold : ∀ x, foldedSetIterable iter X.env x = pure x)
    (want : tSetC Z add wi g tt te (own.map (·.2)) σ H Q) :
    wpAny (model X.prog X.w) X.A (comprehension (.SetComp elt [⟨tg, iter, ifs, 0⟩] sc p) sc X.env p2 (newSet (.type "set")) false (eval iter X.env) none) (EP X pins σ Q) X.xe s := by
  let vs := own.map (·.2)
  have cells : ∀ y ∈ sc.names, y.2 = .free → ∃ c, X.env.cells.lookup y.1 = some c := by
    intro y hy e
    rcases bo.free y hy e with h | h
    · exact I.ok.has _ (Or.inl h)
    · exact I.ok.has _ (Or.inr h)
  apply wpAny_comprehension_free rfl fold (closure_ok cells) bo.kind (fun y hy e => by rw [bo.uniq y hy, e])
  refine thn (hi.run pins s σ H _ I want) ?_
  intro xv sa ha
  refine thn ha ?_
  rintro itv sb ⟨it, fp, tn, J, H2, rfl, Ib, T, stb, fpb, q⟩
  apply PpSet.newSet_ok
  apply newEnv_comp
  obtain ⟨L, eL⟩ : ∃ L, sb.heap.objs.size = L := ⟨_, rfl⟩
  rw [eL]
  obtain ⟨W, ⟨m0, w0⟩, turn⟩ := q L (Ib.hok.fresh (Nat.le_of_eq eL))
  obtain ⟨sd, ed⟩ : ∃ sd : Shared, sd = { sb with heap := sb.heap.push (freshSet X.w) } := ⟨_, rfl⟩
  have hd : sd.heap = sb.heap.push (freshSet X.w) := by rw [ed]
  have Id : Inv X pins σ (upd H2 L (Z L)) sd := by
    rw [ed]
    refine Ib.laid (t' := sb.toks) (fun b o e => Heap.get?_push_of_some _ e) (Nat.le_of_eq eL) (fr _ _ _ ?_)
    rw [← eL]
    exact Heap.get?_push_size _ rfl
  have old : ∀ b ∈ fp, b < sb.heap.objs.size := by
    intro b hb
    obtain ⟨o, e, _⟩ := T.obj _ _ stb b hb
    exact Heap.lt_size e
  have fpd : ∀ b ∈ fp, FpOk X pins (upd H2 L (Z L)) b ∧ b < sd.heap.objs.size := by
    intro b hb
    have lt := old b hb
    have ne : b ≠ L := by rw [← eL]; exact Nat.ne_of_lt lt
    constructor
    · exact ⟨(upd_ne ne).trans (fpb b hb).1, (fpb b hb).2⟩
    · rw [hd, Heap.size_push]; exact Nat.lt_succ_of_lt lt
  have std : tn 0 sd.heap := T.keep _ _ _ stb (fun b _ o e => by rw [hd]; exact Heap.get?_push_of_some _ e)
  have Ie := block_start Id bo nodup fpd
  have none_fp : ∀ b ∈ fp, upd H2 L (Z L) b = none := fun b hb => (fpd b hb).1.1
  let C := sd.heap.objs.size
  let cl := cellsFrom (C + 1) sc.names (cloFrom X.env.cells sc.names [])
  have g1 := pg sd (upd H2 L (Z L)) C cl fp
  have t1 := pt sd (upd H2 L (Z L)) C cl fp
  have e1 := pe sd (upd H2 L (Z L)) C cl fp
  have a1 := pa sd (upd H2 L (Z L)) C cl fp
  obtain ⟨ce, ece⟩ : ∃ ce, compEnvC sc cl C X.env = ce := ⟨_, rfl⟩
  have locC : ce.locals = C := by rw [← ece]; rfl
  rw [ece] at g1 t1 e1 a1
  rw [show compEnvC sc (cellsFrom (sd.heap.objs.size + 1) sc.names (cloFrom X.env.cells sc.names [])) sd.heap.objs.size X.env = ce from ece] at Ie
  obtain ⟨He, eHe⟩ : ∃ He, upd H2 L (Z L) = He := ⟨_, rfl⟩
  rw [eHe] at Id Ie g1 t1 e1 a1 w0 none_fp fpd
  obtain ⟨se, ese⟩ : ∃ se : Shared, se = { sd with heap := pushCells (sd.heap.push { cls := .type "dict", data := .dict #[] }) sc.names } := ⟨_, rfl⟩
  rw [← ese] at Ie
  have ste : tn 0 se.heap := T.keep _ _ _ std (fun b _ o e => by rw [ese]; exact pushCells_keeps _ _ _ _ (Heap.get?_push_of_some _ e))
  have stay : ∀ {τ : L2.St} {H' : Hp} {s' : Shared}, Inv (X.blk sd He sc ce fp) [] τ H' s' → (∀ b ∈ fp, H' b = none) → ∀ b ∈ fp, FpOk (X.blk sd He sc ce fp) [] H' b := by
    intro τ H' s' J hn b hb
    exact ⟨hn b hb, (J.ok.exf b hb).1, J.ok.exfs b hb, Or.inl hb, (J.ok.exf b hb).2, fun q hq => by cases hq⟩
  have loop : codeAny (model X.prog X.w) X.A (.compLoop (.SetComp elt [⟨tg, iter, ifs, 0⟩] sc p) 0 (.ref it) (.ref L) ce) (compPost (model X.prog X.w) X.A X.xe none (EP X pins σ Q) (.ref L) C) se := by
    apply PpSet.compLoopS_any (fun n z => ∃ i H', Inv (X.blk sd He sc ce fp) [] (wipe σ vs) H' z ∧ tn i z.heap ∧ (∀ b ∈ fp, H' b = none) ∧ W i n H') ?_ m0 ⟨0, He, Ie, ste, none_fp, w0⟩
    rintro n z ⟨i, Hz, Iz, stz, nz, wz⟩
    rcases turn i n Hz wz with ⟨stop, fin⟩ | ⟨more, N, back, step⟩
    · refine thnF (T.done (X.blk sd He sc ce fp) rfl rfl rfl calm i [] z _ Hz (fun _ _ => False) Iz (stay Iz nz) stz stop) ?_
      rintro r y ⟨rfl, Iy⟩
      have Ix : Inv X pins σ Hz y := Id.call' (ch := fp) Iy.os Iy.base Iy.hok Iy.bare fun b hb =>
        ⟨(fpd b hb).1.2.2.2.1, (fpd b hb).1.2.1, (fpd b hb).1.2.2.2.2.1, (fpd b hb).1.2.2.2.2.2⟩
      have nC : Hz C = none := by rw [← locC]; exact Iy.free
      obtain ⟨m, hn, _⟩ := Iy.loc
      have hn : y.heap.Ns C m := by rw [← locC]; exact hn
      refine ⟨m, hn, fun h2 sb2 => ?_⟩
      obtain ⟨f0, f1, f2, f3, f4, f5⟩ := Id.fpOk (H' := Hz) (Nat.le_refl _) nC
      exact ⟨.ref L, Hz, Ix.turned (t' := y.toks) (fun b o hb e => (sb2.2 b hb).trans e) f0 f1 f3 f4 f5, rfl, fin⟩
    · refine thnF (T.item (X.blk sd He sc ce fp) rfl rfl rfl calm i [] z _ Hz (fun _ _ => False) Iz (stay Iz nz) stz more) ?_
      rintro r y ⟨u, rfl, hy⟩
      refine thnF hy ?_
      rintro _ y2 ⟨x, Hy, Iy, ry, yy, sty, ny⟩
      have Ip := Iy.pinned (stay Iy ny) (T.obj _ _ sty)
      refine thnF (g1.run _ y2 _ Hy x u _ Ip ry (step x Hy yy)) ?_
      rintro _ y3 ⟨τ, H3, I3, hw, q3⟩
      refine thnF (t1.run _ y3 τ H3 _ I3 q3) ?_
      rintro b y4 ⟨H4, I4, q4⟩
      have over : ∀ {s' : Shared} {H' : Hp}, Inv (X.blk sd He sc ce fp) ([] ++ pinsAt fp y2.heap) τ H' s' → N H' →
          ∃ m, m < n ∧ ∃ i H', Inv (X.blk sd He sc ce fp) [] (wipe σ vs) H' s' ∧ tn i s'.heap ∧ (∀ b ∈ fp, H' b = none) ∧ W i m H' := by
        intro s' H' J nx
        obtain ⟨m', lt, w'⟩ := back H' nx
        have pinned : ∀ b ∈ fp, ∀ o, y2.heap.get? b = some o → s'.heap.get? b = some o ∧ H' b = none := by
          intro b hb o e
          have k := J.pin (b, o) (List.mem_append_right _ (List.mem_append_right _ (mem_pinsAt hb e)))
          exact ⟨k.1, k.2.1⟩
        have len : (wipe σ vs).length = τ.length := by rw [← hw, wipe_length]
        refine ⟨m', lt, i + 1, H', (J.unpinned (pins := [])).weak len ?_, T.keep _ _ _ sty (fun b hb o e => (pinned b hb o e).1), ?_, w'⟩
        · intro j v e
          rw [← hw] at e
          exact (wipe_some e).1
        · intro b hb
          obtain ⟨o, e, _⟩ := T.obj _ _ sty b hb
          exact (pinned b hb o e).2
      cases b
      · rw [if_neg Bool.false_ne_true] at q4 ⊢
        exact over I4 q4
      · rw [if_pos rfl] at q4 ⊢
        refine thnF (e1.run _ y4 τ H4 _ I4 q4) ?_
        rintro v y5 ⟨yv, H5, I5, r5, q5⟩
        refine thnF (a1 _ τ H5 y5 L yv v N I5 r5 q5) ?_
        rintro _ y6 ⟨H6, I6, q6⟩
        exact over I6 q6
  have res := PpSet.codeAny_compStart_set loop (T.self X.A 0 _ _ _ ste loop)
  rw [ese, ed] at res
  rw [← ece] at res
  subst ed
  exact res
theorem pe_setC {elt tg iter : Expr} {ifs : List Expr} {sc : Scope} {own : List (PySem.Str × Nat)} {p : Pos} {wi : TI} {g : TG} {tt : TT} {te : TE} {Z : Addr → HO} {add : TAdd}
    (calm : X.calm = true) (nodup : X.N.Nodup) (hi : PI X tg iter wi) (bo : BlkOk X.N X.env.scope sc own)
    (pg : ∀ s H C cl fp, PG (X.blk s H sc (compEnvC sc cl C X.env) fp) tg g)
    (pt : ∀ s H C cl fp, PTs (X.blk s H sc (compEnvC sc cl C X.env) fp) ifs tt)
    (pe : ∀ s H C cl fp, PE (X.blk s H sc (compEnvC sc cl C X.env) fp) elt te)
    (pa : ∀ s H C cl fp, AddR (X.blk s H sc (compEnvC sc cl C X.env) fp) add)
    (fr : ∀ (H : Hp) (h : Heap) (a : Addr), h.get? a = some (freshSet X.w) → ObjOk X.prog X.w H h a (Z a))
    (fold : ∀ x, foldedSetIterable iter X.env x = pure x := by intro _; rfl) :
    PE X (.SetComp elt [⟨tg, iter, ifs, 0⟩] sc p) (tSetC Z add wi g tt te (own.map (·.2))) :=
  ⟨fun pins s σ H Q I h => by
    rw [PpSet.eval_SetComp]
    exact setc_go calm nodup I hi bo pg pt pe pa fr fold h⟩
/-- adding a tuple of ints -/
def addT (K : PySem.W.Frag) (P : Program) (w : World) : TAdd := fun D y H N => ∃ (a : Addr) (k : List Int) (L : List (Addr × List Int)), y = .ref a ∧ SqT K H a (k.map V.int) ∧ H D = some (SetTO P w D L) ∧
  (∀ q ∈ L, SqT K H q.1 (q.2.map V.int)) ∧ L.length + 1 < 64 ∧ ∀ L', (k ∈ L.map (·.2) → L' = L) → (k ∉ L.map (·.2) → L'.Perm ((a, k) :: L)) → N (upd H D (SetTO P w D L'))
theorem addT_ok (hu : X.A.units + 64 < cLine) : AddR X (addT X.K X.prog X.w) := by
  intro pins σ H s D y u N I ry h
  obtain ⟨a, k, L, rfl, ha, hD, hL, few, q⟩ := h
  cases (show u = Value.ref a from ry)
  obtain ⟨es, ep, t, R⟩ := SetT0.full (I.hok D _ hD).1 (fun q hq => I.isT (hL q hq))
  have hx := I.isT ha
  obtain ⟨o, ho, ex, hd⟩ := R.ob
  have ty : s.TypeIs (.ref D) "set" := ⟨o, ho, ex.1⟩
  refine wpAny_call_entry F.slot_set_add ty F.entry_set_add ?_ (F.args_set_add_2 _ _)
  unfold Builtin.«set.add» Builtin.Frozenset.oneOther
  simp only [List.isEmpty_nil, bind_assoc]
  unfold Builtin.Frozenset.addrOf setAdd
  apply wpAny_bind
  apply wpAny_pure
  try dsimp only
  apply wpAny_bind
  apply wpAny_pure
  try dsimp only
  apply wpAny_bind
  apply wpAny_holding
  apply wpAny_bind
  refine wpAny_pyHash_tuple (by show X.A.units + 1 < cLine; omega) hx ?_
  refine add_at (s := { s with toks := s.toks + (k.length + 1) }) R hx (by show X.A.units + 1 < cLine; omega) few ?_
  intro b h2 L2 es2 ep2 t2 sb R2 c1 c2
  have ex2 : ∃ u, h2.get? D = some u := by obtain ⟨o2, ho2, _⟩ := R2.ob; exact ⟨o2, ho2⟩
  show wpAny _ _ (ret Value.none) _ _ _
  refine wpAny_pure ⟨_, rfl, _, ?_, q L2 c1 c2⟩
  exact I.write (e := D) (t' := s.toks + (k.length + 1)) (by rw [hD]; trivial) (Or.inl rfl) (fun b u hb e => (sb.2 b hb).trans e) ex2 (setTO_new R2.t0)
theorem freshT (H : Hp) (h : Heap) (a : Addr) (e : h.get? a = some (freshSet X.w)) : ObjOk X.prog X.w H h a (SetTO X.prog X.w a []) := setTO_new (setTR_fresh e).t0
/-- len of such a set -/
def rLenT (K : PySem.W.Frag) (P : Program) (w : World) : List V → Hp → VK → Prop := fun xs H Q => ∃ a L, xs = [.ref a] ∧ H a = some (SetTO P w a L) ∧ (∀ q ∈ L, SqT K H q.1 (q.2.map V.int)) ∧ Q (.int L.length) H
theorem call_lenT : CallR X (.builtin "len") (rLenT X.K X.prog X.w) := by
  intro pins s σ H xs us Q I r h
  obtain ⟨a, L, rfl, ha, hL, q⟩ := h
  rw [Vals.ref1 r]
  obtain ⟨es, ep, t, R⟩ := SetT0.full (I.hok a _ ha).1 (fun p hp => I.isT (hL p hp))
  obtain ⟨o, ho, ex, hd⟩ := R.ob
  have few := R.few
  have sz := R.size
  refine call_len_set ho ex hd R.fits (by omega) ⟨.int L.length, H, I.tok _, ⟨_, by rw [sz]⟩, q⟩
/-- list.count of data -/
def rCntD : V → List V → Hp → VK → Prop := fun x xs H Q => ∃ (y : V) (M : List Addr) (d : PyData) (ds : List PyData), xs = [y] ∧ Dn M H x (.list ds) ∧ Dn M H y d ∧ PyData.plainAll ds = true ∧ d.plain = true ∧ d.depth ≤ 20 ∧
  Q (.int ((ds.countP fun z => PyData.eqv z d : Nat) : Int)) H
theorem mt_count (hu : X.A.units + 64 < cLine) : MtR X "list.count" rCntD := by
  intro pins s σ H x xs v us Q I rx rxs h
  obtain ⟨y, M, d, ds, rfl, hx, hy, p1, p2, dp, q⟩ := h
  obtain ⟨u, rfl, ru⟩ := rxs.one
  obtain ⟨bs, rd, _⟩ := Dn.reads I d y u hy ru
  cases hx with
  | lst ha _ hds =>
    cases rx
    obtain ⟨_, its, n, rv, ho⟩ := I.hok _ _ ha
    obtain ⟨as, rs, _⟩ := DnAll.reads I ds _ its hds rv
    refine PySem.SeqAt.count_list_data ⟨_, ho, rfl, _, rfl⟩ rs rd p1 p2 (by show X.A.units + 1 + _ < cLine; have := Nat.min_le_right (PyData.depthAll ds) d.depth; omega) ⟨.int _, H, I.tok _, ⟨_, rfl⟩, q⟩
end
/-! Tuples: turned about, cut, joined, as data. -/
section
variable {prog : Program} {w : World} {A : Around} {E : Value → Shared → Prop} {s : Shared}
theorem rev_adjust (n : Nat) : Builtin.Slice.sliceAdjust none none (-1) (n : Int) = ((n : Int) - 1, -1) := by
  simp [Builtin.Slice.sliceAdjust]
theorem rev_places (n : Nat) : Builtin.Slice.slicePlaces ((n : Int) - 1) (-1) (-1) = n := by
  unfold Builtin.Slice.slicePlaces
  rw [if_neg (by decide)]
  by_cases h : (n : Int) - 1 > -1
  · simp only [h, if_true]; simp
  · simp only [h, if_false]
    first | done | omega
theorem fmap_of {α β : Type} {f : α → Option β} {g : α → β} : ∀ {l : List α}, (∀ m ∈ l, f m = some (g m)) → l.filterMap f = l.map g
  | [], _ => rfl
  | a :: l, h => by
    rw [List.filterMap_cons, h a (List.mem_cons_self ..), List.map_cons, fmap_of fun m hm => h m (List.mem_cons_of_mem _ hm)]
theorem rev_pick (xs : Array Value) : ((List.range xs.size).filterMap fun (m : Nat) => xs[((xs.size : Int) - 1 + (m : Int) * -1).toNat]?).toArray = xs.toList.reverse.toArray := by
  congr 1
  apply List.ext_getElem?
  intro i
  have e : ((List.range xs.size).filterMap fun (m : Nat) => xs[((xs.size : Int) - 1 + (m : Int) * -1).toNat]?) = (List.range xs.size).map fun m => xs.getD (xs.size - 1 - m) .none := by
    refine fmap_of fun m hm => ?_
    have := List.mem_range.mp hm
    have h1 : ((xs.size : Int) - 1 + (m : Int) * -1).toNat = xs.size - 1 - m := by omega
    have h2 : xs.size - 1 - m < xs.size := by omega
    rw [h1, Array.getElem?_eq_getElem h2]
    simp [Array.getD, h2]
  rw [e]
  by_cases hi : i < xs.size
  · have h2 : xs.size - 1 - i < xs.size := by omega
    rw [List.getElem?_map, List.getElem?_range hi, List.getElem?_reverse (by simpa using hi)]
    simp [Array.getD, h2]
  · rw [List.getElem?_eq_none (by simp; omega), List.getElem?_eq_none (by simp; omega)]
theorem sliceApplied_rev {sl : Addr} {n : Nat} {t : Tok} {Q : Int × Int × Nat → Shared → Prop} (hs : s.heap.IsSliceOf sl .none .none (.int (-1) t))
    (h : Q ((n : Int) - 1, -1, n) s) : wpAny (model prog w) A (Builtin.Slice.sliceApplied (.ref sl) (pure (n : Int))) Q E s := by
  obtain ⟨os, hos, hcs, hds⟩ := id hs
  unfold Builtin.Slice.sliceApplied Builtin.Slice.sliceFields
  refine wpAny_bind (wpAny_bind (wpAny_field hos hds (x := .none) rfl (wpAny_bind (wpAny_field hos hds (x := .none) rfl (wpAny_bind (wpAny_field hos hds (x := .int (-1) t) rfl (wpAny_pure ?_)))))))
  refine wpAny_bind (slicePart_int ?_)
  show wpAny _ _ (if ((-1 : Int) == 0) = true then _ else _) _ _ s
  rw [if_neg (by decide)]
  refine wpAny_bind (slicePart_none (wpAny_bind (slicePart_none (wpAny_bind (wpAny_pure ?_)))))
  show wpAny _ _ (match Builtin.Slice.sliceAdjust none none (-1) (n : Int) with | (lo, hi) => pure (lo, (-1 : Int), Builtin.Slice.slicePlaces lo hi (-1))) _ _ s
  rw [rev_adjust n]
  show wpAny _ _ (pure ((n : Int) - 1, (-1 : Int), Builtin.Slice.slicePlaces ((n : Int) - 1) (-1) (-1))) _ _ s
  rw [rev_places]
  exact wpAny_pure h
theorem getItem_tuple_rev {t sl : Addr} {items : Array Value} {k : Tok} {Q : Value → Shared → Prop} (ht : IsTup s.heap t items) (hs : s.heap.IsSliceOf sl .none .none (.int (-1) k))
    (h : Q (.ref s.heap.objs.size) { s with heap := s.heap.push { cls := .type "tuple", data := .seq items.toList.reverse.toArray } })
    (hsz : items.size ≤ sizeLine) : wpAny (model prog w) A (getItem (.ref t) (.ref sl)) Q E s := by
  have htake : sizeOk (.seq items.toList.reverse.toArray) := by
    show items.toList.reverse.toArray.size ≤ sizeLine
    rw [List.size_toArray, List.length_reverse, Array.length_toList]
    exact hsz
  obtain ⟨os, hos, hcs, hds⟩ := id hs
  have hTs : s.TypeIs (.ref sl) "slice" := ⟨os, hos, hcs⟩
  unfold getItem
  try with_reducible refine wpAny_holding ?_
  first | refine wpAny_bind (wpAny_pure ?_) | skip
  refine wpAny_bind (wpAny_sequenceKey ht.typeIs (by decide) ?_)
  refine wpAny_bind (wpAny_callSpecial?_slot (name := Str.ofString "__getitem__") ht.typeIs PyProof.Rows.slot_tuple_getitem
    (wpAny_call_entry PyProof.Rows.slot_tuple_getitem ht.typeIs PySem.F.entry_tuple_getitem ?_ (PySem.F.args_tuple_getitem_2 _ _)))
  show wpAny _ _ (Builtin.Tuple.tupleItemsOf (.ref t) >>= _) _ _ s
  refine wpAny_bind (tupleItemsOf_ ht ?_)
  refine wpAny_bind (wpAny_typeOf hTs ?_)
  rw [if_pos (by decide)]
  refine wpAny_bind (sliceApplied_rev hs ?_)
  have hno : ¬ ((((items.size : Int) - 1) == 0 && (-1 : Int) == 1 && items.size == items.size) = true) := by
    intro q
    rw [Bool.and_eq_true, Bool.and_eq_true] at q
    have q1 : (-1 : Int) = 1 := eq_of_beq q.1.2
    omega
  show wpAny _ _ (if (((items.size : Int) - 1) == 0 && (-1 : Int) == 1 && items.size == items.size) = true then _ else _) _ _ s
  rw [if_neg hno, rev_pick]
  first
    | exact wpAny_bind (m := Builtin.Tuple.tupleExact _) (wpAny_newObj_type (wpAny_pure ⟨_, rfl, wpAny_pure h⟩) htake)
    | exact wpAny_bind (m := Builtin.Tuple.tupleExact _) (wpAny_newObj_type (wpAny_bind (wpAny_pure (wpAny_pure ⟨_, rfl, wpAny_pure h⟩))) htake)
    | exact wpAny_bind (wpAny_bind (m := Builtin.Tuple.tupleExact _) (wpAny_newObj_type (wpAny_pure (wpAny_pure ⟨_, rfl, wpAny_pure h⟩)) htake))
    | exact wpAny_bind (wpAny_bind (m := Builtin.Tuple.tupleExact _) (wpAny_newObj_type (wpAny_pure ⟨_, rfl, wpAny_pure h⟩) htake))
end
section
variable {X : Cx}
def tRevT (K : PySem.W.Frag) (te : TE) : TE := fun σ H Q => te σ H fun x H1 => ∃ a xs, x = .ref a ∧ SqT K H1 a xs ∧ ∀ p, H1 p = none → Q (.ref p) (upd H1 p (.tup xs.reverse))
theorem pe_revT {e : Expr} {te : TE} {k : Nat} {p1 p2 p3 pos : Pos} (he : PE X e te) : PE X (.Subscript e (.Slice none none (some (.UnaryOp .USub (.Constant (.int 1) k p1) p2)) p3) pos) (tRevT X.K te) := by
  refine ⟨fun pins s σ H Q I h => ?_⟩
  refine Subscript_ (thn (he.run pins s σ H _ I h) fun v s1 ⟨x, H1, I1, r1, q1⟩ => ?_)
  obtain ⟨a, xs, ex, hx, q⟩ := q1
  subst ex
  cases r1
  have hst : PO X (some (.UnaryOp .USub (.Constant (.int 1) k p1) p2)) (tPart (tUn (rU fun i => .int (-i)) (tC (.int 1)))) := po_some (pe_un un_neg pe_int)
  refine wpAny_Slice (thn (po_none.run pins s1 σ H1 (fun o H2 => o = none ∧ H2 = H1) I1 ⟨rfl, rfl⟩) fun vl s2 ⟨l, H2, I2, pl, el, e2⟩ => ?_)
  subst el e2
  refine thn (po_none.run pins s2 σ H2 (fun o H3 => o = none ∧ H3 = H2) I2 ⟨rfl, rfl⟩) fun vu s3 ⟨u, H3, I3, pu, eu, e3⟩ => ?_
  subst eu e3
  refine thn (hst.run pins s3 σ H3 (fun o H4 => o = some (-1) ∧ H4 = H3) I3 ⟨1, rfl, -1, rfl, rfl, rfl⟩) fun vs s4 ⟨o, H4, I4, ps, eo, e4⟩ => ?_
  subst eo e4
  have I5 : Inv X pins σ H4 { s4 with heap := s4.heap.push { cls := .type "slice", data := .fields #[vl, vu, vs] } } := I4.kept (t' := s4.toks) fun b ob q => Heap.get?_push_of_some _ q
  cases pl
  cases pu
  cases ps with
  | int _ tk =>
  obtain ⟨its, r, ht, hz⟩ := I5.tuple hx
  have hlen := r.length
  show wpAny (model X.prog X.w) X.A (subscriptTail e (.Slice none none (some (.UnaryOp .USub (.Constant (.int 1) k p1) p2)) p3) (.ref a) (.ref s4.heap.objs.size)) (EP X pins σ Q) X.xe { s4 with heap := s4.heap.push { cls := .type "slice", data := .fields #[.none, .none, .int (-1) tk] } }
  refine tail_any (ops := [.ref a, .ref s4.heap.objs.size]) ht.typeIs (PyProof.Rows.slot_tuple_getitem.lookup) ?_ (by with_unfolding_all rfl)
  refine getItem_tuple_rev ht (Heap.IsSliceOf.new _ .none .none (.int (-1) tk)) ?_ (by rw [List.size_toArray]; omega)
  refine ⟨.ref _, _, I5.laid (t' := s4.toks) (o := .tup xs.reverse) (fun b ob q => Heap.get?_push_of_some _ q) (Nat.le_refl _) ?_, rfl, q _ (I5.hok.fresh (Nat.le_refl _))⟩
  exact ⟨by rw [List.length_reverse]; exact hz, _, r.reverse, IsTup.new _ _⟩
end
/-! readings -/
section
variable {K : PySem.W.Frag} {H : Hp} {Q : VK} {b0 : Addr} {ob : HO}
theorem x_catD {a b : Addr} {xs ys : List V} (hob : H b0 = some ob) (ha : H a = some (.tup xs)) (na : a ∉ [b0]) (hb : H b = some (.tup ys)) (nb : b ∉ [b0]) (z : xs.length + ys.length ≤ 100000)
    (h : ∀ p H', Same H H' → H' p = some (.tup (xs ++ ys)) → p ∉ [b0] → Q (.ref p) H') : rCatA K (.ref a) (.ref b) H Q := by
  refine ⟨a, b, xs, ys, rfl, rfl, SqT.of ha, SqT.of hb, Nat.le_trans z (by decide), ?_, ?_, ?_⟩
  · rintro rfl; exact h b H (Same.refl H) (by rw [hb]; rfl) nb
  · rintro _ rfl; exact h a H (Same.refl H) (by rw [ha, List.append_nil]) na
  · intro _ _ p hp; exact h p _ (same_upd hp) upd_same (new_out (Same.refl H) hob hp)
theorem cutV_whole {xs : List V} {lo hi : Option Int} (h : HT.sIx xs.length 0 lo = 0 ∧ HT.sIx xs.length xs.length hi = xs.length) : cutV xs lo hi = xs := by
  unfold cutV; rw [h.1, h.2]; simp
theorem x_slD {a : Addr} {xs : List V} {lo hi : Option Int} (hob : H b0 = some ob) (ha : H a = some (.tup xs)) (na : a ∉ [b0])
    (h : ∀ p H', Same H H' → H' p = some (.tup (cutV xs lo hi)) → p ∉ [b0] → Q (.ref p) H') : rSlA K (.ref a) lo hi H Q := by
  refine ⟨a, xs, rfl, SqT.of ha, fun w => ?_, fun _ p hp => h p _ (same_upd hp) upd_same (new_out (Same.refl H) hob hp)⟩
  exact h a H (Same.refl H) (by rw [ha, cutV_whole w]) na
theorem x_revT {σ : L2.St} {te : TE} (h : te σ H fun x H1 => ∃ a xs, x = .ref a ∧ SqT K H1 a xs ∧ ∀ p, H1 p = none → Q (.ref p) (upd H1 p (.tup xs.reverse))) : tRevT K te σ H Q := h
theorem cut_dn {M : List Addr} {v : List V} {d : List PyData} (lo hi : Option Int) (h : DnAll M H v d) : ∃ e, DnAll M H (cutV v lo hi) e ∧ (∀ z ∈ e, z ∈ d) ∧ e.length ≤ d.length := by
  refine ⟨_, (h.drop _).take _, fun z hz => List.mem_of_mem_drop (List.mem_of_mem_take hz), ?_⟩
  rw [List.length_take, List.length_drop]; omega
theorem DnAll.rev {M : List Addr} : ∀ {v : List V} {d : List PyData}, DnAll M H v d → DnAll M H v.reverse d.reverse
  | _, _, .nil => .nil
  | _, _, .cons a b => by rw [List.reverse_cons, List.reverse_cons]; exact (DnAll.rev b).app (.cons a .nil)
theorem x_gtup {σ : L2.St} {n : Nat} {p : Addr} {xs : List V} {t : TGs} {Qs : L2.St → Hp → Prop} (hp : SqT K H p xs) (hl : xs.length = n) (h : t xs σ H Qs) : gTup K n t (.ref p) σ H Qs := ⟨p, xs, rfl, hp, hl, h⟩
theorem x_gcons {σ : L2.St} {v : V} {r : List V} {t : TG} {u : TGs} {Qs : L2.St → Hp → Prop} (h : t v σ H fun σ' H' => u r σ' H' Qs) : gCons t u (v :: r) σ H Qs := ⟨v, r, rfl, h⟩
theorem x_gnil {σ : L2.St} {Qs : L2.St → Hp → Prop} (h : Qs σ H) : gNil [] σ H Qs := ⟨rfl, h⟩
/-- a set comprehension over a list that it leaves as it is -/
theorem setc_list {Z : Addr → HO} {add : TAdd} {a : Addr} {xs : List V} {g : TG} {tt : TT} {te : TE} {vs : List Nat} {σ : L2.St} {H1 : Hp} {L : Addr} {Qd : Hp → Prop} (Pv : Nat → Hp → Prop) (h0 : Pv 0 (upd H1 L (Z L)))
    (hl : ∀ i H, i ≤ xs.length → Pv i H → SqL K H a xs)
    (hs : ∀ i x H, xs[i]? = some x → Pv i H → g x (wipe σ vs) H fun τ H4 => wipe τ vs = wipe σ vs ∧ tt τ H4 fun b H5 => if b = true then te τ H5 fun y H6 => add L y H6 (Pv (i + 1)) else Pv (i + 1) H5) (hd : ∀ H, Pv xs.length H → Qd H) :
    ∃ W : Nat → Nat → Hp → Prop, (∃ m, W 0 m (upd H1 L (Z L))) ∧ ∀ i m H2, W i m H2 →
    ((Itl K a).stop i H2 ∧ Qd H2) ∨ ((Itl K a).go i H2 ∧ ∃ N : Hp → Prop, (∀ H3, N H3 → ∃ m3, m3 < m ∧ W (i + 1) m3 H3) ∧ ∀ x H3, (Itl K a).yld i H2 x H3 →
      g x (wipe σ vs) H3 fun τ H4 => wipe τ vs = wipe σ vs ∧ tt τ H4 fun b H5 => if b = true then te τ H5 fun y H6 => add L y H6 N else N H5) := by
  refine ⟨fun i m H => m = xs.length - i ∧ i ≤ xs.length ∧ Pv i H, ⟨xs.length, by simp, Nat.zero_le _, h0⟩, ?_⟩
  rintro i m H ⟨rfl, hi, p⟩
  have q := hl i H hi p
  by_cases hlt : i < xs.length
  · refine .inr ⟨⟨xs, xs[i], q, by simp [hlt]⟩, Pv (i + 1), fun H' p' => ⟨xs.length - (i + 1), by omega, rfl, hlt, p'⟩, fun x H' y => ?_⟩
    obtain ⟨e, y⟩ := y
    subst e
    exact hs i x _ (y xs q) p
  · have e : i = xs.length := by omega
    subst e
    exact .inl ⟨⟨xs, q, Nat.le_refl _⟩, hd H p⟩
theorem x_setC {σ : L2.St} {Z : Addr → HO} {add : TAdd} {wi : TI} {g : TG} {tt : TT} {te : TE} {vs : List Nat} (h : wi σ H fun J H1 => ∀ L, H1 L = none → ∃ W : Nat → Nat → Hp → Prop, (∃ m, W 0 m (upd H1 L (Z L))) ∧ ∀ i m H2, W i m H2 →
    (J.stop i H2 ∧ Q (.ref L) H2) ∨ (J.go i H2 ∧ ∃ N : Hp → Prop, (∀ H3, N H3 → ∃ m3, m3 < m ∧ W (i + 1) m3 H3) ∧ ∀ x H3, J.yld i H2 x H3 →
      g x (wipe σ vs) H3 fun τ H4 => wipe τ vs = wipe σ vs ∧ tt τ H4 fun b H5 => if b = true then te τ H5 fun y H6 => add L y H6 N else N H5)) : tSetC Z add wi g tt te vs σ H Q := h
theorem x_bm {σ : L2.St} {T : String} {r : V → List V → Hp → VK → Prop} {to : TE} {t : TA} (h : to σ H fun x H1 => tyV K T x H1 ∧ t σ H1 fun xs H2 => r x xs H2 Q) : tBM K T r to t σ H Q := h
theorem x_tyL {p : Addr} {xs : List V} {P : Prop} (hp : SqL K H p xs) (h : P) : tyV K "list" (.ref p) H ∧ P := ⟨.inl ⟨rfl, xs, hp⟩, h⟩
theorem x_app {l : Addr} {xs : List V} {y : V} (hl : H l = some (.lst xs)) (z : xs.length < sizeLine) (h : Q .non (upd H l (.lst (xs ++ [y])))) : rAppend (.ref l) [y] H Q := ⟨l, xs, y, rfl, rfl, hl, z, h⟩
/-- a cut of a tuple: some tuple, old or new -/
theorem x_slN {a : Addr} {xs : List V} {lo hi : Option Int} (ha : H a = some (.tup xs))
    (h : ∀ p H', Same H H' → H' p = some (.tup (cutV xs lo hi)) → Q (.ref p) H') : rSlA K (.ref a) lo hi H Q := by
  refine ⟨a, xs, rfl, SqT.of ha, fun w => ?_, fun _ p hp => h p _ (same_upd hp) upd_same⟩
  exact h a H (Same.refl H) (by rw [ha, cutV_whole w])
end
section
variable {X : Cx} {o e : Expr} {es : List Expr} {to : TE} {t : TA} {name : Str} {apos cpos : Pos} {T id : String} {r : V → List V → Hp → VK → Prop}
/-- a builtin's method, where X isn't known ahead (in a comprehension) -/
theorem pe_bmK (K : PySem.W.Frag) (pa : PlainAttrs T) (slot : Slot T name id) (hty : typeOf (.builtin id) = pure (.type "method_descriptor")) (hm : MtR X id r) (ho : PE X o to) (ha : PA X (e :: es) t) (hK : X.K = K := by rfl)
    (hbase : attributeBase o name X.env (eval o X.env) = eval o X.env := by rfl)
    (hfew : ((backTo cpos (starEach (e :: es) X.env)).all (fun x => !x.1) && (backToKw cpos (keywordEach [] X.env)).all (fun x => x.1.isSome)
      && decide ((e :: es).length + ([] : List Keyword).length + (if ([] : List Keyword).isEmpty then 0 else 1) < 30)) = true := by rfl)
    (hline : (apos.endLine == cpos.line) = true := by rfl) (hs : starEach (e :: es) X.env = (false, eval e X.env) :: starEach es X.env := by rfl) (hplain : (backTo cpos (starEach es X.env)).any (·.1) = false := by rfl) :
    PE X (.Call (.Attribute o name apos) (e :: es) [] cpos) (tBM K T r to t) := by
  subst hK
  exact pe_bm pa slot hty hm ho ha hbase hfew hline hs hplain
end
def topS (i : Nat) : Stmt := PySem.Challenge.pw_leadswitch_k12_bounds_and_bundles.main.body.getD i (.Pass ⟨0, 0, 0, 0⟩)
abbrev s_is_integer : Stmt := topS 6
theorem sc_is_integer : FnScope ["thing"] ["thing"] (defScope s_is_integer) := ⟨rfl, rfl, rfl, by decide +kernel, rfl, by decide +kernel, by decide +kernel⟩
abbrev s_is_amount : Stmt := topS 7
theorem sc_is_amount : FnScope ["thing"] ["thing"] (defScope s_is_amount) := ⟨rfl, rfl, rfl, by decide +kernel, rfl, by decide +kernel, by decide +kernel⟩
abbrev s_is_count : Stmt := topS 8
theorem sc_is_count : FnScope ["thing"] ["thing"] (defScope s_is_count) := ⟨rfl, rfl, rfl, by decide +kernel, rfl, by decide +kernel, by decide +kernel⟩
abbrev s_is_broker : Stmt := topS 9
theorem sc_is_broker : FnScope ["thing", "size"] ["thing", "size"] (defScope s_is_broker) := ⟨rfl, rfl, rfl, by decide +kernel, rfl, by decide +kernel, by decide +kernel⟩
abbrev s_are_bounds : Stmt := topS 10
theorem sc_are_bounds : FnScope ["thing", "row"] ["thing"] (defScope s_are_bounds) := ⟨rfl, rfl, rfl, by decide +kernel, rfl, by decide +kernel, by decide +kernel⟩
abbrev s__is_bound : Stmt := topS 11
theorem sc__is_bound : FnScope ["thing", "floor", "ceiling"] ["thing"] (defScope s__is_bound) := ⟨rfl, rfl, rfl, by decide +kernel, rfl, by decide +kernel, by decide +kernel⟩
abbrev s_are_bundles : Stmt := topS 12
theorem sc_are_bundles : FnScope ["thing", "size", "row"] ["thing", "size"] (defScope s_are_bundles) := ⟨rfl, rfl, rfl, by decide +kernel, rfl, by decide +kernel, by decide +kernel⟩
abbrev s__is_bundle : Stmt := topS 13
theorem sc__is_bundle : FnScope ["thing", "size", "first", "second", "partitions"] ["thing", "size"] (defScope s__is_bundle) := ⟨rfl, rfl, rfl, by decide +kernel, rfl, by decide +kernel, by decide +kernel⟩
abbrev s_Lbag : Stmt := topS 15
theorem sc_Lbag : FnScope ["_law_script", "_law_cell"] ["_law_script"] (defScope s_Lbag) := ⟨rfl, rfl, rfl, by decide +kernel, rfl, by decide +kernel, by decide +kernel⟩
abbrev s_Ltake : Stmt := topS 16
theorem sc_Ltake : FnScope ["_law_bag_here", "_law_many", "_law_cell", "_law_value", "_law_first", "_law_second"] ["_law_bag_here", "_law_many"] (defScope s_Ltake) := ⟨rfl, rfl, rfl, by decide +kernel, rfl, by decide +kernel, by decide +kernel⟩
abbrev s_Lalike : Stmt := topS 17
theorem sc_Lalike : FnScope ["_law_found", "_law_due"] ["_law_found", "_law_due"] (defScope s_Lalike) := ⟨rfl, rfl, rfl, by decide +kernel, rfl, by decide +kernel, by decide +kernel⟩
abbrev s_Lodd : Stmt := topS 18
theorem sc_Lodd : FnScope ["_law_bag_here", "_law_deep", "_law_k", "_law_some"] ["_law_bag_here"] (defScope s_Lodd) := ⟨rfl, rfl, rfl, by decide +kernel, rfl, by decide +kernel, by decide +kernel⟩
abbrev s_Lwhole : Stmt := topS 19
theorem sc_Lwhole : FnScope ["_law_thing", "_law_least", "_law_most"] ["_law_thing", "_law_least", "_law_most"] (defScope s_Lwhole) := ⟨rfl, rfl, rfl, by decide +kernel, rfl, by decide +kernel, by decide +kernel⟩
abbrev s_Lis_bound : Stmt := topS 20
theorem sc_Lis_bound : FnScope ["_law_thing"] ["_law_thing"] (defScope s_Lis_bound) := ⟨rfl, rfl, rfl, by decide +kernel, rfl, by decide +kernel, by decide +kernel⟩
abbrev s_Lare_bounds : Stmt := topS 21
theorem sc_Lare_bounds : FnScope ["_law_thing", "_law_bound"] ["_law_thing"] (defScope s_Lare_bounds) := ⟨rfl, rfl, rfl, by decide +kernel, rfl, by decide +kernel, by decide +kernel⟩
abbrev s_Lis_bundle : Stmt := topS 22
theorem sc_Lis_bundle : FnScope ["_law_thing", "_law_size"] ["_law_thing", "_law_size"] (defScope s_Lis_bundle) := ⟨rfl, rfl, rfl, by decide +kernel, rfl, by decide +kernel, by decide +kernel⟩
abbrev s_Lare_bundles : Stmt := topS 23
theorem sc_Lare_bundles : FnScope ["_law_thing", "_law_size", "_law_pairs", "_law_row", "_law_pair"] ["_law_thing", "_law_size"] (defScope s_Lare_bundles) := ⟨rfl, rfl, rfl, by decide +kernel, rfl, by decide +kernel, by decide +kernel⟩
abbrev s_Lsome_bounds : Stmt := topS 24
theorem sc_Lsome_bounds : FnScope ["_law_bag_here", "_law_found", "_law_broker", "_law_floor"] ["_law_bag_here"] (defScope s_Lsome_bounds) := ⟨rfl, rfl, rfl, by decide +kernel, rfl, by decide +kernel, by decide +kernel⟩
abbrev s_Lsome_bundles : Stmt := topS 25
theorem sc_Lsome_bundles : FnScope ["_law_bag_here", "_law_size", "_law_found", "_law_first", "_law_second"] ["_law_bag_here", "_law_size"] (defScope s_Lsome_bundles) := ⟨rfl, rfl, rfl, by decide +kernel, rfl, by decide +kernel, by decide +kernel⟩
abbrev s_Lbent : Stmt := topS 26
theorem sc_Lbent : FnScope ["_law_bag_here", "_law_rows", "_law_at", "_law_way", "_law_some", "_law_row", "_law_spot", "_law_near"] ["_law_bag_here", "_law_rows"] (defScope s_Lbent) := ⟨rfl, rfl, rfl, by decide +kernel, rfl, by decide +kernel, by decide +kernel⟩
abbrev s_law : Stmt := topS 27
theorem sc_law : FnScope ["_law_script", "_law_bag_here", "_law_turn", "_law_size", "_law_things", "_law_bent_here", "_law_thing", "_law_shown", "_law_due", "_law_again", "_law_found"] ["_law_script"] (defScope s_law) := ⟨rfl, rfl, rfl, by decide +kernel, rfl, by decide +kernel, by decide +kernel⟩

structure Cs (mg : Str → Option Value) (t0 t1 t2 t3 t4 : Tok) : Prop where
  MOST_AMOUNT : mg "MOST_AMOUNT" = some (.int (10 ^ 30) t0)
  MOST_COUNT : mg "MOST_COUNT" = some (.int (10 ^ 18) t1)
  LEAST_SIZE : mg "LEAST_SIZE" = some (.int 2 t2)
  MOST_SIZE : mg "MOST_SIZE" = some (.int 10 t3)
  MOST_BUNDLES : mg "MOST_BUNDLES" = some (.int 45 t4)
theorem cs_mk {K : PySem.W.Frag} {h : Heap} {mg : Str → Option Value} {t0 t1 t2 t3 t4 : Tok} (X : K.In h) (G : h.Ns mainGlobals mg)
    (z0 : PySem.W.nsIn K mainGlobals "MOST_AMOUNT" = some (some (.int (10 ^ 30) t0)))
    (z1 : PySem.W.nsIn K mainGlobals "MOST_COUNT" = some (some (.int (10 ^ 18) t1)))
    (z2 : PySem.W.nsIn K mainGlobals "LEAST_SIZE" = some (some (.int 2 t2)))
    (z3 : PySem.W.nsIn K mainGlobals "MOST_SIZE" = some (some (.int 10 t3)))
    (z4 : PySem.W.nsIn K mainGlobals "MOST_BUNDLES" = some (some (.int 45 t4))) : Cs mg t0 t1 t2 t3 t4 :=
  ⟨PySem.W.mg_of X G z0, PySem.W.mg_of X G z1, PySem.W.mg_of X G z2, PySem.W.mg_of X G z3, PySem.W.mg_of X G z4⟩
local macro_rules | `(tactic| walk_at "ne") => `(tactic| first
  | assumption | exact Ne.symm (by assumption) | exact ne_of_none (by walk_at "lk") (by assumption) | exact ne_of_none2 (by assumption) (by walk_at "lk"))
local macro_rules | `(tactic| walk_at "lk") => `(tactic| first
  | assumption
  | exact upd_same
  | (refine' upd_ne2 ?kn ?ke; (case kn => walk_at "ne"); (case ke => walk_at "lk"))
  | (refine' SqL.of ?ke; (case ke => walk_at "lk"))
  | (refine' SqT.of ?ke; (case ke => walk_at "lk")))
local macro_rules | `(tactic| walk_at "y") => `(tactic| first
  | (with_reducible first
    | refine x_seq ?_ | refine x_asg ?_ | refine x_name ?_ | refine x_op ?_ | refine x_c ?_
    | refine x_I0 ?_ | refine x_cons ?_ | refine x_nil ?_ | refine x_cb ?_ | refine x_call ?_ | refine x_ret ?_ | refine x_retN ?_
    | refine x_ifS ?_ | refine x_test ?_ | refine x_B ?_ | refine x_bl ?_ | refine x_eqI ?_ | refine x_neI ?_ | refine x_drop ?_ | refine x_next ?_
    | refine x_and ?_ | refine x_or ?_ | refine x_not ?_ | refine x_notV ?_ | refine x_if ?_ | refine x_chain ?_
    | refine x_un ?_ | refine x_U ?_ | refine x_iteT ?_ | refine x_iteF ?_ | refine x_iteNT ?_ | refine x_iteNF ?_ | refine x_yes ?_
    | refine x_augS ?_ | refine x_ipI ?_ | refine x_gsub ?_ | refine x_par ?_ | refine x_par2 ?_ | refine x_lst ?_ | refine x_tup ?_ | refine x_break ?_ | refine x_cont ?_
    | refine x_rev ?_ | refine x_dnew ?_ | refine x_disp ?_ | refine x_eqS ?_ | refine x_neS ?_ | refine x_isI ?_ | refine x_sl ?_ | refine x_noPart ?_ | refine x_part ?_ | refine x_for ?_ | refine x_iL ?_ | refine x_iT ?_ | refine x_r1 ?_ | refine x_r2 ?_ | refine x_lc ?_ | refine x_setC ?_ | refine x_gcons ?_ | refine x_gnil ?_ | refine x_revT ?_)
  | ((with_reducible refine' x_gtup ?kp ?kl ?kh); (case kp => walk_at "lk"); (case kl => rfl))
  | ((with_reducible refine' x_var ?ke ?kh); (case ke => rfl))
  | ((with_reducible refine' x_ixL ?kp ?ke ?kh); (case kp => walk_at "lk"); (case ke => rfl))
  | ((with_reducible refine' x_ixT ?kp ?ke ?kh); (case kp => walk_at "lk"); (case ke => rfl))
  | ((with_reducible refine' x_getL ?kp ?ki ?ke ?kh); (case kp => walk_at "lk"); (case ki => rfl); (case ke => rfl))
  | ((with_reducible refine' x_setL ?kp ?ke ?kh); (case kp => walk_at "lk"); (case ke => rfl))
  | ((with_reducible refine' x_len ?kp ?kh); (case kp => walk_at "lk"))
  | ((with_reducible refine' x_lenT ?kp ?kh); (case kp => walk_at "lk"))
  | ((with_reducible refine' x_all ?kp ?kh); (case kp => walk_at "lk"))
  | ((with_reducible refine' x_slL ?kp ?kh); (case kp => walk_at "lk"))
  | ((with_reducible refine' x_cat ?kp ?kq ?kz ?kh); (case kp => walk_at "lk"); (case kq => walk_at "lk"); (case kz => walk_at "sz"))
  | ((with_reducible refine' x_toTup ?kp ?kh); (case kp => walk_at "lk"))
  | ((with_reducible refine' x_lp ?kp ?kh); (case kp => walk_at "lk"))
  | ((with_reducible refine' x_tp ?kp ?kh); (case kp => walk_at "lk"))
  | ((with_reducible refine' x_rg ?kp ?kq ?kh); (case kp => walk_at "ar"); (case kq => walk_at "ar"))
  | ((with_reducible refine' x_rg2 ?kp ?kh); (case kp => walk_at "ar"))
  | (with_reducible refine x_int1 ?_)
  | ((with_reducible refine' x_isD ?kp ?kq ?kh); (case kp => walk_at "dn"); (case kq => simp))
  | ((with_reducible refine' x_new ?kp ?kh); (case kp => exact Nat.le_of_ble_eq_true rfl))
  | ((with_reducible refine' x_mod ?kp ?kh); (case kp => decide))
  | ((with_reducible refine' x_mul ?kp ?kh); (case kp => walk_at "mulok"))
  | ((with_reducible refine' x_pow ?kp ?kh); (case kp => exact ⟨by decide, by decide, by decide⟩)))
local macro_rules | `(tactic| walk_at "ar") => `(tactic| first | decide | omega | (refine ⟨?_, ?_, ?_, ?_⟩ <;> (first | decide | omega)))
local macro_rules | `(tactic| walk_at "dn") => `(tactic| assumption)
local macro_rules | `(tactic| walk_at "mulok") => `(tactic| first | (exact .inl ⟨by omega, by omega⟩) | (exact .inr ⟨by omega, by omega⟩))
local macro_rules | `(tactic| walk_at "sz") => `(tactic| first | decide | (simp only [List.length_append, List.length_cons, List.length_nil, List.length_map, List.length_singleton, sizeLine_eq]; omega))
local macro_rules | `(tactic| walk_at "x") => `(tactic| first | walk_at "y" | (with_reducible refine x_andV ?_) | (with_reducible refine x_orV ?_))
local macro_rules | `(tactic| walk_at "ys") => `(tactic| repeat walk_at "y")
local macro_rules | `(tactic| walk_at "xs") => `(tactic| repeat walk_at "x")


/-- the drawn bag -/
def Bag (H : Hp) (b c : Addr) : Prop := ∃ (x y : Int) (k : Nat) (cs : List Int), H b = some (.lst [.int x, .int y, .int k, .ref c]) ∧ H c = some (.lst (cs.map V.int)) ∧
  0 ≤ x ∧ 0 ≤ y ∧ y < 2147483647 ∧ (∀ z ∈ cs, 0 ≤ z) ∧ c ≠ b
def spTake : Sp := fun vs H Q _ => ∃ b c n, vs = [.ref b, .int n] ∧ Bag H b c ∧ 0 < n ∧ n.natAbs < 2 ^ 200 ∧
  ∀ H' v, Ext [b] H H' → Bag H' b c → 0 ≤ v → v < n → Q (.int v) H'

structure Bl (mg : Str → Option Value) : Prop where
  isinstance : mg "isinstance" = none
  «int» : mg "int" = none
  «bool» : mg "bool" = none
  «list» : mg "list" = none
  «tuple» : mg "tuple" = none
  «str» : mg "str" = none
  len : mg "len" = none
  abs : mg "abs" = none
  range : mg "range" = none
  repr : mg "repr" = none
  all : mg "all" = none
  max : mg "max" = none
  min : mg "min" = none
  sum : mg "sum" = none
  zip : mg "zip" = none
  enumerate : mg "enumerate" = none
theorem bl_mk {K : PySem.W.Frag} {h : Heap} {mg : Str → Option Value} (X : K.In h) (G : h.Ns mainGlobals mg)
    (z0 : PySem.W.nsIn K mainGlobals "isinstance" = some none)
    (z1 : PySem.W.nsIn K mainGlobals "int" = some none)
    (z2 : PySem.W.nsIn K mainGlobals "bool" = some none)
    (z3 : PySem.W.nsIn K mainGlobals "list" = some none)
    (z4 : PySem.W.nsIn K mainGlobals "tuple" = some none)
    (z5 : PySem.W.nsIn K mainGlobals "str" = some none)
    (z6 : PySem.W.nsIn K mainGlobals "len" = some none)
    (z7 : PySem.W.nsIn K mainGlobals "abs" = some none)
    (z8 : PySem.W.nsIn K mainGlobals "range" = some none)
    (z9 : PySem.W.nsIn K mainGlobals "repr" = some none)
    (z10 : PySem.W.nsIn K mainGlobals "all" = some none)
    (z11 : PySem.W.nsIn K mainGlobals "max" = some none)
    (z12 : PySem.W.nsIn K mainGlobals "min" = some none)
    (z13 : PySem.W.nsIn K mainGlobals "sum" = some none)
    (z14 : PySem.W.nsIn K mainGlobals "zip" = some none)
    (z15 : PySem.W.nsIn K mainGlobals "enumerate" = some none) : Bl mg :=
  ⟨PySem.W.mg_none_of X G z0, PySem.W.mg_none_of X G z1, PySem.W.mg_none_of X G z2, PySem.W.mg_none_of X G z3, PySem.W.mg_none_of X G z4, PySem.W.mg_none_of X G z5, PySem.W.mg_none_of X G z6, PySem.W.mg_none_of X G z7, PySem.W.mg_none_of X G z8, PySem.W.mg_none_of X G z9, PySem.W.mg_none_of X G z10, PySem.W.mg_none_of X G z11, PySem.W.mg_none_of X G z12, PySem.W.mg_none_of X G z13, PySem.W.mg_none_of X G z14, PySem.W.mg_none_of X G z15⟩
section
variable {P : Program} {w : World} {K : PySem.W.Frag} {mg : Str → Option Value} {base : Heap} {t0 t1 t2 t3 t4 : Tok}
theorem kn_take {k : Nat} (D : Df K mg "_law_take" s_Ltake) (B : Bl mg) : Kn P w K mg base "_law_take" (k + 1) spTake := by
  refine kn_of D (fun _ _ _ _ _ _ us hl => match us, hl with | [_, _], _ => rfl) sc_Ltake (fun vs H Q E h => by obtain ⟨b, c, n, rfl, _⟩ := h; rfl) (fun f cd B' fr z H vs Q E hr gd h => ?_)
  obtain ⟨b, c, n, rfl, ⟨x, y, k, cs, hb, hc, hx, hy, hy2, hcs, ncb⟩, hn, hn2, q⟩ := h
  refine ⟨_, (pss_cut (ps_if (pt_cmpR op_eq (pe_ix (r := rIxL K) ix_list (pv 0) pe_int (fun _ _ => rfl)) pe_int (nomark _)) (pss_cons (ps_set (i := 2) sc_Ltake.nd rfl (.inl rfl) pe_int)
  (pss_cut (ps_if (pt_cmpR op_lt (pe_ix (r := rIxL K) ix_list (pv 0) pe_int (fun _ _ => rfl)) (pe_callB call_len_seq (by rfl) B.len (by decide +kernel) (pa_cons (pe_ix (r := rIxL K) ix_list (pv 0) pe_int (fun _ _ => rfl)) pa_nil)) (nomark _)) (pss_one (ps_set (i := 2) sc_Ltake.nd rfl (.inl rfl) (pe_ix (r := rIxL K) ix_list (pe_ix (r := rIxL K) ix_list (pv 0) pe_int (fun _ _ => rfl)) (pe_ix (r := rIxL K) ix_list (pv 0) pe_int (fun _ _ => rfl)) (fun _ _ => rfl)))) pss_nil)
  (pss_cons (ps_augS (pv 0) pe_int get_list pe_int ip_add set_list)
  (pss_cut (ps_if (pt_cmpR op_ge (pv 2) pe_int (nomark _)) (pss_one (ps_asg (pv 2) (pg_sub (pv 0) pe_int set_list))) pss_nil)
  (pss_one (ps_asg (pe_op op_mod (pe_op op_add (pe_op op_add (pe_op op_mul (pe_ix (r := rIxL K) ix_list (pv 0) pe_int (fun _ _ => rfl)) pe_int) (pe_op op_mod (pv 2) pe_int)) (pe_op op_mul pe_int (pe_ix (r := rIxL K) ix_list (pv 0) pe_int (fun _ _ => rfl)))) pe_int) (pg_sub (pv 0) pe_int set_list))))))) pss_nil)
  (pss_cons (ps_if (pt_cmpR op_gt (pe_ix (r := rIxL K) ix_list (pv 0) pe_int (fun _ _ => rfl)) pe_int (nomark _)) (pss_cons (ps_set (i := 3) sc_Ltake.nd rfl (.inl rfl) (pe_op op_mod (pe_ix (r := rIxL K) ix_list (pv 0) pe_int (fun _ _ => rfl)) (pv 1)))
  (pss_cons (ps_asg (pe_op op_fdivW (pe_ix (r := rIxL K) ix_list (pv 0) pe_int (fun _ _ => rfl)) (pv 1)) (pg_sub (pv 0) pe_int set_list))
  (pss_one (ps_ret (pv 3))))) pss_nil)
  (pss_cons (ps_set (i := 4) sc_Ltake.nd rfl (.inl rfl) (pe_op op_mod (pe_op op_mul (pe_op op_add (pe_ix (r := rIxL K) ix_list (pv 0) pe_int (fun _ _ => rfl)) pe_int) pe_int) pe_int))
  (pss_cons (ps_set (i := 5) sc_Ltake.nd rfl (.inl rfl) (pe_op op_mod (pe_op op_mul (pe_op op_mod (pe_op op_mul (pv 4) (pv 4)) pe_int) pe_int) pe_int))
  (pss_cons (ps_if (pt_cmpR op_gt (pv 1) pe_int (nomark _)) (pss_one (ps_ret (pe_op op_mod (pe_op op_add (pe_op op_mul (pv 5) pe_int) (pv 4)) (pv 1)))) pss_nil)
  (pss_one (ps_ret (pe_op op_mod (pe_op op_fdivW (pv 5) pe_int) (pv 1))))))))), ?_⟩
  refine x_cut (fun σ' H' => ∃ v2, σ' = [some (.ref b), some (.int n), v2, none, none, none] ∧ Ext [b] H H' ∧ Bag H' b c) ?_ ?_
  · walk_at "xs"
    refine x_ite (fun h0 => ?_) (fun h0 => ?_)
    · subst h0
      walk_at "xs"
      refine x_cut (fun σ' H' => ∃ v2 : Int, σ' = [some (.ref b), some (.int n), some (.int v2), none, none, none] ∧ H = H' ∧ 0 ≤ v2) ?_ ?_
      · walk_at "xs"
        refine x_ite (fun h0 => ?_) (fun h0 => ?_)
        · have hk : k < cs.length := by simpa using h0
          walk_at "xs"
          refine x_ixL (SqL.of hc) (atI_nat (v := .int cs[k]) (by rw [List.getElem?_map, List.getElem?_eq_getElem hk]; rfl)) ?_
          walk_at "xs"
          exact ⟨cs[k], rfl, rfl, hcs _ (List.getElem_mem hk)⟩
        · walk_at "xs"
          exact ⟨0, rfl, rfl, Int.le_refl 0⟩
      · rintro _ _ ⟨v, rfl, rfl, hv⟩
        walk_at "xs"
        refine x_cut (fun σ' H' => ∃ x' : Int, 0 ≤ x' ∧ σ' = [some (.ref b), some (.int n), some (.int v), none, none, none] ∧ H' b = some (.lst [.int x', .int y, .int (k + 1 : Nat), .ref c]) ∧ Ext [b] H H') ?_ ?_
        · walk_at "xs"
          refine x_ite (fun h0 => ?_) (fun h0 => ?_)
          · walk_at "xs"
            exact ⟨v, hv, rfl, by rw [upd_same]; rfl, fun a o n e => by rw [upd_ne (by simpa using n), upd_ne (by simpa using n)]; exact e⟩
          · walk_at "xs"
            exact ⟨0, Int.le_refl 0, rfl, by rw [upd_same]; rfl, fun a o n e => by rw [upd_ne (by simpa using n)]; exact e⟩
        · rintro _ H2 ⟨x', hx', rfl, hb2, he⟩
          walk_at "xs"
          refine ⟨_, rfl, fun a o n e => by rw [upd_ne (by simpa using n)]; exact he a o n e, x', _, k + 1, cs, by rw [upd_same]; rfl, ?_, hx', ?_, ?_, hcs, ncb⟩
          · rw [upd_ne ncb]; exact he c _ (by simpa using ncb) hc
          · exact Int.emod_nonneg _ (by decide)
          · exact Int.emod_lt_of_pos _ (by decide)
    · walk_at "xs"
      exact ⟨_, rfl, Ext.refl _ _, x, y, k, cs, hb, hc, hx, hy, hy2, hcs, ncb⟩
  · rintro _ H1 ⟨v2, rfl, he, x, y, k, cs, hb, hc, hx, hy, hy2, hcs, ncb⟩
    walk_at "xs"
    refine x_ite (fun h0 => ?_) (fun h0 => ?_)
    · walk_at "xs"
      refine x_mod hn ?_
      walk_at "xs"
      refine x_div (wide_div hn hn2 (by decide) (by decide)) ?_
      walk_at "xs"
      refine q _ _ (fun a o m e => by rw [upd_ne (by simpa using m)]; exact he a o m e) ⟨_, y, k, cs, upd_same, ?_, Int.ediv_nonneg hx (Int.le_of_lt hn), hy, hy2, hcs, ncb⟩ (Int.emod_nonneg _ (Int.ne_of_gt hn)) (Int.emod_lt_of_pos _ hn)
      rw [upd_ne ncb]; exact hc
    · have e1 := Int.emod_nonneg ((y + 1) * 39373) (show (1000000007 : Int) ≠ 0 by decide)
      have e2 := Int.emod_lt_of_pos ((y + 1) * 39373) (show (0 : Int) < 1000000007 by decide)
      walk_at "xs"
      have e3 := Int.emod_nonneg ((y + 1) * 39373 % 1000000007 * ((y + 1) * 39373 % 1000000007) % 998244353 * 30011) (show (998244353 : Int) ≠ 0 by decide)
      have e4 := Int.emod_lt_of_pos ((y + 1) * 39373 % 1000000007 * ((y + 1) * 39373 % 1000000007) % 998244353 * 30011) (show (0 : Int) < 998244353 by decide)
      refine x_ite (fun h1 => ?_) (fun h1 => ?_)
      · walk_at "xs"
        refine x_mod hn ?_
        exact q _ _ he ⟨x, y, k, cs, hb, hc, hx, hy, hy2, hcs, ncb⟩ (Int.emod_nonneg _ (Int.ne_of_gt hn)) (Int.emod_lt_of_pos _ hn)
      · walk_at "xs"
        refine x_div (wide_div (b := 3) (by decide) (by decide) (by decide) (by decide)) ?_
        walk_at "xs"
        refine x_mod hn ?_
        exact q _ _ he ⟨x, y, k, cs, hb, hc, hx, hy, hy2, hcs, ncb⟩ (Int.emod_nonneg _ (Int.ne_of_gt hn)) (Int.emod_lt_of_pos _ hn)

end

section
variable {P : Program} {w : World} {K : PySem.W.Frag} {mg : Str → Option Value} {base : Heap} {t0 t1 t2 t3 t4 : Tok}
/-! ### the small tests -/
def isIntD : PyData → Bool
  | .int _ => true
  | _ => false
def inD (lo hi : Int) : PyData → Bool
  | .int i => decide (lo ≤ i) && decide (i ≤ hi)
  | _ => false
theorem isInt_eq (d : PyData) : (isT "int" d && !isT "bool" d) = isIntD d := by rw [isT_int, isT_bool]; cases d <;> rfl
/-- a test of one thing that makes nothing -/
def sp1 (g : PyData → Bool) : Sp := fun vs H Q _ => ∃ v d M, vs = [v] ∧ Dn M H v d ∧ Q (.bl (g d)) H
def sp2 (g : PyData → Int → Bool) : Sp := fun vs H Q _ => ∃ v d M n, vs = [v, .int n] ∧ Dn M H v d ∧ Q (.bl (g d n)) H
def sp3 (g : PyData → Int → Int → Bool) : Sp := fun vs H Q _ => ∃ v d M n m, vs = [v, .int n, .int m] ∧ Dn M H v d ∧ Q (.bl (g d n m)) H
theorem x_sp1 {g : PyData → Bool} {v : V} {d : PyData} {M : List Addr} {H : Hp} {Q : VK} {E : XK} (hd : Dn M H v d) (h : Q (.bl (g d)) H) : sp1 g [v] H Q E := ⟨v, d, M, rfl, hd, h⟩
theorem x_sp2 {g : PyData → Int → Bool} {v : V} {d : PyData} {M : List Addr} {n : Int} {H : Hp} {Q : VK} {E : XK} (hd : Dn M H v d) (h : Q (.bl (g d n)) H) : sp2 g [v, .int n] H Q E := ⟨v, d, M, n, rfl, hd, h⟩
theorem x_sp3 {g : PyData → Int → Int → Bool} {v : V} {d : PyData} {M : List Addr} {n m : Int} {H : Hp} {Q : VK} {E : XK} (hd : Dn M H v d) (h : Q (.bl (g d n m)) H) : sp3 g [v, .int n, .int m] H Q E := ⟨v, d, M, n, m, rfl, hd, h⟩
theorem Dn.isInt {M : List Addr} {H : Hp} {v : V} {d : PyData} (h : Dn M H v d) (e : isIntD d = true) : ∃ i, v = .int i ∧ d = .int i := by
  cases h <;> first | exact ⟨_, rfl, rfl⟩ | cases e

theorem kn_is_integer {k : Nat} (D : Df K mg "is_integer" s_is_integer) (B : Bl mg) : Kn P w K mg base "is_integer" (k + 1) (sp1 isIntD) := by
  refine kn_of D (fun _ _ _ _ _ _ us hl => match us, hl with | [_], _ => rfl) sc_is_integer (fun vs H Q E h => by obtain ⟨v, d, M, rfl, _⟩ := h; rfl) (fun f cd B' fr z H vs Q E hr gd h => ?_)
  obtain ⟨v, d, M, rfl, hd, q⟩ := h
  refine ⟨_, (pss_one (ps_ret (pe_and (pe_callB call_isD (by rfl) B.isinstance (by decide +kernel) (pa_cons (pv 0) (pa_cons (pe_bltn (v := .ty "int") (u := .type "int") (by rfl) B.«int» (by decide +kernel) rfl) pa_nil))) (pe_one (pe_not (pe_callB call_isD (by rfl) B.isinstance (by decide +kernel) (pa_cons (pv 0) (pa_cons (pe_bltn (v := .ty "bool") (u := .type "bool") (by rfl) B.«bool» (by decide +kernel) rfl) pa_nil)))))))), ?_⟩
  rw [← isInt_eq] at q
  walk_at "xs"
  refine x_iteB (fun h => ?_) (fun h => ?_)
  · walk_at "xs"
    rw [h] at q; exact q
  · walk_at "xs"
    rw [h] at q; exact q

theorem kn_is_amount {k : Nat} (D : Df K mg "is_amount" s_is_amount) (B : Bl mg) (CS : Cs mg t0 t1 t2 t3 t4) (c_is_integer : Kn P w K mg base "is_integer" k (sp1 isIntD)) : Kn P w K mg base "is_amount" (k + 1) (sp1 (inD 0 (10 ^ 30))) := by
  refine kn_of D (fun _ _ _ _ _ _ us hl => match us, hl with | [_], _ => rfl) sc_is_amount (fun vs H Q E h => by obtain ⟨v, d, M, rfl, _⟩ := h; rfl) (fun f cd B' fr z H vs Q E hr gd h => ?_)
  obtain ⟨v, d, M, rfl, hd, q⟩ := h
  refine ⟨_, (pss_one (ps_ret (pe_and (pe_own c_is_integer hr gd (by rfl) (pa_cons (pv 0) pa_nil)) (pe_one (pe_chain op_le op_le pe_int (pv 0) (pe_glob (v := .int (10 ^ 30)) (by rfl) CS.MOST_AMOUNT ⟨_, rfl⟩)))))), ?_⟩
  walk_at "xs"
  refine x_sp1 hd ?_
  walk_at "xs"
  refine x_iteB (fun h => ?_) (fun h => ?_)
  · obtain ⟨i, rfl, rfl⟩ := hd.isInt h
    walk_at "xs"
    refine x_ite (fun h => ?_) (fun h => ?_)
    · walk_at "xs"
      simpa only [inD, decide_eq_true h, Bool.true_and] using q
    · simpa only [inD, decide_eq_false h, Bool.false_and] using q
  · have e : inD 0 (10 ^ 30) d = false := by cases d <;> first | rfl | cases h
    rw [e] at q; exact q

theorem kn_is_count {k : Nat} (D : Df K mg "is_count" s_is_count) (B : Bl mg) (CS : Cs mg t0 t1 t2 t3 t4) (c_is_integer : Kn P w K mg base "is_integer" k (sp1 isIntD)) : Kn P w K mg base "is_count" (k + 1) (sp1 (inD 1 (10 ^ 18))) := by
  refine kn_of D (fun _ _ _ _ _ _ us hl => match us, hl with | [_], _ => rfl) sc_is_count (fun vs H Q E h => by obtain ⟨v, d, M, rfl, _⟩ := h; rfl) (fun f cd B' fr z H vs Q E hr gd h => ?_)
  obtain ⟨v, d, M, rfl, hd, q⟩ := h
  refine ⟨_, (pss_one (ps_ret (pe_and (pe_own c_is_integer hr gd (by rfl) (pa_cons (pv 0) pa_nil)) (pe_one (pe_chain op_le op_le pe_int (pv 0) (pe_glob (v := .int (10 ^ 18)) (by rfl) CS.MOST_COUNT ⟨_, rfl⟩)))))), ?_⟩
  walk_at "xs"
  refine x_sp1 hd ?_
  walk_at "xs"
  refine x_iteB (fun h => ?_) (fun h => ?_)
  · obtain ⟨i, rfl, rfl⟩ := hd.isInt h
    walk_at "xs"
    refine x_ite (fun h => ?_) (fun h => ?_)
    · walk_at "xs"
      simpa only [inD, decide_eq_true h, Bool.true_and] using q
    · simpa only [inD, decide_eq_false h, Bool.false_and] using q
  · have e : inD 1 (10 ^ 18) d = false := by cases d <;> first | rfl | cases h
    rw [e] at q; exact q
def brokerD (d : PyData) (n : Int) : Bool := match d with
  | .int i => decide (0 ≤ i) && decide (i < n)
  | _ => false
theorem kn_is_broker {k : Nat} (D : Df K mg "is_broker" s_is_broker) (B : Bl mg) (c_is_integer : Kn P w K mg base "is_integer" k (sp1 isIntD)) : Kn P w K mg base "is_broker" (k + 1) (sp2 brokerD) := by
  refine kn_of D (fun _ _ _ _ _ _ us hl => match us, hl with | [_, _], _ => rfl) sc_is_broker (fun vs H Q E h => by obtain ⟨v, d, M, n, rfl, _⟩ := h; rfl) (fun f cd B' fr z H vs Q E hr gd h => ?_)
  obtain ⟨v, d, M, n, rfl, hd, q⟩ := h
  refine ⟨_, (pss_one (ps_ret (pe_and (pe_own c_is_integer hr gd (by rfl) (pa_cons (pv 0) pa_nil)) (pe_one (pe_chain op_le op_lt pe_int (pv 0) (pv 1)))))), ?_⟩
  walk_at "xs"
  refine x_sp1 hd ?_
  walk_at "xs"
  refine x_iteB (fun h => ?_) (fun h => ?_)
  · obtain ⟨i, rfl, rfl⟩ := hd.isInt h
    walk_at "xs"
    refine x_ite (fun h => ?_) (fun h => ?_)
    · walk_at "xs"
      simpa only [brokerD, decide_eq_true h, Bool.true_and] using q
    · simpa only [brokerD, decide_eq_false h, Bool.false_and] using q
  · have e : brokerD d n = false := by cases d <;> first | rfl | cases h
    rw [e] at q; exact q
end

def spBag (K : PySem.W.Frag) : Sp := fun vs H Q _ => ∃ (a : Addr) (ns : List Int), vs = [.ref a] ∧ SqL K H a (ns.map V.int) ∧ ∀ H' b c, Same H H' → H b = none → Bag H' b c → Q (.ref b) H'
def absI (i : Int) : Int := if i < 0 then -i else i
theorem absI_nn (i : Int) : 0 ≤ absI i := by unfold absI; split <;> omega
theorem cut_map (ns : List Int) (lo hi : Option Int) : ∃ ms : List Int, cutV (ns.map V.int) lo hi = ms.map V.int := by
  unfold cutV
  rw [← List.map_drop, ← List.map_take]
  exact ⟨_, rfl⟩
section
variable {P : Program} {w : World} {K : PySem.W.Frag} {mg : Str → Option Value} {base : Heap} {t0 t1 t2 t3 t4 : Tok}
theorem kn_bag {k : Nat} (D : Df K mg "_law_bag" s_Lbag) (B : Bl mg) : Kn P w K mg base "_law_bag" (k + 1) (spBag K) := by
  refine kn_of D (fun _ _ _ _ _ _ us hl => match us, hl with | [_], _ => rfl) sc_Lbag (fun vs H Q E h => by obtain ⟨a, ns, rfl, _⟩ := h; rfl) (fun f cd B' fr z H vs Q E hr gd h => ?_)
  obtain ⟨a, ns, rfl, ha, q⟩ := h
  refine ⟨_, (pss_one (ps_ret (pe_lst (pa_cons pe_int (pa_cons pe_int (pa_cons pe_int (pa_cons (pe_lc (own := [("_law_cell", 1)]) rfl sc_Lbag.nd (pi_list (pe_slice (r := rSlL K) sl_list (pv 0) po_none (po_some pe_int))) (blkOk_by (N := ["_law_script", "_law_cell"]) (sc := defScope s_Lbag) (by decide +kernel)) (fun _ _ _ _ _ => (pg_name (i := 1) sc_Lbag.nd rfl (.inl rfl))) (fun _ _ _ _ _ => pts_nil) (fun _ _ _ _ _ => (pe_callB call_abs (by rfl) B.abs (by decide +kernel) (pa_cons (pv 1) pa_nil)))) pa_nil))))))), ?_⟩
  walk_at "xs"
  intro p hp
  obtain ⟨ms, em⟩ := cut_map ns none (some 63)
  rw [em]
  have S1 : Same H (upd H p (.lst (ms.map V.int))) := same_upd hp
  walk_at "xs"
  intro L hL
  have hpL := upd_same (H := H) (a := p) (o := .lst (ms.map V.int))
  refine lc_list (K := K) (xs := ms.map V.int) (fun i H' => H' = upd (upd H p (.lst (ms.map V.int))) L (.lst (((ms.take i).map absI).map V.int))) rfl ?_ ?_ ?_
  · rintro i _ _ rfl
    exact SqL.of (by rw [upd_ne (ne_of_none hpL hL)]; exact hpL)
  · rintro i x _ hx rfl
    obtain ⟨m, hm, rfl⟩ : ∃ m, ms[i]? = some m ∧ V.int m = x := by
      rw [List.getElem?_map] at hx
      cases e : ms[i]? with
      | none => rw [e] at hx; cases hx
      | some m => rw [e] at hx; exact ⟨m, rfl, Option.some.inj hx⟩
    walk_at "xs"
    refine x_wiped rfl ?_
    walk_at "xs"
    refine x_acc upd_same ?_ ?_
    · have h1 : i < ms.length := (List.getElem?_eq_some_iff.mp hm).1
      have h2 : (cutV (ns.map V.int) none (some 63)).length ≤ 63 := by
        unfold cutV
        rw [List.length_take, HT.sIx_none]
        have := HT.sIx_nat (ns.map V.int).length (ns.map V.int).length 63
        have e63 : ((63 : Nat) : Int) = 63 := rfl
        rw [e63] at this
        rw [this]; omega
      rw [em, List.length_map] at h2
      rw [List.length_map, List.length_map, List.length_take, sizeLine_eq]; omega
    · show upd _ L _ = _
      rw [upd_upd]
      congr 2
      rw [List.take_add_one, hm, List.map_append, List.map_append]
      rfl
  · rintro _ rfl
    walk_at "xs"
    intro b hb
    refine q _ b L (S1.trans ((same_upd hL).trans (same_upd hb))) ?_ ?_
    · exact S1.free ((same_upd hL).free hb)
    · refine ⟨0, 1234567891, 0, (ms.take (ms.map V.int).length).map absI, upd_same, ?_, by decide, by decide, by decide, ?_, ?_⟩
      · rw [upd_ne (ne_of_none upd_same hb)]; exact upd_same
      · intro z hz
        obtain ⟨y, _, rfl⟩ := List.mem_map.mp hz
        exact absI_nn y
      · exact ne_of_none upd_same hb

end

section
variable {P : Program} {w : World} {K : PySem.W.Frag} {mg : Str → Option Value} {base : Heap} {t0 t1 t2 t3 t4 : Tok}
/-- equal lists show alike -/
def spAlike : Sp := fun vs H Q _ => ∃ x y d M, vs = [x, y] ∧ Dn M H x d ∧ Dn M H y d ∧ SeqAt.shaped d = true ∧ Shows d ∧ Q (.bl true) H
theorem x_alike {x y : V} {d : PyData} {M : List Addr} {H : Hp} {Q : VK} {E : XK} (hx : Dn M H x d) (hy : Dn M H y d) (s : SeqAt.shaped d = true) (t : Shows d) (h : Q (.bl true) H) : spAlike [x, y] H Q E := ⟨x, y, d, M, rfl, hx, hy, s, t, h⟩
theorem kn_alike {k : Nat} (D : Df K mg "_law_alike" s_Lalike) (B : Bl mg) (sys : ∃ o, base.get? sysModules = some o) : Kn P w K mg base "_law_alike" (k + 1) spAlike := by
  refine kn_of D (fun _ _ _ _ _ _ us hl => match us, hl with | [_, _], _ => rfl) sc_Lalike (fun vs H Q E h => by obtain ⟨x, y, d, M, rfl, _⟩ := h; rfl) (fun f cd B' fr z H vs Q E hr gd h => ?_)
  obtain ⟨x, y, d, M, rfl, hx, hy, sh, sw, q⟩ := h
  refine ⟨_, (pss_one (ps_ret (pe_and (pe_cmpR (op_eqD hr.units) (pv 0) (pv 1) (nomark _)) (pe_one (pe_cmpR op_eq (pe_callB (call_reprD gd hr.units sys) (by rfl) B.repr (by decide +kernel) (pa_cons (pv 0) pa_nil)) (pe_callB (call_reprD gd hr.units sys) (by rfl) B.repr (by decide +kernel) (pa_cons (pv 1) pa_nil)) (nomark _)))))), ?_⟩
  walk_at "xs"
  refine x_eqSame hx hy sh ?_
  walk_at "xs"
  refine x_repr hx sw ?_
  walk_at "xs"
  refine x_repr hy sw ?_
  walk_at "xs"
  simpa using q

end

section
variable {P : Program} {w : World} {K : PySem.W.Frag} {mg : Str → Option Value} {base : Heap} {t0 t1 t2 t3 t4 : Tok}
def wholeD (d : PyData) (n m : Int) : Bool := inD n m d
theorem kn_whole {k : Nat} (D : Df K mg "_law_whole" s_Lwhole) (B : Bl mg) : Kn P w K mg base "_law_whole" (k + 1) (sp3 wholeD) := by
  refine kn_of D (fun _ _ _ _ _ _ us hl => match us, hl with | [_, _, _], _ => rfl) sc_Lwhole (fun vs H Q E h => by obtain ⟨v, d, M, n, m, rfl, _⟩ := h; rfl) (fun f cd B' fr z H vs Q E hr gd h => ?_)
  obtain ⟨v, d, M, n, m, rfl, hd, q⟩ := h
  refine ⟨_, (pss_one (ps_ret (pe_and (pe_callB call_isD (by rfl) B.isinstance (by decide +kernel) (pa_cons (pv 0) (pa_cons (pe_bltn (v := .ty "int") (u := .type "int") (by rfl) B.«int» (by decide +kernel) rfl) pa_nil))) (pe_and (pe_not (pe_callB call_isD (by rfl) B.isinstance (by decide +kernel) (pa_cons (pv 0) (pa_cons (pe_bltn (v := .ty "bool") (u := .type "bool") (by rfl) B.«bool» (by decide +kernel) rfl) pa_nil)))) (pe_one (pe_chain op_le op_le (pv 1) (pv 0) (pv 2))))))), ?_⟩
  have e0 := isInt_eq d
  walk_at "xs"
  refine x_iteB (fun h => ?_) (fun h => ?_)
  · rw [h, Bool.true_and] at e0
    walk_at "xs"
    rw [e0]
    refine x_iteB (fun h => ?_) (fun h => ?_)
    · obtain ⟨i, rfl, rfl⟩ := hd.isInt h
      walk_at "xs"
      refine x_ite (fun h => ?_) (fun h => ?_)
      · walk_at "xs"
        simpa only [wholeD, inD, decide_eq_true h, Bool.true_and] using q
      · simpa only [wholeD, inD, decide_eq_false h, Bool.false_and] using q
    · have e : wholeD d n m = false := by cases d <;> first | rfl | cases h
      rw [e] at q; exact q
  · rw [h, Bool.false_and] at e0
    have e : wholeD d n m = false := by cases d <;> first | rfl | cases e0
    rw [e] at q; exact q
end

def fewD (d : PyData) : Prop := ∀ ds, d = .list ds → ds.length ≤ 5000
theorem DnAll.toInts {M : List Addr} {H : Hp} : ∀ {ms : List Int} {xs : List V}, DnAll M H xs (ms.map PyData.int) → xs = ms.map V.int
  | [], _, .nil => rfl
  | _ :: _, _, .cons (.int _) r => by rw [List.map_cons, ← DnAll.toInts r]
theorem eqv_nil (l : List PyData) : PyData.eqv (.list l) (.list []) = decide (l = []) := by
  cases l with
  | nil => simp [PyData.eqv, PyData.eqvAll]
  | cons a r => simp [PyData.eqv, PyData.eqvAll]

/-! ### the odd things -/
def deepN : Nat → PyData
  | 0 => .list []
  | n + 1 => .list [deepN n]
def odds1 : List PyData := [.int 0, .int 1, .int (-1), .int 10, .int 9, .int (10 ^ (18 : Int).toNat), .int (10 ^ (18 : Int).toNat + 1), .int (10 ^ (30 : Int).toNat), .int (10 ^ (30 : Int).toNat + 1), .int (-(10 ^ (39 : Int).toNat)), .bool true, .bool false, .none, .str "", .str "1"]
def odds2 : List PyData := [.tuple [], .tuple [.int 0], .tuple [.int 0, .int 1], .tuple [.int 0, .int 1, .int 2], .tuple [.int 1, .int 0], .list [], .list [.int 0], .list [.int 0, .int 1], .list [.list [.int 0, .int 1]], .dict [], .dict [(.int 0, .int 1)], deepN 3, .list (List.replicate (2000 : Int).toNat (.int 0))]
def odds : List PyData := odds1 ++ odds2 ++ [.str (Txt.mul "a" 99)]
def spOdd : Sp := fun vs H Q _ => ∃ b c, vs = [.ref b] ∧ Bag H b c ∧ ∀ H' v d, Ext [b] H H' → Bag H' b c → Dn [b] H' v d → d ∈ odds → Q v H'
theorem x_take {H : Hp} {Q : VK} {E : XK} {b c : Addr} {n : Int} (hb : Bag H b c) (h0 : 0 < n) (h1 : n.natAbs < 2 ^ 200) (h : ∀ H' v, Ext [b] H H' → Bag H' b c → 0 ≤ v → v < n → Q (.int v) H') : spTake [.ref b, .int n] H Q E := ⟨b, c, n, rfl, hb, h0, h1, h⟩
theorem Bag.ext {H H' : Hp} {b c : Addr} (h : Bag H b c) (e : Same H H') : Bag H' b c := by
  obtain ⟨x, y, k, cs, h1, h2, h3⟩ := h
  exact ⟨x, y, k, cs, e _ _ h1, e _ _ h2, h3⟩
theorem Bag.at {H : Hp} {b c : Addr} (h : Bag H b c) : ∃ o, H b = some o := by
  obtain ⟨x, y, k, cs, h1, _⟩ := h
  exact ⟨_, h1⟩
theorem repl_len (n : Nat) (v : V) : (List.replicate n [v]).flatten.length = n := by
  induction n with
  | zero => rfl
  | succ n ih => rw [List.replicate_succ, List.flatten_cons, List.length_append, ih]; simp; omega
section
variable {P : Program} {w : World} {K : PySem.W.Frag} {mg : Str → Option Value} {base : Heap} {t0 t1 t2 t3 t4 : Tok}
theorem kn_odd {k : Nat} (D : Df K mg "_law_odd" s_Lodd) (B : Bl mg) (c_Ltake : Kn P w K mg base "_law_take" k spTake) : Kn P w K mg base "_law_odd" (k + 1) spOdd := by
  refine kn_of D (fun _ _ _ _ _ _ us hl => match us, hl with | [_], _ => rfl) sc_Lodd (fun vs H Q E h => by obtain ⟨b, c, rfl, _⟩ := h; rfl) (fun f cd B' fr z H vs Q E hr gd h => ?_)
  obtain ⟨b, c, rfl, hB, q⟩ := h
  obtain ⟨ob, hb⟩ := hB.at
  refine ⟨_, (pss_cons (ps_set (i := 1) sc_Lodd.nd rfl (.inl rfl) (pe_lst pa_nil))
  (pss_cons (ps_for PassesOwn.never rfl (pi_range1 (by rfl) B.range (pa_cons pe_int pa_nil)) (pg_name (i := 2) sc_Lodd.nd rfl (.inl rfl))
  (pss_one (ps_set (i := 1) sc_Lodd.nd rfl (.inl rfl) (pe_lst (pa_cons (pv 1) pa_nil)))))
  (pss_cons (ps_set (i := 3) sc_Lodd.nd rfl (.inl rfl) (pe_lst (pa_cons pe_int (pa_cons pe_int (pa_cons (pe_un un_neg pe_int) (pa_cons pe_int (pa_cons pe_int (pa_cons (pe_op op_pow pe_int pe_int) (pa_cons (pe_op op_add (pe_op op_pow pe_int pe_int) pe_int) (pa_cons (pe_op op_pow pe_int pe_int) (pa_cons (pe_op op_add (pe_op op_pow pe_int pe_int) pe_int) (pa_cons (pe_un un_neg (pe_op op_pow pe_int pe_int)) (pa_cons pe_bl (pa_cons pe_bl (pa_cons pe_non (pa_cons pe_str (pa_cons pe_str pa_nil)))))))))))))))))
  (pss_cons (ps_set (i := 3) sc_Lodd.nd rfl (.inl rfl) (pe_op op_cat (pv 3) (pe_lst (pa_cons (pe_tup pa_nil) (pa_cons (pe_tup (pa_cons pe_int pa_nil)) (pa_cons (pe_tup (pa_cons pe_int (pa_cons pe_int pa_nil))) (pa_cons (pe_tup (pa_cons pe_int (pa_cons pe_int (pa_cons pe_int pa_nil)))) (pa_cons (pe_tup (pa_cons pe_int (pa_cons pe_int pa_nil))) (pa_cons (pe_lst pa_nil) (pa_cons (pe_lst (pa_cons pe_int pa_nil)) (pa_cons (pe_lst (pa_cons pe_int (pa_cons pe_int pa_nil))) (pa_cons (pe_lst (pa_cons (pe_lst (pa_cons pe_int (pa_cons pe_int pa_nil))) pa_nil)) (pa_cons pe_dnewK (pa_cons (pe_disp (pps_cons pe_int pe_int pps_nil) rfl rfl (by simp) (by decide)) (pa_cons (pv 1) (pa_cons (pe_op op_rep (pe_lst (pa_cons pe_int pa_nil)) pe_int) pa_nil))))))))))))))))
  (pss_cons (ps_set (i := 3) sc_Lodd.nd rfl (.inl rfl) (pe_op op_cat (pv 3) (pe_lst (pa_cons (pe_op op_mulStr pe_str pe_int) pa_nil))))
  (pss_one (ps_ret (pe_ix (r := rIxL K) ix_list (pv 3) (pe_own c_Ltake hr gd (by rfl) (pa_cons (pv 0) (pa_cons pe_int pa_nil))) (fun _ _ => rfl))))))))), ?_⟩
  walk_at "xs"
  intro p hp
  have S1 := same_upd (o := .lst []) hp
  walk_at "xs"
  refine for_range (lo := 0) (n := (3 : Int).toNat) (fun i σ' H' => ∃ (p : Addr) (y : Option V), σ' = [some (.ref b), some (.ref p), y, none] ∧ Same H H' ∧ Dn [b] H' (.ref p) (deepN i)) ?_ ?_ ?_
  · exact ⟨p, none, rfl, S1, .lst upd_same (new_out (Same.refl H) hb hp) .nil⟩
  · rintro i _ H1 hi ⟨p, y, rfl, S, dp⟩
    walk_at "xs"
    intro p2 hp2
    walk_at "xs"
    exact ⟨p2, _, rfl, S.trans (same_upd hp2), .lst upd_same (new_out S hb hp2) (.cons (dp.ext (Ext.same (same_upd hp2))) .nil)⟩
  · rintro _ H1 ⟨p, y, rfl, S, dp⟩
    walk_at "xs"
    intro p1 hp1
    have h1 := upd_same (H := H1) (a := p1) (o := .lst [.int 0, .int 1, .int (-1), .int 10, .int 9, .int (10 ^ (18 : Int).toNat), .int (10 ^ (18 : Int).toNat + 1), .int (10 ^ (30 : Int).toNat), .int (10 ^ (30 : Int).toNat + 1), .int (-(10 ^ (39 : Int).toNat)), .bl true, .bl false, .non, .str "", .str "1"])
    have G1 := same_upd hp1 (o := .lst [.int 0, .int 1, .int (-1), .int 10, .int 9, .int (10 ^ (18 : Int).toNat), .int (10 ^ (18 : Int).toNat + 1), .int (10 ^ (30 : Int).toNat), .int (10 ^ (30 : Int).toNat + 1), .int (-(10 ^ (39 : Int).toNat)), .bl true, .bl false, .non, .str "", .str "1"])
    generalize upd H1 p1 _ = H2 at *
    have S2 := S.trans G1
    have hb2 := S2 _ _ hb
    have dp2 := dp.ext (Ext.same G1)
    have T : Same H2 H2 := Same.refl H2
    have A : DnAll [b] H2 [] [] := .nil
    walk_at "xs"
    intro p hp
    obtain ⟨T, A⟩ := grow T hb2 A hp (u := .tup []) (fun n => .tup upd_same n .nil)
    generalize upd _ p _ = H3 at *
    walk_at "xs"
    clear hp
    intro p hp
    obtain ⟨T, A⟩ := grow T hb2 A hp (u := .tup [.int 0]) (fun n => .tup upd_same n (.cons (.int 0) .nil))
    generalize upd _ p _ = H3 at *
    walk_at "xs"
    clear hp
    intro p hp
    obtain ⟨T, A⟩ := grow T hb2 A hp (u := .tup [.int 0, .int 1]) (fun n => .tup upd_same n (.cons (.int 0) (.cons (.int 1) .nil)))
    generalize upd _ p _ = H3 at *
    walk_at "xs"
    clear hp
    intro p hp
    obtain ⟨T, A⟩ := grow T hb2 A hp (u := .tup [.int 0, .int 1, .int 2]) (fun n => .tup upd_same n (.cons (.int 0) (.cons (.int 1) (.cons (.int 2) .nil))))
    generalize upd _ p _ = H3 at *
    walk_at "xs"
    clear hp
    intro p hp
    obtain ⟨T, A⟩ := grow T hb2 A hp (u := .tup [.int 1, .int 0]) (fun n => .tup upd_same n (.cons (.int 1) (.cons (.int 0) .nil)))
    generalize upd _ p _ = H3 at *
    walk_at "xs"
    clear hp
    intro p hp
    obtain ⟨T, A⟩ := grow T hb2 A hp (u := .lst []) (fun n => .lst upd_same n .nil)
    generalize upd _ p _ = H3 at *
    walk_at "xs"
    clear hp
    intro p hp
    obtain ⟨T, A⟩ := grow T hb2 A hp (u := .lst [.int 0]) (fun n => .lst upd_same n (.cons (.int 0) .nil))
    generalize upd _ p _ = H3 at *
    walk_at "xs"
    clear hp
    intro p hp
    obtain ⟨T, A⟩ := grow T hb2 A hp (u := .lst [.int 0, .int 1]) (fun n => .lst upd_same n (.cons (.int 0) (.cons (.int 1) .nil)))
    generalize upd _ p _ = H3 at *
    walk_at "xs"
    clear hp
    intro q1 hq
    obtain ⟨T, A, nq, eq⟩ := put (.lst [.int 0, .int 1]) T hb2 A hq
    have dq : Dn [b] _ (.ref q1) (.list [.int 0, .int 1]) := .lst eq nq (.cons (.int 0) (.cons (.int 1) .nil))
    generalize upd _ q1 _ = H3 at *
    walk_at "xs"
    intro p hp
    obtain ⟨T, A⟩ := grow T hb2 A hp (u := .lst [.ref q1]) (fun n => .lst upd_same n (.cons (dq.ext (Ext.same (same_upd hp))) .nil))
    generalize upd _ p _ = H4 at *
    walk_at "xs"
    clear hp hq dq
    intro p hp
    obtain ⟨T, A⟩ := grow T hb2 A hp (u := .dK []) (fun n => .dic (ds := []) upd_same n .nil .nil)
    generalize upd _ p _ = H3 at *
    walk_at "xs"
    clear hp
    intro p hp
    refine ⟨upd_same, [(Sum.inl 0, .int 1)], rfl, by decide, ?_⟩
    rw [upd_upd]
    obtain ⟨T, A⟩ := grow T hb2 A hp (u := .dK (mergeK [] [(Sum.inl 0, .int 1)])) (fun n => .dic (ds := [(.int 0, .int 1)]) upd_same n (.cons (.int 0) .nil) (.cons (.int 1) .nil))
    generalize upd _ p _ = H3 at *
    clear hp
    walk_at "xs"
    have A := A.app (.cons (dp2.ext (Ext.same T)) .nil)
    intro q1 hq
    obtain ⟨T, A, nq, eq⟩ := put (.lst [.int 0]) T hb2 A hq
    generalize upd _ q1 _ = H3 at *
    walk_at "xs"
    refine x_rep eq (by decide) (by decide) (by decide) ?_
    intro p hp
    obtain ⟨T, A⟩ := grow T hb2 A hp (u := .lst (List.replicate (2000 : Int).toNat [V.int 0]).flatten) (fun n => .lst upd_same n (DnAll.rep (.int 0) _))
    generalize upd _ p _ = H4 at *
    clear hp hq eq
    walk_at "xs"
    intro r hr
    have T0 := T
    have A0 := A
    obtain ⟨T, A, nr, er⟩ := put (.lst _) T hb2 A hr
    revert er T A
    generalize upd _ r _ = H3 at *
    intro T A er
    refine x_cat (T _ _ h1) er (by rw [sizeLine_eq]; exact Nat.le_of_ble_eq_true rfl) ?_
    intro s1 hs
    obtain ⟨T, A, ns, es⟩ := put (.lst _) T hb2 A hs
    have es := es
    revert es T A
    generalize upd _ s1 _ = H5 at *
    intro T A es
    walk_at "xs"
    refine x_mulS ⟨by decide, by decide, by decide +kernel⟩ ?_
    walk_at "xs"
    intro t1 ht
    have es := (same_upd (o := .lst [.str (Txt.mul "a" 99)]) ht) _ _ es
    obtain ⟨T, A, nt, et⟩ := put (.lst [.str (Txt.mul "a" 99)]) T hb2 A ht
    generalize upd _ t1 _ = H6 at *
    refine x_cat es et (by rw [sizeLine_eq]; exact Nat.le_of_ble_eq_true rfl) ?_
    intro u1 hu
    obtain ⟨T, A, nu, eu⟩ := put (.lst _) T hb2 A hu
    revert eu T A
    generalize upd _ u1 _ = H7 at *
    intro T A eu
    walk_at "xs"
    refine x_take (hB.ext (S2.trans T)) (by decide) (by decide) ?_
    intro H8 v E8 B8 hv0 hv1
    obtain ⟨x, ex, ax⟩ := ix_at eu hv0 hv1
    refine x_ixL (SqL.of (E8 _ _ nu eu)) ax ?_
    have all : DnAll [b] H8 _ odds := DnAll.ext E8 ((DnAll.app (DnAll.app (d := odds1) (e := odds2) (.cons (.int _) (.cons (.int _) (.cons (.int _) (.cons (.int _) (.cons (.int _) (.cons (.int _) (.cons (.int _) (.cons (.int _) (.cons (.int _) (.cons (.int _) (.cons (.bl _) (.cons (.bl _) (.cons .non (.cons (.str _) (.cons (.str _) .nil))))))))))))))) A) (.cons (.str _) .nil)))
    obtain ⟨d, hd, dx⟩ := all.get ex
    walk_at "xs"
    exact q _ _ _ ((Ext.same (S2.trans T)).trans E8) B8 dx (List.mem_of_getElem? hd)
end

/-! ### the drawn things -/
structure Fine (d : PyData) : Prop where
  sz : Sz d 300000 6
  few : fewD d
theorem few_of {d : PyData} (h : ∀ ds, d ≠ .list ds) : fewD d := fun ds e => absurd e (h ds)
theorem sz_big {i : Int} (h : i.natAbs < 2 ^ 200) : Sz (.int i) 6100 4 := (sz_int h).mono (by decide) (by decide)
theorem sz_list' {p q n : Nat} {ds : List PyData} (h : ∀ d ∈ ds, Sz d p q) (hn : ds.length ≤ n) : Sz (.list ds) (n * (p + 2) + 3) (q + 1) :=
  (sz_list h).mono (Nat.add_le_add_right (Nat.mul_le_mul_right _ hn) 3) (Nat.le_refl _)
theorem odds_sz : ∀ d ∈ odds, Sz d 6100 4 ∧ fewD d := by
  have i0 : ∀ i : Int, i.natAbs < 2 ^ 200 → Sz (.int i) 6100 4 ∧ fewD (.int i) := fun i h => ⟨sz_big h, few_of nofun⟩
  have s1 : ∀ i : Int, i.natAbs < 2 ^ 200 → Sz (.int i) 201 0 := fun i h => sz_int h
  have lz : ∀ ds : List PyData, (∀ d ∈ ds, Sz d 201 0) → ds.length ≤ 5 → Sz (.list ds) 6100 4 ∧ fewD (.list ds) := fun ds h hl =>
    ⟨(sz_list' h hl).mono (by decide) (by decide), fun es e => by cases e; omega⟩
  have tz : ∀ ds : List PyData, (∀ d ∈ ds, Sz d 201 0) → ds.length ≤ 5 → Sz (.tuple ds) 6100 4 ∧ fewD (.tuple ds) := fun ds h hl =>
    ⟨((sz_tuple h).mono (Nat.add_le_add_right (Nat.mul_le_mul_right _ hl) 3) (Nat.le_refl _)).mono (by decide) (by decide), few_of nofun⟩
  intro d hd
  unfold odds odds1 odds2 at hd
  simp only [List.mem_append, List.mem_cons, List.not_mem_nil, or_false] at hd
  rcases hd with ((rfl | rfl | rfl | rfl | rfl | rfl | rfl | rfl | rfl | rfl | rfl | rfl | rfl | rfl | rfl) | rfl | rfl | rfl | rfl | rfl | rfl | rfl | rfl | rfl | rfl | rfl | rfl | rfl) | rfl
  · exact i0 _ (by decide)
  · exact i0 _ (by decide)
  · exact i0 _ (by decide)
  · exact i0 _ (by decide)
  · exact i0 _ (by decide)
  · exact i0 _ (by decide)
  · exact i0 _ (by decide)
  · exact i0 _ (by decide)
  · exact i0 _ (by decide)
  · exact i0 _ (by decide)
  · exact ⟨(sz_bool _).mono (by decide) (by decide), few_of nofun⟩
  · exact ⟨(sz_bool _).mono (by decide) (by decide), few_of nofun⟩
  · exact ⟨sz_none.mono (by decide) (by decide), few_of nofun⟩
  · exact ⟨⟨rfl, by decide +kernel, by decide⟩, few_of nofun⟩
  · exact ⟨⟨rfl, by decide +kernel, by decide⟩, few_of nofun⟩
  · exact tz _ (by simp) (by decide)
  · exact tz _ (by intro d h; simp at h; subst h; exact s1 _ (by decide)) (Nat.le_of_ble_eq_true rfl)
  · exact tz _ (by intro d h; simp at h; rcases h with rfl | rfl <;> exact s1 _ (by decide)) (Nat.le_of_ble_eq_true rfl)
  · exact tz _ (by intro d h; simp at h; rcases h with rfl | rfl | rfl <;> exact s1 _ (by decide)) (Nat.le_of_ble_eq_true rfl)
  · exact tz _ (by intro d h; simp at h; rcases h with rfl | rfl <;> exact s1 _ (by decide)) (Nat.le_of_ble_eq_true rfl)
  · exact lz _ (by simp) (by decide)
  · exact lz _ (by intro d h; simp at h; subst h; exact s1 _ (by decide)) (Nat.le_of_ble_eq_true rfl)
  · exact lz _ (by intro d h; simp at h; rcases h with rfl | rfl <;> exact s1 _ (by decide)) (Nat.le_of_ble_eq_true rfl)
  · refine ⟨(sz_list' (n := 1) (p := 1000) (q := 1) ?_ (Nat.le_of_ble_eq_true rfl)).mono (by decide) (by decide), fun es e => by cases e; exact Nat.le_of_ble_eq_true rfl⟩
    intro d h
    simp at h; subst h
    exact (sz_list' (n := 2) (p := 201) (q := 0) (by intro d h; simp at h; rcases h with rfl | rfl <;> exact s1 _ (by decide)) (Nat.le_of_ble_eq_true rfl)).mono (by decide) (by decide)
  · exact ⟨⟨rfl, by decide, by decide⟩, few_of nofun⟩
  · exact ⟨⟨by decide, by decide, by decide⟩, few_of nofun⟩
  · exact ⟨⟨by decide, by decide, by decide⟩, fun es e => by cases e; exact Nat.le_of_ble_eq_true rfl⟩
  · refine ⟨(sz_list' (n := 2000) (p := 1) (q := 0) ?_ (by rw [List.length_replicate]; decide)).mono (by decide) (by decide), fun es e => by cases e; rw [List.length_replicate]; decide⟩
    intro d h
    rw [(List.mem_replicate.mp h).2]; exact sz_zero
  · exact ⟨⟨rfl, by decide +kernel, by decide⟩, few_of nofun⟩
theorem odd_fine {d : PyData} (h : d ∈ odds) : Fine d := ⟨(odds_sz d h).1.mono (by decide) (by decide), (odds_sz d h).2⟩
theorem int_fine {i : Int} (h : i.natAbs < 2 ^ 200) : Fine (.int i) := ⟨(sz_int h).mono (by decide) (by decide), few_of nofun⟩
theorem list_fine {ds : List PyData} (h : ∀ d ∈ ds, Sz d 6100 4) (n : ds.length ≤ 48) : Fine (.list ds) := ⟨(sz_list' h n).mono (by decide) (by decide), fun es e => by cases e; omega⟩
theorem tuple_fine {ds : List PyData} (h : ∀ d ∈ ds, Sz d 6100 4) (n : ds.length ≤ 48) : Fine (.tuple ds) :=
  ⟨((sz_tuple h).mono (Nat.add_le_add_right (Nat.mul_le_mul_right _ n) 3) (Nat.le_refl _)).mono (by decide) (by decide), few_of nofun⟩
theorem x_odd {H : Hp} {Q : VK} {E : XK} {b c : Addr} (hb : Bag H b c) (h : ∀ H' v d, Ext [b] H H' → Bag H' b c → Dn [b] H' v d → d ∈ odds → Q v H') : spOdd [.ref b] H Q E := ⟨b, c, rfl, hb, h⟩
structure Cb (H0 : Hp) (b c f : Addr) (xs : List V) (H : Hp) : Prop where
  e : Ext [b] H0 H
  bag : Bag H b c
  fd : H f = some (.lst xs)
  ne : f ∉ [b]
theorem Cb.new {H0 H : Hp} {b c f p : Addr} {xs : List V} (u : HO) (cb : Cb H0 b c f xs H) (hp : H p = none) : Cb H0 b c f xs (upd H p u) ∧ p ∉ [b] ∧ upd H p u p = some u := by
  obtain ⟨ob, hob⟩ := cb.bag.at
  exact ⟨⟨cb.e.trans (Ext.same (same_upd hp)), cb.bag.ext (same_upd hp), same_upd hp _ _ cb.fd, cb.ne⟩, new_out (Same.refl H) hob hp, upd_same⟩
theorem Cb.step {H0 H H' : Hp} {b c f : Addr} {xs : List V} (cb : Cb H0 b c f xs H) (E : Ext [b] H H') (B : Bag H' b c) : Cb H0 b c f xs H' := ⟨cb.e.trans E, B, E _ _ cb.ne cb.fd, cb.ne⟩
theorem cut_map2 (ns : List Int) (lo hi : Option Int) : ∃ ms : List Int, cutV (ns.map V.int) lo hi = ms.map V.int ∧ (∀ m ∈ ms, m ∈ ns) ∧ ms.length ≤ ns.length := by
  have h := cutV_length (ns.map V.int) lo hi
  unfold cutV at h ⊢
  rw [← List.map_drop, ← List.map_take] at h ⊢
  refine ⟨_, rfl, fun m hm => List.mem_of_mem_drop (List.mem_of_mem_take hm), by simpa using h⟩
theorem DnAll.sz {ms : List Int} {n : Int} (h : ∀ m ∈ ms, 0 ≤ m ∧ m < n) (hn : n ≤ 10) : ∀ d ∈ ms.map PyData.int, Sz d 6100 4 := by
  intro d hd
  obtain ⟨m, hm, rfl⟩ := List.mem_map.mp hd
  have := h m hm
  have b : (11 : Nat) < 2 ^ 200 := by decide
  exact sz_big (by omega)
local macro_rules | `(tactic| walk_at "ne") => `(tactic| first
  | assumption | exact Ne.symm (by assumption) | exact ne_of_none (by walk_at "lk") (by assumption) | exact ne_of_none2 (by assumption) (by walk_at "lk"))
local macro_rules | `(tactic| walk_at "lk") => `(tactic| first
  | assumption
  | exact upd_same
  | (refine' upd_ne2 ?kn ?ke; (case kn => walk_at "ne"); (case ke => walk_at "lk"))
  | (refine' SqL.of ?ke; (case ke => walk_at "lk"))
  | (refine' SqT.of ?ke; (case ke => walk_at "lk")))
local macro_rules | `(tactic| walk_at "y") => `(tactic| first
  | (with_reducible first
    | refine x_seq ?_ | refine x_asg ?_ | refine x_name ?_ | refine x_op ?_ | refine x_c ?_
    | refine x_I0 ?_ | refine x_cons ?_ | refine x_nil ?_ | refine x_cb ?_ | refine x_call ?_ | refine x_ret ?_ | refine x_retN ?_
    | refine x_ifS ?_ | refine x_test ?_ | refine x_B ?_ | refine x_bl ?_ | refine x_eqI ?_ | refine x_neI ?_ | refine x_drop ?_ | refine x_next ?_
    | refine x_and ?_ | refine x_or ?_ | refine x_not ?_ | refine x_notV ?_ | refine x_if ?_ | refine x_chain ?_
    | refine x_un ?_ | refine x_U ?_ | refine x_iteT ?_ | refine x_iteF ?_ | refine x_iteNT ?_ | refine x_iteNF ?_ | refine x_yes ?_
    | refine x_augS ?_ | refine x_ipI ?_ | refine x_gsub ?_ | refine x_par ?_ | refine x_par2 ?_ | refine x_lst ?_ | refine x_tup ?_ | refine x_break ?_ | refine x_cont ?_
    | refine x_rev ?_ | refine x_dnew ?_ | refine x_disp ?_ | refine x_eqS ?_ | refine x_neS ?_ | refine x_isI ?_ | refine x_sl ?_ | refine x_noPart ?_ | refine x_part ?_ | refine x_for ?_ | refine x_iL ?_ | refine x_iT ?_ | refine x_r1 ?_ | refine x_r2 ?_ | refine x_lc ?_ | refine x_setC ?_ | refine x_gcons ?_ | refine x_gnil ?_ | refine x_revT ?_ | refine x_bm ?_)
  | ((with_reducible refine' x_tyL ?kp ?kh); (case kp => walk_at "lk"))
  | ((with_reducible refine' x_gtup ?kp ?kl ?kh); (case kp => walk_at "lk"); (case kl => rfl))
  | ((with_reducible refine' x_var ?ke ?kh); (case ke => rfl))
  | ((with_reducible refine' x_ixL ?kp ?ke ?kh); (case kp => walk_at "lk"); (case ke => rfl))
  | ((with_reducible refine' x_ixT ?kp ?ke ?kh); (case kp => walk_at "lk"); (case ke => rfl))
  | ((with_reducible refine' x_getL ?kp ?ki ?ke ?kh); (case kp => walk_at "lk"); (case ki => rfl); (case ke => rfl))
  | ((with_reducible refine' x_setL ?kp ?ke ?kh); (case kp => walk_at "lk"); (case ke => rfl))
  | ((with_reducible refine' x_len ?kp ?kh); (case kp => walk_at "lk"))
  | ((with_reducible refine' x_lenT ?kp ?kh); (case kp => walk_at "lk"))
  | ((with_reducible refine' x_all ?kp ?kh); (case kp => walk_at "lk"))
  | ((with_reducible refine' x_slL ?kp ?kh); (case kp => walk_at "lk"))
  | ((with_reducible refine' x_cat ?kp ?kq ?kz ?kh); (case kp => walk_at "lk"); (case kq => walk_at "lk"); (case kz => walk_at "sz"))
  | ((with_reducible refine' x_toTup ?kp ?kh); (case kp => walk_at "lk"))
  | ((with_reducible refine' x_lp ?kp ?kh); (case kp => walk_at "lk"))
  | ((with_reducible refine' x_tp ?kp ?kh); (case kp => walk_at "lk"))
  | ((with_reducible refine' x_rg ?kp ?kq ?kh); (case kp => walk_at "ar"); (case kq => walk_at "ar"))
  | ((with_reducible refine' x_rg2 ?kp ?kh); (case kp => walk_at "ar"))
  | (with_reducible refine x_int1 ?_)
  | ((with_reducible refine' x_isD ?kp ?kq ?kh); (case kp => walk_at "dn"); (case kq => simp))
  | ((with_reducible refine' x_new ?kp ?kh); (case kp => exact Nat.le_of_ble_eq_true rfl))
  | ((with_reducible refine' x_mod ?kp ?kh); (case kp => decide))
  | ((with_reducible refine' x_mul ?kp ?kh); (case kp => walk_at "mulok"))
  | ((with_reducible refine' x_pow ?kp ?kh); (case kp => exact ⟨by decide, by decide, by decide⟩)))
local macro_rules | `(tactic| walk_at "ar") => `(tactic| first | decide | omega | (refine ⟨?_, ?_, ?_, ?_⟩ <;> (first | decide | omega)))
local macro_rules | `(tactic| walk_at "dn") => `(tactic| assumption)
local macro_rules | `(tactic| walk_at "mulok") => `(tactic| first | (exact .inl ⟨by omega, by omega⟩) | (exact .inr ⟨by omega, by omega⟩))
local macro_rules | `(tactic| walk_at "sz") => `(tactic| first | decide | (simp only [List.length_append, List.length_cons, List.length_nil, List.length_map, List.length_singleton, sizeLine_eq]; omega))
local macro_rules | `(tactic| walk_at "x") => `(tactic| first | walk_at "y" | (with_reducible refine x_andV ?_) | (with_reducible refine x_orV ?_))
local macro_rules | `(tactic| walk_at "ys") => `(tactic| repeat walk_at "y")
local macro_rules | `(tactic| walk_at "xs") => `(tactic| repeat walk_at "x")


/-! ### one row -/
def ltD : PyData → PyData → Bool
  | .int a, .int b => decide (a < b)
  | _, _ => false
def boundD : PyData → Bool
  | .tuple [x, y] => inD 0 (10 ^ 30) x && (match x with | .int i => inD i (10 ^ 30) y | _ => false)
  | _ => false
def bundleD (d : PyData) (n : Int) : Bool := match d with
  | .tuple [x, y, z] => inD 1 (10 ^ 18) z && (brokerD x n && (brokerD y n && ltD x y))
  | _ => false
theorem DnAll.two {M : List Addr} {H : Hp} {xs : List V} {ds : List PyData} (h : DnAll M H xs ds) (l : xs.length = 2) : ∃ x y a b, xs = [x, y] ∧ ds = [a, b] ∧ Dn M H x a ∧ Dn M H y b := by
  cases h with
  | nil => simp at l
  | cons h1 h =>
    cases h with
    | nil => simp at l
    | cons h2 h =>
      cases h with
      | nil => exact ⟨_, _, _, _, rfl, rfl, h1, h2⟩
      | cons h3 h => simp at l
theorem DnAll.three {M : List Addr} {H : Hp} {xs : List V} {ds : List PyData} (h : DnAll M H xs ds) (l : xs.length = 3) : ∃ x y z a b c, xs = [x, y, z] ∧ ds = [a, b, c] ∧ Dn M H x a ∧ Dn M H y b ∧ Dn M H z c := by
  cases h with
  | nil => simp at l
  | cons h1 h =>
    obtain ⟨x, y, a, b, rfl, rfl, h2, h3⟩ := h.two (by simpa using l)
    exact ⟨_, _, _, _, _, _, rfl, rfl, h1, h2, h3⟩
theorem bound_len {ds : List PyData} (h : ds.length ≠ 2) : boundD (.tuple ds) = false := by
  match ds, h with
  | [], _ => rfl
  | [_], _ => rfl
  | [_, _], h => exact absurd rfl h
  | _ :: _ :: _ :: _, _ => rfl
theorem bundle_len {ds : List PyData} {n : Int} (h : ds.length ≠ 3) : bundleD (.tuple ds) n = false := by
  match ds, h with
  | [], _ => rfl
  | [_], _ => rfl
  | [_, _], _ => rfl
  | [_, _, _], h => exact absurd rfl h
  | _ :: _ :: _ :: _ :: _, _ => rfl
theorem whole_broker (d : PyData) (n : Int) : wholeD d 0 (n - 1) = brokerD d n := by
  cases d <;> first | rfl | skip
  rename_i i
  show (decide (0 ≤ i) && decide (i ≤ n - 1)) = (decide (0 ≤ i) && decide (i < n))
  congr 1
  exact decide_eq_decide.mpr (by omega)
theorem brokerD_int {d : PyData} {n : Int} (h : brokerD d n = true) : ∃ i, d = .int i := by
  cases d <;> first | exact ⟨_, rfl⟩ | cases h
theorem inD_int {d : PyData} {a b : Int} (h : inD a b d = true) : ∃ i, d = .int i := by
  cases d <;> first | exact ⟨_, rfl⟩ | cases h
theorem Dn.int' {M : List Addr} {H : Hp} {v : V} {i : Int} (h : Dn M H v (.int i)) : v = .int i := by
  cases h; rfl
section
variable {P : Program} {w : World} {K : PySem.W.Frag} {mg : Str → Option Value} {base : Heap} {t0 t1 t2 t3 t4 : Tok}
theorem kn__is_bound {k : Nat} (D : Df K mg "_is_bound" s__is_bound) (B : Bl mg) (c_is_amount : Kn P w K mg base "is_amount" k (sp1 (inD 0 (10 ^ 30)))) : Kn P w K mg base "_is_bound" (k + 1) (sp1 boundD) := by
  refine kn_of D (fun _ _ _ _ _ _ us hl => match us, hl with | [_], _ => rfl) sc__is_bound (fun vs H Q E h => by obtain ⟨v, d, M, rfl, _⟩ := h; rfl) (fun f cd B' fr z H vs Q E hr gd h => ?_)
  obtain ⟨v, d, M, rfl, hd, q⟩ := h
  refine ⟨_, (pss_cons (ps_if (PW.pt (pw_or (pt_not (pt_val (pe_callB call_isD (by rfl) B.isinstance (by decide +kernel) (pa_cons (pv 0) (pa_cons (pe_bltn (v := .ty "tuple") (u := .type "tuple") (by rfl) B.«tuple» (by decide +kernel) rfl) pa_nil))))) (pw_or1 (pt_cmpR op_ne (pe_callB call_len_seq (by rfl) B.len (by decide +kernel) (pa_cons (pv 0) pa_nil)) pe_int (nomark _))))) (pss_one (ps_ret pe_bl)) pss_nil)
  (pss_cons (ps_asg (pv 0) (pg_tup (by rfl) (pgs_cons (pg_name (i := 1) sc__is_bound.nd rfl (.inl rfl)) (pgs_cons (pg_name (i := 2) sc__is_bound.nd rfl (.inl rfl)) pgs_nil))))
  (pss_one (ps_ret (pe_and (pe_own c_is_amount hr gd (by rfl) (pa_cons (pv 1) pa_nil)) (pe_and (pe_own c_is_amount hr gd (by rfl) (pa_cons (pv 2) pa_nil)) (pe_one (pe_cmpR op_le (pv 1) (pv 2) (nomark _))))))))), ?_⟩
  walk_at "xs"
  refine x_iteNB (fun h => ?_) (fun h => ?_)
  · rw [isT_tuple] at h
    have e : boundD d = false := by cases d <;> first | rfl | cases h
    walk_at "xs"
    rw [← e]; exact q
  · rw [isT_tuple] at h
    cases hd with
    | @tup a xs ds ha hm hxs =>
      have lx := hxs.length
      walk_at "xs"
      refine x_iteN (fun h => ?_) (fun h => ?_)
      · have e : boundD (.tuple ds) = false := bound_len (by omega)
        walk_at "xs"
        rw [← e]; exact q
      · obtain ⟨x, y, dx, dy, rfl, rfl, hx, hy⟩ := hxs.two (by omega)
        walk_at "xs"
        refine x_sp1 hx ?_
        walk_at "xs"
        refine x_iteB (fun h1 => ?_) (fun h1 => ?_)
        · obtain ⟨i, rfl⟩ := inD_int h1
          obtain rfl := hx.int'
          walk_at "xs"
          refine x_sp1 hy ?_
          walk_at "xs"
          refine x_iteB (fun h2 => ?_) (fun h2 => ?_)
          · obtain ⟨j, rfl⟩ := inD_int h2
            obtain rfl := hy.int'
            walk_at "xs"
            have e : boundD (.tuple [.int i, .int j]) = decide (i ≤ j) := by
              show (inD 0 (10 ^ 30) (.int i) && (decide (i ≤ j) && decide (j ≤ 10 ^ 30))) = _
              have h2 : (decide (0 ≤ j) && decide (j ≤ 10 ^ 30)) = true := h2
              rw [Bool.and_eq_true] at h2
              rw [h1, h2.2, Bool.true_and, Bool.and_true]
            rw [← e]; exact q
          · have e : boundD (.tuple [.int i, dy]) = false := by
              show (inD 0 (10 ^ 30) (.int i) && inD i (10 ^ 30) dy) = false
              rw [h1, Bool.true_and]
              cases dy <;> first | rfl | skip
              rename_i j
              have h1 : (decide (0 ≤ i) && decide (i ≤ 10 ^ 30)) = true := h1
              have h2 : (decide (0 ≤ j) && decide (j ≤ 10 ^ 30)) = false := h2
              show (decide (i ≤ j) && decide (j ≤ 10 ^ 30)) = false
              simp only [Bool.and_eq_true, Bool.and_eq_false_iff, decide_eq_true_eq, decide_eq_false_iff_not] at h1 h2 ⊢
              omega
            rw [← e]; exact q
        · have e : boundD (.tuple [dx, dy]) = false := by
            show (inD 0 (10 ^ 30) dx && _) = false
            rw [h1, Bool.false_and]
          rw [← e]; exact q
    | _ => cases h
theorem kn_Lis_bound {k : Nat} (D : Df K mg "_law_is_bound" s_Lis_bound) (B : Bl mg) (c_Lwhole : Kn P w K mg base "_law_whole" k (sp3 wholeD)) : Kn P w K mg base "_law_is_bound" (k + 1) (sp1 boundD) := by
  refine kn_of D (fun _ _ _ _ _ _ us hl => match us, hl with | [_], _ => rfl) sc_Lis_bound (fun vs H Q E h => by obtain ⟨v, d, M, rfl, _⟩ := h; rfl) (fun f cd B' fr z H vs Q E hr gd h => ?_)
  obtain ⟨v, d, M, rfl, hd, q⟩ := h
  refine ⟨_, (pss_cons (ps_if (PW.pt (pw_or (pt_not (pt_val (pe_callB call_isD (by rfl) B.isinstance (by decide +kernel) (pa_cons (pv 0) (pa_cons (pe_bltn (v := .ty "tuple") (u := .type "tuple") (by rfl) B.«tuple» (by decide +kernel) rfl) pa_nil))))) (pw_or1 (pt_cmpR op_ne (pe_callB call_len_seq (by rfl) B.len (by decide +kernel) (pa_cons (pv 0) pa_nil)) pe_int (nomark _))))) (pss_one (ps_ret pe_bl)) pss_nil)
  (pss_one (ps_ret (pe_and (pe_own c_Lwhole hr gd (by rfl) (pa_cons (pe_ix (r := rIxT K) ix_tup (pv 0) pe_int (fun _ _ => rfl)) (pa_cons pe_int (pa_cons (pe_op op_pow pe_int pe_int) pa_nil)))) (pe_one (pe_own c_Lwhole hr gd (by rfl) (pa_cons (pe_ix (r := rIxT K) ix_tup (pv 0) pe_int (fun _ _ => rfl)) (pa_cons (pe_ix (r := rIxT K) ix_tup (pv 0) pe_int (fun _ _ => rfl)) (pa_cons (pe_op op_pow pe_int pe_int) pa_nil))))))))), ?_⟩
  walk_at "xs"
  refine x_iteNB (fun h => ?_) (fun h => ?_)
  · rw [isT_tuple] at h
    have e : boundD d = false := by cases d <;> first | rfl | cases h
    walk_at "xs"
    rw [← e]; exact q
  · rw [isT_tuple] at h
    cases hd with
    | @tup a xs ds ha hm hxs =>
      have lx := hxs.length
      walk_at "xs"
      refine x_iteN (fun h => ?_) (fun h => ?_)
      · have e : boundD (.tuple ds) = false := bound_len (by omega)
        walk_at "xs"
        rw [← e]; exact q
      · obtain ⟨x, y, dx, dy, rfl, rfl, hx, hy⟩ := hxs.two (by omega)
        walk_at "xs"
        refine x_sp3 hx ?_
        walk_at "xs"
        refine x_iteB (fun h1 => ?_) (fun h1 => ?_)
        · obtain ⟨i, rfl⟩ := inD_int h1
          obtain rfl := hx.int'
          walk_at "xs"
          refine x_sp3 hy ?_
          have e : boundD (.tuple [.int i, dy]) = wholeD dy i (10 ^ (30 : Int).toNat) := by
            show (inD 0 (10 ^ 30) (.int i) && inD i (10 ^ 30) dy) = _
            have h1 : inD 0 (10 ^ 30) (.int i) = true := h1
            rw [h1, Bool.true_and]; rfl
          rw [← e]; exact q
        · have e : boundD (.tuple [dx, dy]) = false := by
            show (inD 0 (10 ^ 30) dx && _) = false
            have h1 : inD 0 (10 ^ 30) dx = false := h1
            rw [h1, Bool.false_and]
          rw [← e]; exact q
    | _ => cases h
theorem kn__is_bundle {k : Nat} (D : Df K mg "_is_bundle" s__is_bundle) (B : Bl mg) (c_is_broker : Kn P w K mg base "is_broker" k (sp2 brokerD)) (c_is_count : Kn P w K mg base "is_count" k (sp1 (inD 1 (10 ^ 18)))) : Kn P w K mg base "_is_bundle" (k + 1) (sp2 bundleD) := by
  refine kn_of D (fun _ _ _ _ _ _ us hl => match us, hl with | [_, _], _ => rfl) sc__is_bundle (fun vs H Q E h => by obtain ⟨v, d, M, n, rfl, _⟩ := h; rfl) (fun f cd B' fr z H vs Q E hr gd h => ?_)
  obtain ⟨v, d, M, n, rfl, hd, q⟩ := h
  refine ⟨_, (pss_cons (ps_if (PW.pt (pw_or (pt_not (pt_val (pe_callB call_isD (by rfl) B.isinstance (by decide +kernel) (pa_cons (pv 0) (pa_cons (pe_bltn (v := .ty "tuple") (u := .type "tuple") (by rfl) B.«tuple» (by decide +kernel) rfl) pa_nil))))) (pw_or1 (pt_cmpR op_ne (pe_callB call_len_seq (by rfl) B.len (by decide +kernel) (pa_cons (pv 0) pa_nil)) pe_int (nomark _))))) (pss_one (ps_ret pe_bl)) pss_nil)
  (pss_cons (ps_asg (pv 0) (pg_tup (by rfl) (pgs_cons (pg_name (i := 2) sc__is_bundle.nd rfl (.inl rfl)) (pgs_cons (pg_name (i := 3) sc__is_bundle.nd rfl (.inl rfl)) (pgs_cons (pg_name (i := 4) sc__is_bundle.nd rfl (.inl rfl)) pgs_nil)))))
  (pss_one (ps_ret (pe_and (pe_own c_is_broker hr gd (by rfl) (pa_cons (pv 2) (pa_cons (pv 1) pa_nil))) (pe_and (pe_own c_is_broker hr gd (by rfl) (pa_cons (pv 3) (pa_cons (pv 1) pa_nil))) (pe_and (pe_cmpR op_lt (pv 2) (pv 3) (nomark _)) (pe_one (pe_own c_is_count hr gd (by rfl) (pa_cons (pv 4) pa_nil)))))))))), ?_⟩
  walk_at "xs"
  refine x_iteNB (fun h => ?_) (fun h => ?_)
  · rw [isT_tuple] at h
    have e : bundleD d n = false := by cases d <;> first | rfl | cases h
    walk_at "xs"
    rw [← e]; exact q
  · rw [isT_tuple] at h
    cases hd with
    | @tup a xs ds ha hm hxs =>
      have lx := hxs.length
      walk_at "xs"
      refine x_iteN (fun h => ?_) (fun h => ?_)
      · have e : bundleD (.tuple ds) n = false := bundle_len (by omega)
        walk_at "xs"
        rw [← e]; exact q
      · obtain ⟨x, y, c, dx, dy, dc, rfl, rfl, hx, hy, hc⟩ := hxs.three (by omega)
        have e0 : bundleD (.tuple [dx, dy, dc]) n = (inD 1 (10 ^ 18) dc && (brokerD dx n && (brokerD dy n && ltD dx dy))) := rfl
        rw [e0] at q
        walk_at "xs"
        refine x_sp2 hx ?_
        walk_at "xs"
        refine x_iteB (fun h1 => ?_) (fun h1 => ?_)
        · obtain ⟨i, rfl⟩ := brokerD_int h1
          obtain rfl := hx.int'
          walk_at "xs"
          refine x_sp2 hy ?_
          walk_at "xs"
          refine x_iteB (fun h2 => ?_) (fun h2 => ?_)
          · obtain ⟨j, rfl⟩ := brokerD_int h2
            obtain rfl := hy.int'
            walk_at "xs"
            have e : ltD (.int i) (.int j) = decide (i < j) := rfl
            refine x_ite (fun h3 => ?_) (fun h3 => ?_)
            · walk_at "xs"
              refine x_sp1 hc ?_
              rw [h1, h2, e, decide_eq_true h3, Bool.and_true, Bool.and_true, Bool.and_true] at q
              exact q
            · rw [h1, h2, e, decide_eq_false h3, Bool.and_false, Bool.and_false, Bool.and_false] at q
              exact q
          · rw [h2, Bool.false_and, Bool.and_false, Bool.and_false] at q; exact q
        · rw [h1, Bool.false_and, Bool.and_false] at q; exact q
    | _ => cases h
theorem kn_Lis_bundle {k : Nat} (D : Df K mg "_law_is_bundle" s_Lis_bundle) (B : Bl mg) (c_Lwhole : Kn P w K mg base "_law_whole" k (sp3 wholeD)) : Kn P w K mg base "_law_is_bundle" (k + 1) (sp2 bundleD) := by
  refine kn_of D (fun _ _ _ _ _ _ us hl => match us, hl with | [_, _], _ => rfl) sc_Lis_bundle (fun vs H Q E h => by obtain ⟨v, d, M, n, rfl, _⟩ := h; rfl) (fun f cd B' fr z H vs Q E hr gd h => ?_)
  obtain ⟨v, d, M, n, rfl, hd, q⟩ := h
  refine ⟨_, (pss_cons (ps_if (PW.pt (pw_or (pt_not (pt_val (pe_callB call_isD (by rfl) B.isinstance (by decide +kernel) (pa_cons (pv 0) (pa_cons (pe_bltn (v := .ty "tuple") (u := .type "tuple") (by rfl) B.«tuple» (by decide +kernel) rfl) pa_nil))))) (pw_or (pt_cmpR op_ne (pe_callB call_len_seq (by rfl) B.len (by decide +kernel) (pa_cons (pv 0) pa_nil)) pe_int (nomark _)) (pw_or1 (pt_not (pt_val (pe_own c_Lwhole hr gd (by rfl) (pa_cons (pe_ix (r := rIxT K) ix_tup (pv 0) pe_int (fun _ _ => rfl)) (pa_cons pe_int (pa_cons (pe_op op_pow pe_int pe_int) pa_nil)))))))))) (pss_one (ps_ret pe_bl)) pss_nil)
  (pss_one (ps_ret (pe_and (pe_own c_Lwhole hr gd (by rfl) (pa_cons (pe_ix (r := rIxT K) ix_tup (pv 0) pe_int (fun _ _ => rfl)) (pa_cons pe_int (pa_cons (pe_op op_sub (pv 1) pe_int) pa_nil)))) (pe_and (pe_own c_Lwhole hr gd (by rfl) (pa_cons (pe_ix (r := rIxT K) ix_tup (pv 0) pe_int (fun _ _ => rfl)) (pa_cons pe_int (pa_cons (pe_op op_sub (pv 1) pe_int) pa_nil)))) (pe_one (pe_cmpR op_lt (pe_ix (r := rIxT K) ix_tup (pv 0) pe_int (fun _ _ => rfl)) (pe_ix (r := rIxT K) ix_tup (pv 0) pe_int (fun _ _ => rfl)) (nomark _)))))))), ?_⟩
  walk_at "xs"
  refine x_iteNB (fun h => ?_) (fun h => ?_)
  · rw [isT_tuple] at h
    have e : bundleD d n = false := by cases d <;> first | rfl | cases h
    walk_at "xs"
    rw [← e]; exact q
  · rw [isT_tuple] at h
    cases hd with
    | @tup a xs ds ha hm hxs =>
      have lx := hxs.length
      walk_at "xs"
      refine x_iteN (fun h => ?_) (fun h => ?_)
      · have e : bundleD (.tuple ds) n = false := bundle_len (by omega)
        walk_at "xs"
        rw [← e]; exact q
      · obtain ⟨x, y, c, dx, dy, dc, rfl, rfl, hx, hy, hc⟩ := hxs.three (by omega)
        have e0 : bundleD (.tuple [dx, dy, dc]) n = (wholeD dc 1 (10 ^ (18 : Int).toNat) && (wholeD dx 0 (n - 1) && (wholeD dy 0 (n - 1) && ltD dx dy))) := by
          rw [whole_broker, whole_broker]; rfl
        rw [e0] at q
        walk_at "xs"
        refine x_sp3 hc ?_
        walk_at "xs"
        refine x_iteNB (fun h1 => ?_) (fun h1 => ?_)
        · walk_at "xs"
          rw [h1, Bool.false_and] at q; exact q
        · rw [h1, Bool.true_and] at q
          walk_at "xs"
          refine x_sp3 hx ?_
          walk_at "xs"
          refine x_iteB (fun h1 => ?_) (fun h1 => ?_)
          · obtain ⟨i, rfl⟩ := inD_int h1
            obtain rfl := hx.int'
            rw [h1, Bool.true_and] at q
            walk_at "xs"
            refine x_sp3 hy ?_
            walk_at "xs"
            refine x_iteB (fun h2 => ?_) (fun h2 => ?_)
            · obtain ⟨j, rfl⟩ := inD_int h2
              obtain rfl := hy.int'
              rw [h2, Bool.true_and] at q
              walk_at "xs"
              exact q
            · rw [h2, Bool.false_and] at q; exact q
          · rw [h1, Bool.false_and] at q; exact q
    | _ => cases h
end
/-! ### all rows -/
def boundsD : PyData → Bool
  | .list ds => (decide (2 ≤ (ds.length : Int)) && decide ((ds.length : Int) ≤ 10)) && (ds.map boundD).all id
  | _ => false
def spBounds : Sp := fun vs H Q _ => ∃ v d M, vs = [v] ∧ Dn M H v d ∧ fewD d ∧ ∀ H', Same H H' → Q (.bl (boundsD d)) H'
theorem x_bounds {v : V} {d : PyData} {M : List Addr} {H : Hp} {Q : VK} {E : XK} (hd : Dn M H v d) (few : fewD d) (h : ∀ H', Same H H' → Q (.bl (boundsD d)) H') : spBounds [v] H Q E := ⟨v, d, M, rfl, hd, few, h⟩
section
variable {P : Program} {w : World} {K : PySem.W.Frag} {mg : Str → Option Value} {base : Heap} {t0 t1 t2 t3 t4 : Tok}
theorem kn_are_bounds {k : Nat} (D : Df K mg "are_bounds" s_are_bounds) (B : Bl mg) (CS : Cs mg t0 t1 t2 t3 t4) (c__is_bound : Kn P w K mg base "_is_bound" k (sp1 boundD)) : Kn P w K mg base "are_bounds" (k + 1) spBounds := by
  refine kn_of D (fun _ _ _ _ _ _ us hl => match us, hl with | [_], _ => rfl) sc_are_bounds (fun vs H Q E h => by obtain ⟨v, d, M, rfl, _⟩ := h; rfl) (fun f cd B' fr z H vs Q E hr gd h => ?_)
  obtain ⟨v, d, M, rfl, hd, few, q⟩ := h
  refine ⟨_, (pss_cons (ps_if (PW.pt (pw_or (pt_not (pt_val (pe_callB call_isD (by rfl) B.isinstance (by decide +kernel) (pa_cons (pv 0) (pa_cons (pe_bltn (v := .ty "list") (u := .type "list") (by rfl) B.«list» (by decide +kernel) rfl) pa_nil))))) (pw_or1 (pt_not (pt_chain op_le op_le (pe_glob (v := .int (2)) (by rfl) CS.LEAST_SIZE ⟨_, rfl⟩) (pe_callB call_len_seq (by rfl) B.len (by decide +kernel) (pa_cons (pv 0) pa_nil)) (pe_glob (v := .int (10)) (by rfl) CS.MOST_SIZE ⟨_, rfl⟩)))))) (pss_one (ps_ret pe_bl)) pss_nil)
  (pss_one (ps_ret (pe_callB (cr_all rfl) (by rfl) B.all (by decide +kernel) (pa_cons (pe_lc (own := [("row", 1)]) rfl sc_are_bounds.nd (pi_list (pv 0)) (blkOk_by (N := ["thing", "row"]) (sc := defScope s_are_bounds) (by decide +kernel)) (fun _ _ _ _ _ => (pg_name (i := 1) sc_are_bounds.nd rfl (.inl rfl))) (fun _ _ _ _ _ => pts_nil) (fun _ _ _ _ _ => (pe_own c__is_bound hr gd (by rfl) (pa_cons (pv 1) pa_nil)))) pa_nil))))), ?_⟩
  walk_at "xs"
  refine x_iteNB (fun h => ?_) (fun h => ?_)
  · rw [isT_list] at h
    have e : boundsD d = false := by cases d <;> first | rfl | cases h
    walk_at "xs"
    rw [← e]; exact q _ (Same.refl H)
  · rw [isT_list] at h
    cases hd with
    | @lst a xs ds ha hm hxs =>
      have len := few ds rfl
      have lx := hxs.length
      have e0 : boundsD (.list ds) = ((decide (2 ≤ (xs.length : Int)) && decide ((xs.length : Int) ≤ 10)) && (ds.map boundD).all id) := by rw [lx]; rfl
      rw [e0] at q
      walk_at "xs"
      refine x_ite (fun h1 => ?_) (fun h1 => ?_)
      · walk_at "xs"
        refine x_iteN (fun h2 => ?_) (fun h2 => ?_)
        · walk_at "xs"
          rw [decide_eq_false h2, Bool.and_false, Bool.false_and] at q
          exact q _ (Same.refl H)
        · rw [decide_eq_true h1, decide_eq_true h2, Bool.true_and, Bool.true_and] at q
          walk_at "xs"
          intro L hL
          have haL : a ≠ L := ne_of_none ha hL
          refine lc_list (K := K) (xs := xs) (fun i H' => H' = upd H L (.lst (((ds.take i).map boundD).map V.bl))) rfl ?_ ?_ ?_
          · rintro i _ _ rfl
            exact SqL.of (by rw [upd_ne haL]; exact ha)
          · rintro i x _ hx rfl
            obtain ⟨d, hd, dx⟩ := hxs.get hx
            have hi := (List.getElem?_eq_some_iff.mp hx).1
            walk_at "xs"
            refine x_wiped rfl ?_
            walk_at "xs"
            refine x_sp1 (dx.ext (Ext.same (same_upd hL))) ?_
            refine x_acc upd_same ?_ ?_
            · rw [List.length_map, List.length_map, List.length_take, sizeLine_eq]; omega
            · show upd _ L _ = _
              rw [upd_upd]
              congr 2
              rw [List.take_add_one, hd, List.map_append, List.map_append]
              rfl
          · rintro _ rfl
            rw [lx, List.take_length]
            walk_at "xs"
            exact q _ (same_upd hL)
      · walk_at "xs"
        rw [decide_eq_false h1, Bool.false_and, Bool.false_and] at q
        exact q _ (Same.refl H)
    | _ => cases h
theorem kn_Lare_bounds {k : Nat} (D : Df K mg "_law_are_bounds" s_Lare_bounds) (B : Bl mg) (c_Lis_bound : Kn P w K mg base "_law_is_bound" k (sp1 boundD)) : Kn P w K mg base "_law_are_bounds" (k + 1) spBounds := by
  refine kn_of D (fun _ _ _ _ _ _ us hl => match us, hl with | [_], _ => rfl) sc_Lare_bounds (fun vs H Q E h => by obtain ⟨v, d, M, rfl, _⟩ := h; rfl) (fun f cd B' fr z H vs Q E hr gd h => ?_)
  obtain ⟨v, d, M, rfl, hd, few, q⟩ := h
  refine ⟨_, (pss_cons (ps_if (PW.pt (pw_or (pt_not (pt_val (pe_callB call_isD (by rfl) B.isinstance (by decide +kernel) (pa_cons (pv 0) (pa_cons (pe_bltn (v := .ty "list") (u := .type "list") (by rfl) B.«list» (by decide +kernel) rfl) pa_nil))))) (pw_or1 (pt_not (pt_chain op_le op_le pe_int (pe_callB call_len_seq (by rfl) B.len (by decide +kernel) (pa_cons (pv 0) pa_nil)) pe_int))))) (pss_one (ps_ret pe_bl)) pss_nil)
  (pss_one (ps_ret (pe_callB (cr_all rfl) (by rfl) B.all (by decide +kernel) (pa_cons (pe_lc (own := [("_law_bound", 1)]) rfl sc_Lare_bounds.nd (pi_list (pv 0)) (blkOk_by (N := ["_law_thing", "_law_bound"]) (sc := defScope s_Lare_bounds) (by decide +kernel)) (fun _ _ _ _ _ => (pg_name (i := 1) sc_Lare_bounds.nd rfl (.inl rfl))) (fun _ _ _ _ _ => pts_nil) (fun _ _ _ _ _ => (pe_own c_Lis_bound hr gd (by rfl) (pa_cons (pv 1) pa_nil)))) pa_nil))))), ?_⟩
  walk_at "xs"
  refine x_iteNB (fun h => ?_) (fun h => ?_)
  · rw [isT_list] at h
    have e : boundsD d = false := by cases d <;> first | rfl | cases h
    walk_at "xs"
    rw [← e]; exact q _ (Same.refl H)
  · rw [isT_list] at h
    cases hd with
    | @lst a xs ds ha hm hxs =>
      have len := few ds rfl
      have lx := hxs.length
      have e0 : boundsD (.list ds) = ((decide (2 ≤ (xs.length : Int)) && decide ((xs.length : Int) ≤ 10)) && (ds.map boundD).all id) := by rw [lx]; rfl
      rw [e0] at q
      walk_at "xs"
      refine x_ite (fun h1 => ?_) (fun h1 => ?_)
      · walk_at "xs"
        refine x_iteN (fun h2 => ?_) (fun h2 => ?_)
        · walk_at "xs"
          rw [decide_eq_false h2, Bool.and_false, Bool.false_and] at q
          exact q _ (Same.refl H)
        · rw [decide_eq_true h1, decide_eq_true h2, Bool.true_and, Bool.true_and] at q
          walk_at "xs"
          intro L hL
          have haL : a ≠ L := ne_of_none ha hL
          refine lc_list (K := K) (xs := xs) (fun i H' => H' = upd H L (.lst (((ds.take i).map boundD).map V.bl))) rfl ?_ ?_ ?_
          · rintro i _ _ rfl
            exact SqL.of (by rw [upd_ne haL]; exact ha)
          · rintro i x _ hx rfl
            obtain ⟨d, hd, dx⟩ := hxs.get hx
            have hi := (List.getElem?_eq_some_iff.mp hx).1
            walk_at "xs"
            refine x_wiped rfl ?_
            walk_at "xs"
            refine x_sp1 (dx.ext (Ext.same (same_upd hL))) ?_
            refine x_acc upd_same ?_ ?_
            · rw [List.length_map, List.length_map, List.length_take, sizeLine_eq]; omega
            · show upd _ L _ = _
              rw [upd_upd]
              congr 2
              rw [List.take_add_one, hd, List.map_append, List.map_append]
              rfl
          · rintro _ rfl
            rw [lx, List.take_length]
            walk_at "xs"
            exact q _ (same_upd hL)
      · walk_at "xs"
        rw [decide_eq_false h1, Bool.false_and, Bool.false_and] at q
        exact q _ (Same.refl H)
    | _ => cases h
end
def pairD : PyData → List Int
  | .tuple (.int a :: .int b :: _) => [a, b]
  | _ => []
def tupD (k : List Int) : PyData := .tuple (k.map PyData.int)
def bundlesD (d : PyData) (n : Int) : Bool := match d with
  | .list ds => decide ((ds.length : Int) ≤ 45) && ((ds.map fun d => bundleD d n).all id && decide ((ds.map pairD).Nodup))
  | _ => false
def spBundles : Sp := fun vs H Q _ => ∃ v d M n, vs = [v, .int n] ∧ Dn M H v d ∧ fewD d ∧ ∀ H', Same H H' → Q (.bl (bundlesD d n)) H'
theorem x_bundles {v : V} {d : PyData} {M : List Addr} {n : Int} {H : Hp} {Q : VK} {E : XK} (hd : Dn M H v d) (few : fewD d) (h : ∀ H', Same H H' → Q (.bl (bundlesD d n)) H') : spBundles [v, .int n] H Q E := ⟨v, d, M, n, rfl, hd, few, h⟩
theorem bundle_at {d : PyData} {n : Int} (h : bundleD d n = true) : ∃ a b c, d = .tuple [.int a, .int b, .int c] := by
  unfold bundleD at h
  split at h
  · rename_i x y z
    rw [Bool.and_eq_true, Bool.and_eq_true, Bool.and_eq_true] at h
    obtain ⟨h1, h2, h3, h4⟩ := h
    obtain ⟨a, rfl⟩ := brokerD_int h2
    obtain ⟨b, rfl⟩ := brokerD_int h3
    obtain ⟨c, rfl⟩ := inD_int h1
    exact ⟨a, b, c, rfl⟩
  · cases h
theorem Dn.tup3 {M : List Addr} {H : Hp} {v : V} {a b c : Int} (h : Dn M H v (.tuple [.int a, .int b, .int c])) : ∃ p, v = .ref p ∧ p ∉ M ∧ H p = some (.tup [.int a, .int b, .int c]) := by
  cases h with
  | tup h1 h2 h3 =>
    obtain rfl := DnAll.toInts (ms := [a, b, c]) h3
    exact ⟨_, rfl, h2, h1⟩
theorem row_at {M : List Addr} {H : Hp} {xs : List V} {ds : List PyData} {n : Int} {i : Nat} {x : V} (hxs : DnAll M H xs ds) (hall : (ds.map fun d => bundleD d n).all id = true) (hx : xs[i]? = some x) :
    ∃ p a b c, x = .ref p ∧ H p = some (.tup [.int a, .int b, .int c]) ∧ (ds.map pairD)[i]? = some [a, b] := by
  obtain ⟨d, hd, dx⟩ := hxs.get hx
  have hb : bundleD d n = true := by
    rw [List.all_eq_true] at hall
    exact hall _ (List.mem_map.mpr ⟨d, List.mem_of_getElem? hd, rfl⟩)
  obtain ⟨a, b, c, rfl⟩ := bundle_at hb
  obtain ⟨p, rfl, _, hp⟩ := dx.tup3
  exact ⟨p, a, b, c, rfl, hp, by rw [List.getElem?_map, hd]; rfl⟩
section
variable {P : Program} {w : World} {K : PySem.W.Frag} {mg : Str → Option Value} {base : Heap} {t0 t1 t2 t3 t4 : Tok}
theorem kn_are_bundles {k : Nat} (D : Df K mg "are_bundles" s_are_bundles) (B : Bl mg) (CS : Cs mg t0 t1 t2 t3 t4) (c__is_bundle : Kn P w K mg base "_is_bundle" k (sp2 bundleD)) : Kn P w K mg base "are_bundles" (k + 1) spBundles := by
  refine kn_of D (fun _ _ _ _ _ _ us hl => match us, hl with | [_, _], _ => rfl) sc_are_bundles (fun vs H Q E h => by obtain ⟨v, d, M, n, rfl, _⟩ := h; rfl) (fun f cd B' fr z H vs Q E hr gd h => ?_)
  obtain ⟨v, d, M, n, rfl, hd, few, q⟩ := h
  refine ⟨_, (pss_cons (ps_if (PW.pt (pw_or (pt_not (pt_val (pe_callB call_isD (by rfl) B.isinstance (by decide +kernel) (pa_cons (pv 0) (pa_cons (pe_bltn (v := .ty "list") (u := .type "list") (by rfl) B.«list» (by decide +kernel) rfl) pa_nil))))) (pw_or1 (pt_cmpR op_gt (pe_callB call_len_seq (by rfl) B.len (by decide +kernel) (pa_cons (pv 0) pa_nil)) (pe_glob (v := .int (45)) (by rfl) CS.MOST_BUNDLES ⟨_, rfl⟩) (nomark _))))) (pss_one (ps_ret pe_bl)) pss_nil)
  (pss_cons (ps_if (pt_not (pt_val (pe_callB (cr_all rfl) (by rfl) B.all (by decide +kernel) (pa_cons (pe_lc (own := [("row", 2)]) rfl sc_are_bundles.nd (pi_list (pv 0)) (blkOk_by (N := ["thing", "size", "row"]) (sc := defScope s_are_bundles) (by decide +kernel)) (fun _ _ _ _ _ => (pg_name (i := 2) sc_are_bundles.nd rfl (.inl rfl))) (fun _ _ _ _ _ => pts_nil) (fun _ _ _ _ _ => (pe_own c__is_bundle hr gd (by rfl) (pa_cons (pv 2) (pa_cons (pv 1) pa_nil))))) pa_nil)))) (pss_one (ps_ret pe_bl)) pss_nil)
  (pss_one (ps_ret (pe_cmpR op_eq (pe_callB call_lenT (by rfl) B.len (by decide +kernel) (pa_cons (pe_setC (Z := fun a => SetTO P w a []) (add := addT K P w) (own := [("row", 2)]) rfl sc_are_bundles.nd (pi_list (pv 0)) (blkOk_by (N := ["thing", "size", "row"]) (sc := defScope s_are_bundles) (by decide +kernel)) (fun _ _ _ _ _ => (pg_name (i := 2) sc_are_bundles.nd rfl (.inl rfl))) (fun _ _ _ _ _ => pts_nil) (fun _ _ _ _ _ => (pe_tup (pa_cons (pe_ix (r := rIxT K) ix_tup (pv 2) pe_int (fun _ _ => rfl)) (pa_cons (pe_ix (r := rIxT K) ix_tup (pv 2) pe_int (fun _ _ => rfl)) pa_nil)))) (fun _ _ _ _ _ => addT_ok hr.units) freshT) pa_nil)) (pe_callB call_len_seq (by rfl) B.len (by decide +kernel) (pa_cons (pv 0) pa_nil)) (nomark _)))))), ?_⟩
  walk_at "xs"
  refine x_iteNB (fun h => ?_) (fun h => ?_)
  · rw [isT_list] at h
    have e : bundlesD d n = false := by cases d <;> first | rfl | cases h
    walk_at "xs"
    rw [← e]; exact q _ (Same.refl H)
  · rw [isT_list] at h
    cases hd with
    | @lst a xs ds ha hm hxs =>
      have len := few ds rfl
      have lx := hxs.length
      have e0 : bundlesD (.list ds) n = (decide ((xs.length : Int) ≤ 45) && ((ds.map fun d => bundleD d n).all id && decide ((ds.map pairD).Nodup))) := by rw [lx]; rfl
      rw [e0] at q
      walk_at "xs"
      refine x_ite (fun h1 => ?_) (fun h1 => ?_)
      · walk_at "xs"
        rw [decide_eq_false (by omega), Bool.false_and] at q
        exact q _ (Same.refl H)
      · rw [decide_eq_true (by omega), Bool.true_and] at q
        walk_at "xs"
        intro L hL
        have haL : a ≠ L := ne_of_none ha hL
        refine lc_list (K := K) (xs := xs) (fun i H' => H' = upd H L (.lst (((ds.take i).map fun d => bundleD d n).map V.bl))) rfl ?_ ?_ ?_
        · rintro i _ _ rfl
          exact SqL.of (by rw [upd_ne haL]; exact ha)
        · rintro i x _ hx rfl
          obtain ⟨d, hd, dx⟩ := hxs.get hx
          have hi := (List.getElem?_eq_some_iff.mp hx).1
          walk_at "xs"
          refine x_wiped rfl ?_
          walk_at "xs"
          refine x_sp2 (dx.ext (Ext.same (same_upd hL))) ?_
          refine x_acc upd_same ?_ ?_
          · rw [List.length_map, List.length_map, List.length_take, sizeLine_eq]; omega
          · show upd _ L _ = _
            rw [upd_upd]
            congr 2
            rw [List.take_add_one, hd, List.map_append, List.map_append]
            rfl
        · rintro _ rfl
          rw [lx, List.take_length]
          have S1 := same_upd hL (o := .lst ((ds.map fun d => bundleD d n).map V.bl))
          walk_at "xs"
          refine x_iteNB (fun h2 => ?_) (fun h2 => ?_)
          · walk_at "xs"
            rw [h2, Bool.false_and] at q
            exact q _ S1
          · rw [h2, Bool.true_and] at q
            have ha2 := S1 _ _ ha
            have hxs2 := hxs.ext (Ext.same S1)
            generalize upd H L _ = H1 at *
            have lp : (ds.map pairD).length = xs.length := by rw [List.length_map, lx]
            generalize hps : ds.map pairD = ps at *
            walk_at "xs"
            intro S hS
            refine setc_list (K := K) (a := a) (L := S) (Z := fun a => SetTO P w a []) (add := addT K P w) (xs := xs) (fun i H' => ∃ L : List (Addr × List Int), H' S = some (SetTO P w S L) ∧ (∀ q ∈ L, H' q.1 = some (.tup (q.2.map V.int))) ∧ L.length ≤ i ∧ (∀ k, k ∈ L.map (·.2) ↔ k ∈ ps.take i) ∧ (L.length = i ↔ (ps.take i).Nodup) ∧ Same H1 H') ?_ ?_ ?_ ?_
            · exact ⟨[], upd_same, by simp, Nat.le_refl _, by simp, by simp, same_upd hS⟩
            · rintro i H' _ ⟨L, _, _, _, _, _, SS⟩
              exact SqL.of (SS _ _ ha2)
            · rintro i x H' hx ⟨L, hLS, hT, ll, hk, hn, SS⟩
              obtain ⟨p, a', b', c', rfl, hp, hpi⟩ := row_at hxs2 h2 hx
              rw [hps] at hpi
              have hi := (List.getElem?_eq_some_iff.mp hx).1
              have hp := SS _ _ hp
              walk_at "xs"
              refine x_wiped rfl ?_
              walk_at "xs"
              intro t ht
              have tk : ps.take (i + 1) = ps.take i ++ [[a', b']] := by rw [List.take_add_one, hpi]; rfl
              have S2 := same_upd ht (o := .tup [.int a', .int b'])
              refine ⟨t, [a', b'], L, rfl, SqT.of upd_same, S2 _ _ hLS, fun q hq => SqT.of (S2 _ _ (hT q hq)), by omega, fun L' c1 c2 => ?_⟩
              have tS : t ≠ S := ne_of_none2 ht hLS
              have keep : Same H1 (upd (upd H' t (.tup [.int a', .int b'])) S (SetTO P w S L')) := fun z o e => by
                rw [upd_ne (ne_of_none e hS)]; exact S2 _ _ (SS _ _ e)
              have notS : ∀ q : Addr × List Int, H' q.1 = some (.tup (q.2.map V.int)) → q.1 ≠ S := fun q e x => by
                rw [x, hLS] at e; cases e
              have tups : ∀ q ∈ (t, [a', b']) :: L, (upd (upd H' t (.tup [.int a', .int b'])) S (SetTO P w S L')) q.1 = some (.tup (q.2.map V.int)) := by
                intro q hq
                rcases List.mem_cons.mp hq with rfl | hq
                · rw [upd_ne tS, upd_same]; rfl
                · rw [upd_ne (notS q (hT q hq))]; exact S2 _ _ (hT q hq)
              by_cases hin : [a', b'] ∈ L.map (·.2)
              · have e := c1 hin
                subst e
                refine ⟨_, upd_same, fun q hq => tups q (List.mem_cons_of_mem _ hq), by omega, fun k => ?_, ?_, keep⟩
                · rw [tk, List.mem_append, ← hk k]
                  constructor
                  · exact .inl
                  · rintro (h | h)
                    · exact h
                    · simp at h; subst h; exact hin
                · rw [tk]
                  constructor
                  · intro e; omega
                  · intro nd
                    exfalso
                    rw [List.nodup_append] at nd
                    exact nd.2.2 _ ((hk _).mp hin) _ (by simp) rfl
              · have pm := c2 hin
                refine ⟨_, upd_same, fun q hq => tups q (pm.mem_iff.mp hq), by rw [pm.length_eq]; simp; omega, fun k => ?_, ?_, keep⟩
                · rw [tk, List.mem_append, ← hk k, (pm.map (·.2)).mem_iff]
                  simp [or_comm]
                · rw [tk, pm.length_eq]
                  have h3 := hn
                  rw [List.length_cons, Nat.add_right_cancel_iff, hn, List.nodup_append]
                  constructor
                  · intro nd
                    refine ⟨nd, by simp, fun u hu v hv e => ?_⟩
                    simp at hv; subst hv; subst e
                    exact hin ((hk _).mpr hu)
                  · exact fun h => h.1
            · rintro H' ⟨L, hLS, hT, ll, hk, hn, SS⟩
              walk_at "xs"
              refine ⟨S, L, rfl, hLS, fun q hq => SqT.of (hT q hq), ?_⟩
              have ha3 := SS _ _ ha2
              walk_at "xs"
              have e : decide (ps.Nodup) = decide ((L.length : Int) = xs.length) := by
                rw [List.take_of_length_le (by omega)] at hn
                exact decide_eq_decide.mpr (by rw [← hn]; omega)
              rw [← e]
              exact q _ (S1.trans SS)
    | _ => cases h
end
/-! ### the law's own test of bundles -/
theorem ints_facts : ∀ ms : List Int, PyData.canLayAll0 (ms.map PyData.int) = true ∧ PyData.depthAll (ms.map PyData.int) = 0 ∧ PyData.plainAll (ms.map PyData.int) = true
  | [] => ⟨rfl, rfl, rfl⟩
  | m :: r => by
    obtain ⟨a, b, c⟩ := ints_facts r
    exact ⟨by simp [PyData.canLayAll0, PyData.canLay0, a], by simp [PyData.depthAll, PyData.depth, b], by simp [PyData.plainAll, PyData.plain, c]⟩
theorem tups_facts : ∀ dl : List PyData, (∀ u ∈ dl, ∃ k, u = tupD k) → PyData.canLayAll0 dl = true ∧ PyData.depthAll dl ≤ 1 ∧ PyData.plainAll dl = true
  | [], _ => ⟨rfl, by decide, rfl⟩
  | d :: r, h => by
    obtain ⟨a, b, c⟩ := tups_facts r fun u hu => h u (List.mem_cons_of_mem _ hu)
    obtain ⟨k, rfl⟩ := h d (List.mem_cons_self ..)
    obtain ⟨x, y, z⟩ := ints_facts k
    refine ⟨by simp [PyData.canLayAll0, tupD, PyData.canLay0, a, x], ?_, by simp [PyData.plainAll, tupD, PyData.plain, c, z]⟩
    simp only [PyData.depthAll, tupD, PyData.depth, y]
    omega
theorem eqvAll_ints : ∀ a b : List Int, PyData.eqvAll (a.map PyData.int) (b.map PyData.int) = decide (a = b)
  | [], [] => by simp [PyData.eqvAll]
  | [], _ :: _ => by simp [PyData.eqvAll]
  | _ :: _, [] => by simp [PyData.eqvAll]
  | x :: a, y :: b => by
    simp only [List.map_cons, PyData.eqvAll, PyData.eqv, eqvAll_ints a b]
    rw [Bool.eq_iff_iff]
    simp [Bool.and_eq_true]
theorem eqv_tupD (a b : List Int) : PyData.eqv (tupD a) (tupD b) = decide (a = b) := by
  show PyData.eqvAll _ _ = _
  exact eqvAll_ints a b
theorem countP_tupD (k : List Int) : ∀ ps : List (List Int), (ps.map tupD).countP (fun z => PyData.eqv z (tupD k)) = ps.count k
  | [] => rfl
  | p :: r => by
    rw [List.map_cons, List.countP_cons, List.count_cons, countP_tupD k r, eqv_tupD]
    congr 1
    by_cases h : p = k
    · simp [h]
    · simp [h]
section
variable {P : Program} {w : World} {K : PySem.W.Frag} {mg : Str → Option Value} {base : Heap} {t0 t1 t2 t3 t4 : Tok}
theorem kn_Lare_bundles {k : Nat} (D : Df K mg "_law_are_bundles" s_Lare_bundles) (B : Bl mg) (c_Lis_bundle : Kn P w K mg base "_law_is_bundle" k (sp2 bundleD)) : Kn P w K mg base "_law_are_bundles" (k + 1) spBundles := by
  refine kn_of D (fun _ _ _ _ _ _ us hl => match us, hl with | [_, _], _ => rfl) sc_Lare_bundles (fun vs H Q E h => by obtain ⟨v, d, M, n, rfl, _⟩ := h; rfl) (fun f cd B' fr z H vs Q E hr gd h => ?_)
  obtain ⟨v, d, M, n, rfl, hd, few, q⟩ := h
  refine ⟨_, (pss_cons (ps_if (PW.pt (pw_or (pt_not (pt_val (pe_callB call_isD (by rfl) B.isinstance (by decide +kernel) (pa_cons (pv 0) (pa_cons (pe_bltn (v := .ty "list") (u := .type "list") (by rfl) B.«list» (by decide +kernel) rfl) pa_nil))))) (pw_or (pt_cmpR op_gt (pe_callB call_len_seq (by rfl) B.len (by decide +kernel) (pa_cons (pv 0) pa_nil)) pe_int (nomark _)) (pw_or1 (pt_not (pt_val (pe_callB (cr_all rfl) (by rfl) B.all (by decide +kernel) (pa_cons (pe_lc (own := [("_law_row", 3)]) rfl sc_Lare_bundles.nd (pi_list (pv 0)) (blkOk_by (N := ["_law_thing", "_law_size", "_law_pairs", "_law_row", "_law_pair"]) (sc := defScope s_Lare_bundles) (by decide +kernel)) (fun _ _ _ _ _ => (pg_name (i := 3) sc_Lare_bundles.nd rfl (.inl rfl))) (fun _ _ _ _ _ => pts_nil) (fun _ _ _ _ _ => (pe_own c_Lis_bundle hr gd (by rfl) (pa_cons (pv 3) (pa_cons (pv 1) pa_nil))))) pa_nil)))))))) (pss_one (ps_ret pe_bl)) pss_nil)
  (pss_cons (ps_set (i := 2) sc_Lare_bundles.nd rfl (.inr rfl) (pe_lc (own := [("_law_row", 3)]) rfl sc_Lare_bundles.nd (pi_list (pv 0)) (blkOk_by (N := ["_law_thing", "_law_size", "_law_pairs", "_law_row", "_law_pair"]) (sc := defScope s_Lare_bundles) (by decide +kernel)) (fun _ _ _ _ _ => (pg_name (i := 3) sc_Lare_bundles.nd rfl (.inl rfl))) (fun _ _ _ _ _ => pts_nil) (fun _ _ _ _ _ => (pe_slice (r := rSlA K) sl_tupA (pv 3) po_none (po_some pe_int)))))
  (pss_one (ps_ret (pe_cmpR (op_eqD hr.units) (pe_lc (own := [("_law_pair", 4)]) rfl sc_Lare_bundles.nd (pi_list (pv 2)) (blkOk_by (N := ["_law_thing", "_law_size", "_law_pairs", "_law_row", "_law_pair"]) (sc := defScope s_Lare_bundles) (by decide +kernel)) (fun _ _ _ _ _ => (pg_name (i := 4) sc_Lare_bundles.nd rfl (.inl rfl))) (fun _ _ _ _ _ => (pts_one (pt_cmpR op_gt (pe_bmK K PySem.F.plainAttrs_list PySem.F.slot_list_count PySem.F.type_list_count (mt_count (by exact hr.units)) (pv 2) (pa_cons (pv 4) pa_nil)) pe_int (nomark _)))) (fun _ _ _ _ _ => (pv 4))) (pe_lst pa_nil) (nomark _)))))), ?_⟩
  walk_at "xs"
  refine x_iteNB (fun h => ?_) (fun h => ?_)
  · rw [isT_list] at h
    have e : bundlesD d n = false := by cases d <;> first | rfl | cases h
    walk_at "xs"
    rw [← e]; exact q _ (Same.refl H)
  · rw [isT_list] at h
    cases hd with
    | @lst a xs ds ha hm hxs =>
      have len := few ds rfl
      have lx := hxs.length
      have e0 : bundlesD (.list ds) n = (decide ((xs.length : Int) ≤ 45) && ((ds.map fun d => bundleD d n).all id && decide ((ds.map pairD).Nodup))) := by rw [lx]; rfl
      rw [e0] at q
      walk_at "xs"
      refine x_ite (fun h1 => ?_) (fun h1 => ?_)
      · walk_at "xs"
        rw [decide_eq_false (by omega), Bool.false_and] at q
        exact q _ (Same.refl H)
      · rw [decide_eq_true (by omega), Bool.true_and] at q
        walk_at "xs"
        intro L hL
        have haL : a ≠ L := ne_of_none ha hL
        refine lc_list (K := K) (xs := xs) (fun i H' => H' = upd H L (.lst (((ds.take i).map fun d => bundleD d n).map V.bl))) rfl ?_ ?_ ?_
        · rintro i _ _ rfl
          exact SqL.of (by rw [upd_ne haL]; exact ha)
        · rintro i x _ hx rfl
          obtain ⟨d, hd, dx⟩ := hxs.get hx
          have hi := (List.getElem?_eq_some_iff.mp hx).1
          walk_at "xs"
          refine x_wiped rfl ?_
          walk_at "xs"
          refine x_sp2 (dx.ext (Ext.same (same_upd hL))) ?_
          refine x_acc upd_same ?_ ?_
          · rw [List.length_map, List.length_map, List.length_take, sizeLine_eq]; omega
          · show upd _ L _ = _
            rw [upd_upd]
            congr 2
            rw [List.take_add_one, hd, List.map_append, List.map_append]
            rfl
        · rintro _ rfl
          rw [lx, List.take_length]
          have S1 := same_upd hL (o := .lst ((ds.map fun d => bundleD d n).map V.bl))
          walk_at "xs"
          refine x_iteNB (fun h2 => ?_) (fun h2 => ?_)
          · walk_at "xs"
            rw [h2, Bool.false_and] at q
            exact q _ S1
          · rw [h2, Bool.true_and] at q
            have ha2 := S1 _ _ ha
            have hxs2 := hxs.ext (Ext.same S1)
            generalize upd H L _ = H1 at *
            have lp : (ds.map pairD).length = xs.length := by rw [List.length_map, lx]
            generalize hps : ds.map pairD = ps at *
            walk_at "xs"
            intro S hS
            refine lc_list (K := K) (a := a) (xs := xs) (fun i H' => ∃ acc : List V, H' S = some (.lst acc) ∧ DnAll [S] H' acc ((ps.take i).map tupD) ∧ Same H1 H') ?_ ?_ ?_ ?_
            · exact ⟨[], upd_same, by rw [List.take_zero]; exact .nil, same_upd hS⟩
            · rintro i H' _ ⟨acc, _, _, SS⟩
              exact SqL.of (SS _ _ ha2)
            · rintro i x H' hx ⟨acc, hS', hA, SS⟩
              obtain ⟨p, a', b', c', rfl, hp, hpi⟩ := row_at hxs2 h2 hx
              rw [hps] at hpi
              have hi := (List.getElem?_eq_some_iff.mp hx).1
              have hp := SS _ _ hp
              have la := hA.length
              rw [List.length_map, List.length_take] at la
              walk_at "xs"
              refine x_wiped rfl ?_
              walk_at "xs"
              refine x_slN hp ?_
              intro p2 H2 S2 e2
              have e2 : H2 p2 = some (.tup ([a', b'].map V.int)) := e2
              have hS2 := S2 _ _ hS'
              have ne : p2 ≠ S := fun x => by rw [x, hS2] at e2; cases e2
              have X1 : Ext [S] H2 (upd H2 S (.lst (acc ++ [.ref p2]))) := Ext.upd (by simp)
              refine x_acc hS2 (by rw [sizeLine_eq]; omega) ⟨_, upd_same, ?_, fun z o e => by rw [upd_ne (ne_of_none e hS)]; exact S2 _ _ (SS _ _ e)⟩
              rw [List.take_add_one, hpi, List.map_append]
              exact ((hA.ext (Ext.same S2)).ext X1).app (.cons (.tup (by rw [upd_ne ne]; exact e2) (by simp [ne]) (DnAll.ints [a', b'])) .nil)
            · rintro H2 ⟨acc, hS', hA, SS⟩
              have la := hA.length
              rw [List.take_of_length_le (by omega)] at hA la
              rw [List.length_map] at la
              have hA := hA.sub (M' := []) (by simp)
              have dS : Dn [] H2 (.ref S) (.list (ps.map tupD)) := .lst hS' (by simp) hA
              walk_at "xs"
              intro E' hE
              refine lc_list (K := K) (a := S) (xs := acc) (fun i H' => ∃ (l : List V) (dl : List PyData), H' E' = some (.lst l) ∧ DnAll [E'] H' l dl ∧ l.length ≤ i ∧ (∀ u ∈ dl, ∃ k, u = tupD k) ∧ (dl = [] ↔ ∀ (j : Nat) (k : List Int), j < i → ps[j]? = some k → ps.count k ≤ 1) ∧ Same H2 H') ?_ ?_ ?_ ?_
              · exact ⟨[], [], upd_same, .nil, Nat.le_refl _, by simp, by simp, same_upd hE⟩
              · rintro i H' _ ⟨l, dl, _, _, _, _, _, SS⟩
                exact SqL.of (SS _ _ hS')
              · rintro i x H' hx ⟨l, dl, hE', hB, ll, hu, hn, S3⟩
                obtain ⟨d, hd, dx⟩ := hA.get hx
                have hi := (List.getElem?_eq_some_iff.mp hx).1
                rw [List.getElem?_map] at hd
                obtain ⟨k', hk', rfl⟩ : ∃ k', ps[i]? = some k' ∧ tupD k' = d := by
                  cases e : ps[i]? with
                  | none => rw [e] at hd; cases hd
                  | some m => rw [e] at hd; exact ⟨m, rfl, Option.some.inj hd⟩
                have hS3 := S3 _ _ hS'
                have dS3 := dS.ext (Ext.same S3)
                have dx3 := dx.ext (Ext.same S3)
                walk_at "xs"
                refine x_wiped rfl ?_
                walk_at "xs"
                obtain ⟨f1, f2, f3⟩ := tups_facts (ps.map tupD) (fun u hu => by obtain ⟨k, _, rfl⟩ := List.mem_map.mp hu; exact ⟨k, rfl⟩)
                obtain ⟨g1, g2, g3⟩ := tups_facts [tupD k'] (fun u hu => by simp at hu; exact ⟨k', hu⟩)
                have g3 : (tupD k').plain = true := by simpa [PyData.plainAll] using g3
                have g2 : (tupD k').depth ≤ 20 := by simp only [PyData.depthAll] at g2; omega
                refine ⟨_, [], tupD k', ps.map tupD, rfl, dS3, dx3, f3, g3, g2, ?_⟩
                rw [countP_tupD]
                walk_at "xs"
                refine x_ite (fun h => ?_) (fun h => ?_)
                · walk_at "xs"
                  have X1 : Ext [E'] H' (upd H' E' (.lst (l ++ [x]))) := Ext.upd (by simp)
                  have dx4 : Dn [E'] H' x (tupD k') := by
                    cases dx3 with
                    | tup e1 _ e3 =>
                      refine .tup e1 (by simp; intro x; rw [x, hE'] at e1; cases e1) ?_
                      obtain rfl := DnAll.toInts e3
                      exact DnAll.ints k'
                  refine x_acc hE' (by rw [sizeLine_eq]; omega) ⟨l ++ [x], dl ++ [tupD k'], upd_same, ?_, by simp; omega, ?_, ?_, fun z o e => by rw [upd_ne (ne_of_none e hE)]; exact S3 _ _ e⟩
                  · exact (hB.ext X1).app (.cons (dx4.ext X1) .nil)
                  · intro u hu'
                    rcases List.mem_append.mp hu' with h | h
                    · exact hu u h
                    · simp at h; exact ⟨k', h⟩
                  · refine ⟨fun e => by simp at e, fun q => ?_⟩
                    have := q i k' (by omega) hk'
                    omega
                · refine ⟨l, dl, hE', hB, by omega, hu, hn.trans ⟨fun q j y hj hy => ?_, fun q j y hj hy => q j y (by omega) hy⟩, S3⟩
                  by_cases hji : j < i
                  · exact q j y hji hy
                  · have : j = i := by omega
                    subst this
                    rw [hk'] at hy
                    cases hy
                    omega
              · rintro H' ⟨l, dl, hE', hB, ll, hu, hn, S3⟩
                walk_at "xs"
                intro p hp
                obtain ⟨f1, f2, f3⟩ := tups_facts dl hu
                have S4 := same_upd hp (o := .lst [])
                have dl1 : Dn [] (upd H' p (.lst [])) (.ref E') (.list dl) := .lst (S4 _ _ hE') (by simp) ((hB.sub (by simp)).ext (Ext.same S4))
                have sh : SeqAt.shaped (.list dl) = true := by
                  have : PyData.depthAll dl + 1 ≤ 64 := by omega
                  simp [SeqAt.shaped, PyData.canLay0, f1, PyData.depth, this]
                refine ⟨.list dl, .list [], dl1.dp (PyData.hasDict_of_canLay _ (SeqAt.canLay_of_shaped sh)), .lst (SqL.of upd_same) .nil, sh, rfl, ?_⟩
                rw [eqv_nil]
                have e : decide (ps.Nodup) = decide (dl = []) := by
                  refine decide_eq_decide.mpr ?_
                  rw [hn, List.nodup_iff_count]
                  constructor
                  · intro h j k _ _; exact h k
                  · intro h k
                    by_cases hm : k ∈ ps
                    · obtain ⟨j, hj, e⟩ := List.getElem_of_mem hm
                      exact h j k (by omega) (by rw [List.getElem?_eq_getElem hj, e])
                    · rw [List.count_eq_zero_of_not_mem hm]; omega
                rw [← e]
                exact q _ (S1.trans (SS.trans (S3.trans S4)))
    | _ => cases h
end
/-! ### rows that are built -/
def RowD (d : PyData) : Prop := ∃ ns : List Int, d = tupD ns ∧ 0 < ns.length ∧ ns.length ≤ 3 ∧ ∀ n ∈ ns, n.natAbs < 2 ^ 200
structure Rb (H0 : Hp) (b c f : Addr) (acc : List V) (ds : List PyData) (H : Hp) : Prop where
  e : Ext [b] H0 H
  bag : Bag H b c
  fd : H f = some (.lst acc)
  ne : f ∉ [b]
  nc : c ≠ f
  f0 : H0 f = none
  rows : DnAll [b, f] H acc ds
  row : ∀ d ∈ ds, RowD d
theorem Rb.step {H0 H H' : Hp} {b c f : Addr} {acc : List V} {ds : List PyData} (r : Rb H0 b c f acc ds H) (E : Ext [b] H H') (B : Bag H' b c) : Rb H0 b c f acc ds H' :=
  ⟨r.e.trans E, B, E _ _ r.ne r.fd, r.ne, r.nc, r.f0, r.rows.ext (E.mono (by intro x h; simp at h ⊢; exact .inl h)), r.row⟩
theorem Rb.new {H0 H : Hp} {b c f p : Addr} {acc : List V} {ds : List PyData} (u : HO) (r : Rb H0 b c f acc ds H) (hp : H p = none) : Rb H0 b c f acc ds (upd H p u) ∧ p ∉ [b] ∧ p ∉ [b, f] ∧ upd H p u p = some u := by
  obtain ⟨ob, hob⟩ := r.bag.at
  have h1 := new_out (o := ob) (Same.refl H) hob hp
  have h2 : p ≠ f := ne_of_none2 hp r.fd
  exact ⟨r.step (Ext.same (same_upd hp)) (r.bag.ext (same_upd hp)), h1, by simp at h1 ⊢; exact ⟨h1, h2⟩, upd_same⟩
theorem Rb.app {H0 H : Hp} {b c f : Addr} {acc : List V} {ds : List PyData} {v : V} {d : PyData} (r : Rb H0 b c f acc ds H) (hv : Dn [b, f] H v d) (hd : RowD d) :
    Rb H0 b c f (acc ++ [v]) (ds ++ [d]) (upd H f (.lst (acc ++ [v]))) := by
  have X1 : Ext [b, f] H (upd H f (.lst (acc ++ [v]))) := Ext.upd (by simp)
  have nb : b ≠ f := fun e => r.ne (by rw [e]; simp)
  refine ⟨fun a o n e => ?_, ?_, upd_same, r.ne, r.nc, r.f0, (r.rows.ext X1).app (.cons (hv.ext X1) .nil), ?_⟩
  · rw [upd_ne (ne_of_none e r.f0)]; exact r.e _ _ n e
  · obtain ⟨x, y, k, cs, h1, h2, h3⟩ := r.bag
    exact ⟨x, y, k, cs, by rw [upd_ne nb]; exact h1, by rw [upd_ne r.nc]; exact h2, h3⟩
  · intro u hu
    rcases List.mem_append.mp hu with h | h
    · exact r.row u h
    · simp at h; subst h; exact hd
theorem Rb.dn {H0 H : Hp} {b c f : Addr} {acc : List V} {ds : List PyData} (r : Rb H0 b c f acc ds H) : Dn [b] H (.ref f) (.list ds) := .lst r.fd r.ne (r.rows.sub (by intro x h; simp at h ⊢; exact .inl h))
theorem Rb.mk0 {H0 : Hp} {b c f : Addr} (hB : Bag H0 b c) (hf : H0 f = none) : Rb H0 b c f [] [] (upd H0 f (.lst [])) := by
  obtain ⟨ob, hob⟩ := hB.at
  refine ⟨Ext.same (same_upd hf), hB.ext (same_upd hf), upd_same, new_out (Same.refl H0) hob hf, ?_, hf, .nil, by simp⟩
  obtain ⟨x, y, k, cs, h1, h2, h3⟩ := hB
  exact ne_of_none h2 hf
def spRows : Sp := fun vs H Q _ => ∃ b c, vs = [.ref b] ∧ Bag H b c ∧ ∀ H' f ds, Ext [b] H H' → Bag H' b c → Dn [b] H' (.ref f) (.list ds) → (∀ d ∈ ds, RowD d) → ds.length ≤ 90 → Q (.ref f) H'
def spRows2 : Sp := fun vs H Q _ => ∃ b c n, vs = [.ref b, .int n] ∧ Bag H b c ∧ 0 ≤ n ∧ n ≤ 10 ∧ ∀ H' f ds, Ext [b] H H' → Bag H' b c → Dn [b] H' (.ref f) (.list ds) → (∀ d ∈ ds, RowD d) → ds.length ≤ 90 → Q (.ref f) H'
theorem x_rows {H : Hp} {Q : VK} {E : XK} {b c : Addr} (hb : Bag H b c) (h : ∀ H' f ds, Ext [b] H H' → Bag H' b c → Dn [b] H' (.ref f) (.list ds) → (∀ d ∈ ds, RowD d) → ds.length ≤ 90 → Q (.ref f) H') : spRows [.ref b] H Q E := ⟨b, c, rfl, hb, h⟩
theorem x_rows2 {H : Hp} {Q : VK} {E : XK} {b c : Addr} {n : Int} (hb : Bag H b c) (n0 : 0 ≤ n) (n1 : n ≤ 10) (h : ∀ H' f ds, Ext [b] H H' → Bag H' b c → Dn [b] H' (.ref f) (.list ds) → (∀ d ∈ ds, RowD d) → ds.length ≤ 90 → Q (.ref f) H') : spRows2 [.ref b, .int n] H Q E := ⟨b, c, n, rfl, hb, n0, n1, h⟩
theorem in3 {x y : V} {a b c : Int} {k : Nat} (h : x ∈ [V.int a, V.int b, V.int c]) (ha : a.natAbs < k) (hb : b.natAbs < k) (hc : c.natAbs < k) : ∃ i, x = .int i ∧ i.natAbs < k := by
  simp only [List.mem_cons, List.not_mem_nil, or_false] at h
  rcases h with rfl | rfl | rfl
  · exact ⟨_, rfl, ha⟩
  · exact ⟨_, rfl, hb⟩
  · exact ⟨_, rfl, hc⟩
section
variable {P : Program} {w : World} {K : PySem.W.Frag} {mg : Str → Option Value} {base : Heap} {t0 t1 t2 t3 t4 : Tok}
theorem kn_some_bounds {k : Nat} (D : Df K mg "_law_some_bounds" s_Lsome_bounds) (B : Bl mg) (c_Ltake : Kn P w K mg base "_law_take" k spTake) : Kn P w K mg base "_law_some_bounds" (k + 1) spRows := by
  refine kn_of D (fun _ _ _ _ _ _ us hl => match us, hl with | [_], _ => rfl) sc_Lsome_bounds (fun vs H Q E h => by obtain ⟨b, c, rfl, _⟩ := h; rfl) (fun f cd B' fr z H vs Q E hr gd h => ?_)
  obtain ⟨b, c, rfl, hB, q⟩ := h
  refine ⟨_, (pss_cons (ps_set (i := 1) sc_Lsome_bounds.nd rfl (.inl rfl) (pe_lst pa_nil))
  (pss_cons (ps_for PassesOwn.never rfl (pi_range1 (by rfl) B.range (pa_cons (pe_op op_add pe_int (pe_own c_Ltake hr gd (by rfl) (pa_cons (pv 0) (pa_cons pe_int pa_nil)))) pa_nil)) (pg_name (i := 2) sc_Lsome_bounds.nd rfl (.inl rfl))
  (pss_cons (ps_set (i := 3) sc_Lsome_bounds.nd rfl (.inl rfl) (pe_ix (r := rIxL K) ix_list (pe_lst (pa_cons pe_int (pa_cons (pe_own c_Ltake hr gd (by rfl) (pa_cons (pv 0) (pa_cons pe_int pa_nil))) (pa_cons (pe_own c_Ltake hr gd (by rfl) (pa_cons (pv 0) (pa_cons (pe_op op_add (pe_op op_pow pe_int pe_int) pe_int) pa_nil))) pa_nil)))) (pe_own c_Ltake hr gd (by rfl) (pa_cons (pv 0) (pa_cons pe_int pa_nil))) (fun _ _ => rfl)))
  (pss_one (ps_expr (pe_bm PySem.F.plainAttrs_list PySem.F.slot_list_append PySem.F.type_list_append mt_append (pv 1) (pa_cons (pe_tup (pa_cons (pv 3) (pa_cons (pe_ix (r := rIxL K) ix_list (pe_lst (pa_cons (pv 3) (pa_cons (pe_op op_add (pv 3) (pe_own c_Ltake hr gd (by rfl) (pa_cons (pv 0) (pa_cons pe_int pa_nil)))) (pa_cons (pe_op op_pow pe_int pe_int) pa_nil)))) (pe_own c_Ltake hr gd (by rfl) (pa_cons (pv 0) (pa_cons pe_int pa_nil))) (fun _ _ => rfl)) pa_nil))) pa_nil))))))
  (pss_one (ps_ret (pv 1))))), ?_⟩
  walk_at "xs"
  intro F hF
  have rb := Rb.mk0 hB hF
  generalize upd H F _ = H1 at *
  walk_at "xs"
  refine x_take rb.bag (by decide) (by decide) ?_
  intro H2 m E2 B2 m0 m1
  have rb := rb.step E2 B2
  walk_at "xs"
  have big : (10 : Int) ^ (30 : Int).toNat + 100 < 2 ^ 150 := by decide
  have big2 : (2 : Nat) ^ 150 + 100 < 2 ^ 200 := by decide
  refine for_range (lo := 0) (n := (1 + m).toNat) (fun i σ' H' => ∃ y2 y3 acc ds, σ' = [some (.ref b), some (.ref F), y2, y3] ∧ Rb H b c F acc ds H' ∧ ds.length ≤ i) ?_ ?_ ?_
  · exact ⟨_, _, _, _, rfl, rb, Nat.le_refl _⟩
  · rintro i _ H3 hi ⟨y2, y3, acc, ds, rfl, rb, ll⟩
    walk_at "xs"
    refine x_take rb.bag (by decide) (by decide) ?_
    intro H4 v1 E4 B4 a1 c1
    have rb := rb.step E4 B4
    walk_at "xs"
    refine x_take rb.bag (by decide) (by decide) ?_
    intro H5 v2 E5 B5 a2 c2
    have rb := rb.step E5 B5
    walk_at "xs"
    intro p hp
    obtain ⟨rb, np, _, ep⟩ := rb.new (.lst [.int 0, .int v1, .int v2]) hp
    generalize upd H5 p _ = H6 at *
    walk_at "xs"
    refine x_take rb.bag (by decide) (by decide) ?_
    intro H7 v3 E7 B7 a3 c3
    have rb := rb.step E7 B7
    have ep := E7 _ _ np ep
    obtain ⟨x, ex, ax⟩ := ix_at ep a3 c3
    refine x_ixL (SqL.of ep) ax ?_
    obtain ⟨fl, rfl, hfl⟩ := in3 (y := .non) (k := 2 ^ 150) (List.mem_of_getElem? ex) (by decide) (by omega) (by omega)
    have fd := rb.fd
    walk_at "xs"
    refine x_take rb.bag (by decide) (by decide) ?_
    intro H8 v4 E8 B8 a4 c4
    have rb := rb.step E8 B8
    walk_at "xs"
    intro p2 hp2
    obtain ⟨rb, np2, _, ep2⟩ := rb.new (.lst [.int fl, .int (fl + v4), .int (10 ^ (30 : Int).toNat)]) hp2
    generalize upd H8 p2 _ = H9 at *
    walk_at "xs"
    refine x_take rb.bag (by decide) (by decide) ?_
    intro H10 v5 E10 B10 a5 c5
    have rb := rb.step E10 B10
    have ep2 := E10 _ _ np2 ep2
    obtain ⟨x, ex, ax⟩ := ix_at ep2 a5 c5
    refine x_ixL (SqL.of ep2) ax ?_
    obtain ⟨ce, rfl, hce⟩ := in3 (y := .non) (k := 2 ^ 150 + 100) (List.mem_of_getElem? ex) (by omega) (by omega) (by omega)
    walk_at "xs"
    intro p3 hp3
    obtain ⟨rb, np3, np3', ep3⟩ := rb.new (.tup [.int fl, .int ce]) hp3
    generalize upd H10 p3 _ = H11 at *
    have la := rb.rows.length
    walk_at "xs"
    refine x_app rb.fd (by rw [sizeLine_eq]; omega) ?_
    have rb := rb.app (v := .ref p3) (d := tupD [fl, ce]) (.tup ep3 np3' (DnAll.ints [fl, ce])) ⟨[fl, ce], rfl, Nat.le_of_ble_eq_true rfl, Nat.le_of_ble_eq_true rfl, by
      intro n hn
      simp only [List.mem_cons, List.not_mem_nil, or_false] at hn
      rcases hn with rfl | rfl <;> omega⟩
    walk_at "xs"
    exact ⟨_, _, _, _, rfl, rb, by simp; omega⟩
  · rintro _ H3 ⟨y2, y3, acc, ds, rfl, rb, ll⟩
    walk_at "xs"
    exact q _ _ _ rb.e rb.bag rb.dn rb.row (by omega)
theorem kn_some_bundles {k : Nat} (D : Df K mg "_law_some_bundles" s_Lsome_bundles) (B : Bl mg) (c_Ltake : Kn P w K mg base "_law_take" k spTake) : Kn P w K mg base "_law_some_bundles" (k + 1) spRows2 := by
  refine kn_of D (fun _ _ _ _ _ _ us hl => match us, hl with | [_, _], _ => rfl) sc_Lsome_bundles (fun vs H Q E h => by obtain ⟨b, c, n, rfl, _⟩ := h; rfl) (fun f cd B' fr z H vs Q E hr gd h => ?_)
  obtain ⟨b, c, n, rfl, hB, n0, n1, q⟩ := h
  refine ⟨_, (pss_cons (ps_set (i := 2) sc_Lsome_bundles.nd rfl (.inl rfl) (pe_lst pa_nil))
  (pss_cons (ps_for PassesOwn.never rfl (pi_range1 (by rfl) B.range (pa_cons (pv 1) pa_nil)) (pg_name (i := 3) sc_Lsome_bundles.nd rfl (.inl rfl))
  (pss_one (ps_for PassesOwn.never rfl (pi_range2 (by rfl) B.range (pa_cons (pe_op op_add (pv 3) pe_int) (pa_cons (pv 1) pa_nil))) (pg_name (i := 4) sc_Lsome_bundles.nd rfl (.inl rfl))
  (pss_one (ps_if (pt_cmpR op_gt (pe_own c_Ltake hr gd (by rfl) (pa_cons (pv 0) (pa_cons pe_int pa_nil))) pe_int (nomark _)) (pss_one (ps_expr (pe_bm PySem.F.plainAttrs_list PySem.F.slot_list_append PySem.F.type_list_append mt_append (pv 2) (pa_cons (pe_tup (pa_cons (pv 3) (pa_cons (pv 4) (pa_cons (pe_ix (r := rIxL K) ix_list (pe_lst (pa_cons pe_int (pa_cons (pe_op op_pow pe_int pe_int) (pa_cons (pe_op op_add pe_int (pe_own c_Ltake hr gd (by rfl) (pa_cons (pv 0) (pa_cons (pe_op op_pow pe_int pe_int) pa_nil)))) pa_nil)))) (pe_own c_Ltake hr gd (by rfl) (pa_cons (pv 0) (pa_cons pe_int pa_nil))) (fun _ _ => rfl)) pa_nil)))) pa_nil)))) pss_nil)))))
  (pss_one (ps_ret (pe_ifExp (pt_cmpR op_eq (pe_own c_Ltake hr gd (by rfl) (pa_cons (pv 0) (pa_cons pe_int pa_nil))) pe_int (nomark _)) (pe_revL (pv 2)) (pv 2)))))), ?_⟩
  walk_at "xs"
  intro F hF
  have rb := Rb.mk0 hB hF
  generalize upd H F _ = H1 at *
  walk_at "xs"
  have big : (10 : Int) ^ (18 : Int).toNat + 100 < 2 ^ 150 := by decide
  have big2 : (2 : Nat) ^ 150 + 100 < 2 ^ 200 := by decide
  refine for_range (lo := 0) (n := n.toNat) (fun i σ' H' => ∃ y3 y4 acc ds, σ' = [some (.ref b), some (.int n), some (.ref F), y3, y4] ∧ Rb H b c F acc ds H' ∧ ds.length ≤ 9 * i) ?_ ?_ ?_
  · exact ⟨_, _, _, _, rfl, rb, Nat.le_refl _⟩
  · rintro i _ H3 hi ⟨y3, y4, acc, ds, rfl, rb, ll⟩
    walk_at "xs"
    refine for_range (lo := 0 + (i : Int) + 1) (n := (n - (0 + (i : Int) + 1)).toNat) (fun j σ' H' => ∃ y4 acc ds, σ' = [some (.ref b), some (.int n), some (.ref F), some (.int (0 + (i : Int))), y4] ∧ Rb H b c F acc ds H' ∧ ds.length ≤ 9 * i + j) ?_ ?_ ?_
    · exact ⟨_, _, _, rfl, rb, ll⟩
    · rintro j _ H4 hj ⟨y4, acc, ds, rfl, rb, ll⟩
      walk_at "xs"
      refine x_take rb.bag (by decide) (by decide) ?_
      intro H5 v1 E5 B5 a1 c1
      have rb := rb.step E5 B5
      have fd := rb.fd
      walk_at "xs"
      refine x_ite (fun h => ?_) (fun h => ?_)
      · walk_at "xs"
        refine x_take rb.bag (by decide) (by decide) ?_
        intro H6 v2 E6 B6 a2 c2
        have rb := rb.step E6 B6
        walk_at "xs"
        intro p hp
        obtain ⟨rb, np, _, ep⟩ := rb.new (.lst [.int 1, .int (10 ^ (18 : Int).toNat), .int (1 + v2)]) hp
        generalize upd H6 p _ = H7 at *
        walk_at "xs"
        refine x_take rb.bag (by decide) (by decide) ?_
        intro H8 v3 E8 B8 a3 c3
        have rb := rb.step E8 B8
        have ep := E8 _ _ np ep
        obtain ⟨x, ex, ax⟩ := ix_at ep a3 c3
        refine x_ixL (SqL.of ep) ax ?_
        obtain ⟨ct, rfl, hct⟩ := in3 (y := .non) (k := 2 ^ 150 + 100) (List.mem_of_getElem? ex) (by decide) (by omega) (by omega)
        walk_at "xs"
        intro p3 hp3
        obtain ⟨rb, np3, np3', ep3⟩ := rb.new (.tup [.int (0 + (i : Int)), .int (0 + (i : Int) + 1 + (j : Int)), .int ct]) hp3
        generalize upd H8 p3 _ = H9 at *
        have la := rb.rows.length
        walk_at "xs"
        refine x_app rb.fd (by rw [sizeLine_eq]; omega) ?_
        have rb := rb.app (v := .ref p3) (d := tupD [0 + (i : Int), 0 + (i : Int) + 1 + (j : Int), ct]) (.tup ep3 np3' (DnAll.ints [0 + (i : Int), 0 + (i : Int) + 1 + (j : Int), ct])) ⟨[_, _, _], rfl, Nat.le_of_ble_eq_true rfl, Nat.le_of_ble_eq_true rfl, by
          intro n hn
          simp only [List.mem_cons, List.not_mem_nil, or_false] at hn
          rcases hn with rfl | rfl | rfl <;> omega⟩
        walk_at "xs"
        exact ⟨_, _, _, rfl, rb, by simp; omega⟩
      · walk_at "xs"
        exact ⟨_, _, _, rfl, rb, by omega⟩
    · rintro _ H4 ⟨y4, acc, ds, rfl, rb, ll⟩
      exact ⟨_, _, _, _, rfl, rb, by omega⟩
  · rintro _ H3 ⟨y3, y4, acc, ds, rfl, rb, ll⟩
    walk_at "xs"
    refine x_take rb.bag (by decide) (by decide) ?_
    intro H5 v1 E5 B5 a1 c1
    have rb := rb.step E5 B5
    have fd := rb.fd
    walk_at "xs"
    refine x_ite (fun h => ?_) (fun h => ?_)
    · walk_at "xs"
      refine x_revL (SqL.of fd) ?_
      intro p hp
      obtain ⟨rb, np, _, ep⟩ := rb.new (.lst acc.reverse) hp
      walk_at "xs"
      exact q _ _ ds.reverse rb.e rb.bag (.lst ep np (rb.rows.sub (by intro x h; simp at h ⊢; exact .inl h)).rev) (fun d hd => rb.row d (List.mem_reverse.mp hd)) (by rw [List.length_reverse]; omega)
    · walk_at "xs"
      exact q _ _ _ rb.e rb.bag rb.dn rb.row (by omega)
end
/-! ### one thing bent -/
structure Fin2 (d : PyData) : Prop where
  sz : Sz d 7900000 7
  few : fewD d
theorem Fine.fin2 {d : PyData} (h : Fine d) : Fin2 d := ⟨h.sz.mono (by decide) (by decide), h.few⟩
theorem row_sz {d : PyData} (h : RowD d) : Sz d 6100 4 := by
  obtain ⟨ns, rfl, h0, h1, h2⟩ := h
  have : Sz (tupD ns) (ns.length * (201 + 2) + 3) (0 + 1) := by
    have := sz_tuple (p := 201) (q := 0) (ds := ns.map PyData.int) (fun d hd => by obtain ⟨m, hm, rfl⟩ := List.mem_map.mp hd; exact sz_int (h2 m hm))
    rw [List.length_map] at this
    exact this
  exact this.mono (by omega) (by decide)
theorem small_list {ds : List PyData} (h : ∀ d ∈ ds, Sz d 6100 4) (n : ds.length ≤ 300) : Fin2 (.list ds) := ⟨(sz_list' h n).mono (by decide) (by decide), fun es e => by cases e; omega⟩
theorem small_tuple {ds : List PyData} (h : ∀ d ∈ ds, Sz d 6100 4) (n : ds.length ≤ 300) : Fin2 (.tuple ds) :=
  ⟨((sz_tuple h).mono (Nat.add_le_add_right (Nat.mul_le_mul_right _ n) 3) (Nat.le_refl _)).mono (by decide) (by decide), few_of nofun⟩
theorem big_list {ds : List PyData} (h : ∀ d ∈ ds, Sz d 42717 5) (n : ds.length ≤ 181) : Fin2 (.list ds) := ⟨(sz_list' h n).mono (by decide) (by decide), fun es e => by cases e; omega⟩
theorem item_tuple {ds : List PyData} (h : ∀ d ∈ ds, Sz d 6100 4) (n : ds.length ≤ 7) : Sz (.tuple ds) 42717 5 := (sz_tuple h).mono (Nat.le_trans (Nat.add_le_add_right (Nat.mul_le_mul_right _ n) 3) (by decide)) (by decide)
theorem item_list {ds : List PyData} (h : ∀ d ∈ ds, Sz d 6100 4) (n : ds.length ≤ 7) : Sz (.list ds) 42717 5 := (sz_list' h n).mono (by decide) (by decide)
theorem item_ints {ds : List PyData} (h : ∀ d ∈ ds, Sz d 201 0) (n : ds.length ≤ 9) : Sz (.tuple ds) 42717 5 := (sz_tuple h).mono (Nat.le_trans (Nat.add_le_add_right (Nat.mul_le_mul_right _ n) 3) (by decide)) (by decide)
theorem mem_app {α : Type} {p : α → Prop} {a b : List α} (ha : ∀ x ∈ a, p x) (hb : ∀ x ∈ b, p x) : ∀ x ∈ a ++ b, p x := fun x hx => (List.mem_append.mp hx).elim (ha x) (hb x)
theorem mem_one {α : Type} {p : α → Prop} {a : α} (ha : p a) : ∀ x ∈ [a], p x := fun x hx => by simp at hx; subst hx; exact ha
/-- what holds while things are made -/
structure Nb (H0 : Hp) (b c : Addr) (vs : List V) (ds : List PyData) (H : Hp) : Prop where
  e : Ext [b] H0 H
  bag : Bag H b c
  A : DnAll [b] H vs ds
section
variable {H0 H : Hp} {b c : Addr} {vs : List V} {ds : List PyData}
theorem Nb.step {H' : Hp} (n : Nb H0 b c vs ds H) (E : Ext [b] H H') (B : Bag H' b c) : Nb H0 b c vs ds H' := ⟨n.e.trans E, B, n.A.ext E⟩
theorem Nb.same {H' : Hp} (n : Nb H0 b c vs ds H) (S : Same H H') : Nb H0 b c vs ds H' := n.step (Ext.same S) (n.bag.ext S)
theorem Nb.push {v : V} {d : PyData} (n : Nb H0 b c vs ds H) (h : Dn [b] H v d) : Nb H0 b c (v :: vs) (d :: ds) H := ⟨n.e, n.bag, .cons h n.A⟩
theorem Nb.out {p : Addr} (n : Nb H0 b c vs ds H) (hp : H p = none) : p ∉ [b] := by
  obtain ⟨ob, hob⟩ := n.bag.at
  exact new_out (Same.refl H) hob hp
theorem DnAll.head {v : V} {d : PyData} (h : DnAll [b] H (v :: vs) (d :: ds)) : Dn [b] H v d := by cases h with | cons a _ => exact a
theorem DnAll.tail {v : V} {d : PyData} (h : DnAll [b] H (v :: vs) (d :: ds)) : DnAll [b] H vs ds := by cases h with | cons _ a => exact a
end
section
variable {K : PySem.W.Frag} {H H0 : Hp} {Q : VK} {b c : Addr} {vs : List V} {ds : List PyData}
theorem x_slTn {v : V} {d : List PyData} {lo hi : Option Int} (n : Nb H0 b c vs ds H) (hd : Dn [b] H v (.tuple d))
    (h : ∀ p H' e, Nb H0 b c (.ref p :: vs) (.tuple e :: ds) H' → Same H H' → (∀ z ∈ e, z ∈ d) → e.length ≤ d.length → Q (.ref p) H') : rSlA K v lo hi H Q := by
  obtain ⟨ob, hob⟩ := n.bag.at
  cases hd with
  | tup ha na hx =>
    refine x_slD hob ha na fun p H' S e np => ?_
    obtain ⟨e', A, m, l⟩ := cut_dn lo hi hx
    exact h p H' e' ((n.same S).push (.tup e np (A.ext (Ext.same S)))) S m l
theorem x_catTn {v u : V} {d e : List PyData} (n : Nb H0 b c vs ds H) (hd : Dn [b] H v (.tuple d)) (he : Dn [b] H u (.tuple e)) (z : d.length + e.length ≤ 100000)
    (h : ∀ p H', Nb H0 b c (.ref p :: vs) (.tuple (d ++ e) :: ds) H' → Same H H' → Q (.ref p) H') : rCatA K v u H Q := by
  obtain ⟨ob, hob⟩ := n.bag.at
  cases hd with
  | tup ha na hx =>
    cases he with
    | tup hb nb hy =>
      refine x_catD hob ha na hb nb (by rw [hx.length, hy.length]; exact z) fun p H' S e np => ?_
      exact h p H' ((n.same S).push (.tup e np ((hx.app hy).ext (Ext.same S)))) S
theorem x_slLn {v : V} {d : List PyData} {lo hi : Option Int} (n : Nb H0 b c vs ds H) (hd : Dn [b] H v (.list d))
    (h : ∀ p H' e, Nb H0 b c (.ref p :: vs) (.list e :: ds) H' → Same H H' → (∀ z ∈ e, z ∈ d) → e.length ≤ d.length → Q (.ref p) H') : rSlL K v lo hi H Q := by
  cases hd with
  | @lst a xs _ ha na hx =>
    refine x_slL (SqL.of ha) fun p hp => ?_
    obtain ⟨e', A, m, l⟩ := cut_dn lo hi hx
    have S := same_upd hp (o := .lst (cutV xs lo hi))
    exact h p _ e' ((n.same S).push (.lst upd_same (n.out hp) (A.ext (Ext.same S)))) S m l
theorem x_catLn {v u : V} {d e : List PyData} (n : Nb H0 b c vs ds H) (hd : Dn [b] H v (.list d)) (he : Dn [b] H u (.list e)) (z : d.length + e.length ≤ 100000)
    (h : ∀ p H', Nb H0 b c (.ref p :: vs) (.list (d ++ e) :: ds) H' → Same H H' → Q (.ref p) H') : rCat v u H Q := by
  cases hd with
  | @lst a xs _ ha na hx =>
    cases he with
    | @lst a2 ys _ hb nb hy =>
      refine x_cat ha hb (by rw [hx.length, hy.length]; exact Nat.le_trans z (by decide)) fun p hp => ?_
      have S := same_upd hp (o := .lst (xs ++ ys))
      exact h p _ ((n.same S).push (.lst upd_same (n.out hp) ((hx.app hy).ext (Ext.same S)))) S
theorem x_newL {us : List V} {es : List PyData} {p : Addr} (n : Nb H0 b c vs ds H) (hp : H p = none) (h : DnAll [b] H us es) : Nb H0 b c (.ref p :: vs) (.list es :: ds) (upd H p (.lst us)) ∧ Same H (upd H p (.lst us)) := by
  have S := same_upd hp (o := .lst us)
  exact ⟨(n.same S).push (.lst upd_same (n.out hp) (h.ext (Ext.same S))), S⟩
theorem x_newT {us : List V} {es : List PyData} {p : Addr} (n : Nb H0 b c vs ds H) (hp : H p = none) (h : DnAll [b] H us es) : Nb H0 b c (.ref p :: vs) (.tuple es :: ds) (upd H p (.tup us)) ∧ Same H (upd H p (.tup us)) := by
  have S := same_upd hp (o := .tup us)
  exact ⟨(n.same S).push (.tup upd_same (n.out hp) (h.ext (Ext.same S))), S⟩
end
theorem atI_last {xs : List V} (h : xs ≠ []) : ∃ x, x ∈ xs ∧ atI xs (-1) = some x := by
  have hl : 0 < xs.length := List.length_pos_iff.mpr h
  have e : ixN xs.length (-1) = some (xs.length - 1) := by
    unfold ixN
    rw [if_neg (by decide), if_pos (by omega)]
    congr 1
    omega
  refine ⟨xs[xs.length - 1], List.getElem_mem (by omega), ?_⟩
  unfold atI
  rw [e]
  simp
def spBent : Sp := fun vs H Q _ => ∃ b c v ds, vs = [.ref b, v] ∧ Bag H b c ∧ Dn [b] H v (.list ds) ∧ (∀ d ∈ ds, RowD d) ∧ ds.length ≤ 90 ∧ ∀ H' u d, Ext [b] H H' → Bag H' b c → Dn [b] H' u d → Fin2 d → Q u H'
theorem x_bent {H : Hp} {Q : VK} {E : XK} {b c : Addr} {v : V} {ds : List PyData} (hb : Bag H b c) (hd : Dn [b] H v (.list ds)) (hr : ∀ d ∈ ds, RowD d) (hl : ds.length ≤ 90)
    (h : ∀ H' u d, Ext [b] H H' → Bag H' b c → Dn [b] H' u d → Fin2 d → Q u H') : spBent [.ref b, v] H Q E := ⟨b, c, v, ds, rfl, hb, hd, hr, hl, h⟩
section
variable {P : Program} {w : World} {K : PySem.W.Frag} {mg : Str → Option Value} {base : Heap} {t0 t1 t2 t3 t4 : Tok}
theorem kn_bent {k : Nat} (D : Df K mg "_law_bent" s_Lbent) (B : Bl mg) (c_Ltake : Kn P w K mg base "_law_take" k spTake) (c_Lodd : Kn P w K mg base "_law_odd" k spOdd) : Kn P w K mg base "_law_bent" (k + 1) spBent := by
  refine kn_of D (fun _ _ _ _ _ _ us hl => match us, hl with | [_, _], _ => rfl) sc_Lbent (fun vs H Q E h => by obtain ⟨b, c, v, ds, rfl, _⟩ := h; rfl) (fun f cd B' fr z H vs Q E hr gd h => ?_)
  obtain ⟨b, c, v, ds, rfl, hB, hd, hrow, hlen, q⟩ := h
  refine ⟨_, (pss_cons (ps_par (i := 2) (j := 3) (by rfl) sc_Lbent.nd rfl rfl (by decide) rfl rfl (pa_cons (pe_own c_Ltake hr gd (by rfl) (pa_cons (pv 0) (pa_cons (pe_op op_add (pe_callB call_len_seq (by rfl) B.len (by decide +kernel) (pa_cons (pv 1) pa_nil)) pe_int) pa_nil))) (pa_cons (pe_own c_Ltake hr gd (by rfl) (pa_cons (pv 0) (pa_cons pe_int pa_nil))) pa_nil)) (by rfl))
  (pss_cons (ps_if (PW.pt (pw_or (pt_cmpR op_eq (pv 3) pe_int (nomark _)) (pw_or1 (pt_cmpR op_eq (pv 2) (pe_callB call_len_seq (by rfl) B.len (by decide +kernel) (pa_cons (pv 1) pa_nil)) (nomark _))))) (pss_cons (ps_set (i := 4) sc_Lbent.nd rfl (.inl rfl) (pe_lst (pa_cons (pe_callTy call_tuple_of (by rfl) B.«tuple» (by decide +kernel) (pa_cons (pv 1) pa_nil)) (pa_cons (pe_op op_cat (pv 1) (pe_lst (pa_cons (pe_own c_Lodd hr gd (by rfl) (pa_cons (pv 0) pa_nil)) pa_nil))) (pa_cons (pe_op op_cat (pe_op op_cat (pe_slice (r := rSlL K) sl_list (pv 1) po_none (po_some (pv 2))) (pe_slice (r := rSlL K) sl_list (pv 1) po_none (po_some pe_int))) (pe_slice (r := rSlL K) sl_list (pv 1) (po_some (pv 2)) po_none)) (pa_cons (pe_own c_Lodd hr gd (by rfl) (pa_cons (pv 0) pa_nil)) pa_nil))))))
  (pss_one (ps_ret (pe_ix (r := rIxL K) ix_list (pv 4) (pe_own c_Ltake hr gd (by rfl) (pa_cons (pv 0) (pa_cons pe_int pa_nil))) (fun _ _ => rfl))))) pss_nil)
  (pss_cons (ps_set (i := 5) sc_Lbent.nd rfl (.inl rfl) (pe_ix (r := rIxL K) ix_list (pv 1) (pv 2) (fun _ _ => rfl)))
  (pss_cons (ps_if (PW.pt (pw_or (pt_not (pt_val (pe_callB call_isD (by rfl) B.isinstance (by decide +kernel) (pa_cons (pv 5) (pa_cons (pe_bltn (v := .ty "tuple") (u := .type "tuple") (by rfl) B.«tuple» (by decide +kernel) rfl) pa_nil))))) (pw_or1 (pt_cmpR (op_eqD hr.units) (pv 5) (pe_tup pa_nil) (nomark _))))) (pss_one (ps_ret (pv 1))) pss_nil)
  (pss_cons (ps_set (i := 6) sc_Lbent.nd rfl (.inl rfl) (pe_own c_Ltake hr gd (by rfl) (pa_cons (pv 0) (pa_cons (pe_callB call_len_seq (by rfl) B.len (by decide +kernel) (pa_cons (pv 5) pa_nil)) pa_nil))))
  (pss_cons (ps_set (i := 7) sc_Lbent.nd rfl (.inl rfl) (pe_ix (r := rIxL K) ix_list (pe_lst (pa_cons (pe_own c_Lodd hr gd (by rfl) (pa_cons (pv 0) pa_nil)) (pa_cons (pe_op op_add (pe_op op_pow pe_int pe_int) pe_int) (pa_cons (pe_op op_add (pe_op op_pow pe_int pe_int) pe_int) (pa_cons (pe_un un_neg pe_int) (pa_cons (pe_ix (r := rIxT K) ix_tup (pv 5) pe_int (fun _ _ => rfl)) (pa_cons (pe_ix (r := rIxT K) ix_tup (pv 5) (pe_un un_neg pe_int) (fun _ _ => rfl)) (pa_cons pe_int (pa_cons pe_bl pa_nil))))))))) (pe_own c_Ltake hr gd (by rfl) (pa_cons (pv 0) (pa_cons pe_int pa_nil))) (fun _ _ => rfl)))
  (pss_cons (ps_set (i := 4) sc_Lbent.nd rfl (.inl rfl) (pe_lst (pa_cons (pe_op op_catA (pe_op op_catA (pe_slice (r := rSlA K) sl_tupA (pv 5) po_none (po_some (pv 6))) (pe_tup (pa_cons (pv 7) pa_nil))) (pe_slice (r := rSlA K) sl_tupA (pv 5) (po_some (pe_op op_add (pv 6) pe_int)) po_none)) (pa_cons (pe_op op_catA (pe_slice (r := rSlA K) sl_tupA (pv 5) po_none (po_some (pv 6))) (pe_slice (r := rSlA K) sl_tupA (pv 5) (po_some (pe_op op_add (pv 6) pe_int)) po_none)) (pa_cons (pe_op op_catA (pv 5) (pe_tup (pa_cons pe_int pa_nil))) (pa_cons (pe_callTy call_list_of (by rfl) B.«list» (by decide +kernel) (pa_cons (pv 5) pa_nil)) pa_nil))))))
  (pss_cons (ps_set (i := 4) sc_Lbent.nd rfl (.inl rfl) (pe_op op_cat (pv 4) (pe_lst (pa_cons (pe_revT (pv 5)) (pa_cons (pe_op op_catA (pe_op op_catA (pe_slice (r := rSlA K) sl_tupA (pv 5) (po_some pe_int) (po_some pe_int)) (pe_slice (r := rSlA K) sl_tupA (pv 5) po_none (po_some pe_int))) (pe_slice (r := rSlA K) sl_tupA (pv 5) (po_some pe_int) po_none)) pa_nil)))))
  (pss_one (ps_ret (pe_op op_cat (pe_op op_cat (pe_slice (r := rSlL K) sl_list (pv 1) po_none (po_some (pv 2))) (pe_lst (pa_cons (pe_ix (r := rIxL K) ix_list (pv 4) (pe_own c_Ltake hr gd (by rfl) (pa_cons (pv 0) (pa_cons pe_int pa_nil))) (fun _ _ => rfl)) pa_nil))) (pe_slice (r := rSlL K) sl_list (pv 1) (po_some (pe_op op_add (pv 2) pe_int)) po_none)))))))))))), ?_⟩
  have n0 : Nb H b c [v] [.list ds] H := ⟨Ext.refl _ _, hB, .cons hd .nil⟩
  cases hd with
  | @lst F xs ds fd ne hxs =>
  have lx := hxs.length
  walk_at "xs"
  refine x_take hB (by omega) (by omega) ?_
  intro H1 at_ E1 B1 a1 c1
  have n1 := n0.step E1 B1
  walk_at "xs"
  refine x_take n1.bag (by decide) (by decide) ?_
  intro H2 way E2 B2 a2 c2
  have n2 := n1.step E2 B2
  have fd2 := E2 _ _ ne (E1 _ _ ne fd)
  have hxs2 := (hxs.ext E1).ext E2
  have hsz : ∀ d ∈ ds, Sz d 6100 4 := fun d h => row_sz (hrow d h)
  walk_at "xs"
  refine x_ite (fun h => ?_) (fun h => ?_)
  rotate_left
  walk_at "xs"
  refine x_ite (fun h => ?_) (fun h => ?_)
  rotate_left
  · -- a row is changed
    have hat : at_ < xs.length := by omega
    obtain ⟨x, ex, ax⟩ := ix_at fd2 a1 hat
    walk_at "xs"
    refine x_ixL (SqL.of fd2) ax ?_
    obtain ⟨d, hd, dx⟩ := hxs2.get ex
    obtain ⟨ns, rfl, l0, l3, hns⟩ := hrow d (List.mem_of_getElem? hd)
    have hnsz : ∀ d ∈ ns.map PyData.int, Sz d 6100 4 := fun d hd => by obtain ⟨m, hm, rfl⟩ := List.mem_map.mp hd; exact sz_big (hns m hm)
    have hnss : ∀ d ∈ ns.map PyData.int, Sz d 201 0 := fun d hd => by obtain ⟨m, hm, rfl⟩ := List.mem_map.mp hd; exact sz_int (hns m hm)
    have lns : (ns.map PyData.int).length ≤ 3 := by rw [List.length_map]; exact l3
    have n2 := n2.push dx
    walk_at "xs"
    refine x_iteNB (fun h => ?_) (fun _ => ?_)
    · rw [isT_tuple] at h; cases h
    walk_at "xs"
    intro p hp
    obtain ⟨n3, S3⟩ := x_newT n2 hp .nil
    have fd3 := S3 _ _ fd2
    have dx3 := dx.ext (Ext.same S3)
    generalize upd H2 p _ = H3 at *
    have lay := ints_facts ns
    have sh : SeqAt.shaped (tupD ns) = true := by simp [SeqAt.shaped, tupD, PyData.canLay0, lay.1, PyData.depth, lay.2.1]
    refine ⟨tupD ns, .tuple [], dx3.dp (PyData.hasDict_of_canLay _ (SeqAt.canLay_of_shaped sh)), (DnAll.head n3.A).dp rfl, sh, rfl, ?_⟩
    rw [show PyData.eqv (tupD ns) (.tuple []) = false by
      cases ns with
      | nil => simp at l0
      | cons _ _ => rfl]
    walk_at "xs"
    obtain ⟨r, rfl⟩ : ∃ r, x = .ref r := by cases dx3; exact ⟨_, rfl⟩
    obtain ⟨er, nr⟩ : H3 r = some (.tup (ns.map V.int)) ∧ r ∉ [b] := by
      cases dx3 with
      | tup e1 e2 e3 => obtain rfl := DnAll.toInts e3; exact ⟨e1, e2⟩
    walk_at "xs"
    refine x_take n3.bag (by rw [List.length_map]; omega) (by rw [List.length_map]; omega) ?_
    intro H4 spot E4 B4 a4 c4
    have n4 := n3.step E4 B4
    have er := E4 _ _ nr er
    have fd4 := E4 _ _ ne fd3
    walk_at "xs"
    refine x_odd n4.bag ?_
    intro H5 vo dO E5 B5 dvo mo
    have n5 := n4.step E5 B5
    have er := E5 _ _ nr er
    have fd5 := E5 _ _ ne fd4
    walk_at "xs"
    obtain ⟨m0, r0⟩ : ∃ m0 rest, ns = m0 :: rest := by
      cases ns with
      | nil => simp at l0
      | cons a r => exact ⟨a, r, rfl⟩
    obtain ⟨rest, r0⟩ := r0
    refine x_ixT (SqT.of er) (v := .int m0) (atI_nat (j := 0) (by rw [r0]; rfl)) ?_
    walk_at "xs"
    obtain ⟨xl, ml, al⟩ := atI_last (xs := ns.map V.int) (by rw [r0]; simp)
    obtain ⟨mz, hml, rfl⟩ := List.mem_map.mp ml
    refine x_ixT (SqT.of er) al ?_
    walk_at "xs"
    intro p hp
    have A8 : DnAll [b] H5 [vo, .int (10 ^ (30 : Int).toNat + 1), .int (10 ^ (18 : Int).toNat + 1), .int (-1), .int m0, .int mz, .int 10, .bl true]
        [dO, .int (10 ^ (30 : Int).toNat + 1), .int (10 ^ (18 : Int).toNat + 1), .int (-1), .int m0, .int mz, .int 10, .bool true] :=
      .cons dvo (.cons (.int _) (.cons (.int _) (.cons (.int _) (.cons (.int _) (.cons (.int _) (.cons (.int _) (.cons (.bl _) .nil)))))))
    have sz8 : ∀ d ∈ [dO, .int (10 ^ (30 : Int).toNat + 1), .int (10 ^ (18 : Int).toNat + 1), .int (-1), .int m0, .int mz, .int 10, .bool true], Sz d 6100 4 := by
      intro d hd
      simp only [List.mem_cons, List.not_mem_nil, or_false] at hd
      rcases hd with rfl | rfl | rfl | rfl | rfl | rfl | rfl | rfl
      · exact (odds_sz _ mo).1
      · exact sz_big (by decide)
      · exact sz_big (by decide)
      · exact sz_big (by decide)
      · exact sz_big (hns _ (by rw [r0]; simp))
      · exact sz_big (hns _ hml)
      · exact sz_big (by decide)
      · exact (sz_bool _).mono (by decide) (by decide)
    obtain ⟨n6, S6⟩ := x_newL n5 hp A8
    have np := n5.out hp
    have ep := upd_same (H := H5) (a := p) (o := .lst [vo, .int (10 ^ (30 : Int).toNat + 1), .int (10 ^ (18 : Int).toNat + 1), .int (-1), .int m0, .int mz, .int 10, .bl true])
    have er := S6 _ _ er
    have fd6 := S6 _ _ fd5
    have A8 := A8.ext (Ext.same S6)
    generalize upd H5 p _ = H6 at *
    walk_at "xs"
    refine x_take n6.bag (by decide) (by decide) ?_
    intro H7 i8 E7 B7 a7 c7
    have n7 := n6.step E7 B7
    have er := E7 _ _ nr er
    have fd7 := E7 _ _ ne fd6
    have ep := E7 _ _ np ep
    have A8 := A8.ext E7
    obtain ⟨nv, env, anv⟩ := ix_at ep a7 c7
    refine x_ixL (SqL.of ep) anv ?_
    obtain ⟨dn, hdn, dnv⟩ := A8.get env
    have szn := sz8 _ (List.mem_of_getElem? hdn)
    have n7 := n7.push dnv
    have drow : Dn [b] H7 (.ref r) (.tuple (ns.map PyData.int)) := .tup er nr (DnAll.ints ns)
    walk_at "xs"
    refine x_slTn n7 drow ?_
    intro p1 H8 e1 n8 S8 m1 l1
    have drow := drow.ext (Ext.same S8)
    have dnv := dnv.ext (Ext.same S8)
    walk_at "xs"
    intro p2 hp2
    obtain ⟨n9, S9⟩ := x_newT n8 hp2 (.cons dnv .nil)
    have drow := drow.ext (Ext.same S9)
    generalize upd H8 p2 _ = H9 at *
    refine x_catTn n9 (DnAll.head (DnAll.tail n9.A)) (DnAll.head n9.A) (by simp only [List.length_cons, List.length_nil]; omega) ?_
    intro p3 H10 n10 S10
    have drow := drow.ext (Ext.same S10)
    walk_at "xs"
    refine x_slTn n10 drow ?_
    intro p4 H11 e4 n11 S11 m4 l4
    have drow := drow.ext (Ext.same S11)
    walk_at "xs"
    refine x_catTn n11 (DnAll.head (DnAll.tail n11.A)) (DnAll.head n11.A) (by simp only [List.length_append, List.length_cons, List.length_nil]; omega) ?_
    intro p5 H12 n12 S12
    have drow := drow.ext (Ext.same S12)
    have k1 : Sz (.tuple (e1 ++ [dn] ++ e4)) 42717 5 := item_tuple (mem_app (mem_app (fun z hz => hnsz z (m1 z hz)) (mem_one szn)) (fun z hz => hnsz z (m4 z hz))) (by simp only [List.length_append, List.length_cons, List.length_nil]; omega)
    have F1 := DnAll.cons (DnAll.head n12.A) .nil
    walk_at "xs"
    refine x_slTn n12 drow ?_
    intro p6 H13 e6 n13 S13 m6 l6
    have drow := drow.ext (Ext.same S13)
    walk_at "xs"
    refine x_slTn n13 drow ?_
    intro p7 H14 e7 n14 S14 m7 l7
    have drow := drow.ext (Ext.same S14)
    walk_at "xs"
    refine x_catTn n14 (DnAll.head (DnAll.tail n14.A)) (DnAll.head n14.A) (by omega) ?_
    intro p8 H15 n15 S15
    have drow := drow.ext (Ext.same S15)
    have k2 : Sz (.tuple (e6 ++ e7)) 42717 5 := item_tuple (mem_app (fun z hz => hnsz z (m6 z hz)) (fun z hz => hnsz z (m7 z hz))) (by simp only [List.length_append]; omega)
    have F2 := ((F1.ext (Ext.same (S13.trans (S14.trans S15)))).app (DnAll.cons (DnAll.head n15.A) .nil))
    walk_at "xs"
    intro p9 hp9
    obtain ⟨n16, S16⟩ := x_newT n15 hp9 (.cons (.int 0) .nil)
    have drow := drow.ext (Ext.same S16)
    generalize upd H15 p9 _ = H16 at *
    refine x_catTn n16 drow (DnAll.head n16.A) (by simp only [List.length_cons, List.length_nil]; omega) ?_
    intro p10 H17 n17 S17
    have drow := drow.ext (Ext.same S17)
    have er : H17 r = some (.tup (ns.map V.int)) := by cases drow with | tup e1 e2 e3 => obtain rfl := DnAll.toInts e3; exact e1
    have k3 : Sz (.tuple (ns.map PyData.int ++ [.int 0])) 42717 5 := item_tuple (mem_app hnsz (mem_one (sz_big (by decide)))) (by simp only [List.length_append, List.length_cons, List.length_nil]; omega)
    have F3 := ((F2.ext (Ext.same (S16.trans S17))).app (DnAll.cons (DnAll.head n17.A) .nil))
    walk_at "xs"
    intro p11 hp11
    obtain ⟨n18, S18⟩ := x_newL n17 hp11 (DnAll.ints ns)
    have drow := drow.ext (Ext.same S18)
    have k4 : Sz (.list (ns.map PyData.int)) 42717 5 := item_list hnsz (by omega)
    have F4 := ((F3.ext (Ext.same S18)).app (DnAll.cons (DnAll.head n18.A) .nil))
    generalize upd H17 p11 _ = H18 at *
    walk_at "xs"
    intro p12 hp12
    obtain ⟨n19, S19⟩ := x_newL (us := [.ref p5, .ref p8, .ref p10, .ref p11]) n18 hp12 F4
    have drow := drow.ext (Ext.same S19)
    have dsome := DnAll.head n19.A
    generalize upd H18 p12 _ = H19 at *
    have er : H19 r = some (.tup (ns.map V.int)) := by cases drow with | tup e1 e2 e3 => obtain rfl := DnAll.toInts e3; exact e1
    walk_at "xs"
    refine ⟨r, ns.map V.int, rfl, SqT.of er, ?_⟩
    intro p13 hp13
    obtain ⟨n20, S20⟩ := x_newT n19 hp13 (DnAll.ints ns).rev
    have drow := drow.ext (Ext.same S20)
    have dsome := dsome.ext (Ext.same S20)
    have k5 : Sz (.tuple (ns.map PyData.int).reverse) 42717 5 := item_tuple (fun z hz => hnsz z (List.mem_reverse.mp hz)) (by rw [List.length_reverse]; omega)
    have G1 := DnAll.cons (DnAll.head n20.A) .nil
    generalize upd H19 p13 _ = H20 at *
    walk_at "xs"
    refine x_slTn n20 drow ?_
    intro p14 H21 e14 n21 S21 m14 l14
    have drow := drow.ext (Ext.same S21)
    walk_at "xs"
    refine x_slTn n21 drow ?_
    intro p15 H22 e15 n22 S22 m15 l15
    have drow := drow.ext (Ext.same S22)
    walk_at "xs"
    refine x_catTn n22 (DnAll.head (DnAll.tail n22.A)) (DnAll.head n22.A) (by omega) ?_
    intro p16 H23 n23 S23
    have drow := drow.ext (Ext.same S23)
    walk_at "xs"
    refine x_slTn n23 drow ?_
    intro p17 H24 e17 n24 S24 m17 l17
    have drow := drow.ext (Ext.same S24)
    walk_at "xs"
    refine x_catTn n24 (DnAll.head (DnAll.tail n24.A)) (DnAll.head n24.A) (by rw [List.length_append]; omega) ?_
    intro p18 H25 n25 S25
    have S2125 := S21.trans (S22.trans (S23.trans (S24.trans S25)))
    have dsome := dsome.ext (Ext.same S2125)
    have k6 : Sz (.tuple (e14 ++ e15 ++ e17)) 42717 5 := item_ints (mem_app (mem_app (fun z hz => hnss z (m14 z hz)) (fun z hz => hnss z (m15 z hz))) (fun z hz => hnss z (m17 z hz))) (by simp only [List.length_append]; omega)
    have G2 := (G1.ext (Ext.same S2125)).app (DnAll.cons (DnAll.head n25.A) .nil)
    walk_at "xs"
    intro p19 hp19
    obtain ⟨n26, S26⟩ := x_newL (us := [.ref p13, .ref p18]) n25 hp19 G2
    have dsome := dsome.ext (Ext.same S26)
    generalize upd H25 p19 _ = H26 at *
    refine x_catLn n26 dsome (DnAll.head n26.A) (Nat.le_of_ble_eq_true rfl) ?_
    intro p20 H27 n27 S27
    have dsix := DnAll.head n27.A
    have S7 : Ext [b] H7 H27 := Ext.same (S8.trans (S9.trans (S10.trans (S11.trans (S12.trans (S13.trans (S14.trans (S15.trans (S16.trans (S17.trans (S18.trans (S19.trans (S20.trans (S2125.trans (S26.trans S27)))))))))))))))
    have drows : Dn [b] H27 (.ref F) (.list ds) := .lst (S7 _ _ ne fd7) ne (by
      have X2 : Ext [b] H2 H3 := Ext.same S3
      exact ((((((hxs2.ext X2).ext E4).ext E5).ext (Ext.same S6)).ext E7).ext S7))
    walk_at "xs"
    refine x_slLn n27 drows ?_
    intro p21 H28 e21 n28 S28 m21 l21
    have drows := drows.ext (Ext.same S28)
    have dsix := dsix.ext (Ext.same S28)
    walk_at "xs"
    refine x_take n28.bag (by decide) (by decide) ?_
    intro H29 i6 E29 B29 a29 c29
    have n29 := n28.step E29 B29
    have drows := drows.ext E29
    have dsix := dsix.ext E29
    cases dsix with
    | lst e6' n6' A6 =>
    obtain ⟨y, ey, ay⟩ := ix_at e6' a29 (by rw [A6.length]; exact c29)
    refine x_ixL (SqL.of e6') ay ?_
    obtain ⟨dy, hdy, dny⟩ := A6.get ey
    have szy : Sz dy 42717 5 := by
      have hm := List.mem_of_getElem? hdy
      simp only [List.cons_append, List.nil_append, List.mem_cons, List.not_mem_nil, or_false] at hm
      rcases hm with rfl | rfl | rfl | rfl | rfl | rfl <;> assumption
    walk_at "xs"
    intro p22 hp22
    obtain ⟨n30, S30⟩ := x_newL n29 hp22 (.cons dny .nil)
    have drows := drows.ext (Ext.same S30)
    generalize upd H29 p22 _ = H30 at *
    refine x_catLn n30 (DnAll.head (DnAll.tail n30.A)) (DnAll.head n30.A) (by simp only [List.length_cons, List.length_nil]; omega) ?_
    intro p23 H31 n31 S31
    have drows := drows.ext (Ext.same S31)
    walk_at "xs"
    refine x_slLn n31 drows ?_
    intro p24 H32 e24 n32 S32 m24 l24
    walk_at "xs"
    refine x_catLn n32 (DnAll.head (DnAll.tail n32.A)) (DnAll.head n32.A) (by simp only [List.length_append, List.length_cons, List.length_nil]; omega) ?_
    intro p25 H33 n33 S33
    walk_at "xs"
    have bigr : ∀ d ∈ ds, Sz d 42717 5 := fun d h => (hsz d h).mono (by decide) (by decide)
    exact q _ _ _ n33.e n33.bag (DnAll.head n33.A) (big_list (mem_app (mem_app (fun z hz => bigr z (m21 z hz)) (mem_one szy)) (fun z hz => bigr z (m24 z hz))) (by simp only [List.length_append, List.length_cons, List.length_nil]; omega))
  all_goals
    walk_at "xs"
    intro p1 hp1
    obtain ⟨n3, S3⟩ := x_newT n2 hp1 hxs2
    have F1 := DnAll.cons (DnAll.head n3.A) .nil
    have drows : Dn [b] H2 (.ref F) (.list ds) := .lst fd2 ne hxs2
    have drows := drows.ext (Ext.same S3)
    generalize upd H2 p1 _ = H3 at *
    walk_at "xs"
    refine x_odd n3.bag ?_
    intro H4 vo dO E4 B4 dvo mo
    have n4 := n3.step E4 B4
    have drows := drows.ext E4
    have F1 := F1.ext E4
    walk_at "xs"
    intro p2 hp2
    obtain ⟨n5, S5⟩ := x_newL n4 hp2 (.cons dvo .nil)
    have drows := drows.ext (Ext.same S5)
    generalize upd H4 p2 _ = H5 at *
    refine x_catLn n5 drows (DnAll.head n5.A) (by simp only [List.length_cons, List.length_nil]; omega) ?_
    intro p3 H6 n6 S6
    have drows := drows.ext (Ext.same S6)
    have F2 := (F1.ext (Ext.same (S5.trans S6))).app (DnAll.cons (DnAll.head n6.A) .nil)
    walk_at "xs"
    refine x_slLn n6 drows ?_
    intro p4 H7 e4 n7 S7 m4 l4
    have drows := drows.ext (Ext.same S7)
    walk_at "xs"
    refine x_slLn n7 drows ?_
    intro p5 H8 e5 n8 S8 m5 l5
    have drows := drows.ext (Ext.same S8)
    walk_at "xs"
    refine x_catLn n8 (DnAll.head (DnAll.tail n8.A)) (DnAll.head n8.A) (by omega) ?_
    intro p6 H9 n9 S9
    have drows := drows.ext (Ext.same S9)
    walk_at "xs"
    refine x_slLn n9 drows ?_
    intro p7 H10 e7 n10 S10 m7 l7
    walk_at "xs"
    refine x_catLn n10 (DnAll.head (DnAll.tail n10.A)) (DnAll.head n10.A) (by rw [List.length_append]; omega) ?_
    intro p8 H11 n11 S11
    have F3 := (F2.ext (Ext.same (S7.trans (S8.trans (S9.trans (S10.trans S11)))))).app (DnAll.cons (DnAll.head n11.A) .nil)
    walk_at "xs"
    refine x_odd n11.bag ?_
    intro H12 vo2 dO2 E12 B12 dvo2 mo2
    have n12 := n11.step E12 B12
    have F4 := (F3.ext E12).app (DnAll.cons dvo2 .nil)
    walk_at "xs"
    intro p9 hp9
    obtain ⟨n13, S13⟩ := x_newL (us := [.ref p1, .ref p3, .ref p8, vo2]) n12 hp9 F4
    have dsome := DnAll.head n13.A
    generalize upd H12 p9 _ = H13 at *
    walk_at "xs"
    refine x_take n13.bag (by decide) (by decide) ?_
    intro H14 i4 E14 B14 a14 c14
    have n14 := n13.step E14 B14
    have dsome := dsome.ext E14
    cases dsome with
    | lst e6' n6' A6 =>
    obtain ⟨y, ey, ay⟩ := ix_at e6' a14 (by rw [A6.length]; exact c14)
    refine x_ixL (SqL.of e6') ay ?_
    obtain ⟨dy, hdy, dny⟩ := A6.get ey
    have szy : Fin2 dy := by
      have hm := List.mem_of_getElem? hdy
      simp only [List.cons_append, List.nil_append, List.mem_cons, List.not_mem_nil, or_false] at hm
      rcases hm with rfl | rfl | rfl | rfl
      · exact small_tuple hsz (by omega)
      · exact small_list (mem_app hsz (mem_one (odds_sz _ mo).1)) (by simp only [List.length_append, List.length_cons, List.length_nil]; omega)
      · exact small_list (mem_app (mem_app (fun z hz => hsz z (m4 z hz)) (fun z hz => hsz z (m5 z hz))) (fun z hz => hsz z (m7 z hz))) (by simp only [List.length_append]; omega)
      · exact (odd_fine mo2).fin2
    walk_at "xs"
    exact q _ _ _ n14.e n14.bag dny szy
end
def spLaw (K : PySem.W.Frag) : Sp := fun vs H Q _ => ∃ (a : Addr) (ns : List Int), vs = [.ref a] ∧ SqL K H a (ns.map V.int) ∧ ∀ H', Q (.bl true) H'
theorem x_bag {K : PySem.W.Frag} {H : Hp} {Q : VK} {E : XK} {a : Addr} {ns : List Int} (ha : SqL K H a (ns.map V.int)) (h : ∀ H' b c, Same H H' → H b = none → Bag H' b c → Q (.ref b) H') : spBag K [.ref a] H Q E := ⟨a, ns, rfl, ha, h⟩
def dueD (d : PyData) (n : Int) : List Bool := [boundsD d, bundlesD d n]
theorem DnAll.bls {M : List Addr} {H : Hp} : ∀ (bs : List Bool), DnAll M H (bs.map V.bl) (bs.map PyData.bool)
  | [] => .nil
  | b :: r => .cons (.bl b) (DnAll.bls r)
theorem lay_bls : ∀ bs : List Bool, PyData.canLayAll0 (bs.map PyData.bool) = true ∧ PyData.depthAll (bs.map PyData.bool) = 0
  | [] => ⟨rfl, rfl⟩
  | b :: r => by
    obtain ⟨a, c⟩ := lay_bls r
    exact ⟨by simp [PyData.canLayAll0, PyData.canLay0, a], by simp [PyData.depthAll, PyData.depth, c]⟩
theorem shaped_bls (bs : List Bool) : SeqAt.shaped (.list (bs.map PyData.bool)) = true := by
  obtain ⟨a, b⟩ := lay_bls bs
  simp [SeqAt.shaped, PyData.canLay0, a, PyData.depth, b]
theorem shows_bls {bs : List Bool} (h : bs.length ≤ 1000) : Shows (.list (bs.map PyData.bool)) :=
  (sz_list' (n := 1000) (p := 5) (q := 0) (fun d hd => by obtain ⟨b, _, rfl⟩ := List.mem_map.mp hd; exact sz_bool b) (by rw [List.length_map]; exact h)).shows (by decide) (by decide)
section
variable {P : Program} {w : World} {K : PySem.W.Frag} {mg : Str → Option Value} {t0 t1 t2 t3 t4 : Tok}
theorem ok_law {base : Heap} (sys : ∃ o, base.get? sysModules = some o) (B : Bl mg) {k : Nat}
    (c_Lbag : Kn P w K mg base "_law_bag" k (spBag K)) (c_Ltake : Kn P w K mg base "_law_take" k spTake) (c_Lodd : Kn P w K mg base "_law_odd" k spOdd)
    (c_Lsome_bounds : Kn P w K mg base "_law_some_bounds" k spRows) (c_Lsome_bundles : Kn P w K mg base "_law_some_bundles" k spRows2) (c_Lbent : Kn P w K mg base "_law_bent" k spBent)
    (c_Lare_bounds : Kn P w K mg base "_law_are_bounds" k spBounds) (c_Lare_bundles : Kn P w K mg base "_law_are_bundles" k spBundles)
    (c_are_bounds : Kn P w K mg base "are_bounds" k spBounds) (c_are_bundles : Kn P w K mg base "are_bundles" k spBundles) (c_Lalike : Kn P w K mg base "_law_alike" k spAlike)
    (f : Addr) (cd : Value) (B' : Around) (fr : List Env) (z : Shared) (H : Hp) (vs : List V) (Q : VK) (E : XK)
    (hr : Room k (B'.deeper (envOfC "law" (defScope s_law) z.heap.objs.size f cd))) (gd : (B'.deeper (envOfC "law" (defScope s_law) z.heap.objs.size f cd)).guards = some []) (h : spLaw K vs H Q E) :
    ∃ t, PSs (bodyX P w K mg base ["_law_script", "_law_bag_here", "_law_turn", "_law_size", "_law_things", "_law_bent_here", "_law_thing", "_law_shown", "_law_due", "_law_again", "_law_found"] "law" s_law f cd B' fr z H E) (defBody s_law) t ∧
      t { nx := fun _ H' => Q .non H', rt := Q } (start ["_law_script", "_law_bag_here", "_law_turn", "_law_size", "_law_things", "_law_bent_here", "_law_thing", "_law_shown", "_law_due", "_law_again", "_law_found"] vs) H := by
  obtain ⟨a, ns, rfl, ha, q⟩ := h
  refine ⟨_, (pss_cons (ps_set (i := 1) sc_law.nd rfl (.inl rfl) (pe_own c_Lbag hr gd (by rfl) (pa_cons (pv 0) pa_nil)))
  (pss_cons (ps_for PassesOwn.never rfl (pi_range1 (by rfl) B.range (pa_cons pe_int pa_nil)) (pg_name (i := 2) sc_law.nd rfl (.inl rfl))
  (pss_cons (ps_set (i := 3) sc_law.nd rfl (.inl rfl) (pe_op op_add pe_int (pe_own c_Ltake hr gd (by rfl) (pa_cons (pv 1) (pa_cons pe_int pa_nil)))))
  (pss_cons (ps_set (i := 4) sc_law.nd rfl (.inl rfl) (pe_lst (pa_cons (pe_own c_Lsome_bounds hr gd (by rfl) (pa_cons (pv 1) pa_nil)) (pa_cons (pe_own c_Lsome_bundles hr gd (by rfl) (pa_cons (pv 1) (pa_cons (pv 3) pa_nil))) (pa_cons (pe_own c_Lodd hr gd (by rfl) (pa_cons (pv 1) pa_nil)) pa_nil)))))
  (pss_cons (ps_set (i := 5) sc_law.nd rfl (.inl rfl) (pe_lst (pa_cons (pe_own c_Lbent hr gd (by rfl) (pa_cons (pv 1) (pa_cons (pe_ix (r := rIxL K) ix_list (pv 4) pe_int (fun _ _ => rfl)) pa_nil))) (pa_cons (pe_own c_Lbent hr gd (by rfl) (pa_cons (pv 1) (pa_cons (pe_ix (r := rIxL K) ix_list (pv 4) pe_int (fun _ _ => rfl)) pa_nil))) pa_nil))))
  (pss_one (ps_for PassesOwn.never rfl (pi_list (pe_op op_cat (pv 4) (pv 5))) (pg_name (i := 6) sc_law.nd rfl (.inl rfl))
  (pss_cons (ps_set (i := 7) sc_law.nd rfl (.inl rfl) (pe_callB (call_reprD gd hr.units sys) (by rfl) B.repr (by decide +kernel) (pa_cons (pv 6) pa_nil)))
  (pss_cons (ps_set (i := 8) sc_law.nd rfl (.inl rfl) (pe_lst (pa_cons (pe_own c_Lare_bounds hr gd (by rfl) (pa_cons (pv 6) pa_nil)) (pa_cons (pe_own c_Lare_bundles hr gd (by rfl) (pa_cons (pv 6) (pa_cons (pv 3) pa_nil))) pa_nil))))
  (pss_one (ps_for PassesOwn.never rfl (pi_range1 (by rfl) B.range (pa_cons pe_int pa_nil)) (pg_name (i := 9) sc_law.nd rfl (.inl rfl))
  (pss_cons (ps_set (i := 10) sc_law.nd rfl (.inl rfl) (pe_lst (pa_cons (pe_own c_are_bounds hr gd (by rfl) (pa_cons (pv 6) pa_nil)) (pa_cons (pe_own c_are_bundles hr gd (by rfl) (pa_cons (pv 6) (pa_cons (pv 3) pa_nil))) pa_nil))))
  (pss_one (ps_if (PW.pt (pw_or (pt_not (pt_val (pe_own c_Lalike hr gd (by rfl) (pa_cons (pv 10) (pa_cons (pv 8) pa_nil))))) (pw_or1 (pt_cmpR op_ne (pe_callB (call_reprD gd hr.units sys) (by rfl) B.repr (by decide +kernel) (pa_cons (pv 6) pa_nil)) (pv 7) (nomark _))))) (pss_one (ps_ret pe_bl)) pss_nil)))))))))))))
  (pss_one (ps_ret (pe_and (pe_own c_are_bundles hr gd (by rfl) (pa_cons (pe_lst pa_nil) (pa_cons pe_int pa_nil))) (pe_one (pe_not (pe_own c_are_bounds hr gd (by rfl) (pa_cons (pe_lst (pa_cons (pe_tup (pa_cons pe_int (pa_cons pe_int pa_nil))) pa_nil)) pa_nil))))))))), ?_⟩
  walk_at "xs"
  refine x_bag ha ?_
  intro H1 b c S1 nb hB
  walk_at "xs"
  refine for_range (lo := 0) (n := (6 : Int).toNat) (fun i σ' H' => ∃ y2 y3 y4 y5 y6 y7 y8 y9 y10, σ' = [some (.ref a), some (.ref b), y2, y3, y4, y5, y6, y7, y8, y9, y10] ∧ Bag H' b c) ?_ ?_ ?_
  · exact ⟨_, _, _, _, _, _, _, _, _, rfl, hB⟩
  · rintro i _ H2 hi ⟨y2, y3, y4, y5, y6, y7, y8, y9, y10, rfl, hB⟩
    walk_at "xs"
    refine x_take hB (by decide) (by decide) ?_
    intro H3 n E3 hB n0 n1
    walk_at "xs"
    refine x_rows hB ?_
    intro H4 f1 d1 E4 hB dv1 rw1 l1
    walk_at "xs"
    refine x_rows2 hB (by omega) (by omega) ?_
    intro H5 f2 d2 E5 hB dv2 rw2 l2
    have dv1 := dv1.ext E5
    walk_at "xs"
    refine x_odd hB ?_
    intro H6 v3 d3 E6 hB dv3 m3
    have dv1 := dv1.ext E6
    have dv2 := dv2.ext E6
    have N0 : Nb H1 b c [] [] H6 → True := fun _ => trivial
    have n6 : Nb H6 b c [] [] H6 := ⟨Ext.refl _ _, hB, .nil⟩
    walk_at "xs"
    intro p hp
    obtain ⟨n7, S7⟩ := x_newL (us := [.ref f1, .ref f2, v3]) n6 hp (.cons dv1 (.cons dv2 (.cons dv3 .nil)))
    have dv1 := dv1.ext (Ext.same S7)
    have dv2 := dv2.ext (Ext.same S7)
    have dv3 := dv3.ext (Ext.same S7)
    have np := n6.out hp
    have ep := upd_same (H := H6) (a := p) (o := .lst [.ref f1, .ref f2, v3])
    generalize upd H6 p _ = H7 at *
    walk_at "xs"
    refine x_bent n7.bag dv1 rw1 l1 ?_
    intro H8 v4 d4 E8 B8 dv4 fin4
    have n8 := n7.step E8 B8
    have dv1 := dv1.ext E8
    have dv2 := dv2.ext E8
    have dv3 := dv3.ext E8
    have ep := E8 _ _ np ep
    walk_at "xs"
    refine x_bent n8.bag dv2 rw2 l2 ?_
    intro H9 v5 d5 E9 B9 dv5 fin5
    have n9 := n8.step E9 B9
    have dv1 := dv1.ext E9
    have dv2 := dv2.ext E9
    have dv3 := dv3.ext E9
    have dv4 := dv4.ext E9
    have ep := E9 _ _ np ep
    walk_at "xs"
    intro p2 hp2
    obtain ⟨n10, S10⟩ := x_newL (us := [v4, v5]) n9 hp2 (.cons dv4 (.cons dv5 .nil))
    have A5 : DnAll [b] H9 [.ref f1, .ref f2, v3, v4, v5] [.list d1, .list d2, d3, d4, d5] := .cons dv1 (.cons dv2 (.cons dv3 (.cons dv4 (.cons dv5 .nil))))
    have A5 := A5.ext (Ext.same S10)
    have ep := S10 _ _ ep
    have ep2 := upd_same (H := H9) (a := p2) (o := .lst [v4, v5])
    generalize upd H9 p2 _ = H10 at *
    walk_at "xs"
    intro p3 hp3
    have A5' := A5
    obtain ⟨n11, S11⟩ := x_newL (us := [.ref f1, .ref f2, v3] ++ [v4, v5]) n10 hp3 A5
    have np3 := n10.out hp3
    have A5 := A5.ext (Ext.same S11)
    have ep3 := upd_same (H := H10) (a := p3) (o := .lst ([.ref f1, .ref f2, v3] ++ [v4, v5]))
    have ep3 : _ = some (HO.lst [.ref f1, .ref f2, v3, v4, v5]) := ep3
    have fins : ∀ d ∈ [.list d1, .list d2, d3, d4, d5], Fin2 d := by
      intro d hd
      simp only [List.mem_cons, List.not_mem_nil, or_false] at hd
      rcases hd with rfl | rfl | rfl | rfl | rfl
      · exact small_list (fun d h => row_sz (rw1 d h)) (by omega)
      · exact small_list (fun d h => row_sz (rw2 d h)) (by omega)
      · exact (odd_fine m3).fin2
      · exact fin4
      · exact fin5
    have hB := n11.bag
    clear n6 n7 n8 n9 n10 n11 N0
    revert ep3 A5 hB
    generalize hH : upd H10 p3 _ = H11
    intro A5 ep3 hB
    generalize hxs : [V.ref f1, .ref f2, v3, v4, v5] = xs at *
    generalize hds : [PyData.list d1, .list d2, d3, d4, d5] = ds at *
    walk_at "xs"
    refine for_list (K := K) (a := p3) (xs := xs) (fun i σ' H' => ∃ y2 y4 y5 y6 y7 y8 y9 y10, σ' = [some (.ref a), some (.ref b), y2, some (.int (2 + n)), y4, y5, y6, y7, y8, y9, y10] ∧ Bag H' b c ∧ H' p3 = some (.lst xs) ∧ DnAll [b] H' xs ds) ?_ ?_ ?_ ?_
    · exact ⟨_, _, _, _, _, _, _, _, rfl, hB, ep3, A5⟩
    · rintro i _ H' _ ⟨_, _, _, _, _, _, _, _, _, _, e, _⟩
      exact SqL.of e
    · rintro j x _ H12 hx ⟨y2, y4, y5, y6, y7, y8, y9, y10, rfl, hB, ep3, A5⟩
      obtain ⟨d, hd, dx⟩ := A5.get hx
      have fine := fins d (List.mem_of_getElem? hd)
      have sh : Shows d := fine.sz.shows (by decide) (by decide)
      walk_at "xs"
      refine x_repr dx sh ?_
      walk_at "ys"
      refine x_bounds dx fine.few ?_
      intro H13 S13
      have dx := dx.ext (Ext.same S13)
      have hB := hB.ext S13
      have ep3 := S13 _ _ ep3
      have A5 := A5.ext (Ext.same S13)
      walk_at "ys"
      refine x_bundles dx fine.few ?_
      intro H14 S14
      have dx := dx.ext (Ext.same S14)
      have hB := hB.ext S14
      have ep3 := S14 _ _ ep3
      have A5 := A5.ext (Ext.same S14)
      walk_at "ys"
      intro p4 hp4
      obtain ⟨ob, hob⟩ := hB.at
      have n4 := new_out (Same.refl H14) hob hp4
      have S4 := same_upd hp4 (o := .lst [.bl (boundsD d), .bl (bundlesD d (2 + n))])
      have dx := dx.ext (Ext.same S4)
      have hB := hB.ext S4
      have ep3 := S4 _ _ ep3
      have A5 := A5.ext (Ext.same S4)
      have e4 : upd H14 p4 (.lst [.bl (boundsD d), .bl (bundlesD d (2 + n))]) p4 = some (.lst ((dueD d (2 + n)).map V.bl)) := upd_same
      generalize upd H14 p4 _ = H15 at *
      walk_at "ys"
      refine for_range (lo := 0) (n := (2 : Int).toNat) (fun i σ' H' => ∃ y2 y4 y5 y9 y10, σ' = [some (.ref a), some (.ref b), y2, some (.int (2 + n)), y4, y5, some x, some (.str d.shown), some (.ref p4), y9, y10] ∧ Bag H' b c ∧ H' p3 = some (.lst xs) ∧ DnAll [b] H' xs ds ∧ Dn [b] H' x d ∧ H' p4 = some (.lst ((dueD d (2 + n)).map V.bl))) ?_ ?_ ?_
      · exact ⟨_, _, _, _, _, rfl, hB, ep3, A5, dx, e4⟩
      · rintro j _ H16 hj ⟨y2, y4, y5, y9, y10, rfl, hB, ep3, A5, dx, e4⟩
        walk_at "ys"
        refine x_bounds dx fine.few ?_
        intro H17 S17
        have S := S17
        have dx := dx.ext (Ext.same S17)
        walk_at "ys"
        refine x_bundles dx fine.few ?_
        intro H18 S18
        have S := S.trans S18
        have dx := dx.ext (Ext.same S18)
        walk_at "ys"
        intro p5 hp5
        have hob := hB.ext S
        obtain ⟨ob, hob⟩ := hob.at
        have n5 := new_out (Same.refl H18) hob hp5
        have S5 := same_upd hp5 (o := .lst [.bl (boundsD d), .bl (bundlesD d (2 + n))])
        have dx := dx.ext (Ext.same S5)
        have S := S.trans S5
        have hB := hB.ext S
        have ep3 := S _ _ ep3
        have A5 := A5.ext (Ext.same S)
        have e4 := S _ _ e4
        have e5 : upd H18 p5 (.lst [.bl (boundsD d), .bl (bundlesD d (2 + n))]) p5 = some (.lst ((dueD d (2 + n)).map V.bl)) := upd_same
        generalize upd H18 p5 _ = H19 at *
        walk_at "ys"
        refine x_alike (.lst e5 n5 (DnAll.bls _)) (.lst e4 n4 (DnAll.bls _)) (shaped_bls _) (shows_bls (by simp [dueD])) ?_
        walk_at "ys"
        refine x_repr dx sh ?_
        walk_at "ys"
        refine x_iteN (fun h => absurd rfl h) (fun _ => ?_)
        walk_at "ys"
        exact ⟨_, _, _, _, _, rfl, hB, ep3, A5, dx, e4⟩
      · rintro _ H16 ⟨y2, y4, y5, y9, y10, rfl, hB, ep3, A5, dx, e4⟩
        exact ⟨_, _, _, _, _, _, _, _, rfl, hB, ep3, A5⟩
    · rintro _ H12 ⟨y2, y4, y5, y6, y7, y8, y9, y10, rfl, hB, ep3, A5⟩
      exact ⟨_, _, _, _, _, _, _, _, _, rfl, hB⟩
  · rintro _ H2 ⟨y2, y3, y4, y5, y6, y7, y8, y9, y10, rfl, hB⟩
    walk_at "xs"
    intro p hp
    walk_at "xs"
    refine x_bundles (M := []) (.lst upd_same (by simp) .nil) (fun es e => by cases e; decide) ?_
    intro H3 S3
    rw [show bundlesD (.list []) 2 = true by decide +kernel]
    walk_at "xs"
    intro p2 hp2
    walk_at "xs"
    intro p3 hp3
    walk_at "xs"
    have S4 := same_upd hp3 (o := .lst [.ref p2])
    refine x_bounds (M := []) (.lst upd_same (by simp) (.cons (.tup (S4 _ _ upd_same) (by simp) (.cons (.int 0) (.cons (.int 1) .nil))) .nil)) (fun es e => by cases e; exact Nat.le_of_ble_eq_true rfl) ?_
    intro H4 S5
    rw [show boundsD (.list [.tuple [.int 0, .int 1]]) = false by decide +kernel]
    walk_at "xs"
    exact q _
end
theorem len1 {K : PySem.W.Frag} : ∀ vs H Q E, spLaw K vs H Q E → vs.length = (["_law_script"] : List Str).length := fun vs H Q E h => by obtain ⟨a, ns, rfl, _⟩ := h; rfl
theorem all_mk {P : Program} {w : World} {K : PySem.W.Frag} {mg : Str → Option Value} {fa : Addr} {t0 t1 t2 t3 t4 : Tok} (hfa : mg "law" = some (.ref fa))
    (d1 : Df K mg "is_integer" s_is_integer) (d2 : Df K mg "is_amount" s_is_amount) (d3 : Df K mg "is_count" s_is_count) (d4 : Df K mg "is_broker" s_is_broker)
    (d5 : Df K mg "_is_bound" s__is_bound) (d6 : Df K mg "are_bounds" s_are_bounds) (d7 : Df K mg "_is_bundle" s__is_bundle) (d8 : Df K mg "are_bundles" s_are_bundles)
    (d9 : Df K mg "_law_bag" s_Lbag) (d10 : Df K mg "_law_take" s_Ltake) (d11 : Df K mg "_law_alike" s_Lalike) (d12 : Df K mg "_law_odd" s_Lodd) (d13 : Df K mg "_law_whole" s_Lwhole)
    (d14 : Df K mg "_law_is_bound" s_Lis_bound) (d15 : Df K mg "_law_are_bounds" s_Lare_bounds) (d16 : Df K mg "_law_is_bundle" s_Lis_bundle) (d17 : Df K mg "_law_are_bundles" s_Lare_bundles)
    (d18 : Df K mg "_law_some_bounds" s_Lsome_bounds) (d19 : Df K mg "_law_some_bundles" s_Lsome_bundles) (d20 : Df K mg "_law_bent" s_Lbent) (d21 : Df K mg "law" s_law) (B : Bl mg) (CS : Cs mg t0 t1 t2 t3 t4) :
    ∃ fd : FuncData, (∀ (s : Shared) (u : Value), BindsTo s fd ⟨[u], []⟩ [("_law_script", u)]) ∧
      ∀ base : Heap, K.In base → base.Ns mainGlobals mg → (∃ o, base.get? sysModules = some o) → FnG P w K mg base (4 + 1) fa fd ["_law_script"] (spLaw K) := by
  refine law_of d21 hfa (fun _ _ _ _ _ _ us hl => match us, hl with | [_], _ => rfl) sc_law len1 (fun base sys f cd B' fr z H vs Q E hr gd h => ?_)
  have i1 : Kn P w K mg base "is_integer" 1 (sp1 isIntD) := kn_is_integer d1 B
  have i2 := kn_is_amount d2 B CS i1
  have i3 := kn_is_count d3 B CS i1
  have i4 := kn_is_broker d4 B i1
  have i5 := kn__is_bound d5 B i2
  have i6 := kn_are_bounds d6 B CS i5
  have i7 := kn__is_bundle d7 B i4 i3
  have i8 := kn_are_bundles d8 B CS i7
  have t1 : Kn P w K mg base "_law_take" 1 spTake := kn_take d10 B
  have o2 : Kn P w K mg base "_law_odd" 2 spOdd := kn_odd d12 B t1
  have w1 : Kn P w K mg base "_law_whole" 1 (sp3 wholeD) := kn_whole d13 B
  exact ok_law sys B ((kn_bag d9 B (k := 0)).up (by decide)) (t1.up (by decide)) (o2.up (by decide)) ((kn_some_bounds d18 B t1).up (by decide)) ((kn_some_bundles d19 B t1).up (by decide)) ((kn_bent d20 B (t1.up (by decide)) o2).up (by decide))
    ((kn_Lare_bounds d15 B (kn_Lis_bound d14 B w1)).up (by decide)) ((kn_Lare_bundles d17 B (kn_Lis_bundle d16 B w1)).up (by decide)) i6 i8 ((kn_alike d11 B sys (k := 0)).up (by decide)) f cd B' fr z H vs Q E hr gd h
end Lw
open PySem PySem.W PyProof.Rows
local macro_rules | `(tactic| walk_at "df") => `(tactic| (refine' Lw.df_mk (by assumption) (by assumption) ?za ?zl ?zc ?zk; (case za => k_is); (case zl => k_is); (case zc => k_is); (case zk => k_is)))
set_option maxRecDepth 100000 in
set_option maxHeartbeats 0 in
theorem PySem.Challenge.cw_leadswitch_k12_bounds_and_bundles_holds : PySem.Challenge.rw_leadswitch_k12_bounds_and_bundles.Holds := by
  w_on; o_law; k_head; (case hw => w_witness2)
  k_fill
  refine Lw.walk_g (l := PySem.Challenge.rw_leadswitch_k12_bounds_and_bundles) (n := 63) (k := 5) (x := "_law_script") (sp := Lw.spLaw) rfl (by decide) rfl ⟨rfl, by decide, by decide⟩ (by decide +kernel) (fun w h Y => PySem.W.kIn_of Y) ?F (fun K H a ns hl hS => ⟨a, ns, rfl, hS, fun _ => rfl⟩)
  case F =>
    intro w mg fa h KX G hmg
    refine' Lw.all_mk hmg ?d1 ?d2 ?d3 ?d4 ?d5 ?d6 ?d7 ?d8 ?d9 ?d10 ?d11 ?d12 ?d13 ?d14 ?d15 ?d16 ?d17 ?d18 ?d19 ?d20 ?d21 ?bb ?cc
    (case d1 => walk_at "df"); (case d2 => walk_at "df"); (case d3 => walk_at "df"); (case d4 => walk_at "df"); (case d5 => walk_at "df"); (case d6 => walk_at "df"); (case d7 => walk_at "df")
    (case d8 => walk_at "df"); (case d9 => walk_at "df"); (case d10 => walk_at "df"); (case d11 => walk_at "df"); (case d12 => walk_at "df"); (case d13 => walk_at "df"); (case d14 => walk_at "df")
    (case d15 => walk_at "df"); (case d16 => walk_at "df"); (case d17 => walk_at "df"); (case d18 => walk_at "df"); (case d19 => walk_at "df"); (case d20 => walk_at "df"); (case d21 => walk_at "df")
    case bb =>
      refine' Lw.bl_mk KX G ?z0 ?z1 ?z2 ?z3 ?z4 ?z5 ?z6 ?z7 ?z8 ?z9 ?z10 ?z11 ?z12 ?z13 ?z14 ?z15
      (case z0 => k_is); (case z1 => k_is); (case z2 => k_is); (case z3 => k_is); (case z4 => k_is); (case z5 => k_is); (case z6 => k_is); (case z7 => k_is)
      (case z8 => k_is); (case z9 => k_is); (case z10 => k_is); (case z11 => k_is); (case z12 => k_is); (case z13 => k_is); (case z14 => k_is); (case z15 => k_is)
    case cc =>
      refine' Lw.cs_mk KX G ?y0 ?y1 ?y2 ?y3 ?y4
      (case y0 => k_is); (case y1 => k_is); (case y2 => k_is); (case y3 => k_is); (case y4 => k_is)
