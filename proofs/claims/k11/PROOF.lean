import PyProof.Rows.All
import Wide.All
import OpenK.AllK
import Wide.FinOn
import HandS.ForMost
import HandS.Wide
import HandS.IsInst
import HandS.Flow
import PyProof.ReprRoads
import HandS.Style
import PySem.Challenge.RW_leadswitch_k11_kinds
set_option Elab.async false
set_option linter.all false
set_option maxRecDepth 100000
set_option maxHeartbeats 4000000
namespace Lw
open PySem PySem.Spec PyProof.Rows L2
/-! Calls whose surroundings have no open guard (repr asks for that). -/

/-- a def's promise, for surroundings without open guards -/
structure FnG (P : Program) (w : World) (K : PySem.W.Frag) (mg : Str → Option Value) (base : Heap)
    (k : Nat) (f : Addr) (fd : FuncData) (ps : List Str) (sp : Sp) : Prop where
  len : ∀ vs H Q E, sp vs H Q E → vs.length = ps.length
  go : ∀ (B : Around) (fr : List Env) (z : Shared) (H : Hp) (ar : Args) (us : List Value) (vs : List V) (Q : VK) (E : XK),
    Room k B → B.guards = some [] → Env0 P w K mg base B fr z H → BindsTo z fd ar (ps.zip us) → Vals vs us →
    sp vs H Q E → codeAny (model P w) B (.call (.ref f) ar) (CR CX0 fr P w H z Q E) z

section
variable {P : Program} {w : World} {K : PySem.W.Frag} {mg : Str → Option Value} {base : Heap}
theorem FnG.of {k : Nat} {f : Addr} {fd : FuncData} {ps : List Str} {sp : Sp}
    (F : FnOk P w K mg base CX0 k f fd ps sp) : FnG P w K mg base k f fd ps sp :=
  ⟨F.len, fun B fr z H ar us vs Q E r _ => F.run B fr z H ar us vs Q E r⟩
theorem FnG.up {j k : Nat} {f : Addr} {fd : FuncData} {ps : List Str} {sp : Sp}
    (F : FnG P w K mg base j f fd ps sp) (h : j ≤ k) : FnG P w K mg base k f fd ps sp :=
  ⟨F.len, fun B fr z H ar us vs Q E r => F.go B fr z H ar us vs Q E (r.mono h)⟩

/-- the context of a body -/
abbrev bodyX (P : Program) (w : World) (K : PySem.W.Frag) (mg : Str → Option Value) (base : Heap) (N : List Str) (qual : Str)
    (st : Stmt) (f : Addr) (cd : Value) (B : Around) (fr : List Env) (z : Shared) (H : Hp) (E : XK) : Cx :=
  (cxOf CX0 P w K mg base N qual (defScope st) f cd B fr z H E).nox

theorem FnG.mk' {x qual : Str} {st : Stmt} {f : Addr} {fd : FuncData} {N ps : List Str} {k : Nat} {sp : Sp}
    (F : Fun K x qual st f fd) (S : FnScope N ps (defScope st)) (len : ∀ vs H Q E, sp vs H Q E → vs.length = ps.length)
    (body : ∀ (cd : Value) (B : Around) (fr : List Env) (z : Shared) (H : Hp) (vs : List V) (Q : VK) (E : XK),
      Room k (B.deeper (envOfC qual (defScope st) z.heap.objs.size f cd)) →
      (B.deeper (envOfC qual (defScope st) z.heap.objs.size f cd)).guards = some [] → sp vs H Q E →
      ∃ t, PSs (bodyX P w K mg base N qual st f cd B fr z H E) (defBody st) t ∧
        t { nx := fun _ H' => Q .non H', rt := Q } (start N vs) H) : FnG P w K mg base (k + 1) f fd ps sp := by
  obtain ⟨oc, od, kV, doc, pm, an, cd, ct, osl, rfl, lk, hc⟩ := F.ex
  constructor
  · exact len
  intro B fr z H ar us vs Q E room guard env bind rel want
  have n1 := len _ _ _ _ want
  have kin : K.In z.heap := env.mod.kin.keeps fun b o e => (env.bs b o e).1
  have lim : z.heap.NoLimit :=
    env.mod.nolimit.keeps fun b o e => (env.bs b o e).1
  have kinds : ∀ y ∈ ps.zip us, (defScope st).names.lookup y.1 = some .local ∨
      ((defScope st).names.lookup y.1 = some .cell ∧
        ((cellsFrom (z.heap.objs.size + 1) (defScope st).names []).lookup y.1).isSome = true) := by
    intro y hy
    rcases S.par y.1 (List.of_mem_zip (show (y.1, y.2) ∈ ps.zip us from hy)).1 with h | h
    · exact Or.inl h
    · exact Or.inr ⟨h, PySem.W.cellsFrom_some _ _ _ (.inl h)⟩
  apply codeAny_call_function room.depth (kin _ _ lk) rfl S.co S.gen rfl (PySem.W.codeRec_of kin hc)
  apply bind
  apply wpAny_newFunctionEnv_cells S.kind kinds
  intro e he z1 ic
  subst he
  refine ⟨lim.keeps ic.toInCall.keep, codeAny_func ?_⟩
  obtain ⟨t, ht, hq⟩ := body cd B fr z H vs Q E (room.deeper _) guard want
  have I0 := inv_start (CX := CX0) (E := E) S room.hd env n1 rel ic
  refine wpAny_mono (ht.nox.run [] z1 (start N vs) H _ I0 hq) ?_ (fun _ _ h => h)
  intro fl z2 h2
  match fl, h2 with
  | .ret u, h2 =>
    obtain ⟨v, σ2, H2, J, rv, q⟩ := h2
    exact ⟨v, H2, J.os, J.bare, J.base, J.hok, rv, q⟩
  | .next, h2 =>
    obtain ⟨σ2, H2, J, q⟩ := h2
    exact ⟨V.non, H2, J.os, J.bare, J.base, J.hok, rfl, q⟩
  | .brk, h2 =>
    obtain ⟨_, _, _, q⟩ := h2
    exact q.elim
  | .cont, h2 =>
    obtain ⟨_, _, _, q⟩ := h2
    exact q.elim

/-- a def of the module, known by its name -/
structure Kn (P : Program) (w : World) (K : PySem.W.Frag) (mg : Str → Option Value) (base : Heap) (nm : Str) (k : Nat) (sp : Sp) : Prop where
  ex : ∃ f fd ps, FnG P w K mg base k f fd ps sp ∧ mg nm = some (.ref f) ∧ PySem.W.keepIn K (.ref f) = true ∧ Binds K fd ps []
theorem Kn.up {nm : Str} {j k : Nat} {sp : Sp} (F : Kn P w K mg base nm j sp) (h : j ≤ k) : Kn P w K mg base nm k sp := by
  obtain ⟨f, fd, ps, a, b⟩ := F.ex
  exact ⟨f, fd, ps, a.up h, b⟩
end

section
variable {X : Cx} {k : Nat} {sp : Sp} {nm : Str} {p pos : Pos} {e : Expr} {es : List Expr} {t : TA}
theorem run_own {pins : List (Addr × Obj)} {σ : L2.St} {H : Hp} {s : Shared} {Q : VK} {us : List Value} {vs : List V} {f : Addr} {fd : FuncData} {ps : List Str}
    (F : FnG X.prog X.w X.K X.mg X.base k f fd ps sp) (room : Room k X.A) (gd : X.A.guards = some []) (hb : Binds X.K fd ps [])
    (I : Inv X pins σ H s) (r : Vals vs us) (h : sp vs H Q E0) : wpAny (model X.prog X.w) X.A (call (.ref f) us) (EP X pins σ Q) X.xe s := by
  have n1 : us.length = ps.length := r.length.symm.trans (F.len _ _ _ _ h)
  have bt := hb s us I.kIn (by rw [List.append_nil]; exact n1)
  rw [List.append_nil] at bt
  apply wpAny_call
  refine codeAny_mono (F.go X.A X.stack s H ⟨us, []⟩ us vs Q E0 room gd I.env0 bt r h) ?_
  intro res z hz
  match res, hz with
  | .error e, hz => exact False.elim hz
  | .ok (.ret u), hz => exact I.after hz
  | .ok .next, hz => exact False.elim hz
  | .ok .brk, hz => exact False.elim hz
  | .ok .cont, hz => exact False.elim hz

theorem pe_own (c : Kn X.prog X.w X.K X.mg X.base nm k sp) (room : Room k X.A) (gd : X.A.guards = some []) (hg : Gl X nm)
    (ha : PA X (e :: es) t) (hdb : (nm == ("__debug__" : Str)) = false := by decide)
    (he : starEach (e :: es) X.env = (false, eval e X.env) :: starEach es X.env := by rfl)
    (hp : (backTo pos (starEach es X.env)).any (·.1) = false := by rfl) : PE X (.Call (.Name nm p) (e :: es) [] pos) (tCall sp [] E0 t) := by
  obtain ⟨f, fd, ps, F, hm, hk, hb⟩ := c.ex
  constructor
  intro pins s σ H Q I h
  apply wpAny_Call_Name_kw
  refine ld_glob I hg hm ?_ hdb
  refine PySem.W.callWith_K (h₀ := X.base) I.ok.mod.kin hk ?_ he hp
  refine thn (ha.run pos pins s σ H _ I h) ?_
  rintro us s1 ⟨vs, H1, I1, r, q⟩
  rw [List.append_nil] at q
  exact ⟨I1.kIn, run_own F room gd hb I1 r q⟩
end
/-! Data in the abstract heap; what repr, isinstance and an item's in-place operator ask of it. -/

/-! ### values that hold data; none of their objects stands in M -/
mutual
inductive Dn (M : List Addr) (H : Hp) : V → PyData → Prop
  | non : Dn M H .non .none
  | bl (b : Bool) : Dn M H (.bl b) (.bool b)
  | int (i : Int) : Dn M H (.int i) (.int i)
  | str (x : Str) : Dn M H (.str x) (.str x)
  | lst {a : Addr} {xs : List V} {ds : List PyData} : H a = some (.lst xs) → a ∉ M → DnAll M H xs ds → Dn M H (.ref a) (.list ds)
  | tup {a : Addr} {xs : List V} {ds : List PyData} : H a = some (.tup xs) → a ∉ M → DnAll M H xs ds → Dn M H (.ref a) (.tuple ds)
  | dic {a : Addr} {kvs : List (Key × V)} {ds : List (PyData × PyData)} : H a = some (.dK kvs) → a ∉ M → DnAll M H (kvs.map fun p => kV p.1) (ds.map (·.1)) → DnAll M H (kvs.map (·.2)) (ds.map (·.2)) → Dn M H (.ref a) (.dict ds)
inductive DnAll (M : List Addr) (H : Hp) : List V → List PyData → Prop
  | nil : DnAll M H [] []
  | cons {v : V} {vs : List V} {d : PyData} {ds : List PyData} : Dn M H v d → DnAll M H vs ds → DnAll M H (v :: vs) (d :: ds)
end

/-- all that was tracked outside M is as it was -/
def Ext (M : List Addr) (H H' : Hp) : Prop := ∀ a o, a ∉ M → H a = some o → H' a = some o
theorem Ext.refl (M : List Addr) (H : Hp) : Ext M H H := fun _ _ _ h => h
theorem Ext.trans {M : List Addr} {H H1 H2 : Hp} (a : Ext M H H1) (b : Ext M H1 H2) : Ext M H H2 := fun c o n h => b c o n (a c o n h)
theorem Ext.mono {M M' : List Addr} {H H1 : Hp} (a : Ext M H H1) (h : ∀ c, c ∈ M → c ∈ M') : Ext M' H H1 := fun c o n e => a c o (fun m => n (h c m)) e
theorem Ext.same {M : List Addr} {H H1 : Hp} (a : Same H H1) : Ext M H H1 := fun c o _ h => a c o h
theorem Ext.toSame {H H1 : Hp} (a : Ext [] H H1) : Same H H1 := fun c o h => a c o (by simp) h
theorem same_upd {H : Hp} {p : Addr} {o : HO} (h : H p = none) : Same H (upd H p o) := fun b x e => by
  rw [upd_ne (ne_of_none e h)]; exact e
theorem Ext.upd {M : List Addr} {H : Hp} {p : Addr} {o : HO} (h : p ∈ M) : Ext M H (upd H p o) := fun b x n e => by
  rw [upd_ne (show b ≠ p from fun z => n (by rw [z]; exact h))]; exact e

mutual
theorem Dn.ext {M : List Addr} {H H' : Hp} (e : Ext M H H') : ∀ {v : V} {d : PyData}, Dn M H v d → Dn M H' v d
  | _, _, .non => .non
  | _, _, .bl b => .bl b
  | _, _, .int i => .int i
  | _, _, .str x => .str x
  | _, _, .lst h n a => .lst (e _ _ n h) n (DnAll.ext e a)
  | _, _, .tup h n a => .tup (e _ _ n h) n (DnAll.ext e a)
  | _, _, .dic h n a b => .dic (e _ _ n h) n (DnAll.ext e a) (DnAll.ext e b)
theorem DnAll.ext {M : List Addr} {H H' : Hp} (e : Ext M H H') : ∀ {v : List V} {d : List PyData}, DnAll M H v d → DnAll M H' v d
  | _, _, .nil => .nil
  | _, _, .cons a b => .cons (Dn.ext e a) (DnAll.ext e b)
end
/-! the avoided addresses may be others, where none of the data's objects stands in them -/
mutual
theorem Dn.avoid {M M' : List Addr} {H : Hp} (h : ∀ a o, a ∉ M → H a = some o → a ∉ M') : ∀ {v : V} {d : PyData}, Dn M H v d → Dn M' H v d
  | _, _, .non => .non
  | _, _, .bl b => .bl b
  | _, _, .int i => .int i
  | _, _, .str x => .str x
  | _, _, .lst e n a => .lst e (h _ _ n e) (DnAll.avoid h a)
  | _, _, .tup e n a => .tup e (h _ _ n e) (DnAll.avoid h a)
  | _, _, .dic e n a b => .dic e (h _ _ n e) (DnAll.avoid h a) (DnAll.avoid h b)
theorem DnAll.avoid {M M' : List Addr} {H : Hp} (h : ∀ a o, a ∉ M → H a = some o → a ∉ M') : ∀ {v : List V} {d : List PyData}, DnAll M H v d → DnAll M' H v d
  | _, _, .nil => .nil
  | _, _, .cons a b => .cons (Dn.avoid h a) (DnAll.avoid h b)
end
theorem Dn.sub {M M' : List Addr} {H : Hp} (h : ∀ a, a ∈ M' → a ∈ M) {v : V} {d : PyData} (x : Dn M H v d) : Dn M' H v d := x.avoid fun a _ n _ m => n (h a m)
theorem DnAll.sub {M M' : List Addr} {H : Hp} (h : ∀ a, a ∈ M' → a ∈ M) {v : List V} {d : List PyData} (x : DnAll M H v d) : DnAll M' H v d := x.avoid fun a _ n _ m => n (h a m)
theorem Dn.more {M : List Addr} {H : Hp} {p : Addr} (hp : H p = none) {v : V} {d : PyData} (x : Dn M H v d) : Dn (p :: M) H v d := x.avoid fun a o n e m => by
  rcases List.mem_cons.mp m with rfl | m
  · rw [hp] at e; cases e
  · exact n m
theorem DnAll.length {M : List Addr} {H : Hp} : ∀ {v : List V} {d : List PyData}, DnAll M H v d → v.length = d.length
  | _, _, .nil => rfl
  | _, _, .cons _ b => by simp [DnAll.length b]
theorem DnAll.get {M : List Addr} {H : Hp} : ∀ {v : List V} {d : List PyData} {i : Nat} {x : V}, DnAll M H v d → v[i]? = some x → ∃ y, d[i]? = some y ∧ Dn M H x y
  | _, _, _, _, .nil, e => by simp at e
  | _, _, 0, _, .cons a _, e => by simp at e; subst e; exact ⟨_, rfl, a⟩
  | _, _, i + 1, x, .cons _ b, e => by
    obtain ⟨y, h1, h2⟩ := DnAll.get (i := i) (x := x) b (by simpa using e)
    exact ⟨y, by simpa using h1, h2⟩
theorem DnAll.app {M : List Addr} {H : Hp} : ∀ {v w : List V} {d e : List PyData}, DnAll M H v d → DnAll M H w e → DnAll M H (v ++ w) (d ++ e)
  | _, _, _, _, .nil, s => s
  | _, _, _, _, .cons a b, s => .cons a (DnAll.app b s)
theorem DnAll.take {M : List Addr} {H : Hp} : ∀ {v : List V} {d : List PyData} (n : Nat), DnAll M H v d → DnAll M H (v.take n) (d.take n)
  | _, _, 0, _ => .nil
  | _, _, _ + 1, .nil => .nil
  | _, _, n + 1, .cons a b => .cons a (DnAll.take n b)
theorem DnAll.drop {M : List Addr} {H : Hp} : ∀ {v : List V} {d : List PyData} (n : Nat), DnAll M H v d → DnAll M H (v.drop n) (d.drop n)
  | _, _, 0, r => r
  | _, _, _ + 1, .nil => .nil
  | _, _, n + 1, .cons _ b => DnAll.drop n b
theorem DnAll.ints {M : List Addr} {H : Hp} : ∀ (ns : List Int), DnAll M H (ns.map V.int) (ns.map PyData.int)
  | [] => .nil
  | n :: r => .cons (.int n) (DnAll.ints r)

/-! ### the library's reading of such a value -/
section
variable {X : Cx} {pins : List (Addr × Obj)} {σ : L2.St} {H : Hp} {s : Shared} {M : List Addr}
theorem pairs_split {P : Program} {w : World} : ∀ {es : List DictEntry} {kvs : List (Key × V)} {vs : List (Key × Value)}, KV kvs vs → Pairs (mixKind P w) es vs →
    Vals (kvs.map fun p => kV p.1) (es.map (·.key)) ∧ Vals (kvs.map (·.2)) (es.map (·.val))
  | _, _, _, .nil, .nil => ⟨.nil, .nil⟩
  | _, _, _, .cons (a := p) (b := q) r t, .cons (e := e) h1 h2 h3 => by
    obtain ⟨a, b⟩ := pairs_split t h3
    have h1 : keyIs q.1 e.key = true := h1
    rw [← r.1] at h1
    refine ⟨.cons (show RelV (kV p.1) e.key from ?_) a, .cons (show RelV p.2 e.val from by rw [h2]; exact r.2) b⟩
    rcases keyIs_shape h1 with ⟨i, u, e1, e2⟩ | ⟨x, u, e1, e2⟩
    · rw [e1, e2]; exact ⟨u, rfl⟩
    · rw [e1, e2]; exact ⟨u, rfl⟩
mutual
theorem Dn.reads (I : Inv X pins σ H s) : ∀ (d : PyData) (v : V) (u : Value), Dn M H v d → RelV v u → ∃ as, Reads s.heap u d as ∧ ∀ a ∈ as, H a ≠ none
  | .none, _, _, h, r => by cases h; cases r; exact ⟨_, .none, by simp⟩
  | .bool b, _, _, h, r => by cases h; cases r; exact ⟨_, .bool b, by simp⟩
  | .int i, _, _, h, r => by
    cases h
    obtain ⟨t, rfl⟩ := r
    exact ⟨_, .int i t, by simp⟩
  | .str x, _, _, h, r => by
    cases h
    obtain ⟨t, rfl⟩ := r
    exact ⟨_, .str x t, by simp⟩
  | .list ds, _, _, h, r => by
    cases h with
    | lst e _ ha =>
      cases r
      obtain ⟨_, its, n, rv, ho⟩ := I.hok _ _ e
      obtain ⟨as, hr, hn⟩ := DnAll.reads I ds _ its ha rv
      refine ⟨_, .list ho rfl rfl hr, fun b hb => ?_⟩
      rcases List.mem_cons.mp hb with rfl | hb
      · rw [e]; simp
      · exact hn b hb
  | .tuple ds, _, _, h, r => by
    cases h with
    | tup e _ ha =>
      cases r
      obtain ⟨_, its, rv, ⟨o, ho, hc, n, hd⟩⟩ := I.hok _ _ e
      obtain ⟨as, hr, hn⟩ := DnAll.reads I ds _ its ha rv
      exact ⟨_, .tuple ho hc hd hr, hn⟩
  | .dict ds, _, _, h, r => by
    cases h with
    | dic e _ ha hb =>
      cases r
      obtain ⟨_, _, vs, kv, o, es, ep, ho, ex, hd, hk, hp, _⟩ := I.hok _ _ e
      obtain ⟨r1, r2⟩ := pairs_split kv hp
      obtain ⟨as, q1, n1⟩ := Dn.readsK I ds _ _ ha r1
      obtain ⟨bs, q2, n2⟩ := Dn.readsV I ds _ _ hb r2
      refine ⟨_, .dict ho ex.1 hd q1 q2, fun b hb => ?_⟩
      rcases List.mem_append.mp hb with hb | hb
      · rcases List.mem_cons.mp hb with rfl | hb
        · rw [e]; simp
        · exact n1 b hb
      · exact n2 b hb
theorem DnAll.reads (I : Inv X pins σ H s) : ∀ (ds : List PyData) (vs : List V) (us : List Value), DnAll M H vs ds → Vals vs us → ∃ as, ReadsAll s.heap us ds as ∧ ∀ a ∈ as, H a ≠ none
  | [], _, _, h, r => by cases h; cases r; exact ⟨_, .nil, by simp⟩
  | d :: ds, _, _, h, r => by
    cases h with
    | cons h1 h2 =>
      cases r with
      | cons r1 r2 =>
        obtain ⟨as, q1, n1⟩ := Dn.reads I d _ _ h1 r1
        obtain ⟨bs, q2, n2⟩ := DnAll.reads I ds _ _ h2 r2
        exact ⟨_, .cons q1 q2, fun b hb => (List.mem_append.mp hb).elim (n1 b) (n2 b)⟩
theorem Dn.readsK (I : Inv X pins σ H s) : ∀ (ds : List (PyData × PyData)) (vs : List V) (us : List Value), DnAll M H vs (ds.map (·.1)) → Vals vs us → ∃ as, ReadsAll s.heap us (ds.map (·.1)) as ∧ ∀ a ∈ as, H a ≠ none
  | [], _, _, h, r => by cases h; cases r; exact ⟨_, .nil, by simp⟩
  | (d, _) :: ds, _, _, h, r => by
    cases h with
    | cons h1 h2 =>
      cases r with
      | cons r1 r2 =>
        obtain ⟨as, q1, n1⟩ := Dn.reads I d _ _ h1 r1
        obtain ⟨bs, q2, n2⟩ := Dn.readsK I ds _ _ h2 r2
        exact ⟨_, .cons q1 q2, fun b hb => (List.mem_append.mp hb).elim (n1 b) (n2 b)⟩
theorem Dn.readsV (I : Inv X pins σ H s) : ∀ (ds : List (PyData × PyData)) (vs : List V) (us : List Value), DnAll M H vs (ds.map (·.2)) → Vals vs us → ∃ as, ReadsAll s.heap us (ds.map (·.2)) as ∧ ∀ a ∈ as, H a ≠ none
  | [], _, _, h, r => by cases h; cases r; exact ⟨_, .nil, by simp⟩
  | (_, d) :: ds, _, _, h, r => by
    cases h with
    | cons h1 h2 =>
      cases r with
      | cons r1 r2 =>
        obtain ⟨as, q1, n1⟩ := Dn.reads I d _ _ h1 r1
        obtain ⟨bs, q2, n2⟩ := Dn.readsV I ds _ _ h2 r2
        exact ⟨_, .cons q1 q2, fun b hb => (List.mem_append.mp hb).elim (n1 b) (n2 b)⟩
end

/-! ### repr of data -/
/-- data that repr shows within the model's limits -/
structure Shows (d : PyData) : Prop where
  sh : d.showable = true
  sz : d.shown.length ≤ 8000000
  dp : d.depth ≤ 20
def rRepr : List V → Hp → VK → Prop := fun xs H Q => ∃ x d M, xs = [x] ∧ Dn M H x d ∧ Shows d ∧ Q (.str d.shown) H
theorem call_reprD (gd : X.A.guards = some []) (hu : X.A.units + 64 < cLine) (sys : ∃ o, X.base.get? sysModules = some o) : CallR X (.builtin "repr") rRepr := by
  intro pins s σ H xs us Q I r h
  obtain ⟨x, d, M, rfl, hd, hs, q⟩ := h
  obtain ⟨u, rfl, rx⟩ := vals1 r
  obtain ⟨as, rd, hn⟩ := Dn.reads I d x u hd rx
  obtain ⟨o, ho⟩ := sys
  have hm : sysModules ∉ as := fun m => hn _ m (I.bs _ _ ho).2
  have hz : d.shown.length ≤ sizeLine := Nat.le_trans hs.sz (by decide)
  have big : ∀ {a : Addr}, u = .ref a → wpAny (model X.prog X.w) X.A (call (.builtin "repr") [u]) (EP X pins σ Q) X.xe s := by
    rintro a rfl
    refine repr_of_reads' rd hs.sh (fun _ => hm) gd (by have := hs.dp; omega) (fun _ _ e => e) (fun h' u tk hk => ?_) hz
    exact ⟨.str d.shown, H, I.kept hk, ⟨u, rfl⟩, q⟩
  cases rd with
  | none => exact P.repr_of_none ⟨.str _, H, I.tok _, ⟨_, rfl⟩, by simpa only [PyData.shown] using q⟩
  | bool b => exact P.repr_of_bool ⟨.str _, H, I.tok _, ⟨_, rfl⟩, by simpa only [PyData.shown] using q⟩
  | int i t => exact P.repr_of_int (by simpa [PyData.showable] using hs.sh) ⟨.str _, H, I.tok _, ⟨_, rfl⟩, by simpa only [PyData.shown] using q⟩
  | str y t => exact P.repr_of_str ⟨.str _, H, I.tok _, ⟨_, rfl⟩, by simpa only [PyData.shown] using q⟩ (by simpa only [PyData.shown] using hz)
  | list _ _ _ _ => exact big rfl
  | tuple _ _ _ _ => exact big rfl
  | dict _ _ _ _ _ => exact big rfl

/-! ### isinstance of data -/
def tyD : PyData → String
  | .none => "NoneType"
  | .bool _ => "bool"
  | .int _ => "int"
  | .str _ => "str"
  | .list _ => "list"
  | .tuple _ => "tuple"
  | .dict _ => "dict"
theorem Dn.ty {K : PySem.W.Frag} {v : V} {d : PyData} (h : Dn M H v d) : TyX K H v (.type (tyD d)) := by
  cases h with
  | non => exact .base .non
  | bl b => exact .base (.bl b)
  | int i => exact .base (.int i)
  | str x => exact .base (.str x)
  | lst e _ _ => exact .base (.lst e)
  | tup e _ _ => exact .base (.tup e)
  | dic e _ _ _ => exact .base (.dK e)
/-- isinstance(x, int), .. of data -/
def isT (T : String) (d : PyData) : Bool := (kitB (tyD d) T).getD false
theorem kit_isT {T : String} (hT : T = "int" ∨ T = "bool" ∨ T = "list" ∨ T = "tuple" ∨ T = "str" ∨ T = "dict") : ∀ d : PyData, kitB (tyD d) T = some (isT T d) := by
  intro d
  rcases hT with rfl | rfl | rfl | rfl | rfl | rfl <;> cases d <;> simp only [tyD, isT] <;> decide +kernel
theorem isT_int : ∀ d, isT "int" d = (match d with | .int _ => true | .bool _ => true | _ => false) := by intro d; cases d <;> simp only [tyD, isT] <;> decide +kernel
theorem isT_bool : ∀ d, isT "bool" d = (match d with | .bool _ => true | _ => false) := by intro d; cases d <;> simp only [tyD, isT] <;> decide +kernel
theorem isT_list : ∀ d, isT "list" d = (match d with | .list _ => true | _ => false) := by intro d; cases d <;> simp only [tyD, isT] <;> decide +kernel
theorem isT_tuple : ∀ d, isT "tuple" d = (match d with | .tuple _ => true | _ => false) := by intro d; cases d <;> simp only [tyD, isT] <;> decide +kernel
def rIsD : List V → Hp → VK → Prop := fun xs H Q => ∃ x T d M, xs = [x, .ty T] ∧ Dn M H x d ∧ (T = "int" ∨ T = "bool" ∨ T = "list" ∨ T = "tuple" ∨ T = "str" ∨ T = "dict") ∧ Q (.bl (isT T d)) H
theorem call_isD : CallR X (.builtin "isinstance") rIsD := by
  intro pins s σ H xs us Q I r h
  obtain ⟨x, T, d, M, rfl, hd, hT, q⟩ := h
  exact call_isi pins s σ H _ us Q I r ⟨x, .ty T, .type (tyD d), .type T, isT T d, rfl, .ty T, hd.ty, kit_ty (kit_isT hT d), q⟩

/-! ### xs[i] op= e of a list -/
def rGetL : V → V → Hp → VK → Prop := fun x y H Q => ∃ p xs i j v, x = .ref p ∧ y = .int i ∧ H p = some (.lst xs) ∧ i = (j : Nat) ∧ xs[j]? = some v ∧ Q v H
theorem get_list : PGet X rGetL := by
  intro pins s σ H x y u v Q I rx ry h
  obtain ⟨p, xs, i, j, z, rfl, rfl, hp, rfl, hj, q⟩ := h
  cases rx
  obtain ⟨t, rfl⟩ := ry
  obtain ⟨its, r, pl, hz⟩ := I.list (SqL.of hp)
  obtain ⟨w, ew, rw'⟩ := r.get hj
  have hn := line63
  have hl : j < xs.length := (List.getElem?_eq_some_iff.mp hj).1
  exact wpAny_getItem_list pl.isList (by omega) (by omega) (by simpa using ew) ⟨z, H, I, rw', q⟩
end
/-! Readings, one step each. -/

section
variable {X : Cx} {K : PySem.W.Frag} {σ : L2.St} {H : Hp} {Q : VK} {D : Ends} {t u : TS} {te ta tb tc : TE} {tr : TA} {c d : TT} {QT : Bool → Hp → Prop} {QA : List V → Hp → Prop}
-- statements
theorem x_seq (h : t { D with nx := u D } σ H) : tSeq t u D σ H := h
theorem x_next (h : D.nx σ H) : tNext D σ H := h
theorem x_asg {g : TG} (h : te σ H fun x H1 => g x σ H1 D.nx) : tAsg te g D σ H := h
theorem x_name {i : Nat} {v : V} {Qs : L2.St → Hp → Prop} (h : Qs (σ.set i (some v)) H) : gName i v σ H Qs := h
theorem x_drop (h : te σ H fun _ H1 => D.nx σ H1) : tDrop te D σ H := h
theorem x_ret (h : te σ H D.rt) : tRet te D σ H := h
theorem x_retN (h : D.rt .non H) : tRetN D σ H := h
theorem x_ifS (h : c σ H fun b H1 => if b = true then t D σ H1 else u D σ H1) : tIfS c t u D σ H := h
theorem x_break (h : D.bk σ H) : tBreak D σ H := h
theorem x_cont (h : D.ct σ H) : tCont D σ H := h
theorem x_aug {i : Nat} {x : V} {ti : TIp} (e : σ[i]? = some (some x)) (h : te σ H fun y H1 => ti x y H1 fun z H2 => D.nx (σ.set i (some z)) H2) : tAug i te ti D σ H := ⟨x, e, h⟩
theorem x_augS {to ti : TE} {g : V → V → Hp → VK → Prop} {p : TIp} {s : TSet} (h : to σ H fun o H1 => ti σ H1 fun i H2 => g o i H2 fun x H3 => te σ H3 fun y H4 => p x y H4 fun z H5 => s o i z H5 fun H6 => D.nx σ H6) : tAugS to ti te g p s D σ H := h
theorem x_par {i j : Nat} (h : tr σ H fun vs H1 => ∃ v w, vs = [v, w] ∧ D.nx ((σ.set i (some v)).set j (some w)) H1) : tPar i j tr D σ H := h
theorem x_par2 {v w : V} {P : V → V → Hp → Prop} (h : P v w H) : ∃ v' w', [v, w] = [v', w'] ∧ P v' w' H := ⟨v, w, rfl, h⟩
theorem x_gsub {to ti : TE} {s : TSet} {v : V} {Qs : L2.St → Hp → Prop} (h : to σ H fun o H1 => ti σ H1 fun i H2 => s o i v H2 fun H3 => Qs σ H3) : gSub to ti s v σ H Qs := h
-- expressions
theorem x_var {i : Nat} {v : V} (e : σ[i]? = some (some v)) (h : Q v H) : tVar i σ H Q := ⟨v, e, h⟩
theorem x_c {v : V} (h : Q v H) : tC v σ H Q := h
theorem x_op {r : R2} (h : ta σ H fun x H1 => tb σ H1 fun y H2 => r x y H2 Q) : tOp r ta tb σ H Q := h
theorem x_un {r : V → Hp → VK → Prop} (h : ta σ H fun x H1 => r x H1 Q) : tUn r ta σ H Q := h
theorem x_call {sp : Sp} {E : XK} (h : tr σ H fun vs H1 => sp vs H1 Q E) : tCall sp [] E tr σ H Q := by
  have e : (fun vs H1 => sp (vs ++ []) H1 Q E) = fun vs H1 => sp vs H1 Q E := by funext vs H1; rw [List.append_nil]
  show tr σ H fun vs H1 => sp (vs ++ []) H1 Q E
  rw [e]; exact h
theorem x_cb {r : List V → Hp → VK → Prop} (h : tr σ H fun vs H1 => r vs H1 Q) : tCB r tr σ H Q := h
theorem x_nil (h : QA [] H) : tNil σ H QA := h
theorem x_cons (h : te σ H fun x H1 => tr σ H1 fun xs H2 => QA (x :: xs) H2) : tCons te tr σ H QA := h
theorem x_tup (h : tr σ H fun xs H1 => xs.length ≤ sizeLine ∧ ∀ p, H1 p = none → Q (.ref p) (upd H1 p (.tup xs))) : tTup tr σ H Q := h
theorem x_lst (h : tr σ H fun xs H1 => xs.length ≤ sizeLine ∧ ∀ p, H1 p = none → Q (.ref p) (upd H1 p (.lst xs))) : tLst tr σ H Q := h
theorem x_new {xs : List V} {P : Prop} (z : xs.length ≤ 100000) (h : P) : xs.length ≤ sizeLine ∧ P := ⟨Nat.le_trans z (by decide), h⟩
theorem x_if (h : c σ H fun b H1 => if b = true then ta σ H1 Q else tb σ H1 Q) : tIf c ta tb σ H Q := h
theorem x_andV (h : ta σ H fun x H1 => ∃ k, x = .bl k ∧ if k = true then tb σ H1 Q else Q (.bl false) H1) : tAndV ta tb σ H Q := h
theorem x_orV (h : ta σ H fun x H1 => ∃ k, x = .bl k ∧ if k = true then Q (.bl true) H1 else tb σ H1 Q) : tOrV ta tb σ H Q := h
theorem x_andP {b1 b2 : Bool} (ha : ∀ Q : VK, Q (.bl b1) H → ta σ H Q) (hb : b1 = true → ∀ Q : VK, Q (.bl b2) H → tb σ H Q) (h : Q (.bl (b1 && b2)) H) : tAndV ta tb σ H Q := by
  refine ha _ ⟨b1, rfl, ?_⟩
  cases b1
  · rw [if_neg Bool.false_ne_true]; exact h
  · rw [if_pos rfl]; exact hb rfl _ (by rw [Bool.true_and] at h; exact h)
theorem x_notV (h : ta σ H fun x H1 => ∃ k, x = .bl k ∧ Q (.bl (!k)) H1) : tNotV ta σ H Q := h
theorem x_chain {r r' : R2} (h : ta σ H fun x H1 => tb σ H1 fun y H2 => r x y H2 fun z H3 => ∃ k, z = .bl k ∧ if k = true then tc σ H3 fun z H4 => r' y z H4 Q else Q (.bl false) H3) : tChain r r' ta tb tc σ H Q := h
-- tests
theorem x_test (h : te σ H fun x H1 => ∃ k, x = .bl k ∧ QT k H1) : tTest te σ H QT := h
theorem x_B (h : te σ H fun x H1 => ∃ k, x = .bl k ∧ QT k H1) : tB te σ H QT := h
theorem x_and (h : c σ H fun b H1 => if b = true then d σ H1 QT else QT false H1) : tAnd c d σ H QT := h
theorem x_or (h : c σ H fun b H1 => if b = true then QT true H1 else d σ H1 QT) : tOr c d σ H QT := h
theorem x_not (h : c σ H fun b H1 => QT (!b) H1) : tNot c σ H QT := h
theorem x_yes (h : QT true H) : tYes σ H QT := h
theorem x_bl {b : Bool} {P : Bool → Prop} (h : P b) : ∃ k, V.bl b = V.bl k ∧ P k := ⟨b, rfl, h⟩
theorem x_ite {p : Prop} [Decidable p] {A B : Prop} (h1 : p → A) (h2 : ¬ p → B) : if decide p = true then A else B := by
  by_cases h : p
  · rw [if_pos (decide_eq_true h)]; exact h1 h
  · rw [if_neg (by rw [decide_eq_false h]; exact Bool.false_ne_true)]; exact h2 h
theorem x_iteN {p : Prop} [Decidable p] {A B : Prop} (h1 : ¬ p → A) (h2 : p → B) : if (!decide p) = true then A else B := by
  by_cases h : p
  · rw [if_neg (by rw [decide_eq_true h]; decide)]; exact h2 h
  · rw [if_pos (by rw [decide_eq_false h]; rfl)]; exact h1 h
theorem x_iteB {b : Bool} {A B : Prop} (h1 : b = true → A) (h2 : b = false → B) : if b = true then A else B := by
  cases b
  · rw [if_neg Bool.false_ne_true]; exact h2 rfl
  · rw [if_pos rfl]; exact h1 rfl
theorem x_iteNB {b : Bool} {A B : Prop} (h1 : b = false → A) (h2 : b = true → B) : if (!b) = true then A else B := by
  cases b
  · rw [if_pos (show (!false) = true from rfl)]; exact h1 rfl
  · rw [if_neg (show ¬ (!true) = true by decide)]; exact h2 rfl
theorem x_iteT {A B : Prop} (h : A) : if true = true then A else B := by rw [if_pos rfl]; exact h
theorem x_iteF {A B : Prop} (h : B) : if false = true then A else B := by rw [if_neg Bool.false_ne_true]; exact h
theorem x_iteNF {A B : Prop} (h : A) : if (!false) = true then A else B := by rw [if_pos (show (!false) = true from rfl)]; exact h
theorem x_iteNT {A B : Prop} (h : B) : if (!true) = true then A else B := by rw [if_neg (by decide)]; exact h
-- values
theorem x_I0 {g : Int → Int → V} {i j : Int} (h : Q (g i j) H) : rI0 g (.int i) (.int j) H Q := ⟨i, j, rfl, rfl, h⟩
theorem x_U {g : Int → V} {i : Int} (h : Q (g i) H) : rU g (.int i) H Q := ⟨i, rfl, h⟩
theorem x_ipI {f : Int → Int → Int} {i j : Int} (h : Q (.int (f i j)) H) : ipI f (.int i) (.int j) H Q := ⟨i, j, rfl, rfl, h⟩
theorem x_eqI {i j : Int} (h : Q (.bl (decide (i = j))) H) : rEq (.int i) (.int j) H Q := by
  refine ⟨rfl, ?_⟩
  have e : decide (V.int i = V.int j) = decide (i = j) := by
    by_cases h : i = j
    · subst h; simp
    · rw [decide_eq_false h, decide_eq_false (fun z => h (V.int.inj z))]
  rw [e]; exact h
theorem x_neI {i j : Int} (h : Q (.bl (!decide (i = j))) H) : rNe (.int i) (.int j) H Q := by
  refine ⟨rfl, ?_⟩
  have e : decide (V.int i = V.int j) = decide (i = j) := by
    by_cases h : i = j
    · subst h; simp
    · rw [decide_eq_false h, decide_eq_false (fun z => h (V.int.inj z))]
  rw [e]; exact h
theorem x_eqS {i j : Str} (h : Q (.bl (decide (i = j))) H) : rEq (.str i) (.str j) H Q := by
  refine ⟨rfl, ?_⟩
  have e : decide (V.str i = V.str j) = decide (i = j) := by
    by_cases h : i = j
    · subst h; simp
    · rw [decide_eq_false h, decide_eq_false (fun z => h (V.str.inj z))]
  rw [e]; exact h
theorem x_neS {i j : Str} (h : Q (.bl (!decide (i = j))) H) : rNe (.str i) (.str j) H Q := by
  refine ⟨rfl, ?_⟩
  have e : decide (V.str i = V.str j) = decide (i = j) := by
    by_cases h : i = j
    · subst h; simp
    · rw [decide_eq_false h, decide_eq_false (fun z => h (V.str.inj z))]
  rw [e]; exact h
theorem x_ixL {p : Addr} {xs : List V} {i : Int} {v : V} (hp : SqL K H p xs) (e : atI xs i = some v) (h : Q v H) : rIxL K (.ref p) (.int i) H Q := ⟨p, xs, i, v, rfl, rfl, hp, e, h⟩
theorem x_ixT {p : Addr} {xs : List V} {i : Int} {v : V} (hp : SqT K H p xs) (e : atI xs i = some v) (h : Q v H) : rIxT K (.ref p) (.int i) H Q := ⟨p, xs, i, v, rfl, rfl, hp, e, h⟩
theorem x_getL {p : Addr} {xs : List V} {i : Int} {v : V} (hp : H p = some (.lst xs)) (hi : i = (i.toNat : Nat)) (e : xs[i.toNat]? = some v) (h : Q v H) : rGetL (.ref p) (.int i) H Q := ⟨p, xs, i, i.toNat, v, rfl, rfl, hp, hi, e, h⟩
theorem x_setL {p : Addr} {xs : List V} {i : Int} {j : Nat} {v : V} {P : Hp → Prop} (hp : H p = some (.lst xs)) (e : ixN xs.length i = some j) (h : P (upd H p (.lst (xs.set j v)))) : rSetL (.ref p) (.int i) v H P := ⟨p, xs, i, j, rfl, rfl, hp, e, h⟩
theorem x_len {p : Addr} {xs : List V} {Z : List V → Prop} (hp : SqL K H p xs) (h : Z xs) : ∃ p' ys, [V.ref p] = [V.ref p'] ∧ (SqL K H p' ys ∨ SqT K H p' ys) ∧ Z ys := ⟨p, xs, rfl, .inl hp, h⟩
theorem x_lenT {p : Addr} {xs : List V} {Z : List V → Prop} (hp : SqT K H p xs) (h : Z xs) : ∃ p' ys, [V.ref p] = [V.ref p'] ∧ (SqL K H p' ys ∨ SqT K H p' ys) ∧ Z ys := ⟨p, xs, rfl, .inr hp, h⟩
theorem x_int1 {i : Int} {Z : Int → Prop} (h : Z i) : ∃ j, [V.int i] = [V.int j] ∧ Z j := ⟨i, rfl, h⟩
theorem x_toTup {p : Addr} {xs : List V} {Z : List V → Prop} {Y : Addr → List V → Prop} (hp : SqL K H p xs) (h : Z xs) : ∃ p' ys, [V.ref p] = [V.ref p'] ∧ ((SqL K H p' ys ∧ Z ys) ∨ Y p' ys) := ⟨p, xs, rfl, .inl ⟨hp, h⟩⟩
theorem x_all {p : Addr} {bs : List Bool} (hp : SqL K H p (bs.map V.bl)) (h : Q (.bl (bs.all id)) H) : rAll K [.ref p] H Q := ⟨p, bs, rfl, hp, h⟩
theorem x_cat {p q : Addr} {xs ys : List V} (hp : H p = some (.lst xs)) (hq : H q = some (.lst ys)) (z : xs.length + ys.length ≤ sizeLine) (h : ∀ l, H l = none → Q (.ref l) (upd H l (.lst (xs ++ ys)))) : rCat (.ref p) (.ref q) H Q := ⟨p, q, xs, ys, rfl, rfl, hp, hq, z, h⟩
theorem x_rep {p : Addr} {k : Int} {xs : List V} (hp : H p = some (.lst xs)) (h1 : -(2 ^ 63) ≤ k) (h2 : k < 2 ^ 63) (z : xs.length * k.toNat ≤ sizeLine) (h : ∀ l, H l = none → Q (.ref l) (upd H l (.lst (List.replicate k.toNat xs).flatten))) : rRep (.ref p) (.int k) H Q := ⟨p, k, xs, rfl, rfl, hp, h1, h2, z, h⟩
theorem x_slL {p : Addr} {xs : List V} {lo hi : Option Int} (hp : SqL K H p xs) (h : ∀ l, H l = none → Q (.ref l) (upd H l (.lst (cutV xs lo hi)))) : rSlL K (.ref p) lo hi H Q := ⟨p, xs, rfl, hp, h⟩
theorem x_sl {r : V → Option Int → Option Int → Hp → VK → Prop} {tl th : TO} (h : te σ H fun x H1 => tl σ H1 fun l H2 => th σ H2 fun u H3 => r x l u H3 Q) : tSl r te tl th σ H Q := h
theorem x_noPart {QO : Option Int → Hp → Prop} (h : QO none H) : tNoPart σ H QO := h
theorem x_part {QO : Option Int → Hp → Prop} (h : te σ H fun x H1 => ∃ i, x = .int i ∧ QO (some i) H1) : tPart te σ H QO := h
theorem x_isI {i : Int} {Z : Int → Prop} (h : Z i) : ∃ j, V.int i = V.int j ∧ Z j := ⟨i, rfl, h⟩
theorem x_isD {M : List Addr} {x : V} {T : String} {d : PyData} (hd : Dn M H x d) (hT : T = "int" ∨ T = "bool" ∨ T = "list" ∨ T = "tuple" ∨ T = "str" ∨ T = "dict") (h : Q (.bl (isT T d)) H) : rIsD [x, .ty T] H Q := ⟨x, T, d, M, rfl, hd, hT, h⟩
theorem x_repr {M : List Addr} {x : V} {d : PyData} (hd : Dn M H x d) (hs : Shows d) (h : Q (.str d.shown) H) : rRepr [x] H Q := ⟨x, d, M, rfl, hd, hs, h⟩
theorem x_dnew {H : Hp} {Q : VK} {σ : L2.St} (h : ∀ p, H p = none → Q (.ref p) (upd H p (.dK []))) : tDNewK σ H Q := h
theorem x_disp {H : Hp} {Q : VK} {σ : L2.St} {trs : List (TE × TE)} (h : ∀ p, H p = none → tPairs trs σ (upd H p (.dK [])) fun ps H2 => H2 p = some (.dK []) ∧ ∃ kvs : List (Key × V), ps = kvs.map (fun kv => (kV kv.1, kv.2)) ∧ kvs.length ≤ 15 ∧ Q (.ref p) (upd H2 p (.dK (mergeK [] kvs)))) : tDisp trs σ H Q := h
-- loops
theorem x_for {wi : TI} {g : TG} {tb : TS} (h : wi σ H fun J H1 => ∃ W : Nat → Nat → L2.St → Hp → Prop, (∃ m, W 0 m σ H1) ∧ ∀ i m σ H, W i m σ H →
    (J.stop i H ∧ D.nx σ H) ∨ (J.go i H ∧ ∃ N : L2.St → Hp → Prop, (∀ σ' H', N σ' H' → ∃ m', m' < m ∧ W (i + 1) m' σ' H') ∧ ∀ x H', J.yld i H x H' → g x σ H' fun σ2 H2 => tb { D with nx := N, ct := N, bk := D.nx } σ2 H2)) : tFor wi g tb D σ H := h
theorem x_iL {tl : TE} {R : It → Hp → Prop} (h : tl σ H fun x H1 => ∃ a, x = .ref a ∧ (∃ xs, SqL K H1 a xs) ∧ R (Itl K a) H1) : iList K tl σ H R := h
theorem x_iT {tl : TE} {R : It → Hp → Prop} (h : tl σ H fun x H1 => ∃ a, x = .ref a ∧ (∃ xs, SqT K H1 a xs) ∧ R (Itt K a) H1) : iTup K tl σ H R := h
theorem x_r1 {R : It → Hp → Prop} (h : tr σ H fun vs H1 => ∃ j : Int, vs = [.int j] ∧ -(2 ^ 62) ≤ j ∧ j < 2 ^ 62 ∧ R (Itr 0 j.toNat) H1) : iRng1 tr σ H R := h
theorem x_r2 {R : It → Hp → Prop} (h : tr σ H fun vs H1 => ∃ i j : Int, vs = [.int i, .int j] ∧ (-(2 ^ 62) ≤ i ∧ i < 2 ^ 62 ∧ -(2 ^ 62) ≤ j ∧ j < 2 ^ 62) ∧ R (Itr i (j - i).toNat) H1) : iRng2 tr σ H R := h
theorem x_lp {p : Addr} {xs : List V} {Z : Addr → Prop} (hp : SqL K H p xs) (h : Z p) : ∃ a, V.ref p = V.ref a ∧ (∃ xs, SqL K H a xs) ∧ Z a := ⟨p, rfl, ⟨xs, hp⟩, h⟩
theorem x_tp {p : Addr} {xs : List V} {Z : Addr → Prop} (hp : SqT K H p xs) (h : Z p) : ∃ a, V.ref p = V.ref a ∧ (∃ xs, SqT K H a xs) ∧ Z a := ⟨p, rfl, ⟨xs, hp⟩, h⟩
theorem x_rg {j : Int} {Z : Int → Prop} (h1 : -(2 ^ 62) ≤ j) (h2 : j < 2 ^ 62) (h : Z j) : ∃ j' : Int, [V.int j] = [V.int j'] ∧ -(2 ^ 62) ≤ j' ∧ j' < 2 ^ 62 ∧ Z j' := ⟨j, rfl, h1, h2, h⟩
theorem x_rg2 {i j : Int} {Z : Int → Int → Prop} (h1 : -(2 ^ 62) ≤ i ∧ i < 2 ^ 62 ∧ -(2 ^ 62) ≤ j ∧ j < 2 ^ 62) (h : Z i j) : ∃ i' j' : Int, [V.int i, V.int j] = [V.int i', V.int j'] ∧ (-(2 ^ 62) ≤ i' ∧ i' < 2 ^ 62 ∧ -(2 ^ 62) ≤ j' ∧ j' < 2 ^ 62) ∧ Z i' j' := ⟨i, j, rfl, h1, h⟩
theorem x_lc {wi : TI} {g : TG} {tt : TT} {vs : List Nat} (h : wi σ H fun J H1 => ∀ L, H1 L = none → ∃ W : Nat → Nat → Hp → Prop, (∃ m, W 0 m (upd H1 L (.lst []))) ∧ ∀ i m H, W i m H →
    (J.stop i H ∧ Q (.ref L) H) ∨ (J.go i H ∧ ∃ N : Hp → Prop, (∀ H', N H' → ∃ m', m' < m ∧ W (i + 1) m' H') ∧ ∀ x H', J.yld i H x H' → g x (wipe σ vs) H' fun σ2 H2 => wipe σ2 vs = wipe σ vs ∧ tt σ2 H2 fun b H3 =>
      if b = true then te σ2 H3 fun y H4 => ∃ acc, H4 L = some (.lst acc) ∧ acc.length < sizeLine ∧ N (upd H4 L (.lst (acc ++ [y]))) else N H3)) : tLc wi g tt te vs σ H Q := h
theorem x_acc {L : Addr} {acc : List V} {Z : List V → Prop} (hl : H L = some (.lst acc)) (z : acc.length < sizeLine) (h : Z acc) : ∃ acc, H L = some (.lst acc) ∧ acc.length < sizeLine ∧ Z acc := ⟨acc, hl, z, h⟩
theorem x_wiped {A B : L2.St} {Z : Prop} (e : A = B) (h : Z) : A = B ∧ Z := ⟨e, h⟩
/-- a statement and what follows it, with a word of one's own between them -/
def tCut (t u : TS) : TS := fun D σ H => ∃ M : L2.St → Hp → Prop, (∀ σ1 H1, M σ1 H1 → u D σ1 H1) ∧ t { D with nx := M } σ H
theorem pss_cut {st : Stmt} {more : List Stmt} (a : PS X st t) (b : PSs X more u) : PSs X (st :: more) (tCut t u) := by
  constructor
  rintro pins s σ H D I ⟨M, hu, ht⟩
  apply wpAny_execs_cons
  refine thn (a.run pins s σ H _ I ht) fun f s1 h => ?_
  match f, h with
  | .next, ⟨σ1, H1, I1, m⟩ => exact b.run pins s1 σ1 H1 D I1 (hu σ1 H1 m)
  | .ret _, h => exact h
  | .brk, h => exact h
  | .cont, h => exact h
theorem x_cut (M : L2.St → Hp → Prop) (h : t { D with nx := M } σ H) (k : ∀ σ1 H1, M σ1 H1 → u D σ1 H1) : tCut t u D σ H := ⟨M, k, h⟩
theorem x_mod {g : Int → Int → V} {i j : Int} (hj : 0 < j) (h : Q (g i j) H) : rI (fun _ j => 0 < j) g (.int i) (.int j) H Q := ⟨i, j, rfl, rfl, hj, h⟩
theorem x_mul {g : Int → Int → V} {i j : Int} (hj : CMul i j) (h : Q (g i j) H) : rI CMul g (.int i) (.int j) H Q := ⟨i, j, rfl, rfl, hj, h⟩
theorem x_div {g : Int → Int → V} {i j : Int} (hj : CDivW i j) (h : Q (g i j) H) : rI CDivW g (.int i) (.int j) H Q := ⟨i, j, rfl, rfl, hj, h⟩
theorem x_pow {g : Int → Int → V} {i j : Int} (hj : CPow i j) (h : Q (g i j) H) : rI CPow g (.int i) (.int j) H Q := ⟨i, j, rfl, rfl, hj, h⟩
theorem ne_of_none2 {p q : Addr} {o : HO} (h : H p = none) (h' : H q = some o) : p ≠ q := fun e => by rw [e, h'] at h; cases h
theorem upd_ne2 {p q : Addr} {o : HO} {r : Option HO} (h : p ≠ q) (e : H p = r) : upd H q o p = r := (upd_ne h).trans e
end
/-! From the law's promise to the row's end; defs by their names. -/

/-- nothing is tracked but the script -/
def scriptH (K : PySem.W.Frag) (a : Addr) (o : Obj) (ns : List Int) : Hp :=
  fun b => if b = a ∧ K.lookup a = none then some (.frz o (.lst (ns.map V.int))) else none

section
variable {P : Program} {w : World} {K : PySem.W.Frag} {mg mb : Str → Option Value}
theorem script_run {k : Nat} {fa a : Addr} {fd : FuncData} {x : Str} {sp : Sp} {z : Shared} {vs : List Value} {ns : List Int}
    (kin : K.In z.heap) (gl : z.heap.Ns mainGlobals mg) (bl : z.heap.Ns builtinsNs mb) (bb : ∀ y : Str, y ≠ "__name__" → mb y = bootBuiltins y)
    (lim : z.heap.NoLimit) (sys : ∃ mm, z.heap.Ns sysModules mm) (gens : z.gens = #[])
    (ha : z.heap.get? a = some { cls := .type "list", data := .seq vs.toArray }) (hi : IntsAre vs ns) (few : ns.length ≤ sizeLine) (room : Room k callerA)
    (F : ∀ base : Heap, K.In base → base.Ns mainGlobals mg → (∃ o, base.get? sysModules = some o) → FnG P w K mg base k fa fd [x] sp)
    (bind : ∀ (s : Shared) (u : Value), BindsTo s fd ⟨[u], []⟩ [(x, u)])
    (want : ∀ H : Hp, SqL K H a (ns.map V.int) → sp [.ref a] H (fun v _ => v = .bl true) E0) :
    codeAny (model P w) callerA (.call (.ref fa) ⟨[.ref a], []⟩)
      (fun r z' => r = .ok (.ret (.bool true)) ∧ OldK z.heap z'.heap ∧ z'.os = z.os ∧ AllBare z'.gens) z := by
  have rv : Vals (ns.map V.int) vs := vals_of_ints hi
  let ob : Obj := { cls := .type "list", data := .seq vs.toArray }
  let H := scriptH K a ob ns
  have only : ∀ b u, H b = some u → b = a ∧ K.lookup a = none ∧ u = .frz ob (.lst (ns.map V.int)) := by
    intro b u e
    show b = a ∧ _
    have e : (if b = a ∧ K.lookup a = none then some (HO.frz ob (.lst (ns.map V.int))) else none) = some u := e
    split at e
    · rename_i h; cases e; exact ⟨h.1, h.2, rfl⟩
    · cases e
  have seen : SqL K H a (ns.map V.int) := by
    cases q : K.lookup a with
    | none => exact .inl (.inr ⟨ob, if_pos ⟨rfl, q⟩⟩)
    | some o =>
      have e := kin a o q
      rw [ha] at e
      cases e
      exact .inr ⟨_, vs.toArray, _, q, rfl, rfl, rfl, by rw [List.size_toArray, hi.length]; exact few, by simpa using rv⟩
  have hok : HOk P w H z.heap := by
    intro b u e
    obtain ⟨rfl, _, rfl⟩ := only b u e
    exact ⟨ha, by rw [List.length_map]; exact few, vs, _, rv, ha⟩
  have notDict : ∀ {b : Addr} {o : Obj} {es : Array DictEntry} {ep : Nat}, z.heap.get? b = some o → o.data = .dict es ep → H b = none := by
    intro b o es ep e d
    cases q : H b with
    | none => rfl
    | some u =>
      obtain ⟨rfl, _, _⟩ := only b u q
      rw [ha] at e; cases e; cases d
  have ns_ : ∀ {b : Addr} {m : Str → Option Value}, z.heap.Ns b m → (hidT z.heap H).Ns b m := by
    rintro b m ⟨o, es, ep, e, d, r⟩
    exact ⟨o, es, ep, hidT_get e (notDict e d), d, r⟩
  have kin' : K.In (hidT z.heap H) := by
    intro b o e
    refine hidT_get (kin b o e) ?_
    cases q : H b with
    | none => rfl
    | some u =>
      obtain ⟨rfl, n, _⟩ := only b u q
      rw [n] at e; cases e
  have modu : Mod K mg (hidT z.heap H) :=
    ⟨kin', ns_ gl, ⟨mb, ns_ bl, bb⟩, by obtain ⟨mc, h1, h2⟩ := lim; exact ⟨mc, ns_ h1, h2⟩⟩
  have sys' : ∃ o, (hidT z.heap H).get? sysModules = some o := by
    obtain ⟨mm, h⟩ := sys
    obtain ⟨o, _, _, e, _⟩ := ns_ h
    exact ⟨o, e⟩
  have entry : Env0 P w K mg (hidT z.heap H) callerA [] z H :=
    ⟨rfl, modu, fun b o e => of_hidT e, Nat.le_of_eq (hidT_size _ _), trivial, fun b hb => absurd hb (by simp [frs]), hok, .of_eq gens⟩
  refine codeAny_mono ((F _ kin' (ns_ gl) sys').go callerA [] z H ⟨[.ref a], []⟩ [.ref a] [.ref a] _ _ room rfl entry (bind z (.ref a)) (.cons rfl .nil) (want H seen)) ?_
  intro r z' h
  match r, h with
  | .error e, h => exact False.elim h
  | .ok .next, h => exact False.elim h
  | .ok .brk, h => exact False.elim h
  | .ok .cont, h => exact False.elim h
  | .ok (.ret u), h =>
    obtain ⟨v, H', os, bare, un, hok', rv', q⟩ := h
    have q : v = .bl true := q
    subst q
    have rv' : u = Value.bool true := rv'
    subst rv'
    refine ⟨rfl, OldK.of_keep ?_, os, bare⟩
    intro b o e
    cases q : H b with
    | none => exact un.keep b o e q (by simp [frs]) (by simp)
    | some u =>
      obtain ⟨rfl, _, rfl⟩ := only b u q
      have e1 := (hok b _ q).1
      have e2 := (hok' b _ (un.frzs b ob _ q)).1
      rw [e] at e1; cases e1
      exact e2

theorem walk_g {l : PySem.W.OpenLaw} {n k : Nat} {q : Program} {loose : List Str} {XP : (Str → Option Value) → Heap → Prop} {YP : World → Heap → Prop} {d : DefRec} {KK : Params → PySem.W.Frag} {sp : PySem.W.Frag → Sp} {x : Str}
    (hn : l.most = some n) (small : n ≤ sizeLine) (hdf : d.params.defaults = []) (room : Room k callerA) (none_ : importsNone q = true)
    (hY : ∀ (w : World) (h : Heap), YP w h → (KK w.params).In h)
    (F : ∀ (w : World) (mg : Str → Option Value) (fa : Addr) (h : Heap), (KK w.params).In h → h.Ns mainGlobals mg → mg d.name = some (.ref fa) →
      ∃ fd : FuncData, (∀ (s : Shared) (u : Value), BindsTo s fd ⟨[u], []⟩ [(x, u)]) ∧
        ∀ base : Heap, (KK w.params).In base → base.Ns mainGlobals mg → (∃ o, base.get? sysModules = some o) → FnG l.prog w (KK w.params) mg base k fa fd [x] (sp (KK w.params)))
    (want : ∀ (K : PySem.W.Frag) (H : Hp) (a : Addr) (ns : List Int), ns.length ≤ n → SqL K H a (ns.map V.int) → sp K [.ref a] H (fun v _ => v = .bl true) E0) :
    PySem.W.WalkO q loose XP YP l.row.toRowW d [] (fun f vs => PySem.call f vs) := by
  refine Att.attach_call hn hdf ?_
  intro w s0 z mg mb fa o pm cd doc a vs ns G Y ho hd hcd hmg hobj hints hlen hg
  have kin := hY w _ Y
  obtain ⟨fd, hb, hF⟩ := F w mg fa _ kin G.T.g hmg
  have sys : ∃ mm, z.heap.Ns sysModules mm := by
    obtain ⟨mm, h, _⟩ := (G.T.seer none_).mods
    exact ⟨mm, h⟩
  exact script_run kin G.T.g G.T.b G.T.builtins G.T.nolimit sys hg hobj hints (Nat.le_trans hlen small) room hF hb (fun H hS => want _ H a ns hlen hS)

/-! ### defs by name -/
structure Df (K : PySem.W.Frag) (mg : Str → Option Value) (nm : Str) (st : Stmt) : Prop where
  ex : ∃ f fd, Fun K nm nm st f fd ∧ mg nm = some (.ref f)
theorem df_mk {h : Heap} {nm : Str} {st : Stmt} {f : Addr} {oc : Value} {od an : Option Addr} {osl : Array (Option Value)} {kV doc pm cdv ct : Value} (X : K.In h) (G : h.Ns mainGlobals mg)
    (a : PySem.W.nsIn K mainGlobals nm = some (some (.ref f)))
    (l : K.lookup f = some ⟨oc, od, .func (PySem.W.fnOf nm nm (defArgs st) (defBody st) (defScope st) .none kV doc pm an cdv ct), osl⟩)
    (c : PySem.W.codeIn K cdv nm = true) (k : PySem.W.keepIn K (.ref f) = true) : Df K mg nm st :=
  ⟨f, _, fun_mk l c k, PySem.W.mg_of X G a⟩

theorem kn_of {base : Heap} {nm : Str} {st : Stmt} {N ps : List Str} {k : Nat} {sp : Sp} (D : Df K mg nm st)
    (bd : ∀ (kV doc pm : Value) (an : Option Addr) (cdv ct : Value) (us : List Value), us.length = ps.length → bindArgs (PySem.W.fnOf nm nm (defArgs st) (defBody st) (defScope st) .none kV doc pm an cdv ct) ⟨us, []⟩ = pure (ps.zip us))
    (S : FnScope N ps (defScope st)) (len : ∀ vs H Q E, sp vs H Q E → vs.length = ps.length)
    (body : ∀ (f : Addr) (cd : Value) (B : Around) (fr : List Env) (z : Shared) (H : Hp) (vs : List V) (Q : VK) (E : XK),
      Room k (B.deeper (envOfC nm (defScope st) z.heap.objs.size f cd)) →
      (B.deeper (envOfC nm (defScope st) z.heap.objs.size f cd)).guards = some [] → sp vs H Q E →
      ∃ t, PSs (bodyX P w K mg base N nm st f cd B fr z H E) (defBody st) t ∧
        t { nx := fun _ H' => Q .non H', rt := Q } (start N vs) H) : Kn P w K mg base nm (k + 1) sp := by
  obtain ⟨f, fd, F, hm⟩ := D.ex
  exact ⟨f, fd, ps, FnG.mk' F S len (body f), hm, F.kp, F.binds bd⟩
/-- the law's own def, for the row's end -/
theorem law_of {nm x : Str} {st : Stmt} {N : List Str} {k : Nat} {sp : Sp} {fa : Addr} (D : Df K mg nm st) (hfa : mg nm = some (.ref fa))
    (bd : ∀ (kV doc pm : Value) (an : Option Addr) (cdv ct : Value) (us : List Value), us.length = ([x] : List Str).length → bindArgs (PySem.W.fnOf nm nm (defArgs st) (defBody st) (defScope st) .none kV doc pm an cdv ct) ⟨us, []⟩ = pure (([x] : List Str).zip us))
    (S : FnScope N [x] (defScope st)) (len : ∀ vs H Q E, sp vs H Q E → vs.length = ([x] : List Str).length)
    (body : ∀ (base : Heap), (∃ o, base.get? sysModules = some o) → ∀ (f : Addr) (cd : Value) (B : Around) (fr : List Env) (z : Shared) (H : Hp) (vs : List V) (Q : VK) (E : XK),
      Room k (B.deeper (envOfC nm (defScope st) z.heap.objs.size f cd)) →
      (B.deeper (envOfC nm (defScope st) z.heap.objs.size f cd)).guards = some [] → sp vs H Q E →
      ∃ t, PSs (bodyX P w K mg base N nm st f cd B fr z H E) (defBody st) t ∧
        t { nx := fun _ H' => Q .non H', rt := Q } (start N vs) H) :
    ∃ fd : FuncData, (∀ (s : Shared) (u : Value), BindsTo s fd ⟨[u], []⟩ [(x, u)]) ∧
      ∀ base : Heap, K.In base → base.Ns mainGlobals mg → (∃ o, base.get? sysModules = some o) → FnG P w K mg base (k + 1) fa fd [x] sp := by
  obtain ⟨f, fd, F, hm⟩ := D.ex
  cases hfa.symm.trans hm
  refine ⟨fd, fun s u => ?_, fun base _ _ sys => FnG.mk' F S len (body base sys fa)⟩
  obtain ⟨oc, od, kV, doc, pm, an, cd, ct, osl, rfl, lk, hc⟩ := F.ex
  exact .of_eq (bd kV doc pm an cd ct [u] rfl)
end
/-! What data show; texts times a number; data as the deep equality wants them. -/

/-! ### sizes of what is shown -/
structure Sz (d : PyData) (p q : Nat) : Prop where
  sh : d.showable = true
  sz : d.shown.length ≤ p
  dp : d.depth ≤ q
theorem Sz.shows {d : PyData} {p q : Nat} (h : Sz d p q) (hp : p ≤ 8000000) (hq : q ≤ 20) : Shows d := ⟨h.sh, Nat.le_trans h.sz hp, Nat.le_trans h.dp hq⟩
theorem Sz.mono {d : PyData} {p q p' q' : Nat} (h : Sz d p q) (hp : p ≤ p') (hq : q ≤ q') : Sz d p' q' := ⟨h.sh, Nat.le_trans h.sz hp, Nat.le_trans h.dp hq⟩
theorem piled_le {p : Nat} : ∀ {ts : List Str}, (∀ t ∈ ts, t.length ≤ p) → piled ts ≤ ts.length * (p + 2)
  | [], _ => by simp [piled]
  | t :: r, h => by
    rw [piled_cons]
    have h1 := h t (by simp)
    have h2 := piled_le (p := p) (ts := r) fun u hu => h u (by simp [hu])
    rw [List.length_cons, Nat.succ_mul]
    omega
theorem textFrom_le : ∀ (ts : List Str) (k : Nat) (acc : Str), (textFrom k acc ts).length ≤ acc.length + piled ts
  | [], k, acc => by rw [piled_nil]; exact Nat.le_refl _
  | t :: r, k, acc => by
    have h := textFrom_le r (k + 1) (acc ++ (if k > 0 then ", " else "" : String) ++ t)
    have e : (acc ++ (if k > 0 then ", " else "" : String) ++ t).length ≤ acc.length + 2 + t.length := by
      rw [strLen_append, strLen_append]
      split
      · exact Nat.le_of_eq rfl
      · show acc.length + 0 + t.length ≤ _; omega
    rw [piled_cons]
    show (textFrom (k + 1) _ r).length ≤ _
    omega
theorem listText_le (ts : List Str) : (listText ts).length ≤ piled ts + 2 := by
  unfold listText
  rw [strLen_append]
  have h := textFrom_le ts 0 "["
  have e : (("[" : String) : Str).length = 1 := rfl
  have e2 : (("]" : String) : Str).length = 1 := rfl
  omega
theorem join_le (ts : List Str) : (Str.join ", " ts).length ≤ piled ts := by
  cases ts with
  | nil => exact Nat.zero_le _
  | cons t r => have := join_length_add (t :: r) (by simp); omega
theorem tupleText_le (ts : List Str) : (tupleText ts).length ≤ piled ts + 3 := by
  unfold tupleText
  rw [strLen_append, strLen_append]
  have h := join_le ts
  have e : (("(" : String) : Str).length = 1 := rfl
  have e2 : (((if ts.length == 1 then ",)" else ")" : String)) : Str).length ≤ 2 := by split <;> decide
  omega
theorem dictText_le (ts : List Str) : (dictText ts).length ≤ piled ts + 2 := by
  unfold dictText
  rw [strLen_append, strLen_append]
  have h := join_le ts
  have e : (("{" : String) : Str).length = 1 := rfl
  have e2 : (("}" : String) : Str).length = 1 := rfl
  omega
theorem all_sz {p q : Nat} : ∀ {ds : List PyData}, (∀ d ∈ ds, Sz d p q) → PyData.showableAll ds = true ∧ (∀ t ∈ PyData.shownAll ds, t.length ≤ p) ∧ PyData.depthAll ds ≤ q ∧ (PyData.shownAll ds).length = ds.length
  | [], _ => ⟨rfl, by simp [PyData.shownAll], Nat.zero_le _, rfl⟩
  | d :: r, h => by
    obtain ⟨a, b, c, e⟩ := all_sz (p := p) (q := q) (ds := r) fun u hu => h u (by simp [hu])
    have hd := h d (by simp)
    refine ⟨by simp only [PyData.showableAll, hd.sh, a, Bool.and_self], ?_, by simp only [PyData.depthAll]; exact Nat.max_le.mpr ⟨hd.dp, c⟩, by simp [PyData.shownAll, e]⟩
    intro t ht
    simp only [PyData.shownAll] at ht
    rcases List.mem_cons.mp ht with rfl | ht
    · exact hd.sz
    · exact b t ht
theorem sz_list {p q : Nat} {ds : List PyData} (h : ∀ d ∈ ds, Sz d p q) : Sz (.list ds) (ds.length * (p + 2) + 3) (q + 1) := by
  obtain ⟨a, b, c, e⟩ := all_sz h
  refine ⟨by simpa only [PyData.showable] using a, ?_, by simp only [PyData.depth]; omega⟩
  simp only [PyData.shown]
  have h1 := listText_le (PyData.shownAll ds)
  have h2 := piled_le b
  rw [e] at h2
  omega
theorem sz_tuple {p q : Nat} {ds : List PyData} (h : ∀ d ∈ ds, Sz d p q) : Sz (.tuple ds) (ds.length * (p + 2) + 3) (q + 1) := by
  obtain ⟨a, b, c, e⟩ := all_sz h
  refine ⟨by simpa only [PyData.showable] using a, ?_, by simp only [PyData.depth]; omega⟩
  simp only [PyData.shown]
  have h1 := tupleText_le (PyData.shownAll ds)
  have h2 := piled_le b
  rw [e] at h2
  omega
theorem sz_none : Sz .none 5 0 := ⟨rfl, by decide, by decide⟩
theorem sz_bool (b : Bool) : Sz (.bool b) 5 0 := ⟨rfl, by cases b <;> decide, by cases b <;> decide⟩
theorem sz_int {i : Int} (h : i.natAbs < 2 ^ 200) : Sz (.int i) 201 0 := by
  have hl : i.natAbs.log2 < 1920 := Nat.lt_of_le_of_lt (by
    by_cases h0 : i.natAbs = 0
    · rw [h0]; decide
    · exact Nat.le_of_lt ((Nat.log2_lt h0).mpr h)) (by decide : 200 < 1920)
  refine ⟨by simpa only [PyData.showable] using decide_eq_true hl, ?_, Nat.le_refl _⟩
  simp only [PyData.shown]
  show (Str.ofString (toString i)).length ≤ _
  rw [PySem.ofString_length]
  cases i with
  | ofNat n =>
    show (Nat.repr n).length ≤ _
    exact Nat.le_trans (nat_repr_length_le (by decide) h) (by decide)
  | negSucc n =>
    show ("-" ++ Nat.repr (n + 1)).length ≤ _
    rw [String.length_append]
    have := nat_repr_length_le (n := n + 1) (k := 200) (by decide) h
    have e : ("-" : String).length = 1 := by decide
    omega
theorem sz_zero : Sz (.int 0) 1 0 := ⟨by decide, by decide, by decide⟩

/-! ### 'a' * n -/
section
variable {X : Cx}
def rMulStr : R2 := fun x y H Q => ∃ s n, x = .str s ∧ y = .int n ∧ MulOk s n ∧ Q (.str (Txt.mul s n)) H
theorem op_mulStr : OpR X (binaryOp .Mult) rMulStr := by
  intro pins s σ H x y v u Q I rx ry h
  obtain ⟨z, n, rfl, rfl, ok, q⟩ := h
  obtain ⟨t, rfl⟩ := rx
  obtain ⟨t', rfl⟩ := ry
  exact SB.mul ok fun t' k => ⟨.str _, H, I.tok _, ⟨_, rfl⟩, q⟩
theorem x_mulS {H : Hp} {Q : VK} {s : Str} {n : Int} (ok : MulOk s n) (h : Q (.str (Txt.mul s n)) H) : rMulStr (.str s) (.int n) H Q := ⟨s, n, rfl, rfl, ok, h⟩
end

/-! ### data without dicts, for == -/
mutual
theorem Dn.dp {K : PySem.W.Frag} {M : List Addr} {H : Hp} : ∀ {v : V} {d : PyData}, Dn M H v d → d.hasDict = false → Dp K H v d
  | _, _, .non, _ => .non
  | _, _, .bl b, _ => .bl b
  | _, _, .int i, _ => .int i
  | _, _, .str x, _ => .str x
  | _, _, .lst e _ a, h => .lst (SqL.of e) (DnAll.dp a (by simpa only [PyData.hasDict] using h))
  | _, _, .tup e _ a, h => .tup (SqT.of e) (DnAll.dp a (by simpa only [PyData.hasDict] using h))
  | _, _, .dic _ _ _ _, h => by simp only [PyData.hasDict] at h; cases h
theorem DnAll.dp {K : PySem.W.Frag} {M : List Addr} {H : Hp} : ∀ {v : List V} {d : List PyData}, DnAll M H v d → PyData.hasDictAll d = false → DpAll K H v d
  | _, _, .nil, _ => .nil
  | _, _, .cons a b, h => by
    simp only [PyData.hasDictAll, Bool.or_eq_false_iff] at h
    exact .cons (Dn.dp a h.1) (DnAll.dp b h.2)
end
/-- equal data are equal -/
theorem x_eqSame {K : PySem.W.Frag} {M : List Addr} {H : Hp} {Q : VK} {x y : V} {d : PyData} (hx : Dn M H x d) (hy : Dn M H y d) (sh : SeqAt.shaped d = true) (h : Q (.bl true) H) : rEqD K x y H Q := by
  have c := SeqAt.canLay_of_shaped sh
  have n := PyData.hasDict_of_canLay d c
  refine ⟨d, d, hx.dp n, hy.dp n, sh, sh, ?_⟩
  rw [SeqAt.eqv_refl d c]
  exact h
/-- new objects beside what stands -/
theorem new_out {H H1 : Hp} {b p : Addr} {o : HO} (S : Same H H1) (hb : H b = some o) (hp : H1 p = none) : p ∉ [b] := by
  intro m
  have e : p = b := by simpa using m
  subst e
  rw [S _ _ hb] at hp; cases hp
theorem grow {H H1 : Hp} {b p : Addr} {o u : HO} {vs : List V} {ds : List PyData} {d : PyData} (S : Same H H1) (hb : H b = some o) (A : DnAll [b] H1 vs ds) (hp : H1 p = none)
    (hd : p ∉ [b] → Dn [b] (upd H1 p u) (.ref p) d) : Same H (upd H1 p u) ∧ DnAll [b] (upd H1 p u) (vs ++ [.ref p]) (ds ++ [d]) :=
  ⟨S.trans (same_upd hp), (A.ext (Ext.same (same_upd hp))).app (.cons (hd (new_out S hb hp)) .nil)⟩
theorem put {H H1 : Hp} {b p : Addr} {o : HO} {vs : List V} {ds : List PyData} (u : HO) (S : Same H H1) (hb : H b = some o) (A : DnAll [b] H1 vs ds) (hp : H1 p = none) :
    Same H (upd H1 p u) ∧ DnAll [b] (upd H1 p u) vs ds ∧ p ∉ [b] ∧ upd H1 p u p = some u :=
  ⟨S.trans (same_upd hp), A.ext (Ext.same (same_upd hp)), new_out S hb hp, upd_same⟩
theorem DnAll.rep {M : List Addr} {H : Hp} {v : V} {d : PyData} (h : Dn M H v d) : ∀ n : Nat, DnAll M H (List.replicate n [v]).flatten (List.replicate n d)
  | 0 => .nil
  | n + 1 => by rw [List.replicate_succ, List.replicate_succ, List.flatten_cons]; exact .cons h (DnAll.rep h n)
theorem atI_of {α : Type} {xs : List α} {i : Int} (h0 : 0 ≤ i) (h1 : i < xs.length) : ∃ v, xs[i.toNat]? = some v ∧ atI xs i = some v := by
  have hi : i.toNat < xs.length := by omega
  refine ⟨xs[i.toNat], List.getElem?_eq_getElem hi, ?_⟩
  have e : i = (i.toNat : Nat) := by omega
  have := atI_nat (xs := xs) (j := i.toNat) (v := xs[i.toNat]) (List.getElem?_eq_getElem hi)
  rw [← e] at this
  exact this
theorem x_revL {K : PySem.W.Frag} {H : Hp} {p : Addr} {xs : List V} {Z : List V → Prop} (hp : SqL K H p xs) (h : Z xs) : ∃ a ys, V.ref p = .ref a ∧ SqL K H a ys ∧ Z ys := ⟨p, xs, rfl, hp, h⟩
theorem x_rev {K : PySem.W.Frag} {σ : L2.St} {H : Hp} {Q : VK} {te : TE} (h : te σ H fun x H1 => ∃ a ys, x = .ref a ∧ SqL K H1 a ys ∧ ∀ l, H1 l = none → Q (.ref l) (upd H1 l (.lst ys.reverse))) : tRevL K te σ H Q := h
theorem ix_at {H : Hp} {p : Addr} {xs : List V} {i : Int} (_ : H p = some (.lst xs)) (h0 : 0 ≤ i) (h1 : i < xs.length) : ∃ v, xs[i.toNat]? = some v ∧ atI xs i = some v := atI_of h0 h1
def topS (i : Nat) : Stmt := PySem.Challenge.pw_leadswitch_k11_kinds.main.body.getD i (.Pass ⟨0, 0, 0, 0⟩)
abbrev s_is_integer : Stmt := topS 3
theorem sc_is_integer : FnScope ["thing"] ["thing"] (defScope s_is_integer) := ⟨rfl, rfl, rfl, by decide +kernel, rfl, by decide +kernel, by decide +kernel⟩
abbrev s_is_amount : Stmt := topS 4
theorem sc_is_amount : FnScope ["thing"] ["thing"] (defScope s_is_amount) := ⟨rfl, rfl, rfl, by decide +kernel, rfl, by decide +kernel, by decide +kernel⟩
abbrev s_is_count : Stmt := topS 5
theorem sc_is_count : FnScope ["thing"] ["thing"] (defScope s_is_count) := ⟨rfl, rfl, rfl, by decide +kernel, rfl, by decide +kernel, by decide +kernel⟩
abbrev s_is_broker : Stmt := topS 6
theorem sc_is_broker : FnScope ["thing", "size"] ["thing", "size"] (defScope s_is_broker) := ⟨rfl, rfl, rfl, by decide +kernel, rfl, by decide +kernel, by decide +kernel⟩
abbrev s_is_set : Stmt := topS 7
theorem sc_is_set : FnScope ["thing", "size", "before", "broker"] ["thing", "size"] (defScope s_is_set) := ⟨rfl, rfl, rfl, by decide +kernel, rfl, by decide +kernel, by decide +kernel⟩
abbrev s_Lbag : Stmt := topS 9
theorem sc_Lbag : FnScope ["_law_script", "_law_cell"] ["_law_script"] (defScope s_Lbag) := ⟨rfl, rfl, rfl, by decide +kernel, rfl, by decide +kernel, by decide +kernel⟩
abbrev s_Ltake : Stmt := topS 10
theorem sc_Ltake : FnScope ["_law_bag_here", "_law_many", "_law_cell", "_law_value", "_law_first", "_law_second"] ["_law_bag_here", "_law_many"] (defScope s_Ltake) := ⟨rfl, rfl, rfl, by decide +kernel, rfl, by decide +kernel, by decide +kernel⟩
abbrev s_Lalike : Stmt := topS 11
theorem sc_Lalike : FnScope ["_law_found", "_law_due"] ["_law_found", "_law_due"] (defScope s_Lalike) := ⟨rfl, rfl, rfl, by decide +kernel, rfl, by decide +kernel, by decide +kernel⟩
abbrev s_Lodd : Stmt := topS 12
theorem sc_Lodd : FnScope ["_law_bag_here", "_law_deep", "_law_k", "_law_some"] ["_law_bag_here"] (defScope s_Lodd) := ⟨rfl, rfl, rfl, by decide +kernel, rfl, by decide +kernel, by decide +kernel⟩
abbrev s_Lwhole : Stmt := topS 13
theorem sc_Lwhole : FnScope ["_law_thing", "_law_least", "_law_most"] ["_law_thing", "_law_least", "_law_most"] (defScope s_Lwhole) := ⟨rfl, rfl, rfl, by decide +kernel, rfl, by decide +kernel, by decide +kernel⟩
abbrev s_Lis_set : Stmt := topS 14
theorem sc_Lis_set : FnScope ["_law_thing", "_law_size", "_law_broker", "_law_k"] ["_law_thing", "_law_size"] (defScope s_Lis_set) := ⟨rfl, rfl, rfl, by decide +kernel, rfl, by decide +kernel, by decide +kernel⟩
abbrev s_Lnumber : Stmt := topS 15
theorem sc_Lnumber : FnScope ["_law_bag_here", "_law_some"] ["_law_bag_here"] (defScope s_Lnumber) := ⟨rfl, rfl, rfl, by decide +kernel, rfl, by decide +kernel, by decide +kernel⟩
abbrev s_Lbrokers : Stmt := topS 16
theorem sc_Lbrokers : FnScope ["_law_bag_here", "_law_size", "_law_found", "_law_at", "_law_way", "_law_broker"] ["_law_bag_here", "_law_size"] (defScope s_Lbrokers) := ⟨rfl, rfl, rfl, by decide +kernel, rfl, by decide +kernel, by decide +kernel⟩
abbrev s_law : Stmt := topS 17
theorem sc_law : FnScope ["_law_script", "_law_bag_here", "_law_turn", "_law_size", "_law_thing", "_law_shown", "_law_due", "_law_again", "_law_found"] ["_law_script"] (defScope s_law) := ⟨rfl, rfl, rfl, by decide +kernel, rfl, by decide +kernel, by decide +kernel⟩

local macro_rules | `(tactic| walk_at "ne") => `(tactic| first
  | assumption | exact Ne.symm (by assumption) | exact ne_of_none (by walk_at "lk") (by assumption) | exact ne_of_none2 (by assumption) (by walk_at "lk"))
local macro_rules | `(tactic| walk_at "lk") => `(tactic| first
  | assumption
  | exact upd_same
  | (refine' upd_ne2 ?kn ?ke; (case kn => walk_at "ne"); (case ke => walk_at "lk"))
  | (refine' SqL.of ?ke; (case ke => walk_at "lk"))
  | (refine' SqT.of ?ke; (case ke => walk_at "lk")))
local macro_rules | `(tactic| walk_at "y") => `(tactic| first
  | (with_reducible first
    | refine x_seq ?_ | refine x_asg ?_ | refine x_name ?_ | refine x_op ?_ | refine x_c ?_
    | refine x_I0 ?_ | refine x_cons ?_ | refine x_nil ?_ | refine x_cb ?_ | refine x_call ?_ | refine x_ret ?_ | refine x_retN ?_
    | refine x_ifS ?_ | refine x_test ?_ | refine x_B ?_ | refine x_bl ?_ | refine x_eqI ?_ | refine x_neI ?_ | refine x_drop ?_ | refine x_next ?_
    | refine x_and ?_ | refine x_or ?_ | refine x_not ?_ | refine x_notV ?_ | refine x_if ?_ | refine x_chain ?_
    | refine x_un ?_ | refine x_U ?_ | refine x_iteT ?_ | refine x_iteF ?_ | refine x_iteNT ?_ | refine x_iteNF ?_ | refine x_yes ?_
    | refine x_augS ?_ | refine x_ipI ?_ | refine x_gsub ?_ | refine x_par ?_ | refine x_par2 ?_ | refine x_lst ?_ | refine x_tup ?_ | refine x_break ?_ | refine x_cont ?_
    | refine x_rev ?_ | refine x_dnew ?_ | refine x_disp ?_ | refine x_eqS ?_ | refine x_neS ?_ | refine x_isI ?_ | refine x_sl ?_ | refine x_noPart ?_ | refine x_part ?_ | refine x_for ?_ | refine x_iL ?_ | refine x_iT ?_ | refine x_r1 ?_ | refine x_r2 ?_ | refine x_lc ?_)
  | ((with_reducible refine' x_var ?ke ?kh); (case ke => rfl))
  | ((with_reducible refine' x_ixL ?kp ?ke ?kh); (case kp => walk_at "lk"); (case ke => rfl))
  | ((with_reducible refine' x_ixT ?kp ?ke ?kh); (case kp => walk_at "lk"); (case ke => rfl))
  | ((with_reducible refine' x_getL ?kp ?ki ?ke ?kh); (case kp => walk_at "lk"); (case ki => rfl); (case ke => rfl))
  | ((with_reducible refine' x_setL ?kp ?ke ?kh); (case kp => walk_at "lk"); (case ke => rfl))
  | ((with_reducible refine' x_len ?kp ?kh); (case kp => walk_at "lk"))
  | ((with_reducible refine' x_lenT ?kp ?kh); (case kp => walk_at "lk"))
  | ((with_reducible refine' x_all ?kp ?kh); (case kp => walk_at "lk"))
  | ((with_reducible refine' x_slL ?kp ?kh); (case kp => walk_at "lk"))
  | ((with_reducible refine' x_cat ?kp ?kq ?kz ?kh); (case kp => walk_at "lk"); (case kq => walk_at "lk"); (case kz => walk_at "sz"))
  | ((with_reducible refine' x_toTup ?kp ?kh); (case kp => walk_at "lk"))
  | ((with_reducible refine' x_lp ?kp ?kh); (case kp => walk_at "lk"))
  | ((with_reducible refine' x_tp ?kp ?kh); (case kp => walk_at "lk"))
  | ((with_reducible refine' x_rg ?kp ?kq ?kh); (case kp => walk_at "ar"); (case kq => walk_at "ar"))
  | ((with_reducible refine' x_rg2 ?kp ?kh); (case kp => walk_at "ar"))
  | (with_reducible refine x_int1 ?_)
  | ((with_reducible refine' x_isD ?kp ?kq ?kh); (case kp => walk_at "dn"); (case kq => simp))
  | ((with_reducible refine' x_new ?kp ?kh); (case kp => exact Nat.le_of_ble_eq_true rfl))
  | ((with_reducible refine' x_mod ?kp ?kh); (case kp => decide))
  | ((with_reducible refine' x_mul ?kp ?kh); (case kp => walk_at "mulok"))
  | ((with_reducible refine' x_pow ?kp ?kh); (case kp => exact ⟨by decide, by decide, by decide⟩)))
local macro_rules | `(tactic| walk_at "ar") => `(tactic| first | decide | omega | (refine ⟨?_, ?_, ?_, ?_⟩ <;> (first | decide | omega)))
local macro_rules | `(tactic| walk_at "dn") => `(tactic| assumption)
local macro_rules | `(tactic| walk_at "mulok") => `(tactic| first | (exact .inl ⟨by omega, by omega⟩) | (exact .inr ⟨by omega, by omega⟩))
local macro_rules | `(tactic| walk_at "sz") => `(tactic| first | decide | (simp only [List.length_append, List.length_cons, List.length_nil, List.length_map, List.length_singleton, sizeLine_eq]; omega))
local macro_rules | `(tactic| walk_at "x") => `(tactic| first | walk_at "y" | (with_reducible refine x_andV ?_) | (with_reducible refine x_orV ?_))
local macro_rules | `(tactic| walk_at "ys") => `(tactic| repeat walk_at "y")
local macro_rules | `(tactic| walk_at "xs") => `(tactic| repeat walk_at "x")


/-- the drawn bag -/
def Bag (H : Hp) (b c : Addr) : Prop := ∃ (x y : Int) (k : Nat) (cs : List Int), H b = some (.lst [.int x, .int y, .int k, .ref c]) ∧ H c = some (.lst (cs.map V.int)) ∧
  0 ≤ x ∧ 0 ≤ y ∧ y < 2147483647 ∧ (∀ z ∈ cs, 0 ≤ z) ∧ c ≠ b
def spTake : Sp := fun vs H Q _ => ∃ b c n, vs = [.ref b, .int n] ∧ Bag H b c ∧ 0 < n ∧ n.natAbs < 2 ^ 200 ∧
  ∀ H' v, Ext [b] H H' → Bag H' b c → 0 ≤ v → v < n → Q (.int v) H'

section
variable {P : Program} {w : World} {K : PySem.W.Frag} {mg : Str → Option Value} {base : Heap} {tA tC : Tok}
structure Bl (mg : Str → Option Value) (tA tC : Tok) : Prop where
  MOST_AMOUNT : mg "MOST_AMOUNT" = some (.int (10 ^ 30) tA)
  MOST_COUNT : mg "MOST_COUNT" = some (.int (10 ^ 18) tC)
  isinstance : mg "isinstance" = none
  «int» : mg "int" = none
  «bool» : mg "bool" = none
  «list» : mg "list" = none
  «tuple» : mg "tuple" = none
  len : mg "len" = none
  abs : mg "abs" = none
  range : mg "range" = none
  repr : mg "repr" = none
  all : mg "all" = none

theorem kn_take {k : Nat} (D : Df K mg "_law_take" s_Ltake) (B : Bl mg tA tC) : Kn P w K mg base "_law_take" (k + 1) spTake := by
  refine kn_of D (fun _ _ _ _ _ _ us hl => match us, hl with | [_, _], _ => rfl) sc_Ltake (fun vs H Q E h => by obtain ⟨b, c, n, rfl, _⟩ := h; rfl) (fun f cd B' fr z H vs Q E hr gd h => ?_)
  obtain ⟨b, c, n, rfl, ⟨x, y, k, cs, hb, hc, hx, hy, hy2, hcs, ncb⟩, hn, hn2, q⟩ := h
  refine ⟨_, (pss_cut (ps_if (pt_cmpR op_eq (pe_ix (r := rIxL K) ix_list (pv 0) pe_int (fun _ _ => rfl)) pe_int (nomark _)) (pss_cons (ps_set (i := 2) sc_Ltake.nd rfl (.inl rfl) pe_int)
  (pss_cut (ps_if (pt_cmpR op_lt (pe_ix (r := rIxL K) ix_list (pv 0) pe_int (fun _ _ => rfl)) (pe_callB call_len_seq (by rfl) B.len (by decide +kernel) (pa_cons (pe_ix (r := rIxL K) ix_list (pv 0) pe_int (fun _ _ => rfl)) pa_nil)) (nomark _)) (pss_one (ps_set (i := 2) sc_Ltake.nd rfl (.inl rfl) (pe_ix (r := rIxL K) ix_list (pe_ix (r := rIxL K) ix_list (pv 0) pe_int (fun _ _ => rfl)) (pe_ix (r := rIxL K) ix_list (pv 0) pe_int (fun _ _ => rfl)) (fun _ _ => rfl)))) pss_nil)
  (pss_cons (ps_augS (pv 0) pe_int get_list pe_int ip_add set_list)
  (pss_cut (ps_if (pt_cmpR op_ge (pv 2) pe_int (nomark _)) (pss_one (ps_asg (pv 2) (pg_sub (pv 0) pe_int set_list))) pss_nil)
  (pss_one (ps_asg (pe_op op_mod (pe_op op_add (pe_op op_add (pe_op op_mul (pe_ix (r := rIxL K) ix_list (pv 0) pe_int (fun _ _ => rfl)) pe_int) (pe_op op_mod (pv 2) pe_int)) (pe_op op_mul pe_int (pe_ix (r := rIxL K) ix_list (pv 0) pe_int (fun _ _ => rfl)))) pe_int) (pg_sub (pv 0) pe_int set_list))))))) pss_nil)
  (pss_cons (ps_if (pt_cmpR op_gt (pe_ix (r := rIxL K) ix_list (pv 0) pe_int (fun _ _ => rfl)) pe_int (nomark _)) (pss_cons (ps_set (i := 3) sc_Ltake.nd rfl (.inl rfl) (pe_op op_mod (pe_ix (r := rIxL K) ix_list (pv 0) pe_int (fun _ _ => rfl)) (pv 1)))
  (pss_cons (ps_asg (pe_op op_fdivW (pe_ix (r := rIxL K) ix_list (pv 0) pe_int (fun _ _ => rfl)) (pv 1)) (pg_sub (pv 0) pe_int set_list))
  (pss_one (ps_ret (pv 3))))) pss_nil)
  (pss_cons (ps_set (i := 4) sc_Ltake.nd rfl (.inl rfl) (pe_op op_mod (pe_op op_mul (pe_op op_add (pe_ix (r := rIxL K) ix_list (pv 0) pe_int (fun _ _ => rfl)) pe_int) pe_int) pe_int))
  (pss_cons (ps_set (i := 5) sc_Ltake.nd rfl (.inl rfl) (pe_op op_mod (pe_op op_mul (pe_op op_mod (pe_op op_mul (pv 4) (pv 4)) pe_int) pe_int) pe_int))
  (pss_cons (ps_if (pt_cmpR op_gt (pv 1) pe_int (nomark _)) (pss_one (ps_ret (pe_op op_mod (pe_op op_add (pe_op op_mul (pv 5) pe_int) (pv 4)) (pv 1)))) pss_nil)
  (pss_one (ps_ret (pe_op op_mod (pe_op op_fdivW (pv 5) pe_int) (pv 1))))))))), ?_⟩
  refine x_cut (fun σ' H' => ∃ v2, σ' = [some (.ref b), some (.int n), v2, none, none, none] ∧ Ext [b] H H' ∧ Bag H' b c) ?_ ?_
  · walk_at "xs"
    refine x_ite (fun h0 => ?_) (fun h0 => ?_)
    · subst h0
      walk_at "xs"
      refine x_cut (fun σ' H' => ∃ v2 : Int, σ' = [some (.ref b), some (.int n), some (.int v2), none, none, none] ∧ H = H' ∧ 0 ≤ v2) ?_ ?_
      · walk_at "xs"
        refine x_ite (fun h0 => ?_) (fun h0 => ?_)
        · have hk : k < cs.length := by simpa using h0
          walk_at "xs"
          refine x_ixL (SqL.of hc) (atI_nat (v := .int cs[k]) (by rw [List.getElem?_map, List.getElem?_eq_getElem hk]; rfl)) ?_
          walk_at "xs"
          exact ⟨cs[k], rfl, rfl, hcs _ (List.getElem_mem hk)⟩
        · walk_at "xs"
          exact ⟨0, rfl, rfl, Int.le_refl 0⟩
      · rintro _ _ ⟨v, rfl, rfl, hv⟩
        walk_at "xs"
        refine x_cut (fun σ' H' => ∃ x' : Int, 0 ≤ x' ∧ σ' = [some (.ref b), some (.int n), some (.int v), none, none, none] ∧ H' b = some (.lst [.int x', .int y, .int (k + 1 : Nat), .ref c]) ∧ Ext [b] H H') ?_ ?_
        · walk_at "xs"
          refine x_ite (fun h0 => ?_) (fun h0 => ?_)
          · walk_at "xs"
            exact ⟨v, hv, rfl, by rw [upd_same]; rfl, fun a o n e => by rw [upd_ne (by simpa using n), upd_ne (by simpa using n)]; exact e⟩
          · walk_at "xs"
            exact ⟨0, Int.le_refl 0, rfl, by rw [upd_same]; rfl, fun a o n e => by rw [upd_ne (by simpa using n)]; exact e⟩
        · rintro _ H2 ⟨x', hx', rfl, hb2, he⟩
          walk_at "xs"
          refine ⟨_, rfl, fun a o n e => by rw [upd_ne (by simpa using n)]; exact he a o n e, x', _, k + 1, cs, by rw [upd_same]; rfl, ?_, hx', ?_, ?_, hcs, ncb⟩
          · rw [upd_ne ncb]; exact he c _ (by simpa using ncb) hc
          · exact Int.emod_nonneg _ (by decide)
          · exact Int.emod_lt_of_pos _ (by decide)
    · walk_at "xs"
      exact ⟨_, rfl, Ext.refl _ _, x, y, k, cs, hb, hc, hx, hy, hy2, hcs, ncb⟩
  · rintro _ H1 ⟨v2, rfl, he, x, y, k, cs, hb, hc, hx, hy, hy2, hcs, ncb⟩
    walk_at "xs"
    refine x_ite (fun h0 => ?_) (fun h0 => ?_)
    · walk_at "xs"
      refine x_mod hn ?_
      walk_at "xs"
      refine x_div (wide_div hn hn2 (by decide) (by decide)) ?_
      walk_at "xs"
      refine q _ _ (fun a o m e => by rw [upd_ne (by simpa using m)]; exact he a o m e) ⟨_, y, k, cs, upd_same, ?_, Int.ediv_nonneg hx (Int.le_of_lt hn), hy, hy2, hcs, ncb⟩ (Int.emod_nonneg _ (Int.ne_of_gt hn)) (Int.emod_lt_of_pos _ hn)
      rw [upd_ne ncb]; exact hc
    · have e1 := Int.emod_nonneg ((y + 1) * 39373) (show (1000000007 : Int) ≠ 0 by decide)
      have e2 := Int.emod_lt_of_pos ((y + 1) * 39373) (show (0 : Int) < 1000000007 by decide)
      walk_at "xs"
      have e3 := Int.emod_nonneg ((y + 1) * 39373 % 1000000007 * ((y + 1) * 39373 % 1000000007) % 998244353 * 30011) (show (998244353 : Int) ≠ 0 by decide)
      have e4 := Int.emod_lt_of_pos ((y + 1) * 39373 % 1000000007 * ((y + 1) * 39373 % 1000000007) % 998244353 * 30011) (show (0 : Int) < 998244353 by decide)
      refine x_ite (fun h1 => ?_) (fun h1 => ?_)
      · walk_at "xs"
        refine x_mod hn ?_
        exact q _ _ he ⟨x, y, k, cs, hb, hc, hx, hy, hy2, hcs, ncb⟩ (Int.emod_nonneg _ (Int.ne_of_gt hn)) (Int.emod_lt_of_pos _ hn)
      · walk_at "xs"
        refine x_div (wide_div (b := 3) (by decide) (by decide) (by decide) (by decide)) ?_
        walk_at "xs"
        refine x_mod hn ?_
        exact q _ _ he ⟨x, y, k, cs, hb, hc, hx, hy, hy2, hcs, ncb⟩ (Int.emod_nonneg _ (Int.ne_of_gt hn)) (Int.emod_lt_of_pos _ hn)

/-! ### the small tests -/
def isIntD : PyData → Bool
  | .int _ => true
  | _ => false
def inD (lo hi : Int) : PyData → Bool
  | .int i => decide (lo ≤ i) && decide (i ≤ hi)
  | _ => false
theorem isInt_eq (d : PyData) : (isT "int" d && !isT "bool" d) = isIntD d := by rw [isT_int, isT_bool]; cases d <;> rfl
/-- a test of one thing that makes nothing -/
def sp1 (g : PyData → Bool) : Sp := fun vs H Q _ => ∃ v d M, vs = [v] ∧ Dn M H v d ∧ Q (.bl (g d)) H
def sp2 (g : PyData → Int → Bool) : Sp := fun vs H Q _ => ∃ v d M n, vs = [v, .int n] ∧ Dn M H v d ∧ Q (.bl (g d n)) H
def sp3 (g : PyData → Int → Int → Bool) : Sp := fun vs H Q _ => ∃ v d M n m, vs = [v, .int n, .int m] ∧ Dn M H v d ∧ Q (.bl (g d n m)) H
theorem x_sp1 {g : PyData → Bool} {v : V} {d : PyData} {M : List Addr} {H : Hp} {Q : VK} {E : XK} (hd : Dn M H v d) (h : Q (.bl (g d)) H) : sp1 g [v] H Q E := ⟨v, d, M, rfl, hd, h⟩
theorem x_sp2 {g : PyData → Int → Bool} {v : V} {d : PyData} {M : List Addr} {n : Int} {H : Hp} {Q : VK} {E : XK} (hd : Dn M H v d) (h : Q (.bl (g d n)) H) : sp2 g [v, .int n] H Q E := ⟨v, d, M, n, rfl, hd, h⟩
theorem x_sp3 {g : PyData → Int → Int → Bool} {v : V} {d : PyData} {M : List Addr} {n m : Int} {H : Hp} {Q : VK} {E : XK} (hd : Dn M H v d) (h : Q (.bl (g d n m)) H) : sp3 g [v, .int n, .int m] H Q E := ⟨v, d, M, n, m, rfl, hd, h⟩
theorem Dn.isInt {M : List Addr} {H : Hp} {v : V} {d : PyData} (h : Dn M H v d) (e : isIntD d = true) : ∃ i, v = .int i ∧ d = .int i := by
  cases h <;> first | exact ⟨_, rfl, rfl⟩ | cases e

theorem kn_is_integer {k : Nat} (D : Df K mg "is_integer" s_is_integer) (B : Bl mg tA tC) : Kn P w K mg base "is_integer" (k + 1) (sp1 isIntD) := by
  refine kn_of D (fun _ _ _ _ _ _ us hl => match us, hl with | [_], _ => rfl) sc_is_integer (fun vs H Q E h => by obtain ⟨v, d, M, rfl, _⟩ := h; rfl) (fun f cd B' fr z H vs Q E hr gd h => ?_)
  obtain ⟨v, d, M, rfl, hd, q⟩ := h
  refine ⟨_, (pss_one (ps_ret (pe_and (pe_callB call_isD (by rfl) B.isinstance (by decide +kernel) (pa_cons (pv 0) (pa_cons (pe_bltn (v := .ty "int") (u := .type "int") (by rfl) B.«int» (by decide +kernel) rfl) pa_nil))) (pe_one (pe_not (pe_callB call_isD (by rfl) B.isinstance (by decide +kernel) (pa_cons (pv 0) (pa_cons (pe_bltn (v := .ty "bool") (u := .type "bool") (by rfl) B.«bool» (by decide +kernel) rfl) pa_nil)))))))), ?_⟩
  rw [← isInt_eq] at q
  walk_at "xs"
  refine x_iteB (fun h => ?_) (fun h => ?_)
  · walk_at "xs"
    rw [h] at q; exact q
  · walk_at "xs"
    rw [h] at q; exact q

theorem kn_is_amount {k : Nat} (D : Df K mg "is_amount" s_is_amount) (B : Bl mg tA tC) (c_is_integer : Kn P w K mg base "is_integer" k (sp1 isIntD)) : Kn P w K mg base "is_amount" (k + 1) (sp1 (inD 0 (10 ^ 30))) := by
  refine kn_of D (fun _ _ _ _ _ _ us hl => match us, hl with | [_], _ => rfl) sc_is_amount (fun vs H Q E h => by obtain ⟨v, d, M, rfl, _⟩ := h; rfl) (fun f cd B' fr z H vs Q E hr gd h => ?_)
  obtain ⟨v, d, M, rfl, hd, q⟩ := h
  refine ⟨_, (pss_one (ps_ret (pe_and (pe_own c_is_integer hr gd (by rfl) (pa_cons (pv 0) pa_nil)) (pe_one (pe_chain op_le op_le pe_int (pv 0) (pe_glob (v := .int (10 ^ 30)) (by rfl) B.MOST_AMOUNT ⟨_, rfl⟩)))))), ?_⟩
  walk_at "xs"
  refine x_sp1 hd ?_
  walk_at "xs"
  refine x_iteB (fun h => ?_) (fun h => ?_)
  · obtain ⟨i, rfl, rfl⟩ := hd.isInt h
    walk_at "xs"
    refine x_ite (fun h => ?_) (fun h => ?_)
    · walk_at "xs"
      simpa only [inD, decide_eq_true h, Bool.true_and] using q
    · simpa only [inD, decide_eq_false h, Bool.false_and] using q
  · have e : inD 0 (10 ^ 30) d = false := by cases d <;> first | rfl | cases h
    rw [e] at q; exact q

theorem kn_is_count {k : Nat} (D : Df K mg "is_count" s_is_count) (B : Bl mg tA tC) (c_is_integer : Kn P w K mg base "is_integer" k (sp1 isIntD)) : Kn P w K mg base "is_count" (k + 1) (sp1 (inD 1 (10 ^ 18))) := by
  refine kn_of D (fun _ _ _ _ _ _ us hl => match us, hl with | [_], _ => rfl) sc_is_count (fun vs H Q E h => by obtain ⟨v, d, M, rfl, _⟩ := h; rfl) (fun f cd B' fr z H vs Q E hr gd h => ?_)
  obtain ⟨v, d, M, rfl, hd, q⟩ := h
  refine ⟨_, (pss_one (ps_ret (pe_and (pe_own c_is_integer hr gd (by rfl) (pa_cons (pv 0) pa_nil)) (pe_one (pe_chain op_le op_le pe_int (pv 0) (pe_glob (v := .int (10 ^ 18)) (by rfl) B.MOST_COUNT ⟨_, rfl⟩)))))), ?_⟩
  walk_at "xs"
  refine x_sp1 hd ?_
  walk_at "xs"
  refine x_iteB (fun h => ?_) (fun h => ?_)
  · obtain ⟨i, rfl, rfl⟩ := hd.isInt h
    walk_at "xs"
    refine x_ite (fun h => ?_) (fun h => ?_)
    · walk_at "xs"
      simpa only [inD, decide_eq_true h, Bool.true_and] using q
    · simpa only [inD, decide_eq_false h, Bool.false_and] using q
  · have e : inD 1 (10 ^ 18) d = false := by cases d <;> first | rfl | cases h
    rw [e] at q; exact q
def brokerD (d : PyData) (n : Int) : Bool := match d with
  | .int i => decide (0 ≤ i) && decide (i < n)
  | _ => false
theorem kn_is_broker {k : Nat} (D : Df K mg "is_broker" s_is_broker) (B : Bl mg tA tC) (c_is_integer : Kn P w K mg base "is_integer" k (sp1 isIntD)) : Kn P w K mg base "is_broker" (k + 1) (sp2 brokerD) := by
  refine kn_of D (fun _ _ _ _ _ _ us hl => match us, hl with | [_, _], _ => rfl) sc_is_broker (fun vs H Q E h => by obtain ⟨v, d, M, n, rfl, _⟩ := h; rfl) (fun f cd B' fr z H vs Q E hr gd h => ?_)
  obtain ⟨v, d, M, n, rfl, hd, q⟩ := h
  refine ⟨_, (pss_one (ps_ret (pe_and (pe_own c_is_integer hr gd (by rfl) (pa_cons (pv 0) pa_nil)) (pe_one (pe_chain op_le op_lt pe_int (pv 0) (pv 1)))))), ?_⟩
  walk_at "xs"
  refine x_sp1 hd ?_
  walk_at "xs"
  refine x_iteB (fun h => ?_) (fun h => ?_)
  · obtain ⟨i, rfl, rfl⟩ := hd.isInt h
    walk_at "xs"
    refine x_ite (fun h => ?_) (fun h => ?_)
    · walk_at "xs"
      simpa only [brokerD, decide_eq_true h, Bool.true_and] using q
    · simpa only [brokerD, decide_eq_false h, Bool.false_and] using q
  · have e : brokerD d n = false := by cases d <;> first | rfl | cases h
    rw [e] at q; exact q
def chk (n : Int) : Int → List PyData → Bool
  | _, [] => true
  | b, .int i :: r => (decide (0 ≤ i) && decide (i < n)) && (decide (b < i) && chk n i r)
  | _, _ :: _ => false
def setD (d : PyData) (n : Int) : Bool := match d with
  | .list ds => chk n (-1) ds
  | _ => false
theorem kn_is_set {k : Nat} (D : Df K mg "is_set" s_is_set) (B : Bl mg tA tC) (c_is_broker : Kn P w K mg base "is_broker" k (sp2 brokerD)) : Kn P w K mg base "is_set" (k + 1) (sp2 setD) := by
  refine kn_of D (fun _ _ _ _ _ _ us hl => match us, hl with | [_, _], _ => rfl) sc_is_set (fun vs H Q E h => by obtain ⟨v, d, M, n, rfl, _⟩ := h; rfl) (fun f cd B' fr z H vs Q E hr gd h => ?_)
  obtain ⟨v, d, M, n, rfl, hd, q⟩ := h
  refine ⟨_, (pss_cons (ps_if (pt_not (pt_val (pe_callB call_isD (by rfl) B.isinstance (by decide +kernel) (pa_cons (pv 0) (pa_cons (pe_bltn (v := .ty "list") (u := .type "list") (by rfl) B.«list» (by decide +kernel) rfl) pa_nil))))) (pss_one (ps_ret pe_bl)) pss_nil)
  (pss_cons (ps_set (i := 2) sc_is_set.nd rfl (.inl rfl) (pe_un un_neg pe_int))
  (pss_cons (ps_for PassesOwn.never rfl (pi_list (pv 0)) (pg_name (i := 3) sc_is_set.nd rfl (.inl rfl))
  (pss_cons (ps_if (PW.pt (pw_or (pt_not (pt_val (pe_own c_is_broker hr gd (by rfl) (pa_cons (pv 3) (pa_cons (pv 1) pa_nil))))) (pw_or1 (pt_cmpR op_le (pv 3) (pv 2) (nomark _))))) (pss_one (ps_ret pe_bl)) pss_nil)
  (pss_one (ps_set (i := 2) sc_is_set.nd rfl (.inl rfl) (pv 3)))))
  (pss_one (ps_ret pe_bl))))), ?_⟩
  walk_at "xs"
  refine x_iteNB (fun h => ?_) (fun h => ?_)
  · walk_at "xs"
    rw [isT_list] at h
    have e : setD d n = false := by cases d <;> first | rfl | cases h
    rw [e] at q; exact q
  · rw [isT_list] at h
    cases hd with
    | @lst a xs ds ha hm hxs =>
      walk_at "xs"
      refine for_list (K := K) (xs := xs) (fun i σ' H' => ∃ (b : Int) (y : Option V), σ' = [some (.ref a), some (.int n), some (.int b), y] ∧ H' = H ∧ chk n (-1) ds = chk n b (ds.drop i)) ?_ ?_ ?_ ?_
      · exact ⟨-1, none, rfl, rfl, rfl⟩
      · rintro i _ _ _ ⟨b, y, rfl, rfl, _⟩
        exact SqL.of ha
      · rintro i x _ _ hx ⟨b, y, rfl, rfl, e⟩
        obtain ⟨d, hd, dx⟩ := hxs.get hx
        have hdr : ds.drop i = d :: ds.drop (i + 1) := by
          obtain ⟨h1, h2⟩ := List.getElem?_eq_some_iff.mp hd
          rw [← h2]; exact List.drop_eq_getElem_cons h1
        rw [hdr] at e
        walk_at "xs"
        refine x_sp2 dx ?_
        walk_at "xs"
        refine x_iteNB (fun h => ?_) (fun h => ?_)
        · walk_at "xs"
          have e2 : setD (.list ds) n = false := by
            show chk n (-1) ds = false
            rw [e]
            cases d <;> first | rfl | (simp only [brokerD] at h; simp only [chk, h, Bool.false_and])
          rw [e2] at q; exact q
        · obtain ⟨j, rfl, rfl⟩ := dx.isInt (by cases d <;> first | rfl | cases h)
          simp only [brokerD] at h
          walk_at "xs"
          refine x_ite (fun h1 => ?_) (fun h1 => ?_)
          · walk_at "xs"
            have e2 : setD (.list ds) n = false := by
              show chk n (-1) ds = false
              rw [e]
              simp only [chk, h, Bool.true_and, decide_eq_false (show ¬ b < j by omega), Bool.false_and]
            rw [e2] at q; exact q
          · walk_at "xs"
            refine ⟨j, some (.int j), rfl, rfl, ?_⟩
            rw [e]
            simp only [chk, h, Bool.true_and, decide_eq_true (show b < j by omega)]
      · rintro _ _ ⟨b, y, rfl, rfl, e⟩
        walk_at "xs"
        have e2 : setD (.list ds) n = true := by
          show chk n (-1) ds = true
          rw [e, hxs.length, List.drop_length]
          rfl
        rw [e2] at q; exact q
    | _ => cases h
end
def spBag (K : PySem.W.Frag) : Sp := fun vs H Q _ => ∃ (a : Addr) (ns : List Int), vs = [.ref a] ∧ SqL K H a (ns.map V.int) ∧ ∀ H' b c, Same H H' → H b = none → Bag H' b c → Q (.ref b) H'
def absI (i : Int) : Int := if i < 0 then -i else i
theorem absI_nn (i : Int) : 0 ≤ absI i := by unfold absI; split <;> omega
theorem cut_map (ns : List Int) (lo hi : Option Int) : ∃ ms : List Int, cutV (ns.map V.int) lo hi = ms.map V.int := by
  unfold cutV
  rw [← List.map_drop, ← List.map_take]
  exact ⟨_, rfl⟩
section
variable {P : Program} {w : World} {K : PySem.W.Frag} {mg : Str → Option Value} {base : Heap} {tA tC : Tok}
theorem kn_bag {k : Nat} (D : Df K mg "_law_bag" s_Lbag) (B : Bl mg tA tC) : Kn P w K mg base "_law_bag" (k + 1) (spBag K) := by
  refine kn_of D (fun _ _ _ _ _ _ us hl => match us, hl with | [_], _ => rfl) sc_Lbag (fun vs H Q E h => by obtain ⟨a, ns, rfl, _⟩ := h; rfl) (fun f cd B' fr z H vs Q E hr gd h => ?_)
  obtain ⟨a, ns, rfl, ha, q⟩ := h
  refine ⟨_, (pss_one (ps_ret (pe_lst (pa_cons pe_int (pa_cons pe_int (pa_cons pe_int (pa_cons (pe_lc (own := [("_law_cell", 1)]) rfl sc_Lbag.nd (pi_list (pe_slice (r := rSlL K) sl_list (pv 0) po_none (po_some pe_int))) (blkOk_by (N := ["_law_script", "_law_cell"]) (sc := defScope s_Lbag) (by decide +kernel)) (fun _ _ _ _ _ => (pg_name (i := 1) sc_Lbag.nd rfl (.inl rfl))) (fun _ _ _ _ _ => pts_nil) (fun _ _ _ _ _ => (pe_callB call_abs (by rfl) B.abs (by decide +kernel) (pa_cons (pv 1) pa_nil)))) pa_nil))))))), ?_⟩
  walk_at "xs"
  intro p hp
  obtain ⟨ms, em⟩ := cut_map ns none (some 63)
  rw [em]
  have S1 : Same H (upd H p (.lst (ms.map V.int))) := same_upd hp
  walk_at "xs"
  intro L hL
  have hpL := upd_same (H := H) (a := p) (o := .lst (ms.map V.int))
  refine lc_list (K := K) (xs := ms.map V.int) (fun i H' => H' = upd (upd H p (.lst (ms.map V.int))) L (.lst (((ms.take i).map absI).map V.int))) rfl ?_ ?_ ?_
  · rintro i _ _ rfl
    exact SqL.of (by rw [upd_ne (ne_of_none hpL hL)]; exact hpL)
  · rintro i x _ hx rfl
    obtain ⟨m, hm, rfl⟩ : ∃ m, ms[i]? = some m ∧ V.int m = x := by
      rw [List.getElem?_map] at hx
      cases e : ms[i]? with
      | none => rw [e] at hx; cases hx
      | some m => rw [e] at hx; exact ⟨m, rfl, Option.some.inj hx⟩
    walk_at "xs"
    refine x_wiped rfl ?_
    walk_at "xs"
    refine x_acc upd_same ?_ ?_
    · have h1 : i < ms.length := (List.getElem?_eq_some_iff.mp hm).1
      have h2 : (cutV (ns.map V.int) none (some 63)).length ≤ 63 := by
        unfold cutV
        rw [List.length_take, HT.sIx_none]
        have := HT.sIx_nat (ns.map V.int).length (ns.map V.int).length 63
        have e63 : ((63 : Nat) : Int) = 63 := rfl
        rw [e63] at this
        rw [this]; omega
      rw [em, List.length_map] at h2
      rw [List.length_map, List.length_map, List.length_take, sizeLine_eq]; omega
    · show upd _ L _ = _
      rw [upd_upd]
      congr 2
      rw [List.take_add_one, hm, List.map_append, List.map_append]
      rfl
  · rintro _ rfl
    walk_at "xs"
    intro b hb
    refine q _ b L (S1.trans ((same_upd hL).trans (same_upd hb))) ?_ ?_
    · exact S1.free ((same_upd hL).free hb)
    · refine ⟨0, 1234567891, 0, (ms.take (ms.map V.int).length).map absI, upd_same, ?_, by decide, by decide, by decide, ?_, ?_⟩
      · rw [upd_ne (ne_of_none upd_same hb)]; exact upd_same
      · intro z hz
        obtain ⟨y, _, rfl⟩ := List.mem_map.mp hz
        exact absI_nn y
      · exact ne_of_none upd_same hb

/-- equal lists show alike -/
def spAlike : Sp := fun vs H Q _ => ∃ x y d M, vs = [x, y] ∧ Dn M H x d ∧ Dn M H y d ∧ SeqAt.shaped d = true ∧ Shows d ∧ Q (.bl true) H
theorem x_alike {x y : V} {d : PyData} {M : List Addr} {H : Hp} {Q : VK} {E : XK} (hx : Dn M H x d) (hy : Dn M H y d) (s : SeqAt.shaped d = true) (t : Shows d) (h : Q (.bl true) H) : spAlike [x, y] H Q E := ⟨x, y, d, M, rfl, hx, hy, s, t, h⟩
theorem kn_alike {k : Nat} (D : Df K mg "_law_alike" s_Lalike) (B : Bl mg tA tC) (sys : ∃ o, base.get? sysModules = some o) : Kn P w K mg base "_law_alike" (k + 1) spAlike := by
  refine kn_of D (fun _ _ _ _ _ _ us hl => match us, hl with | [_, _], _ => rfl) sc_Lalike (fun vs H Q E h => by obtain ⟨x, y, d, M, rfl, _⟩ := h; rfl) (fun f cd B' fr z H vs Q E hr gd h => ?_)
  obtain ⟨x, y, d, M, rfl, hx, hy, sh, sw, q⟩ := h
  refine ⟨_, (pss_one (ps_ret (pe_and (pe_cmpR (op_eqD hr.units) (pv 0) (pv 1) (nomark _)) (pe_one (pe_cmpR op_eq (pe_callB (call_reprD gd hr.units sys) (by rfl) B.repr (by decide +kernel) (pa_cons (pv 0) pa_nil)) (pe_callB (call_reprD gd hr.units sys) (by rfl) B.repr (by decide +kernel) (pa_cons (pv 1) pa_nil)) (nomark _)))))), ?_⟩
  walk_at "xs"
  refine x_eqSame hx hy sh ?_
  walk_at "xs"
  refine x_repr hx sw ?_
  walk_at "xs"
  refine x_repr hy sw ?_
  walk_at "xs"
  simpa using q

def wholeD (d : PyData) (n m : Int) : Bool := inD n m d
theorem kn_whole {k : Nat} (D : Df K mg "_law_whole" s_Lwhole) (B : Bl mg tA tC) : Kn P w K mg base "_law_whole" (k + 1) (sp3 wholeD) := by
  refine kn_of D (fun _ _ _ _ _ _ us hl => match us, hl with | [_, _, _], _ => rfl) sc_Lwhole (fun vs H Q E h => by obtain ⟨v, d, M, n, m, rfl, _⟩ := h; rfl) (fun f cd B' fr z H vs Q E hr gd h => ?_)
  obtain ⟨v, d, M, n, m, rfl, hd, q⟩ := h
  refine ⟨_, (pss_one (ps_ret (pe_and (pe_callB call_isD (by rfl) B.isinstance (by decide +kernel) (pa_cons (pv 0) (pa_cons (pe_bltn (v := .ty "int") (u := .type "int") (by rfl) B.«int» (by decide +kernel) rfl) pa_nil))) (pe_and (pe_not (pe_callB call_isD (by rfl) B.isinstance (by decide +kernel) (pa_cons (pv 0) (pa_cons (pe_bltn (v := .ty "bool") (u := .type "bool") (by rfl) B.«bool» (by decide +kernel) rfl) pa_nil)))) (pe_one (pe_chain op_le op_le (pv 1) (pv 0) (pv 2))))))), ?_⟩
  have e0 := isInt_eq d
  walk_at "xs"
  refine x_iteB (fun h => ?_) (fun h => ?_)
  · rw [h, Bool.true_and] at e0
    walk_at "xs"
    rw [e0]
    refine x_iteB (fun h => ?_) (fun h => ?_)
    · obtain ⟨i, rfl, rfl⟩ := hd.isInt h
      walk_at "xs"
      refine x_ite (fun h => ?_) (fun h => ?_)
      · walk_at "xs"
        simpa only [wholeD, inD, decide_eq_true h, Bool.true_and] using q
      · simpa only [wholeD, inD, decide_eq_false h, Bool.false_and] using q
    · have e : wholeD d n m = false := by cases d <;> first | rfl | cases h
      rw [e] at q; exact q
  · rw [h, Bool.false_and] at e0
    have e : wholeD d n m = false := by cases d <;> first | rfl | cases e0
    rw [e] at q; exact q
end
/-! ### the odd things -/
def deepN : Nat → PyData
  | 0 => .list []
  | n + 1 => .list [deepN n]
def odds1 : List PyData := [.int 0, .int 1, .int (-1), .int 10, .int 9, .int (10 ^ (18 : Int).toNat), .int (10 ^ (18 : Int).toNat + 1), .int (10 ^ (30 : Int).toNat), .int (10 ^ (30 : Int).toNat + 1), .int (-(10 ^ (39 : Int).toNat)), .bool true, .bool false, .none, .str "", .str "1"]
def odds2 : List PyData := [.tuple [], .tuple [.int 0], .tuple [.int 0, .int 1], .tuple [.int 0, .int 1, .int 2], .tuple [.int 1, .int 0], .list [], .list [.int 0], .list [.int 0, .int 1], .list [.list [.int 0, .int 1]], .dict [], .dict [(.int 0, .int 1)], deepN 3, .list (List.replicate (2000 : Int).toNat (.int 0))]
def odds : List PyData := odds1 ++ odds2 ++ [.str (Txt.mul "a" 99)]
def spOdd : Sp := fun vs H Q _ => ∃ b c, vs = [.ref b] ∧ Bag H b c ∧ ∀ H' v d, Ext [b] H H' → Bag H' b c → Dn [b] H' v d → d ∈ odds → Q v H'
theorem x_take {H : Hp} {Q : VK} {E : XK} {b c : Addr} {n : Int} (hb : Bag H b c) (h0 : 0 < n) (h1 : n.natAbs < 2 ^ 200) (h : ∀ H' v, Ext [b] H H' → Bag H' b c → 0 ≤ v → v < n → Q (.int v) H') : spTake [.ref b, .int n] H Q E := ⟨b, c, n, rfl, hb, h0, h1, h⟩
theorem Bag.ext {H H' : Hp} {b c : Addr} (h : Bag H b c) (e : Same H H') : Bag H' b c := by
  obtain ⟨x, y, k, cs, h1, h2, h3⟩ := h
  exact ⟨x, y, k, cs, e _ _ h1, e _ _ h2, h3⟩
theorem Bag.at {H : Hp} {b c : Addr} (h : Bag H b c) : ∃ o, H b = some o := by
  obtain ⟨x, y, k, cs, h1, _⟩ := h
  exact ⟨_, h1⟩
theorem repl_len (n : Nat) (v : V) : (List.replicate n [v]).flatten.length = n := by
  induction n with
  | zero => rfl
  | succ n ih => rw [List.replicate_succ, List.flatten_cons, List.length_append, ih]; simp; omega
section
variable {P : Program} {w : World} {K : PySem.W.Frag} {mg : Str → Option Value} {base : Heap} {tA tC : Tok}
theorem kn_odd {k : Nat} (D : Df K mg "_law_odd" s_Lodd) (B : Bl mg tA tC) (c_Ltake : Kn P w K mg base "_law_take" k spTake) : Kn P w K mg base "_law_odd" (k + 1) spOdd := by
  refine kn_of D (fun _ _ _ _ _ _ us hl => match us, hl with | [_], _ => rfl) sc_Lodd (fun vs H Q E h => by obtain ⟨b, c, rfl, _⟩ := h; rfl) (fun f cd B' fr z H vs Q E hr gd h => ?_)
  obtain ⟨b, c, rfl, hB, q⟩ := h
  obtain ⟨ob, hb⟩ := hB.at
  refine ⟨_, (pss_cons (ps_set (i := 1) sc_Lodd.nd rfl (.inl rfl) (pe_lst pa_nil))
  (pss_cons (ps_for PassesOwn.never rfl (pi_range1 (by rfl) B.range (pa_cons pe_int pa_nil)) (pg_name (i := 2) sc_Lodd.nd rfl (.inl rfl))
  (pss_one (ps_set (i := 1) sc_Lodd.nd rfl (.inl rfl) (pe_lst (pa_cons (pv 1) pa_nil)))))
  (pss_cons (ps_set (i := 3) sc_Lodd.nd rfl (.inl rfl) (pe_lst (pa_cons pe_int (pa_cons pe_int (pa_cons (pe_un un_neg pe_int) (pa_cons pe_int (pa_cons pe_int (pa_cons (pe_op op_pow pe_int pe_int) (pa_cons (pe_op op_add (pe_op op_pow pe_int pe_int) pe_int) (pa_cons (pe_op op_pow pe_int pe_int) (pa_cons (pe_op op_add (pe_op op_pow pe_int pe_int) pe_int) (pa_cons (pe_un un_neg (pe_op op_pow pe_int pe_int)) (pa_cons pe_bl (pa_cons pe_bl (pa_cons pe_non (pa_cons pe_str (pa_cons pe_str pa_nil)))))))))))))))))
  (pss_cons (ps_set (i := 3) sc_Lodd.nd rfl (.inl rfl) (pe_op op_cat (pv 3) (pe_lst (pa_cons (pe_tup pa_nil) (pa_cons (pe_tup (pa_cons pe_int pa_nil)) (pa_cons (pe_tup (pa_cons pe_int (pa_cons pe_int pa_nil))) (pa_cons (pe_tup (pa_cons pe_int (pa_cons pe_int (pa_cons pe_int pa_nil)))) (pa_cons (pe_tup (pa_cons pe_int (pa_cons pe_int pa_nil))) (pa_cons (pe_lst pa_nil) (pa_cons (pe_lst (pa_cons pe_int pa_nil)) (pa_cons (pe_lst (pa_cons pe_int (pa_cons pe_int pa_nil))) (pa_cons (pe_lst (pa_cons (pe_lst (pa_cons pe_int (pa_cons pe_int pa_nil))) pa_nil)) (pa_cons pe_dnewK (pa_cons (pe_disp (pps_cons pe_int pe_int pps_nil) rfl rfl (by simp) (by decide)) (pa_cons (pv 1) (pa_cons (pe_op op_rep (pe_lst (pa_cons pe_int pa_nil)) pe_int) pa_nil))))))))))))))))
  (pss_cons (ps_set (i := 3) sc_Lodd.nd rfl (.inl rfl) (pe_op op_cat (pv 3) (pe_lst (pa_cons (pe_op op_mulStr pe_str pe_int) pa_nil))))
  (pss_one (ps_ret (pe_ix (r := rIxL K) ix_list (pv 3) (pe_own c_Ltake hr gd (by rfl) (pa_cons (pv 0) (pa_cons pe_int pa_nil))) (fun _ _ => rfl))))))))), ?_⟩
  walk_at "xs"
  intro p hp
  have S1 := same_upd (o := .lst []) hp
  walk_at "xs"
  refine for_range (lo := 0) (n := (3 : Int).toNat) (fun i σ' H' => ∃ (p : Addr) (y : Option V), σ' = [some (.ref b), some (.ref p), y, none] ∧ Same H H' ∧ Dn [b] H' (.ref p) (deepN i)) ?_ ?_ ?_
  · exact ⟨p, none, rfl, S1, .lst upd_same (new_out (Same.refl H) hb hp) .nil⟩
  · rintro i _ H1 hi ⟨p, y, rfl, S, dp⟩
    walk_at "xs"
    intro p2 hp2
    walk_at "xs"
    exact ⟨p2, _, rfl, S.trans (same_upd hp2), .lst upd_same (new_out S hb hp2) (.cons (dp.ext (Ext.same (same_upd hp2))) .nil)⟩
  · rintro _ H1 ⟨p, y, rfl, S, dp⟩
    walk_at "xs"
    intro p1 hp1
    have h1 := upd_same (H := H1) (a := p1) (o := .lst [.int 0, .int 1, .int (-1), .int 10, .int 9, .int (10 ^ (18 : Int).toNat), .int (10 ^ (18 : Int).toNat + 1), .int (10 ^ (30 : Int).toNat), .int (10 ^ (30 : Int).toNat + 1), .int (-(10 ^ (39 : Int).toNat)), .bl true, .bl false, .non, .str "", .str "1"])
    have G1 := same_upd hp1 (o := .lst [.int 0, .int 1, .int (-1), .int 10, .int 9, .int (10 ^ (18 : Int).toNat), .int (10 ^ (18 : Int).toNat + 1), .int (10 ^ (30 : Int).toNat), .int (10 ^ (30 : Int).toNat + 1), .int (-(10 ^ (39 : Int).toNat)), .bl true, .bl false, .non, .str "", .str "1"])
    generalize upd H1 p1 _ = H2 at *
    have S2 := S.trans G1
    have hb2 := S2 _ _ hb
    have dp2 := dp.ext (Ext.same G1)
    have T : Same H2 H2 := Same.refl H2
    have A : DnAll [b] H2 [] [] := .nil
    walk_at "xs"
    intro p hp
    obtain ⟨T, A⟩ := grow T hb2 A hp (u := .tup []) (fun n => .tup upd_same n .nil)
    generalize upd _ p _ = H3 at *
    walk_at "xs"
    clear hp
    intro p hp
    obtain ⟨T, A⟩ := grow T hb2 A hp (u := .tup [.int 0]) (fun n => .tup upd_same n (.cons (.int 0) .nil))
    generalize upd _ p _ = H3 at *
    walk_at "xs"
    clear hp
    intro p hp
    obtain ⟨T, A⟩ := grow T hb2 A hp (u := .tup [.int 0, .int 1]) (fun n => .tup upd_same n (.cons (.int 0) (.cons (.int 1) .nil)))
    generalize upd _ p _ = H3 at *
    walk_at "xs"
    clear hp
    intro p hp
    obtain ⟨T, A⟩ := grow T hb2 A hp (u := .tup [.int 0, .int 1, .int 2]) (fun n => .tup upd_same n (.cons (.int 0) (.cons (.int 1) (.cons (.int 2) .nil))))
    generalize upd _ p _ = H3 at *
    walk_at "xs"
    clear hp
    intro p hp
    obtain ⟨T, A⟩ := grow T hb2 A hp (u := .tup [.int 1, .int 0]) (fun n => .tup upd_same n (.cons (.int 1) (.cons (.int 0) .nil)))
    generalize upd _ p _ = H3 at *
    walk_at "xs"
    clear hp
    intro p hp
    obtain ⟨T, A⟩ := grow T hb2 A hp (u := .lst []) (fun n => .lst upd_same n .nil)
    generalize upd _ p _ = H3 at *
    walk_at "xs"
    clear hp
    intro p hp
    obtain ⟨T, A⟩ := grow T hb2 A hp (u := .lst [.int 0]) (fun n => .lst upd_same n (.cons (.int 0) .nil))
    generalize upd _ p _ = H3 at *
    walk_at "xs"
    clear hp
    intro p hp
    obtain ⟨T, A⟩ := grow T hb2 A hp (u := .lst [.int 0, .int 1]) (fun n => .lst upd_same n (.cons (.int 0) (.cons (.int 1) .nil)))
    generalize upd _ p _ = H3 at *
    walk_at "xs"
    clear hp
    intro q1 hq
    obtain ⟨T, A, nq, eq⟩ := put (.lst [.int 0, .int 1]) T hb2 A hq
    have dq : Dn [b] _ (.ref q1) (.list [.int 0, .int 1]) := .lst eq nq (.cons (.int 0) (.cons (.int 1) .nil))
    generalize upd _ q1 _ = H3 at *
    walk_at "xs"
    intro p hp
    obtain ⟨T, A⟩ := grow T hb2 A hp (u := .lst [.ref q1]) (fun n => .lst upd_same n (.cons (dq.ext (Ext.same (same_upd hp))) .nil))
    generalize upd _ p _ = H4 at *
    walk_at "xs"
    clear hp hq dq
    intro p hp
    obtain ⟨T, A⟩ := grow T hb2 A hp (u := .dK []) (fun n => .dic (ds := []) upd_same n .nil .nil)
    generalize upd _ p _ = H3 at *
    walk_at "xs"
    clear hp
    intro p hp
    refine ⟨upd_same, [(Sum.inl 0, .int 1)], rfl, by decide, ?_⟩
    rw [upd_upd]
    obtain ⟨T, A⟩ := grow T hb2 A hp (u := .dK (mergeK [] [(Sum.inl 0, .int 1)])) (fun n => .dic (ds := [(.int 0, .int 1)]) upd_same n (.cons (.int 0) .nil) (.cons (.int 1) .nil))
    generalize upd _ p _ = H3 at *
    clear hp
    walk_at "xs"
    have A := A.app (.cons (dp2.ext (Ext.same T)) .nil)
    intro q1 hq
    obtain ⟨T, A, nq, eq⟩ := put (.lst [.int 0]) T hb2 A hq
    generalize upd _ q1 _ = H3 at *
    walk_at "xs"
    refine x_rep eq (by decide) (by decide) (by decide) ?_
    intro p hp
    obtain ⟨T, A⟩ := grow T hb2 A hp (u := .lst (List.replicate (2000 : Int).toNat [V.int 0]).flatten) (fun n => .lst upd_same n (DnAll.rep (.int 0) _))
    generalize upd _ p _ = H4 at *
    clear hp hq eq
    walk_at "xs"
    intro r hr
    have T0 := T
    have A0 := A
    obtain ⟨T, A, nr, er⟩ := put (.lst _) T hb2 A hr
    revert er T A
    generalize upd _ r _ = H3 at *
    intro T A er
    refine x_cat (T _ _ h1) er (by rw [sizeLine_eq]; exact Nat.le_of_ble_eq_true rfl) ?_
    intro s1 hs
    obtain ⟨T, A, ns, es⟩ := put (.lst _) T hb2 A hs
    have es := es
    revert es T A
    generalize upd _ s1 _ = H5 at *
    intro T A es
    walk_at "xs"
    refine x_mulS ⟨by decide, by decide, by decide +kernel⟩ ?_
    walk_at "xs"
    intro t1 ht
    have es := (same_upd (o := .lst [.str (Txt.mul "a" 99)]) ht) _ _ es
    obtain ⟨T, A, nt, et⟩ := put (.lst [.str (Txt.mul "a" 99)]) T hb2 A ht
    generalize upd _ t1 _ = H6 at *
    refine x_cat es et (by rw [sizeLine_eq]; exact Nat.le_of_ble_eq_true rfl) ?_
    intro u1 hu
    obtain ⟨T, A, nu, eu⟩ := put (.lst _) T hb2 A hu
    revert eu T A
    generalize upd _ u1 _ = H7 at *
    intro T A eu
    walk_at "xs"
    refine x_take (hB.ext (S2.trans T)) (by decide) (by decide) ?_
    intro H8 v E8 B8 hv0 hv1
    obtain ⟨x, ex, ax⟩ := ix_at eu hv0 hv1
    refine x_ixL (SqL.of (E8 _ _ nu eu)) ax ?_
    have all : DnAll [b] H8 _ odds := DnAll.ext E8 ((DnAll.app (DnAll.app (d := odds1) (e := odds2) (.cons (.int _) (.cons (.int _) (.cons (.int _) (.cons (.int _) (.cons (.int _) (.cons (.int _) (.cons (.int _) (.cons (.int _) (.cons (.int _) (.cons (.int _) (.cons (.bl _) (.cons (.bl _) (.cons .non (.cons (.str _) (.cons (.str _) .nil))))))))))))))) A) (.cons (.str _) .nil)))
    obtain ⟨d, hd, dx⟩ := all.get ex
    walk_at "xs"
    exact q _ _ _ ((Ext.same (S2.trans T)).trans E8) B8 dx (List.mem_of_getElem? hd)
end
/-! ### what the law's own test computes -/
def fewD (d : PyData) : Prop := ∀ ds, d = .list ds → ds.length ≤ 5000
theorem whole_all {n : Int} : ∀ {ds : List PyData}, (ds.map fun d => wholeD d 0 (n - 1)).all id = true → ∃ ms : List Int, ds = ms.map PyData.int ∧ ∀ m ∈ ms, 0 ≤ m ∧ m < n
  | [], _ => ⟨[], rfl, by simp⟩
  | d :: r, h => by
    simp only [List.map_cons, List.all_cons, Bool.and_eq_true, id_eq] at h
    obtain ⟨ms, e, hm⟩ := whole_all (n := n) (ds := r) h.2
    cases d with
    | int i =>
      have h1 : (decide (0 ≤ i) && decide (i ≤ n - 1)) = true := h.1
      simp only [Bool.and_eq_true, decide_eq_true_eq] at h1
      refine ⟨i :: ms, by rw [e]; rfl, fun m mm => ?_⟩
      rcases List.mem_cons.mp mm with rfl | mm
      · omega
      · exact hm m mm
    | _ => cases h.1
theorem chk_whole {n : Int} : ∀ {ds : List PyData} {b : Int}, chk n b ds = true → (ds.map fun d => wholeD d 0 (n - 1)).all id = true
  | [], _, _ => rfl
  | d :: r, b, h => by
    cases d with
    | int i =>
      simp only [chk, Bool.and_eq_true, decide_eq_true_eq] at h
      simp only [List.map_cons, List.all_cons, Bool.and_eq_true, id_eq]
      refine ⟨?_, chk_whole h.2.2⟩
      show (decide (0 ≤ i) && decide (i ≤ n - 1)) = true
      simp only [Bool.and_eq_true, decide_eq_true_eq]
      omega
    | _ => cases h
theorem chk_ints {n : Int} : ∀ {ms : List Int} {b : Int}, (∀ m ∈ ms, 0 ≤ m ∧ m < n) →
    (chk n b (ms.map PyData.int) = true ↔ (∀ m, ms.head? = some m → b < m) ∧ ∀ (j : Nat) (x y : Int), ms[j]? = some x → ms[j + 1]? = some y → x < y)
  | [], b, _ => by simp [chk]
  | m :: r, b, h => by
    have hm := h m (by simp)
    have ih := chk_ints (n := n) (ms := r) (b := m) fun z hz => h z (by simp [hz])
    simp only [List.map_cons, chk, Bool.and_eq_true, decide_eq_true_eq, ih]
    constructor
    · rintro ⟨_, h1, h2, h3⟩
      refine ⟨fun z hz => by simp at hz; subst hz; exact h1, fun j x y hx hy => ?_⟩
      cases j with
      | zero =>
        simp at hx; subst hx
        refine h2 y ?_
        rw [List.head?_eq_getElem?]; simpa using hy
      | succ j => exact h3 j x y (by simpa using hx) (by simpa using hy)
    · rintro ⟨h1, h2⟩
      refine ⟨hm, h1 m (by simp), fun z hz => ?_, fun j x y hx hy => h2 (j + 1) x y (by simpa using hx) (by simpa using hy)⟩
      refine h2 0 m z (by simp) ?_
      rw [List.head?_eq_getElem?] at hz; simpa using hz
theorem DnAll.toInts {M : List Addr} {H : Hp} : ∀ {ms : List Int} {xs : List V}, DnAll M H xs (ms.map PyData.int) → xs = ms.map V.int
  | [], _, .nil => rfl
  | _ :: _, _, .cons (.int _) r => by rw [List.map_cons, ← DnAll.toInts r]
theorem eqv_nil (l : List PyData) : PyData.eqv (.list l) (.list []) = decide (l = []) := by
  cases l with
  | nil => simp [PyData.eqv, PyData.eqvAll]
  | cons a r => simp [PyData.eqv, PyData.eqvAll]
theorem lay_ints : ∀ ms : List Int, PyData.canLayAll0 (ms.map PyData.int) = true ∧ PyData.depthAll (ms.map PyData.int) = 0
  | [] => ⟨rfl, rfl⟩
  | m :: r => by
    obtain ⟨a, b⟩ := lay_ints r
    exact ⟨by simp [PyData.canLayAll0, PyData.canLay0, a], by simp [PyData.depthAll, PyData.depth, b]⟩
theorem shaped_ints (ms : List Int) : SeqAt.shaped (.list (ms.map PyData.int)) = true := by
  obtain ⟨a, b⟩ := lay_ints ms
  simp [SeqAt.shaped, PyData.canLay0, a, PyData.depth, b]
theorem DpAll.ints {K : PySem.W.Frag} {H : Hp} : ∀ (ms : List Int), DpAll K H (ms.map V.int) (ms.map PyData.int)
  | [] => .nil
  | m :: r => .cons (.int m) (DpAll.ints r)
def spSetL : Sp := fun vs H Q _ => ∃ v d M n, vs = [v, .int n] ∧ Dn M H v d ∧ fewD d ∧ ∀ H', Same H H' → Q (.bl (setD d n)) H'
theorem x_setL2 {v : V} {d : PyData} {M : List Addr} {n : Int} {H : Hp} {Q : VK} {E : XK} (hd : Dn M H v d) (hf : fewD d) (h : ∀ H', Same H H' → Q (.bl (setD d n)) H') : spSetL [v, .int n] H Q E := ⟨v, d, M, n, rfl, hd, hf, h⟩
section
variable {P : Program} {w : World} {K : PySem.W.Frag} {mg : Str → Option Value} {base : Heap} {tA tC : Tok}
theorem kn_Lis_set {k : Nat} (D : Df K mg "_law_is_set" s_Lis_set) (B : Bl mg tA tC) (c_Lwhole : Kn P w K mg base "_law_whole" k (sp3 wholeD)) : Kn P w K mg base "_law_is_set" (k + 1) spSetL := by
  refine kn_of D (fun _ _ _ _ _ _ us hl => match us, hl with | [_, _], _ => rfl) sc_Lis_set (fun vs H Q E h => by obtain ⟨v, d, M, n, rfl, _⟩ := h; rfl) (fun f cd B' fr z H vs Q E hr gd h => ?_)
  obtain ⟨v, d, M, n, rfl, hd, few, q⟩ := h
  refine ⟨_, (pss_cons (ps_if (PW.pt (pw_or (pt_not (pt_val (pe_callB call_isD (by rfl) B.isinstance (by decide +kernel) (pa_cons (pv 0) (pa_cons (pe_bltn (v := .ty "list") (u := .type "list") (by rfl) B.«list» (by decide +kernel) rfl) pa_nil))))) (pw_or1 (pt_not (pt_val (pe_callB (cr_all rfl) (by rfl) B.all (by decide +kernel) (pa_cons (pe_lc (own := [("_law_broker", 2)]) rfl sc_Lis_set.nd (pi_list (pv 0)) (blkOk_by (N := ["_law_thing", "_law_size", "_law_broker", "_law_k"]) (sc := defScope s_Lis_set) (by decide +kernel)) (fun _ _ _ _ _ => (pg_name (i := 2) sc_Lis_set.nd rfl (.inl rfl))) (fun _ _ _ _ _ => pts_nil) (fun _ _ _ _ _ => (pe_own c_Lwhole hr gd (by rfl) (pa_cons (pv 2) (pa_cons pe_int (pa_cons (pe_op op_sub (pv 1) pe_int) pa_nil)))))) pa_nil))))))) (pss_one (ps_ret pe_bl)) pss_nil)
  (pss_one (ps_ret (pe_cmpR (op_eqD hr.units) (pe_lc (own := [("_law_k", 3)]) rfl sc_Lis_set.nd (pi_range2 (by rfl) B.range (pa_cons pe_int (pa_cons (pe_callB call_len_seq (by rfl) B.len (by decide +kernel) (pa_cons (pv 0) pa_nil)) pa_nil))) (blkOk_by (N := ["_law_thing", "_law_size", "_law_broker", "_law_k"]) (sc := defScope s_Lis_set) (by decide +kernel)) (fun _ _ _ _ _ => (pg_name (i := 3) sc_Lis_set.nd rfl (.inl rfl))) (fun _ _ _ _ _ => (pts_one (pt_cmpR op_ge (pe_ix (r := rIxL K) ix_list (pv 0) (pe_op op_sub (pv 3) pe_int) (fun _ _ => rfl)) (pe_ix (r := rIxL K) ix_list (pv 0) (pv 3) (fun _ _ => rfl)) (nomark _)))) (fun _ _ _ _ _ => (pv 3))) (pe_lst pa_nil) (nomark _))))), ?_⟩
  walk_at "xs"
  refine x_iteNB (fun h => ?_) (fun h => ?_)
  · rw [isT_list] at h
    have e : setD d n = false := by cases d <;> first | rfl | cases h
    walk_at "xs"
    rw [← e]; exact q _ (Same.refl H)
  · rw [isT_list] at h
    cases hd with
    | @lst a xs ds ha hm hxs =>
      have len := few ds rfl
      have lx := hxs.length
      walk_at "xs"
      intro L hL
      have haL : a ≠ L := ne_of_none ha hL
      refine lc_list (K := K) (xs := xs) (fun i H' => H' = upd H L (.lst (((ds.take i).map fun d => wholeD d 0 (n - 1)).map V.bl))) rfl ?_ ?_ ?_
      · rintro i _ _ rfl
        exact SqL.of (by rw [upd_ne haL]; exact ha)
      · rintro i x _ hx rfl
        obtain ⟨d, hd, dx⟩ := hxs.get hx
        have hi := (List.getElem?_eq_some_iff.mp hx).1
        walk_at "xs"
        refine x_wiped rfl ?_
        walk_at "xs"
        refine ⟨x, d, M, 0, n - 1, rfl, dx.ext (Ext.same (same_upd hL)), ?_⟩
        refine x_acc upd_same ?_ ?_
        · rw [List.length_map, List.length_map, List.length_take, sizeLine_eq]; omega
        · show upd _ L _ = _
          rw [upd_upd]
          congr 2
          rw [List.take_add_one, hd, List.map_append, List.map_append]
          rfl
      · rintro _ rfl
        rw [lx, List.take_length]
        walk_at "xs"
        refine x_iteNB (fun h => ?_) (fun h => ?_)
        · walk_at "xs"
          have e : setD (.list ds) n = false := by
            cases e : setD (.list ds) n with
            | false => rfl
            | true => rw [chk_whole e] at h; cases h
          rw [← e]; exact q _ (same_upd hL)
        · obtain ⟨ms, rfl, hms⟩ := whole_all h
          obtain rfl := hxs.toInts
          rw [List.length_map] at len
          have ha2 : (upd H L (.lst (((ms.map PyData.int).map fun d => wholeD d 0 (n - 1)).map V.bl))) a = some (.lst (ms.map V.int)) := by rw [upd_ne haL]; exact ha
          have S1 := same_upd hL (o := .lst (((ms.map PyData.int).map fun d => wholeD d 0 (n - 1)).map V.bl))
          generalize upd H L _ = H1 at *
          walk_at "xs"
          refine x_rg2 (by rw [List.length_map]; omega) ?_
          intro L2 hL2
          have haL2 : a ≠ L2 := ne_of_none ha2 hL2
          refine lc_range (lo := 1) (n := (((ms.map V.int).length : Int) - 1).toNat) (fun i H' => ∃ l : List Int, H' = upd H1 L2 (.lst (l.map V.int)) ∧ l.length ≤ i ∧ (l = [] ↔ ∀ (j : Nat) (x y : Int), j < i → ms[j]? = some x → ms[j + 1]? = some y → x < y)) ⟨[], rfl, Nat.le_refl _, by simp⟩ ?_ ?_
          · rintro i _ hi ⟨l, rfl, ll, hl⟩
            rw [List.length_map] at hi
            have h1 : i < ms.length := by omega
            have h2 : i + 1 < ms.length := by omega
            have ha3 : (upd H1 L2 (.lst (l.map V.int))) a = some (.lst (ms.map V.int)) := by rw [upd_ne haL2]; exact ha2
            walk_at "xs"
            refine x_wiped rfl ?_
            walk_at "xs"
            refine x_ixL (SqL.of ha3) (v := .int ms[i]) (by rw [show (1 + (i : Int) - 1) = (i : Nat) by omega]; exact atI_nat (by rw [List.getElem?_map, List.getElem?_eq_getElem h1]; rfl)) ?_
            walk_at "xs"
            refine x_ixL (SqL.of ha3) (v := .int ms[i + 1]) (by rw [show (1 + (i : Int)) = ((i + 1 : Nat) : Int) by omega]; exact atI_nat (by rw [List.getElem?_map, List.getElem?_eq_getElem h2]; rfl)) ?_
            walk_at "xs"
            refine x_ite (fun h => ?_) (fun h => ?_)
            · walk_at "xs"
              refine x_acc upd_same (by rw [List.length_map, sizeLine_eq]; omega) ?_
              refine ⟨l ++ [1 + (i : Int)], by rw [upd_upd, List.map_append]; rfl, by simp; omega, ?_⟩
              refine ⟨fun e => by simp at e, fun q => ?_⟩
              have := q i ms[i] ms[i + 1] (by omega) (List.getElem?_eq_getElem h1) (List.getElem?_eq_getElem h2)
              omega
            · refine ⟨l, rfl, by omega, hl.trans ⟨fun q j x y hj hx hy => ?_, fun q j x y hj => q j x y (by omega)⟩⟩
              by_cases hji : j < i
              · exact q j x y hji hx hy
              · have : j = i := by omega
                subst this
                rw [List.getElem?_eq_getElem h1] at hx
                rw [List.getElem?_eq_getElem h2] at hy
                cases hx; cases hy
                omega
          · rintro _ ⟨l, rfl, ll, hl⟩
            walk_at "xs"
            intro p hp
            have e1 : (upd (upd H1 L2 (.lst (l.map V.int))) p (.lst [])) L2 = some (.lst (l.map V.int)) := by rw [upd_ne (ne_of_none upd_same hp)]; exact upd_same
            refine ⟨.list (l.map PyData.int), .list [], .lst (SqL.of e1) (DpAll.ints l), .lst (SqL.of upd_same) .nil, shaped_ints l, rfl, ?_⟩
            rw [eqv_nil]
            have e : setD (.list (ms.map PyData.int)) n = decide (l.map PyData.int = []) := by
              show chk n (-1) _ = _
              have hl2 : (l.map PyData.int = []) ↔ l = [] := by simp
              have hc := chk_ints (n := n) (ms := ms) (b := -1) hms
              rw [Bool.eq_iff_iff, hc, decide_eq_true_eq, hl2, hl]
              constructor
              · rintro ⟨_, h⟩ j x y _ hx hy
                exact h j x y hx hy
              · intro h
                refine ⟨fun m hm => ?_, fun j x y hx hy => h j x y ?_ hx hy⟩
                · have := hms m (List.mem_of_mem_head? hm); omega
                · have := (List.getElem?_eq_some_iff.mp hy).1
                  rw [List.length_map]; omega
            rw [← e]
            exact q _ (S1.trans ((same_upd hL2).trans (same_upd hp)))
    | _ => cases h
end
/-! ### the drawn things -/
structure Fine (d : PyData) : Prop where
  sz : Sz d 300000 6
  few : fewD d
theorem few_of {d : PyData} (h : ∀ ds, d ≠ .list ds) : fewD d := fun ds e => absurd e (h ds)
theorem sz_big {i : Int} (h : i.natAbs < 2 ^ 200) : Sz (.int i) 6100 4 := (sz_int h).mono (by decide) (by decide)
theorem sz_list' {p q n : Nat} {ds : List PyData} (h : ∀ d ∈ ds, Sz d p q) (hn : ds.length ≤ n) : Sz (.list ds) (n * (p + 2) + 3) (q + 1) :=
  (sz_list h).mono (Nat.add_le_add_right (Nat.mul_le_mul_right _ hn) 3) (Nat.le_refl _)
theorem odds_sz : ∀ d ∈ odds, Sz d 6100 4 ∧ fewD d := by
  have i0 : ∀ i : Int, i.natAbs < 2 ^ 200 → Sz (.int i) 6100 4 ∧ fewD (.int i) := fun i h => ⟨sz_big h, few_of nofun⟩
  have s1 : ∀ i : Int, i.natAbs < 2 ^ 200 → Sz (.int i) 201 0 := fun i h => sz_int h
  have lz : ∀ ds : List PyData, (∀ d ∈ ds, Sz d 201 0) → ds.length ≤ 5 → Sz (.list ds) 6100 4 ∧ fewD (.list ds) := fun ds h hl =>
    ⟨(sz_list' h hl).mono (by decide) (by decide), fun es e => by cases e; omega⟩
  have tz : ∀ ds : List PyData, (∀ d ∈ ds, Sz d 201 0) → ds.length ≤ 5 → Sz (.tuple ds) 6100 4 ∧ fewD (.tuple ds) := fun ds h hl =>
    ⟨((sz_tuple h).mono (Nat.add_le_add_right (Nat.mul_le_mul_right _ hl) 3) (Nat.le_refl _)).mono (by decide) (by decide), few_of nofun⟩
  intro d hd
  unfold odds odds1 odds2 at hd
  simp only [List.mem_append, List.mem_cons, List.not_mem_nil, or_false] at hd
  rcases hd with ((rfl | rfl | rfl | rfl | rfl | rfl | rfl | rfl | rfl | rfl | rfl | rfl | rfl | rfl | rfl) | rfl | rfl | rfl | rfl | rfl | rfl | rfl | rfl | rfl | rfl | rfl | rfl | rfl) | rfl
  · exact i0 _ (by decide)
  · exact i0 _ (by decide)
  · exact i0 _ (by decide)
  · exact i0 _ (by decide)
  · exact i0 _ (by decide)
  · exact i0 _ (by decide)
  · exact i0 _ (by decide)
  · exact i0 _ (by decide)
  · exact i0 _ (by decide)
  · exact i0 _ (by decide)
  · exact ⟨(sz_bool _).mono (by decide) (by decide), few_of nofun⟩
  · exact ⟨(sz_bool _).mono (by decide) (by decide), few_of nofun⟩
  · exact ⟨sz_none.mono (by decide) (by decide), few_of nofun⟩
  · exact ⟨⟨rfl, by decide +kernel, by decide⟩, few_of nofun⟩
  · exact ⟨⟨rfl, by decide +kernel, by decide⟩, few_of nofun⟩
  · exact tz _ (by simp) (by decide)
  · exact tz _ (by intro d h; simp at h; subst h; exact s1 _ (by decide)) (Nat.le_of_ble_eq_true rfl)
  · exact tz _ (by intro d h; simp at h; rcases h with rfl | rfl <;> exact s1 _ (by decide)) (Nat.le_of_ble_eq_true rfl)
  · exact tz _ (by intro d h; simp at h; rcases h with rfl | rfl | rfl <;> exact s1 _ (by decide)) (Nat.le_of_ble_eq_true rfl)
  · exact tz _ (by intro d h; simp at h; rcases h with rfl | rfl <;> exact s1 _ (by decide)) (Nat.le_of_ble_eq_true rfl)
  · exact lz _ (by simp) (by decide)
  · exact lz _ (by intro d h; simp at h; subst h; exact s1 _ (by decide)) (Nat.le_of_ble_eq_true rfl)
  · exact lz _ (by intro d h; simp at h; rcases h with rfl | rfl <;> exact s1 _ (by decide)) (Nat.le_of_ble_eq_true rfl)
  · refine ⟨(sz_list' (n := 1) (p := 1000) (q := 1) ?_ (Nat.le_of_ble_eq_true rfl)).mono (by decide) (by decide), fun es e => by cases e; exact Nat.le_of_ble_eq_true rfl⟩
    intro d h
    simp at h; subst h
    exact (sz_list' (n := 2) (p := 201) (q := 0) (by intro d h; simp at h; rcases h with rfl | rfl <;> exact s1 _ (by decide)) (Nat.le_of_ble_eq_true rfl)).mono (by decide) (by decide)
  · exact ⟨⟨rfl, by decide, by decide⟩, few_of nofun⟩
  · exact ⟨⟨by decide, by decide, by decide⟩, few_of nofun⟩
  · exact ⟨⟨by decide, by decide, by decide⟩, fun es e => by cases e; exact Nat.le_of_ble_eq_true rfl⟩
  · refine ⟨(sz_list' (n := 2000) (p := 1) (q := 0) ?_ (by rw [List.length_replicate]; decide)).mono (by decide) (by decide), fun es e => by cases e; rw [List.length_replicate]; decide⟩
    intro d h
    rw [(List.mem_replicate.mp h).2]; exact sz_zero
  · exact ⟨⟨rfl, by decide +kernel, by decide⟩, few_of nofun⟩
theorem odd_fine {d : PyData} (h : d ∈ odds) : Fine d := ⟨(odds_sz d h).1.mono (by decide) (by decide), (odds_sz d h).2⟩
theorem int_fine {i : Int} (h : i.natAbs < 2 ^ 200) : Fine (.int i) := ⟨(sz_int h).mono (by decide) (by decide), few_of nofun⟩
theorem list_fine {ds : List PyData} (h : ∀ d ∈ ds, Sz d 6100 4) (n : ds.length ≤ 48) : Fine (.list ds) := ⟨(sz_list' h n).mono (by decide) (by decide), fun es e => by cases e; omega⟩
theorem tuple_fine {ds : List PyData} (h : ∀ d ∈ ds, Sz d 6100 4) (n : ds.length ≤ 48) : Fine (.tuple ds) :=
  ⟨((sz_tuple h).mono (Nat.add_le_add_right (Nat.mul_le_mul_right _ n) 3) (Nat.le_refl _)).mono (by decide) (by decide), few_of nofun⟩
theorem x_odd {H : Hp} {Q : VK} {E : XK} {b c : Addr} (hb : Bag H b c) (h : ∀ H' v d, Ext [b] H H' → Bag H' b c → Dn [b] H' v d → d ∈ odds → Q v H') : spOdd [.ref b] H Q E := ⟨b, c, rfl, hb, h⟩
def spNum : Sp := fun vs H Q _ => ∃ b c, vs = [.ref b] ∧ Bag H b c ∧ ∀ H' i, Ext [b] H H' → Bag H' b c → i.natAbs < 2 ^ 200 → Q (.int i) H'
theorem x_num {H : Hp} {Q : VK} {E : XK} {b c : Addr} (hb : Bag H b c) (h : ∀ H' i, Ext [b] H H' → Bag H' b c → i.natAbs < 2 ^ 200 → Q (.int i) H') : spNum [.ref b] H Q E := ⟨b, c, rfl, hb, h⟩
structure Cb (H0 : Hp) (b c f : Addr) (xs : List V) (H : Hp) : Prop where
  e : Ext [b] H0 H
  bag : Bag H b c
  fd : H f = some (.lst xs)
  ne : f ∉ [b]
theorem Cb.new {H0 H : Hp} {b c f p : Addr} {xs : List V} (u : HO) (cb : Cb H0 b c f xs H) (hp : H p = none) : Cb H0 b c f xs (upd H p u) ∧ p ∉ [b] ∧ upd H p u p = some u := by
  obtain ⟨ob, hob⟩ := cb.bag.at
  exact ⟨⟨cb.e.trans (Ext.same (same_upd hp)), cb.bag.ext (same_upd hp), same_upd hp _ _ cb.fd, cb.ne⟩, new_out (Same.refl H) hob hp, upd_same⟩
theorem Cb.step {H0 H H' : Hp} {b c f : Addr} {xs : List V} (cb : Cb H0 b c f xs H) (E : Ext [b] H H') (B : Bag H' b c) : Cb H0 b c f xs H' := ⟨cb.e.trans E, B, E _ _ cb.ne cb.fd, cb.ne⟩
theorem cut_map2 (ns : List Int) (lo hi : Option Int) : ∃ ms : List Int, cutV (ns.map V.int) lo hi = ms.map V.int ∧ (∀ m ∈ ms, m ∈ ns) ∧ ms.length ≤ ns.length := by
  have h := cutV_length (ns.map V.int) lo hi
  unfold cutV at h ⊢
  rw [← List.map_drop, ← List.map_take] at h ⊢
  refine ⟨_, rfl, fun m hm => List.mem_of_mem_drop (List.mem_of_mem_take hm), by simpa using h⟩
theorem DnAll.sz {ms : List Int} {n : Int} (h : ∀ m ∈ ms, 0 ≤ m ∧ m < n) (hn : n ≤ 10) : ∀ d ∈ ms.map PyData.int, Sz d 6100 4 := by
  intro d hd
  obtain ⟨m, hm, rfl⟩ := List.mem_map.mp hd
  have := h m hm
  have b : (11 : Nat) < 2 ^ 200 := by decide
  exact sz_big (by omega)
section
variable {P : Program} {w : World} {K : PySem.W.Frag} {mg : Str → Option Value} {base : Heap} {tA tC : Tok}
theorem kn_number {k : Nat} (D : Df K mg "_law_number" s_Lnumber) (B : Bl mg tA tC) (c_Ltake : Kn P w K mg base "_law_take" k spTake) : Kn P w K mg base "_law_number" (k + 1) spNum := by
  refine kn_of D (fun _ _ _ _ _ _ us hl => match us, hl with | [_], _ => rfl) sc_Lnumber (fun vs H Q E h => by obtain ⟨b, c, rfl, _⟩ := h; rfl) (fun f cd B' fr z H vs Q E hr gd h => ?_)
  obtain ⟨b, c, rfl, hB, q⟩ := h
  refine ⟨_, (pss_cons (ps_set (i := 1) sc_Lnumber.nd rfl (.inl rfl) (pe_lst (pa_cons pe_int (pa_cons pe_int (pa_cons (pe_op op_pow pe_int pe_int) (pa_cons (pe_op op_pow pe_int pe_int) (pa_cons (pe_own c_Ltake hr gd (by rfl) (pa_cons (pv 0) (pa_cons (pe_op op_pow pe_int pe_int) pa_nil))) (pa_cons (pe_un un_neg (pe_own c_Ltake hr gd (by rfl) (pa_cons (pv 0) (pa_cons (pe_op op_pow pe_int pe_int) pa_nil)))) pa_nil))))))))
  (pss_one (ps_ret (pe_op op_sub (pe_op op_add (pe_ix (r := rIxL K) ix_list (pv 1) (pe_own c_Ltake hr gd (by rfl) (pa_cons (pv 0) (pa_cons pe_int pa_nil))) (fun _ _ => rfl)) (pe_own c_Ltake hr gd (by rfl) (pa_cons (pv 0) (pa_cons pe_int pa_nil)))) pe_int)))), ?_⟩
  walk_at "xs"
  refine x_take hB (by decide) (by decide) ?_
  intro H1 v1 E1 B1 a1 c1
  walk_at "xs"
  refine x_take B1 (by decide) (by decide) ?_
  intro H2 v2 E2 B2 a2 c2
  walk_at "xs"
  intro p hp
  have B3 := B2.ext (same_upd (o := .lst [.int 0, .int 1, .int (10 ^ (18 : Int).toNat), .int (10 ^ (30 : Int).toNat), .int v1, .int (-v2)]) hp)
  obtain ⟨ob, hob⟩ := B2.at
  have np := new_out (Same.refl H2) hob hp
  walk_at "xs"
  refine x_take B3 (by decide) (by decide) ?_
  intro H3 v3 E3 B4 a3 c3
  have e3 := E3 _ _ np upd_same
  obtain ⟨x, ex, ax⟩ := ix_at e3 a3 c3
  refine x_ixL (SqL.of e3) ax ?_
  have hx : ∃ i : Int, x = .int i ∧ i.natAbs < 2 ^ 150 := by
    have c1 : v1 < 10 ^ 40 := c1
    have c2 : v2 < 10 ^ 40 := c2
    have b1 : (10 : Int) ^ 40 < 2 ^ 150 := by decide
    have hm := List.mem_of_getElem? ex
    simp only [List.mem_cons, List.not_mem_nil, or_false] at hm
    rcases hm with rfl | rfl | rfl | rfl | rfl | rfl
    · exact ⟨_, rfl, by decide⟩
    · exact ⟨_, rfl, by decide⟩
    · exact ⟨_, rfl, by decide⟩
    · exact ⟨_, rfl, by decide⟩
    · exact ⟨_, rfl, by omega⟩
    · exact ⟨_, rfl, by omega⟩
  obtain ⟨i, rfl, hi⟩ := hx
  walk_at "xs"
  refine x_take B4 (by decide) (by decide) ?_
  intro H4 v4 E4 B5 a4 c4
  walk_at "xs"
  refine q _ _ (E1.trans (E2.trans ((Ext.same (same_upd hp)).trans (E3.trans E4)))) B5 ?_
  have b2 : (2 : Nat) ^ 150 + 10 < 2 ^ 200 := by decide
  omega
def spBrok : Sp := fun vs H Q _ => ∃ b c n, vs = [.ref b, .int n] ∧ Bag H b c ∧ 0 ≤ n ∧ n ≤ 10 ∧ ∀ H' v d, Ext [b] H H' → Bag H' b c → Dn [b] H' v d → Fine d → Q v H'
theorem x_brok {H : Hp} {Q : VK} {E : XK} {b c : Addr} {n : Int} (hb : Bag H b c) (h0 : 0 ≤ n) (h1 : n ≤ 10) (h : ∀ H' v d, Ext [b] H H' → Bag H' b c → Dn [b] H' v d → Fine d → Q v H') : spBrok [.ref b, .int n] H Q E := ⟨b, c, n, rfl, hb, h0, h1, h⟩
theorem kn_brokers {k : Nat} (D : Df K mg "_law_brokers" s_Lbrokers) (B : Bl mg tA tC) (c_Ltake : Kn P w K mg base "_law_take" k spTake) (c_Lodd : Kn P w K mg base "_law_odd" k spOdd) : Kn P w K mg base "_law_brokers" (k + 1) spBrok := by
  refine kn_of D (fun _ _ _ _ _ _ us hl => match us, hl with | [_, _], _ => rfl) sc_Lbrokers (fun vs H Q E h => by obtain ⟨b, c, n, rfl, _⟩ := h; rfl) (fun f cd B' fr z H vs Q E hr gd h => ?_)
  obtain ⟨b, c, n, rfl, hB, n0, n1, q⟩ := h
  refine ⟨_, (pss_cons (ps_setLc (i := 2) (own := [("_law_broker", 5)]) rfl sc_Lbrokers.nd rfl rfl (sw_true rfl rfl rfl (by decide +kernel)) (pi_range1 (by rfl) B.range (pa_cons (pv 1) pa_nil)) (blkOk_by (N := ["_law_bag_here", "_law_size", "_law_found", "_law_at", "_law_way", "_law_broker"]) (sc := defScope s_Lbrokers) (by decide +kernel)) (fun _ _ _ _ _ => (pg_name (i := 5) sc_Lbrokers.nd rfl (.inl rfl))) (fun _ _ _ _ _ => (pts_one (pt_cmpR op_eq (pe_own c_Ltake hr gd (by rfl) (pa_cons (pv 0) (pa_cons pe_int pa_nil))) pe_int (nomark _)))) (fun _ _ _ _ _ => (pv 5)))
  (pss_cons (ps_par (i := 3) (j := 4) (by rfl) sc_Lbrokers.nd rfl rfl (by decide) rfl rfl (pa_cons (pe_own c_Ltake hr gd (by rfl) (pa_cons (pv 0) (pa_cons (pe_op op_add (pe_callB call_len_seq (by rfl) B.len (by decide +kernel) (pa_cons (pv 2) pa_nil)) pe_int) pa_nil))) (pa_cons (pe_own c_Ltake hr gd (by rfl) (pa_cons (pv 0) (pa_cons pe_int pa_nil))) pa_nil)) (by rfl))
  (pss_cons (ps_if (pt_cmpR op_eq (pv 4) pe_int (nomark _)) (pss_one (ps_ret (pe_op op_cat (pe_op op_cat (pe_slice (r := rSlL K) sl_list (pv 2) po_none (po_some (pv 3))) (pe_lst (pa_cons (pe_own c_Lodd hr gd (by rfl) (pa_cons (pv 0) pa_nil)) pa_nil))) (pe_slice (r := rSlL K) sl_list (pv 2) (po_some (pv 3)) po_none)))) pss_nil)
  (pss_cons (ps_if (pt_cmpR op_eq (pv 4) pe_int (nomark _)) (pss_one (ps_ret (pe_op op_cat (pe_op op_cat (pe_slice (r := rSlL K) sl_list (pv 2) po_none (po_some (pv 3))) (pe_slice (r := rSlL K) sl_list (pv 2) (po_some (pv 3)) (po_some (pe_op op_add (pv 3) pe_int)))) (pe_slice (r := rSlL K) sl_list (pv 2) (po_some (pv 3)) po_none)))) pss_nil)
  (pss_cons (ps_if (pt_cmpR op_eq (pv 4) pe_int (nomark _)) (pss_one (ps_ret (pe_ix (r := rIxL K) ix_list (pe_lst (pa_cons (pe_revL (pv 2)) (pa_cons (pe_callTy call_tuple_of (by rfl) B.«tuple» (by decide +kernel) (pa_cons (pv 2) pa_nil)) (pa_cons (pe_op op_cat (pv 2) (pe_lst (pa_cons (pv 1) pa_nil))) (pa_cons (pe_op op_cat (pe_lst (pa_cons (pe_un un_neg pe_int) pa_nil)) (pv 2)) pa_nil))))) (pe_own c_Ltake hr gd (by rfl) (pa_cons (pv 0) (pa_cons pe_int pa_nil))) (fun _ _ => rfl)))) pss_nil)
  (pss_one (ps_ret (pe_ifExp (pt_cmpR op_eq (pv 4) pe_int (nomark _)) (pe_op op_cat (pe_slice (r := rSlL K) sl_list (pv 2) po_none (po_some (pv 3))) (pe_slice (r := rSlL K) sl_list (pv 2) (po_some (pe_op op_add (pv 3) pe_int)) po_none)) (pv 2))))))))), ?_⟩
  walk_at "xs"
  intro F hF
  obtain ⟨ob, hob⟩ := hB.at
  have nF := new_out (Same.refl H) hob hF
  refine lc_range (lo := 0) (n := n.toNat) (fun i H' => ∃ l : List Int, Cb H b c F (l.map V.int) H' ∧ (∀ m ∈ l, 0 ≤ m ∧ m < n) ∧ l.length ≤ i) ?_ ?_ ?_
  · exact ⟨[], ⟨Ext.same (same_upd hF), hB.ext (same_upd hF), upd_same, nF⟩, by simp, Nat.le_refl _⟩
  · rintro i H1 hi ⟨l, cb, hl, ll⟩
    walk_at "xs"
    refine x_wiped rfl ?_
    walk_at "xs"
    refine x_take cb.bag (by decide) (by decide) ?_
    intro H2 v E2 B2 a2 c2
    have cb2 := cb.step E2 B2
    walk_at "xs"
    refine x_ite (fun h => ?_) (fun h => ?_)
    · walk_at "xs"
      refine x_acc cb2.fd (by rw [List.length_map, sizeLine_eq]; omega) ?_
      have nb : F ≠ b := by simpa using nF
      refine ⟨l ++ [0 + (i : Int)], ⟨fun a o n e => ?_, ?_, by rw [upd_same, List.map_append]; rfl, nF⟩, ?_, by simp; omega⟩
      · have na : a ≠ F := ne_of_none e hF
        rw [upd_ne na]; exact cb2.e _ _ n e
      · obtain ⟨x, y, k, cs, h1, h2, h3, h4, h5, h6, h7⟩ := cb2.bag
        have n1 : c ≠ F := by
          obtain ⟨x0, y0, k0, cs0, g1, g2, _⟩ := hB
          exact ne_of_none g2 hF
        exact ⟨x, y, k, cs, by rw [upd_ne nb.symm]; exact h1, by rw [upd_ne n1]; exact h2, h3, h4, h5, h6, h7⟩
      · intro m hm
        rcases List.mem_append.mp hm with hm | hm
        · exact hl m hm
        · simp at hm; omega
    · exact ⟨l, cb2, hl, by omega⟩
  · rintro H1 ⟨l, cb, hl, ll⟩
    have fd := cb.fd
    have hsz := DnAll.sz hl n1
    walk_at "xs"
    have big : (12 : Nat) < 2 ^ 200 := by decide
    have lm10 : (l.map V.int).length ≤ 10 := by rw [List.length_map]; omega
    refine x_take cb.bag (by omega) (by omega) ?_
    intro H2 at_ E2 B2 a2 c2
    have cb := cb.step E2 B2
    walk_at "xs"
    refine x_take cb.bag (by decide) (by decide) ?_
    intro H3 way E3 B3 a3 c3
    have cb := cb.step E3 B3
    have fd := cb.fd
    walk_at "xs"
    refine x_ite (fun h => ?_) (fun h => ?_)
    · -- one thing more
      walk_at "xs"
      intro p1 hp1
      obtain ⟨ms, em, hm, lm⟩ := cut_map2 l none (some at_)
      rw [em]
      obtain ⟨cb, n1', e1⟩ := cb.new (.lst (ms.map V.int)) hp1
      generalize upd H3 p1 _ = H4 at *
      walk_at "xs"
      refine x_odd cb.bag ?_
      intro H5 v d E5 B5 dv dm
      have e1 := E5 _ _ n1' e1
      have cb := cb.step E5 B5
      walk_at "xs"
      intro p2 hp2
      have e1 := same_upd hp2 (o := .lst [v]) _ _ e1
      have dv := dv.ext (Ext.same (same_upd hp2 (o := .lst [v])))
      obtain ⟨cb, n2', e2⟩ := cb.new (.lst [v]) hp2
      generalize upd H5 p2 _ = H6 at *
      refine x_cat e1 e2 (by rw [sizeLine_eq, List.length_map]; simp only [List.length_cons, List.length_nil]; omega) ?_
      intro p3 hp3
      have dv := dv.ext (Ext.same (same_upd hp3 (o := .lst (ms.map V.int ++ [v]))))
      obtain ⟨cb, n3', e3⟩ := cb.new (.lst (ms.map V.int ++ [v])) hp3
      generalize upd H6 p3 _ = H7 at *
      have fd := cb.fd
      walk_at "xs"
      intro p4 hp4
      obtain ⟨ms2, em2, hm2, lm2⟩ := cut_map2 l (some at_) none
      rw [em2]
      have e3 := same_upd hp4 (o := .lst (ms2.map V.int)) _ _ e3
      have dv := dv.ext (Ext.same (same_upd hp4 (o := .lst (ms2.map V.int))))
      obtain ⟨cb, n4', e4⟩ := cb.new (.lst (ms2.map V.int)) hp4
      generalize upd H7 p4 _ = H8 at *
      refine x_cat e3 e4 (by rw [sizeLine_eq, List.length_append, List.length_map, List.length_map]; simp only [List.length_cons, List.length_nil]; omega) ?_
      intro p5 hp5
      have dv := dv.ext (Ext.same (same_upd hp5 (o := .lst (ms.map V.int ++ [v] ++ ms2.map V.int))))
      obtain ⟨cb, n5', e5⟩ := cb.new (.lst (ms.map V.int ++ [v] ++ ms2.map V.int)) hp5
      walk_at "xs"
      refine q _ _ _ cb.e cb.bag (.lst e5 n5' (((DnAll.ints ms).app (.cons dv .nil)).app (DnAll.ints ms2))) (list_fine ?_ ?_)
      · intro u hu
        rcases List.mem_append.mp hu with hu | hu
        · rcases List.mem_append.mp hu with hu | hu
          · obtain ⟨m, mm, rfl⟩ := List.mem_map.mp hu
            exact hsz _ (List.mem_map.mpr ⟨m, hm m mm, rfl⟩)
          · simp at hu; subst hu; exact (odds_sz _ dm).1
        · obtain ⟨m, mm, rfl⟩ := List.mem_map.mp hu
          exact hsz _ (List.mem_map.mpr ⟨m, hm2 m mm, rfl⟩)
      · simp only [List.length_append, List.length_map, List.length_cons, List.length_nil]; omega
    · walk_at "xs"
      refine x_ite (fun h => ?_) (fun h => ?_)
      · -- one thing twice
        walk_at "xs"
        intro p1 hp1
        obtain ⟨m1, em, hm1, lm1⟩ := cut_map2 l none (some at_)
        rw [em]
        obtain ⟨cb, n1', e1⟩ := cb.new (.lst (m1.map V.int)) hp1
        generalize upd H3 p1 _ = H4 at *
        have fd := cb.fd
        walk_at "xs"
        intro p2 hp2
        obtain ⟨m2, em2, hm2, lm2⟩ := cut_map2 l (some at_) (some (at_ + 1))
        rw [em2]
        have e1 := same_upd hp2 (o := .lst (m2.map V.int)) _ _ e1
        obtain ⟨cb, n2', e2⟩ := cb.new (.lst (m2.map V.int)) hp2
        generalize upd H4 p2 _ = H5 at *
        refine x_cat e1 e2 (by rw [sizeLine_eq, List.length_map, List.length_map]; omega) ?_
        intro p3 hp3
        obtain ⟨cb, n3', e3⟩ := cb.new (.lst (m1.map V.int ++ m2.map V.int)) hp3
        generalize upd H5 p3 _ = H6 at *
        have fd := cb.fd
        walk_at "xs"
        intro p4 hp4
        obtain ⟨m3, em3, hm3, lm3⟩ := cut_map2 l (some at_) none
        rw [em3]
        have e3 := same_upd hp4 (o := .lst (m3.map V.int)) _ _ e3
        obtain ⟨cb, n4', e4⟩ := cb.new (.lst (m3.map V.int)) hp4
        generalize upd H6 p4 _ = H7 at *
        refine x_cat e3 e4 (by rw [sizeLine_eq, List.length_append, List.length_map, List.length_map, List.length_map]; omega) ?_
        intro p5 hp5
        obtain ⟨cb, n5', e5⟩ := cb.new (.lst (m1.map V.int ++ m2.map V.int ++ m3.map V.int)) hp5
        walk_at "xs"
        refine q _ _ _ cb.e cb.bag (.lst e5 n5' (((DnAll.ints m1).app (DnAll.ints m2)).app (DnAll.ints m3))) (list_fine ?_ ?_)
        · intro u hu
          rcases List.mem_append.mp hu with hu | hu
          · rcases List.mem_append.mp hu with hu | hu
            · obtain ⟨m, mm, rfl⟩ := List.mem_map.mp hu
              exact hsz _ (List.mem_map.mpr ⟨m, hm1 m mm, rfl⟩)
            · obtain ⟨m, mm, rfl⟩ := List.mem_map.mp hu
              exact hsz _ (List.mem_map.mpr ⟨m, hm2 m mm, rfl⟩)
          · obtain ⟨m, mm, rfl⟩ := List.mem_map.mp hu
            exact hsz _ (List.mem_map.mpr ⟨m, hm3 m mm, rfl⟩)
        · simp only [List.length_append, List.length_map]; omega
      · walk_at "xs"
        refine x_ite (fun h => ?_) (fun h => ?_)
        · -- turned about, a tuple, one too many
          walk_at "xs"
          refine x_revL (SqL.of fd) ?_
          intro p1 hp1
          rw [← List.map_reverse]
          obtain ⟨cb, n1', e1⟩ := cb.new (.lst (l.reverse.map V.int)) hp1
          generalize upd H3 p1 _ = H4 at *
          have fd := cb.fd
          walk_at "xs"
          intro p2 hp2
          have e1 := same_upd hp2 (o := .tup (l.map V.int)) _ _ e1
          obtain ⟨cb, n2', e2⟩ := cb.new (.tup (l.map V.int)) hp2
          generalize upd H4 p2 _ = H5 at *
          walk_at "xs"
          intro q3 hq3
          have e1 := same_upd hq3 (o := .lst [.int n]) _ _ e1
          have e2 := same_upd hq3 (o := .lst [.int n]) _ _ e2
          obtain ⟨cb, m3', g3⟩ := cb.new (.lst [.int n]) hq3
          generalize upd H5 q3 _ = H6 at *
          have fd := cb.fd
          refine x_cat fd g3 (by rw [sizeLine_eq, List.length_map]; simp only [List.length_cons, List.length_nil]; omega) ?_
          intro p3 hp3
          have e1 := same_upd hp3 (o := .lst (l.map V.int ++ [.int n])) _ _ e1
          have e2 := same_upd hp3 (o := .lst (l.map V.int ++ [.int n])) _ _ e2
          obtain ⟨cb, n3', e3⟩ := cb.new (.lst (l.map V.int ++ [.int n])) hp3
          generalize upd H6 p3 _ = H7 at *
          walk_at "xs"
          intro q4 hq4
          have e1 := same_upd hq4 (o := .lst [.int (-1)]) _ _ e1
          have e2 := same_upd hq4 (o := .lst [.int (-1)]) _ _ e2
          have e3 := same_upd hq4 (o := .lst [.int (-1)]) _ _ e3
          obtain ⟨cb, m4', g4⟩ := cb.new (.lst [.int (-1)]) hq4
          generalize upd H7 q4 _ = H8 at *
          have fd := cb.fd
          walk_at "xs"
          intro p4 hp4
          have e1 := same_upd hp4 (o := .lst ([.int (-1)] ++ l.map V.int)) _ _ e1
          have e2 := same_upd hp4 (o := .lst ([.int (-1)] ++ l.map V.int)) _ _ e2
          have e3 := same_upd hp4 (o := .lst ([.int (-1)] ++ l.map V.int)) _ _ e3
          obtain ⟨cb, n4', e4⟩ := cb.new (.lst ([.int (-1)] ++ l.map V.int)) hp4
          generalize upd H8 p4 _ = H9 at *
          walk_at "xs"
          intro p5 hp5
          have e1 := same_upd hp5 (o := .lst [.ref p1, .ref p2, .ref p3, .ref p4]) _ _ e1
          have e2 := same_upd hp5 (o := .lst [.ref p1, .ref p2, .ref p3, .ref p4]) _ _ e2
          have e3 := same_upd hp5 (o := .lst [.ref p1, .ref p2, .ref p3, .ref p4]) _ _ e3
          have e4 := same_upd hp5 (o := .lst [.ref p1, .ref p2, .ref p3, .ref p4]) _ _ e4
          obtain ⟨cb, n5', e5⟩ := cb.new (.lst [.ref p1, .ref p2, .ref p3, .ref p4]) hp5
          generalize upd H9 p5 _ = H10 at *
          walk_at "xs"
          refine x_take cb.bag (by decide) (by decide) ?_
          intro H11 v E11 B11 a4 c4
          have cb := cb.step E11 B11
          have e1 := E11 _ _ n1' e1
          have e2 := E11 _ _ n2' e2
          have e3 := E11 _ _ n3' e3
          have e4 := E11 _ _ n4' e4
          have e5 := E11 _ _ n5' e5
          obtain ⟨x, ex, ax⟩ := ix_at e5 a4 c4
          refine x_ixL (SqL.of e5) ax ?_
          walk_at "xs"
          have hm := List.mem_of_getElem? ex
          simp only [List.mem_cons, List.not_mem_nil, or_false] at hm
          have hn : Sz (.int n) 6100 4 := sz_big (by omega)
          have h1 : Sz (.int (-1)) 6100 4 := sz_big (by decide)
          have mem : ∀ m ∈ l, Sz (.int m) 6100 4 := fun m hm => hsz _ (List.mem_map.mpr ⟨m, hm, rfl⟩)
          rcases hm with rfl | rfl | rfl | rfl
          · refine q _ _ _ cb.e cb.bag (.lst e1 n1' (DnAll.ints l.reverse)) (list_fine ?_ ?_)
            · intro u hu
              obtain ⟨m, mm, rfl⟩ := List.mem_map.mp hu
              exact mem m (by simpa using mm)
            · rw [List.length_map, List.length_reverse]; omega
          · refine q _ _ _ cb.e cb.bag (.tup e2 n2' (DnAll.ints l)) (tuple_fine hsz ?_)
            rw [List.length_map]; omega
          · refine q _ _ _ cb.e cb.bag (.lst e3 n3' ((DnAll.ints l).app (.cons (.int n) .nil))) (list_fine ?_ ?_)
            · intro u hu
              rcases List.mem_append.mp hu with hu | hu
              · exact hsz _ hu
              · simp at hu; subst hu; exact hn
            · rw [List.length_append, List.length_map]; simp only [List.length_cons, List.length_nil]; omega
          · refine q _ _ _ cb.e cb.bag (.lst e4 n4' (.cons (.int (-1)) (DnAll.ints l))) (list_fine ?_ ?_)
            · intro u hu
              rcases List.mem_cons.mp hu with rfl | hu
              · exact h1
              · exact hsz _ hu
            · rw [List.length_cons, List.length_map]; omega
        · walk_at "xs"
          refine x_ite (fun h => ?_) (fun h => ?_)
          · -- one thing less
            walk_at "xs"
            intro p1 hp1
            obtain ⟨m1, em, hm1, lm1⟩ := cut_map2 l none (some at_)
            rw [em]
            obtain ⟨cb, n1', e1⟩ := cb.new (.lst (m1.map V.int)) hp1
            generalize upd H3 p1 _ = H4 at *
            have fd := cb.fd
            walk_at "xs"
            intro p2 hp2
            obtain ⟨m2, em2, hm2, lm2⟩ := cut_map2 l (some (at_ + 1)) none
            rw [em2]
            have e1 := same_upd hp2 (o := .lst (m2.map V.int)) _ _ e1
            obtain ⟨cb, n2', e2⟩ := cb.new (.lst (m2.map V.int)) hp2
            generalize upd H4 p2 _ = H5 at *
            refine x_cat e1 e2 (by rw [sizeLine_eq, List.length_map, List.length_map]; omega) ?_
            intro p3 hp3
            obtain ⟨cb, n3', e3⟩ := cb.new (.lst (m1.map V.int ++ m2.map V.int)) hp3
            refine q _ _ _ cb.e cb.bag (.lst e3 n3' ((DnAll.ints m1).app (DnAll.ints m2))) (list_fine ?_ ?_)
            · intro u hu
              rcases List.mem_append.mp hu with hu | hu
              · obtain ⟨m, mm, rfl⟩ := List.mem_map.mp hu
                exact hsz _ (List.mem_map.mpr ⟨m, hm1 m mm, rfl⟩)
              · obtain ⟨m, mm, rfl⟩ := List.mem_map.mp hu
                exact hsz _ (List.mem_map.mpr ⟨m, hm2 m mm, rfl⟩)
            · simp only [List.length_append, List.length_map]; omega
          · walk_at "xs"
            refine q _ _ _ cb.e cb.bag (.lst cb.fd cb.ne (DnAll.ints l)) (list_fine hsz ?_)
            rw [List.length_map]; omega
end
def spLaw (K : PySem.W.Frag) : Sp := fun vs H Q _ => ∃ (a : Addr) (ns : List Int), vs = [.ref a] ∧ SqL K H a (ns.map V.int) ∧ ∀ H', Q (.bl true) H'
theorem x_bag {K : PySem.W.Frag} {H : Hp} {Q : VK} {E : XK} {a : Addr} {ns : List Int} (ha : SqL K H a (ns.map V.int)) (h : ∀ H' b c, Same H H' → H b = none → Bag H' b c → Q (.ref b) H') : spBag K [.ref a] H Q E := ⟨a, ns, rfl, ha, h⟩
def dueD (d : PyData) (n : Int) : List Bool := [isIntD d, wholeD d 0 (10 ^ (30 : Int).toNat), wholeD d 1 (10 ^ (18 : Int).toNat), setD d n]
theorem DnAll.bls {M : List Addr} {H : Hp} : ∀ (bs : List Bool), DnAll M H (bs.map V.bl) (bs.map PyData.bool)
  | [] => .nil
  | b :: r => .cons (.bl b) (DnAll.bls r)
theorem lay_bls : ∀ bs : List Bool, PyData.canLayAll0 (bs.map PyData.bool) = true ∧ PyData.depthAll (bs.map PyData.bool) = 0
  | [] => ⟨rfl, rfl⟩
  | b :: r => by
    obtain ⟨a, c⟩ := lay_bls r
    exact ⟨by simp [PyData.canLayAll0, PyData.canLay0, a], by simp [PyData.depthAll, PyData.depth, c]⟩
theorem shaped_bls (bs : List Bool) : SeqAt.shaped (.list (bs.map PyData.bool)) = true := by
  obtain ⟨a, b⟩ := lay_bls bs
  simp [SeqAt.shaped, PyData.canLay0, a, PyData.depth, b]
theorem shows_bls {bs : List Bool} (h : bs.length ≤ 1000) : Shows (.list (bs.map PyData.bool)) :=
  (sz_list' (n := 1000) (p := 5) (q := 0) (fun d hd => by obtain ⟨b, _, rfl⟩ := List.mem_map.mp hd; exact sz_bool b) (by rw [List.length_map]; exact h)).shows (by decide) (by decide)
section
variable {P : Program} {w : World} {K : PySem.W.Frag} {mg : Str → Option Value} {tA tC : Tok}
theorem ok_law {base : Heap} (sys : ∃ o, base.get? sysModules = some o) (B : Bl mg tA tC) {k : Nat}
    (c_Lbag : Kn P w K mg base "_law_bag" k (spBag K)) (c_Ltake : Kn P w K mg base "_law_take" k spTake) (c_Lnumber : Kn P w K mg base "_law_number" k spNum)
    (c_Lodd : Kn P w K mg base "_law_odd" k spOdd) (c_Lbrokers : Kn P w K mg base "_law_brokers" k spBrok) (c_Lwhole : Kn P w K mg base "_law_whole" k (sp3 wholeD)) (c_Lis_set : Kn P w K mg base "_law_is_set" k spSetL)
    (c_is_integer : Kn P w K mg base "is_integer" k (sp1 isIntD)) (c_is_amount : Kn P w K mg base "is_amount" k (sp1 (inD 0 (10 ^ 30)))) (c_is_count : Kn P w K mg base "is_count" k (sp1 (inD 1 (10 ^ 18))))
    (c_is_set : Kn P w K mg base "is_set" k (sp2 setD)) (c_Lalike : Kn P w K mg base "_law_alike" k spAlike)
    (f : Addr) (cd : Value) (B' : Around) (fr : List Env) (z : Shared) (H : Hp) (vs : List V) (Q : VK) (E : XK)
    (hr : Room k (B'.deeper (envOfC "law" (defScope s_law) z.heap.objs.size f cd))) (gd : (B'.deeper (envOfC "law" (defScope s_law) z.heap.objs.size f cd)).guards = some []) (h : spLaw K vs H Q E) :
    ∃ t, PSs (bodyX P w K mg base ["_law_script", "_law_bag_here", "_law_turn", "_law_size", "_law_thing", "_law_shown", "_law_due", "_law_again", "_law_found"] "law" s_law f cd B' fr z H E) (defBody s_law) t ∧
      t { nx := fun _ H' => Q .non H', rt := Q } (start ["_law_script", "_law_bag_here", "_law_turn", "_law_size", "_law_thing", "_law_shown", "_law_due", "_law_again", "_law_found"] vs) H := by
  obtain ⟨a, ns, rfl, ha, q⟩ := h
  refine ⟨_, (pss_cons (ps_set (i := 1) sc_law.nd rfl (.inl rfl) (pe_own c_Lbag hr gd (by rfl) (pa_cons (pv 0) pa_nil)))
  (pss_cons (ps_for PassesOwn.never rfl (pi_range1 (by rfl) B.range (pa_cons pe_int pa_nil)) (pg_name (i := 2) sc_law.nd rfl (.inl rfl))
  (pss_cons (ps_set (i := 3) sc_law.nd rfl (.inl rfl) (pe_op op_add pe_int (pe_own c_Ltake hr gd (by rfl) (pa_cons (pv 1) (pa_cons pe_int pa_nil)))))
  (pss_cons (ps_set (i := 4) sc_law.nd rfl (.inl rfl) (pe_ix (r := rIxL K) ix_list (pe_lst (pa_cons (pe_own c_Lnumber hr gd (by rfl) (pa_cons (pv 1) pa_nil)) (pa_cons (pe_own c_Lodd hr gd (by rfl) (pa_cons (pv 1) pa_nil)) (pa_cons (pe_own c_Lbrokers hr gd (by rfl) (pa_cons (pv 1) (pa_cons (pv 3) pa_nil))) pa_nil)))) (pe_own c_Ltake hr gd (by rfl) (pa_cons (pv 1) (pa_cons pe_int pa_nil))) (fun _ _ => rfl)))
  (pss_cons (ps_set (i := 5) sc_law.nd rfl (.inl rfl) (pe_callB (call_reprD gd hr.units sys) (by rfl) B.repr (by decide +kernel) (pa_cons (pv 4) pa_nil)))
  (pss_cons (ps_set (i := 6) sc_law.nd rfl (.inl rfl) (pe_lst (pa_cons (pe_and (pe_callB call_isD (by rfl) B.isinstance (by decide +kernel) (pa_cons (pv 4) (pa_cons (pe_bltn (v := .ty "int") (u := .type "int") (by rfl) B.«int» (by decide +kernel) rfl) pa_nil))) (pe_one (pe_not (pe_callB call_isD (by rfl) B.isinstance (by decide +kernel) (pa_cons (pv 4) (pa_cons (pe_bltn (v := .ty "bool") (u := .type "bool") (by rfl) B.«bool» (by decide +kernel) rfl) pa_nil)))))) pa_nil)))
  (pss_cons (ps_set (i := 6) sc_law.nd rfl (.inl rfl) (pe_op op_cat (pv 6) (pe_lst (pa_cons (pe_own c_Lwhole hr gd (by rfl) (pa_cons (pv 4) (pa_cons pe_int (pa_cons (pe_op op_pow pe_int pe_int) pa_nil)))) (pa_cons (pe_own c_Lwhole hr gd (by rfl) (pa_cons (pv 4) (pa_cons pe_int (pa_cons (pe_op op_pow pe_int pe_int) pa_nil)))) (pa_cons (pe_own c_Lis_set hr gd (by rfl) (pa_cons (pv 4) (pa_cons (pv 3) pa_nil))) pa_nil))))))
  (pss_one (ps_for PassesOwn.never rfl (pi_range1 (by rfl) B.range (pa_cons pe_int pa_nil)) (pg_name (i := 7) sc_law.nd rfl (.inl rfl))
  (pss_cons (ps_set (i := 8) sc_law.nd rfl (.inl rfl) (pe_lst (pa_cons (pe_own c_is_integer hr gd (by rfl) (pa_cons (pv 4) pa_nil)) (pa_cons (pe_own c_is_amount hr gd (by rfl) (pa_cons (pv 4) pa_nil)) (pa_cons (pe_own c_is_count hr gd (by rfl) (pa_cons (pv 4) pa_nil)) (pa_cons (pe_own c_is_set hr gd (by rfl) (pa_cons (pv 4) (pa_cons (pv 3) pa_nil))) pa_nil))))))
  (pss_one (ps_if (PW.pt (pw_or (pt_not (pt_val (pe_own c_Lalike hr gd (by rfl) (pa_cons (pv 8) (pa_cons (pv 6) pa_nil))))) (pw_or1 (pt_cmpR op_ne (pe_callB (call_reprD gd hr.units sys) (by rfl) B.repr (by decide +kernel) (pa_cons (pv 4) pa_nil)) (pv 5) (nomark _))))) (pss_one (ps_ret pe_bl)) pss_nil)))))))))))
  (pss_one (ps_ret (pe_and (pe_own c_is_integer hr gd (by rfl) (pa_cons (pe_op op_pow pe_int pe_int) pa_nil)) (pe_and (pe_not (pe_own c_is_amount hr gd (by rfl) (pa_cons (pe_op op_pow pe_int pe_int) pa_nil))) (pe_and (pe_not (pe_own c_is_set hr gd (by rfl) (pa_cons (pe_lst (pa_cons pe_bl pa_nil)) (pa_cons pe_int pa_nil)))) (pe_one (pe_own c_is_set hr gd (by rfl) (pa_cons (pe_lst pa_nil) (pa_cons pe_int pa_nil))))))))))), ?_⟩
  walk_at "xs"
  refine x_bag ha ?_
  intro H1 b c S1 nb hB
  walk_at "xs"
  refine for_range (lo := 0) (n := (10 : Int).toNat) (fun i σ' H' => ∃ y2 y3 y4 y5 y6 y7 y8, σ' = [some (.ref a), some (.ref b), y2, y3, y4, y5, y6, y7, y8] ∧ Bag H' b c) ?_ ?_ ?_
  · exact ⟨_, _, _, _, _, _, _, rfl, hB⟩
  · rintro i _ H2 hi ⟨y2, y3, y4, y5, y6, y7, y8, rfl, hB⟩
    walk_at "xs"
    refine x_take hB (by decide) (by decide) ?_
    intro H3 n E3 hB n0 n1
    walk_at "xs"
    refine x_num hB ?_
    intro H4 i1 E4 hB hi1
    walk_at "xs"
    refine x_odd hB ?_
    intro H5 v2 d2 E5 hB dv2 dm2
    walk_at "xs"
    refine x_brok hB (by omega) (by omega) ?_
    intro H6 v3 d3 E6 hB dv3 fine3
    have dv2 := dv2.ext E6
    walk_at "xs"
    intro p hp
    obtain ⟨ob, hob⟩ := hB.at
    have np := new_out (Same.refl H6) hob hp
    have dv2 := dv2.ext (Ext.same (same_upd hp (o := .lst [.int i1, v2, v3])))
    have dv3 := dv3.ext (Ext.same (same_upd hp (o := .lst [.int i1, v2, v3])))
    have hB := hB.ext (same_upd hp (o := .lst [.int i1, v2, v3]))
    have ep := upd_same (H := H6) (a := p) (o := .lst [.int i1, v2, v3])
    generalize upd H6 p _ = H7 at *
    walk_at "xs"
    refine x_take hB (by decide) (by decide) ?_
    intro H8 v E8 hB a8 c8
    have ep := E8 _ _ np ep
    have all : DnAll [b] H8 [.int i1, v2, v3] [.int i1, d2, d3] := .cons (.int i1) (.cons (dv2.ext E8) (.cons (dv3.ext E8) .nil))
    obtain ⟨x, ex, ax⟩ := ix_at ep a8 c8
    obtain ⟨d, hd, dx⟩ := all.get ex
    have fine : Fine d := by
      have hm := List.mem_of_getElem? hd
      simp only [List.mem_cons, List.not_mem_nil, or_false] at hm
      rcases hm with rfl | rfl | rfl
      · exact int_fine hi1
      · exact odd_fine dm2
      · exact fine3
    have sh : Shows d := fine.sz.shows (by decide) (by decide)
    refine x_ixL (SqL.of ep) ax ?_
    walk_at "xs"
    refine x_repr dx sh ?_
    walk_at "ys"
    have ei := isInt_eq d
    refine x_andP (b1 := isT "int" d) (b2 := !isT "bool" d) (fun Q h => by walk_at "xs"; exact h) (fun _ Q h => by walk_at "xs"; exact h) ?_
    rw [ei]
    walk_at "ys"
    intro p1 hp1
    have dx := dx.ext (Ext.same (same_upd hp1 (o := .lst [.bl (isIntD d)])))
    have hB := hB.ext (same_upd hp1 (o := .lst [.bl (isIntD d)]))
    obtain ⟨ob, hob⟩ := hB.at
    have e1 := upd_same (H := H8) (a := p1) (o := .lst [.bl (isIntD d)])
    generalize upd H8 p1 _ = H9 at *
    walk_at "ys"
    refine ⟨x, d, [b], _, _, rfl, dx, ?_⟩
    walk_at "ys"
    refine ⟨x, d, [b], _, _, rfl, dx, ?_⟩
    walk_at "ys"
    refine x_setL2 dx fine.few ?_
    intro H10 S10
    have e1 := S10 _ _ e1
    have dx := dx.ext (Ext.same S10)
    have hB := hB.ext S10
    walk_at "ys"
    intro p2 hp2
    have e1 := same_upd hp2 (o := .lst [.bl (wholeD d 0 (10 ^ (30 : Int).toNat)), .bl (wholeD d 1 (10 ^ (18 : Int).toNat)), .bl (setD d (2 + n))]) _ _ e1
    have dx := dx.ext (Ext.same (same_upd hp2 (o := .lst [.bl (wholeD d 0 (10 ^ (30 : Int).toNat)), .bl (wholeD d 1 (10 ^ (18 : Int).toNat)), .bl (setD d (2 + n))])))
    have hB := hB.ext (same_upd hp2 (o := .lst [.bl (wholeD d 0 (10 ^ (30 : Int).toNat)), .bl (wholeD d 1 (10 ^ (18 : Int).toNat)), .bl (setD d (2 + n))]))
    have e2 := upd_same (H := H10) (a := p2) (o := .lst [.bl (wholeD d 0 (10 ^ (30 : Int).toNat)), .bl (wholeD d 1 (10 ^ (18 : Int).toNat)), .bl (setD d (2 + n))])
    generalize upd H10 p2 _ = H11 at *
    refine x_cat e1 e2 (by rw [sizeLine_eq]; exact Nat.le_of_ble_eq_true rfl) ?_
    intro p3 hp3
    obtain ⟨ob, hob⟩ := hB.at
    have n3 := new_out (Same.refl H11) hob hp3
    have S3 := same_upd hp3 (o := .lst ([.bl (isIntD d)] ++ [.bl (wholeD d 0 (10 ^ (30 : Int).toNat)), .bl (wholeD d 1 (10 ^ (18 : Int).toNat)), .bl (setD d (2 + n))]))
    have dx := dx.ext (Ext.same S3)
    have hB := hB.ext S3
    have e3 : upd H11 p3 (.lst ([.bl (isIntD d)] ++ [.bl (wholeD d 0 (10 ^ (30 : Int).toNat)), .bl (wholeD d 1 (10 ^ (18 : Int).toNat)), .bl (setD d (2 + n))])) p3 = some (.lst ((dueD d (2 + n)).map V.bl)) := upd_same
    generalize upd H11 p3 _ = H12 at *
    walk_at "ys"
    refine for_range (lo := 0) (n := (2 : Int).toNat) (fun i σ' H' => ∃ y2 y7 y8, σ' = [some (.ref a), some (.ref b), y2, some (.int (2 + n)), some x, some (.str d.shown), some (.ref p3), y7, y8] ∧ Bag H' b c ∧ Dn [b] H' x d ∧ H' p3 = some (.lst ((dueD d (2 + n)).map V.bl))) ?_ ?_ ?_
    · exact ⟨_, _, _, rfl, hB, dx, e3⟩
    · rintro j _ H13 hj ⟨y2, y7, y8, rfl, hB, dx, e3⟩
      walk_at "ys"
      refine x_sp1 dx ?_
      walk_at "ys"
      refine x_sp1 dx ?_
      walk_at "ys"
      refine x_sp1 dx ?_
      walk_at "ys"
      refine x_sp2 dx ?_
      walk_at "ys"
      intro p4 hp4
      obtain ⟨ob, hob⟩ := hB.at
      have n4 := new_out (Same.refl H13) hob hp4
      have S4 := same_upd hp4 (o := .lst [.bl (isIntD d), .bl (inD 0 (10 ^ 30) d), .bl (inD 1 (10 ^ 18) d), .bl (setD d (2 + n))])
      have dx := dx.ext (Ext.same S4)
      have hB := hB.ext S4
      have e3 := S4 _ _ e3
      have e4 : upd H13 p4 (.lst [.bl (isIntD d), .bl (inD 0 (10 ^ 30) d), .bl (inD 1 (10 ^ 18) d), .bl (setD d (2 + n))]) p4 = some (.lst ((dueD d (2 + n)).map V.bl)) := upd_same
      generalize upd H13 p4 _ = H14 at *
      walk_at "ys"
      refine x_alike (.lst e4 n4 (DnAll.bls _)) (.lst e3 n3 (DnAll.bls _)) (shaped_bls _) (shows_bls (by simp [dueD])) ?_
      walk_at "ys"
      refine x_repr dx sh ?_
      walk_at "ys"
      refine x_iteN (fun h => absurd rfl h) (fun _ => ?_)
      walk_at "ys"
      exact ⟨_, _, _, rfl, hB, dx, e3⟩
    · rintro _ H13 ⟨y2, y7, y8, rfl, hB, dx, e3⟩
      exact ⟨_, _, _, _, _, _, _, rfl, hB⟩
  · rintro _ H2 ⟨y2, y3, y4, y5, y6, y7, y8, rfl, hB⟩
    walk_at "xs"
    refine x_sp1 (M := []) (.int _) ?_
    walk_at "xs"
    refine x_iteT ?_
    walk_at "xs"
    refine x_sp1 (M := []) (.int _) ?_
    walk_at "xs"
    rw [show inD 0 (10 ^ 30) (.int (10 ^ (45 : Int).toNat)) = false by decide]
    walk_at "xs"
    intro p hp
    walk_at "xs"
    refine x_sp2 (M := []) (.lst upd_same (by simp) (.cons (.bl true) .nil)) ?_
    walk_at "xs"
    refine x_iteNF ?_
    walk_at "xs"
    intro p2 hp2
    walk_at "xs"
    refine x_sp2 (M := []) (.lst upd_same (by simp) .nil) ?_
    walk_at "xs"
    exact q _
end
theorem len1 {K : PySem.W.Frag} : ∀ vs H Q E, spLaw K vs H Q E → vs.length = (["_law_script"] : List Str).length := fun vs H Q E h => by obtain ⟨a, ns, rfl, _⟩ := h; rfl
theorem all_mk {P : Program} {w : World} {K : PySem.W.Frag} {mg : Str → Option Value} {fa : Addr} {tA tC : Tok} (hfa : mg "law" = some (.ref fa))
    (d_is_integer : Df K mg "is_integer" s_is_integer) (d_is_amount : Df K mg "is_amount" s_is_amount) (d_is_count : Df K mg "is_count" s_is_count) (d_is_broker : Df K mg "is_broker" s_is_broker) (d_is_set : Df K mg "is_set" s_is_set)
    (d_bag : Df K mg "_law_bag" s_Lbag) (d_take : Df K mg "_law_take" s_Ltake) (d_alike : Df K mg "_law_alike" s_Lalike) (d_odd : Df K mg "_law_odd" s_Lodd) (d_whole : Df K mg "_law_whole" s_Lwhole)
    (d_Lis_set : Df K mg "_law_is_set" s_Lis_set) (d_number : Df K mg "_law_number" s_Lnumber) (d_brokers : Df K mg "_law_brokers" s_Lbrokers) (d_law : Df K mg "law" s_law) (B : Bl mg tA tC) :
    ∃ fd : FuncData, (∀ (s : Shared) (u : Value), BindsTo s fd ⟨[u], []⟩ [("_law_script", u)]) ∧
      ∀ base : Heap, K.In base → base.Ns mainGlobals mg → (∃ o, base.get? sysModules = some o) → FnG P w K mg base (3 + 1) fa fd ["_law_script"] (spLaw K) := by
  refine law_of d_law hfa (fun _ _ _ _ _ _ us hl => match us, hl with | [_], _ => rfl) sc_law len1 (fun base sys f cd B' fr z H vs Q E hr gd h => ?_)
  have i1 : Kn P w K mg base "is_integer" 1 (sp1 isIntD) := kn_is_integer d_is_integer B
  have t1 : Kn P w K mg base "_law_take" 1 spTake := kn_take d_take B
  have o2 : Kn P w K mg base "_law_odd" 2 spOdd := kn_odd d_odd B t1
  exact ok_law sys B ((kn_bag d_bag B (k := 0)).up (by decide)) (t1.up (by decide)) ((kn_number d_number B t1).up (by decide)) (o2.up (by decide)) (kn_brokers d_brokers B (t1.up (by decide)) o2)
    ((kn_whole d_whole B (k := 0)).up (by decide)) ((kn_Lis_set d_Lis_set B (kn_whole d_whole B)).up (by decide : 2 ≤ 3)) (i1.up (by decide)) ((kn_is_amount d_is_amount B i1).up (by decide)) ((kn_is_count d_is_count B i1).up (by decide))
    (kn_is_set d_is_set B (kn_is_broker d_is_broker B i1)) ((kn_alike d_alike B sys (k := 0)).up (by decide)) f cd B' fr z H vs Q E hr gd h
theorem bl_mk {K : PySem.W.Frag} {h : Heap} {mg : Str → Option Value} {tA tC : Tok} (X : K.In h) (G : h.Ns mainGlobals mg)
    (a1 : PySem.W.nsIn K mainGlobals "MOST_AMOUNT" = some (some (.int (10 ^ 30) tA))) (a2 : PySem.W.nsIn K mainGlobals "MOST_COUNT" = some (some (.int (10 ^ 18) tC)))
    (z1 : PySem.W.nsIn K mainGlobals "isinstance" = some none) (z2 : PySem.W.nsIn K mainGlobals "int" = some none) (z3 : PySem.W.nsIn K mainGlobals "bool" = some none) (z4 : PySem.W.nsIn K mainGlobals "list" = some none)
    (z5 : PySem.W.nsIn K mainGlobals "tuple" = some none) (z6 : PySem.W.nsIn K mainGlobals "len" = some none) (z7 : PySem.W.nsIn K mainGlobals "abs" = some none) (z8 : PySem.W.nsIn K mainGlobals "range" = some none)
    (z9 : PySem.W.nsIn K mainGlobals "repr" = some none) (z10 : PySem.W.nsIn K mainGlobals "all" = some none) : Bl mg tA tC :=
  ⟨PySem.W.mg_of X G a1, PySem.W.mg_of X G a2, PySem.W.mg_none_of X G z1, PySem.W.mg_none_of X G z2, PySem.W.mg_none_of X G z3, PySem.W.mg_none_of X G z4, PySem.W.mg_none_of X G z5, PySem.W.mg_none_of X G z6,
    PySem.W.mg_none_of X G z7, PySem.W.mg_none_of X G z8, PySem.W.mg_none_of X G z9, PySem.W.mg_none_of X G z10⟩
end Lw
open PySem PySem.W PyProof.Rows
local macro_rules | `(tactic| walk_at "df") => `(tactic| (refine' Lw.df_mk (by assumption) (by assumption) ?za ?zl ?zc ?zk; (case za => k_is); (case zl => k_is); (case zc => k_is); (case zk => k_is)))
set_option maxRecDepth 100000 in
set_option maxHeartbeats 0 in
theorem PySem.Challenge.cw_leadswitch_k11_kinds_holds : PySem.Challenge.rw_leadswitch_k11_kinds.Holds := by
  w_on; o_law; k_head; (case hw => w_witness2)
  k_fill
  refine Lw.walk_g (l := PySem.Challenge.rw_leadswitch_k11_kinds) (n := 63) (k := 4) (x := "_law_script") (sp := Lw.spLaw) rfl (by decide) rfl ⟨rfl, by decide, by decide⟩ (by decide +kernel) (fun w h Y => PySem.W.kIn_of Y) ?F (fun K H a ns hl hS => ⟨a, ns, rfl, hS, fun _ => rfl⟩)
  case F =>
    intro w mg fa h KX G hmg
    refine' Lw.all_mk hmg ?d1 ?d2 ?d3 ?d4 ?d5 ?d6 ?d7 ?d8 ?d9 ?d10 ?d11 ?d12 ?d13 ?d14 ?bb
    (case d1 => walk_at "df"); (case d2 => walk_at "df"); (case d3 => walk_at "df"); (case d4 => walk_at "df"); (case d5 => walk_at "df"); (case d6 => walk_at "df"); (case d7 => walk_at "df")
    (case d8 => walk_at "df"); (case d9 => walk_at "df"); (case d10 => walk_at "df"); (case d11 => walk_at "df"); (case d12 => walk_at "df"); (case d13 => walk_at "df"); (case d14 => walk_at "df")
    case bb =>
      refine' Lw.bl_mk KX G ?a1 ?a2 ?z1 ?z2 ?z3 ?z4 ?z5 ?z6 ?z7 ?z8 ?z9 ?z10
      (case a1 => k_is); (case a2 => k_is); (case z1 => k_is); (case z2 => k_is); (case z3 => k_is); (case z4 => k_is); (case z5 => k_is); (case z6 => k_is); (case z7 => k_is); (case z8 => k_is); (case z9 => k_is); (case z10 => k_is)
