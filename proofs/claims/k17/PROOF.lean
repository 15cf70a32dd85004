import PyProof.Rows.All
import Wide.All
import OpenK.AllK
import Wide.FinOn
import HandS.ForMost
import HandS.Wide
import HandS.IsInst
import HandS.Flow
import PyProof.ReprRoads
import HandS.Style
import HandS.SetBool
import HandS.TupSets
import KE.DataFind
import HandS.TupAny
import KE.KOwnIter
import HandS.NamedTupGet
import HandS.DictComp
import HandS.Zip
import HandS.Iter
import HandS.Zip0
import HandS.Small
import PyProof.StrLawsRepr
import PySem.Challenge.RW_leadswitch_k17_leads_known
set_option Elab.async false
set_option linter.all false
set_option maxRecDepth 100000
set_option maxHeartbeats 4000000
namespace Lw
open PySem PySem.Spec PyProof.Rows L2
/-! Calls whose surroundings have no open guard (repr asks for that). -/

/-- a def's promise, for surroundings without open guards -/
structure FnG (P : Program) (w : World) (K : PySem.W.Frag) (mg : Str → Option Value) (base : Heap)
    (k : Nat) (f : Addr) (fd : FuncData) (ps : List Str) (sp : Sp) : Prop where
  len : ∀ vs H Q E, sp vs H Q E → vs.length = ps.length
  go : ∀ (B : Around) (fr : List Env) (z : Shared) (H : Hp) (ar : Args) (us : List Value) (vs : List V) (Q : VK) (E : XK),
    Room k B → B.guards = some [] → Env0 P w K mg base B fr z H → BindsTo z fd ar (ps.zip us) → Vals vs us →
    sp vs H Q E → codeAny (model P w) B (.call (.ref f) ar) (CR CX0 fr P w H z Q E) z

section
variable {P : Program} {w : World} {K : PySem.W.Frag} {mg : Str → Option Value} {base : Heap}
theorem FnG.of {k : Nat} {f : Addr} {fd : FuncData} {ps : List Str} {sp : Sp}
    (F : FnOk P w K mg base CX0 k f fd ps sp) : FnG P w K mg base k f fd ps sp :=
  ⟨F.len, fun B fr z H ar us vs Q E r _ => F.run B fr z H ar us vs Q E r⟩
theorem FnG.up {j k : Nat} {f : Addr} {fd : FuncData} {ps : List Str} {sp : Sp}
    (F : FnG P w K mg base j f fd ps sp) (h : j ≤ k) : FnG P w K mg base k f fd ps sp :=
  ⟨F.len, fun B fr z H ar us vs Q E r => F.go B fr z H ar us vs Q E (r.mono h)⟩

/-- the context of a body -/
abbrev bodyX (P : Program) (w : World) (K : PySem.W.Frag) (mg : Str → Option Value) (base : Heap) (N : List Str) (qual : Str)
    (st : Stmt) (f : Addr) (cd : Value) (B : Around) (fr : List Env) (z : Shared) (H : Hp) (E : XK) : Cx :=
  (cxOf CX0 P w K mg base N qual (defScope st) f cd B fr z H E).nox

theorem FnG.mk' {x qual : Str} {st : Stmt} {f : Addr} {fd : FuncData} {N ps : List Str} {k : Nat} {sp : Sp}
    (F : Fun K x qual st f fd) (S : FnScope N ps (defScope st)) (len : ∀ vs H Q E, sp vs H Q E → vs.length = ps.length)
    (body : ∀ (cd : Value) (B : Around) (fr : List Env) (z : Shared) (H : Hp) (vs : List V) (Q : VK) (E : XK),
      Room k (B.deeper (envOfC qual (defScope st) z.heap.objs.size f cd)) →
      (B.deeper (envOfC qual (defScope st) z.heap.objs.size f cd)).guards = some [] → sp vs H Q E →
      ∃ t, PSs (bodyX P w K mg base N qual st f cd B fr z H E) (defBody st) t ∧
        t { nx := fun _ H' => Q .non H', rt := Q } (start N vs) H) : FnG P w K mg base (k + 1) f fd ps sp := by
  obtain ⟨oc, od, kV, doc, pm, an, cd, ct, osl, rfl, lk, hc⟩ := F.ex
  constructor
  · exact len
  intro B fr z H ar us vs Q E room guard env bind rel want
  have n1 := len _ _ _ _ want
  have kin : K.In z.heap := env.mod.kin.keeps fun b o e => (env.bs b o e).1
  have lim : z.heap.NoLimit :=
    env.mod.nolimit.keeps fun b o e => (env.bs b o e).1
  have kinds : ∀ y ∈ ps.zip us, (defScope st).names.lookup y.1 = some .local ∨
      ((defScope st).names.lookup y.1 = some .cell ∧
        ((cellsFrom (z.heap.objs.size + 1) (defScope st).names []).lookup y.1).isSome = true) := by
    intro y hy
    rcases S.par y.1 (List.of_mem_zip (show (y.1, y.2) ∈ ps.zip us from hy)).1 with h | h
    · exact Or.inl h
    · exact Or.inr ⟨h, PySem.W.cellsFrom_some _ _ _ (.inl h)⟩
  apply codeAny_call_function room.depth (kin _ _ lk) rfl S.co S.gen rfl (PySem.W.codeRec_of kin hc)
  apply bind
  apply wpAny_newFunctionEnv_cells S.kind kinds
  intro e he z1 ic
  subst he
  refine ⟨lim.keeps ic.toInCall.keep, codeAny_func ?_⟩
  obtain ⟨t, ht, hq⟩ := body cd B fr z H vs Q E (room.deeper _) guard want
  have I0 := inv_start (CX := CX0) (E := E) S room.hd env n1 rel ic
  refine wpAny_mono (ht.nox.run [] z1 (start N vs) H _ I0 hq) ?_ (fun _ _ h => h)
  intro fl z2 h2
  match fl, h2 with
  | .ret u, h2 =>
    obtain ⟨v, σ2, H2, J, rv, q⟩ := h2
    exact ⟨v, H2, J.os, J.bare, J.base, J.hok, rv, q⟩
  | .next, h2 =>
    obtain ⟨σ2, H2, J, q⟩ := h2
    exact ⟨V.non, H2, J.os, J.bare, J.base, J.hok, rfl, q⟩
  | .brk, h2 =>
    obtain ⟨_, _, _, q⟩ := h2
    exact q.elim
  | .cont, h2 =>
    obtain ⟨_, _, _, q⟩ := h2
    exact q.elim

/-- a def of the module, known by its name -/
structure Kn (P : Program) (w : World) (K : PySem.W.Frag) (mg : Str → Option Value) (base : Heap) (nm : Str) (k : Nat) (sp : Sp) : Prop where
  ex : ∃ f fd ps, FnG P w K mg base k f fd ps sp ∧ mg nm = some (.ref f) ∧ PySem.W.keepIn K (.ref f) = true ∧ Binds K fd ps []
theorem Kn.up {nm : Str} {j k : Nat} {sp : Sp} (F : Kn P w K mg base nm j sp) (h : j ≤ k) : Kn P w K mg base nm k sp := by
  obtain ⟨f, fd, ps, a, b⟩ := F.ex
  exact ⟨f, fd, ps, a.up h, b⟩
end

section
variable {X : Cx} {k : Nat} {sp : Sp} {nm : Str} {p pos : Pos} {e : Expr} {es : List Expr} {t : TA}
theorem run_own {pins : List (Addr × Obj)} {σ : L2.St} {H : Hp} {s : Shared} {Q : VK} {us : List Value} {vs : List V} {f : Addr} {fd : FuncData} {ps : List Str}
    (F : FnG X.prog X.w X.K X.mg X.base k f fd ps sp) (room : Room k X.A) (gd : X.A.guards = some []) (hb : Binds X.K fd ps [])
    (I : Inv X pins σ H s) (r : Vals vs us) (h : sp vs H Q E0) : wpAny (model X.prog X.w) X.A (call (.ref f) us) (EP X pins σ Q) X.xe s := by
  have n1 : us.length = ps.length := r.length.symm.trans (F.len _ _ _ _ h)
  have bt := hb s us I.kIn (by rw [List.append_nil]; exact n1)
  rw [List.append_nil] at bt
  apply wpAny_call
  refine codeAny_mono (F.go X.A X.stack s H ⟨us, []⟩ us vs Q E0 room gd I.env0 bt r h) ?_
  intro res z hz
  match res, hz with
  | .error e, hz => exact False.elim hz
  | .ok (.ret u), hz => exact I.after hz
  | .ok .next, hz => exact False.elim hz
  | .ok .brk, hz => exact False.elim hz
  | .ok .cont, hz => exact False.elim hz

theorem pe_own (c : Kn X.prog X.w X.K X.mg X.base nm k sp) (room : Room k X.A) (gd : X.A.guards = some []) (hg : Gl X nm)
    (ha : PA X (e :: es) t) (hdb : (nm == ("__debug__" : Str)) = false := by decide)
    (he : starEach (e :: es) X.env = (false, eval e X.env) :: starEach es X.env := by rfl)
    (hp : (backTo pos (starEach es X.env)).any (·.1) = false := by rfl) : PE X (.Call (.Name nm p) (e :: es) [] pos) (tCall sp [] E0 t) := by
  obtain ⟨f, fd, ps, F, hm, hk, hb⟩ := c.ex
  constructor
  intro pins s σ H Q I h
  apply wpAny_Call_Name_kw
  refine ld_glob I hg hm ?_ hdb
  refine PySem.W.callWith_K (h₀ := X.base) I.ok.mod.kin hk ?_ he hp
  refine thn (ha.run pos pins s σ H _ I h) ?_
  rintro us s1 ⟨vs, H1, I1, r, q⟩
  rw [List.append_nil] at q
  exact ⟨I1.kIn, run_own F room gd hb I1 r q⟩
end
/-! Data in the abstract heap; what repr, isinstance and an item's in-place operator ask of it. -/

/-! ### values that hold data; none of their objects stands in M -/
mutual
inductive Dn (M : List Addr) (H : Hp) : V → PyData → Prop
  | non : Dn M H .non .none
  | bl (b : Bool) : Dn M H (.bl b) (.bool b)
  | int (i : Int) : Dn M H (.int i) (.int i)
  | str (x : Str) : Dn M H (.str x) (.str x)
  | lst {a : Addr} {xs : List V} {ds : List PyData} : H a = some (.lst xs) → a ∉ M → DnAll M H xs ds → Dn M H (.ref a) (.list ds)
  | tup {a : Addr} {xs : List V} {ds : List PyData} : H a = some (.tup xs) → a ∉ M → DnAll M H xs ds → Dn M H (.ref a) (.tuple ds)
  | dic {a : Addr} {kvs : List (Key × V)} {ds : List (PyData × PyData)} : H a = some (.dK kvs) → a ∉ M → DnAll M H (kvs.map fun p => kV p.1) (ds.map (·.1)) → DnAll M H (kvs.map (·.2)) (ds.map (·.2)) → Dn M H (.ref a) (.dict ds)
inductive DnAll (M : List Addr) (H : Hp) : List V → List PyData → Prop
  | nil : DnAll M H [] []
  | cons {v : V} {vs : List V} {d : PyData} {ds : List PyData} : Dn M H v d → DnAll M H vs ds → DnAll M H (v :: vs) (d :: ds)
end

/-- all that was tracked outside M is as it was -/
def Ext (M : List Addr) (H H' : Hp) : Prop := ∀ a o, a ∉ M → H a = some o → H' a = some o
theorem Ext.refl (M : List Addr) (H : Hp) : Ext M H H := fun _ _ _ h => h
theorem Ext.trans {M : List Addr} {H H1 H2 : Hp} (a : Ext M H H1) (b : Ext M H1 H2) : Ext M H H2 := fun c o n h => b c o n (a c o n h)
theorem Ext.mono {M M' : List Addr} {H H1 : Hp} (a : Ext M H H1) (h : ∀ c, c ∈ M → c ∈ M') : Ext M' H H1 := fun c o n e => a c o (fun m => n (h c m)) e
theorem Ext.same {M : List Addr} {H H1 : Hp} (a : Same H H1) : Ext M H H1 := fun c o _ h => a c o h
theorem Ext.toSame {H H1 : Hp} (a : Ext [] H H1) : Same H H1 := fun c o h => a c o (by simp) h
theorem same_upd {H : Hp} {p : Addr} {o : HO} (h : H p = none) : Same H (upd H p o) := fun b x e => by
  rw [upd_ne (ne_of_none e h)]; exact e
theorem Ext.upd {M : List Addr} {H : Hp} {p : Addr} {o : HO} (h : p ∈ M) : Ext M H (upd H p o) := fun b x n e => by
  rw [upd_ne (show b ≠ p from fun z => n (by rw [z]; exact h))]; exact e

mutual
theorem Dn.ext {M : List Addr} {H H' : Hp} (e : Ext M H H') : ∀ {v : V} {d : PyData}, Dn M H v d → Dn M H' v d
  | _, _, .non => .non
  | _, _, .bl b => .bl b
  | _, _, .int i => .int i
  | _, _, .str x => .str x
  | _, _, .lst h n a => .lst (e _ _ n h) n (DnAll.ext e a)
  | _, _, .tup h n a => .tup (e _ _ n h) n (DnAll.ext e a)
  | _, _, .dic h n a b => .dic (e _ _ n h) n (DnAll.ext e a) (DnAll.ext e b)
theorem DnAll.ext {M : List Addr} {H H' : Hp} (e : Ext M H H') : ∀ {v : List V} {d : List PyData}, DnAll M H v d → DnAll M H' v d
  | _, _, .nil => .nil
  | _, _, .cons a b => .cons (Dn.ext e a) (DnAll.ext e b)
end
/-! the avoided addresses may be others, where none of the data's objects stands in them -/
mutual
theorem Dn.avoid {M M' : List Addr} {H : Hp} (h : ∀ a o, a ∉ M → H a = some o → a ∉ M') : ∀ {v : V} {d : PyData}, Dn M H v d → Dn M' H v d
  | _, _, .non => .non
  | _, _, .bl b => .bl b
  | _, _, .int i => .int i
  | _, _, .str x => .str x
  | _, _, .lst e n a => .lst e (h _ _ n e) (DnAll.avoid h a)
  | _, _, .tup e n a => .tup e (h _ _ n e) (DnAll.avoid h a)
  | _, _, .dic e n a b => .dic e (h _ _ n e) (DnAll.avoid h a) (DnAll.avoid h b)
theorem DnAll.avoid {M M' : List Addr} {H : Hp} (h : ∀ a o, a ∉ M → H a = some o → a ∉ M') : ∀ {v : List V} {d : List PyData}, DnAll M H v d → DnAll M' H v d
  | _, _, .nil => .nil
  | _, _, .cons a b => .cons (Dn.avoid h a) (DnAll.avoid h b)
end
theorem Dn.sub {M M' : List Addr} {H : Hp} (h : ∀ a, a ∈ M' → a ∈ M) {v : V} {d : PyData} (x : Dn M H v d) : Dn M' H v d := x.avoid fun a _ n _ m => n (h a m)
theorem DnAll.sub {M M' : List Addr} {H : Hp} (h : ∀ a, a ∈ M' → a ∈ M) {v : List V} {d : List PyData} (x : DnAll M H v d) : DnAll M' H v d := x.avoid fun a _ n _ m => n (h a m)
theorem Dn.more {M : List Addr} {H : Hp} {p : Addr} (hp : H p = none) {v : V} {d : PyData} (x : Dn M H v d) : Dn (p :: M) H v d := x.avoid fun a o n e m => by
  rcases List.mem_cons.mp m with rfl | m
  · rw [hp] at e; cases e
  · exact n m
theorem DnAll.length {M : List Addr} {H : Hp} : ∀ {v : List V} {d : List PyData}, DnAll M H v d → v.length = d.length
  | _, _, .nil => rfl
  | _, _, .cons _ b => by simp [DnAll.length b]
theorem DnAll.get {M : List Addr} {H : Hp} : ∀ {v : List V} {d : List PyData} {i : Nat} {x : V}, DnAll M H v d → v[i]? = some x → ∃ y, d[i]? = some y ∧ Dn M H x y
  | _, _, _, _, .nil, e => by simp at e
  | _, _, 0, _, .cons a _, e => by simp at e; subst e; exact ⟨_, rfl, a⟩
  | _, _, i + 1, x, .cons _ b, e => by
    obtain ⟨y, h1, h2⟩ := DnAll.get (i := i) (x := x) b (by simpa using e)
    exact ⟨y, by simpa using h1, h2⟩
theorem DnAll.app {M : List Addr} {H : Hp} : ∀ {v w : List V} {d e : List PyData}, DnAll M H v d → DnAll M H w e → DnAll M H (v ++ w) (d ++ e)
  | _, _, _, _, .nil, s => s
  | _, _, _, _, .cons a b, s => .cons a (DnAll.app b s)
theorem DnAll.take {M : List Addr} {H : Hp} : ∀ {v : List V} {d : List PyData} (n : Nat), DnAll M H v d → DnAll M H (v.take n) (d.take n)
  | _, _, 0, _ => .nil
  | _, _, _ + 1, .nil => .nil
  | _, _, n + 1, .cons a b => .cons a (DnAll.take n b)
theorem DnAll.drop {M : List Addr} {H : Hp} : ∀ {v : List V} {d : List PyData} (n : Nat), DnAll M H v d → DnAll M H (v.drop n) (d.drop n)
  | _, _, 0, r => r
  | _, _, _ + 1, .nil => .nil
  | _, _, n + 1, .cons _ b => DnAll.drop n b
theorem DnAll.ints {M : List Addr} {H : Hp} : ∀ (ns : List Int), DnAll M H (ns.map V.int) (ns.map PyData.int)
  | [] => .nil
  | n :: r => .cons (.int n) (DnAll.ints r)

/-! ### the library's reading of such a value -/
section
variable {X : Cx} {pins : List (Addr × Obj)} {σ : L2.St} {H : Hp} {s : Shared} {M : List Addr}
theorem pairs_split {P : Program} {w : World} : ∀ {es : List DictEntry} {kvs : List (Key × V)} {vs : List (Key × Value)}, KV kvs vs → Pairs (mixKind P w) es vs →
    Vals (kvs.map fun p => kV p.1) (es.map (·.key)) ∧ Vals (kvs.map (·.2)) (es.map (·.val))
  | _, _, _, .nil, .nil => ⟨.nil, .nil⟩
  | _, _, _, .cons (a := p) (b := q) r t, .cons (e := e) h1 h2 h3 => by
    obtain ⟨a, b⟩ := pairs_split t h3
    have h1 : keyIs q.1 e.key = true := h1
    rw [← r.1] at h1
    refine ⟨.cons (show RelV (kV p.1) e.key from ?_) a, .cons (show RelV p.2 e.val from by rw [h2]; exact r.2) b⟩
    rcases keyIs_shape h1 with ⟨i, u, e1, e2⟩ | ⟨x, u, e1, e2⟩
    · rw [e1, e2]; exact ⟨u, rfl⟩
    · rw [e1, e2]; exact ⟨u, rfl⟩
mutual
theorem Dn.reads (I : Inv X pins σ H s) : ∀ (d : PyData) (v : V) (u : Value), Dn M H v d → RelV v u → ∃ as, Reads s.heap u d as ∧ ∀ a ∈ as, H a ≠ none
  | .none, _, _, h, r => by cases h; cases r; exact ⟨_, .none, by simp⟩
  | .bool b, _, _, h, r => by cases h; cases r; exact ⟨_, .bool b, by simp⟩
  | .int i, _, _, h, r => by
    cases h
    obtain ⟨t, rfl⟩ := r
    exact ⟨_, .int i t, by simp⟩
  | .str x, _, _, h, r => by
    cases h
    obtain ⟨t, rfl⟩ := r
    exact ⟨_, .str x t, by simp⟩
  | .list ds, _, _, h, r => by
    cases h with
    | lst e _ ha =>
      cases r
      obtain ⟨_, its, n, rv, ho⟩ := I.hok _ _ e
      obtain ⟨as, hr, hn⟩ := DnAll.reads I ds _ its ha rv
      refine ⟨_, .list ho rfl rfl hr, fun b hb => ?_⟩
      rcases List.mem_cons.mp hb with rfl | hb
      · rw [e]; simp
      · exact hn b hb
  | .tuple ds, _, _, h, r => by
    cases h with
    | tup e _ ha =>
      cases r
      obtain ⟨_, its, rv, ⟨o, ho, hc, n, hd⟩⟩ := I.hok _ _ e
      obtain ⟨as, hr, hn⟩ := DnAll.reads I ds _ its ha rv
      exact ⟨_, .tuple ho hc hd hr, hn⟩
  | .dict ds, _, _, h, r => by
    cases h with
    | dic e _ ha hb =>
      cases r
      obtain ⟨_, _, vs, kv, o, es, ep, ho, ex, hd, hk, hp, _⟩ := I.hok _ _ e
      obtain ⟨r1, r2⟩ := pairs_split kv hp
      obtain ⟨as, q1, n1⟩ := Dn.readsK I ds _ _ ha r1
      obtain ⟨bs, q2, n2⟩ := Dn.readsV I ds _ _ hb r2
      refine ⟨_, .dict ho ex.1 hd q1 q2, fun b hb => ?_⟩
      rcases List.mem_append.mp hb with hb | hb
      · rcases List.mem_cons.mp hb with rfl | hb
        · rw [e]; simp
        · exact n1 b hb
      · exact n2 b hb
theorem DnAll.reads (I : Inv X pins σ H s) : ∀ (ds : List PyData) (vs : List V) (us : List Value), DnAll M H vs ds → Vals vs us → ∃ as, ReadsAll s.heap us ds as ∧ ∀ a ∈ as, H a ≠ none
  | [], _, _, h, r => by cases h; cases r; exact ⟨_, .nil, by simp⟩
  | d :: ds, _, _, h, r => by
    cases h with
    | cons h1 h2 =>
      cases r with
      | cons r1 r2 =>
        obtain ⟨as, q1, n1⟩ := Dn.reads I d _ _ h1 r1
        obtain ⟨bs, q2, n2⟩ := DnAll.reads I ds _ _ h2 r2
        exact ⟨_, .cons q1 q2, fun b hb => (List.mem_append.mp hb).elim (n1 b) (n2 b)⟩
theorem Dn.readsK (I : Inv X pins σ H s) : ∀ (ds : List (PyData × PyData)) (vs : List V) (us : List Value), DnAll M H vs (ds.map (·.1)) → Vals vs us → ∃ as, ReadsAll s.heap us (ds.map (·.1)) as ∧ ∀ a ∈ as, H a ≠ none
  | [], _, _, h, r => by cases h; cases r; exact ⟨_, .nil, by simp⟩
  | (d, _) :: ds, _, _, h, r => by
    cases h with
    | cons h1 h2 =>
      cases r with
      | cons r1 r2 =>
        obtain ⟨as, q1, n1⟩ := Dn.reads I d _ _ h1 r1
        obtain ⟨bs, q2, n2⟩ := Dn.readsK I ds _ _ h2 r2
        exact ⟨_, .cons q1 q2, fun b hb => (List.mem_append.mp hb).elim (n1 b) (n2 b)⟩
theorem Dn.readsV (I : Inv X pins σ H s) : ∀ (ds : List (PyData × PyData)) (vs : List V) (us : List Value), DnAll M H vs (ds.map (·.2)) → Vals vs us → ∃ as, ReadsAll s.heap us (ds.map (·.2)) as ∧ ∀ a ∈ as, H a ≠ none
  | [], _, _, h, r => by cases h; cases r; exact ⟨_, .nil, by simp⟩
  | (_, d) :: ds, _, _, h, r => by
    cases h with
    | cons h1 h2 =>
      cases r with
      | cons r1 r2 =>
        obtain ⟨as, q1, n1⟩ := Dn.reads I d _ _ h1 r1
        obtain ⟨bs, q2, n2⟩ := Dn.readsV I ds _ _ h2 r2
        exact ⟨_, .cons q1 q2, fun b hb => (List.mem_append.mp hb).elim (n1 b) (n2 b)⟩
end

/-! ### repr of data -/
/-- data that repr shows within the model's limits -/
structure Shows (d : PyData) : Prop where
  sh : d.showable = true
  sz : d.shown.length ≤ 8000000
  dp : d.depth ≤ 20
def rRepr : List V → Hp → VK → Prop := fun xs H Q => ∃ x d M, xs = [x] ∧ Dn M H x d ∧ Shows d ∧ Q (.str d.shown) H
theorem call_reprD (gd : X.A.guards = some []) (hu : X.A.units + 64 < cLine) (sys : ∃ o, X.base.get? sysModules = some o) : CallR X (.builtin "repr") rRepr := by
  intro pins s σ H xs us Q I r h
  obtain ⟨x, d, M, rfl, hd, hs, q⟩ := h
  obtain ⟨u, rfl, rx⟩ := vals1 r
  obtain ⟨as, rd, hn⟩ := Dn.reads I d x u hd rx
  obtain ⟨o, ho⟩ := sys
  have hm : sysModules ∉ as := fun m => hn _ m (I.bs _ _ ho).2
  have hz : d.shown.length ≤ sizeLine := Nat.le_trans hs.sz (by decide)
  have big : ∀ {a : Addr}, u = .ref a → wpAny (model X.prog X.w) X.A (call (.builtin "repr") [u]) (EP X pins σ Q) X.xe s := by
    rintro a rfl
    refine repr_of_reads' rd hs.sh (fun _ => hm) gd (by have := hs.dp; omega) (fun _ _ e => e) (fun h' u tk hk => ?_) hz
    exact ⟨.str d.shown, H, I.kept hk, ⟨u, rfl⟩, q⟩
  cases rd with
  | none => exact P.repr_of_none ⟨.str _, H, I.tok _, ⟨_, rfl⟩, by simpa only [PyData.shown] using q⟩
  | bool b => exact P.repr_of_bool ⟨.str _, H, I.tok _, ⟨_, rfl⟩, by simpa only [PyData.shown] using q⟩
  | int i t => exact P.repr_of_int (by simpa [PyData.showable] using hs.sh) ⟨.str _, H, I.tok _, ⟨_, rfl⟩, by simpa only [PyData.shown] using q⟩
  | str y t => exact P.repr_of_str ⟨.str _, H, I.tok _, ⟨_, rfl⟩, by simpa only [PyData.shown] using q⟩ (by simpa only [PyData.shown] using hz)
  | list _ _ _ _ => exact big rfl
  | tuple _ _ _ _ => exact big rfl
  | dict _ _ _ _ _ => exact big rfl

/-! ### isinstance of data -/
def tyD : PyData → String
  | .none => "NoneType"
  | .bool _ => "bool"
  | .int _ => "int"
  | .str _ => "str"
  | .list _ => "list"
  | .tuple _ => "tuple"
  | .dict _ => "dict"
theorem Dn.ty {K : PySem.W.Frag} {v : V} {d : PyData} (h : Dn M H v d) : TyX K H v (.type (tyD d)) := by
  cases h with
  | non => exact .base .non
  | bl b => exact .base (.bl b)
  | int i => exact .base (.int i)
  | str x => exact .base (.str x)
  | lst e _ _ => exact .base (.lst e)
  | tup e _ _ => exact .base (.tup e)
  | dic e _ _ _ => exact .base (.dK e)
/-- isinstance(x, int), .. of data -/
def isT (T : String) (d : PyData) : Bool := (kitB (tyD d) T).getD false
theorem kit_isT {T : String} (hT : T = "int" ∨ T = "bool" ∨ T = "list" ∨ T = "tuple" ∨ T = "str" ∨ T = "dict") : ∀ d : PyData, kitB (tyD d) T = some (isT T d) := by
  intro d
  rcases hT with rfl | rfl | rfl | rfl | rfl | rfl <;> cases d <;> simp only [tyD, isT] <;> decide +kernel
theorem isT_int : ∀ d, isT "int" d = (match d with | .int _ => true | .bool _ => true | _ => false) := by intro d; cases d <;> simp only [tyD, isT] <;> decide +kernel
theorem isT_bool : ∀ d, isT "bool" d = (match d with | .bool _ => true | _ => false) := by intro d; cases d <;> simp only [tyD, isT] <;> decide +kernel
theorem isT_list : ∀ d, isT "list" d = (match d with | .list _ => true | _ => false) := by intro d; cases d <;> simp only [tyD, isT] <;> decide +kernel
theorem isT_tuple : ∀ d, isT "tuple" d = (match d with | .tuple _ => true | _ => false) := by intro d; cases d <;> simp only [tyD, isT] <;> decide +kernel
def rIsD : List V → Hp → VK → Prop := fun xs H Q => ∃ x T d M, xs = [x, .ty T] ∧ Dn M H x d ∧ (T = "int" ∨ T = "bool" ∨ T = "list" ∨ T = "tuple" ∨ T = "str" ∨ T = "dict") ∧ Q (.bl (isT T d)) H
theorem call_isD : CallR X (.builtin "isinstance") rIsD := by
  intro pins s σ H xs us Q I r h
  obtain ⟨x, T, d, M, rfl, hd, hT, q⟩ := h
  exact call_isi pins s σ H _ us Q I r ⟨x, .ty T, .type (tyD d), .type T, isT T d, rfl, .ty T, hd.ty, kit_ty (kit_isT hT d), q⟩

/-! ### xs[i] op= e of a list -/
def rGetL : V → V → Hp → VK → Prop := fun x y H Q => ∃ p xs i j v, x = .ref p ∧ y = .int i ∧ H p = some (.lst xs) ∧ i = (j : Nat) ∧ xs[j]? = some v ∧ Q v H
theorem get_list : PGet X rGetL := by
  intro pins s σ H x y u v Q I rx ry h
  obtain ⟨p, xs, i, j, z, rfl, rfl, hp, rfl, hj, q⟩ := h
  cases rx
  obtain ⟨t, rfl⟩ := ry
  obtain ⟨its, r, pl, hz⟩ := I.list (SqL.of hp)
  obtain ⟨w, ew, rw'⟩ := r.get hj
  have hn := line63
  have hl : j < xs.length := (List.getElem?_eq_some_iff.mp hj).1
  exact wpAny_getItem_list pl.isList (by omega) (by omega) (by simpa using ew) ⟨z, H, I, rw', q⟩
end
/-! Readings, one step each. -/

section
variable {X : Cx} {K : PySem.W.Frag} {σ : L2.St} {H : Hp} {Q : VK} {D : Ends} {t u : TS} {te ta tb tc : TE} {tr : TA} {c d : TT} {QT : Bool → Hp → Prop} {QA : List V → Hp → Prop}
-- statements
theorem x_seq (h : t { D with nx := u D } σ H) : tSeq t u D σ H := h
theorem x_next (h : D.nx σ H) : tNext D σ H := h
theorem x_asg {g : TG} (h : te σ H fun x H1 => g x σ H1 D.nx) : tAsg te g D σ H := h
theorem x_name {i : Nat} {v : V} {Qs : L2.St → Hp → Prop} (h : Qs (σ.set i (some v)) H) : gName i v σ H Qs := h
theorem x_drop (h : te σ H fun _ H1 => D.nx σ H1) : tDrop te D σ H := h
theorem x_ret (h : te σ H D.rt) : tRet te D σ H := h
theorem x_retN (h : D.rt .non H) : tRetN D σ H := h
theorem x_ifS (h : c σ H fun b H1 => if b = true then t D σ H1 else u D σ H1) : tIfS c t u D σ H := h
theorem x_break (h : D.bk σ H) : tBreak D σ H := h
theorem x_cont (h : D.ct σ H) : tCont D σ H := h
theorem x_aug {i : Nat} {x : V} {ti : TIp} (e : σ[i]? = some (some x)) (h : te σ H fun y H1 => ti x y H1 fun z H2 => D.nx (σ.set i (some z)) H2) : tAug i te ti D σ H := ⟨x, e, h⟩
theorem x_augS {to ti : TE} {g : V → V → Hp → VK → Prop} {p : TIp} {s : TSet} (h : to σ H fun o H1 => ti σ H1 fun i H2 => g o i H2 fun x H3 => te σ H3 fun y H4 => p x y H4 fun z H5 => s o i z H5 fun H6 => D.nx σ H6) : tAugS to ti te g p s D σ H := h
theorem x_par {i j : Nat} (h : tr σ H fun vs H1 => ∃ v w, vs = [v, w] ∧ D.nx ((σ.set i (some v)).set j (some w)) H1) : tPar i j tr D σ H := h
theorem x_par2 {v w : V} {P : V → V → Hp → Prop} (h : P v w H) : ∃ v' w', [v, w] = [v', w'] ∧ P v' w' H := ⟨v, w, rfl, h⟩
theorem x_gsub {to ti : TE} {s : TSet} {v : V} {Qs : L2.St → Hp → Prop} (h : to σ H fun o H1 => ti σ H1 fun i H2 => s o i v H2 fun H3 => Qs σ H3) : gSub to ti s v σ H Qs := h
-- expressions
theorem x_var {i : Nat} {v : V} (e : σ[i]? = some (some v)) (h : Q v H) : tVar i σ H Q := ⟨v, e, h⟩
theorem x_c {v : V} (h : Q v H) : tC v σ H Q := h
theorem x_op {r : R2} (h : ta σ H fun x H1 => tb σ H1 fun y H2 => r x y H2 Q) : tOp r ta tb σ H Q := h
theorem x_un {r : V → Hp → VK → Prop} (h : ta σ H fun x H1 => r x H1 Q) : tUn r ta σ H Q := h
theorem x_call {sp : Sp} {E : XK} (h : tr σ H fun vs H1 => sp vs H1 Q E) : tCall sp [] E tr σ H Q := by
  have e : (fun vs H1 => sp (vs ++ []) H1 Q E) = fun vs H1 => sp vs H1 Q E := by funext vs H1; rw [List.append_nil]
  show tr σ H fun vs H1 => sp (vs ++ []) H1 Q E
  rw [e]; exact h
theorem x_cb {r : List V → Hp → VK → Prop} (h : tr σ H fun vs H1 => r vs H1 Q) : tCB r tr σ H Q := h
theorem x_nil (h : QA [] H) : tNil σ H QA := h
theorem x_cons (h : te σ H fun x H1 => tr σ H1 fun xs H2 => QA (x :: xs) H2) : tCons te tr σ H QA := h
theorem x_tup (h : tr σ H fun xs H1 => xs.length ≤ sizeLine ∧ ∀ p, H1 p = none → Q (.ref p) (upd H1 p (.tup xs))) : tTup tr σ H Q := h
theorem x_lst (h : tr σ H fun xs H1 => xs.length ≤ sizeLine ∧ ∀ p, H1 p = none → Q (.ref p) (upd H1 p (.lst xs))) : tLst tr σ H Q := h
theorem x_new {xs : List V} {P : Prop} (z : xs.length ≤ 100000) (h : P) : xs.length ≤ sizeLine ∧ P := ⟨Nat.le_trans z (by decide), h⟩
theorem x_if (h : c σ H fun b H1 => if b = true then ta σ H1 Q else tb σ H1 Q) : tIf c ta tb σ H Q := h
theorem x_andV (h : ta σ H fun x H1 => ∃ k, x = .bl k ∧ if k = true then tb σ H1 Q else Q (.bl false) H1) : tAndV ta tb σ H Q := h
theorem x_orV (h : ta σ H fun x H1 => ∃ k, x = .bl k ∧ if k = true then Q (.bl true) H1 else tb σ H1 Q) : tOrV ta tb σ H Q := h
theorem x_andP {b1 b2 : Bool} (ha : ∀ Q : VK, Q (.bl b1) H → ta σ H Q) (hb : b1 = true → ∀ Q : VK, Q (.bl b2) H → tb σ H Q) (h : Q (.bl (b1 && b2)) H) : tAndV ta tb σ H Q := by
  refine ha _ ⟨b1, rfl, ?_⟩
  cases b1
  · rw [if_neg Bool.false_ne_true]; exact h
  · rw [if_pos rfl]; exact hb rfl _ (by rw [Bool.true_and] at h; exact h)
theorem x_notV (h : ta σ H fun x H1 => ∃ k, x = .bl k ∧ Q (.bl (!k)) H1) : tNotV ta σ H Q := h
theorem x_chain {r r' : R2} (h : ta σ H fun x H1 => tb σ H1 fun y H2 => r x y H2 fun z H3 => ∃ k, z = .bl k ∧ if k = true then tc σ H3 fun z H4 => r' y z H4 Q else Q (.bl false) H3) : tChain r r' ta tb tc σ H Q := h
-- tests
theorem x_test (h : te σ H fun x H1 => ∃ k, x = .bl k ∧ QT k H1) : tTest te σ H QT := h
theorem x_B (h : te σ H fun x H1 => ∃ k, x = .bl k ∧ QT k H1) : tB te σ H QT := h
theorem x_and (h : c σ H fun b H1 => if b = true then d σ H1 QT else QT false H1) : tAnd c d σ H QT := h
theorem x_or (h : c σ H fun b H1 => if b = true then QT true H1 else d σ H1 QT) : tOr c d σ H QT := h
theorem x_not (h : c σ H fun b H1 => QT (!b) H1) : tNot c σ H QT := h
theorem x_yes (h : QT true H) : tYes σ H QT := h
theorem x_bl {b : Bool} {P : Bool → Prop} (h : P b) : ∃ k, V.bl b = V.bl k ∧ P k := ⟨b, rfl, h⟩
theorem x_ite {p : Prop} [Decidable p] {A B : Prop} (h1 : p → A) (h2 : ¬ p → B) : if decide p = true then A else B := by
  by_cases h : p
  · rw [if_pos (decide_eq_true h)]; exact h1 h
  · rw [if_neg (by rw [decide_eq_false h]; exact Bool.false_ne_true)]; exact h2 h
theorem x_iteN {p : Prop} [Decidable p] {A B : Prop} (h1 : ¬ p → A) (h2 : p → B) : if (!decide p) = true then A else B := by
  by_cases h : p
  · rw [if_neg (by rw [decide_eq_true h]; decide)]; exact h2 h
  · rw [if_pos (by rw [decide_eq_false h]; rfl)]; exact h1 h
theorem x_iteB {b : Bool} {A B : Prop} (h1 : b = true → A) (h2 : b = false → B) : if b = true then A else B := by
  cases b
  · rw [if_neg Bool.false_ne_true]; exact h2 rfl
  · rw [if_pos rfl]; exact h1 rfl
theorem x_iteNB {b : Bool} {A B : Prop} (h1 : b = false → A) (h2 : b = true → B) : if (!b) = true then A else B := by
  cases b
  · rw [if_pos (show (!false) = true from rfl)]; exact h1 rfl
  · rw [if_neg (show ¬ (!true) = true by decide)]; exact h2 rfl
theorem x_iteT {A B : Prop} (h : A) : if true = true then A else B := by rw [if_pos rfl]; exact h
theorem x_iteF {A B : Prop} (h : B) : if false = true then A else B := by rw [if_neg Bool.false_ne_true]; exact h
theorem x_iteNF {A B : Prop} (h : A) : if (!false) = true then A else B := by rw [if_pos (show (!false) = true from rfl)]; exact h
theorem x_iteNT {A B : Prop} (h : B) : if (!true) = true then A else B := by rw [if_neg (by decide)]; exact h
-- values
theorem x_I0 {g : Int → Int → V} {i j : Int} (h : Q (g i j) H) : rI0 g (.int i) (.int j) H Q := ⟨i, j, rfl, rfl, h⟩
theorem x_U {g : Int → V} {i : Int} (h : Q (g i) H) : rU g (.int i) H Q := ⟨i, rfl, h⟩
theorem x_ipI {f : Int → Int → Int} {i j : Int} (h : Q (.int (f i j)) H) : ipI f (.int i) (.int j) H Q := ⟨i, j, rfl, rfl, h⟩
theorem x_eqI {i j : Int} (h : Q (.bl (decide (i = j))) H) : rEq (.int i) (.int j) H Q := by
  refine ⟨rfl, ?_⟩
  have e : decide (V.int i = V.int j) = decide (i = j) := by
    by_cases h : i = j
    · subst h; simp
    · rw [decide_eq_false h, decide_eq_false (fun z => h (V.int.inj z))]
  rw [e]; exact h
theorem x_neI {i j : Int} (h : Q (.bl (!decide (i = j))) H) : rNe (.int i) (.int j) H Q := by
  refine ⟨rfl, ?_⟩
  have e : decide (V.int i = V.int j) = decide (i = j) := by
    by_cases h : i = j
    · subst h; simp
    · rw [decide_eq_false h, decide_eq_false (fun z => h (V.int.inj z))]
  rw [e]; exact h
theorem x_eqS {i j : Str} (h : Q (.bl (decide (i = j))) H) : rEq (.str i) (.str j) H Q := by
  refine ⟨rfl, ?_⟩
  have e : decide (V.str i = V.str j) = decide (i = j) := by
    by_cases h : i = j
    · subst h; simp
    · rw [decide_eq_false h, decide_eq_false (fun z => h (V.str.inj z))]
  rw [e]; exact h
theorem x_neS {i j : Str} (h : Q (.bl (!decide (i = j))) H) : rNe (.str i) (.str j) H Q := by
  refine ⟨rfl, ?_⟩
  have e : decide (V.str i = V.str j) = decide (i = j) := by
    by_cases h : i = j
    · subst h; simp
    · rw [decide_eq_false h, decide_eq_false (fun z => h (V.str.inj z))]
  rw [e]; exact h
theorem x_ixL {p : Addr} {xs : List V} {i : Int} {v : V} (hp : SqL K H p xs) (e : atI xs i = some v) (h : Q v H) : rIxL K (.ref p) (.int i) H Q := ⟨p, xs, i, v, rfl, rfl, hp, e, h⟩
theorem x_ixT {p : Addr} {xs : List V} {i : Int} {v : V} (hp : SqT K H p xs) (e : atI xs i = some v) (h : Q v H) : rIxT K (.ref p) (.int i) H Q := ⟨p, xs, i, v, rfl, rfl, hp, e, h⟩
theorem x_getL {p : Addr} {xs : List V} {i : Int} {v : V} (hp : H p = some (.lst xs)) (hi : i = (i.toNat : Nat)) (e : xs[i.toNat]? = some v) (h : Q v H) : rGetL (.ref p) (.int i) H Q := ⟨p, xs, i, i.toNat, v, rfl, rfl, hp, hi, e, h⟩
theorem x_setL {p : Addr} {xs : List V} {i : Int} {j : Nat} {v : V} {P : Hp → Prop} (hp : H p = some (.lst xs)) (e : ixN xs.length i = some j) (h : P (upd H p (.lst (xs.set j v)))) : rSetL (.ref p) (.int i) v H P := ⟨p, xs, i, j, rfl, rfl, hp, e, h⟩
theorem x_len {p : Addr} {xs : List V} {Z : List V → Prop} (hp : SqL K H p xs) (h : Z xs) : ∃ p' ys, [V.ref p] = [V.ref p'] ∧ (SqL K H p' ys ∨ SqT K H p' ys) ∧ Z ys := ⟨p, xs, rfl, .inl hp, h⟩
theorem x_lenT {p : Addr} {xs : List V} {Z : List V → Prop} (hp : SqT K H p xs) (h : Z xs) : ∃ p' ys, [V.ref p] = [V.ref p'] ∧ (SqL K H p' ys ∨ SqT K H p' ys) ∧ Z ys := ⟨p, xs, rfl, .inr hp, h⟩
theorem x_int1 {i : Int} {Z : Int → Prop} (h : Z i) : ∃ j, [V.int i] = [V.int j] ∧ Z j := ⟨i, rfl, h⟩
theorem x_toTup {p : Addr} {xs : List V} {Z : List V → Prop} {Y : Addr → List V → Prop} (hp : SqL K H p xs) (h : Z xs) : ∃ p' ys, [V.ref p] = [V.ref p'] ∧ ((SqL K H p' ys ∧ Z ys) ∨ Y p' ys) := ⟨p, xs, rfl, .inl ⟨hp, h⟩⟩
theorem x_all {p : Addr} {bs : List Bool} (hp : SqL K H p (bs.map V.bl)) (h : Q (.bl (bs.all id)) H) : rAll K [.ref p] H Q := ⟨p, bs, rfl, hp, h⟩
theorem x_cat {p q : Addr} {xs ys : List V} (hp : H p = some (.lst xs)) (hq : H q = some (.lst ys)) (z : xs.length + ys.length ≤ sizeLine) (h : ∀ l, H l = none → Q (.ref l) (upd H l (.lst (xs ++ ys)))) : rCat (.ref p) (.ref q) H Q := ⟨p, q, xs, ys, rfl, rfl, hp, hq, z, h⟩
theorem x_rep {p : Addr} {k : Int} {xs : List V} (hp : H p = some (.lst xs)) (h1 : -(2 ^ 63) ≤ k) (h2 : k < 2 ^ 63) (z : xs.length * k.toNat ≤ sizeLine) (h : ∀ l, H l = none → Q (.ref l) (upd H l (.lst (List.replicate k.toNat xs).flatten))) : rRep (.ref p) (.int k) H Q := ⟨p, k, xs, rfl, rfl, hp, h1, h2, z, h⟩
theorem x_slL {p : Addr} {xs : List V} {lo hi : Option Int} (hp : SqL K H p xs) (h : ∀ l, H l = none → Q (.ref l) (upd H l (.lst (cutV xs lo hi)))) : rSlL K (.ref p) lo hi H Q := ⟨p, xs, rfl, hp, h⟩
theorem x_sl {r : V → Option Int → Option Int → Hp → VK → Prop} {tl th : TO} (h : te σ H fun x H1 => tl σ H1 fun l H2 => th σ H2 fun u H3 => r x l u H3 Q) : tSl r te tl th σ H Q := h
theorem x_noPart {QO : Option Int → Hp → Prop} (h : QO none H) : tNoPart σ H QO := h
theorem x_part {QO : Option Int → Hp → Prop} (h : te σ H fun x H1 => ∃ i, x = .int i ∧ QO (some i) H1) : tPart te σ H QO := h
theorem x_isI {i : Int} {Z : Int → Prop} (h : Z i) : ∃ j, V.int i = V.int j ∧ Z j := ⟨i, rfl, h⟩
theorem x_isD {M : List Addr} {x : V} {T : String} {d : PyData} (hd : Dn M H x d) (hT : T = "int" ∨ T = "bool" ∨ T = "list" ∨ T = "tuple" ∨ T = "str" ∨ T = "dict") (h : Q (.bl (isT T d)) H) : rIsD [x, .ty T] H Q := ⟨x, T, d, M, rfl, hd, hT, h⟩
theorem x_repr {M : List Addr} {x : V} {d : PyData} (hd : Dn M H x d) (hs : Shows d) (h : Q (.str d.shown) H) : rRepr [x] H Q := ⟨x, d, M, rfl, hd, hs, h⟩
theorem x_dnew {H : Hp} {Q : VK} {σ : L2.St} (h : ∀ p, H p = none → Q (.ref p) (upd H p (.dK []))) : tDNewK σ H Q := h
theorem x_disp {H : Hp} {Q : VK} {σ : L2.St} {trs : List (TE × TE)} (h : ∀ p, H p = none → tPairs trs σ (upd H p (.dK [])) fun ps H2 => H2 p = some (.dK []) ∧ ∃ kvs : List (Key × V), ps = kvs.map (fun kv => (kV kv.1, kv.2)) ∧ kvs.length ≤ 15 ∧ Q (.ref p) (upd H2 p (.dK (mergeK [] kvs)))) : tDisp trs σ H Q := h
-- loops
theorem x_for {wi : TI} {g : TG} {tb : TS} (h : wi σ H fun J H1 => ∃ W : Nat → Nat → L2.St → Hp → Prop, (∃ m, W 0 m σ H1) ∧ ∀ i m σ H, W i m σ H →
    (J.stop i H ∧ D.nx σ H) ∨ (J.go i H ∧ ∃ N : L2.St → Hp → Prop, (∀ σ' H', N σ' H' → ∃ m', m' < m ∧ W (i + 1) m' σ' H') ∧ ∀ x H', J.yld i H x H' → g x σ H' fun σ2 H2 => tb { D with nx := N, ct := N, bk := D.nx } σ2 H2)) : tFor wi g tb D σ H := h
theorem x_iL {tl : TE} {R : It → Hp → Prop} (h : tl σ H fun x H1 => ∃ a, x = .ref a ∧ (∃ xs, SqL K H1 a xs) ∧ R (Itl K a) H1) : iList K tl σ H R := h
theorem x_iT {tl : TE} {R : It → Hp → Prop} (h : tl σ H fun x H1 => ∃ a, x = .ref a ∧ (∃ xs, SqT K H1 a xs) ∧ R (Itt K a) H1) : iTup K tl σ H R := h
theorem x_r1 {R : It → Hp → Prop} (h : tr σ H fun vs H1 => ∃ j : Int, vs = [.int j] ∧ -(2 ^ 62) ≤ j ∧ j < 2 ^ 62 ∧ R (Itr 0 j.toNat) H1) : iRng1 tr σ H R := h
theorem x_r2 {R : It → Hp → Prop} (h : tr σ H fun vs H1 => ∃ i j : Int, vs = [.int i, .int j] ∧ (-(2 ^ 62) ≤ i ∧ i < 2 ^ 62 ∧ -(2 ^ 62) ≤ j ∧ j < 2 ^ 62) ∧ R (Itr i (j - i).toNat) H1) : iRng2 tr σ H R := h
theorem x_lp {p : Addr} {xs : List V} {Z : Addr → Prop} (hp : SqL K H p xs) (h : Z p) : ∃ a, V.ref p = V.ref a ∧ (∃ xs, SqL K H a xs) ∧ Z a := ⟨p, rfl, ⟨xs, hp⟩, h⟩
theorem x_tp {p : Addr} {xs : List V} {Z : Addr → Prop} (hp : SqT K H p xs) (h : Z p) : ∃ a, V.ref p = V.ref a ∧ (∃ xs, SqT K H a xs) ∧ Z a := ⟨p, rfl, ⟨xs, hp⟩, h⟩
theorem x_rg {j : Int} {Z : Int → Prop} (h1 : -(2 ^ 62) ≤ j) (h2 : j < 2 ^ 62) (h : Z j) : ∃ j' : Int, [V.int j] = [V.int j'] ∧ -(2 ^ 62) ≤ j' ∧ j' < 2 ^ 62 ∧ Z j' := ⟨j, rfl, h1, h2, h⟩
theorem x_rg2 {i j : Int} {Z : Int → Int → Prop} (h1 : -(2 ^ 62) ≤ i ∧ i < 2 ^ 62 ∧ -(2 ^ 62) ≤ j ∧ j < 2 ^ 62) (h : Z i j) : ∃ i' j' : Int, [V.int i, V.int j] = [V.int i', V.int j'] ∧ (-(2 ^ 62) ≤ i' ∧ i' < 2 ^ 62 ∧ -(2 ^ 62) ≤ j' ∧ j' < 2 ^ 62) ∧ Z i' j' := ⟨i, j, rfl, h1, h⟩
theorem x_lc {wi : TI} {g : TG} {tt : TT} {vs : List Nat} (h : wi σ H fun J H1 => ∀ L, H1 L = none → ∃ W : Nat → Nat → Hp → Prop, (∃ m, W 0 m (upd H1 L (.lst []))) ∧ ∀ i m H, W i m H →
    (J.stop i H ∧ Q (.ref L) H) ∨ (J.go i H ∧ ∃ N : Hp → Prop, (∀ H', N H' → ∃ m', m' < m ∧ W (i + 1) m' H') ∧ ∀ x H', J.yld i H x H' → g x (wipe σ vs) H' fun σ2 H2 => wipe σ2 vs = wipe σ vs ∧ tt σ2 H2 fun b H3 =>
      if b = true then te σ2 H3 fun y H4 => ∃ acc, H4 L = some (.lst acc) ∧ acc.length < sizeLine ∧ N (upd H4 L (.lst (acc ++ [y]))) else N H3)) : tLc wi g tt te vs σ H Q := h
theorem x_acc {L : Addr} {acc : List V} {Z : List V → Prop} (hl : H L = some (.lst acc)) (z : acc.length < sizeLine) (h : Z acc) : ∃ acc, H L = some (.lst acc) ∧ acc.length < sizeLine ∧ Z acc := ⟨acc, hl, z, h⟩
theorem x_wiped {A B : L2.St} {Z : Prop} (e : A = B) (h : Z) : A = B ∧ Z := ⟨e, h⟩
/-- a statement and what follows it, with a word of one's own between them -/
def tCut (t u : TS) : TS := fun D σ H => ∃ M : L2.St → Hp → Prop, (∀ σ1 H1, M σ1 H1 → u D σ1 H1) ∧ t { D with nx := M } σ H
theorem pss_cut {st : Stmt} {more : List Stmt} (a : PS X st t) (b : PSs X more u) : PSs X (st :: more) (tCut t u) := by
  constructor
  rintro pins s σ H D I ⟨M, hu, ht⟩
  apply wpAny_execs_cons
  refine thn (a.run pins s σ H _ I ht) fun f s1 h => ?_
  match f, h with
  | .next, ⟨σ1, H1, I1, m⟩ => exact b.run pins s1 σ1 H1 D I1 (hu σ1 H1 m)
  | .ret _, h => exact h
  | .brk, h => exact h
  | .cont, h => exact h
theorem x_cut (M : L2.St → Hp → Prop) (h : t { D with nx := M } σ H) (k : ∀ σ1 H1, M σ1 H1 → u D σ1 H1) : tCut t u D σ H := ⟨M, k, h⟩
theorem x_mod {g : Int → Int → V} {i j : Int} (hj : 0 < j) (h : Q (g i j) H) : rI (fun _ j => 0 < j) g (.int i) (.int j) H Q := ⟨i, j, rfl, rfl, hj, h⟩
theorem x_mul {g : Int → Int → V} {i j : Int} (hj : CMul i j) (h : Q (g i j) H) : rI CMul g (.int i) (.int j) H Q := ⟨i, j, rfl, rfl, hj, h⟩
theorem x_div {g : Int → Int → V} {i j : Int} (hj : CDivW i j) (h : Q (g i j) H) : rI CDivW g (.int i) (.int j) H Q := ⟨i, j, rfl, rfl, hj, h⟩
theorem x_pow {g : Int → Int → V} {i j : Int} (hj : CPow i j) (h : Q (g i j) H) : rI CPow g (.int i) (.int j) H Q := ⟨i, j, rfl, rfl, hj, h⟩
theorem ne_of_none2 {p q : Addr} {o : HO} (h : H p = none) (h' : H q = some o) : p ≠ q := fun e => by rw [e, h'] at h; cases h
theorem upd_ne2 {p q : Addr} {o : HO} {r : Option HO} (h : p ≠ q) (e : H p = r) : upd H q o p = r := (upd_ne h).trans e
end
/-! From the law's promise to the row's end; defs by their names. -/

/-- nothing is tracked but the script -/
def scriptH (K : PySem.W.Frag) (a : Addr) (o : Obj) (ns : List Int) : Hp :=
  fun b => if b = a ∧ K.lookup a = none then some (.frz o (.lst (ns.map V.int))) else none

section
variable {P : Program} {w : World} {K : PySem.W.Frag} {mg mb : Str → Option Value}
theorem script_run {k : Nat} {fa a : Addr} {fd : FuncData} {x : Str} {sp : Sp} {z : Shared} {vs : List Value} {ns : List Int}
    (kin : K.In z.heap) (gl : z.heap.Ns mainGlobals mg) (bl : z.heap.Ns builtinsNs mb) (bb : ∀ y : Str, y ≠ "__name__" → mb y = bootBuiltins y)
    (lim : z.heap.NoLimit) (sys : ∃ mm, z.heap.Ns sysModules mm) (gens : z.gens = #[])
    (ha : z.heap.get? a = some { cls := .type "list", data := .seq vs.toArray }) (hi : IntsAre vs ns) (few : ns.length ≤ sizeLine) (room : Room k callerA)
    (F : ∀ base : Heap, K.In base → base.Ns mainGlobals mg → (∃ o, base.get? sysModules = some o) → FnG P w K mg base k fa fd [x] sp)
    (bind : ∀ (s : Shared) (u : Value), BindsTo s fd ⟨[u], []⟩ [(x, u)])
    (want : ∀ H : Hp, SqL K H a (ns.map V.int) → sp [.ref a] H (fun v _ => v = .bl true) E0) :
    codeAny (model P w) callerA (.call (.ref fa) ⟨[.ref a], []⟩)
      (fun r z' => r = .ok (.ret (.bool true)) ∧ OldK z.heap z'.heap ∧ z'.os = z.os ∧ AllBare z'.gens) z := by
  have rv : Vals (ns.map V.int) vs := vals_of_ints hi
  let ob : Obj := { cls := .type "list", data := .seq vs.toArray }
  let H := scriptH K a ob ns
  have only : ∀ b u, H b = some u → b = a ∧ K.lookup a = none ∧ u = .frz ob (.lst (ns.map V.int)) := by
    intro b u e
    show b = a ∧ _
    have e : (if b = a ∧ K.lookup a = none then some (HO.frz ob (.lst (ns.map V.int))) else none) = some u := e
    split at e
    · rename_i h; cases e; exact ⟨h.1, h.2, rfl⟩
    · cases e
  have seen : SqL K H a (ns.map V.int) := by
    cases q : K.lookup a with
    | none => exact .inl (.inr ⟨ob, if_pos ⟨rfl, q⟩⟩)
    | some o =>
      have e := kin a o q
      rw [ha] at e
      cases e
      exact .inr ⟨_, vs.toArray, _, q, rfl, rfl, rfl, by rw [List.size_toArray, hi.length]; exact few, by simpa using rv⟩
  have hok : HOk P w H z.heap := by
    intro b u e
    obtain ⟨rfl, _, rfl⟩ := only b u e
    exact ⟨ha, by rw [List.length_map]; exact few, vs, _, rv, ha⟩
  have notDict : ∀ {b : Addr} {o : Obj} {es : Array DictEntry} {ep : Nat}, z.heap.get? b = some o → o.data = .dict es ep → H b = none := by
    intro b o es ep e d
    cases q : H b with
    | none => rfl
    | some u =>
      obtain ⟨rfl, _, _⟩ := only b u q
      rw [ha] at e; cases e; cases d
  have ns_ : ∀ {b : Addr} {m : Str → Option Value}, z.heap.Ns b m → (hidT z.heap H).Ns b m := by
    rintro b m ⟨o, es, ep, e, d, r⟩
    exact ⟨o, es, ep, hidT_get e (notDict e d), d, r⟩
  have kin' : K.In (hidT z.heap H) := by
    intro b o e
    refine hidT_get (kin b o e) ?_
    cases q : H b with
    | none => rfl
    | some u =>
      obtain ⟨rfl, n, _⟩ := only b u q
      rw [n] at e; cases e
  have modu : Mod K mg (hidT z.heap H) :=
    ⟨kin', ns_ gl, ⟨mb, ns_ bl, bb⟩, by obtain ⟨mc, h1, h2⟩ := lim; exact ⟨mc, ns_ h1, h2⟩⟩
  have sys' : ∃ o, (hidT z.heap H).get? sysModules = some o := by
    obtain ⟨mm, h⟩ := sys
    obtain ⟨o, _, _, e, _⟩ := ns_ h
    exact ⟨o, e⟩
  have entry : Env0 P w K mg (hidT z.heap H) callerA [] z H :=
    ⟨rfl, modu, fun b o e => of_hidT e, Nat.le_of_eq (hidT_size _ _), trivial, fun b hb => absurd hb (by simp [frs]), hok, .of_eq gens⟩
  refine codeAny_mono ((F _ kin' (ns_ gl) sys').go callerA [] z H ⟨[.ref a], []⟩ [.ref a] [.ref a] _ _ room rfl entry (bind z (.ref a)) (.cons rfl .nil) (want H seen)) ?_
  intro r z' h
  match r, h with
  | .error e, h => exact False.elim h
  | .ok .next, h => exact False.elim h
  | .ok .brk, h => exact False.elim h
  | .ok .cont, h => exact False.elim h
  | .ok (.ret u), h =>
    obtain ⟨v, H', os, bare, un, hok', rv', q⟩ := h
    have q : v = .bl true := q
    subst q
    have rv' : u = Value.bool true := rv'
    subst rv'
    refine ⟨rfl, OldK.of_keep ?_, os, bare⟩
    intro b o e
    cases q : H b with
    | none => exact un.keep b o e q (by simp [frs]) (by simp)
    | some u =>
      obtain ⟨rfl, _, rfl⟩ := only b u q
      have e1 := (hok b _ q).1
      have e2 := (hok' b _ (un.frzs b ob _ q)).1
      rw [e] at e1; cases e1
      exact e2

theorem walk_g {l : PySem.W.OpenLaw} {n k : Nat} {q : Program} {loose : List Str} {XP : (Str → Option Value) → Heap → Prop} {YP : World → Heap → Prop} {d : DefRec} {KK : Params → PySem.W.Frag} {sp : PySem.W.Frag → Sp} {x : Str}
    (hn : l.most = some n) (small : n ≤ sizeLine) (hdf : d.params.defaults = []) (room : Room k callerA) (none_ : importsNone q = true)
    (hY : ∀ (w : World) (h : Heap), YP w h → (KK w.params).In h)
    (F : ∀ (w : World) (mg : Str → Option Value) (fa : Addr) (h : Heap), (KK w.params).In h → h.Ns mainGlobals mg → mg d.name = some (.ref fa) →
      ∃ fd : FuncData, (∀ (s : Shared) (u : Value), BindsTo s fd ⟨[u], []⟩ [(x, u)]) ∧
        ∀ base : Heap, (KK w.params).In base → base.Ns mainGlobals mg → (∃ o, base.get? sysModules = some o) → FnG l.prog w (KK w.params) mg base k fa fd [x] (sp (KK w.params)))
    (want : ∀ (K : PySem.W.Frag) (H : Hp) (a : Addr) (ns : List Int), ns.length ≤ n → SqL K H a (ns.map V.int) → sp K [.ref a] H (fun v _ => v = .bl true) E0) :
    PySem.W.WalkO q loose XP YP l.row.toRowW d [] (fun f vs => PySem.call f vs) := by
  refine Att.attach_call hn hdf ?_
  intro w s0 z mg mb fa o pm cd doc a vs ns G Y ho hd hcd hmg hobj hints hlen hg
  have kin := hY w _ Y
  obtain ⟨fd, hb, hF⟩ := F w mg fa _ kin G.T.g hmg
  have sys : ∃ mm, z.heap.Ns sysModules mm := by
    obtain ⟨mm, h, _⟩ := (G.T.seer none_).mods
    exact ⟨mm, h⟩
  exact script_run kin G.T.g G.T.b G.T.builtins G.T.nolimit sys hg hobj hints (Nat.le_trans hlen small) room hF hb (fun H hS => want _ H a ns hlen hS)

/-! ### defs by name -/
structure Df (K : PySem.W.Frag) (mg : Str → Option Value) (nm : Str) (st : Stmt) : Prop where
  ex : ∃ f fd, Fun K nm nm st f fd ∧ mg nm = some (.ref f)
theorem df_mk {h : Heap} {nm : Str} {st : Stmt} {f : Addr} {oc : Value} {od an : Option Addr} {osl : Array (Option Value)} {kV doc pm cdv ct : Value} (X : K.In h) (G : h.Ns mainGlobals mg)
    (a : PySem.W.nsIn K mainGlobals nm = some (some (.ref f)))
    (l : K.lookup f = some ⟨oc, od, .func (PySem.W.fnOf nm nm (defArgs st) (defBody st) (defScope st) .none kV doc pm an cdv ct), osl⟩)
    (c : PySem.W.codeIn K cdv nm = true) (k : PySem.W.keepIn K (.ref f) = true) : Df K mg nm st :=
  ⟨f, _, fun_mk l c k, PySem.W.mg_of X G a⟩

theorem kn_of {base : Heap} {nm : Str} {st : Stmt} {N ps : List Str} {k : Nat} {sp : Sp} (D : Df K mg nm st)
    (bd : ∀ (kV doc pm : Value) (an : Option Addr) (cdv ct : Value) (us : List Value), us.length = ps.length → bindArgs (PySem.W.fnOf nm nm (defArgs st) (defBody st) (defScope st) .none kV doc pm an cdv ct) ⟨us, []⟩ = pure (ps.zip us))
    (S : FnScope N ps (defScope st)) (len : ∀ vs H Q E, sp vs H Q E → vs.length = ps.length)
    (body : ∀ (f : Addr) (cd : Value) (B : Around) (fr : List Env) (z : Shared) (H : Hp) (vs : List V) (Q : VK) (E : XK),
      Room k (B.deeper (envOfC nm (defScope st) z.heap.objs.size f cd)) →
      (B.deeper (envOfC nm (defScope st) z.heap.objs.size f cd)).guards = some [] → sp vs H Q E →
      ∃ t, PSs (bodyX P w K mg base N nm st f cd B fr z H E) (defBody st) t ∧
        t { nx := fun _ H' => Q .non H', rt := Q } (start N vs) H) : Kn P w K mg base nm (k + 1) sp := by
  obtain ⟨f, fd, F, hm⟩ := D.ex
  exact ⟨f, fd, ps, FnG.mk' F S len (body f), hm, F.kp, F.binds bd⟩
/-- the law's own def, for the row's end -/
theorem law_of {nm x : Str} {st : Stmt} {N : List Str} {k : Nat} {sp : Sp} {fa : Addr} (D : Df K mg nm st) (hfa : mg nm = some (.ref fa))
    (bd : ∀ (kV doc pm : Value) (an : Option Addr) (cdv ct : Value) (us : List Value), us.length = ([x] : List Str).length → bindArgs (PySem.W.fnOf nm nm (defArgs st) (defBody st) (defScope st) .none kV doc pm an cdv ct) ⟨us, []⟩ = pure (([x] : List Str).zip us))
    (S : FnScope N [x] (defScope st)) (len : ∀ vs H Q E, sp vs H Q E → vs.length = ([x] : List Str).length)
    (body : ∀ (base : Heap), (∃ o, base.get? sysModules = some o) → ∀ (f : Addr) (cd : Value) (B : Around) (fr : List Env) (z : Shared) (H : Hp) (vs : List V) (Q : VK) (E : XK),
      Room k (B.deeper (envOfC nm (defScope st) z.heap.objs.size f cd)) →
      (B.deeper (envOfC nm (defScope st) z.heap.objs.size f cd)).guards = some [] → sp vs H Q E →
      ∃ t, PSs (bodyX P w K mg base N nm st f cd B fr z H E) (defBody st) t ∧
        t { nx := fun _ H' => Q .non H', rt := Q } (start N vs) H) :
    ∃ fd : FuncData, (∀ (s : Shared) (u : Value), BindsTo s fd ⟨[u], []⟩ [(x, u)]) ∧
      ∀ base : Heap, K.In base → base.Ns mainGlobals mg → (∃ o, base.get? sysModules = some o) → FnG P w K mg base (k + 1) fa fd [x] sp := by
  obtain ⟨f, fd, F, hm⟩ := D.ex
  cases hfa.symm.trans hm
  refine ⟨fd, fun s u => ?_, fun base _ _ sys => FnG.mk' F S len (body base sys fa)⟩
  obtain ⟨oc, od, kV, doc, pm, an, cd, ct, osl, rfl, lk, hc⟩ := F.ex
  exact .of_eq (bd kV doc pm an cd ct [u] rfl)
end
/-! What data show; texts times a number; data as the deep equality wants them. -/

/-! ### sizes of what is shown -/
structure Sz (d : PyData) (p q : Nat) : Prop where
  sh : d.showable = true
  sz : d.shown.length ≤ p
  dp : d.depth ≤ q
theorem Sz.shows {d : PyData} {p q : Nat} (h : Sz d p q) (hp : p ≤ 8000000) (hq : q ≤ 20) : Shows d := ⟨h.sh, Nat.le_trans h.sz hp, Nat.le_trans h.dp hq⟩
theorem Sz.mono {d : PyData} {p q p' q' : Nat} (h : Sz d p q) (hp : p ≤ p') (hq : q ≤ q') : Sz d p' q' := ⟨h.sh, Nat.le_trans h.sz hp, Nat.le_trans h.dp hq⟩
theorem piled_le {p : Nat} : ∀ {ts : List Str}, (∀ t ∈ ts, t.length ≤ p) → piled ts ≤ ts.length * (p + 2)
  | [], _ => by simp [piled]
  | t :: r, h => by
    rw [piled_cons]
    have h1 := h t (by simp)
    have h2 := piled_le (p := p) (ts := r) fun u hu => h u (by simp [hu])
    rw [List.length_cons, Nat.succ_mul]
    omega
theorem textFrom_le : ∀ (ts : List Str) (k : Nat) (acc : Str), (textFrom k acc ts).length ≤ acc.length + piled ts
  | [], k, acc => by rw [piled_nil]; exact Nat.le_refl _
  | t :: r, k, acc => by
    have h := textFrom_le r (k + 1) (acc ++ (if k > 0 then ", " else "" : String) ++ t)
    have e : (acc ++ (if k > 0 then ", " else "" : String) ++ t).length ≤ acc.length + 2 + t.length := by
      rw [strLen_append, strLen_append]
      split
      · exact Nat.le_of_eq rfl
      · show acc.length + 0 + t.length ≤ _; omega
    rw [piled_cons]
    show (textFrom (k + 1) _ r).length ≤ _
    omega
theorem listText_le (ts : List Str) : (listText ts).length ≤ piled ts + 2 := by
  unfold listText
  rw [strLen_append]
  have h := textFrom_le ts 0 "["
  have e : (("[" : String) : Str).length = 1 := rfl
  have e2 : (("]" : String) : Str).length = 1 := rfl
  omega
theorem join_le (ts : List Str) : (Str.join ", " ts).length ≤ piled ts := by
  cases ts with
  | nil => exact Nat.zero_le _
  | cons t r => have := join_length_add (t :: r) (by simp); omega
theorem tupleText_le (ts : List Str) : (tupleText ts).length ≤ piled ts + 3 := by
  unfold tupleText
  rw [strLen_append, strLen_append]
  have h := join_le ts
  have e : (("(" : String) : Str).length = 1 := rfl
  have e2 : (((if ts.length == 1 then ",)" else ")" : String)) : Str).length ≤ 2 := by split <;> decide
  omega
theorem dictText_le (ts : List Str) : (dictText ts).length ≤ piled ts + 2 := by
  unfold dictText
  rw [strLen_append, strLen_append]
  have h := join_le ts
  have e : (("{" : String) : Str).length = 1 := rfl
  have e2 : (("}" : String) : Str).length = 1 := rfl
  omega
theorem all_sz {p q : Nat} : ∀ {ds : List PyData}, (∀ d ∈ ds, Sz d p q) → PyData.showableAll ds = true ∧ (∀ t ∈ PyData.shownAll ds, t.length ≤ p) ∧ PyData.depthAll ds ≤ q ∧ (PyData.shownAll ds).length = ds.length
  | [], _ => ⟨rfl, by simp [PyData.shownAll], Nat.zero_le _, rfl⟩
  | d :: r, h => by
    obtain ⟨a, b, c, e⟩ := all_sz (p := p) (q := q) (ds := r) fun u hu => h u (by simp [hu])
    have hd := h d (by simp)
    refine ⟨by simp only [PyData.showableAll, hd.sh, a, Bool.and_self], ?_, by simp only [PyData.depthAll]; exact Nat.max_le.mpr ⟨hd.dp, c⟩, by simp [PyData.shownAll, e]⟩
    intro t ht
    simp only [PyData.shownAll] at ht
    rcases List.mem_cons.mp ht with rfl | ht
    · exact hd.sz
    · exact b t ht
theorem sz_list {p q : Nat} {ds : List PyData} (h : ∀ d ∈ ds, Sz d p q) : Sz (.list ds) (ds.length * (p + 2) + 3) (q + 1) := by
  obtain ⟨a, b, c, e⟩ := all_sz h
  refine ⟨by simpa only [PyData.showable] using a, ?_, by simp only [PyData.depth]; omega⟩
  simp only [PyData.shown]
  have h1 := listText_le (PyData.shownAll ds)
  have h2 := piled_le b
  rw [e] at h2
  omega
theorem sz_tuple {p q : Nat} {ds : List PyData} (h : ∀ d ∈ ds, Sz d p q) : Sz (.tuple ds) (ds.length * (p + 2) + 3) (q + 1) := by
  obtain ⟨a, b, c, e⟩ := all_sz h
  refine ⟨by simpa only [PyData.showable] using a, ?_, by simp only [PyData.depth]; omega⟩
  simp only [PyData.shown]
  have h1 := tupleText_le (PyData.shownAll ds)
  have h2 := piled_le b
  rw [e] at h2
  omega
theorem sz_none : Sz .none 5 0 := ⟨rfl, by decide, by decide⟩
theorem sz_bool (b : Bool) : Sz (.bool b) 5 0 := ⟨rfl, by cases b <;> decide, by cases b <;> decide⟩
theorem sz_int {i : Int} (h : i.natAbs < 2 ^ 200) : Sz (.int i) 201 0 := by
  have hl : i.natAbs.log2 < 1920 := Nat.lt_of_le_of_lt (by
    by_cases h0 : i.natAbs = 0
    · rw [h0]; decide
    · exact Nat.le_of_lt ((Nat.log2_lt h0).mpr h)) (by decide : 200 < 1920)
  refine ⟨by simpa only [PyData.showable] using decide_eq_true hl, ?_, Nat.le_refl _⟩
  simp only [PyData.shown]
  show (Str.ofString (toString i)).length ≤ _
  rw [PySem.ofString_length]
  cases i with
  | ofNat n =>
    show (Nat.repr n).length ≤ _
    exact Nat.le_trans (nat_repr_length_le (by decide) h) (by decide)
  | negSucc n =>
    show ("-" ++ Nat.repr (n + 1)).length ≤ _
    rw [String.length_append]
    have := nat_repr_length_le (n := n + 1) (k := 200) (by decide) h
    have e : ("-" : String).length = 1 := by decide
    omega
theorem sz_zero : Sz (.int 0) 1 0 := ⟨by decide, by decide, by decide⟩

/-! ### 'a' * n -/
section
variable {X : Cx}
def rMulStr : R2 := fun x y H Q => ∃ s n, x = .str s ∧ y = .int n ∧ MulOk s n ∧ Q (.str (Txt.mul s n)) H
theorem op_mulStr : OpR X (binaryOp .Mult) rMulStr := by
  intro pins s σ H x y v u Q I rx ry h
  obtain ⟨z, n, rfl, rfl, ok, q⟩ := h
  obtain ⟨t, rfl⟩ := rx
  obtain ⟨t', rfl⟩ := ry
  exact SB.mul ok fun t' k => ⟨.str _, H, I.tok _, ⟨_, rfl⟩, q⟩
theorem x_mulS {H : Hp} {Q : VK} {s : Str} {n : Int} (ok : MulOk s n) (h : Q (.str (Txt.mul s n)) H) : rMulStr (.str s) (.int n) H Q := ⟨s, n, rfl, rfl, ok, h⟩
end

/-! ### data without dicts, for == -/
mutual
theorem Dn.dp {K : PySem.W.Frag} {M : List Addr} {H : Hp} : ∀ {v : V} {d : PyData}, Dn M H v d → d.hasDict = false → Dp K H v d
  | _, _, .non, _ => .non
  | _, _, .bl b, _ => .bl b
  | _, _, .int i, _ => .int i
  | _, _, .str x, _ => .str x
  | _, _, .lst e _ a, h => .lst (SqL.of e) (DnAll.dp a (by simpa only [PyData.hasDict] using h))
  | _, _, .tup e _ a, h => .tup (SqT.of e) (DnAll.dp a (by simpa only [PyData.hasDict] using h))
  | _, _, .dic _ _ _ _, h => by simp only [PyData.hasDict] at h; cases h
theorem DnAll.dp {K : PySem.W.Frag} {M : List Addr} {H : Hp} : ∀ {v : List V} {d : List PyData}, DnAll M H v d → PyData.hasDictAll d = false → DpAll K H v d
  | _, _, .nil, _ => .nil
  | _, _, .cons a b, h => by
    simp only [PyData.hasDictAll, Bool.or_eq_false_iff] at h
    exact .cons (Dn.dp a h.1) (DnAll.dp b h.2)
end
/-- equal data are equal -/
theorem x_eqSame {K : PySem.W.Frag} {M : List Addr} {H : Hp} {Q : VK} {x y : V} {d : PyData} (hx : Dn M H x d) (hy : Dn M H y d) (sh : SeqAt.shaped d = true) (h : Q (.bl true) H) : rEqD K x y H Q := by
  have c := SeqAt.canLay_of_shaped sh
  have n := PyData.hasDict_of_canLay d c
  refine ⟨d, d, hx.dp n, hy.dp n, sh, sh, ?_⟩
  rw [SeqAt.eqv_refl d c]
  exact h
/-- new objects beside what stands -/
theorem new_out {H H1 : Hp} {b p : Addr} {o : HO} (S : Same H H1) (hb : H b = some o) (hp : H1 p = none) : p ∉ [b] := by
  intro m
  have e : p = b := by simpa using m
  subst e
  rw [S _ _ hb] at hp; cases hp
theorem grow {H H1 : Hp} {b p : Addr} {o u : HO} {vs : List V} {ds : List PyData} {d : PyData} (S : Same H H1) (hb : H b = some o) (A : DnAll [b] H1 vs ds) (hp : H1 p = none)
    (hd : p ∉ [b] → Dn [b] (upd H1 p u) (.ref p) d) : Same H (upd H1 p u) ∧ DnAll [b] (upd H1 p u) (vs ++ [.ref p]) (ds ++ [d]) :=
  ⟨S.trans (same_upd hp), (A.ext (Ext.same (same_upd hp))).app (.cons (hd (new_out S hb hp)) .nil)⟩
theorem put {H H1 : Hp} {b p : Addr} {o : HO} {vs : List V} {ds : List PyData} (u : HO) (S : Same H H1) (hb : H b = some o) (A : DnAll [b] H1 vs ds) (hp : H1 p = none) :
    Same H (upd H1 p u) ∧ DnAll [b] (upd H1 p u) vs ds ∧ p ∉ [b] ∧ upd H1 p u p = some u :=
  ⟨S.trans (same_upd hp), A.ext (Ext.same (same_upd hp)), new_out S hb hp, upd_same⟩
theorem DnAll.rep {M : List Addr} {H : Hp} {v : V} {d : PyData} (h : Dn M H v d) : ∀ n : Nat, DnAll M H (List.replicate n [v]).flatten (List.replicate n d)
  | 0 => .nil
  | n + 1 => by rw [List.replicate_succ, List.replicate_succ, List.flatten_cons]; exact .cons h (DnAll.rep h n)
theorem atI_of {α : Type} {xs : List α} {i : Int} (h0 : 0 ≤ i) (h1 : i < xs.length) : ∃ v, xs[i.toNat]? = some v ∧ atI xs i = some v := by
  have hi : i.toNat < xs.length := by omega
  refine ⟨xs[i.toNat], List.getElem?_eq_getElem hi, ?_⟩
  have e : i = (i.toNat : Nat) := by omega
  have := atI_nat (xs := xs) (j := i.toNat) (v := xs[i.toNat]) (List.getElem?_eq_getElem hi)
  rw [← e] at this
  exact this
theorem x_revL {K : PySem.W.Frag} {H : Hp} {p : Addr} {xs : List V} {Z : List V → Prop} (hp : SqL K H p xs) (h : Z xs) : ∃ a ys, V.ref p = .ref a ∧ SqL K H a ys ∧ Z ys := ⟨p, xs, rfl, hp, h⟩
theorem x_rev {K : PySem.W.Frag} {σ : L2.St} {H : Hp} {Q : VK} {te : TE} (h : te σ H fun x H1 => ∃ a ys, x = .ref a ∧ SqL K H1 a ys ∧ ∀ l, H1 l = none → Q (.ref l) (upd H1 l (.lst ys.reverse))) : tRevL K te σ H Q := h
theorem ix_at {H : Hp} {p : Addr} {xs : List V} {i : Int} (_ : H p = some (.lst xs)) (h0 : 0 ≤ i) (h1 : i < xs.length) : ∃ v, xs[i.toNat]? = some v ∧ atI xs i = some v := atI_of h0 h1
/-! Sets of tuples of ints, made by a comprehension; their length. -/
/-- what is wanted of adding a value to the set at an address -/
abbrev TAdd := Addr → V → Hp → (Hp → Prop) → Prop
def AddR (X : Cx) (add : TAdd) : Prop :=
  ∀ (pins : List (Addr × Obj)) (σ : L2.St) (H : Hp) (s : Shared) (L : Addr) (y : V) (u : Value) (N : Hp → Prop), Inv X pins σ H s → RelV y u → add L y H N →
    wpAny (model X.prog X.w) X.A (call (.builtin "set.add") [.ref L, u]) (fun _ s' => ∃ H', Inv X pins σ H' s' ∧ N H') (fun _ _ => False) s
/-- the reading of a set comprehension: Z the new set, add what each value's adding asks and leaves -/
def tSetC (Z : Addr → HO) (add : TAdd) (wi : TI) (g : TG) (tt : TT) (te : TE) (vs : List Nat) : TE := fun σ H Q =>
  wi σ H fun J H1 => ∀ L, H1 L = none → ∃ W : Nat → Nat → Hp → Prop, (∃ m, W 0 m (upd H1 L (Z L))) ∧ ∀ i m H2, W i m H2 →
    (J.stop i H2 ∧ Q (.ref L) H2) ∨ (J.go i H2 ∧ ∃ N : Hp → Prop, (∀ H3, N H3 → ∃ m3, m3 < m ∧ W (i + 1) m3 H3) ∧ ∀ x H3, J.yld i H2 x H3 →
      g x (wipe σ vs) H3 fun τ H4 => wipe τ vs = wipe σ vs ∧ tt τ H4 fun b H5 => if b = true then te τ H5 fun y H6 => add L y H6 N else N H5)
def freshSet (w : World) : Obj := { cls := .type "set", dict := none, data := .set #[] 0 (.fresh 0 0 (!w.params.followText "set-order")) }

section
variable {X : Cx}
theorem setc_go {pins : List (Addr × Obj)} {s : Shared} {σ : L2.St} {H : Hp} {Q : VK} {elt tg iter : Expr} {ifs : List Expr} {sc : Scope} {own : List (PySem.Str × Nat)} {p p2 : Pos}
    {wi : TI} {g : TG} {tt : TT} {te : TE} {Z : Addr → HO} {add : TAdd}
    (calm : X.calm = true) (nodup : X.N.Nodup) (I : Inv X pins σ H s) (hi : PI X tg iter wi) (bo : BlkOk X.N X.env.scope sc own)
    (pg : ∀ s H C cl fp, PG (X.blk s H sc (compEnvC sc cl C X.env) fp) tg g)
    (pt : ∀ s H C cl fp, PTs (X.blk s H sc (compEnvC sc cl C X.env) fp) ifs tt)
    (pe : ∀ s H C cl fp, PE (X.blk s H sc (compEnvC sc cl C X.env) fp) elt te)
    (pa : ∀ s H C cl fp, AddR (X.blk s H sc (compEnvC sc cl C X.env) fp) add)
    (fr : ∀ (H : Hp) (h : Heap) (a : Addr), h.get? a = some (freshSet X.w) → ObjOk X.prog X.w H h a (Z a))
    (fold : ∀ x, foldedSetIterable iter X.env x = pure x)
    (want : tSetC Z add wi g tt te (own.map (·.2)) σ H Q) :
    wpAny (model X.prog X.w) X.A (comprehension (.SetComp elt [⟨tg, iter, ifs, 0⟩] sc p) sc X.env p2 (newSet (.type "set")) false (eval iter X.env) none) (EP X pins σ Q) X.xe s := by
  let vs := own.map (·.2)
  have cells : ∀ y ∈ sc.names, y.2 = .free → ∃ c, X.env.cells.lookup y.1 = some c := by
    intro y hy e
    rcases bo.free y hy e with h | h
    · exact I.ok.has _ (Or.inl h)
    · exact I.ok.has _ (Or.inr h)
  apply wpAny_comprehension_free rfl fold (closure_ok cells) bo.kind (fun y hy e => by rw [bo.uniq y hy, e])
  refine thn (hi.run pins s σ H _ I want) ?_
  intro xv sa ha
  refine thn ha ?_
  rintro itv sb ⟨it, fp, tn, J, H2, rfl, Ib, T, stb, fpb, q⟩
  apply PpSet.newSet_ok
  apply newEnv_comp
  obtain ⟨L, eL⟩ : ∃ L, sb.heap.objs.size = L := ⟨_, rfl⟩
  rw [eL]
  obtain ⟨W, ⟨m0, w0⟩, turn⟩ := q L (Ib.hok.fresh (Nat.le_of_eq eL))
  obtain ⟨sd, ed⟩ : ∃ sd : Shared, sd = { sb with heap := sb.heap.push (freshSet X.w) } := ⟨_, rfl⟩
  have hd : sd.heap = sb.heap.push (freshSet X.w) := by rw [ed]
  have Id : Inv X pins σ (upd H2 L (Z L)) sd := by
    rw [ed]
    refine Ib.laid (t' := sb.toks) (fun b o e => Heap.get?_push_of_some _ e) (Nat.le_of_eq eL) (fr _ _ _ ?_)
    rw [← eL]
    exact Heap.get?_push_size _ rfl
  have old : ∀ b ∈ fp, b < sb.heap.objs.size := by
    intro b hb
    obtain ⟨o, e, _⟩ := T.obj _ _ stb b hb
    exact Heap.lt_size e
  have fpd : ∀ b ∈ fp, FpOk X pins (upd H2 L (Z L)) b ∧ b < sd.heap.objs.size := by
    intro b hb
    have lt := old b hb
    have ne : b ≠ L := by rw [← eL]; exact Nat.ne_of_lt lt
    constructor
    · exact ⟨(upd_ne ne).trans (fpb b hb).1, (fpb b hb).2⟩
    · rw [hd, Heap.size_push]; exact Nat.lt_succ_of_lt lt
  have std : tn 0 sd.heap := T.keep _ _ _ stb (fun b _ o e => by rw [hd]; exact Heap.get?_push_of_some _ e)
  have Ie := block_start Id bo nodup fpd
  have none_fp : ∀ b ∈ fp, upd H2 L (Z L) b = none := fun b hb => (fpd b hb).1.1
  let C := sd.heap.objs.size
  let cl := cellsFrom (C + 1) sc.names (cloFrom X.env.cells sc.names [])
  have g1 := pg sd (upd H2 L (Z L)) C cl fp
  have t1 := pt sd (upd H2 L (Z L)) C cl fp
  have e1 := pe sd (upd H2 L (Z L)) C cl fp
  have a1 := pa sd (upd H2 L (Z L)) C cl fp
  obtain ⟨ce, ece⟩ : ∃ ce, compEnvC sc cl C X.env = ce := ⟨_, rfl⟩
  have locC : ce.locals = C := by rw [← ece]; rfl
  rw [ece] at g1 t1 e1 a1
  rw [show compEnvC sc (cellsFrom (sd.heap.objs.size + 1) sc.names (cloFrom X.env.cells sc.names [])) sd.heap.objs.size X.env = ce from ece] at Ie
  obtain ⟨He, eHe⟩ : ∃ He, upd H2 L (Z L) = He := ⟨_, rfl⟩
  rw [eHe] at Id Ie g1 t1 e1 a1 w0 none_fp fpd
  obtain ⟨se, ese⟩ : ∃ se : Shared, se = { sd with heap := pushCells (sd.heap.push { cls := .type "dict", data := .dict #[] }) sc.names } := ⟨_, rfl⟩
  rw [← ese] at Ie
  have ste : tn 0 se.heap := T.keep _ _ _ std (fun b _ o e => by rw [ese]; exact pushCells_keeps _ _ _ _ (Heap.get?_push_of_some _ e))
  have stay : ∀ {τ : L2.St} {H' : Hp} {s' : Shared}, Inv (X.blk sd He sc ce fp) [] τ H' s' → (∀ b ∈ fp, H' b = none) → ∀ b ∈ fp, FpOk (X.blk sd He sc ce fp) [] H' b := by
    intro τ H' s' J hn b hb
    exact ⟨hn b hb, (J.ok.exf b hb).1, J.ok.exfs b hb, Or.inl hb, (J.ok.exf b hb).2, fun q hq => by cases hq⟩
  have loop : codeAny (model X.prog X.w) X.A (.compLoop (.SetComp elt [⟨tg, iter, ifs, 0⟩] sc p) 0 (.ref it) (.ref L) ce) (compPost (model X.prog X.w) X.A X.xe none (EP X pins σ Q) (.ref L) C) se := by
    apply PpSet.compLoopS_any (fun n z => ∃ i H', Inv (X.blk sd He sc ce fp) [] (wipe σ vs) H' z ∧ tn i z.heap ∧ (∀ b ∈ fp, H' b = none) ∧ W i n H') ?_ m0 ⟨0, He, Ie, ste, none_fp, w0⟩
    rintro n z ⟨i, Hz, Iz, stz, nz, wz⟩
    rcases turn i n Hz wz with ⟨stop, fin⟩ | ⟨more, N, back, step⟩
    · refine thnF (T.done (X.blk sd He sc ce fp) rfl rfl rfl calm i [] z _ Hz (fun _ _ => False) Iz (stay Iz nz) stz stop) ?_
      rintro r y ⟨rfl, Iy⟩
      have Ix : Inv X pins σ Hz y := Id.call' (ch := fp) Iy.os Iy.base Iy.hok Iy.bare fun b hb =>
        ⟨(fpd b hb).1.2.2.2.1, (fpd b hb).1.2.1, (fpd b hb).1.2.2.2.2.1, (fpd b hb).1.2.2.2.2.2⟩
      have nC : Hz C = none := by rw [← locC]; exact Iy.free
      obtain ⟨m, hn, _⟩ := Iy.loc
      have hn : y.heap.Ns C m := by rw [← locC]; exact hn
      refine ⟨m, hn, fun h2 sb2 => ?_⟩
      obtain ⟨f0, f1, f2, f3, f4, f5⟩ := Id.fpOk (H' := Hz) (Nat.le_refl _) nC
      exact ⟨.ref L, Hz, Ix.turned (t' := y.toks) (fun b o hb e => (sb2.2 b hb).trans e) f0 f1 f3 f4 f5, rfl, fin⟩
    · refine thnF (T.item (X.blk sd He sc ce fp) rfl rfl rfl calm i [] z _ Hz (fun _ _ => False) Iz (stay Iz nz) stz more) ?_
      rintro r y ⟨u, rfl, hy⟩
      refine thnF hy ?_
      rintro _ y2 ⟨x, Hy, Iy, ry, yy, sty, ny⟩
      have Ip := Iy.pinned (stay Iy ny) (T.obj _ _ sty)
      refine thnF (g1.run _ y2 _ Hy x u _ Ip ry (step x Hy yy)) ?_
      rintro _ y3 ⟨τ, H3, I3, hw, q3⟩
      refine thnF (t1.run _ y3 τ H3 _ I3 q3) ?_
      rintro b y4 ⟨H4, I4, q4⟩
      have over : ∀ {s' : Shared} {H' : Hp}, Inv (X.blk sd He sc ce fp) ([] ++ pinsAt fp y2.heap) τ H' s' → N H' →
          ∃ m, m < n ∧ ∃ i H', Inv (X.blk sd He sc ce fp) [] (wipe σ vs) H' s' ∧ tn i s'.heap ∧ (∀ b ∈ fp, H' b = none) ∧ W i m H' := by
        intro s' H' J nx
        obtain ⟨m', lt, w'⟩ := back H' nx
        have pinned : ∀ b ∈ fp, ∀ o, y2.heap.get? b = some o → s'.heap.get? b = some o ∧ H' b = none := by
          intro b hb o e
          have k := J.pin (b, o) (List.mem_append_right _ (List.mem_append_right _ (mem_pinsAt hb e)))
          exact ⟨k.1, k.2.1⟩
        have len : (wipe σ vs).length = τ.length := by rw [← hw, wipe_length]
        refine ⟨m', lt, i + 1, H', (J.unpinned (pins := [])).weak len ?_, T.keep _ _ _ sty (fun b hb o e => (pinned b hb o e).1), ?_, w'⟩
        · intro j v e
          rw [← hw] at e
          exact (wipe_some e).1
        · intro b hb
          obtain ⟨o, e, _⟩ := T.obj _ _ sty b hb
          exact (pinned b hb o e).2
      cases b
      · rw [if_neg Bool.false_ne_true] at q4 ⊢
        exact over I4 q4
      · rw [if_pos rfl] at q4 ⊢
        refine thnF (e1.run _ y4 τ H4 _ I4 q4) ?_
        rintro v y5 ⟨yv, H5, I5, r5, q5⟩
        refine thnF (a1 _ τ H5 y5 L yv v N I5 r5 q5) ?_
        rintro _ y6 ⟨H6, I6, q6⟩
        exact over I6 q6
  have res := PpSet.codeAny_compStart_set loop (T.self X.A 0 _ _ _ ste loop)
  rw [ese, ed] at res
  rw [← ece] at res
  subst ed
  exact res
theorem pe_setC {elt tg iter : Expr} {ifs : List Expr} {sc : Scope} {own : List (PySem.Str × Nat)} {p : Pos} {wi : TI} {g : TG} {tt : TT} {te : TE} {Z : Addr → HO} {add : TAdd}
    (calm : X.calm = true) (nodup : X.N.Nodup) (hi : PI X tg iter wi) (bo : BlkOk X.N X.env.scope sc own)
    (pg : ∀ s H C cl fp, PG (X.blk s H sc (compEnvC sc cl C X.env) fp) tg g)
    (pt : ∀ s H C cl fp, PTs (X.blk s H sc (compEnvC sc cl C X.env) fp) ifs tt)
    (pe : ∀ s H C cl fp, PE (X.blk s H sc (compEnvC sc cl C X.env) fp) elt te)
    (pa : ∀ s H C cl fp, AddR (X.blk s H sc (compEnvC sc cl C X.env) fp) add)
    (fr : ∀ (H : Hp) (h : Heap) (a : Addr), h.get? a = some (freshSet X.w) → ObjOk X.prog X.w H h a (Z a))
    (fold : ∀ x, foldedSetIterable iter X.env x = pure x := by intro _; rfl) :
    PE X (.SetComp elt [⟨tg, iter, ifs, 0⟩] sc p) (tSetC Z add wi g tt te (own.map (·.2))) :=
  ⟨fun pins s σ H Q I h => by
    rw [PpSet.eval_SetComp]
    exact setc_go calm nodup I hi bo pg pt pe pa fr fold h⟩
/-- adding a tuple of ints -/
def addT (K : PySem.W.Frag) (P : Program) (w : World) : TAdd := fun D y H N => ∃ (a : Addr) (k : List Int) (L : List (Addr × List Int)), y = .ref a ∧ SqT K H a (k.map V.int) ∧ H D = some (SetTO P w D L) ∧
  (∀ q ∈ L, SqT K H q.1 (q.2.map V.int)) ∧ L.length + 1 < 64 ∧ ∀ L', (k ∈ L.map (·.2) → L' = L) → (k ∉ L.map (·.2) → L'.Perm ((a, k) :: L)) → N (upd H D (SetTO P w D L'))
theorem addT_ok (hu : X.A.units + 64 < cLine) : AddR X (addT X.K X.prog X.w) := by
  intro pins σ H s D y u N I ry h
  obtain ⟨a, k, L, rfl, ha, hD, hL, few, q⟩ := h
  cases (show u = Value.ref a from ry)
  obtain ⟨es, ep, t, R⟩ := SetT0.full (I.hok D _ hD).1 (fun q hq => I.isT (hL q hq))
  have hx := I.isT ha
  obtain ⟨o, ho, ex, hd⟩ := R.ob
  have ty : s.TypeIs (.ref D) "set" := ⟨o, ho, ex.1⟩
  refine wpAny_call_entry F.slot_set_add ty F.entry_set_add ?_ (F.args_set_add_2 _ _)
  unfold Builtin.«set.add» Builtin.Frozenset.oneOther
  simp only [List.isEmpty_nil, bind_assoc]
  unfold Builtin.Frozenset.addrOf setAdd
  apply wpAny_bind
  apply wpAny_pure
  try dsimp only
  apply wpAny_bind
  apply wpAny_pure
  try dsimp only
  apply wpAny_bind
  apply wpAny_holding
  apply wpAny_bind
  refine wpAny_pyHash_tuple (by show X.A.units + 1 < cLine; omega) hx ?_
  refine add_at (s := { s with toks := s.toks + (k.length + 1) }) R hx (by show X.A.units + 1 < cLine; omega) few ?_
  intro b h2 L2 es2 ep2 t2 sb R2 c1 c2
  have ex2 : ∃ u, h2.get? D = some u := by obtain ⟨o2, ho2, _⟩ := R2.ob; exact ⟨o2, ho2⟩
  show wpAny _ _ (ret Value.none) _ _ _
  refine wpAny_pure ⟨_, rfl, _, ?_, q L2 c1 c2⟩
  exact I.write (e := D) (t' := s.toks + (k.length + 1)) (by rw [hD]; trivial) (Or.inl rfl) (fun b u hb e => (sb.2 b hb).trans e) ex2 (setTO_new R2.t0)
theorem freshT (H : Hp) (h : Heap) (a : Addr) (e : h.get? a = some (freshSet X.w)) : ObjOk X.prog X.w H h a (SetTO X.prog X.w a []) := setTO_new (setTR_fresh e).t0
/-- len of such a set -/
def rLenT (K : PySem.W.Frag) (P : Program) (w : World) : List V → Hp → VK → Prop := fun xs H Q => ∃ a L, xs = [.ref a] ∧ H a = some (SetTO P w a L) ∧ (∀ q ∈ L, SqT K H q.1 (q.2.map V.int)) ∧ Q (.int L.length) H
theorem call_lenT : CallR X (.builtin "len") (rLenT X.K X.prog X.w) := by
  intro pins s σ H xs us Q I r h
  obtain ⟨a, L, rfl, ha, hL, q⟩ := h
  rw [Vals.ref1 r]
  obtain ⟨es, ep, t, R⟩ := SetT0.full (I.hok a _ ha).1 (fun p hp => I.isT (hL p hp))
  obtain ⟨o, ho, ex, hd⟩ := R.ob
  have few := R.few
  have sz := R.size
  refine call_len_set ho ex hd R.fits (by omega) ⟨.int L.length, H, I.tok _, ⟨_, by rw [sz]⟩, q⟩
/-- list.count of data -/
def rCntD : V → List V → Hp → VK → Prop := fun x xs H Q => ∃ (y : V) (M : List Addr) (d : PyData) (ds : List PyData), xs = [y] ∧ Dn M H x (.list ds) ∧ Dn M H y d ∧ PyData.plainAll ds = true ∧ d.plain = true ∧ d.depth ≤ 20 ∧
  Q (.int ((ds.countP fun z => PyData.eqv z d : Nat) : Int)) H
theorem mt_count (hu : X.A.units + 64 < cLine) : MtR X "list.count" rCntD := by
  intro pins s σ H x xs v us Q I rx rxs h
  obtain ⟨y, M, d, ds, rfl, hx, hy, p1, p2, dp, q⟩ := h
  obtain ⟨u, rfl, ru⟩ := rxs.one
  obtain ⟨bs, rd, _⟩ := Dn.reads I d y u hy ru
  cases hx with
  | lst ha _ hds =>
    cases rx
    obtain ⟨_, its, n, rv, ho⟩ := I.hok _ _ ha
    obtain ⟨as, rs, _⟩ := DnAll.reads I ds _ its hds rv
    refine PySem.SeqAt.count_list_data ⟨_, ho, rfl, _, rfl⟩ rs rd p1 p2 (by show X.A.units + 1 + _ < cLine; have := Nat.min_le_right (PyData.depthAll ds) d.depth; omega) ⟨.int _, H, I.tok _, ⟨_, rfl⟩, q⟩
end
/-! Tuples: turned about, cut, joined, as data. -/
section
variable {prog : Program} {w : World} {A : Around} {E : Value → Shared → Prop} {s : Shared}
theorem rev_adjust (n : Nat) : Builtin.Slice.sliceAdjust none none (-1) (n : Int) = ((n : Int) - 1, -1) := by
  simp [Builtin.Slice.sliceAdjust]
theorem rev_places (n : Nat) : Builtin.Slice.slicePlaces ((n : Int) - 1) (-1) (-1) = n := by
  unfold Builtin.Slice.slicePlaces
  rw [if_neg (by decide)]
  by_cases h : (n : Int) - 1 > -1
  · simp only [h, if_true]; simp
  · simp only [h, if_false]
    first | done | omega
theorem fmap_of {α β : Type} {f : α → Option β} {g : α → β} : ∀ {l : List α}, (∀ m ∈ l, f m = some (g m)) → l.filterMap f = l.map g
  | [], _ => rfl
  | a :: l, h => by
    rw [List.filterMap_cons, h a (List.mem_cons_self ..), List.map_cons, fmap_of fun m hm => h m (List.mem_cons_of_mem _ hm)]
theorem rev_pick (xs : Array Value) : ((List.range xs.size).filterMap fun (m : Nat) => xs[((xs.size : Int) - 1 + (m : Int) * -1).toNat]?).toArray = xs.toList.reverse.toArray := by
  congr 1
  apply List.ext_getElem?
  intro i
  have e : ((List.range xs.size).filterMap fun (m : Nat) => xs[((xs.size : Int) - 1 + (m : Int) * -1).toNat]?) = (List.range xs.size).map fun m => xs.getD (xs.size - 1 - m) .none := by
    refine fmap_of fun m hm => ?_
    have := List.mem_range.mp hm
    have h1 : ((xs.size : Int) - 1 + (m : Int) * -1).toNat = xs.size - 1 - m := by omega
    have h2 : xs.size - 1 - m < xs.size := by omega
    rw [h1, Array.getElem?_eq_getElem h2]
    simp [Array.getD, h2]
  rw [e]
  by_cases hi : i < xs.size
  · have h2 : xs.size - 1 - i < xs.size := by omega
    rw [List.getElem?_map, List.getElem?_range hi, List.getElem?_reverse (by simpa using hi)]
    simp [Array.getD, h2]
  · rw [List.getElem?_eq_none (by simp; omega), List.getElem?_eq_none (by simp; omega)]
theorem sliceApplied_rev {sl : Addr} {n : Nat} {t : Tok} {Q : Int × Int × Nat → Shared → Prop} (hs : s.heap.IsSliceOf sl .none .none (.int (-1) t))
    (h : Q ((n : Int) - 1, -1, n) s) : wpAny (model prog w) A (Builtin.Slice.sliceApplied (.ref sl) (pure (n : Int))) Q E s := by
  obtain ⟨os, hos, hcs, hds⟩ := id hs
  unfold Builtin.Slice.sliceApplied Builtin.Slice.sliceFields
  refine wpAny_bind (wpAny_bind (wpAny_field hos hds (x := .none) rfl (wpAny_bind (wpAny_field hos hds (x := .none) rfl (wpAny_bind (wpAny_field hos hds (x := .int (-1) t) rfl (wpAny_pure ?_)))))))
  refine wpAny_bind (slicePart_int ?_)
  show wpAny _ _ (if ((-1 : Int) == 0) = true then _ else _) _ _ s
  rw [if_neg (by decide)]
  refine wpAny_bind (slicePart_none (wpAny_bind (slicePart_none (wpAny_bind (wpAny_pure ?_)))))
  show wpAny _ _ (match Builtin.Slice.sliceAdjust none none (-1) (n : Int) with | (lo, hi) => pure (lo, (-1 : Int), Builtin.Slice.slicePlaces lo hi (-1))) _ _ s
  rw [rev_adjust n]
  show wpAny _ _ (pure ((n : Int) - 1, (-1 : Int), Builtin.Slice.slicePlaces ((n : Int) - 1) (-1) (-1))) _ _ s
  rw [rev_places]
  exact wpAny_pure h
theorem getItem_tuple_rev {t sl : Addr} {items : Array Value} {k : Tok} {Q : Value → Shared → Prop} (ht : IsTup s.heap t items) (hs : s.heap.IsSliceOf sl .none .none (.int (-1) k))
    (h : Q (.ref s.heap.objs.size) { s with heap := s.heap.push { cls := .type "tuple", data := .seq items.toList.reverse.toArray } })
    (hsz : items.size ≤ sizeLine) : wpAny (model prog w) A (getItem (.ref t) (.ref sl)) Q E s := by
  have htake : sizeOk (.seq items.toList.reverse.toArray) := by
    show items.toList.reverse.toArray.size ≤ sizeLine
    rw [List.size_toArray, List.length_reverse, Array.length_toList]
    exact hsz
  obtain ⟨os, hos, hcs, hds⟩ := id hs
  have hTs : s.TypeIs (.ref sl) "slice" := ⟨os, hos, hcs⟩
  unfold getItem
  try with_reducible refine wpAny_holding ?_
  first | refine wpAny_bind (wpAny_pure ?_) | skip
  refine wpAny_bind (wpAny_sequenceKey ht.typeIs (by decide) ?_)
  refine wpAny_bind (wpAny_callSpecial?_slot (name := Str.ofString "__getitem__") ht.typeIs PyProof.Rows.slot_tuple_getitem
    (wpAny_call_entry PyProof.Rows.slot_tuple_getitem ht.typeIs PySem.F.entry_tuple_getitem ?_ (PySem.F.args_tuple_getitem_2 _ _)))
  show wpAny _ _ (Builtin.Tuple.tupleItemsOf (.ref t) >>= _) _ _ s
  refine wpAny_bind (tupleItemsOf_ ht ?_)
  refine wpAny_bind (wpAny_typeOf hTs ?_)
  rw [if_pos (by decide)]
  refine wpAny_bind (sliceApplied_rev hs ?_)
  have hno : ¬ ((((items.size : Int) - 1) == 0 && (-1 : Int) == 1 && items.size == items.size) = true) := by
    intro q
    rw [Bool.and_eq_true, Bool.and_eq_true] at q
    have q1 : (-1 : Int) = 1 := eq_of_beq q.1.2
    omega
  show wpAny _ _ (if (((items.size : Int) - 1) == 0 && (-1 : Int) == 1 && items.size == items.size) = true then _ else _) _ _ s
  rw [if_neg hno, rev_pick]
  first
    | exact wpAny_bind (m := Builtin.Tuple.tupleExact _) (wpAny_newObj_type (wpAny_pure ⟨_, rfl, wpAny_pure h⟩) htake)
    | exact wpAny_bind (m := Builtin.Tuple.tupleExact _) (wpAny_newObj_type (wpAny_bind (wpAny_pure (wpAny_pure ⟨_, rfl, wpAny_pure h⟩))) htake)
    | exact wpAny_bind (wpAny_bind (m := Builtin.Tuple.tupleExact _) (wpAny_newObj_type (wpAny_pure (wpAny_pure ⟨_, rfl, wpAny_pure h⟩)) htake))
    | exact wpAny_bind (wpAny_bind (m := Builtin.Tuple.tupleExact _) (wpAny_newObj_type (wpAny_pure ⟨_, rfl, wpAny_pure h⟩) htake))
end
section
variable {X : Cx}
def tRevT (K : PySem.W.Frag) (te : TE) : TE := fun σ H Q => te σ H fun x H1 => ∃ a xs, x = .ref a ∧ SqT K H1 a xs ∧ ∀ p, H1 p = none → Q (.ref p) (upd H1 p (.tup xs.reverse))
theorem pe_revT {e : Expr} {te : TE} {k : Nat} {p1 p2 p3 pos : Pos} (he : PE X e te) : PE X (.Subscript e (.Slice none none (some (.UnaryOp .USub (.Constant (.int 1) k p1) p2)) p3) pos) (tRevT X.K te) := by
  refine ⟨fun pins s σ H Q I h => ?_⟩
  refine Subscript_ (thn (he.run pins s σ H _ I h) fun v s1 ⟨x, H1, I1, r1, q1⟩ => ?_)
  obtain ⟨a, xs, ex, hx, q⟩ := q1
  subst ex
  cases r1
  have hst : PO X (some (.UnaryOp .USub (.Constant (.int 1) k p1) p2)) (tPart (tUn (rU fun i => .int (-i)) (tC (.int 1)))) := po_some (pe_un un_neg pe_int)
  refine wpAny_Slice (thn (po_none.run pins s1 σ H1 (fun o H2 => o = none ∧ H2 = H1) I1 ⟨rfl, rfl⟩) fun vl s2 ⟨l, H2, I2, pl, el, e2⟩ => ?_)
  subst el e2
  refine thn (po_none.run pins s2 σ H2 (fun o H3 => o = none ∧ H3 = H2) I2 ⟨rfl, rfl⟩) fun vu s3 ⟨u, H3, I3, pu, eu, e3⟩ => ?_
  subst eu e3
  refine thn (hst.run pins s3 σ H3 (fun o H4 => o = some (-1) ∧ H4 = H3) I3 ⟨1, rfl, -1, rfl, rfl, rfl⟩) fun vs s4 ⟨o, H4, I4, ps, eo, e4⟩ => ?_
  subst eo e4
  have I5 : Inv X pins σ H4 { s4 with heap := s4.heap.push { cls := .type "slice", data := .fields #[vl, vu, vs] } } := I4.kept (t' := s4.toks) fun b ob q => Heap.get?_push_of_some _ q
  cases pl
  cases pu
  cases ps with
  | int _ tk =>
  obtain ⟨its, r, ht, hz⟩ := I5.tuple hx
  have hlen := r.length
  show wpAny (model X.prog X.w) X.A (subscriptTail e (.Slice none none (some (.UnaryOp .USub (.Constant (.int 1) k p1) p2)) p3) (.ref a) (.ref s4.heap.objs.size)) (EP X pins σ Q) X.xe { s4 with heap := s4.heap.push { cls := .type "slice", data := .fields #[.none, .none, .int (-1) tk] } }
  refine tail_any (ops := [.ref a, .ref s4.heap.objs.size]) ht.typeIs (PyProof.Rows.slot_tuple_getitem.lookup) ?_ (by with_unfolding_all rfl)
  refine getItem_tuple_rev ht (Heap.IsSliceOf.new _ .none .none (.int (-1) tk)) ?_ (by rw [List.size_toArray]; omega)
  refine ⟨.ref _, _, I5.laid (t' := s4.toks) (o := .tup xs.reverse) (fun b ob q => Heap.get?_push_of_some _ q) (Nat.le_refl _) ?_, rfl, q _ (I5.hok.fresh (Nat.le_refl _))⟩
  exact ⟨by rw [List.length_reverse]; exact hz, _, r.reverse, IsTup.new _ _⟩
end
/-! readings -/
section
variable {K : PySem.W.Frag} {H : Hp} {Q : VK} {b0 : Addr} {ob : HO}
theorem x_catD {a b : Addr} {xs ys : List V} (hob : H b0 = some ob) (ha : H a = some (.tup xs)) (na : a ∉ [b0]) (hb : H b = some (.tup ys)) (nb : b ∉ [b0]) (z : xs.length + ys.length ≤ 100000)
    (h : ∀ p H', Same H H' → H' p = some (.tup (xs ++ ys)) → p ∉ [b0] → Q (.ref p) H') : rCatA K (.ref a) (.ref b) H Q := by
  refine ⟨a, b, xs, ys, rfl, rfl, SqT.of ha, SqT.of hb, Nat.le_trans z (by decide), ?_, ?_, ?_⟩
  · rintro rfl; exact h b H (Same.refl H) (by rw [hb]; rfl) nb
  · rintro _ rfl; exact h a H (Same.refl H) (by rw [ha, List.append_nil]) na
  · intro _ _ p hp; exact h p _ (same_upd hp) upd_same (new_out (Same.refl H) hob hp)
theorem cutV_whole {xs : List V} {lo hi : Option Int} (h : HT.sIx xs.length 0 lo = 0 ∧ HT.sIx xs.length xs.length hi = xs.length) : cutV xs lo hi = xs := by
  unfold cutV; rw [h.1, h.2]; simp
theorem x_slD {a : Addr} {xs : List V} {lo hi : Option Int} (hob : H b0 = some ob) (ha : H a = some (.tup xs)) (na : a ∉ [b0])
    (h : ∀ p H', Same H H' → H' p = some (.tup (cutV xs lo hi)) → p ∉ [b0] → Q (.ref p) H') : rSlA K (.ref a) lo hi H Q := by
  refine ⟨a, xs, rfl, SqT.of ha, fun w => ?_, fun _ p hp => h p _ (same_upd hp) upd_same (new_out (Same.refl H) hob hp)⟩
  exact h a H (Same.refl H) (by rw [ha, cutV_whole w]) na
theorem x_revT {σ : L2.St} {te : TE} (h : te σ H fun x H1 => ∃ a xs, x = .ref a ∧ SqT K H1 a xs ∧ ∀ p, H1 p = none → Q (.ref p) (upd H1 p (.tup xs.reverse))) : tRevT K te σ H Q := h
theorem cut_dn {M : List Addr} {v : List V} {d : List PyData} (lo hi : Option Int) (h : DnAll M H v d) : ∃ e, DnAll M H (cutV v lo hi) e ∧ (∀ z ∈ e, z ∈ d) ∧ e.length ≤ d.length := by
  refine ⟨_, (h.drop _).take _, fun z hz => List.mem_of_mem_drop (List.mem_of_mem_take hz), ?_⟩
  rw [List.length_take, List.length_drop]; omega
theorem DnAll.rev {M : List Addr} : ∀ {v : List V} {d : List PyData}, DnAll M H v d → DnAll M H v.reverse d.reverse
  | _, _, .nil => .nil
  | _, _, .cons a b => by rw [List.reverse_cons, List.reverse_cons]; exact (DnAll.rev b).app (.cons a .nil)
theorem x_gtup {σ : L2.St} {n : Nat} {p : Addr} {xs : List V} {t : TGs} {Qs : L2.St → Hp → Prop} (hp : SqT K H p xs) (hl : xs.length = n) (h : t xs σ H Qs) : gTup K n t (.ref p) σ H Qs := ⟨p, xs, rfl, hp, hl, h⟩
theorem x_gcons {σ : L2.St} {v : V} {r : List V} {t : TG} {u : TGs} {Qs : L2.St → Hp → Prop} (h : t v σ H fun σ' H' => u r σ' H' Qs) : gCons t u (v :: r) σ H Qs := ⟨v, r, rfl, h⟩
theorem x_gnil {σ : L2.St} {Qs : L2.St → Hp → Prop} (h : Qs σ H) : gNil [] σ H Qs := ⟨rfl, h⟩
/-- a set comprehension over a list that it leaves as it is -/
theorem setc_list {Z : Addr → HO} {add : TAdd} {a : Addr} {xs : List V} {g : TG} {tt : TT} {te : TE} {vs : List Nat} {σ : L2.St} {H1 : Hp} {L : Addr} {Qd : Hp → Prop} (Pv : Nat → Hp → Prop) (h0 : Pv 0 (upd H1 L (Z L)))
    (hl : ∀ i H, i ≤ xs.length → Pv i H → SqL K H a xs)
    (hs : ∀ i x H, xs[i]? = some x → Pv i H → g x (wipe σ vs) H fun τ H4 => wipe τ vs = wipe σ vs ∧ tt τ H4 fun b H5 => if b = true then te τ H5 fun y H6 => add L y H6 (Pv (i + 1)) else Pv (i + 1) H5) (hd : ∀ H, Pv xs.length H → Qd H) :
    ∃ W : Nat → Nat → Hp → Prop, (∃ m, W 0 m (upd H1 L (Z L))) ∧ ∀ i m H2, W i m H2 →
    ((Itl K a).stop i H2 ∧ Qd H2) ∨ ((Itl K a).go i H2 ∧ ∃ N : Hp → Prop, (∀ H3, N H3 → ∃ m3, m3 < m ∧ W (i + 1) m3 H3) ∧ ∀ x H3, (Itl K a).yld i H2 x H3 →
      g x (wipe σ vs) H3 fun τ H4 => wipe τ vs = wipe σ vs ∧ tt τ H4 fun b H5 => if b = true then te τ H5 fun y H6 => add L y H6 N else N H5) := by
  refine ⟨fun i m H => m = xs.length - i ∧ i ≤ xs.length ∧ Pv i H, ⟨xs.length, by simp, Nat.zero_le _, h0⟩, ?_⟩
  rintro i m H ⟨rfl, hi, p⟩
  have q := hl i H hi p
  by_cases hlt : i < xs.length
  · refine .inr ⟨⟨xs, xs[i], q, by simp [hlt]⟩, Pv (i + 1), fun H' p' => ⟨xs.length - (i + 1), by omega, rfl, hlt, p'⟩, fun x H' y => ?_⟩
    obtain ⟨e, y⟩ := y
    subst e
    exact hs i x _ (y xs q) p
  · have e : i = xs.length := by omega
    subst e
    exact .inl ⟨⟨xs, q, Nat.le_refl _⟩, hd H p⟩
theorem x_setC {σ : L2.St} {Z : Addr → HO} {add : TAdd} {wi : TI} {g : TG} {tt : TT} {te : TE} {vs : List Nat} (h : wi σ H fun J H1 => ∀ L, H1 L = none → ∃ W : Nat → Nat → Hp → Prop, (∃ m, W 0 m (upd H1 L (Z L))) ∧ ∀ i m H2, W i m H2 →
    (J.stop i H2 ∧ Q (.ref L) H2) ∨ (J.go i H2 ∧ ∃ N : Hp → Prop, (∀ H3, N H3 → ∃ m3, m3 < m ∧ W (i + 1) m3 H3) ∧ ∀ x H3, J.yld i H2 x H3 →
      g x (wipe σ vs) H3 fun τ H4 => wipe τ vs = wipe σ vs ∧ tt τ H4 fun b H5 => if b = true then te τ H5 fun y H6 => add L y H6 N else N H5)) : tSetC Z add wi g tt te vs σ H Q := h
theorem x_bm {σ : L2.St} {T : String} {r : V → List V → Hp → VK → Prop} {to : TE} {t : TA} (h : to σ H fun x H1 => tyV K T x H1 ∧ t σ H1 fun xs H2 => r x xs H2 Q) : tBM K T r to t σ H Q := h
theorem x_tyL {p : Addr} {xs : List V} {P : Prop} (hp : SqL K H p xs) (h : P) : tyV K "list" (.ref p) H ∧ P := ⟨.inl ⟨rfl, xs, hp⟩, h⟩
theorem x_app {l : Addr} {xs : List V} {y : V} (hl : H l = some (.lst xs)) (z : xs.length < sizeLine) (h : Q .non (upd H l (.lst (xs ++ [y])))) : rAppend (.ref l) [y] H Q := ⟨l, xs, y, rfl, rfl, hl, z, h⟩
/-- a cut of a tuple: some tuple, old or new -/
theorem x_slN {a : Addr} {xs : List V} {lo hi : Option Int} (ha : H a = some (.tup xs))
    (h : ∀ p H', Same H H' → H' p = some (.tup (cutV xs lo hi)) → Q (.ref p) H') : rSlA K (.ref a) lo hi H Q := by
  refine ⟨a, xs, rfl, SqT.of ha, fun w => ?_, fun _ p hp => h p _ (same_upd hp) upd_same⟩
  exact h a H (Same.refl H) (by rw [ha, cutV_whole w])
end
section
variable {X : Cx} {o e : Expr} {es : List Expr} {to : TE} {t : TA} {name : Str} {apos cpos : Pos} {T id : String} {r : V → List V → Hp → VK → Prop}
/-- a builtin's method, where X isn't known ahead (in a comprehension) -/
theorem pe_bmK (K : PySem.W.Frag) (pa : PlainAttrs T) (slot : Slot T name id) (hty : typeOf (.builtin id) = pure (.type "method_descriptor")) (hm : MtR X id r) (ho : PE X o to) (ha : PA X (e :: es) t) (hK : X.K = K := by rfl)
    (hbase : attributeBase o name X.env (eval o X.env) = eval o X.env := by rfl)
    (hfew : ((backTo cpos (starEach (e :: es) X.env)).all (fun x => !x.1) && (backToKw cpos (keywordEach [] X.env)).all (fun x => x.1.isSome)
      && decide ((e :: es).length + ([] : List Keyword).length + (if ([] : List Keyword).isEmpty then 0 else 1) < 30)) = true := by rfl)
    (hline : (apos.endLine == cpos.line) = true := by rfl) (hs : starEach (e :: es) X.env = (false, eval e X.env) :: starEach es X.env := by rfl) (hplain : (backTo cpos (starEach es X.env)).any (·.1) = false := by rfl) :
    PE X (.Call (.Attribute o name apos) (e :: es) [] cpos) (tBM K T r to t) := by
  subst hK
  exact pe_bm pa slot hty hm ho ha hbase hfew hline hs hplain
end
/-! Own classes: methods, making, len. -/
section
variable {P : Program} {w : World} {K : PySem.W.Frag} {mg : Str → Option Value} {base : Heap} {C : Addr}
/-- a method in the class's body -/
structure Dm (K : PySem.W.Frag) (C : Addr) (m qual : Str) (st : Stmt) : Prop where
  ex : ∃ f fd, Fun K m qual st f fd ∧ Meth K C m f
theorem dm_mk {m qual : Str} {st : Stmt} {f : Addr} {oc : Value} {od an : Option Addr} {osl : Array (Option Value)} {kV doc pm cdv ct : Value}
    (a : PySem.W.findIn K (.ref C) m = some (some (.ref f))) (i : PySem.W.isFn K (.ref f) = true)
    (l : K.lookup f = some ⟨oc, od, .func (PySem.W.fnOf m qual (defArgs st) (defBody st) (defScope st) .none kV doc pm an cdv ct), osl⟩)
    (c : PySem.W.codeIn K cdv qual = true) (k : PySem.W.keepIn K (.ref f) = true) : Dm K C m qual st :=
  ⟨f, _, fun_mk l c k, ⟨a, i, k⟩⟩
/-- a method's promise -/
structure Km (P : Program) (w : World) (K : PySem.W.Frag) (mg : Str → Option Value) (base : Heap) (C : Addr) (m : Str) (k : Nat) (sp : Sp) : Prop where
  ex : ∃ f fd ps, FnG P w K mg base k f fd ps sp ∧ Meth K C m f ∧ Binds K fd ps []
theorem Km.up {m : Str} {j k : Nat} {sp : Sp} (F : Km P w K mg base C m j sp) (h : j ≤ k) : Km P w K mg base C m k sp := by
  obtain ⟨f, fd, ps, a, b⟩ := F.ex
  exact ⟨f, fd, ps, a.up h, b⟩
theorem km_of {m qual : Str} {st : Stmt} {N ps : List Str} {k : Nat} {sp : Sp} (D : Dm K C m qual st)
    (bd : ∀ (kV doc pm : Value) (an : Option Addr) (cdv ct : Value) (us : List Value), us.length = ps.length → bindArgs (PySem.W.fnOf m qual (defArgs st) (defBody st) (defScope st) .none kV doc pm an cdv ct) ⟨us, []⟩ = pure (ps.zip us))
    (S : FnScope N ps (defScope st)) (len : ∀ vs H Q E, sp vs H Q E → vs.length = ps.length)
    (body : ∀ (f : Addr) (cd : Value) (B : Around) (fr : List Env) (z : Shared) (H : Hp) (vs : List V) (Q : VK) (E : XK),
      Room k (B.deeper (envOfC qual (defScope st) z.heap.objs.size f cd)) →
      (B.deeper (envOfC qual (defScope st) z.heap.objs.size f cd)).guards = some [] → sp vs H Q E →
      ∃ t, PSs (bodyX P w K mg base N qual st f cd B fr z H E) (defBody st) t ∧
        t { nx := fun _ H' => Q .non H', rt := Q } (start N vs) H) : Km P w K mg base C m (k + 1) sp := by
  obtain ⟨f, fd, F, hm⟩ := D.ex
  exact ⟨f, fd, ps, FnG.mk' F S len (body f), hm, F.binds bd⟩
/-- a class of the module, known by its name -/
structure Ck (K : PySem.W.Frag) (mg : Str → Option Value) (nm : Str) (C : Addr) : Prop where
  cls : Cls K C
  makes : PySem.W.makesIn K C = true
  kp : PySem.W.keepIn K (.ref C) = true
  at_ : mg nm = some (.ref C)
end
section
variable {X : Cx} {k : Nat} {C : Addr} {sp : Sp} {m nm : Str} {p apos pos : Pos} {e o : Expr} {es : List Expr} {ta : TE} {t : TA}
theorem pe_ownM {pl : Sem Bool} (he : PE X o ta) (c : Cls X.K C) (F : Km X.prog X.w X.K X.mg X.base C m k sp) (room : Room k X.A) (gd : X.A.guards = some []) (ha : PA X (e :: es) t)
    (hst : starEach (e :: es) X.env = (false, eval e X.env) :: starEach es X.env := by rfl) (hpl : (backTo pos (starEach es X.env)).any (·.1) = false := by rfl)
    (ht : eval (.Call (.Attribute o m apos) (e :: es) [] pos) X.env = (do
      let ov ← eval o X.env
      standAt apos.atName
      let (f, first) ← holding [ov] (getMethod ov m pl)
      callWith pos f first (backTo pos (starEach (e :: es) X.env)) (backToKw pos (keywordEach [] X.env))) := by rfl) :
    PE X (.Call (.Attribute o m apos) (e :: es) [] pos) (tMeth C m sp [] E0 ta t) := by
  obtain ⟨f, fd, ps, F, hm, hb⟩ := F.ex
  constructor
  intro pins s σ H Q I h
  refine PySem.W.methodCall_KW (pl := pl) (thn (he.run pins s σ H _ I h) ?_) ht
  rintro u s1 ⟨x, H1, I1, rx, a, dx, fs, rfl, ea, l, q⟩
  cases (show u = Value.ref a from rx)
  refine getmeth_ok I1 ea c hm l ?_
  refine PySem.W.callWith_K (first := [.ref a]) (h₀ := X.base) I.ok.mod.kin hm.kp (thn (ha.run pos pins s1 σ H1 _ I1 q) ?_) hst hpl
  rintro us s2 ⟨vs, H2, I2, r, q2⟩
  rw [List.append_nil] at q2
  exact ⟨I2.kIn, run_own (us := .ref a :: us) (vs := .ref a :: vs) F room gd hb I2 (.cons rfl r) q2⟩
theorem pe_ownM0 {pl : Sem Bool} (he : PE X o ta) (c : Cls X.K C) (F : Km X.prog X.w X.K X.mg X.base C m k sp) (room : Room k X.A) (gd : X.A.guards = some [])
    (ht : eval (.Call (.Attribute o m apos) [] [] pos) X.env = (do
      let ov ← eval o X.env
      standAt apos.atName
      let (f, first) ← holding [ov] (getMethod ov m pl)
      callWith pos f first (backTo pos (starEach [] X.env)) (backToKw pos (keywordEach [] X.env))) := by rfl) :
    PE X (.Call (.Attribute o m apos) [] [] pos) (tMeth C m sp [] E0 ta tNil) := by
  obtain ⟨f, fd, ps, F, hm, hb⟩ := F.ex
  constructor
  intro pins s σ H Q I h
  refine PySem.W.methodCall_KW (pl := pl) (thn (he.run pins s σ H _ I h) ?_) ht
  rintro u s1 ⟨x, H1, I1, rx, a, dx, fs, rfl, ea, l, q⟩
  cases (show u = Value.ref a from rx)
  refine getmeth_ok I1 ea c hm l ?_
  exact PySem.W.callWith_K0 (first := [.ref a]) I1.kIn hm.kp (run_own (us := [.ref a]) (vs := [.ref a]) F room gd hb I1 (.cons rfl .nil) q)
theorem guards_make {A : Around} {us : List Value} {kw : List (Str × Value)} (h : A.guards = some []) : (A.under (.builtin "type.__call__" ⟨.ref C :: us, kw⟩)).guards = some [] := by
  first | exact h | simpa [Around.under, Code.isGuard] using h
theorem guards_in1 {A : Around} (h : A.guards = some []) : A.in1.guards = some [] := by
  first | exact h | simpa [Around.in1] using h
theorem run_ownMk {pins : List (Addr × Obj)} {σ : L2.St} {H : Hp} {s : Shared} {Q : VK} {us : List Value} {vs : List V} (c : Ck X.K X.mg nm C) (F : Km X.prog X.w X.K X.mg X.base C "__init__" k sp) (room : Room (k + 1) X.A) (gd : X.A.guards = some [])
    (I : Inv X pins σ H s) (r : Vals vs us)
    (h : ∀ x dx, H x = none → H dx = none → dx ≠ x → sp (.ref x :: vs) (upd (upd H dx (.own x)) x (.ins C dx [])) (fun v H2 => v = .non ∧ Q (.ref x) H2) E0) :
    wpAny (model X.prog X.w) X.A (call (.ref C) us) (EP X pins σ Q) X.xe s := by
  obtain ⟨f, fd, ps, F, hm, hb⟩ := F.ex
  have q := h (s.heap.objs.size + 1) s.heap.objs.size (I.hok.fresh (Nat.le_succ _)) (I.hok.fresh (Nat.le_refl _)) (Nat.ne_of_lt (Nat.lt_succ_self _))
  have I2 := Inv.made (C := C) I
  have r2 : Vals (V.ref (s.heap.objs.size + 1) :: vs) (Value.ref (s.heap.objs.size + 1) :: us) := .cons rfl r
  have n1 : (Value.ref (s.heap.objs.size + 1) :: us).length = ps.length := r2.length.symm.trans (F.len _ _ _ _ q)
  have bt := hb _ (Value.ref (s.heap.objs.size + 1) :: us) I2.kIn (by rw [List.append_nil]; exact n1)
  rw [List.append_nil] at bt
  refine wpAny_call (make_map (f := f) I.kIn c.makes hm.at_ (beq_iff_eq.mp hm.fn) (codeAny_mono (F.go _ X.stack _ _ ⟨Value.ref (s.heap.objs.size + 1) :: us, []⟩ (Value.ref (s.heap.objs.size + 1) :: us) _ _ E0 (room.make C us []) (guards_make gd)
    (I2.env0.make C us []) bt r2 q) ?_))
  intro res z hz
  match res, hz with
  | .error e, hz => exact False.elim hz
  | .ok (.ret u), hz =>
    obtain ⟨v, H', I3, rv, rfl, q3⟩ := I2.after hz
    exact ⟨rv, ⟨V.ref (s.heap.objs.size + 1), H', I3, rfl, q3⟩⟩
  | .ok .next, hz => exact False.elim hz
  | .ok .brk, hz => exact False.elim hz
  | .ok .cont, hz => exact False.elim hz
theorem pe_ownMk (c : Ck X.K X.mg nm C) (F : Km X.prog X.w X.K X.mg X.base C "__init__" k sp) (room : Room (k + 1) X.A) (gd : X.A.guards = some []) (hg : Gl X nm) (ha : PA X (e :: es) t)
    (hdb : (nm == ("__debug__" : Str)) = false := by decide) (he : starEach (e :: es) X.env = (false, eval e X.env) :: starEach es X.env := by rfl) (hpl : (backTo pos (starEach es X.env)).any (·.1) = false := by rfl) :
    PE X (.Call (.Name nm p) (e :: es) [] pos) (tMake C sp [] E0 t) := by
  constructor
  intro pins s σ H Q I h
  apply wpAny_Call_Name_kw
  refine ld_glob I hg c.at_ ?_ hdb
  refine PySem.W.callWith_K (h₀ := X.base) I.ok.mod.kin c.kp ?_ he hpl
  refine thn (ha.run pos pins s σ H _ I h) ?_
  rintro us s1 ⟨vs, H1, I1, r, q⟩
  refine ⟨I1.kIn, run_ownMk c F room gd I1 r ?_⟩
  intro x dx h1 h2 h3
  have := q x dx h1 h2 h3
  rwa [List.append_nil] at this
/-- len of an own instance -/
def rLenO (C : Addr) (sp : Sp) : List V → Hp → VK → Prop := fun xs H Q => ∃ (a dx : Addr) (fs : List (Str × V)), xs = [.ref a] ∧ H a = some (.ins C dx fs) ∧ sp [.ref a] H (fun v H' => ∃ n : Int, v = .int n ∧ 0 ≤ n ∧ n < 2 ^ 63 ∧ Q (.int n) H') E0
theorem call_lenO (F : Km X.prog X.w X.K X.mg X.base C "__len__" k sp) (room : Room (k + 1) X.A) (gd : X.A.guards = some []) : CallR X (.builtin "len") (rLenO C sp) := by
  intro pins s σ H xs us Q I r h
  obtain ⟨a, dx, fs, rfl, ha, q⟩ := h
  obtain ⟨u, rfl, ru⟩ := vals1 r
  cases (show u = Value.ref a from ru)
  obtain ⟨f, fd, ps, F, hm, hb⟩ := F.ex
  obtain ⟨mA, J, _⟩ := ins_get I.hok ha
  obtain ⟨od, J, _⟩ := J.look
  refine Calls.call_function_entry kind_len plain_len entry_len (args_len1 _) ?_
  unfold Builtin.«len»
  refine wpAny_bind (m := oneArg "len" _) (wpAny_pure ?_)
  have n1 : ([Value.ref a] : List Value).length = ps.length := F.len _ _ _ _ q
  have bt := hb s [.ref a] I.kIn (by rw [List.append_nil]; exact n1)
  rw [List.append_nil] at bt
  have e0 : Env0 X.prog X.w X.K X.mg X.base X.A.in1 X.stack s H := I.env0.in1
  refine wpAny_bind (m := callSpecial? (.ref a) (PySem.Str.ofString "__len__")) (PySem.W.special_fn (name := "__len__") (args := []) I.kIn J hm.at_ (beq_iff_eq.mp hm.fn) ?_)
  refine wpAny_call (codeAny_mono (F.go X.A.in1 X.stack s H ⟨[.ref a], []⟩ [.ref a] [.ref a] _ E0 room.in1 (guards_in1 gd) e0 bt (.cons rfl .nil) q) ?_)
  intro res z hz
  match res, hz with
  | .error e, hz => exact False.elim hz
  | .ok .next, hz => exact False.elim hz
  | .ok .brk, hz => exact False.elim hz
  | .ok .cont, hz => exact False.elim hz
  | .ok (.ret u), hz =>
    obtain ⟨v, H', I3, rv, n, rfl, hn0, hn1, q3⟩ := I.after hz
    obtain ⟨tk, rfl⟩ := (show ∃ t, u = Value.int n t from rv)
    refine wpAny_bind (wpAny_holding (wpAny_pure ?_))
    refine wpAny_bind (wpAny_letGo ?_)
    show wpAny _ _ (if n < 0 then _ else _) _ _ _
    rw [if_neg (by omega)]
    show wpAny _ _ (if n ≥ 2 ^ 63 then _ else _) _ _ _
    rw [if_neg (by omega)]
    exact wpAny_bind (wpAny_mkInt (wpAny_pure ⟨_, rfl, ⟨.int n, H', I3.tok _, ⟨_, rfl⟩, q3⟩⟩))
end
/-- d[k] = v by a comprehension, k a tuple -/
theorem d_setT {X : Cx} {pins : List (Addr × Obj)} {σ : L2.St} {H : Hp} {s : Shared} {E : Value → Shared → Prop} {L b : Addr} {kvs : List (List Key × V)} {k : List Key} {v : V} {u r : Value} {Q : Unit → Shared → Prop} (hu : X.A.units + 64 < cLine)
    (I : Inv X pins σ H s) (hD : H L = some (.dT kvs)) (hb : H b = some (.tup (k.map kV))) (few : kvs.length < sizeLine)
    (ry : RelV (.ref b) u) (rv : RelV v r) (h : ∀ z, Inv X pins σ (upd H L (.dT (putK kvs k v))) z → Q () z) : wpAny (model X.prog X.w) X.A (dictSet L u r) Q E s := by
  cases (show u = Value.ref b from ry)
  obtain ⟨z, hd, xs, rel, dd⟩ := dt_of I.hok hD
  have l1 : xs.length ≤ sizeLine := by rw [← Paired.length rel]; exact z
  have l2 : (putK kvs k v).length ≤ sizeLine := by have := length_putK kvs k v; omega
  refine wpAny_dictSet_heap (hsz := l1) (show X.A.units < cLine by omega) (key_of I.hok hb) dd ?_
  intro h2 d2 sb
  obtain ⟨q, es, ep, hq, e2, e3, e4, _, e5⟩ := d2
  apply h
  refine d_write I (by rw [hD]; trivial) sb ⟨q, hq⟩ ⟨l2, hd, _, (rel.put k hb rv).keeps ?_, q, es, ep, hq, e2, e3, e4, e5⟩
  intro c ys ec
  rw [upd_ne (fun x => by rw [x, hD] at ec; cases ec)]
  exact ec
/-- the reading of a dict comprehension with tuples as keys -/
def tDcT (wi : TI) (g : TG) (tt : TT) (tk tv : TE) (vs : List Nat) : TE := fun σ H Q =>
  wi σ H fun J H1 => ∀ L, H1 L = none → ∃ W : Nat → Nat → Hp → Prop, (∃ m, W 0 m (upd H1 L (.dT []))) ∧ ∀ i m H2, W i m H2 →
    (J.stop i H2 ∧ Q (.ref L) H2) ∨ (J.go i H2 ∧ ∃ N : Hp → Prop, (∀ H3, N H3 → ∃ m3, m3 < m ∧ W (i + 1) m3 H3) ∧ ∀ x H3, J.yld i H2 x H3 →
      g x (wipe σ vs) H3 fun τ H4 => wipe τ vs = wipe σ vs ∧ tt τ H4 fun b H5 => if b = true then tk τ H5 fun y H6 => tv τ H6 fun z H7 =>
        ∃ kvs k b, y = .ref b ∧ H7 L = some (.dT kvs) ∧ H7 b = some (.tup (k.map kV)) ∧ kvs.length < sizeLine ∧ N (upd H7 L (.dT (putK kvs k z))) else N H5)
section
variable {X : Cx}
theorem dct_go {pins : List (Addr × Obj)} {s : Shared} {σ : L2.St} {H : Hp} {Q : VK} {kx vx tg iter : Expr} {ifs : List Expr} {sc : Scope} {own : List (PySem.Str × Nat)} {p p2 : Pos}
    {wi : TI} {g : TG} {tt : TT} {tk tv : TE}
    (calm : X.calm = true) (nodup : X.N.Nodup) (I : Inv X pins σ H s) (hi : PI X tg iter wi) (bo : BlkOk X.N X.env.scope sc own)
    (pg : ∀ s H C cl fp, PG (X.blk s H sc (compEnvC sc cl C X.env) fp) tg g)
    (pt : ∀ s H C cl fp, PTs (X.blk s H sc (compEnvC sc cl C X.env) fp) ifs tt)
    (pk : ∀ s H C cl fp, PE (X.blk s H sc (compEnvC sc cl C X.env) fp) kx tk)
    (pv : ∀ s H C cl fp, PE (X.blk s H sc (compEnvC sc cl C X.env) fp) vx tv) (hu : X.A.units + 64 < cLine)
    (fold : ∀ x, foldedSetIterable iter X.env x = pure x)
    (want : tDcT wi g tt tk tv (own.map (·.2)) σ H Q) :
    wpAny (model X.prog X.w) X.A (comprehension (.DictComp kx vx [⟨tg, iter, ifs, 0⟩] sc p) sc X.env p2 newDict false (eval iter X.env) none) (EP X pins σ Q) X.xe s := by
  let vs := own.map (·.2)
  have cells : ∀ y ∈ sc.names, y.2 = .free → ∃ c, X.env.cells.lookup y.1 = some c := by
    intro y hy e
    rcases bo.free y hy e with h | h
    · exact I.ok.has _ (Or.inl h)
    · exact I.ok.has _ (Or.inr h)
  apply wpAny_comprehension_free rfl fold (closure_ok cells) bo.kind (fun y hy e => by rw [bo.uniq y hy, e])
  refine thn (hi.run pins s σ H _ I want) ?_
  intro xv sa ha
  refine thn ha ?_
  rintro itv sb ⟨it, fp, tn, J, H2, rfl, Ib, T, stb, fpb, q⟩
  refine wpAny_newObj_type (newEnv_comp ?_)
  obtain ⟨L, eL⟩ : ∃ L, sb.heap.objs.size = L := ⟨_, rfl⟩
  rw [eL]
  obtain ⟨W, ⟨m0, w0⟩, turn⟩ := q L (Ib.hok.fresh (Nat.le_of_eq eL))
  obtain ⟨sd, ed⟩ : ∃ sd : Shared, sd = { sb with heap := sb.heap.push { cls := .type "dict", data := .dict #[] } } := ⟨_, rfl⟩
  have hd : sd.heap = sb.heap.push { cls := .type "dict", data := .dict #[] } := by rw [ed]
  have Id : Inv X pins σ (upd H2 L (.dT [])) sd := by
    rw [ed]
    refine Ib.laid (t' := sb.toks) (fun b o e => Heap.get?_push_of_some _ e) (Nat.le_of_eq eL) ?_
    rw [← eL]
    exact dt_empty sb.heap Ib.big
  have old : ∀ b ∈ fp, b < sb.heap.objs.size := by
    intro b hb
    obtain ⟨o, e, _⟩ := T.obj _ _ stb b hb
    exact Heap.lt_size e
  have fpd : ∀ b ∈ fp, FpOk X pins (upd H2 L (.dT [])) b ∧ b < sd.heap.objs.size := by
    intro b hb
    have lt := old b hb
    have ne : b ≠ L := by rw [← eL]; exact Nat.ne_of_lt lt
    constructor
    · exact ⟨(upd_ne ne).trans (fpb b hb).1, (fpb b hb).2⟩
    · rw [hd, Heap.size_push]; exact Nat.lt_succ_of_lt lt
  have std : tn 0 sd.heap := T.keep _ _ _ stb (fun b _ o e => by rw [hd]; exact Heap.get?_push_of_some _ e)
  have Ie := block_start Id bo nodup fpd
  have none_fp : ∀ b ∈ fp, upd H2 L (.dT []) b = none := fun b hb => (fpd b hb).1.1
  let C := sd.heap.objs.size
  let cl := cellsFrom (C + 1) sc.names (cloFrom X.env.cells sc.names [])
  have g1 := pg sd (upd H2 L (.dT [])) C cl fp
  have t1 := pt sd (upd H2 L (.dT [])) C cl fp
  have k1 := pk sd (upd H2 L (.dT [])) C cl fp
  have e1 := pv sd (upd H2 L (.dT [])) C cl fp
  obtain ⟨ce, ece⟩ : ∃ ce, compEnvC sc cl C X.env = ce := ⟨_, rfl⟩
  have locC : ce.locals = C := by rw [← ece]; rfl
  rw [ece] at g1 t1 k1 e1
  rw [show compEnvC sc (cellsFrom (sd.heap.objs.size + 1) sc.names (cloFrom X.env.cells sc.names [])) sd.heap.objs.size X.env = ce from ece] at Ie
  obtain ⟨He, eHe⟩ : ∃ He, upd H2 L (.dT []) = He := ⟨_, rfl⟩
  rw [eHe] at Id Ie g1 t1 k1 e1 w0 none_fp fpd
  obtain ⟨se, ese⟩ : ∃ se : Shared, se = { sd with heap := pushCells (sd.heap.push { cls := .type "dict", data := .dict #[] }) sc.names } := ⟨_, rfl⟩
  rw [← ese] at Ie
  have ste : tn 0 se.heap := T.keep _ _ _ std (fun b _ o e => by rw [ese]; exact pushCells_keeps _ _ _ _ (Heap.get?_push_of_some _ e))
  have stay : ∀ {τ : L2.St} {H' : Hp} {s' : Shared}, Inv (X.blk sd He sc ce fp) [] τ H' s' → (∀ b ∈ fp, H' b = none) → ∀ b ∈ fp, FpOk (X.blk sd He sc ce fp) [] H' b := by
    intro τ H' s' J hn b hb
    exact ⟨hn b hb, (J.ok.exf b hb).1, J.ok.exfs b hb, Or.inl hb, (J.ok.exf b hb).2, fun q hq => by cases hq⟩
  have loop : codeAny (model X.prog X.w) X.A (.compLoop (.DictComp kx vx [⟨tg, iter, ifs, 0⟩] sc p) 0 (.ref it) (.ref L) ce) (compPost (model X.prog X.w) X.A X.xe none (EP X pins σ Q) (.ref L) C) se := by
    apply compLoop_anyD (fun n z => ∃ i H', Inv (X.blk sd He sc ce fp) [] (wipe σ vs) H' z ∧ tn i z.heap ∧ (∀ b ∈ fp, H' b = none) ∧ W i n H') ?_ m0 ⟨0, He, Ie, ste, none_fp, w0⟩
    rintro n z ⟨i, Hz, Iz, stz, nz, wz⟩
    rcases turn i n Hz wz with ⟨stop, fin⟩ | ⟨more, N, back, step⟩
    · refine thnF (T.done (X.blk sd He sc ce fp) rfl rfl rfl calm i [] z _ Hz (fun _ _ => False) Iz (stay Iz nz) stz stop) ?_
      rintro r y ⟨rfl, Iy⟩
      have Ix : Inv X pins σ Hz y := Id.call' (ch := fp) Iy.os Iy.base Iy.hok Iy.bare fun b hb =>
        ⟨(fpd b hb).1.2.2.2.1, (fpd b hb).1.2.1, (fpd b hb).1.2.2.2.2.1, (fpd b hb).1.2.2.2.2.2⟩
      have nC : Hz C = none := by rw [← locC]; exact Iy.free
      obtain ⟨m, hn, _⟩ := Iy.loc
      have hn : y.heap.Ns C m := by rw [← locC]; exact hn
      refine ⟨m, hn, fun h2 sb2 => ?_⟩
      obtain ⟨f0, f1, f2, f3, f4, f5⟩ := Id.fpOk (H' := Hz) (Nat.le_refl _) nC
      exact ⟨.ref L, Hz, Ix.turned (t' := y.toks) (fun b o hb e => (sb2.2 b hb).trans e) f0 f1 f3 f4 f5, rfl, fin⟩
    · refine thnF (T.item (X.blk sd He sc ce fp) rfl rfl rfl calm i [] z _ Hz (fun _ _ => False) Iz (stay Iz nz) stz more) ?_
      rintro r y ⟨u, rfl, hy⟩
      refine thnF hy ?_
      rintro _ y2 ⟨x, Hy, Iy, ry, yy, sty, ny⟩
      have Ip := Iy.pinned (stay Iy ny) (T.obj _ _ sty)
      refine thnF (g1.run _ y2 _ Hy x u _ Ip ry (step x Hy yy)) ?_
      rintro _ y3 ⟨τ, H3, I3, hw, q3⟩
      refine thnF (t1.run _ y3 τ H3 _ I3 q3) ?_
      rintro b y4 ⟨H4, I4, q4⟩
      have over : ∀ {s' : Shared} {H' : Hp}, Inv (X.blk sd He sc ce fp) ([] ++ pinsAt fp y2.heap) τ H' s' → N H' →
          ∃ m, m < n ∧ ∃ i H', Inv (X.blk sd He sc ce fp) [] (wipe σ vs) H' s' ∧ tn i s'.heap ∧ (∀ b ∈ fp, H' b = none) ∧ W i m H' := by
        intro s' H' J nx
        obtain ⟨m', lt, w'⟩ := back H' nx
        have pinned : ∀ b ∈ fp, ∀ o, y2.heap.get? b = some o → s'.heap.get? b = some o ∧ H' b = none := by
          intro b hb o e
          have k := J.pin (b, o) (List.mem_append_right _ (List.mem_append_right _ (mem_pinsAt hb e)))
          exact ⟨k.1, k.2.1⟩
        have len : (wipe σ vs).length = τ.length := by rw [← hw, wipe_length]
        refine ⟨m', lt, i + 1, H', (J.unpinned (pins := [])).weak len ?_, T.keep _ _ _ sty (fun b hb o e => (pinned b hb o e).1), ?_, w'⟩
        · intro j v e
          rw [← hw] at e
          exact (wipe_some e).1
        · intro b hb
          obtain ⟨o, e, _⟩ := T.obj _ _ sty b hb
          exact (pinned b hb o e).2
      cases b
      · rw [if_neg Bool.false_ne_true] at q4 ⊢
        exact over I4 q4
      · rw [if_pos rfl] at q4 ⊢
        refine thnF (k1.run _ y4 τ H4 _ I4 q4) ?_
        rintro kv y5 ⟨yk, H5, I5, r5, q5⟩
        refine thnF (e1.run _ y5 τ H5 _ I5 q5) ?_
        rintro vv y6 ⟨yv, H6, I6, r6, kvs, k, b, rfl, hD, hb, few, nx⟩
        exact d_setT (X := X.blk sd He sc ce fp) (by exact hu) I6 hD hb few r5 r6 fun y7 I7 => over I7 nx
  have res := codeAny_compStart_dict loop (T.self X.A 0 _ _ _ ste loop)
  rw [ese, ed] at res
  rw [← ece] at res
  subst ed
  exact res
theorem pe_dcT {kx vx tg iter : Expr} {ifs : List Expr} {sc : Scope} {own : List (PySem.Str × Nat)} {p : Pos} {wi : TI} {g : TG} {tt : TT} {tk tv : TE}
    (calm : X.calm = true) (nodup : X.N.Nodup) (hi : PI X tg iter wi) (bo : BlkOk X.N X.env.scope sc own)
    (pg : ∀ s H C cl fp, PG (X.blk s H sc (compEnvC sc cl C X.env) fp) tg g)
    (pt : ∀ s H C cl fp, PTs (X.blk s H sc (compEnvC sc cl C X.env) fp) ifs tt)
    (pk : ∀ s H C cl fp, PE (X.blk s H sc (compEnvC sc cl C X.env) fp) kx tk)
    (pv : ∀ s H C cl fp, PE (X.blk s H sc (compEnvC sc cl C X.env) fp) vx tv) (hu : X.A.units + 64 < cLine)
    (fold : ∀ x, foldedSetIterable iter X.env x = pure x := by intro _; rfl) :
    PE X (.DictComp kx vx [⟨tg, iter, ifs, 0⟩] sc p) (tDcT wi g tt tk tv (own.map (·.2))) :=
  ⟨fun pins s σ H Q I h => by
    rw [arm_eval_DictComp]
    exact dct_go calm nodup I hi bo pg pt pk pv hu fold h⟩
end
/-! zip of a tuple with a list. -/
section
variable {prog : Program} {w : World} {A : Around} {E : Value → Shared → Prop} {s : Shared}
/-- zip's state: the tuple's iterator first, then the list's -/
structure ZipSt (h : Heap) (z TI TO ia ib la lb : Addr) (n : Nat) : Prop where
  zip : IsZip h z TI TO .none
  its : IsPair h TI (.ref ia) (.ref ib)
  out : ∃ p q, IsPair h TO p q
  fst : h.IsTupleIter ia la n
  snd : h.IsListIter ib lb n
/-- what a turn may change -/
abbrev ZipKeep (h h2 : Heap) (z TO ia ib : Addr) : Prop := ∀ a o, a ≠ z → a ≠ TO → a ≠ ia → a ≠ ib → h.get? a = some o → h2.get? a = some o
theorem ZipSt.lt {h : Heap} {z TI TO ia ib la lb : Addr} {n : Nat} (S : ZipSt h z TI TO ia ib la lb n) {c : Addr} (hc : c ∈ [z, TI, TO, ia, ib]) : ∃ o, h.get? c = some o ∧ ∀ v, o.data ≠ .cell v := by
  obtain ⟨p, q, ho⟩ := S.out
  obtain ⟨o1, e1, _, d1⟩ := S.fst
  obtain ⟨o2, e2, _, d2⟩ := S.snd
  simp only [List.mem_cons, List.not_mem_nil, or_false] at hc
  rcases hc with rfl | rfl | rfl | rfl | rfl
  · exact ⟨_, S.zip, nofun⟩
  · exact ⟨_, S.its, nofun⟩
  · exact ⟨_, ho, nofun⟩
  · exact ⟨_, e1, by rw [d1]; nofun⟩
  · exact ⟨_, e2, by rw [d2]; nofun⟩
theorem zipM_step {z TI TO ia ib la lb : Addr} {n : Nat} {us vs : Array Value} {u v : Value} {Q : Value → Shared → Prop} (D : ZipApart z TI TO ia ib la lb) (S : ZipSt s.heap z TI TO ia ib la lb n)
    (ha : s.heap.IsTuple la us) (hb : s.heap.IsList lb vs) (hu : us[n]? = some u) (hv : vs[n]? = some v)
    (q : ∀ h2, IsZip h2 z TI TO (rawInt s.heap.objs.size) → IsPair h2 TO u v → h2.IsTupleIter ia la (n + 1) → h2.IsListIter ib lb (n + 1) → IsPair h2 s.heap.objs.size u v →
      ZipKeep s.heap h2 z TO ia ib → Q (.ref s.heap.objs.size) { s with heap := h2 }) :
    wpAny (model prog w) A (Builtin.«zip.__next__» ⟨[.ref z], []⟩) (fun fin t => ∃ r, fin = .done (.ret r) ∧ Q r t) E s := by
  obtain ⟨p0, q0, hO⟩ := S.out
  show wpAny _ _ (field (.ref z) 2 >>= _) _ _ _
  apply wpAny_bind
  refine wpAny_field S.zip rfl (x := .bool false) rfl ?_
  show wpAny _ _ (field (.ref z) 3 >>= _) _ _ _
  apply wpAny_bind
  refine wpAny_field S.zip rfl (x := .ref TI) rfl ?_
  apply wpAny_bind
  refine wpAny_seqItems S.its rfl ?_
  show wpAny _ _ (Builtin.SmallTypes.ownedTupleIsFree (.ref z) >>= _) _ _ _
  apply wpAny_bind
  unfold Builtin.SmallTypes.ownedTupleIsFree
  apply wpAny_bind
  refine wpAny_field S.zip rfl (x := .none) rfl (wpAny_pure ?_)
  simp only [if_true]
  apply wpAny_bind
  apply wpAny_rule
  apply wpAny_bind
  refine wpAny_field S.zip rfl (x := .ref TO) rfl ?_
  apply wpAny_bind
  apply wpAny_setField_rec S.zip (by simp)
  intro h1 Z1 b1
  have Z1 : IsZip h1 z TI TO .ellipsis := Z1
  apply wpAny_bind
  simp only [List.zipIdx_cons, List.zipIdx_nil, List.forIn_cons, List.forIn_nil]
  apply wpAny_bind
  apply wpAny_bind
  apply wpAny_onRaise
  show wpAny _ _ (Builtin.SmallTypes.nextOf (.ref ia) >>= _) _ _ _
  apply wpAny_bind
  refine RZ.nextOf_tuple_item (S.fst.extBut b1.extBut D.i1z) (ha.extBut b1.extBut D.l1z) hu ?_
  intro h2 i2 b2
  apply wpAny_pure
  have O2 : IsPair h2 TO p0 q0 := b2.extBut _ _ D.TOi1 (b1.extBut _ _ D.TOz hO)
  apply wpAny_bind
  refine wpAny_seqItems O2 rfl ?_
  apply wpAny_bind
  apply wpAny_updateSeq_pair O2
  intro h3 O3 b3
  have O3 : IsPair h3 TO u q0 := O3
  apply wpAny_bind
  apply wpAny_letGo
  apply wpAny_pure
  apply wpAny_bind
  apply wpAny_bind
  apply wpAny_onRaise
  show wpAny _ _ (Builtin.SmallTypes.nextOf (.ref ib) >>= _) _ _ _
  apply wpAny_bind
  have jb : h3.IsListIter ib lb n := ((S.snd.extBut b1.extBut D.i2z).extBut b2.extBut D.i12.symm).extBut b3.extBut D.TOi2.symm
  have lb3 : h3.IsList lb vs := ((hb.extBut b1.extBut D.l2z).extBut b2.extBut D.l2i1).extBut b3.extBut D.l2TO
  refine wpAny_nextOf_list_item jb lb3 hv ?_
  intro h4 j4 b4
  apply wpAny_pure
  have O4 : IsPair h4 TO u q0 := b4.extBut _ _ D.TOi2 O3
  apply wpAny_bind
  refine wpAny_seqItems O4 rfl ?_
  apply wpAny_bind
  apply wpAny_updateSeq_pair O4
  intro h5 O5 b5
  have O5 : IsPair h5 TO u v := O5
  apply wpAny_bind
  apply wpAny_letGo
  apply wpAny_pure
  apply wpAny_pure
  apply wpAny_bind
  refine wpAny_seqItems O5 rfl ?_
  apply wpAny_bind
  refine wpAny_newTuple ?_
  have sz : h5.objs.size = s.heap.objs.size := b5.1.trans (b4.1.trans (b3.1.trans (b2.1.trans b1.1)))
  have Z5 : IsZip h5 z TI TO .ellipsis := b5.extBut _ _ D.TOz.symm (b4.extBut _ _ D.i2z.symm (b3.extBut _ _ D.TOz.symm (b2.extBut _ _ D.i1z.symm Z1)))
  have K5 : ZipKeep s.heap h5 z TO ia ib := fun a o n1 n2 n3 n4 e => b5.extBut _ _ n2 (b4.extBut _ _ n4 (b3.extBut _ _ n2 (b2.extBut _ _ n3 (b1.extBut _ _ n1 e))))
  have ia5 : h5.IsTupleIter ia la (n + 1) := ((i2.extBut b3.extBut D.TOi1.symm).extBut b4.extBut D.i12).extBut b5.extBut D.TOi1.symm
  have ib5 : h5.IsListIter ib lb (n + 1) := j4.extBut b5.extBut D.TOi2.symm
  have zlt : z < h5.objs.size := Heap.lt_size Z5
  show wpAny _ _ (Builtin.SmallTypes.ownedTupleHandOut (.ref z) (.ref h5.objs.size) >>= _) _ _ _
  apply wpAny_bind
  unfold Builtin.SmallTypes.ownedTupleHandOut
  have Z6 : IsZip (h5.push { cls := .type "tuple", data := .seq #[u, v] }) z TI TO .ellipsis := Heap.get?_push_of_some _ Z5
  apply wpAny_bind
  apply wpAny_setField_rec Z6 (by simp)
  intro h7 Z7 b7
  have Z7 : IsZip h7 z TI TO (rawInt h5.objs.size) := Z7
  apply wpAny_setField_rec Z7 (by simp)
  intro h8 Z8 b8
  have Z8 : IsZip h8 z TI TO (rawInt h5.objs.size) := Z8
  have up : ∀ a o, a ≠ z → h5.get? a = some o → h8.get? a = some o := fun a o ne e => b8.extBut _ _ ne (b7.extBut _ _ ne (Heap.get?_push_of_some _ e))
  have zn : h5.objs.size ≠ z := Nat.ne_of_gt zlt
  have T8 : IsPair h8 h5.objs.size u v := b8.extBut _ _ zn (b7.extBut _ _ zn (Heap.get?_push_size _ rfl))
  rw [sz] at Z8 T8
  refine wpAny_pure ⟨_, rfl, ?_⟩
  show Q (.ref h5.objs.size) _
  rw [sz]
  exact q h8 Z8 (up _ _ D.TOz O5) (ia5.at fun o e => up _ o D.i1z e) (ib5.at fun o e => up _ o D.i2z e) T8 fun a o n1 n2 n3 n4 e => up a o n1 (K5 a o n1 n2 n3 n4 e)
theorem zipM_stop {z TI TO ia ib la lb : Addr} {n : Nat} {us vs : Array Value} {Q : Fin → Shared → Prop} (free : A.handled = none) (D : ZipApart z TI TO ia ib la lb) (S : ZipSt s.heap z TI TO ia ib la lb n)
    (ha : s.heap.IsTuple la us) (hb : s.heap.IsList lb vs) (over : us[n]? = none ∨ vs[n]? = none)
    (q : ∀ h2 e, ZipKeep s.heap h2 z TO ia ib → (∃ o, h2.get? e = some o ∧ o.cls = .type "StopIteration") → E (.ref e) { s with heap := h2 }) :
    wpAny (model prog w) A (Builtin.«zip.__next__» ⟨[.ref z], []⟩) Q E s := by
  obtain ⟨p0, q0, hO⟩ := S.out
  show wpAny _ _ (field (.ref z) 2 >>= _) _ _ _
  apply wpAny_bind
  refine wpAny_field S.zip rfl (x := .bool false) rfl ?_
  show wpAny _ _ (field (.ref z) 3 >>= _) _ _ _
  apply wpAny_bind
  refine wpAny_field S.zip rfl (x := .ref TI) rfl ?_
  apply wpAny_bind
  refine wpAny_seqItems S.its rfl ?_
  show wpAny _ _ (Builtin.SmallTypes.ownedTupleIsFree (.ref z) >>= _) _ _ _
  apply wpAny_bind
  unfold Builtin.SmallTypes.ownedTupleIsFree
  apply wpAny_bind
  refine wpAny_field S.zip rfl (x := .none) rfl (wpAny_pure ?_)
  simp only [if_true]
  apply wpAny_bind
  apply wpAny_rule
  apply wpAny_bind
  refine wpAny_field S.zip rfl (x := .ref TO) rfl ?_
  apply wpAny_bind
  apply wpAny_setField_rec S.zip (by simp)
  intro h1 Z1 b1
  have Z1 : IsZip h1 z TI TO .ellipsis := Z1
  apply wpAny_bind
  simp only [List.zipIdx_cons, List.zipIdx_nil, List.forIn_cons, List.forIn_nil]
  apply wpAny_bind
  apply wpAny_bind
  apply wpAny_onRaise
  show wpAny _ _ (Builtin.SmallTypes.nextOf (.ref ia) >>= _) _ _ _
  apply wpAny_bind
  rcases hx : us[n]? with _ | u
  · refine RZ.nextOf_tuple_end free (S.fst.extBut b1.extBut D.i1z) (ha.extBut b1.extBut D.l1z) hx ?_
    rintro h2 e b2 ⟨oe, he, hc⟩
    have Z2 : IsZip h2 z TI TO .ellipsis := b2 _ _ D.i1z.symm Z1
    have ez : e ≠ z := by rintro rfl; rw [Z2] at he; cases he; simp at hc
    apply wpAny_setField_rec Z2 (by simp)
    intro h3 _ b3
    exact q h3 e (fun a o n1 _ n3 _ x => b3.extBut _ _ n1 (b2 _ _ n3 (b1.extBut _ _ n1 x))) ⟨oe, b3.extBut _ _ ez he, hc⟩
  · have hy : vs[n]? = none := over.resolve_left (by rw [hx]; simp)
    refine RZ.nextOf_tuple_item (S.fst.extBut b1.extBut D.i1z) (ha.extBut b1.extBut D.l1z) hx ?_
    intro h2 i2 b2
    apply wpAny_pure
    have O2 : IsPair h2 TO p0 q0 := b2.extBut _ _ D.TOi1 (b1.extBut _ _ D.TOz hO)
    apply wpAny_bind
    refine wpAny_seqItems O2 rfl ?_
    apply wpAny_bind
    apply wpAny_updateSeq_pair O2
    intro h3 _ b3
    apply wpAny_bind
    apply wpAny_letGo
    apply wpAny_pure
    apply wpAny_bind
    apply wpAny_bind
    apply wpAny_onRaise
    show wpAny _ _ (Builtin.SmallTypes.nextOf (.ref ib) >>= _) _ _ _
    apply wpAny_bind
    have jb : h3.IsListIter ib lb n := ((S.snd.extBut b1.extBut D.i2z).extBut b2.extBut D.i12.symm).extBut b3.extBut D.TOi2.symm
    have lb3 : h3.IsList lb vs := ((hb.extBut b1.extBut D.l2z).extBut b2.extBut D.l2i1).extBut b3.extBut D.l2TO
    refine wpAny_nextOf_list_end free jb lb3 hy ?_
    rintro h4 e b4 ⟨oe, he, hc⟩
    have Z4 : IsZip h4 z TI TO .ellipsis := b4 _ _ D.i2z.symm (b3.extBut _ _ D.TOz.symm (b2.extBut _ _ D.i1z.symm Z1))
    have ez : e ≠ z := by rintro rfl; rw [Z4] at he; cases he; simp at hc
    apply wpAny_setField_rec Z4 (by simp)
    intro h5 _ b5
    exact q h5 e (fun a o n1 n2 n3 n4 x => b5.extBut _ _ n1 (b4 _ _ n4 (b3.extBut _ _ n2 (b2.extBut _ _ n3 (b1.extBut _ _ n1 x))))) ⟨oe, b5.extBut _ _ ez he, hc⟩
theorem nextM_step {z TI TO ia ib la lb : Addr} {n : Nat} {us vs : Array Value} {u v : Value} {Q : Option Value → Shared → Prop} (D : ZipApart z TI TO ia ib la lb) (S : ZipSt s.heap z TI TO ia ib la lb n)
    (ha : s.heap.IsTuple la us) (hb : s.heap.IsList lb vs) (hu : us[n]? = some u) (hv : vs[n]? = some v)
    (q : ∀ h2, IsZip h2 z TI TO (rawInt s.heap.objs.size) → IsPair h2 TO u v → h2.IsTupleIter ia la (n + 1) → h2.IsListIter ib lb (n + 1) → IsPair h2 s.heap.objs.size u v →
      ZipKeep s.heap h2 z TO ia ib → Q (some (.ref s.heap.objs.size)) { s with heap := h2 }) : wpAny (model prog w) A (pyNext (.ref z)) Q E s := by
  unfold pyNext
  have ty : s.TypeIs (.ref z) "zip" := ⟨_, S.zip, rfl⟩
  refine wpAny_bind (wpAny_attempt (wpAny_callSpecial?_slot (name := Str.ofString "__next__") ty F.slot_zip_next (wpAny_call_entry F.slot_zip_next ty F.entry_zip_next ?_ (F.args_zip_next_1 _))))
  exact zipM_step D S ha hb hu hv fun h2 c1 c2 c3 c4 c5 c6 => wpAny_pure (q h2 c1 c2 c3 c4 c5 c6)
theorem nextM_stop {z TI TO ia ib la lb : Addr} {n : Nat} {us vs : Array Value} {Q : Option Value → Shared → Prop} (free : A.handled = none) (D : ZipApart z TI TO ia ib la lb) (S : ZipSt s.heap z TI TO ia ib la lb n)
    (ha : s.heap.IsTuple la us) (hb : s.heap.IsList lb vs) (over : us[n]? = none ∨ vs[n]? = none)
    (q : ∀ h2, ZipKeep s.heap h2 z TO ia ib → Q none { s with heap := h2 }) : wpAny (model prog w) A (pyNext (.ref z)) Q E s := by
  unfold pyNext
  have ty : s.TypeIs (.ref z) "zip" := ⟨_, S.zip, rfl⟩
  refine wpAny_bind (wpAny_attempt (wpAny_callSpecial?_slot (name := Str.ofString "__next__") ty F.slot_zip_next (wpAny_call_entry F.slot_zip_next ty F.entry_zip_next ?_ (F.args_zip_next_1 _))))
  refine zipM_stop free D S ha hb over ?_
  rintro h2 e k ⟨o, ho, hc⟩
  apply wpAny_bind
  refine wpAny_isInstance (T := "StopIteration") (b := true) ⟨o, ho, hc⟩ isSubtype_stop ?_
  exact wpAny_pure (q _ k)
end
/-! making one -/
abbrev mk1 (h : Heap) (a : Addr) : Heap := h.push { cls := .type "tuple_iterator", data := .fields #[.ref a, .int 0 0] }
abbrev mk2 (h : Heap) (a b : Addr) : Heap := (mk1 h a).push { cls := .type "list_iterator", data := .fields #[.ref b, .int 0 0] }
abbrev mk3 (h : Heap) (a b : Addr) : Heap := (mk2 h a b).push { cls := .type "tuple", data := .seq #[.ref h.objs.size, .ref (mk1 h a).objs.size] }
abbrev mk4 (h : Heap) (a b : Addr) : Heap := (mk3 h a b).push { cls := .type "tuple", data := .seq #[.none, .none] }
abbrev mk5 (h : Heap) (a b : Addr) : Heap := (mk4 h a b).push { cls := .type "zip", data := .fields #[.none, .bool false, .bool false, .ref (mk2 h a b).objs.size, .ref (mk3 h a b).objs.size] }
theorem meets_mk (a b : Addr) (us vs : Array Value) : Meets (Builtin.«zip.__new__» ⟨[.type "zip", .ref a, .ref b], []⟩)
    (fun _ R s => s.heap.IsTuple a us ∧ s.heap.IsList b vs ∧ R (.ok (.ret (.ref (mk4 s.heap a b).objs.size))) { s with heap := mk5 s.heap a b }) :=
  .of_wp fun prog w A R s h => by
    obtain ⟨hp, g, d, tk, os⟩ := s
    obtain ⟨ha, hb, h⟩ := h
    have sz := sub_zip
    have La : Heap.IsTuple (Shared.heap ⟨hp, g, d, tk, os⟩) a us := ha
    have Lb : Heap.IsList (Shared.heap ⟨hp.push { cls := .type "tuple_iterator", data := .fields #[.ref a, .int 0 0] }, g, d, tk, os⟩) b vs := Heap.IsList.push hb _
    wp_walk using wpAny_pyIter_tuple La, wpAny_pyIter_list Lb
    exact ⟨_, rfl, h⟩
theorem mk_all (h : Heap) (a b : Addr) : ZipSt (mk5 h a b) (h.objs.size + 4) (h.objs.size + 2) (h.objs.size + 3) h.objs.size (h.objs.size + 1) a b 0 ∧ (∀ c o, h.get? c = some o → (mk5 h a b).get? c = some o) ∧ (mk4 h a b).objs.size = h.objs.size + 4 := by
  have n1 : (mk1 h a).objs.size = h.objs.size + 1 := Heap.size_push ..
  have n2 : (mk2 h a b).objs.size = h.objs.size + 2 := by rw [Heap.size_push, n1]
  have n3 : (mk3 h a b).objs.size = h.objs.size + 3 := by rw [Heap.size_push, n2]
  have n4 : (mk4 h a b).objs.size = h.objs.size + 4 := by rw [Heap.size_push, n3]
  have up : ∀ {g : Heap} {x : Obj} {c : Addr} {o : Obj}, g.get? c = some o → (g.push x).get? c = some o := fun e => Heap.get?_push_of_some _ e
  have e1 : (mk5 h a b).get? h.objs.size = some _ := up (up (up (up (Heap.get?_push_size _ rfl))))
  have e2 : (mk5 h a b).get? (mk1 h a).objs.size = some _ := up (up (up (Heap.get?_push_size _ rfl)))
  have e3 : (mk5 h a b).get? (mk2 h a b).objs.size = some _ := up (up (Heap.get?_push_size _ rfl))
  have e4 : (mk5 h a b).get? (mk3 h a b).objs.size = some _ := up (Heap.get?_push_size _ rfl)
  have e5 : (mk5 h a b).get? (mk4 h a b).objs.size = some _ := Heap.get?_push_size _ rfl
  rw [n2, n3, n4] at e5
  rw [n3] at e4
  rw [n2, n1] at e3
  rw [n1] at e2
  exact ⟨⟨e5, e3, ⟨_, _, e4⟩, ⟨_, e1, rfl, rfl⟩, ⟨_, e2, rfl, rfl⟩⟩, fun c o x => up (up (up (up (up x)))), n4⟩
theorem run_zipM {prog : Program} {w : World} {A : Around} {E : Value → Shared → Prop} {s : Shared} {a b : Addr} {us vs : Array Value} {Q : Value → Shared → Prop} (ha : s.heap.IsTuple a us) (hb : s.heap.IsList b vs)
    (h : ∀ h2, ZipSt h2 (s.heap.objs.size + 4) (s.heap.objs.size + 2) (s.heap.objs.size + 3) s.heap.objs.size (s.heap.objs.size + 1) a b 0 → (∀ c o, s.heap.get? c = some o → h2.get? c = some o) → Q (.ref (s.heap.objs.size + 4)) { s with heap := h2 }) :
    wpAny (model prog w) A (call (.type "zip") [.ref a, .ref b]) Q E s := by
  refine callType_new F.called_zip (by decide) (F.typeCall_zip_2 _ _) (F.newCall_zip_2 _ _) (fun o => F.args_object_init_3 o _ _) F.entry_zip_new (meets_mk a b us vs) ⟨ha, hb, ?_⟩
  obtain ⟨S, k, n4⟩ := mk_all s.heap a b
  show _ ∧ _
  rw [n4]
  exact ⟨⟨_, S.zip, rfl⟩, h _ S k⟩
/-! as an iteration -/
def ItM (K : PySem.W.Frag) (a b : Addr) : It :=
  ⟨fun i H => ∃ (us vs : List V) (u v : V), SqT K H a us ∧ SqL K H b vs ∧ us[i]? = some u ∧ vs[i]? = some v,
   fun i H r H2 => ∃ t u v, r = .ref t ∧ H t = none ∧ H2 = upd H t (.tup [u, v]) ∧ (∀ us, SqT K H a us → us[i]? = some u) ∧ ∀ vs, SqL K H b vs → vs[i]? = some v,
   fun i H => ∃ us vs : List V, SqT K H a us ∧ SqL K H b vs ∧ (us.length ≤ i ∨ vs.length ≤ i)⟩
theorem turnM {P : Program} {w : World} {K : PySem.W.Frag} {es : List Expr} {k : Nat} {p : Pos} {a b z TI TO ia ib : Addr} (D : ZipApart z TI TO ia ib a b) :
    Turn P w K (.Tuple es k p) (ItM K a b) [z, TI, TO, ia, ib] z (fun i h => ZipSt h z TI TO ia ib a b i) where
  mem := by simp
  obj := fun i h st c hc => st.lt hc
  keep := fun i h h2 st k => by
    obtain ⟨x, y, ho⟩ := st.out
    exact ⟨k z (by simp) _ st.zip, k TI (by simp) _ st.its, ⟨x, y, k TO (by simp) _ ho⟩, st.fst.at fun o e => k ia (by simp) o e, st.snd.at fun o e => k ib (by simp) o e⟩
  item := by
    rintro X rfl rfl rfl calm i pins s σ H E I free st ⟨us, vs, u, v, ea, eb, eu, ev⟩
    obtain ⟨as, ra, pa, _⟩ := I.tuple ea
    obtain ⟨bs, rb, pb, _⟩ := I.list eb
    obtain ⟨u2, hu, ru⟩ := ra.get eu
    obtain ⟨v2, hv, rv⟩ := rb.get ev
    obtain ⟨x0, y0, hO⟩ := st.out
    have zlt : z < s.heap.objs.size := Heap.lt_size st.zip
    refine nextM_step D st (show s.heap.IsTuple a as.toArray from pa) pb.isList (u := u2) (v := v2) (by simpa using hu) (by simpa using hv) ?_
    intro h2 Z2 O2 c1 c2 T2 keep
    refine ⟨_, rfl, ?_⟩
    apply wpAny_letOwnedTupleGo_zip (s := { s with heap := h2 }) Z2
    intro h3 Z3 sb
    have T3 : h3.get? s.heap.objs.size = some { cls := .type "tuple", data := .seq #[u2, v2] } := (sb.2 _ (Nat.ne_of_gt zlt)).trans T2
    have I1 : Inv X pins σ (upd H s.heap.objs.size (.tup [u, v])) { s with heap := h3 } := by
      refine I.turnedNew (t' := s.toks) (ch := [z, TI, TO, ia, ib]) ?_ free (Nat.le_refl _) ⟨by show 2 ≤ sizeLine; decide, [u2, v2], .cons ru (.cons rv .nil), ⟨_, T3, rfl, _, rfl⟩⟩
      intro c o hc e
      simp only [List.mem_cons, List.not_mem_nil, or_false, not_or] at hc
      exact (sb.2 c hc.1).trans (keep c o hc.1 hc.2.2.1 hc.2.2.2.1 hc.2.2.2.2 e)
    refine ⟨.ref s.heap.objs.size, _, I1, rfl, ⟨_, u, v, rfl, I.hok.fresh (Nat.le_refl _), rfl, ?_, ?_⟩, ⟨Z3, ?_, ⟨u2, v2, ?_⟩, ?_, ?_⟩, ?_⟩
    · intro l hl; rw [I.tuple_inj hl ea]; exact eu
    · intro l hl; rw [I.list_inj hl eb]; exact ev
    · exact (sb.2 _ D.TIz).trans (keep _ _ D.TIz D.TITO D.TIi1 D.TIi2 st.its)
    · exact (sb.2 _ D.TOz).trans O2
    · exact c1.at fun o e => (sb.2 _ D.i1z).trans e
    · exact c2.at fun o e => (sb.2 _ D.i2z).trans e
    · intro c hc
      obtain ⟨o, e, _⟩ := st.lt hc
      rw [upd_ne (Nat.ne_of_lt (Heap.lt_size e))]
      exact (free c hc).1
  done := by
    rintro X rfl rfl rfl calm i pins s σ H E I free st ⟨us, vs, ea, eb, over⟩
    obtain ⟨as, ra, pa, _⟩ := I.tuple ea
    obtain ⟨bs, rb, pb, _⟩ := I.list eb
    have n1 := ra.length
    have n2 := rb.length
    refine nextM_stop (I.ok.hd calm) D st (show s.heap.IsTuple a as.toArray from pa) pb.isList ?_ ?_
    · rcases over with h | h
      · left; simp; omega
      · right; simp; omega
    · intro h2 keep
      refine ⟨rfl, I.turnedL (t' := s.toks) (ch := [z, TI, TO, ia, ib]) ?_ free⟩
      intro c o hc e
      simp only [List.mem_cons, List.not_mem_nil, or_false, not_or] at hc
      exact keep c o hc.1 hc.2.2.1 hc.2.2.2.1 hc.2.2.2.2 e
  self := fun A i s Q E st h => wpAny_pyIter_zip st.zip h
def iZipM (K : PySem.W.Frag) (ta : TA) : TI := fun σ H R => ta σ H fun vs H1 => ∃ a b us ws, vs = [.ref a, .ref b] ∧ SqT K H1 a us ∧ SqL K H1 b ws ∧ R (ItM K a b) H1
theorem pi_zipM {X : Cx} {e f : Expr} {ta : TA} {p pos tp : Pos} {es : List Expr} {k : Nat} (hg : Gl X "zip") (hm : X.mg "zip" = none) (ha : PA X [e, f] ta)
    (hs : starEach [e, f] X.env = (false, eval e X.env) :: starEach [f] X.env := by rfl) (hp : (backTo pos (starEach [f] X.env)).any (·.1) = false := by rfl) :
    PI X (.Tuple es k tp) (.Call (.Name "zip" p) [e, f] [] pos) (iZipM X.K ta) := by
  constructor
  intro pins s σ H R I h
  refine Call_ (ld_blt I hg hm PyProof.Rows.boot_zip (PyProof.Rows.callWith_type1 (thn (ha.run pos pins s σ H _ I h) ?_) hs hp))
  rintro us s1 ⟨vs, H1, I1, r1, a, b, xs, ys, rfl, ea, eb, q⟩
  obtain ⟨x1, x2, rfl, rx, ry⟩ := Vals.two r1
  cases (show x1 = Value.ref a from rx)
  cases (show x2 = Value.ref b from ry)
  obtain ⟨as, ra, pa, _⟩ := I1.tuple ea
  obtain ⟨bs, rb, pb, _⟩ := I1.list eb
  obtain ⟨o1, ho1, _⟩ := id pa
  refine run_zipM (show s1.heap.IsTuple a as.toArray from pa) pb.isList ?_
  intro h2 S k
  apply wpAny_pyIter_zip S.zip
  refine ⟨s1.heap.objs.size + 4, [s1.heap.objs.size + 4, s1.heap.objs.size + 2, s1.heap.objs.size + 3, s1.heap.objs.size, s1.heap.objs.size + 1], _, _, H1, rfl, I1.kept (t' := s1.toks) k, turnM (PySem.W.ktu_apart s1.heap.objs.size a b (Heap.lt_size ho1) pb.lt), S, ?_, q⟩
  intro c hc
  have le : s1.heap.objs.size ≤ c := by
    simp only [List.mem_cons, List.not_mem_nil, or_false] at hc
    rcases hc with h | h | h | h | h <;> (rw [h]; first | exact Nat.le_refl _ | exact Nat.le_add_right _ _)
  exact I1.fpOk le (I1.hok.fresh le)
theorem for_zipM {K : PySem.W.Frag} {a b : Addr} {us vs : List V} {g : TG} {tb : TS} {D : Ends} {σ : L2.St} {H : Hp} (same : us.length = vs.length) (Pv : Nat → L2.St → Hp → Prop) (h0 : Pv 0 σ H) (hq : ∀ i σ H, Pv i σ H → SqT K H a us ∧ SqL K H b vs)
    (hs : ∀ (i : Nat) (u v : V) (t : Addr) (σ : L2.St) (H : Hp), us[i]? = some u → vs[i]? = some v → Pv i σ H → H t = none → g (.ref t) σ (upd H t (.tup [u, v])) fun τ H2 => tb { D with nx := Pv (i + 1), ct := Pv (i + 1), bk := D.nx } τ H2) (hd : ∀ σ H, Pv us.length σ H → D.nx σ H) :
    ∃ W : Nat → Nat → L2.St → Hp → Prop, (∃ m, W 0 m σ H) ∧ ∀ i m σ H, W i m σ H →
      ((ItM K a b).stop i H ∧ D.nx σ H) ∨ ((ItM K a b).go i H ∧ ∃ N : L2.St → Hp → Prop, (∀ τ H2, N τ H2 → ∃ m2, m2 < m ∧ W (i + 1) m2 τ H2) ∧ ∀ r H2, (ItM K a b).yld i H r H2 → g r σ H2 fun τ H3 => tb { D with nx := N, ct := N, bk := D.nx } τ H3) := by
  refine ⟨fun i m σ H => m = us.length - i ∧ i ≤ us.length ∧ Pv i σ H, ⟨_, rfl, Nat.zero_le _, h0⟩, ?_⟩
  rintro i m σ H ⟨rfl, le, p⟩
  obtain ⟨qa, qb⟩ := hq i σ H p
  by_cases lt : i < us.length
  · have lt2 : i < vs.length := same ▸ lt
    refine .inr ⟨⟨us, vs, us[i], vs[i], qa, qb, List.getElem?_eq_getElem lt, List.getElem?_eq_getElem lt2⟩, Pv (i + 1), fun τ H2 p2 => ⟨us.length - (i + 1), by omega, rfl, lt, p2⟩, ?_⟩
    rintro _ _ ⟨t, u, v, rfl, ht, rfl, eu, ev⟩
    exact hs i u v t σ H (eu us qa) (ev vs qb) p ht
  · have e : i = us.length := by omega
    subst e
    exact .inl ⟨⟨us, vs, qa, qb, .inl (Nat.le_refl _)⟩, hd σ H p⟩
/-! readings for classes -/
section
variable {K : PySem.W.Frag} {H : Hp} {Q : VK} {σ : L2.St} {D : Ends}
theorem x_sFld {ta tv : TE} {f : Str} (h : tv σ H fun y H1 => ta σ H1 fun x H2 => ∃ a C dx fs, x = .ref a ∧ H2 a = some (.ins C dx fs) ∧ Cls K C ∧ NoAttr K C f ∧ fs.length < 1000 ∧ D.nx σ (upd H2 a (.ins C dx (putF f y fs)))) : sFld K ta tv f D σ H := h
theorem x_sAt {a C dx : Addr} {fs : List (Str × V)} {f : Str} {Z : Addr → Addr → Addr → List (Str × V) → Prop} (ha : H a = some (.ins C dx fs)) (c : Cls K C) (n : NoAttr K C f) (l : fs.length < 1000) (h : Z a C dx fs) :
    ∃ a' C dx fs, V.ref a = .ref a' ∧ H a' = some (.ins C dx fs) ∧ Cls K C ∧ NoAttr K C f ∧ fs.length < 1000 ∧ Z a' C dx fs := ⟨a, C, dx, fs, rfl, ha, c, n, l, h⟩
theorem x_tFld {ta : TE} {f : Str} (h : ta σ H fun x H1 => ∃ a C dx fs v, x = .ref a ∧ H1 a = some (.ins C dx fs) ∧ Cls K C ∧ NoAttr K C f ∧ fs.lookup f = some v ∧ Q v H1) : tFld K ta f σ H Q := h
theorem x_gAt {a C dx : Addr} {fs : List (Str × V)} {f : Str} {v : V} {Z : V → Prop} (ha : H a = some (.ins C dx fs)) (c : Cls K C) (n : NoAttr K C f) (l : fs.lookup f = some v) (h : Z v) :
    ∃ a' C dx fs v, V.ref a = .ref a' ∧ H a' = some (.ins C dx fs) ∧ Cls K C ∧ NoAttr K C f ∧ fs.lookup f = some v ∧ Z v := ⟨a, C, dx, fs, v, rfl, ha, c, n, l, h⟩
theorem x_meth {C : Addr} {m : Str} {sp : Sp} {E : XK} {ta : TE} {t : TA} (h : ta σ H fun x H1 => ∃ a dx fs, x = .ref a ∧ H1 a = some (.ins C dx fs) ∧ fs.lookup m = none ∧ t σ H1 fun vs H2 => sp (x :: (vs ++ [])) H2 Q E) : tMeth C m sp [] E ta t σ H Q := h
theorem x_mAt {a C dx : Addr} {fs : List (Str × V)} {m : Str} {Z : Prop} (ha : H a = some (.ins C dx fs)) (l : fs.lookup m = none) (h : Z) : ∃ a' dx fs, V.ref a = .ref a' ∧ H a' = some (.ins C dx fs) ∧ fs.lookup m = none ∧ Z := ⟨a, dx, fs, rfl, ha, l, h⟩
theorem x_make {C : Addr} {sp : Sp} {E : XK} {t : TA} (h : t σ H fun vs H1 => ∀ x dx, H1 x = none → H1 dx = none → dx ≠ x → sp (.ref x :: (vs ++ [])) (upd (upd H1 dx (.own x)) x (.ins C dx [])) (fun v H2 => v = .non ∧ Q (.ref x) H2) E) : tMake C sp [] E t σ H Q := h
theorem x_dcT {wi : TI} {g : TG} {tt : TT} {tk tv : TE} {vs : List Nat} (h : wi σ H fun J H1 => ∀ L, H1 L = none → ∃ W : Nat → Nat → Hp → Prop, (∃ m, W 0 m (upd H1 L (.dT []))) ∧ ∀ i m H2, W i m H2 →
    (J.stop i H2 ∧ Q (.ref L) H2) ∨ (J.go i H2 ∧ ∃ N : Hp → Prop, (∀ H3, N H3 → ∃ m3, m3 < m ∧ W (i + 1) m3 H3) ∧ ∀ x H3, J.yld i H2 x H3 →
      g x (wipe σ vs) H3 fun τ H4 => wipe τ vs = wipe σ vs ∧ tt τ H4 fun b H5 => if b = true then tk τ H5 fun y H6 => tv τ H6 fun z H7 =>
        ∃ kvs k b, y = .ref b ∧ H7 L = some (.dT kvs) ∧ H7 b = some (.tup (k.map kV)) ∧ kvs.length < sizeLine ∧ N (upd H7 L (.dT (putK kvs k z))) else N H5)) : tDcT wi g tt tk tv vs σ H Q := h
theorem x_en {ta : TA} {R : It → Hp → Prop} (h : ta σ H fun vs H1 => ∃ a xs, vs = [.ref a] ∧ SqL K H1 a xs ∧ R (Ite K a) H1) : iEnum K ta σ H R := h
theorem x_enL {p : Addr} {xs : List V} {Z : Addr → Prop} (hp : SqL K H p xs) (h : Z p) : ∃ a xs, [V.ref p] = [.ref a] ∧ SqL K H a xs ∧ Z a := ⟨p, xs, rfl, hp, h⟩
theorem x_zM {ta : TA} {R : It → Hp → Prop} (h : ta σ H fun vs H1 => ∃ a b us ws, vs = [.ref a, .ref b] ∧ SqT K H1 a us ∧ SqL K H1 b ws ∧ R (ItM K a b) H1) : iZipM K ta σ H R := h
theorem x_zAt {p q : Addr} {us ws : List V} {Z : Addr → Addr → Prop} (hp : SqT K H p us) (hq : SqL K H q ws) (h : Z p q) : ∃ a b us ws, [V.ref p, .ref q] = [.ref a, .ref b] ∧ SqT K H a us ∧ SqL K H b ws ∧ Z a b := ⟨p, q, us, ws, rfl, hp, hq, h⟩
/-- a dict comprehension over enumerate of a list that it leaves as it is -/
theorem dct_enum {a : Addr} {xs : List V} {g : TG} {tt : TT} {tk tv : TE} {vs : List Nat} {H1 : Hp} {L : Addr} {Qd : Hp → Prop} (Pv : Nat → Hp → Prop) (h0 : Pv 0 (upd H1 L (.dT [])))
    (hl : ∀ i H, i ≤ xs.length → Pv i H → SqL K H a xs)
    (hs : ∀ i x t H, xs[i]? = some x → Pv i H → H t = none → g (.ref t) (wipe σ vs) (upd H t (.tup [.int (i : Nat), x])) fun τ H4 => wipe τ vs = wipe σ vs ∧ tt τ H4 fun b H5 => if b = true then tk τ H5 fun y H6 => tv τ H6 fun z H7 =>
      ∃ kvs k b, y = .ref b ∧ H7 L = some (.dT kvs) ∧ H7 b = some (.tup (k.map kV)) ∧ kvs.length < sizeLine ∧ Pv (i + 1) (upd H7 L (.dT (putK kvs k z))) else Pv (i + 1) H5) (hd : ∀ H, Pv xs.length H → Qd H) :
    ∃ W : Nat → Nat → Hp → Prop, (∃ m, W 0 m (upd H1 L (.dT []))) ∧ ∀ i m H2, W i m H2 →
    ((Ite K a).stop i H2 ∧ Qd H2) ∨ ((Ite K a).go i H2 ∧ ∃ N : Hp → Prop, (∀ H3, N H3 → ∃ m3, m3 < m ∧ W (i + 1) m3 H3) ∧ ∀ x H3, (Ite K a).yld i H2 x H3 →
      g x (wipe σ vs) H3 fun τ H4 => wipe τ vs = wipe σ vs ∧ tt τ H4 fun b H5 => if b = true then tk τ H5 fun y H6 => tv τ H6 fun z H7 =>
        ∃ kvs k b, y = .ref b ∧ H7 L = some (.dT kvs) ∧ H7 b = some (.tup (k.map kV)) ∧ kvs.length < sizeLine ∧ N (upd H7 L (.dT (putK kvs k z))) else N H5) := by
  refine ⟨fun i m H => m = xs.length - i ∧ i ≤ xs.length ∧ Pv i H, ⟨_, rfl, Nat.zero_le _, h0⟩, ?_⟩
  rintro i m H ⟨rfl, le, p⟩
  have q := hl i H le p
  by_cases lt : i < xs.length
  · refine .inr ⟨⟨xs, xs[i], q, List.getElem?_eq_getElem lt⟩, Pv (i + 1), fun H2 p2 => ⟨xs.length - (i + 1), by omega, rfl, lt, p2⟩, ?_⟩
    rintro _ _ ⟨t, x, rfl, ht, rfl, ex⟩
    exact hs i x t H (ex xs q) p ht
  · have e : i = xs.length := by omega
    subst e
    exact .inl ⟨⟨xs, q, Nat.le_refl _⟩, hd H p⟩
end
section
variable {X : Cx} {es : List Expr} {k : Nat} {t : TGs} {n : Nat} {pos : Pos}
/-- unpacking, where X isn't known ahead (in a comprehension) -/
theorem pg_tupK (K : PySem.W.Frag) (h : PGs X es t) (hK : X.K = K := by rfl) (hc : X.calm = true := by rfl)
    (hn : (assignEach es X.env).length = n := by rfl) (hst : (assignEach es X.env).findIdx? (·.1) = none := by rfl) : PG X (.Tuple es k pos) (gTup K n t) := by
  subst hK
  exact pg_tup hc h hn hst
end
section
variable {K : PySem.W.Frag} {H : Hp} {Q : VK} {σ : L2.St}
theorem x_zL {ta : TA} {R : It → Hp → Prop} (h : ta σ H fun vs H1 => ∃ a b us ws, vs = [.ref a, .ref b] ∧ SqL K H1 a us ∧ SqL K H1 b ws ∧ R (Itz K a b) H1) : iZip K ta σ H R := h
theorem x_zLAt {p q : Addr} {us ws : List V} {Z : Addr → Addr → Prop} (hp : SqL K H p us) (hq : SqL K H q ws) (h : Z p q) : ∃ a b us ws, [V.ref p, .ref q] = [.ref a, .ref b] ∧ SqL K H a us ∧ SqL K H b ws ∧ Z a b := ⟨p, q, us, ws, rfl, hp, hq, h⟩
theorem x_int2 {i j : Int} {Z : Int → Int → Prop} (h : Z i j) : ∃ a b, [V.int i, V.int j] = [.int a, .int b] ∧ Z a b := ⟨i, j, rfl, h⟩
theorem x_orT {ta tb : TE} (h : ta σ H fun x H1 => ∃ k, TruV K x H1 k ∧ if k = true then Q x H1 else tb σ H1 Q) : tOrT K ta tb σ H Q := h
theorem x_isB {a b : Bool} (h : Q (.bl (decide (a = b))) H) : rIsB (.bl a) (.bl b) H Q := ⟨a, b, rfl, rfl, h⟩
theorem ixN_of {n : Nat} {i : Int} (h0 : 0 ≤ i) (h1 : i < n) : ixN n i = some i.toNat := by
  unfold ixN
  rw [if_pos h0, if_pos h1]
theorem at_map {hs : List Int} {i : Int} (h0 : 0 ≤ i) (h1 : i < hs.length) : ∃ v, hs[i.toNat]? = some v ∧ atI (hs.map V.int) i = some (.int v) := by
  have lt : i.toNat < hs.length := by omega
  refine ⟨hs[i.toNat], List.getElem?_eq_getElem lt, ?_⟩
  unfold atI
  rw [ixN_of h0 (by rw [List.length_map]; exact h1)]
  simp [lt]
end
/-! zip of a list or a tuple with a list; dict.get by a tuple. -/
/-- the first is a tuple (true) or a list -/
def SqX (b : Bool) (K : PySem.W.Frag) (H : Hp) (a : Addr) (xs : List V) : Prop := if b = true then SqT K H a xs else SqL K H a xs
def ItX (b : Bool) (K : PySem.W.Frag) (p q : Addr) : It := if b = true then ItM K p q else Itz K p q
def iZipX (K : PySem.W.Frag) (ta : TA) : TI := fun σ H R => ta σ H fun vs H1 => ∃ (k : Bool) (a b : Addr) (us ws : List V), vs = [.ref a, .ref b] ∧ SqX k K H1 a us ∧ SqL K H1 b ws ∧ R (ItX k K a b) H1
theorem pi_zipX {X : Cx} {e f : Expr} {ta : TA} {p pos tp : Pos} {es : List Expr} {k : Nat} (hg : Gl X "zip") (hm : X.mg "zip" = none) (ha : PA X [e, f] ta)
    (hs : starEach [e, f] X.env = (false, eval e X.env) :: starEach [f] X.env := by rfl) (hp : (backTo pos (starEach [f] X.env)).any (·.1) = false := by rfl) :
    PI X (.Tuple es k tp) (.Call (.Name "zip" p) [e, f] [] pos) (iZipX X.K ta) := by
  constructor
  intro pins s σ H R I h
  refine Call_ (ld_blt I hg hm PyProof.Rows.boot_zip (PyProof.Rows.callWith_type1 (thn (ha.run pos pins s σ H _ I h) ?_) hs hp))
  rintro us s1 ⟨vs, H1, I1, r1, kk, a, b, xs, ys, rfl, ea, eb, q⟩
  obtain ⟨x1, x2, rfl, rx, ry⟩ := Vals.two r1
  cases (show x1 = Value.ref a from rx)
  cases (show x2 = Value.ref b from ry)
  have out : ∀ c ∈ [s1.heap.objs.size + 4, s1.heap.objs.size + 2, s1.heap.objs.size + 3, s1.heap.objs.size, s1.heap.objs.size + 1], FpOk X pins H1 c := by
    intro c hc
    have le : s1.heap.objs.size ≤ c := by
      simp only [List.mem_cons, List.not_mem_nil, or_false] at hc
      rcases hc with h | h | h | h | h <;> (rw [h]; first | exact Nat.le_refl _ | exact Nat.le_add_right _ _)
    exact I1.fpOk le (I1.hok.fresh le)
  obtain ⟨bs, rb, pb, _⟩ := I1.list eb
  cases kk with
  | true =>
    obtain ⟨as, ra, pa, _⟩ := I1.tuple (show SqT X.K H1 a xs from ea)
    obtain ⟨o1, ho1, _⟩ := id pa
    refine run_zipM (show s1.heap.IsTuple a as.toArray from pa) pb.isList ?_
    intro h2 S k
    apply wpAny_pyIter_zip S.zip
    exact ⟨s1.heap.objs.size + 4, [s1.heap.objs.size + 4, s1.heap.objs.size + 2, s1.heap.objs.size + 3, s1.heap.objs.size, s1.heap.objs.size + 1], _, _, H1, rfl, I1.kept (t' := s1.toks) k, turnM (PySem.W.ktu_apart s1.heap.objs.size a b (Heap.lt_size ho1) pb.lt), S, out, q⟩
  | false =>
    obtain ⟨as, ra, pa, _⟩ := I1.list (show SqL X.K H1 a xs from ea)
    refine call_zip_2 pa.isList pb.isList ?_
    intro h2 hz hTI hTO h1' h2' hsz hk
    apply wpAny_pyIter_zip hz
    exact ⟨s1.heap.objs.size + 4, [s1.heap.objs.size + 4, s1.heap.objs.size + 2, s1.heap.objs.size + 3, s1.heap.objs.size, s1.heap.objs.size + 1], _, _, H1, rfl, I1.kept (t' := s1.toks) hk, turn_zip (PySem.W.ktu_apart s1.heap.objs.size a b pa.lt pb.lt), ⟨hz, hTI, ⟨_, _, hTO⟩, h1', h2'⟩, out, q⟩
theorem for_zipX {K : PySem.W.Frag} {k : Bool} {a b : Addr} {us vs : List V} {g : TG} {tb : TS} {D : Ends} {σ : L2.St} {H : Hp} (same : us.length = vs.length) (Pv : Nat → L2.St → Hp → Prop) (h0 : Pv 0 σ H) (hq : ∀ i σ H, Pv i σ H → SqX k K H a us ∧ SqL K H b vs)
    (hs : ∀ (i : Nat) (u v : V) (t : Addr) (σ : L2.St) (H : Hp), us[i]? = some u → vs[i]? = some v → Pv i σ H → H t = none → g (.ref t) σ (upd H t (.tup [u, v])) fun τ H2 => tb { D with nx := Pv (i + 1), ct := Pv (i + 1), bk := D.nx } τ H2) (hd : ∀ σ H, Pv us.length σ H → D.nx σ H) :
    ∃ W : Nat → Nat → L2.St → Hp → Prop, (∃ m, W 0 m σ H) ∧ ∀ i m σ H, W i m σ H →
      ((ItX k K a b).stop i H ∧ D.nx σ H) ∨ ((ItX k K a b).go i H ∧ ∃ N : L2.St → Hp → Prop, (∀ τ H2, N τ H2 → ∃ m2, m2 < m ∧ W (i + 1) m2 τ H2) ∧ ∀ r H2, (ItX k K a b).yld i H r H2 → g r σ H2 fun τ H3 => tb { D with nx := N, ct := N, bk := D.nx } τ H3) := by
  cases k with
  | true => exact for_zipM (K := K) same Pv h0 hq hs hd
  | false => exact RZ.for_zipL (K := K) same Pv h0 hq hs hd
section
variable {K : PySem.W.Frag} {H : Hp} {Q : VK} {σ : L2.St}
theorem x_zX {ta : TA} {R : It → Hp → Prop} (h : ta σ H fun vs H1 => ∃ (k : Bool) (a b : Addr) (us ws : List V), vs = [.ref a, .ref b] ∧ SqX k K H1 a us ∧ SqL K H1 b ws ∧ R (ItX k K a b) H1) : iZipX K ta σ H R := h
end
/-! dict.get -/
theorem units1 {A : Around} (h : A.units + 64 < cLine) : A.units + 1 < cLine := by omega
theorem x_dg1 {td ty : TE} {σ : L2.St} {H : Hp} {Q : VK} (h : td σ H fun x H1 => ∃ a, x = .ref a ∧ IsD H1 a ∧ ty σ H1 fun y H2 => ∃ o, DGet H2 a y o ∧ Q (o.getD .non) H2) : tDGet1 td ty σ H Q := h
theorem x_dnewT {H : Hp} {Q : VK} {σ : L2.St} (h : ∀ p, H p = none → Q (.ref p) (upd H p (.dT []))) : tDNewT σ H Q := h
/-- a loop over enumerate of a list that the body leaves as it is -/
theorem for_enum {K : PySem.W.Frag} {a : Addr} {xs : List V} {g : TG} {tb : TS} {D : Ends} {σ : L2.St} {H : Hp} (Pv : Nat → L2.St → Hp → Prop) (h0 : Pv 0 σ H) (hl : ∀ i σ H, i ≤ xs.length → Pv i σ H → SqL K H a xs)
    (hs : ∀ (i : Nat) (x : V) (t : Addr) (σ : L2.St) (H : Hp), xs[i]? = some x → Pv i σ H → H t = none → g (.ref t) σ (upd H t (.tup [.int (i : Nat), x])) fun τ H2 => tb { D with nx := Pv (i + 1), ct := Pv (i + 1), bk := D.nx } τ H2) (hd : ∀ σ H, Pv xs.length σ H → D.nx σ H) :
    ∃ W : Nat → Nat → L2.St → Hp → Prop, (∃ m, W 0 m σ H) ∧ ∀ i m σ H, W i m σ H →
      ((Ite K a).stop i H ∧ D.nx σ H) ∨ ((Ite K a).go i H ∧ ∃ N : L2.St → Hp → Prop, (∀ τ H2, N τ H2 → ∃ m2, m2 < m ∧ W (i + 1) m2 τ H2) ∧ ∀ r H2, (Ite K a).yld i H r H2 → g r σ H2 fun τ H3 => tb { D with nx := N, ct := N, bk := D.nx } τ H3) := by
  refine ⟨fun i m σ H => m = xs.length - i ∧ i ≤ xs.length ∧ Pv i σ H, ⟨_, rfl, Nat.zero_le _, h0⟩, ?_⟩
  rintro i m σ H ⟨rfl, le, p⟩
  have q := hl i σ H le p
  by_cases lt : i < xs.length
  · refine .inr ⟨⟨xs, xs[i], q, List.getElem?_eq_getElem lt⟩, Pv (i + 1), fun τ H2 p2 => ⟨xs.length - (i + 1), by omega, rfl, lt, p2⟩, ?_⟩
    rintro _ _ ⟨t, x, rfl, ht, rfl, ex⟩
    exact hs i x t σ H (ex xs q) p ht
  · have e : i = xs.length := by omega
    subst e
    exact .inl ⟨⟨xs, q, Nat.le_refl _⟩, hd σ H p⟩
def topS (i : Nat) : Stmt := PySem.Challenge.pw_leadswitch_k17_leads_known.main.body.getD i (.Pass ⟨0, 0, 0, 0⟩)
abbrev s__wall : Stmt := topS 0
theorem sc__wall : FnScope ["k"] ["k"] (defScope s__wall) := ⟨rfl, rfl, rfl, by decide +kernel, rfl, by decide +kernel, by decide +kernel⟩
abbrev s_is_integer : Stmt := topS 7
theorem sc_is_integer : FnScope ["thing"] ["thing"] (defScope s_is_integer) := ⟨rfl, rfl, rfl, by decide +kernel, rfl, by decide +kernel, by decide +kernel⟩
abbrev s_is_amount : Stmt := topS 8
theorem sc_is_amount : FnScope ["thing"] ["thing"] (defScope s_is_amount) := ⟨rfl, rfl, rfl, by decide +kernel, rfl, by decide +kernel, by decide +kernel⟩
abbrev s_is_count : Stmt := topS 9
theorem sc_is_count : FnScope ["thing"] ["thing"] (defScope s_is_count) := ⟨rfl, rfl, rfl, by decide +kernel, rfl, by decide +kernel, by decide +kernel⟩
abbrev s_is_broker : Stmt := topS 10
theorem sc_is_broker : FnScope ["thing", "size"] ["thing", "size"] (defScope s_is_broker) := ⟨rfl, rfl, rfl, by decide +kernel, rfl, by decide +kernel, by decide +kernel⟩
abbrev s_are_bounds : Stmt := topS 11
theorem sc_are_bounds : FnScope ["thing", "row"] ["thing"] (defScope s_are_bounds) := ⟨rfl, rfl, rfl, by decide +kernel, rfl, by decide +kernel, by decide +kernel⟩
abbrev s__is_bound : Stmt := topS 12
theorem sc__is_bound : FnScope ["thing", "floor", "ceiling"] ["thing"] (defScope s__is_bound) := ⟨rfl, rfl, rfl, by decide +kernel, rfl, by decide +kernel, by decide +kernel⟩
abbrev s_are_bundles : Stmt := topS 13
theorem sc_are_bundles : FnScope ["thing", "size", "row"] ["thing", "size"] (defScope s_are_bundles) := ⟨rfl, rfl, rfl, by decide +kernel, rfl, by decide +kernel, by decide +kernel⟩
abbrev s__is_bundle : Stmt := topS 14
theorem sc__is_bundle : FnScope ["thing", "size", "first", "second", "partitions"] ["thing", "size"] (defScope s__is_bundle) := ⟨rfl, rfl, rfl, by decide +kernel, rfl, by decide +kernel, by decide +kernel⟩
abbrev s_are_leads : Stmt := topS 16
theorem sc_are_leads : FnScope ["cluster", "thing", "number", "row"] ["cluster", "thing"] (defScope s_are_leads) := ⟨rfl, rfl, rfl, by decide +kernel, rfl, by decide +kernel, by decide +kernel⟩
abbrev s_Wrong_init : Stmt := inClass (topS 19) 0
theorem sc_Wrong_init : FnScope ["self", "place"] ["self", "place"] (defScope s_Wrong_init) := ⟨rfl, rfl, rfl, by decide +kernel, rfl, by decide +kernel, by decide +kernel⟩
abbrev s_Cluster_init : Stmt := inClass (topS 21) 0
theorem sc_Cluster_init : FnScope ["self", "bounds", "bundles"] ["self", "bounds", "bundles"] (defScope s_Cluster_init) := ⟨rfl, rfl, rfl, by decide +kernel, rfl, by decide +kernel, by decide +kernel⟩
abbrev s_Clusterkeep : Stmt := inClass (topS 21) 1
theorem sc_Clusterkeep : FnScope ["self", "bounds", "bundles", "at", "first", "second", "_"] ["self", "bounds", "bundles"] (defScope s_Clusterkeep) := ⟨rfl, rfl, rfl, by decide +kernel, rfl, by decide +kernel, by decide +kernel⟩
abbrev s_Clusterchanged : Stmt := inClass (topS 21) 2
theorem sc_Clusterchanged : FnScope ["self", "bounds", "bundles"] ["self", "bounds", "bundles"] (defScope s_Clusterchanged) := ⟨rfl, rfl, rfl, by decide +kernel, rfl, by decide +kernel, by decide +kernel⟩
abbrev s_Cluster_eq : Stmt := inClass (topS 21) 3
theorem sc_Cluster_eq : FnScope ["self", "other"] ["self", "other"] (defScope s_Cluster_eq) := ⟨rfl, rfl, rfl, by decide +kernel, rfl, by decide +kernel, by decide +kernel⟩
abbrev s_Cluster_len : Stmt := inClass (topS 21) 4
theorem sc_Cluster_len : FnScope ["self"] ["self"] (defScope s_Cluster_len) := ⟨rfl, rfl, rfl, by decide +kernel, rfl, by decide +kernel, by decide +kernel⟩
abbrev s_Cluster_size : Stmt := inClass (topS 21) 5
theorem sc_Cluster_size : FnScope ["self"] ["self"] (defScope s_Cluster_size) := ⟨rfl, rfl, rfl, by decide +kernel, rfl, by decide +kernel, by decide +kernel⟩
abbrev s_Cluster_bounds : Stmt := inClass (topS 21) 6
theorem sc_Cluster_bounds : FnScope ["self"] ["self"] (defScope s_Cluster_bounds) := ⟨rfl, rfl, rfl, by decide +kernel, rfl, by decide +kernel, by decide +kernel⟩
abbrev s_Cluster_bundles : Stmt := inClass (topS 21) 7
theorem sc_Cluster_bundles : FnScope ["self"] ["self"] (defScope s_Cluster_bundles) := ⟨rfl, rfl, rfl, by decide +kernel, rfl, by decide +kernel, by decide +kernel⟩
abbrev s_Cluster_floor : Stmt := inClass (topS 21) 8
theorem sc_Cluster_floor : FnScope ["self", "broker"] ["self", "broker"] (defScope s_Cluster_floor) := ⟨rfl, rfl, rfl, by decide +kernel, rfl, by decide +kernel, by decide +kernel⟩
abbrev s_Cluster_ceiling : Stmt := inClass (topS 21) 9
theorem sc_Cluster_ceiling : FnScope ["self", "broker"] ["self", "broker"] (defScope s_Cluster_ceiling) := ⟨rfl, rfl, rfl, by decide +kernel, rfl, by decide +kernel, by decide +kernel⟩
abbrev s_Cluster_is_rigid : Stmt := inClass (topS 21) 10
theorem sc_Cluster_is_rigid : FnScope ["self", "broker"] ["self", "broker"] (defScope s_Cluster_is_rigid) := ⟨rfl, rfl, rfl, by decide +kernel, rfl, by decide +kernel, by decide +kernel⟩
abbrev s_Cluster_bundle_of : Stmt := inClass (topS 21) 11
theorem sc_Cluster_bundle_of : FnScope ["self", "one", "other"] ["self", "one", "other"] (defScope s_Cluster_bundle_of) := ⟨rfl, rfl, rfl, by decide +kernel, rfl, by decide +kernel, by decide +kernel⟩
abbrev s_Cluster_pairs : Stmt := inClass (topS 21) 12
theorem sc_Cluster_pairs : FnScope ["self"] ["self"] (defScope s_Cluster_pairs) := ⟨rfl, rfl, rfl, by decide +kernel, rfl, by decide +kernel, by decide +kernel⟩
abbrev s_Cluster_bounded : Stmt := inClass (topS 21) 13
theorem sc_Cluster_bounded : FnScope ["self", "broker", "floor", "ceiling"] ["self", "broker", "floor", "ceiling"] (defScope s_Cluster_bounded) := ⟨rfl, rfl, rfl, by decide +kernel, rfl, by decide +kernel, by decide +kernel⟩
abbrev s_Cluster_grown : Stmt := inClass (topS 21) 14
theorem sc_Cluster_grown : FnScope ["self", "one", "other", "many"] ["self", "one", "other", "many"] (defScope s_Cluster_grown) := ⟨rfl, rfl, rfl, by decide +kernel, rfl, by decide +kernel, by decide +kernel⟩
abbrev s_Cluster_shrunk : Stmt := inClass (topS 21) 15
theorem sc_Cluster_shrunk : FnScope ["self", "one", "other", "many"] ["self", "one", "other", "many"] (defScope s_Cluster_shrunk) := ⟨rfl, rfl, rfl, by decide +kernel, rfl, by decide +kernel, by decide +kernel⟩
abbrev s_Lbag : Stmt := topS 23
theorem sc_Lbag : FnScope ["_law_script", "_law_cell"] ["_law_script"] (defScope s_Lbag) := ⟨rfl, rfl, rfl, by decide +kernel, rfl, by decide +kernel, by decide +kernel⟩
abbrev s_Ltake : Stmt := topS 24
theorem sc_Ltake : FnScope ["_law_bag_here", "_law_many", "_law_cell", "_law_value", "_law_first", "_law_second"] ["_law_bag_here", "_law_many"] (defScope s_Ltake) := ⟨rfl, rfl, rfl, by decide +kernel, rfl, by decide +kernel, by decide +kernel⟩
abbrev s_Lalike : Stmt := topS 25
theorem sc_Lalike : FnScope ["_law_found", "_law_due"] ["_law_found", "_law_due"] (defScope s_Lalike) := ⟨rfl, rfl, rfl, by decide +kernel, rfl, by decide +kernel, by decide +kernel⟩
abbrev s_Lamount : Stmt := topS 26
theorem sc_Lamount : FnScope ["_law_bag_here", "_law_great"] ["_law_bag_here", "_law_great"] (defScope s_Lamount) := ⟨rfl, rfl, rfl, by decide +kernel, rfl, by decide +kernel, by decide +kernel⟩
abbrev s_Lbundles : Stmt := topS 27
theorem sc_Lbundles : FnScope ["_law_bag_here", "_law_size", "_law_great", "_law_rare", "_law_found", "_law_first", "_law_second"] ["_law_bag_here", "_law_size", "_law_great"] (defScope s_Lbundles) := ⟨rfl, rfl, rfl, by decide +kernel, rfl, by decide +kernel, by decide +kernel⟩
abbrev s_Lloads : Stmt := topS 28
theorem sc_Lloads : FnScope ["_law_size", "_law_bundles_here", "_law_leads", "_law_found", "_law_many", "_law_first", "_law_second", "_law_partitions"] ["_law_size", "_law_bundles_here", "_law_leads"] (defScope s_Lloads) := ⟨rfl, rfl, rfl, by decide +kernel, rfl, by decide +kernel, by decide +kernel⟩
abbrev s_Lbounds : Stmt := topS 29
theorem sc_Lbounds : FnScope ["_law_bag_here", "_law_held", "_law_found", "_law_load", "_law_under", "_law_over"] ["_law_bag_here", "_law_held"] (defScope s_Lbounds) := ⟨rfl, rfl, rfl, by decide +kernel, rfl, by decide +kernel, by decide +kernel⟩
abbrev s_Lnet : Stmt := topS 30
theorem sc_Lnet : FnScope ["_law_bag_here", "_law_most", "_law_great", "_law_size", "_law_bundles_here", "_law_leads", "_law_first", "_law_second", "_law_partitions"] ["_law_bag_here", "_law_most", "_law_great"] (defScope s_Lnet) := ⟨rfl, rfl, rfl, by decide +kernel, rfl, by decide +kernel, by decide +kernel⟩
abbrev s_Lodd : Stmt := topS 31
theorem sc_Lodd : FnScope ["_law_bag_here", "_law_deep", "_law_k", "_law_some"] ["_law_bag_here"] (defScope s_Lodd) := ⟨rfl, rfl, rfl, by decide +kernel, rfl, by decide +kernel, by decide +kernel⟩
abbrev s_Lare_leads : Stmt := topS 32
theorem sc_Lare_leads : FnScope ["_law_bundles_here", "_law_thing", "_law_many", "_law_row"] ["_law_bundles_here", "_law_thing"] (defScope s_Lare_leads) := ⟨rfl, rfl, rfl, by decide +kernel, rfl, by decide +kernel, by decide +kernel⟩
abbrev s_Lbent : Stmt := topS 33
theorem sc_Lbent : FnScope ["_law_bag_here", "_law_bundles_here", "_law_leads", "_law_at", "_law_near", "_law_some"] ["_law_bag_here", "_law_bundles_here", "_law_leads"] (defScope s_Lbent) := ⟨rfl, rfl, rfl, by decide +kernel, rfl, by decide +kernel, by decide +kernel⟩
abbrev s_law : Stmt := topS 34
theorem sc_law : FnScope ["_law_script", "_law_bag_here", "_law_turn", "_law_bounds_here", "_law_bundles_here", "_law_leads", "_law_cluster", "_law_thing", "_law_shown", "_law_due", "_law_again", "_law_k"] ["_law_script"] (defScope s_law) := ⟨rfl, rfl, rfl, by decide +kernel, rfl, by decide +kernel, by decide +kernel⟩

structure Cs (mg : Str → Option Value) (t0 t1 t2 t3 t4 : Tok) : Prop where
  MOST_AMOUNT : mg "MOST_AMOUNT" = some (.int (10 ^ 30) t0)
  MOST_COUNT : mg "MOST_COUNT" = some (.int (10 ^ 18) t1)
  LEAST_SIZE : mg "LEAST_SIZE" = some (.int 2 t2)
  MOST_SIZE : mg "MOST_SIZE" = some (.int 10 t3)
  MOST_BUNDLES : mg "MOST_BUNDLES" = some (.int 45 t4)
theorem cs_mk {K : PySem.W.Frag} {h : Heap} {mg : Str → Option Value} {t0 t1 t2 t3 t4 : Tok} (X : K.In h) (G : h.Ns mainGlobals mg)
    (z0 : PySem.W.nsIn K mainGlobals "MOST_AMOUNT" = some (some (.int (10 ^ 30) t0)))
    (z1 : PySem.W.nsIn K mainGlobals "MOST_COUNT" = some (some (.int (10 ^ 18) t1)))
    (z2 : PySem.W.nsIn K mainGlobals "LEAST_SIZE" = some (some (.int 2 t2)))
    (z3 : PySem.W.nsIn K mainGlobals "MOST_SIZE" = some (some (.int 10 t3)))
    (z4 : PySem.W.nsIn K mainGlobals "MOST_BUNDLES" = some (some (.int 45 t4))) : Cs mg t0 t1 t2 t3 t4 :=
  ⟨PySem.W.mg_of X G z0, PySem.W.mg_of X G z1, PySem.W.mg_of X G z2, PySem.W.mg_of X G z3, PySem.W.mg_of X G z4⟩
local macro_rules | `(tactic| walk_at "ne") => `(tactic| first
  | assumption | exact Ne.symm (by assumption) | exact ne_of_none (by walk_at "lk") (by assumption) | exact ne_of_none2 (by assumption) (by walk_at "lk"))
local macro_rules | `(tactic| walk_at "lk") => `(tactic| first
  | assumption
  | exact upd_same
  | (refine' upd_ne2 ?kn ?ke; (case kn => walk_at "ne"); (case ke => walk_at "lk"))
  | (refine' SqL.of ?ke; (case ke => walk_at "lk"))
  | (refine' SqT.of ?ke; (case ke => walk_at "lk")))
local macro_rules | `(tactic| walk_at "y") => `(tactic| first
  | (with_reducible first
    | refine x_seq ?_ | refine x_asg ?_ | refine x_name ?_ | refine x_op ?_ | refine x_c ?_
    | refine x_I0 ?_ | refine x_cons ?_ | refine x_nil ?_ | refine x_cb ?_ | refine x_call ?_ | refine x_ret ?_ | refine x_retN ?_
    | refine x_ifS ?_ | refine x_test ?_ | refine x_B ?_ | refine x_bl ?_ | refine x_eqI ?_ | refine x_neI ?_ | refine x_drop ?_ | refine x_next ?_
    | refine x_and ?_ | refine x_or ?_ | refine x_not ?_ | refine x_notV ?_ | refine x_if ?_ | refine x_chain ?_
    | refine x_un ?_ | refine x_U ?_ | refine x_iteT ?_ | refine x_iteF ?_ | refine x_iteNT ?_ | refine x_iteNF ?_ | refine x_yes ?_
    | refine x_augS ?_ | refine x_ipI ?_ | refine x_gsub ?_ | refine x_par ?_ | refine x_par2 ?_ | refine x_lst ?_ | refine x_tup ?_ | refine x_break ?_ | refine x_cont ?_
    | refine x_rev ?_ | refine x_dnew ?_ | refine x_disp ?_ | refine x_eqS ?_ | refine x_neS ?_ | refine x_isI ?_ | refine x_sl ?_ | refine x_noPart ?_ | refine x_part ?_ | refine x_for ?_ | refine x_iL ?_ | refine x_iT ?_ | refine x_r1 ?_ | refine x_r2 ?_ | refine x_lc ?_ | refine x_setC ?_ | refine x_gcons ?_ | refine x_gnil ?_ | refine x_revT ?_ | refine x_bm ?_ | refine x_sFld ?_ | refine x_tFld ?_ | refine x_meth ?_ | refine x_make ?_ | refine x_dcT ?_ | refine x_en ?_ | refine x_zM ?_ | refine x_zL ?_ | refine x_orT ?_ | refine x_isB ?_)
  | ((with_reducible refine' x_zLAt ?kp ?kq ?kh); (case kp => walk_at "lk"); (case kq => walk_at "lk"))
  | ((with_reducible refine' x_enL ?kp ?kh); (case kp => walk_at "lk"))
  | ((with_reducible refine' x_zAt ?kp ?kq ?kh); (case kp => walk_at "lk"); (case kq => walk_at "lk"))
  | ((with_reducible refine' x_tyL ?kp ?kh); (case kp => walk_at "lk"))
  | ((with_reducible refine' x_gtup ?kp ?kl ?kh); (case kp => walk_at "lk"); (case kl => rfl))
  | ((with_reducible refine' x_var ?ke ?kh); (case ke => rfl))
  | ((with_reducible refine' x_ixL ?kp ?ke ?kh); (case kp => walk_at "lk"); (case ke => rfl))
  | ((with_reducible refine' x_ixT ?kp ?ke ?kh); (case kp => walk_at "lk"); (case ke => rfl))
  | ((with_reducible refine' x_getL ?kp ?ki ?ke ?kh); (case kp => walk_at "lk"); (case ki => rfl); (case ke => rfl))
  | ((with_reducible refine' x_setL ?kp ?ke ?kh); (case kp => walk_at "lk"); (case ke => rfl))
  | ((with_reducible refine' x_len ?kp ?kh); (case kp => walk_at "lk"))
  | ((with_reducible refine' x_lenT ?kp ?kh); (case kp => walk_at "lk"))
  | ((with_reducible refine' x_all ?kp ?kh); (case kp => walk_at "lk"))
  | ((with_reducible refine' x_slL ?kp ?kh); (case kp => walk_at "lk"))
  | ((with_reducible refine' x_cat ?kp ?kq ?kz ?kh); (case kp => walk_at "lk"); (case kq => walk_at "lk"); (case kz => walk_at "sz"))
  | ((with_reducible refine' x_toTup ?kp ?kh); (case kp => walk_at "lk"))
  | ((with_reducible refine' x_lp ?kp ?kh); (case kp => walk_at "lk"))
  | ((with_reducible refine' x_tp ?kp ?kh); (case kp => walk_at "lk"))
  | ((with_reducible refine' x_rg ?kp ?kq ?kh); (case kp => walk_at "ar"); (case kq => walk_at "ar"))
  | ((with_reducible refine' x_rg2 ?kp ?kh); (case kp => walk_at "ar"))
  | (with_reducible refine x_int1 ?_)
  | (with_reducible refine x_int2 ?_)
  | ((with_reducible refine' x_isD ?kp ?kq ?kh); (case kp => walk_at "dn"); (case kq => simp))
  | ((with_reducible refine' x_new ?kp ?kh); (case kp => exact Nat.le_of_ble_eq_true rfl))
  | ((with_reducible refine' x_mod ?kp ?kh); (case kp => decide))
  | ((with_reducible refine' x_mul ?kp ?kh); (case kp => walk_at "mulok"))
  | ((with_reducible refine' x_pow ?kp ?kh); (case kp => exact ⟨by decide, by decide, by decide⟩)))
local macro_rules | `(tactic| walk_at "ar") => `(tactic| first | decide | omega | (refine ⟨?_, ?_, ?_, ?_⟩ <;> (first | decide | omega)))
local macro_rules | `(tactic| walk_at "dn") => `(tactic| assumption)
local macro_rules | `(tactic| walk_at "mulok") => `(tactic| first | (exact .inl ⟨by omega, by omega⟩) | (exact .inr ⟨by omega, by omega⟩))
local macro_rules | `(tactic| walk_at "sz") => `(tactic| first | decide | (simp only [List.length_append, List.length_cons, List.length_nil, List.length_map, List.length_singleton, sizeLine_eq]; omega))
local macro_rules | `(tactic| walk_at "x") => `(tactic| first | walk_at "y" | (with_reducible refine x_andV ?_) | (with_reducible refine x_orV ?_))
local macro_rules | `(tactic| walk_at "ys") => `(tactic| repeat walk_at "y")
local macro_rules | `(tactic| walk_at "xs") => `(tactic| repeat walk_at "x")


/-- the drawn bag -/
def Bag (H : Hp) (b c : Addr) : Prop := ∃ (x y : Int) (k : Nat) (cs : List Int), H b = some (.lst [.int x, .int y, .int k, .ref c]) ∧ H c = some (.lst (cs.map V.int)) ∧
  0 ≤ x ∧ 0 ≤ y ∧ y < 2147483647 ∧ (∀ z ∈ cs, 0 ≤ z) ∧ c ≠ b
def spTake : Sp := fun vs H Q _ => ∃ b c n, vs = [.ref b, .int n] ∧ Bag H b c ∧ 0 < n ∧ n.natAbs < 2 ^ 200 ∧
  ∀ H' v, Ext [b] H H' → Bag H' b c → 0 ≤ v → v < n → Q (.int v) H'

structure Bl (mg : Str → Option Value) : Prop where
  isinstance : mg "isinstance" = none
  «int» : mg "int" = none
  «bool» : mg "bool" = none
  «list» : mg "list" = none
  «tuple» : mg "tuple" = none
  «str» : mg "str" = none
  len : mg "len" = none
  abs : mg "abs" = none
  range : mg "range" = none
  repr : mg "repr" = none
  all : mg "all" = none
  max : mg "max" = none
  min : mg "min" = none
  sum : mg "sum" = none
  zip : mg "zip" = none
  enumerate : mg "enumerate" = none
theorem bl_mk {K : PySem.W.Frag} {h : Heap} {mg : Str → Option Value} (X : K.In h) (G : h.Ns mainGlobals mg)
    (z0 : PySem.W.nsIn K mainGlobals "isinstance" = some none)
    (z1 : PySem.W.nsIn K mainGlobals "int" = some none)
    (z2 : PySem.W.nsIn K mainGlobals "bool" = some none)
    (z3 : PySem.W.nsIn K mainGlobals "list" = some none)
    (z4 : PySem.W.nsIn K mainGlobals "tuple" = some none)
    (z5 : PySem.W.nsIn K mainGlobals "str" = some none)
    (z6 : PySem.W.nsIn K mainGlobals "len" = some none)
    (z7 : PySem.W.nsIn K mainGlobals "abs" = some none)
    (z8 : PySem.W.nsIn K mainGlobals "range" = some none)
    (z9 : PySem.W.nsIn K mainGlobals "repr" = some none)
    (z10 : PySem.W.nsIn K mainGlobals "all" = some none)
    (z11 : PySem.W.nsIn K mainGlobals "max" = some none)
    (z12 : PySem.W.nsIn K mainGlobals "min" = some none)
    (z13 : PySem.W.nsIn K mainGlobals "sum" = some none)
    (z14 : PySem.W.nsIn K mainGlobals "zip" = some none)
    (z15 : PySem.W.nsIn K mainGlobals "enumerate" = some none) : Bl mg :=
  ⟨PySem.W.mg_none_of X G z0, PySem.W.mg_none_of X G z1, PySem.W.mg_none_of X G z2, PySem.W.mg_none_of X G z3, PySem.W.mg_none_of X G z4, PySem.W.mg_none_of X G z5, PySem.W.mg_none_of X G z6, PySem.W.mg_none_of X G z7, PySem.W.mg_none_of X G z8, PySem.W.mg_none_of X G z9, PySem.W.mg_none_of X G z10, PySem.W.mg_none_of X G z11, PySem.W.mg_none_of X G z12, PySem.W.mg_none_of X G z13, PySem.W.mg_none_of X G z14, PySem.W.mg_none_of X G z15⟩
section
variable {P : Program} {w : World} {K : PySem.W.Frag} {mg : Str → Option Value} {base : Heap} {t0 t1 t2 t3 t4 : Tok}
theorem kn_take {k : Nat} (D : Df K mg "_law_take" s_Ltake) (B : Bl mg) : Kn P w K mg base "_law_take" (k + 1) spTake := by
  refine kn_of D (fun _ _ _ _ _ _ us hl => match us, hl with | [_, _], _ => rfl) sc_Ltake (fun vs H Q E h => by obtain ⟨b, c, n, rfl, _⟩ := h; rfl) (fun f cd B' fr z H vs Q E hr gd h => ?_)
  obtain ⟨b, c, n, rfl, ⟨x, y, k, cs, hb, hc, hx, hy, hy2, hcs, ncb⟩, hn, hn2, q⟩ := h
  refine ⟨_, (pss_cut (ps_if (pt_cmpR op_eq (pe_ix (r := rIxL K) ix_list (pv 0) pe_int (fun _ _ => rfl)) pe_int (nomark _)) (pss_cons (ps_set (i := 2) sc_Ltake.nd rfl (.inl rfl) pe_int)
  (pss_cut (ps_if (pt_cmpR op_lt (pe_ix (r := rIxL K) ix_list (pv 0) pe_int (fun _ _ => rfl)) (pe_callB call_len_seq (by rfl) B.len (by decide +kernel) (pa_cons (pe_ix (r := rIxL K) ix_list (pv 0) pe_int (fun _ _ => rfl)) pa_nil)) (nomark _)) (pss_one (ps_set (i := 2) sc_Ltake.nd rfl (.inl rfl) (pe_ix (r := rIxL K) ix_list (pe_ix (r := rIxL K) ix_list (pv 0) pe_int (fun _ _ => rfl)) (pe_ix (r := rIxL K) ix_list (pv 0) pe_int (fun _ _ => rfl)) (fun _ _ => rfl)))) pss_nil)
  (pss_cons (ps_augS (pv 0) pe_int get_list pe_int ip_add set_list)
  (pss_cut (ps_if (pt_cmpR op_ge (pv 2) pe_int (nomark _)) (pss_one (ps_asg (pv 2) (pg_sub (pv 0) pe_int set_list))) pss_nil)
  (pss_one (ps_asg (pe_op op_mod (pe_op op_add (pe_op op_add (pe_op op_mul (pe_ix (r := rIxL K) ix_list (pv 0) pe_int (fun _ _ => rfl)) pe_int) (pe_op op_mod (pv 2) pe_int)) (pe_op op_mul pe_int (pe_ix (r := rIxL K) ix_list (pv 0) pe_int (fun _ _ => rfl)))) pe_int) (pg_sub (pv 0) pe_int set_list))))))) pss_nil)
  (pss_cons (ps_if (pt_cmpR op_gt (pe_ix (r := rIxL K) ix_list (pv 0) pe_int (fun _ _ => rfl)) pe_int (nomark _)) (pss_cons (ps_set (i := 3) sc_Ltake.nd rfl (.inl rfl) (pe_op op_mod (pe_ix (r := rIxL K) ix_list (pv 0) pe_int (fun _ _ => rfl)) (pv 1)))
  (pss_cons (ps_asg (pe_op op_fdivW (pe_ix (r := rIxL K) ix_list (pv 0) pe_int (fun _ _ => rfl)) (pv 1)) (pg_sub (pv 0) pe_int set_list))
  (pss_one (ps_ret (pv 3))))) pss_nil)
  (pss_cons (ps_set (i := 4) sc_Ltake.nd rfl (.inl rfl) (pe_op op_mod (pe_op op_mul (pe_op op_add (pe_ix (r := rIxL K) ix_list (pv 0) pe_int (fun _ _ => rfl)) pe_int) pe_int) pe_int))
  (pss_cons (ps_set (i := 5) sc_Ltake.nd rfl (.inl rfl) (pe_op op_mod (pe_op op_mul (pe_op op_mod (pe_op op_mul (pv 4) (pv 4)) pe_int) pe_int) pe_int))
  (pss_cons (ps_if (pt_cmpR op_gt (pv 1) pe_int (nomark _)) (pss_one (ps_ret (pe_op op_mod (pe_op op_add (pe_op op_mul (pv 5) pe_int) (pv 4)) (pv 1)))) pss_nil)
  (pss_one (ps_ret (pe_op op_mod (pe_op op_fdivW (pv 5) pe_int) (pv 1))))))))), ?_⟩
  refine x_cut (fun σ' H' => ∃ v2, σ' = [some (.ref b), some (.int n), v2, none, none, none] ∧ Ext [b] H H' ∧ Bag H' b c) ?_ ?_
  · walk_at "xs"
    refine x_ite (fun h0 => ?_) (fun h0 => ?_)
    · subst h0
      walk_at "xs"
      refine x_cut (fun σ' H' => ∃ v2 : Int, σ' = [some (.ref b), some (.int n), some (.int v2), none, none, none] ∧ H = H' ∧ 0 ≤ v2) ?_ ?_
      · walk_at "xs"
        refine x_ite (fun h0 => ?_) (fun h0 => ?_)
        · have hk : k < cs.length := by simpa using h0
          walk_at "xs"
          refine x_ixL (SqL.of hc) (atI_nat (v := .int cs[k]) (by rw [List.getElem?_map, List.getElem?_eq_getElem hk]; rfl)) ?_
          walk_at "xs"
          exact ⟨cs[k], rfl, rfl, hcs _ (List.getElem_mem hk)⟩
        · walk_at "xs"
          exact ⟨0, rfl, rfl, Int.le_refl 0⟩
      · rintro _ _ ⟨v, rfl, rfl, hv⟩
        walk_at "xs"
        refine x_cut (fun σ' H' => ∃ x' : Int, 0 ≤ x' ∧ σ' = [some (.ref b), some (.int n), some (.int v), none, none, none] ∧ H' b = some (.lst [.int x', .int y, .int (k + 1 : Nat), .ref c]) ∧ Ext [b] H H') ?_ ?_
        · walk_at "xs"
          refine x_ite (fun h0 => ?_) (fun h0 => ?_)
          · walk_at "xs"
            exact ⟨v, hv, rfl, by rw [upd_same]; rfl, fun a o n e => by rw [upd_ne (by simpa using n), upd_ne (by simpa using n)]; exact e⟩
          · walk_at "xs"
            exact ⟨0, Int.le_refl 0, rfl, by rw [upd_same]; rfl, fun a o n e => by rw [upd_ne (by simpa using n)]; exact e⟩
        · rintro _ H2 ⟨x', hx', rfl, hb2, he⟩
          walk_at "xs"
          refine ⟨_, rfl, fun a o n e => by rw [upd_ne (by simpa using n)]; exact he a o n e, x', _, k + 1, cs, by rw [upd_same]; rfl, ?_, hx', ?_, ?_, hcs, ncb⟩
          · rw [upd_ne ncb]; exact he c _ (by simpa using ncb) hc
          · exact Int.emod_nonneg _ (by decide)
          · exact Int.emod_lt_of_pos _ (by decide)
    · walk_at "xs"
      exact ⟨_, rfl, Ext.refl _ _, x, y, k, cs, hb, hc, hx, hy, hy2, hcs, ncb⟩
  · rintro _ H1 ⟨v2, rfl, he, x, y, k, cs, hb, hc, hx, hy, hy2, hcs, ncb⟩
    walk_at "xs"
    refine x_ite (fun h0 => ?_) (fun h0 => ?_)
    · walk_at "xs"
      refine x_mod hn ?_
      walk_at "xs"
      refine x_div (wide_div hn hn2 (by decide) (by decide)) ?_
      walk_at "xs"
      refine q _ _ (fun a o m e => by rw [upd_ne (by simpa using m)]; exact he a o m e) ⟨_, y, k, cs, upd_same, ?_, Int.ediv_nonneg hx (Int.le_of_lt hn), hy, hy2, hcs, ncb⟩ (Int.emod_nonneg _ (Int.ne_of_gt hn)) (Int.emod_lt_of_pos _ hn)
      rw [upd_ne ncb]; exact hc
    · have e1 := Int.emod_nonneg ((y + 1) * 39373) (show (1000000007 : Int) ≠ 0 by decide)
      have e2 := Int.emod_lt_of_pos ((y + 1) * 39373) (show (0 : Int) < 1000000007 by decide)
      walk_at "xs"
      have e3 := Int.emod_nonneg ((y + 1) * 39373 % 1000000007 * ((y + 1) * 39373 % 1000000007) % 998244353 * 30011) (show (998244353 : Int) ≠ 0 by decide)
      have e4 := Int.emod_lt_of_pos ((y + 1) * 39373 % 1000000007 * ((y + 1) * 39373 % 1000000007) % 998244353 * 30011) (show (0 : Int) < 998244353 by decide)
      refine x_ite (fun h1 => ?_) (fun h1 => ?_)
      · walk_at "xs"
        refine x_mod hn ?_
        exact q _ _ he ⟨x, y, k, cs, hb, hc, hx, hy, hy2, hcs, ncb⟩ (Int.emod_nonneg _ (Int.ne_of_gt hn)) (Int.emod_lt_of_pos _ hn)
      · walk_at "xs"
        refine x_div (wide_div (b := 3) (by decide) (by decide) (by decide) (by decide)) ?_
        walk_at "xs"
        refine x_mod hn ?_
        exact q _ _ he ⟨x, y, k, cs, hb, hc, hx, hy, hy2, hcs, ncb⟩ (Int.emod_nonneg _ (Int.ne_of_gt hn)) (Int.emod_lt_of_pos _ hn)

end

section
variable {P : Program} {w : World} {K : PySem.W.Frag} {mg : Str → Option Value} {base : Heap} {t0 t1 t2 t3 t4 : Tok}
/-! ### the small tests -/
def isIntD : PyData → Bool
  | .int _ => true
  | _ => false
def inD (lo hi : Int) : PyData → Bool
  | .int i => decide (lo ≤ i) && decide (i ≤ hi)
  | _ => false
theorem isInt_eq (d : PyData) : (isT "int" d && !isT "bool" d) = isIntD d := by rw [isT_int, isT_bool]; cases d <;> rfl
/-- a test of one thing that makes nothing -/
def sp1 (g : PyData → Bool) : Sp := fun vs H Q _ => ∃ v d M, vs = [v] ∧ Dn M H v d ∧ Q (.bl (g d)) H
def sp2 (g : PyData → Int → Bool) : Sp := fun vs H Q _ => ∃ v d M n, vs = [v, .int n] ∧ Dn M H v d ∧ Q (.bl (g d n)) H
def sp3 (g : PyData → Int → Int → Bool) : Sp := fun vs H Q _ => ∃ v d M n m, vs = [v, .int n, .int m] ∧ Dn M H v d ∧ Q (.bl (g d n m)) H
theorem x_sp1 {g : PyData → Bool} {v : V} {d : PyData} {M : List Addr} {H : Hp} {Q : VK} {E : XK} (hd : Dn M H v d) (h : Q (.bl (g d)) H) : sp1 g [v] H Q E := ⟨v, d, M, rfl, hd, h⟩
theorem x_sp2 {g : PyData → Int → Bool} {v : V} {d : PyData} {M : List Addr} {n : Int} {H : Hp} {Q : VK} {E : XK} (hd : Dn M H v d) (h : Q (.bl (g d n)) H) : sp2 g [v, .int n] H Q E := ⟨v, d, M, n, rfl, hd, h⟩
theorem x_sp3 {g : PyData → Int → Int → Bool} {v : V} {d : PyData} {M : List Addr} {n m : Int} {H : Hp} {Q : VK} {E : XK} (hd : Dn M H v d) (h : Q (.bl (g d n m)) H) : sp3 g [v, .int n, .int m] H Q E := ⟨v, d, M, n, m, rfl, hd, h⟩
theorem Dn.isInt {M : List Addr} {H : Hp} {v : V} {d : PyData} (h : Dn M H v d) (e : isIntD d = true) : ∃ i, v = .int i ∧ d = .int i := by
  cases h <;> first | exact ⟨_, rfl, rfl⟩ | cases e

theorem kn_is_integer {k : Nat} (D : Df K mg "is_integer" s_is_integer) (B : Bl mg) : Kn P w K mg base "is_integer" (k + 1) (sp1 isIntD) := by
  refine kn_of D (fun _ _ _ _ _ _ us hl => match us, hl with | [_], _ => rfl) sc_is_integer (fun vs H Q E h => by obtain ⟨v, d, M, rfl, _⟩ := h; rfl) (fun f cd B' fr z H vs Q E hr gd h => ?_)
  obtain ⟨v, d, M, rfl, hd, q⟩ := h
  refine ⟨_, (pss_one (ps_ret (pe_and (pe_callB call_isD (by rfl) B.isinstance (by decide +kernel) (pa_cons (pv 0) (pa_cons (pe_bltn (v := .ty "int") (u := .type "int") (by rfl) B.«int» (by decide +kernel) rfl) pa_nil))) (pe_one (pe_not (pe_callB call_isD (by rfl) B.isinstance (by decide +kernel) (pa_cons (pv 0) (pa_cons (pe_bltn (v := .ty "bool") (u := .type "bool") (by rfl) B.«bool» (by decide +kernel) rfl) pa_nil)))))))), ?_⟩
  rw [← isInt_eq] at q
  walk_at "xs"
  refine x_iteB (fun h => ?_) (fun h => ?_)
  · walk_at "xs"
    rw [h] at q; exact q
  · walk_at "xs"
    rw [h] at q; exact q

theorem kn_is_amount {k : Nat} (D : Df K mg "is_amount" s_is_amount) (B : Bl mg) (CS : Cs mg t0 t1 t2 t3 t4) (c_is_integer : Kn P w K mg base "is_integer" k (sp1 isIntD)) : Kn P w K mg base "is_amount" (k + 1) (sp1 (inD 0 (10 ^ 30))) := by
  refine kn_of D (fun _ _ _ _ _ _ us hl => match us, hl with | [_], _ => rfl) sc_is_amount (fun vs H Q E h => by obtain ⟨v, d, M, rfl, _⟩ := h; rfl) (fun f cd B' fr z H vs Q E hr gd h => ?_)
  obtain ⟨v, d, M, rfl, hd, q⟩ := h
  refine ⟨_, (pss_one (ps_ret (pe_and (pe_own c_is_integer hr gd (by rfl) (pa_cons (pv 0) pa_nil)) (pe_one (pe_chain op_le op_le pe_int (pv 0) (pe_glob (v := .int (10 ^ 30)) (by rfl) CS.MOST_AMOUNT ⟨_, rfl⟩)))))), ?_⟩
  walk_at "xs"
  refine x_sp1 hd ?_
  walk_at "xs"
  refine x_iteB (fun h => ?_) (fun h => ?_)
  · obtain ⟨i, rfl, rfl⟩ := hd.isInt h
    walk_at "xs"
    refine x_ite (fun h => ?_) (fun h => ?_)
    · walk_at "xs"
      simpa only [inD, decide_eq_true h, Bool.true_and] using q
    · simpa only [inD, decide_eq_false h, Bool.false_and] using q
  · have e : inD 0 (10 ^ 30) d = false := by cases d <;> first | rfl | cases h
    rw [e] at q; exact q

theorem kn_is_count {k : Nat} (D : Df K mg "is_count" s_is_count) (B : Bl mg) (CS : Cs mg t0 t1 t2 t3 t4) (c_is_integer : Kn P w K mg base "is_integer" k (sp1 isIntD)) : Kn P w K mg base "is_count" (k + 1) (sp1 (inD 1 (10 ^ 18))) := by
  refine kn_of D (fun _ _ _ _ _ _ us hl => match us, hl with | [_], _ => rfl) sc_is_count (fun vs H Q E h => by obtain ⟨v, d, M, rfl, _⟩ := h; rfl) (fun f cd B' fr z H vs Q E hr gd h => ?_)
  obtain ⟨v, d, M, rfl, hd, q⟩ := h
  refine ⟨_, (pss_one (ps_ret (pe_and (pe_own c_is_integer hr gd (by rfl) (pa_cons (pv 0) pa_nil)) (pe_one (pe_chain op_le op_le pe_int (pv 0) (pe_glob (v := .int (10 ^ 18)) (by rfl) CS.MOST_COUNT ⟨_, rfl⟩)))))), ?_⟩
  walk_at "xs"
  refine x_sp1 hd ?_
  walk_at "xs"
  refine x_iteB (fun h => ?_) (fun h => ?_)
  · obtain ⟨i, rfl, rfl⟩ := hd.isInt h
    walk_at "xs"
    refine x_ite (fun h => ?_) (fun h => ?_)
    · walk_at "xs"
      simpa only [inD, decide_eq_true h, Bool.true_and] using q
    · simpa only [inD, decide_eq_false h, Bool.false_and] using q
  · have e : inD 1 (10 ^ 18) d = false := by cases d <;> first | rfl | cases h
    rw [e] at q; exact q
def brokerD (d : PyData) (n : Int) : Bool := match d with
  | .int i => decide (0 ≤ i) && decide (i < n)
  | _ => false
theorem kn_is_broker {k : Nat} (D : Df K mg "is_broker" s_is_broker) (B : Bl mg) (c_is_integer : Kn P w K mg base "is_integer" k (sp1 isIntD)) : Kn P w K mg base "is_broker" (k + 1) (sp2 brokerD) := by
  refine kn_of D (fun _ _ _ _ _ _ us hl => match us, hl with | [_, _], _ => rfl) sc_is_broker (fun vs H Q E h => by obtain ⟨v, d, M, n, rfl, _⟩ := h; rfl) (fun f cd B' fr z H vs Q E hr gd h => ?_)
  obtain ⟨v, d, M, n, rfl, hd, q⟩ := h
  refine ⟨_, (pss_one (ps_ret (pe_and (pe_own c_is_integer hr gd (by rfl) (pa_cons (pv 0) pa_nil)) (pe_one (pe_chain op_le op_lt pe_int (pv 0) (pv 1)))))), ?_⟩
  walk_at "xs"
  refine x_sp1 hd ?_
  walk_at "xs"
  refine x_iteB (fun h => ?_) (fun h => ?_)
  · obtain ⟨i, rfl, rfl⟩ := hd.isInt h
    walk_at "xs"
    refine x_ite (fun h => ?_) (fun h => ?_)
    · walk_at "xs"
      simpa only [brokerD, decide_eq_true h, Bool.true_and] using q
    · simpa only [brokerD, decide_eq_false h, Bool.false_and] using q
  · have e : brokerD d n = false := by cases d <;> first | rfl | cases h
    rw [e] at q; exact q
end

def spBag (K : PySem.W.Frag) : Sp := fun vs H Q _ => ∃ (a : Addr) (ns : List Int), vs = [.ref a] ∧ SqL K H a (ns.map V.int) ∧ ∀ H' b c, Same H H' → H b = none → Bag H' b c → Q (.ref b) H'
def absI (i : Int) : Int := if i < 0 then -i else i
theorem absI_nn (i : Int) : 0 ≤ absI i := by unfold absI; split <;> omega
theorem cut_map (ns : List Int) (lo hi : Option Int) : ∃ ms : List Int, cutV (ns.map V.int) lo hi = ms.map V.int := by
  unfold cutV
  rw [← List.map_drop, ← List.map_take]
  exact ⟨_, rfl⟩
section
variable {P : Program} {w : World} {K : PySem.W.Frag} {mg : Str → Option Value} {base : Heap} {t0 t1 t2 t3 t4 : Tok}
theorem kn_bag {k : Nat} (D : Df K mg "_law_bag" s_Lbag) (B : Bl mg) : Kn P w K mg base "_law_bag" (k + 1) (spBag K) := by
  refine kn_of D (fun _ _ _ _ _ _ us hl => match us, hl with | [_], _ => rfl) sc_Lbag (fun vs H Q E h => by obtain ⟨a, ns, rfl, _⟩ := h; rfl) (fun f cd B' fr z H vs Q E hr gd h => ?_)
  obtain ⟨a, ns, rfl, ha, q⟩ := h
  refine ⟨_, (pss_one (ps_ret (pe_lst (pa_cons pe_int (pa_cons pe_int (pa_cons pe_int (pa_cons (pe_lc (own := [("_law_cell", 1)]) rfl sc_Lbag.nd (pi_list (pe_slice (r := rSlL K) sl_list (pv 0) po_none (po_some pe_int))) (blkOk_by (N := ["_law_script", "_law_cell"]) (sc := defScope s_Lbag) (by decide +kernel)) (fun _ _ _ _ _ => (pg_name (i := 1) sc_Lbag.nd rfl (.inl rfl))) (fun _ _ _ _ _ => pts_nil) (fun _ _ _ _ _ => (pe_callB call_abs (by rfl) B.abs (by decide +kernel) (pa_cons (pv 1) pa_nil)))) pa_nil))))))), ?_⟩
  walk_at "xs"
  intro p hp
  obtain ⟨ms, em⟩ := cut_map ns none (some 63)
  rw [em]
  have S1 : Same H (upd H p (.lst (ms.map V.int))) := same_upd hp
  walk_at "xs"
  intro L hL
  have hpL := upd_same (H := H) (a := p) (o := .lst (ms.map V.int))
  refine lc_list (K := K) (xs := ms.map V.int) (fun i H' => H' = upd (upd H p (.lst (ms.map V.int))) L (.lst (((ms.take i).map absI).map V.int))) rfl ?_ ?_ ?_
  · rintro i _ _ rfl
    exact SqL.of (by rw [upd_ne (ne_of_none hpL hL)]; exact hpL)
  · rintro i x _ hx rfl
    obtain ⟨m, hm, rfl⟩ : ∃ m, ms[i]? = some m ∧ V.int m = x := by
      rw [List.getElem?_map] at hx
      cases e : ms[i]? with
      | none => rw [e] at hx; cases hx
      | some m => rw [e] at hx; exact ⟨m, rfl, Option.some.inj hx⟩
    walk_at "xs"
    refine x_wiped rfl ?_
    walk_at "xs"
    refine x_acc upd_same ?_ ?_
    · have h1 : i < ms.length := (List.getElem?_eq_some_iff.mp hm).1
      have h2 : (cutV (ns.map V.int) none (some 63)).length ≤ 63 := by
        unfold cutV
        rw [List.length_take, HT.sIx_none]
        have := HT.sIx_nat (ns.map V.int).length (ns.map V.int).length 63
        have e63 : ((63 : Nat) : Int) = 63 := rfl
        rw [e63] at this
        rw [this]; omega
      rw [em, List.length_map] at h2
      rw [List.length_map, List.length_map, List.length_take, sizeLine_eq]; omega
    · show upd _ L _ = _
      rw [upd_upd]
      congr 2
      rw [List.take_add_one, hm, List.map_append, List.map_append]
      rfl
  · rintro _ rfl
    walk_at "xs"
    intro b hb
    refine q _ b L (S1.trans ((same_upd hL).trans (same_upd hb))) ?_ ?_
    · exact S1.free ((same_upd hL).free hb)
    · refine ⟨0, 1234567891, 0, (ms.take (ms.map V.int).length).map absI, upd_same, ?_, by decide, by decide, by decide, ?_, ?_⟩
      · rw [upd_ne (ne_of_none upd_same hb)]; exact upd_same
      · intro z hz
        obtain ⟨y, _, rfl⟩ := List.mem_map.mp hz
        exact absI_nn y
      · exact ne_of_none upd_same hb

end

section
variable {P : Program} {w : World} {K : PySem.W.Frag} {mg : Str → Option Value} {base : Heap} {t0 t1 t2 t3 t4 : Tok}
/-- equal lists show alike -/
def spAlike : Sp := fun vs H Q _ => ∃ x y d M, vs = [x, y] ∧ Dn M H x d ∧ Dn M H y d ∧ SeqAt.shaped d = true ∧ Shows d ∧ Q (.bl true) H
theorem x_alike {x y : V} {d : PyData} {M : List Addr} {H : Hp} {Q : VK} {E : XK} (hx : Dn M H x d) (hy : Dn M H y d) (s : SeqAt.shaped d = true) (t : Shows d) (h : Q (.bl true) H) : spAlike [x, y] H Q E := ⟨x, y, d, M, rfl, hx, hy, s, t, h⟩
theorem kn_alike {k : Nat} (D : Df K mg "_law_alike" s_Lalike) (B : Bl mg) (sys : ∃ o, base.get? sysModules = some o) : Kn P w K mg base "_law_alike" (k + 1) spAlike := by
  refine kn_of D (fun _ _ _ _ _ _ us hl => match us, hl with | [_, _], _ => rfl) sc_Lalike (fun vs H Q E h => by obtain ⟨x, y, d, M, rfl, _⟩ := h; rfl) (fun f cd B' fr z H vs Q E hr gd h => ?_)
  obtain ⟨x, y, d, M, rfl, hx, hy, sh, sw, q⟩ := h
  refine ⟨_, (pss_one (ps_ret (pe_and (pe_cmpR (op_eqD hr.units) (pv 0) (pv 1) (nomark _)) (pe_one (pe_cmpR op_eq (pe_callB (call_reprD gd hr.units sys) (by rfl) B.repr (by decide +kernel) (pa_cons (pv 0) pa_nil)) (pe_callB (call_reprD gd hr.units sys) (by rfl) B.repr (by decide +kernel) (pa_cons (pv 1) pa_nil)) (nomark _)))))), ?_⟩
  walk_at "xs"
  refine x_eqSame hx hy sh ?_
  walk_at "xs"
  refine x_repr hx sw ?_
  walk_at "xs"
  refine x_repr hy sw ?_
  walk_at "xs"
  simpa using q

end


def fewD (d : PyData) : Prop := ∀ ds, d = .list ds → ds.length ≤ 5000
theorem DnAll.toInts {M : List Addr} {H : Hp} : ∀ {ms : List Int} {xs : List V}, DnAll M H xs (ms.map PyData.int) → xs = ms.map V.int
  | [], _, .nil => rfl
  | _ :: _, _, .cons (.int _) r => by rw [List.map_cons, ← DnAll.toInts r]
theorem eqv_nil (l : List PyData) : PyData.eqv (.list l) (.list []) = decide (l = []) := by
  cases l with
  | nil => simp [PyData.eqv, PyData.eqvAll]
  | cons a r => simp [PyData.eqv, PyData.eqvAll]

theorem x_take {H : Hp} {Q : VK} {E : XK} {b c : Addr} {n : Int} (hb : Bag H b c) (h0 : 0 < n) (h1 : n.natAbs < 2 ^ 200) (h : ∀ H' v, Ext [b] H H' → Bag H' b c → 0 ≤ v → v < n → Q (.int v) H') : spTake [.ref b, .int n] H Q E := ⟨b, c, n, rfl, hb, h0, h1, h⟩
theorem Bag.ext {H H' : Hp} {b c : Addr} (h : Bag H b c) (e : Same H H') : Bag H' b c := by
  obtain ⟨x, y, k, cs, h1, h2, h3⟩ := h
  exact ⟨x, y, k, cs, e _ _ h1, e _ _ h2, h3⟩
theorem Bag.at {H : Hp} {b c : Addr} (h : Bag H b c) : ∃ o, H b = some o := by
  obtain ⟨x, y, k, cs, h1, _⟩ := h
  exact ⟨_, h1⟩

structure Cb (H0 : Hp) (b c f : Addr) (xs : List V) (H : Hp) : Prop where
  e : Ext [b] H0 H
  bag : Bag H b c
  fd : H f = some (.lst xs)
  ne : f ∉ [b]
theorem Cb.new {H0 H : Hp} {b c f p : Addr} {xs : List V} (u : HO) (cb : Cb H0 b c f xs H) (hp : H p = none) : Cb H0 b c f xs (upd H p u) ∧ p ∉ [b] ∧ upd H p u p = some u := by
  obtain ⟨ob, hob⟩ := cb.bag.at
  exact ⟨⟨cb.e.trans (Ext.same (same_upd hp)), cb.bag.ext (same_upd hp), same_upd hp _ _ cb.fd, cb.ne⟩, new_out (Same.refl H) hob hp, upd_same⟩
theorem Cb.step {H0 H H' : Hp} {b c f : Addr} {xs : List V} (cb : Cb H0 b c f xs H) (E : Ext [b] H H') (B : Bag H' b c) : Cb H0 b c f xs H' := ⟨cb.e.trans E, B, E _ _ cb.ne cb.fd, cb.ne⟩

/-! ### the odd things -/
def deepN : Nat → PyData
  | 0 => .list []
  | n + 1 => .list [deepN n]
def odds1 : List PyData := [.int 0, .int 1, .int (-1), .int 10, .int 9, .int (10 ^ (18 : Int).toNat), .int (10 ^ (18 : Int).toNat + 1), .int (10 ^ (30 : Int).toNat), .int (10 ^ (30 : Int).toNat + 1), .int (-(10 ^ (39 : Int).toNat)), .bool true, .bool false, .none, .str "", .str "1"]
def odds2 : List PyData := [.tuple [], .tuple [.int 0], .tuple [.int 0, .int 1], .tuple [.int 0, .int 1, .int 2], .tuple [.int 1, .int 0], .list [], .list [.int 0], .list [.int 0, .int 1], .list [.list [.int 0, .int 1]], .dict [], .dict [(.int 0, .int 1)], deepN 3, .list (List.replicate (2000 : Int).toNat (.int 0))]
def odds : List PyData := odds1 ++ odds2 ++ [.str (Txt.mul "a" 99)]
/-! ### away from a set of addresses -/
theorem new_outM {M : List Addr} {H H1 : Hp} {p : Addr} (S : Same H H1) (hM : ∀ m ∈ M, ∃ o, H m = some o) (hp : H1 p = none) : p ∉ M := fun h => by
  obtain ⟨o, e⟩ := hM p h
  rw [S _ _ e] at hp; cases hp
theorem growM {M : List Addr} {H H1 : Hp} {p : Addr} {u : HO} {vs : List V} {ds : List PyData} {d : PyData} (S : Same H H1) (hM : ∀ m ∈ M, ∃ o, H m = some o) (A : DnAll M H1 vs ds) (hp : H1 p = none)
    (hd : p ∉ M → Dn M (upd H1 p u) (.ref p) d) : Same H (upd H1 p u) ∧ DnAll M (upd H1 p u) (vs ++ [.ref p]) (ds ++ [d]) :=
  ⟨S.trans (same_upd hp), (A.ext (Ext.same (same_upd hp))).app (.cons (hd (new_outM S hM hp)) .nil)⟩
theorem putM {M : List Addr} {H H1 : Hp} {p : Addr} {vs : List V} {ds : List PyData} (u : HO) (S : Same H H1) (hM : ∀ m ∈ M, ∃ o, H m = some o) (A : DnAll M H1 vs ds) (hp : H1 p = none) :
    Same H (upd H1 p u) ∧ DnAll M (upd H1 p u) vs ds ∧ p ∉ M ∧ upd H1 p u p = some u :=
  ⟨S.trans (same_upd hp), A.ext (Ext.same (same_upd hp)), new_outM S hM hp, upd_same⟩
def spOdd : Sp := fun vs H Q _ => ∃ (b c : Addr) (M : List Addr), vs = [.ref b] ∧ Bag H b c ∧ b ∈ M ∧ (∀ m ∈ M, ∃ o, H m = some o) ∧ ∀ H' v d, Ext [b] H H' → Bag H' b c → Dn M H' v d → d ∈ odds → Q v H'
theorem repl_len (n : Nat) (v : V) : (List.replicate n [v]).flatten.length = n := by
  induction n with
  | zero => rfl
  | succ n ih => rw [List.replicate_succ, List.flatten_cons, List.length_append, ih]; simp; omega
section
variable {P : Program} {w : World} {K : PySem.W.Frag} {mg : Str → Option Value} {base : Heap} {t0 t1 t2 t3 t4 : Tok}
theorem kn_odd {k : Nat} (D : Df K mg "_law_odd" s_Lodd) (B : Bl mg) (c_Ltake : Kn P w K mg base "_law_take" k spTake) : Kn P w K mg base "_law_odd" (k + 1) spOdd := by
  refine kn_of D (fun _ _ _ _ _ _ us hl => match us, hl with | [_], _ => rfl) sc_Lodd (fun vs H Q E h => by obtain ⟨b, c, M, rfl, _⟩ := h; rfl) (fun f cd B' fr z H vs Q E hr gd h => ?_)
  obtain ⟨b, c, M, rfl, hB, bM, hb, q⟩ := h
  have sub : ∀ z, z ∈ [b] → z ∈ M := fun z h => by simp at h; subst h; exact bM
  refine ⟨_, (pss_cons (ps_set (i := 1) sc_Lodd.nd rfl (.inl rfl) (pe_lst pa_nil))
  (pss_cons (ps_for PassesOwn.never rfl (pi_range1 (by rfl) B.range (pa_cons pe_int pa_nil)) (pg_name (i := 2) sc_Lodd.nd rfl (.inl rfl))
  (pss_one (ps_set (i := 1) sc_Lodd.nd rfl (.inl rfl) (pe_lst (pa_cons (pv 1) pa_nil)))))
  (pss_cons (ps_set (i := 3) sc_Lodd.nd rfl (.inl rfl) (pe_lst (pa_cons pe_int (pa_cons pe_int (pa_cons (pe_un un_neg pe_int) (pa_cons pe_int (pa_cons pe_int (pa_cons (pe_op op_pow pe_int pe_int) (pa_cons (pe_op op_add (pe_op op_pow pe_int pe_int) pe_int) (pa_cons (pe_op op_pow pe_int pe_int) (pa_cons (pe_op op_add (pe_op op_pow pe_int pe_int) pe_int) (pa_cons (pe_un un_neg (pe_op op_pow pe_int pe_int)) (pa_cons pe_bl (pa_cons pe_bl (pa_cons pe_non (pa_cons pe_str (pa_cons pe_str pa_nil)))))))))))))))))
  (pss_cons (ps_set (i := 3) sc_Lodd.nd rfl (.inl rfl) (pe_op op_cat (pv 3) (pe_lst (pa_cons (pe_tup pa_nil) (pa_cons (pe_tup (pa_cons pe_int pa_nil)) (pa_cons (pe_tup (pa_cons pe_int (pa_cons pe_int pa_nil))) (pa_cons (pe_tup (pa_cons pe_int (pa_cons pe_int (pa_cons pe_int pa_nil)))) (pa_cons (pe_tup (pa_cons pe_int (pa_cons pe_int pa_nil))) (pa_cons (pe_lst pa_nil) (pa_cons (pe_lst (pa_cons pe_int pa_nil)) (pa_cons (pe_lst (pa_cons pe_int (pa_cons pe_int pa_nil))) (pa_cons (pe_lst (pa_cons (pe_lst (pa_cons pe_int (pa_cons pe_int pa_nil))) pa_nil)) (pa_cons pe_dnewK (pa_cons (pe_disp (pps_cons pe_int pe_int pps_nil) rfl rfl (by simp) (by decide)) (pa_cons (pv 1) (pa_cons (pe_op op_rep (pe_lst (pa_cons pe_int pa_nil)) pe_int) pa_nil))))))))))))))))
  (pss_cons (ps_set (i := 3) sc_Lodd.nd rfl (.inl rfl) (pe_op op_cat (pv 3) (pe_lst (pa_cons (pe_op op_mulStr pe_str pe_int) pa_nil))))
  (pss_one (ps_ret (pe_ix (r := rIxL K) ix_list (pv 3) (pe_own c_Ltake hr gd (by rfl) (pa_cons (pv 0) (pa_cons pe_int pa_nil))) (fun _ _ => rfl))))))))), ?_⟩
  walk_at "xs"
  intro p hp
  have S1 := same_upd (o := .lst []) hp
  walk_at "xs"
  refine for_range (lo := 0) (n := (3 : Int).toNat) (fun i σ' H' => ∃ (p : Addr) (y : Option V), σ' = [some (.ref b), some (.ref p), y, none] ∧ Same H H' ∧ Dn M H' (.ref p) (deepN i)) ?_ ?_ ?_
  · exact ⟨p, none, rfl, S1, .lst upd_same (new_outM (Same.refl H) hb hp) .nil⟩
  · rintro i _ H1 hi ⟨p, y, rfl, S, dp⟩
    walk_at "xs"
    intro p2 hp2
    walk_at "xs"
    exact ⟨p2, _, rfl, S.trans (same_upd hp2), .lst upd_same (new_outM S hb hp2) (.cons (dp.ext (Ext.same (same_upd hp2))) .nil)⟩
  · rintro _ H1 ⟨p, y, rfl, S, dp⟩
    walk_at "xs"
    intro p1 hp1
    have h1 := upd_same (H := H1) (a := p1) (o := .lst [.int 0, .int 1, .int (-1), .int 10, .int 9, .int (10 ^ (18 : Int).toNat), .int (10 ^ (18 : Int).toNat + 1), .int (10 ^ (30 : Int).toNat), .int (10 ^ (30 : Int).toNat + 1), .int (-(10 ^ (39 : Int).toNat)), .bl true, .bl false, .non, .str "", .str "1"])
    have G1 := same_upd hp1 (o := .lst [.int 0, .int 1, .int (-1), .int 10, .int 9, .int (10 ^ (18 : Int).toNat), .int (10 ^ (18 : Int).toNat + 1), .int (10 ^ (30 : Int).toNat), .int (10 ^ (30 : Int).toNat + 1), .int (-(10 ^ (39 : Int).toNat)), .bl true, .bl false, .non, .str "", .str "1"])
    generalize upd H1 p1 _ = H2 at *
    have S2 := S.trans G1
    have hb2 : ∀ m ∈ M, ∃ o, H2 m = some o := fun m hm => (hb m hm).imp fun o e => S2 _ _ e
    have dp2 := dp.ext (Ext.same G1)
    have T : Same H2 H2 := Same.refl H2
    have A : DnAll M H2 [] [] := .nil
    walk_at "xs"
    intro p hp
    obtain ⟨T, A⟩ := growM T hb2 A hp (u := .tup []) (fun n => .tup upd_same n .nil)
    generalize upd _ p _ = H3 at *
    walk_at "xs"
    clear hp
    intro p hp
    obtain ⟨T, A⟩ := growM T hb2 A hp (u := .tup [.int 0]) (fun n => .tup upd_same n (.cons (.int 0) .nil))
    generalize upd _ p _ = H3 at *
    walk_at "xs"
    clear hp
    intro p hp
    obtain ⟨T, A⟩ := growM T hb2 A hp (u := .tup [.int 0, .int 1]) (fun n => .tup upd_same n (.cons (.int 0) (.cons (.int 1) .nil)))
    generalize upd _ p _ = H3 at *
    walk_at "xs"
    clear hp
    intro p hp
    obtain ⟨T, A⟩ := growM T hb2 A hp (u := .tup [.int 0, .int 1, .int 2]) (fun n => .tup upd_same n (.cons (.int 0) (.cons (.int 1) (.cons (.int 2) .nil))))
    generalize upd _ p _ = H3 at *
    walk_at "xs"
    clear hp
    intro p hp
    obtain ⟨T, A⟩ := growM T hb2 A hp (u := .tup [.int 1, .int 0]) (fun n => .tup upd_same n (.cons (.int 1) (.cons (.int 0) .nil)))
    generalize upd _ p _ = H3 at *
    walk_at "xs"
    clear hp
    intro p hp
    obtain ⟨T, A⟩ := growM T hb2 A hp (u := .lst []) (fun n => .lst upd_same n .nil)
    generalize upd _ p _ = H3 at *
    walk_at "xs"
    clear hp
    intro p hp
    obtain ⟨T, A⟩ := growM T hb2 A hp (u := .lst [.int 0]) (fun n => .lst upd_same n (.cons (.int 0) .nil))
    generalize upd _ p _ = H3 at *
    walk_at "xs"
    clear hp
    intro p hp
    obtain ⟨T, A⟩ := growM T hb2 A hp (u := .lst [.int 0, .int 1]) (fun n => .lst upd_same n (.cons (.int 0) (.cons (.int 1) .nil)))
    generalize upd _ p _ = H3 at *
    walk_at "xs"
    clear hp
    intro q1 hq
    obtain ⟨T, A, nq, eq⟩ := putM (.lst [.int 0, .int 1]) T hb2 A hq
    have dq : Dn M _ (.ref q1) (.list [.int 0, .int 1]) := .lst eq nq (.cons (.int 0) (.cons (.int 1) .nil))
    generalize upd _ q1 _ = H3 at *
    walk_at "xs"
    intro p hp
    obtain ⟨T, A⟩ := growM T hb2 A hp (u := .lst [.ref q1]) (fun n => .lst upd_same n (.cons (dq.ext (Ext.same (same_upd hp))) .nil))
    generalize upd _ p _ = H4 at *
    walk_at "xs"
    clear hp hq dq
    intro p hp
    obtain ⟨T, A⟩ := growM T hb2 A hp (u := .dK []) (fun n => .dic (ds := []) upd_same n .nil .nil)
    generalize upd _ p _ = H3 at *
    walk_at "xs"
    clear hp
    intro p hp
    refine ⟨upd_same, [(Sum.inl 0, .int 1)], rfl, by decide, ?_⟩
    rw [upd_upd]
    obtain ⟨T, A⟩ := growM T hb2 A hp (u := .dK (mergeK [] [(Sum.inl 0, .int 1)])) (fun n => .dic (ds := [(.int 0, .int 1)]) upd_same n (.cons (.int 0) .nil) (.cons (.int 1) .nil))
    generalize upd _ p _ = H3 at *
    clear hp
    walk_at "xs"
    have A := A.app (.cons (dp2.ext (Ext.same T)) .nil)
    intro q1 hq
    obtain ⟨T, A, nq, eq⟩ := putM (.lst [.int 0]) T hb2 A hq
    generalize upd _ q1 _ = H3 at *
    walk_at "xs"
    refine x_rep eq (by decide) (by decide) (by decide) ?_
    intro p hp
    obtain ⟨T, A⟩ := growM T hb2 A hp (u := .lst (List.replicate (2000 : Int).toNat [V.int 0]).flatten) (fun n => .lst upd_same n (DnAll.rep (.int 0) _))
    generalize upd _ p _ = H4 at *
    clear hp hq eq
    walk_at "xs"
    intro r hr
    have T0 := T
    have A0 := A
    obtain ⟨T, A, nr, er⟩ := putM (.lst _) T hb2 A hr
    revert er T A
    generalize upd _ r _ = H3 at *
    intro T A er
    refine x_cat (T _ _ h1) er (by rw [sizeLine_eq]; exact Nat.le_of_ble_eq_true rfl) ?_
    intro s1 hs
    obtain ⟨T, A, ns, es⟩ := putM (.lst _) T hb2 A hs
    have es := es
    revert es T A
    generalize upd _ s1 _ = H5 at *
    intro T A es
    walk_at "xs"
    refine x_mulS ⟨by decide, by decide, by decide +kernel⟩ ?_
    walk_at "xs"
    intro t1 ht
    have es := (same_upd (o := .lst [.str (Txt.mul "a" 99)]) ht) _ _ es
    obtain ⟨T, A, nt, et⟩ := putM (.lst [.str (Txt.mul "a" 99)]) T hb2 A ht
    generalize upd _ t1 _ = H6 at *
    refine x_cat es et (by rw [sizeLine_eq]; exact Nat.le_of_ble_eq_true rfl) ?_
    intro u1 hu
    obtain ⟨T, A, nu, eu⟩ := putM (.lst _) T hb2 A hu
    revert eu T A
    generalize upd _ u1 _ = H7 at *
    intro T A eu
    walk_at "xs"
    refine x_take (hB.ext (S2.trans T)) (by decide) (by decide) ?_
    intro H8 v E8o B8 hv0 hv1
    have E8 := E8o.mono sub
    obtain ⟨x, ex, ax⟩ := ix_at eu hv0 hv1
    refine x_ixL (SqL.of (E8 _ _ nu eu)) ax ?_
    have all : DnAll M H8 _ odds := DnAll.ext E8 ((DnAll.app (DnAll.app (d := odds1) (e := odds2) (.cons (.int _) (.cons (.int _) (.cons (.int _) (.cons (.int _) (.cons (.int _) (.cons (.int _) (.cons (.int _) (.cons (.int _) (.cons (.int _) (.cons (.int _) (.cons (.bl _) (.cons (.bl _) (.cons .non (.cons (.str _) (.cons (.str _) .nil))))))))))))))) A) (.cons (.str _) .nil)))
    obtain ⟨d, hd, dx⟩ := all.get ex
    walk_at "xs"
    exact q _ _ _ ((Ext.same (S2.trans T)).trans E8o) B8 dx (List.mem_of_getElem? hd)
end

/-! ### the drawn things -/
structure Fine (d : PyData) : Prop where
  sz : Sz d 300000 6
  few : fewD d
theorem few_of {d : PyData} (h : ∀ ds, d ≠ .list ds) : fewD d := fun ds e => absurd e (h ds)
theorem sz_big {i : Int} (h : i.natAbs < 2 ^ 200) : Sz (.int i) 6100 4 := (sz_int h).mono (by decide) (by decide)
theorem sz_list' {p q n : Nat} {ds : List PyData} (h : ∀ d ∈ ds, Sz d p q) (hn : ds.length ≤ n) : Sz (.list ds) (n * (p + 2) + 3) (q + 1) :=
  (sz_list h).mono (Nat.add_le_add_right (Nat.mul_le_mul_right _ hn) 3) (Nat.le_refl _)
theorem odds_sz : ∀ d ∈ odds, Sz d 6100 4 ∧ fewD d := by
  have i0 : ∀ i : Int, i.natAbs < 2 ^ 200 → Sz (.int i) 6100 4 ∧ fewD (.int i) := fun i h => ⟨sz_big h, few_of nofun⟩
  have s1 : ∀ i : Int, i.natAbs < 2 ^ 200 → Sz (.int i) 201 0 := fun i h => sz_int h
  have lz : ∀ ds : List PyData, (∀ d ∈ ds, Sz d 201 0) → ds.length ≤ 5 → Sz (.list ds) 6100 4 ∧ fewD (.list ds) := fun ds h hl =>
    ⟨(sz_list' h hl).mono (by decide) (by decide), fun es e => by cases e; omega⟩
  have tz : ∀ ds : List PyData, (∀ d ∈ ds, Sz d 201 0) → ds.length ≤ 5 → Sz (.tuple ds) 6100 4 ∧ fewD (.tuple ds) := fun ds h hl =>
    ⟨((sz_tuple h).mono (Nat.add_le_add_right (Nat.mul_le_mul_right _ hl) 3) (Nat.le_refl _)).mono (by decide) (by decide), few_of nofun⟩
  intro d hd
  unfold odds odds1 odds2 at hd
  simp only [List.mem_append, List.mem_cons, List.not_mem_nil, or_false] at hd
  rcases hd with ((rfl | rfl | rfl | rfl | rfl | rfl | rfl | rfl | rfl | rfl | rfl | rfl | rfl | rfl | rfl) | rfl | rfl | rfl | rfl | rfl | rfl | rfl | rfl | rfl | rfl | rfl | rfl | rfl) | rfl
  · exact i0 _ (by decide)
  · exact i0 _ (by decide)
  · exact i0 _ (by decide)
  · exact i0 _ (by decide)
  · exact i0 _ (by decide)
  · exact i0 _ (by decide)
  · exact i0 _ (by decide)
  · exact i0 _ (by decide)
  · exact i0 _ (by decide)
  · exact i0 _ (by decide)
  · exact ⟨(sz_bool _).mono (by decide) (by decide), few_of nofun⟩
  · exact ⟨(sz_bool _).mono (by decide) (by decide), few_of nofun⟩
  · exact ⟨sz_none.mono (by decide) (by decide), few_of nofun⟩
  · exact ⟨⟨rfl, by decide +kernel, by decide⟩, few_of nofun⟩
  · exact ⟨⟨rfl, by decide +kernel, by decide⟩, few_of nofun⟩
  · exact tz _ (by simp) (by decide)
  · exact tz _ (by intro d h; simp at h; subst h; exact s1 _ (by decide)) (Nat.le_of_ble_eq_true rfl)
  · exact tz _ (by intro d h; simp at h; rcases h with rfl | rfl <;> exact s1 _ (by decide)) (Nat.le_of_ble_eq_true rfl)
  · exact tz _ (by intro d h; simp at h; rcases h with rfl | rfl | rfl <;> exact s1 _ (by decide)) (Nat.le_of_ble_eq_true rfl)
  · exact tz _ (by intro d h; simp at h; rcases h with rfl | rfl <;> exact s1 _ (by decide)) (Nat.le_of_ble_eq_true rfl)
  · exact lz _ (by simp) (by decide)
  · exact lz _ (by intro d h; simp at h; subst h; exact s1 _ (by decide)) (Nat.le_of_ble_eq_true rfl)
  · exact lz _ (by intro d h; simp at h; rcases h with rfl | rfl <;> exact s1 _ (by decide)) (Nat.le_of_ble_eq_true rfl)
  · refine ⟨(sz_list' (n := 1) (p := 1000) (q := 1) ?_ (Nat.le_of_ble_eq_true rfl)).mono (by decide) (by decide), fun es e => by cases e; exact Nat.le_of_ble_eq_true rfl⟩
    intro d h
    simp at h; subst h
    exact (sz_list' (n := 2) (p := 201) (q := 0) (by intro d h; simp at h; rcases h with rfl | rfl <;> exact s1 _ (by decide)) (Nat.le_of_ble_eq_true rfl)).mono (by decide) (by decide)
  · exact ⟨⟨rfl, by decide, by decide⟩, few_of nofun⟩
  · exact ⟨⟨by decide, by decide, by decide⟩, few_of nofun⟩
  · exact ⟨⟨by decide, by decide, by decide⟩, fun es e => by cases e; exact Nat.le_of_ble_eq_true rfl⟩
  · refine ⟨(sz_list' (n := 2000) (p := 1) (q := 0) ?_ (by rw [List.length_replicate]; decide)).mono (by decide) (by decide), fun es e => by cases e; rw [List.length_replicate]; decide⟩
    intro d h
    rw [(List.mem_replicate.mp h).2]; exact sz_zero
  · exact ⟨⟨rfl, by decide +kernel, by decide⟩, few_of nofun⟩
theorem odd_fine {d : PyData} (h : d ∈ odds) : Fine d := ⟨(odds_sz d h).1.mono (by decide) (by decide), (odds_sz d h).2⟩
theorem int_fine {i : Int} (h : i.natAbs < 2 ^ 200) : Fine (.int i) := ⟨(sz_int h).mono (by decide) (by decide), few_of nofun⟩
theorem list_fine {ds : List PyData} (h : ∀ d ∈ ds, Sz d 6100 4) (n : ds.length ≤ 48) : Fine (.list ds) := ⟨(sz_list' h n).mono (by decide) (by decide), fun es e => by cases e; omega⟩
theorem tuple_fine {ds : List PyData} (h : ∀ d ∈ ds, Sz d 6100 4) (n : ds.length ≤ 48) : Fine (.tuple ds) :=
  ⟨((sz_tuple h).mono (Nat.add_le_add_right (Nat.mul_le_mul_right _ n) 3) (Nat.le_refl _)).mono (by decide) (by decide), few_of nofun⟩
theorem x_oddM {H : Hp} {Q : VK} {E : XK} {b c : Addr} {M : List Addr} (hb : Bag H b c) (bM : b ∈ M) (hM : ∀ m ∈ M, ∃ o, H m = some o) (h : ∀ H' v d, Ext [b] H H' → Bag H' b c → Dn M H' v d → d ∈ odds → Q v H') : spOdd [.ref b] H Q E := ⟨b, c, M, rfl, hb, bM, hM, h⟩
theorem cut_map2 (ns : List Int) (lo hi : Option Int) : ∃ ms : List Int, cutV (ns.map V.int) lo hi = ms.map V.int ∧ (∀ m ∈ ms, m ∈ ns) ∧ ms.length ≤ ns.length := by
  have h := cutV_length (ns.map V.int) lo hi
  unfold cutV at h ⊢
  rw [← List.map_drop, ← List.map_take] at h ⊢
  refine ⟨_, rfl, fun m hm => List.mem_of_mem_drop (List.mem_of_mem_take hm), by simpa using h⟩
theorem DnAll.sz {ms : List Int} {n : Int} (h : ∀ m ∈ ms, 0 ≤ m ∧ m < n) (hn : n ≤ 10) : ∀ d ∈ ms.map PyData.int, Sz d 6100 4 := by
  intro d hd
  obtain ⟨m, hm, rfl⟩ := List.mem_map.mp hd
  have := h m hm
  have b : (11 : Nat) < 2 ^ 200 := by decide
  exact sz_big (by omega)

/-! ### one row -/
def ltD : PyData → PyData → Bool
  | .int a, .int b => decide (a < b)
  | _, _ => false
def boundD : PyData → Bool
  | .tuple [x, y] => inD 0 (10 ^ 30) x && (match x with | .int i => inD i (10 ^ 30) y | _ => false)
  | _ => false
def bundleD (d : PyData) (n : Int) : Bool := match d with
  | .tuple [x, y, z] => inD 1 (10 ^ 18) z && (brokerD x n && (brokerD y n && ltD x y))
  | _ => false
theorem DnAll.two {M : List Addr} {H : Hp} {xs : List V} {ds : List PyData} (h : DnAll M H xs ds) (l : xs.length = 2) : ∃ x y a b, xs = [x, y] ∧ ds = [a, b] ∧ Dn M H x a ∧ Dn M H y b := by
  cases h with
  | nil => simp at l
  | cons h1 h =>
    cases h with
    | nil => simp at l
    | cons h2 h =>
      cases h with
      | nil => exact ⟨_, _, _, _, rfl, rfl, h1, h2⟩
      | cons h3 h => simp at l
theorem DnAll.three {M : List Addr} {H : Hp} {xs : List V} {ds : List PyData} (h : DnAll M H xs ds) (l : xs.length = 3) : ∃ x y z a b c, xs = [x, y, z] ∧ ds = [a, b, c] ∧ Dn M H x a ∧ Dn M H y b ∧ Dn M H z c := by
  cases h with
  | nil => simp at l
  | cons h1 h =>
    obtain ⟨x, y, a, b, rfl, rfl, h2, h3⟩ := h.two (by simpa using l)
    exact ⟨_, _, _, _, _, _, rfl, rfl, h1, h2, h3⟩
theorem bound_len {ds : List PyData} (h : ds.length ≠ 2) : boundD (.tuple ds) = false := by
  match ds, h with
  | [], _ => rfl
  | [_], _ => rfl
  | [_, _], h => exact absurd rfl h
  | _ :: _ :: _ :: _, _ => rfl
theorem bundle_len {ds : List PyData} {n : Int} (h : ds.length ≠ 3) : bundleD (.tuple ds) n = false := by
  match ds, h with
  | [], _ => rfl
  | [_], _ => rfl
  | [_, _], _ => rfl
  | [_, _, _], h => exact absurd rfl h
  | _ :: _ :: _ :: _ :: _, _ => rfl
theorem brokerD_int {d : PyData} {n : Int} (h : brokerD d n = true) : ∃ i, d = .int i := by
  cases d <;> first | exact ⟨_, rfl⟩ | cases h
theorem inD_int {d : PyData} {a b : Int} (h : inD a b d = true) : ∃ i, d = .int i := by
  cases d <;> first | exact ⟨_, rfl⟩ | cases h
theorem Dn.int' {M : List Addr} {H : Hp} {v : V} {i : Int} (h : Dn M H v (.int i)) : v = .int i := by
  cases h; rfl
section
variable {P : Program} {w : World} {K : PySem.W.Frag} {mg : Str → Option Value} {base : Heap} {t0 t1 t2 t3 t4 : Tok}
theorem kn__is_bound {k : Nat} (D : Df K mg "_is_bound" s__is_bound) (B : Bl mg) (c_is_amount : Kn P w K mg base "is_amount" k (sp1 (inD 0 (10 ^ 30)))) : Kn P w K mg base "_is_bound" (k + 1) (sp1 boundD) := by
  refine kn_of D (fun _ _ _ _ _ _ us hl => match us, hl with | [_], _ => rfl) sc__is_bound (fun vs H Q E h => by obtain ⟨v, d, M, rfl, _⟩ := h; rfl) (fun f cd B' fr z H vs Q E hr gd h => ?_)
  obtain ⟨v, d, M, rfl, hd, q⟩ := h
  refine ⟨_, (pss_cons (ps_if (PW.pt (pw_or (pt_not (pt_val (pe_callB call_isD (by rfl) B.isinstance (by decide +kernel) (pa_cons (pv 0) (pa_cons (pe_bltn (v := .ty "tuple") (u := .type "tuple") (by rfl) B.«tuple» (by decide +kernel) rfl) pa_nil))))) (pw_or1 (pt_cmpR op_ne (pe_callB call_len_seq (by rfl) B.len (by decide +kernel) (pa_cons (pv 0) pa_nil)) pe_int (nomark _))))) (pss_one (ps_ret pe_bl)) pss_nil)
  (pss_cons (ps_asg (pv 0) (pg_tup (by rfl) (pgs_cons (pg_name (i := 1) sc__is_bound.nd rfl (.inl rfl)) (pgs_cons (pg_name (i := 2) sc__is_bound.nd rfl (.inl rfl)) pgs_nil))))
  (pss_one (ps_ret (pe_and (pe_own c_is_amount hr gd (by rfl) (pa_cons (pv 1) pa_nil)) (pe_and (pe_own c_is_amount hr gd (by rfl) (pa_cons (pv 2) pa_nil)) (pe_one (pe_cmpR op_le (pv 1) (pv 2) (nomark _))))))))), ?_⟩
  walk_at "xs"
  refine x_iteNB (fun h => ?_) (fun h => ?_)
  · rw [isT_tuple] at h
    have e : boundD d = false := by cases d <;> first | rfl | cases h
    walk_at "xs"
    rw [← e]; exact q
  · rw [isT_tuple] at h
    cases hd with
    | @tup a xs ds ha hm hxs =>
      have lx := hxs.length
      walk_at "xs"
      refine x_iteN (fun h => ?_) (fun h => ?_)
      · have e : boundD (.tuple ds) = false := bound_len (by omega)
        walk_at "xs"
        rw [← e]; exact q
      · obtain ⟨x, y, dx, dy, rfl, rfl, hx, hy⟩ := hxs.two (by omega)
        walk_at "xs"
        refine x_sp1 hx ?_
        walk_at "xs"
        refine x_iteB (fun h1 => ?_) (fun h1 => ?_)
        · obtain ⟨i, rfl⟩ := inD_int h1
          obtain rfl := hx.int'
          walk_at "xs"
          refine x_sp1 hy ?_
          walk_at "xs"
          refine x_iteB (fun h2 => ?_) (fun h2 => ?_)
          · obtain ⟨j, rfl⟩ := inD_int h2
            obtain rfl := hy.int'
            walk_at "xs"
            have e : boundD (.tuple [.int i, .int j]) = decide (i ≤ j) := by
              show (inD 0 (10 ^ 30) (.int i) && (decide (i ≤ j) && decide (j ≤ 10 ^ 30))) = _
              have h2 : (decide (0 ≤ j) && decide (j ≤ 10 ^ 30)) = true := h2
              rw [Bool.and_eq_true] at h2
              rw [h1, h2.2, Bool.true_and, Bool.and_true]
            rw [← e]; exact q
          · have e : boundD (.tuple [.int i, dy]) = false := by
              show (inD 0 (10 ^ 30) (.int i) && inD i (10 ^ 30) dy) = false
              rw [h1, Bool.true_and]
              cases dy <;> first | rfl | skip
              rename_i j
              have h1 : (decide (0 ≤ i) && decide (i ≤ 10 ^ 30)) = true := h1
              have h2 : (decide (0 ≤ j) && decide (j ≤ 10 ^ 30)) = false := h2
              show (decide (i ≤ j) && decide (j ≤ 10 ^ 30)) = false
              simp only [Bool.and_eq_true, Bool.and_eq_false_iff, decide_eq_true_eq, decide_eq_false_iff_not] at h1 h2 ⊢
              omega
            rw [← e]; exact q
        · have e : boundD (.tuple [dx, dy]) = false := by
            show (inD 0 (10 ^ 30) dx && _) = false
            rw [h1, Bool.false_and]
          rw [← e]; exact q
    | _ => cases h
theorem kn__is_bundle {k : Nat} (D : Df K mg "_is_bundle" s__is_bundle) (B : Bl mg) (c_is_broker : Kn P w K mg base "is_broker" k (sp2 brokerD)) (c_is_count : Kn P w K mg base "is_count" k (sp1 (inD 1 (10 ^ 18)))) : Kn P w K mg base "_is_bundle" (k + 1) (sp2 bundleD) := by
  refine kn_of D (fun _ _ _ _ _ _ us hl => match us, hl with | [_, _], _ => rfl) sc__is_bundle (fun vs H Q E h => by obtain ⟨v, d, M, n, rfl, _⟩ := h; rfl) (fun f cd B' fr z H vs Q E hr gd h => ?_)
  obtain ⟨v, d, M, n, rfl, hd, q⟩ := h
  refine ⟨_, (pss_cons (ps_if (PW.pt (pw_or (pt_not (pt_val (pe_callB call_isD (by rfl) B.isinstance (by decide +kernel) (pa_cons (pv 0) (pa_cons (pe_bltn (v := .ty "tuple") (u := .type "tuple") (by rfl) B.«tuple» (by decide +kernel) rfl) pa_nil))))) (pw_or1 (pt_cmpR op_ne (pe_callB call_len_seq (by rfl) B.len (by decide +kernel) (pa_cons (pv 0) pa_nil)) pe_int (nomark _))))) (pss_one (ps_ret pe_bl)) pss_nil)
  (pss_cons (ps_asg (pv 0) (pg_tup (by rfl) (pgs_cons (pg_name (i := 2) sc__is_bundle.nd rfl (.inl rfl)) (pgs_cons (pg_name (i := 3) sc__is_bundle.nd rfl (.inl rfl)) (pgs_cons (pg_name (i := 4) sc__is_bundle.nd rfl (.inl rfl)) pgs_nil)))))
  (pss_one (ps_ret (pe_and (pe_own c_is_broker hr gd (by rfl) (pa_cons (pv 2) (pa_cons (pv 1) pa_nil))) (pe_and (pe_own c_is_broker hr gd (by rfl) (pa_cons (pv 3) (pa_cons (pv 1) pa_nil))) (pe_and (pe_cmpR op_lt (pv 2) (pv 3) (nomark _)) (pe_one (pe_own c_is_count hr gd (by rfl) (pa_cons (pv 4) pa_nil)))))))))), ?_⟩
  walk_at "xs"
  refine x_iteNB (fun h => ?_) (fun h => ?_)
  · rw [isT_tuple] at h
    have e : bundleD d n = false := by cases d <;> first | rfl | cases h
    walk_at "xs"
    rw [← e]; exact q
  · rw [isT_tuple] at h
    cases hd with
    | @tup a xs ds ha hm hxs =>
      have lx := hxs.length
      walk_at "xs"
      refine x_iteN (fun h => ?_) (fun h => ?_)
      · have e : bundleD (.tuple ds) n = false := bundle_len (by omega)
        walk_at "xs"
        rw [← e]; exact q
      · obtain ⟨x, y, c, dx, dy, dc, rfl, rfl, hx, hy, hc⟩ := hxs.three (by omega)
        have e0 : bundleD (.tuple [dx, dy, dc]) n = (inD 1 (10 ^ 18) dc && (brokerD dx n && (brokerD dy n && ltD dx dy))) := rfl
        rw [e0] at q
        walk_at "xs"
        refine x_sp2 hx ?_
        walk_at "xs"
        refine x_iteB (fun h1 => ?_) (fun h1 => ?_)
        · obtain ⟨i, rfl⟩ := brokerD_int h1
          obtain rfl := hx.int'
          walk_at "xs"
          refine x_sp2 hy ?_
          walk_at "xs"
          refine x_iteB (fun h2 => ?_) (fun h2 => ?_)
          · obtain ⟨j, rfl⟩ := brokerD_int h2
            obtain rfl := hy.int'
            walk_at "xs"
            have e : ltD (.int i) (.int j) = decide (i < j) := rfl
            refine x_ite (fun h3 => ?_) (fun h3 => ?_)
            · walk_at "xs"
              refine x_sp1 hc ?_
              rw [h1, h2, e, decide_eq_true h3, Bool.and_true, Bool.and_true, Bool.and_true] at q
              exact q
            · rw [h1, h2, e, decide_eq_false h3, Bool.and_false, Bool.and_false, Bool.and_false] at q
              exact q
          · rw [h2, Bool.false_and, Bool.and_false, Bool.and_false] at q; exact q
        · rw [h1, Bool.false_and, Bool.and_false] at q; exact q
    | _ => cases h
end
/-! ### all rows -/
def boundsD : PyData → Bool
  | .list ds => (decide (2 ≤ (ds.length : Int)) && decide ((ds.length : Int) ≤ 10)) && (ds.map boundD).all id
  | _ => false
def spBounds : Sp := fun vs H Q _ => ∃ v d M, vs = [v] ∧ Dn M H v d ∧ fewD d ∧ ∀ H', Same H H' → Q (.bl (boundsD d)) H'
theorem x_bounds {v : V} {d : PyData} {M : List Addr} {H : Hp} {Q : VK} {E : XK} (hd : Dn M H v d) (few : fewD d) (h : ∀ H', Same H H' → Q (.bl (boundsD d)) H') : spBounds [v] H Q E := ⟨v, d, M, rfl, hd, few, h⟩
section
variable {P : Program} {w : World} {K : PySem.W.Frag} {mg : Str → Option Value} {base : Heap} {t0 t1 t2 t3 t4 : Tok}
theorem kn_are_bounds {k : Nat} (D : Df K mg "are_bounds" s_are_bounds) (B : Bl mg) (CS : Cs mg t0 t1 t2 t3 t4) (c__is_bound : Kn P w K mg base "_is_bound" k (sp1 boundD)) : Kn P w K mg base "are_bounds" (k + 1) spBounds := by
  refine kn_of D (fun _ _ _ _ _ _ us hl => match us, hl with | [_], _ => rfl) sc_are_bounds (fun vs H Q E h => by obtain ⟨v, d, M, rfl, _⟩ := h; rfl) (fun f cd B' fr z H vs Q E hr gd h => ?_)
  obtain ⟨v, d, M, rfl, hd, few, q⟩ := h
  refine ⟨_, (pss_cons (ps_if (PW.pt (pw_or (pt_not (pt_val (pe_callB call_isD (by rfl) B.isinstance (by decide +kernel) (pa_cons (pv 0) (pa_cons (pe_bltn (v := .ty "list") (u := .type "list") (by rfl) B.«list» (by decide +kernel) rfl) pa_nil))))) (pw_or1 (pt_not (pt_chain op_le op_le (pe_glob (v := .int (2)) (by rfl) CS.LEAST_SIZE ⟨_, rfl⟩) (pe_callB call_len_seq (by rfl) B.len (by decide +kernel) (pa_cons (pv 0) pa_nil)) (pe_glob (v := .int (10)) (by rfl) CS.MOST_SIZE ⟨_, rfl⟩)))))) (pss_one (ps_ret pe_bl)) pss_nil)
  (pss_one (ps_ret (pe_callB (cr_all rfl) (by rfl) B.all (by decide +kernel) (pa_cons (pe_lc (own := [("row", 1)]) rfl sc_are_bounds.nd (pi_list (pv 0)) (blkOk_by (N := ["thing", "row"]) (sc := defScope s_are_bounds) (by decide +kernel)) (fun _ _ _ _ _ => (pg_name (i := 1) sc_are_bounds.nd rfl (.inl rfl))) (fun _ _ _ _ _ => pts_nil) (fun _ _ _ _ _ => (pe_own c__is_bound hr gd (by rfl) (pa_cons (pv 1) pa_nil)))) pa_nil))))), ?_⟩
  walk_at "xs"
  refine x_iteNB (fun h => ?_) (fun h => ?_)
  · rw [isT_list] at h
    have e : boundsD d = false := by cases d <;> first | rfl | cases h
    walk_at "xs"
    rw [← e]; exact q _ (Same.refl H)
  · rw [isT_list] at h
    cases hd with
    | @lst a xs ds ha hm hxs =>
      have len := few ds rfl
      have lx := hxs.length
      have e0 : boundsD (.list ds) = ((decide (2 ≤ (xs.length : Int)) && decide ((xs.length : Int) ≤ 10)) && (ds.map boundD).all id) := by rw [lx]; rfl
      rw [e0] at q
      walk_at "xs"
      refine x_ite (fun h1 => ?_) (fun h1 => ?_)
      · walk_at "xs"
        refine x_iteN (fun h2 => ?_) (fun h2 => ?_)
        · walk_at "xs"
          rw [decide_eq_false h2, Bool.and_false, Bool.false_and] at q
          exact q _ (Same.refl H)
        · rw [decide_eq_true h1, decide_eq_true h2, Bool.true_and, Bool.true_and] at q
          walk_at "xs"
          intro L hL
          have haL : a ≠ L := ne_of_none ha hL
          refine lc_list (K := K) (xs := xs) (fun i H' => H' = upd H L (.lst (((ds.take i).map boundD).map V.bl))) rfl ?_ ?_ ?_
          · rintro i _ _ rfl
            exact SqL.of (by rw [upd_ne haL]; exact ha)
          · rintro i x _ hx rfl
            obtain ⟨d, hd, dx⟩ := hxs.get hx
            have hi := (List.getElem?_eq_some_iff.mp hx).1
            walk_at "xs"
            refine x_wiped rfl ?_
            walk_at "xs"
            refine x_sp1 (dx.ext (Ext.same (same_upd hL))) ?_
            refine x_acc upd_same ?_ ?_
            · rw [List.length_map, List.length_map, List.length_take, sizeLine_eq]; omega
            · show upd _ L _ = _
              rw [upd_upd]
              congr 2
              rw [List.take_add_one, hd, List.map_append, List.map_append]
              rfl
          · rintro _ rfl
            rw [lx, List.take_length]
            walk_at "xs"
            exact q _ (same_upd hL)
      · walk_at "xs"
        rw [decide_eq_false h1, Bool.false_and, Bool.false_and] at q
        exact q _ (Same.refl H)
    | _ => cases h
end
def pairD : PyData → List Int
  | .tuple (.int a :: .int b :: _) => [a, b]
  | _ => []
def tupD (k : List Int) : PyData := .tuple (k.map PyData.int)
def bundlesD (d : PyData) (n : Int) : Bool := match d with
  | .list ds => decide ((ds.length : Int) ≤ 45) && ((ds.map fun d => bundleD d n).all id && decide ((ds.map pairD).Nodup))
  | _ => false
def spBundles : Sp := fun vs H Q _ => ∃ v d M n, vs = [v, .int n] ∧ Dn M H v d ∧ fewD d ∧ ∀ H', Same H H' → Q (.bl (bundlesD d n)) H'
theorem x_bundles {v : V} {d : PyData} {M : List Addr} {n : Int} {H : Hp} {Q : VK} {E : XK} (hd : Dn M H v d) (few : fewD d) (h : ∀ H', Same H H' → Q (.bl (bundlesD d n)) H') : spBundles [v, .int n] H Q E := ⟨v, d, M, n, rfl, hd, few, h⟩
theorem bundle_at {d : PyData} {n : Int} (h : bundleD d n = true) : ∃ a b c, d = .tuple [.int a, .int b, .int c] := by
  unfold bundleD at h
  split at h
  · rename_i x y z
    rw [Bool.and_eq_true, Bool.and_eq_true, Bool.and_eq_true] at h
    obtain ⟨h1, h2, h3, h4⟩ := h
    obtain ⟨a, rfl⟩ := brokerD_int h2
    obtain ⟨b, rfl⟩ := brokerD_int h3
    obtain ⟨c, rfl⟩ := inD_int h1
    exact ⟨a, b, c, rfl⟩
  · cases h
theorem Dn.tup3 {M : List Addr} {H : Hp} {v : V} {a b c : Int} (h : Dn M H v (.tuple [.int a, .int b, .int c])) : ∃ p, v = .ref p ∧ p ∉ M ∧ H p = some (.tup [.int a, .int b, .int c]) := by
  cases h with
  | tup h1 h2 h3 =>
    obtain rfl := DnAll.toInts (ms := [a, b, c]) h3
    exact ⟨_, rfl, h2, h1⟩
theorem row_at {M : List Addr} {H : Hp} {xs : List V} {ds : List PyData} {n : Int} {i : Nat} {x : V} (hxs : DnAll M H xs ds) (hall : (ds.map fun d => bundleD d n).all id = true) (hx : xs[i]? = some x) :
    ∃ p a b c, x = .ref p ∧ H p = some (.tup [.int a, .int b, .int c]) ∧ (ds.map pairD)[i]? = some [a, b] := by
  obtain ⟨d, hd, dx⟩ := hxs.get hx
  have hb : bundleD d n = true := by
    rw [List.all_eq_true] at hall
    exact hall _ (List.mem_map.mpr ⟨d, List.mem_of_getElem? hd, rfl⟩)
  obtain ⟨a, b, c, rfl⟩ := bundle_at hb
  obtain ⟨p, rfl, _, hp⟩ := dx.tup3
  exact ⟨p, a, b, c, rfl, hp, by rw [List.getElem?_map, hd]; rfl⟩
section
variable {P : Program} {w : World} {K : PySem.W.Frag} {mg : Str → Option Value} {base : Heap} {t0 t1 t2 t3 t4 : Tok}
theorem kn_are_bundles {k : Nat} (D : Df K mg "are_bundles" s_are_bundles) (B : Bl mg) (CS : Cs mg t0 t1 t2 t3 t4) (c__is_bundle : Kn P w K mg base "_is_bundle" k (sp2 bundleD)) : Kn P w K mg base "are_bundles" (k + 1) spBundles := by
  refine kn_of D (fun _ _ _ _ _ _ us hl => match us, hl with | [_, _], _ => rfl) sc_are_bundles (fun vs H Q E h => by obtain ⟨v, d, M, n, rfl, _⟩ := h; rfl) (fun f cd B' fr z H vs Q E hr gd h => ?_)
  obtain ⟨v, d, M, n, rfl, hd, few, q⟩ := h
  refine ⟨_, (pss_cons (ps_if (PW.pt (pw_or (pt_not (pt_val (pe_callB call_isD (by rfl) B.isinstance (by decide +kernel) (pa_cons (pv 0) (pa_cons (pe_bltn (v := .ty "list") (u := .type "list") (by rfl) B.«list» (by decide +kernel) rfl) pa_nil))))) (pw_or1 (pt_cmpR op_gt (pe_callB call_len_seq (by rfl) B.len (by decide +kernel) (pa_cons (pv 0) pa_nil)) (pe_glob (v := .int (45)) (by rfl) CS.MOST_BUNDLES ⟨_, rfl⟩) (nomark _))))) (pss_one (ps_ret pe_bl)) pss_nil)
  (pss_cons (ps_if (pt_not (pt_val (pe_callB (cr_all rfl) (by rfl) B.all (by decide +kernel) (pa_cons (pe_lc (own := [("row", 2)]) rfl sc_are_bundles.nd (pi_list (pv 0)) (blkOk_by (N := ["thing", "size", "row"]) (sc := defScope s_are_bundles) (by decide +kernel)) (fun _ _ _ _ _ => (pg_name (i := 2) sc_are_bundles.nd rfl (.inl rfl))) (fun _ _ _ _ _ => pts_nil) (fun _ _ _ _ _ => (pe_own c__is_bundle hr gd (by rfl) (pa_cons (pv 2) (pa_cons (pv 1) pa_nil))))) pa_nil)))) (pss_one (ps_ret pe_bl)) pss_nil)
  (pss_one (ps_ret (pe_cmpR op_eq (pe_callB call_lenT (by rfl) B.len (by decide +kernel) (pa_cons (pe_setC (Z := fun a => SetTO P w a []) (add := addT K P w) (own := [("row", 2)]) rfl sc_are_bundles.nd (pi_list (pv 0)) (blkOk_by (N := ["thing", "size", "row"]) (sc := defScope s_are_bundles) (by decide +kernel)) (fun _ _ _ _ _ => (pg_name (i := 2) sc_are_bundles.nd rfl (.inl rfl))) (fun _ _ _ _ _ => pts_nil) (fun _ _ _ _ _ => (pe_tup (pa_cons (pe_ix (r := rIxT K) ix_tup (pv 2) pe_int (fun _ _ => rfl)) (pa_cons (pe_ix (r := rIxT K) ix_tup (pv 2) pe_int (fun _ _ => rfl)) pa_nil)))) (fun _ _ _ _ _ => addT_ok hr.units) freshT) pa_nil)) (pe_callB call_len_seq (by rfl) B.len (by decide +kernel) (pa_cons (pv 0) pa_nil)) (nomark _)))))), ?_⟩
  walk_at "xs"
  refine x_iteNB (fun h => ?_) (fun h => ?_)
  · rw [isT_list] at h
    have e : bundlesD d n = false := by cases d <;> first | rfl | cases h
    walk_at "xs"
    rw [← e]; exact q _ (Same.refl H)
  · rw [isT_list] at h
    cases hd with
    | @lst a xs ds ha hm hxs =>
      have len := few ds rfl
      have lx := hxs.length
      have e0 : bundlesD (.list ds) n = (decide ((xs.length : Int) ≤ 45) && ((ds.map fun d => bundleD d n).all id && decide ((ds.map pairD).Nodup))) := by rw [lx]; rfl
      rw [e0] at q
      walk_at "xs"
      refine x_ite (fun h1 => ?_) (fun h1 => ?_)
      · walk_at "xs"
        rw [decide_eq_false (by omega), Bool.false_and] at q
        exact q _ (Same.refl H)
      · rw [decide_eq_true (by omega), Bool.true_and] at q
        walk_at "xs"
        intro L hL
        have haL : a ≠ L := ne_of_none ha hL
        refine lc_list (K := K) (xs := xs) (fun i H' => H' = upd H L (.lst (((ds.take i).map fun d => bundleD d n).map V.bl))) rfl ?_ ?_ ?_
        · rintro i _ _ rfl
          exact SqL.of (by rw [upd_ne haL]; exact ha)
        · rintro i x _ hx rfl
          obtain ⟨d, hd, dx⟩ := hxs.get hx
          have hi := (List.getElem?_eq_some_iff.mp hx).1
          walk_at "xs"
          refine x_wiped rfl ?_
          walk_at "xs"
          refine x_sp2 (dx.ext (Ext.same (same_upd hL))) ?_
          refine x_acc upd_same ?_ ?_
          · rw [List.length_map, List.length_map, List.length_take, sizeLine_eq]; omega
          · show upd _ L _ = _
            rw [upd_upd]
            congr 2
            rw [List.take_add_one, hd, List.map_append, List.map_append]
            rfl
        · rintro _ rfl
          rw [lx, List.take_length]
          have S1 := same_upd hL (o := .lst ((ds.map fun d => bundleD d n).map V.bl))
          walk_at "xs"
          refine x_iteNB (fun h2 => ?_) (fun h2 => ?_)
          · walk_at "xs"
            rw [h2, Bool.false_and] at q
            exact q _ S1
          · rw [h2, Bool.true_and] at q
            have ha2 := S1 _ _ ha
            have hxs2 := hxs.ext (Ext.same S1)
            generalize upd H L _ = H1 at *
            have lp : (ds.map pairD).length = xs.length := by rw [List.length_map, lx]
            generalize hps : ds.map pairD = ps at *
            walk_at "xs"
            intro S hS
            refine setc_list (K := K) (a := a) (L := S) (Z := fun a => SetTO P w a []) (add := addT K P w) (xs := xs) (fun i H' => ∃ L : List (Addr × List Int), H' S = some (SetTO P w S L) ∧ (∀ q ∈ L, H' q.1 = some (.tup (q.2.map V.int))) ∧ L.length ≤ i ∧ (∀ k, k ∈ L.map (·.2) ↔ k ∈ ps.take i) ∧ (L.length = i ↔ (ps.take i).Nodup) ∧ Same H1 H') ?_ ?_ ?_ ?_
            · exact ⟨[], upd_same, by simp, Nat.le_refl _, by simp, by simp, same_upd hS⟩
            · rintro i H' _ ⟨L, _, _, _, _, _, SS⟩
              exact SqL.of (SS _ _ ha2)
            · rintro i x H' hx ⟨L, hLS, hT, ll, hk, hn, SS⟩
              obtain ⟨p, a', b', c', rfl, hp, hpi⟩ := row_at hxs2 h2 hx
              rw [hps] at hpi
              have hi := (List.getElem?_eq_some_iff.mp hx).1
              have hp := SS _ _ hp
              walk_at "xs"
              refine x_wiped rfl ?_
              walk_at "xs"
              intro t ht
              have tk : ps.take (i + 1) = ps.take i ++ [[a', b']] := by rw [List.take_add_one, hpi]; rfl
              have S2 := same_upd ht (o := .tup [.int a', .int b'])
              refine ⟨t, [a', b'], L, rfl, SqT.of upd_same, S2 _ _ hLS, fun q hq => SqT.of (S2 _ _ (hT q hq)), by omega, fun L' c1 c2 => ?_⟩
              have tS : t ≠ S := ne_of_none2 ht hLS
              have keep : Same H1 (upd (upd H' t (.tup [.int a', .int b'])) S (SetTO P w S L')) := fun z o e => by
                rw [upd_ne (ne_of_none e hS)]; exact S2 _ _ (SS _ _ e)
              have notS : ∀ q : Addr × List Int, H' q.1 = some (.tup (q.2.map V.int)) → q.1 ≠ S := fun q e x => by
                rw [x, hLS] at e; cases e
              have tups : ∀ q ∈ (t, [a', b']) :: L, (upd (upd H' t (.tup [.int a', .int b'])) S (SetTO P w S L')) q.1 = some (.tup (q.2.map V.int)) := by
                intro q hq
                rcases List.mem_cons.mp hq with rfl | hq
                · rw [upd_ne tS, upd_same]; rfl
                · rw [upd_ne (notS q (hT q hq))]; exact S2 _ _ (hT q hq)
              by_cases hin : [a', b'] ∈ L.map (·.2)
              · have e := c1 hin
                subst e
                refine ⟨_, upd_same, fun q hq => tups q (List.mem_cons_of_mem _ hq), by omega, fun k => ?_, ?_, keep⟩
                · rw [tk, List.mem_append, ← hk k]
                  constructor
                  · exact .inl
                  · rintro (h | h)
                    · exact h
                    · simp at h; subst h; exact hin
                · rw [tk]
                  constructor
                  · intro e; omega
                  · intro nd
                    exfalso
                    rw [List.nodup_append] at nd
                    exact nd.2.2 _ ((hk _).mp hin) _ (by simp) rfl
              · have pm := c2 hin
                refine ⟨_, upd_same, fun q hq => tups q (pm.mem_iff.mp hq), by rw [pm.length_eq]; simp; omega, fun k => ?_, ?_, keep⟩
                · rw [tk, List.mem_append, ← hk k, (pm.map (·.2)).mem_iff]
                  simp [or_comm]
                · rw [tk, pm.length_eq]
                  have h3 := hn
                  rw [List.length_cons, Nat.add_right_cancel_iff, hn, List.nodup_append]
                  constructor
                  · intro nd
                    refine ⟨nd, by simp, fun u hu v hv e => ?_⟩
                    simp at hv; subst hv; subst e
                    exact hin ((hk _).mpr hu)
                  · exact fun h => h.1
            · rintro H' ⟨L, hLS, hT, ll, hk, hn, SS⟩
              walk_at "xs"
              refine ⟨S, L, rfl, hLS, fun q hq => SqT.of (hT q hq), ?_⟩
              have ha3 := SS _ _ ha2
              walk_at "xs"
              have e : decide (ps.Nodup) = decide ((L.length : Int) = xs.length) := by
                rw [List.take_of_length_le (by omega)] at hn
                exact decide_eq_decide.mpr (by rw [← hn]; omega)
              rw [← e]
              exact q _ (S1.trans SS)
    | _ => cases h
end
/-! ### the cluster -/
def F3 (B U N : Addr) : List (Str × V) := putF "_numbers" (.ref N) (putF "_bundles" (.ref U) (putF "_bounds" (.ref B) []))
theorem f3_bundles (B U N : Addr) : (F3 B U N).lookup ("_bundles" : Str) = some (.ref U) := by
  unfold F3
  rw [lookup_putF, if_neg (by decide), lookup_putF, if_pos rfl]
theorem f3_bounds (B U N : Addr) : (F3 B U N).lookup ("_bounds" : Str) = some (.ref B) := by
  unfold F3
  rw [lookup_putF, if_neg (by decide), lookup_putF, if_neg (by decide), lookup_putF, if_pos rfl]
theorem f3_none (B U N : Addr) {f : Str} (a : f ≠ "_numbers") (b : f ≠ "_bundles") (c : f ≠ "_bounds") : (F3 B U N).lookup f = none := by
  unfold F3
  rw [lookup_putF, if_neg a, lookup_putF, if_neg b, lookup_putF, if_neg c]; rfl
theorem f1_len {f : Str} {v : V} : (putF f v []).length < 1000 := by
  have := length_putF f v []
  simp only [List.length_nil] at this
  omega
theorem f2_len {f g : Str} {v u : V} : (putF f v (putF g u [])).length < 1000 := by
  have := length_putF f v (putF g u [])
  have := length_putF g u []
  simp only [List.length_nil] at this
  omega
/-- the class's facts -/
structure Cc (K : PySem.W.Frag) (mg : Str → Option Value) (C : Addr) : Prop where
  ck : Ck K mg "Cluster" C
  bounds : NoAttr K C "_bounds"
  bundles : NoAttr K C "_bundles"
  numbers : NoAttr K C "_numbers"
/-- the places of the first i rows by their brokers -/
def nums (rs : List PyData) : Nat → List (List Key × V)
  | 0 => []
  | i + 1 => match rs[i]? with
    | some (.tuple (.int a :: .int b :: _)) => putK (nums rs i) [.inl a, .inl b] (.int (i : Nat))
    | _ => nums rs i
/-- the same, either way round -/
def nums2 (rs : List PyData) : Nat → List (List Key × V)
  | 0 => []
  | i + 1 => match rs[i]? with
    | some (.tuple (.int a :: .int b :: _)) => putK (putK (nums2 rs i) [.inl a, .inl b] (.int (i : Nat))) [.inl b, .inl a] (.int (i : Nat))
    | _ => nums2 rs i
def numsD : PyData → List (List Key × V)
  | .list rs => nums rs rs.length
  | _ => []
theorem nums2_eq {rs : List PyData} {n : Int} (hall : (rs.map fun d => bundleD d n).all id = true) (i j : Int) : ∀ k, k ≤ rs.length →
    valV (nums2 rs k) [.inl i, .inl j] = valV (nums rs k) [.inl (if j < i then j else i), .inl (if j > i then j else i)]
  | 0, _ => rfl
  | k + 1, hk => by
    have ih := nums2_eq hall i j k (by omega)
    have hd : rs[k]? = some rs[k] := List.getElem?_eq_getElem (by omega)
    have hb : bundleD rs[k] n = true := by
      rw [List.all_eq_true] at hall
      exact hall _ (List.mem_map.mpr ⟨_, List.getElem_mem (by omega), rfl⟩)
    obtain ⟨a, b, c, e⟩ := bundle_at hb
    rw [e] at hd hb
    have hb : (inD 1 (10 ^ 18) (.int c) && (brokerD (.int a) n && (brokerD (.int b) n && decide (a < b)))) = true := hb
    rw [Bool.and_eq_true, Bool.and_eq_true, Bool.and_eq_true, decide_eq_true_eq] at hb
    have ab := hb.2.2.2
    have e1 : nums2 rs (k + 1) = putK (putK (nums2 rs k) [.inl a, .inl b] (.int (k : Nat))) [.inl b, .inl a] (.int (k : Nat)) := by
      show (match rs[k]? with | some (.tuple (.int a :: .int b :: _)) => putK (putK (nums2 rs k) [.inl a, .inl b] (.int (k : Nat))) [.inl b, .inl a] (.int (k : Nat)) | _ => nums2 rs k) = _
      rw [hd]
    have e2 : nums rs (k + 1) = putK (nums rs k) [.inl a, .inl b] (.int (k : Nat)) := by
      show (match rs[k]? with | some (.tuple (.int a :: .int b :: _)) => putK (nums rs k) [.inl a, .inl b] (.int (k : Nat)) | _ => nums rs k) = _
      rw [hd]
    rw [e1, e2, valV_put, valV_put, valV_put, ih]
    have k1 : ([.inl i, .inl j] : List Key) = [.inl b, .inl a] ↔ i = b ∧ j = a := by simp
    have k2 : ([.inl i, .inl j] : List Key) = [.inl a, .inl b] ↔ i = a ∧ j = b := by simp
    have k3 : ([.inl (if j < i then j else i), .inl (if j > i then j else i)] : List Key) = [.inl a, .inl b] ↔ (i = b ∧ j = a) ∨ (i = a ∧ j = b) := by
      simp only [List.cons.injEq, Sum.inl.injEq, and_true]
      by_cases h : j < i
      · rw [if_pos h, if_neg (by omega)]; omega
      · rw [if_neg h]
        by_cases h2 : j > i
        · rw [if_pos h2]; omega
        · rw [if_neg h2]; omega
    by_cases h1 : i = b ∧ j = a
    · rw [if_pos (k1.mpr h1), if_pos (k3.mpr (.inl h1))]
    · rw [if_neg (fun z => h1 (k1.mp z))]
      by_cases h2 : i = a ∧ j = b
      · rw [if_pos (k2.mpr h2), if_pos (k3.mpr (.inr h2))]
      · rw [if_neg (fun z => h2 (k2.mp z)), if_neg (fun z => (k3.mp z).elim h1 h2)]
theorem nums2_len (rs : List PyData) : ∀ i, (nums2 rs i).length ≤ 2 * i
  | 0 => Nat.le_refl _
  | i + 1 => by
    have ih := nums2_len rs i
    show (match rs[i]? with | some (.tuple (.int a :: .int b :: _)) => putK (putK (nums2 rs i) [.inl a, .inl b] (.int (i : Nat))) [.inl b, .inl a] (.int (i : Nat)) | _ => nums2 rs i).length ≤ _
    split
    · rename_i a b r _
      have l1 := length_putK (nums2 rs i) [Sum.inl a, Sum.inl b] (V.int (i : Nat))
      have l2 := length_putK (putK (nums2 rs i) [Sum.inl a, Sum.inl b] (V.int (i : Nat))) [Sum.inl b, Sum.inl a] (V.int (i : Nat))
      omega
    · omega
/-- an instance that keeps these data -/
def Clu (C : Addr) (M : List Addr) (H : Hp) (x : Addr) (d1 d2 : PyData) : Prop := ∃ dx B U N kvs, H x = some (.ins C dx (F3 B U N)) ∧ x ∉ M ∧ Dn M H (.ref B) d1 ∧ Dn M H (.ref U) d2 ∧ H N = some (.dT kvs) ∧ N ∉ M ∧ ∀ i j : Int, valV kvs [.inl i, .inl j] = valV (numsD d2) [.inl (if j < i then j else i), .inl (if j > i then j else i)]
theorem Clu.ext {C : Addr} {M : List Addr} {H H' : Hp} {x : Addr} {d1 d2 : PyData} (c : Clu C M H x d1 d2) (e : Ext M H H') : Clu C M H' x d1 d2 := by
  obtain ⟨dx, B, U, N, kvs, h1, h2, h3, h4, h5, h6, h7⟩ := c
  exact ⟨dx, B, U, N, kvs, e _ _ h2 h1, h2, h3.ext e, h4.ext e, e _ _ h6 h5, h6, h7⟩
/-- a list's items, away from M -/
def Items (M : List Addr) (H : Hp) (v : V) (d : PyData) : Prop := ∀ a xs ds, v = .ref a → H a = some (.lst xs) → d = .list ds → DnAll M H xs ds
theorem Dn.items {M : List Addr} {H : Hp} {v : V} {d : PyData} (h : Dn M H v d) : Items M H v d := by
  rintro a xs ds rfl e rfl
  cases h with
  | lst e1 m A => rw [e1] at e; cases e; exact A
def spKeep (C : Addr) : Sp := fun vs H Q _ => ∃ M x dx v1 v2 ds1 ds2 n, vs = [.ref x, v1, v2] ∧ (∀ m ∈ M, ∃ o, H m = some o) ∧ x ∉ M ∧ H x = some (.ins C dx []) ∧ (∃ a xs, v1 = .ref a ∧ H a = some (.lst xs) ∧ a ≠ x ∧ DnAll (x :: M) H xs ds1) ∧ (∃ a xs, v2 = .ref a ∧ H a = some (.lst xs) ∧ a ≠ x ∧ DnAll (x :: M) H xs ds2) ∧
  (ds2.map fun d => bundleD d n).all id = true ∧ ds2.length ≤ 45 ∧ ∀ H', Ext [x] H H' → Clu C M H' x (.list ds1) (.list ds2) → Q .non H'
def spInit (C : Addr) : Sp := fun vs H Q _ => ∃ M x dx v1 v2 ds1 ds2, vs = [.ref x, v1, v2] ∧ (∀ m ∈ M, ∃ o, H m = some o) ∧ x ∉ M ∧ H x = some (.ins C dx []) ∧ Dn (x :: M) H v1 (.list ds1) ∧ Dn (x :: M) H v2 (.list ds2) ∧
  boundsD (.list ds1) = true ∧ bundlesD (.list ds2) ds1.length = true ∧ ∀ H', Ext [x] H H' → Clu C M H' x (.list ds1) (.list ds2) → Q .non H'
theorem fresh_out {M : List Addr} {H : Hp} {p : Addr} (hM : ∀ m ∈ M, ∃ o, H m = some o) (hp : H p = none) : p ∉ M := fun h => by
  obtain ⟨o, e⟩ := hM p h
  rw [e] at hp; cases hp
theorem bounds_len {ds : List PyData} (h : boundsD (.list ds) = true) : ds.length ≤ 10 := by
  have h : ((decide (2 ≤ (ds.length : Int)) && decide ((ds.length : Int) ≤ 10)) && (ds.map boundD).all id) = true := h
  rw [Bool.and_eq_true, Bool.and_eq_true, decide_eq_true_eq, decide_eq_true_eq] at h
  omega
theorem bundles_len {ds : List PyData} {n : Int} (h : bundlesD (.list ds) n = true) : ds.length ≤ 45 ∧ (ds.map fun d => bundleD d n).all id = true := by
  have h : (decide ((ds.length : Int) ≤ 45) && ((ds.map fun d => bundleD d n).all id && decide ((ds.map pairD).Nodup))) = true := h
  rw [Bool.and_eq_true, Bool.and_eq_true, decide_eq_true_eq] at h
  exact ⟨by omega, h.2.1⟩
section
variable {P : Program} {w : World} {K : PySem.W.Frag} {mg : Str → Option Value} {base : Heap} {t0 t1 t2 t3 t4 : Tok} {C : Addr}
theorem km_keep {k : Nat} (D : Dm K C "_keep" "Cluster._keep" s_Clusterkeep) (B : Bl mg) (cc : Cc K mg C) : Km P w K mg base C "_keep" (k + 1) (spKeep C) := by
  refine km_of D (fun _ _ _ _ _ _ us hl => match us, hl with | [_, _, _], _ => rfl) sc_Clusterkeep (fun vs H Q E h => by obtain ⟨M, x, dx, v1, v2, ds1, ds2, n, rfl, _⟩ := h; rfl) (fun f cd B' fr z H vs Q E hr gd h => ?_)
  obtain ⟨M, x, dx, v1, v2, ds1, ds2, n, rfl, hM, nx, hx, hd1, hd2, hall, hlen, q⟩ := h
  refine ⟨_, (pss_cons (ps_fld (pv 0) (pe_callTy call_list_of (by rfl) B.«list» (by decide +kernel) (pa_cons (pv 1) pa_nil)) (by rfl))
  (pss_cons (ps_fld (pv 0) (pe_callTy call_list_of (by rfl) B.«list» (by decide +kernel) (pa_cons (pv 2) pa_nil)) (by rfl))
  (pss_cons (ps_fld (pv 0) pe_dnewT (by rfl))
  (pss_one (ps_for PassesOwn.never rfl (pi_enum (by rfl) B.enumerate (pa_cons (pv 2) pa_nil)) (pg_tup (by rfl) (pgs_cons (pg_name (i := 3) sc_Clusterkeep.nd rfl (.inl rfl)) (pgs_cons (pg_tup (by rfl) (pgs_cons (pg_name (i := 4) sc_Clusterkeep.nd rfl (.inl rfl)) (pgs_cons (pg_name (i := 5) sc_Clusterkeep.nd rfl (.inl rfl)) (pgs_cons (pg_name (i := 6) sc_Clusterkeep.nd rfl (.inl rfl)) pgs_nil)))) pgs_nil)))
  (pss_cons (ps_asg (pv 3) (pg_sub (pe_fld (pv 0) (by rfl)) (pe_tup (pa_cons (pv 4) (pa_cons (pv 5) pa_nil))) (set_dict (units1 hr.units))))
  (pss_one (ps_asg (pv 3) (pg_sub (pe_fld (pv 0) (by rfl)) (pe_tup (pa_cons (pv 5) (pa_cons (pv 4) pa_nil))) (set_dict (units1 hr.units))))))))))), ?_⟩
  obtain ⟨a1, xs1, rfl, e1, m1, A1⟩ := hd1
  obtain ⟨a2, xs2, rfl, e2, m2, A2⟩ := hd2
  have l2 := A2.length
  walk_at "xs"
  intro B hB
  have bM := fresh_out hM hB
  have bx : B ≠ x := ne_of_none2 hB hx
  walk_at "xs"
  refine x_sAt (show _ = some (HO.ins C dx []) by rw [upd_ne bx.symm]; exact hx) cc.ck.cls cc.bounds (by decide) ?_
  have a2x : a2 ≠ x := m2
  have a2B : a2 ≠ B := ne_of_none e2 hB
  walk_at "xs"
  intro U hU
  have hU0 : H U = none := by
    by_cases hx' : U = x
    · rw [hx', upd_same] at hU; cases hU
    · rw [upd_ne hx'] at hU
      by_cases hb : U = B
      · rw [hb, upd_same] at hU; cases hU
      · rw [upd_ne hb] at hU; exact hU
  have ux : U ≠ x := ne_of_none2 hU0 hx
  have uM := fresh_out hM hU0
  have uB : U ≠ B := fun h => by rw [h, upd_ne bx, upd_same] at hU; cases hU
  walk_at "xs"
  refine x_sAt (show _ = some (HO.ins C dx (putF "_bounds" (.ref B) [])) by rw [upd_ne ux.symm, upd_same]) cc.ck.cls cc.bundles f1_len ?_
  have a2U : a2 ≠ U := ne_of_none e2 hU0
  obtain ⟨H3, e3⟩ : ∃ H3, H3 = upd (upd (upd (upd H B (.lst xs1)) x (.ins C dx (putF "_bounds" (.ref B) []))) U (.lst xs2)) x (.ins C dx (putF "_bundles" (.ref U) (putF "_bounds" (.ref B) []))) := ⟨_, rfl⟩
  have X3 : Ext [x] H H3 := fun z o nz e => by
    have zx : z ≠ x := by simpa using nz
    rw [e3, upd_ne zx, upd_ne (ne_of_none e hU0), upd_ne zx, upd_ne (ne_of_none e hB)]; exact e
  have hx3 : H3 x = some (.ins C dx (putF "_bundles" (.ref U) (putF "_bounds" (.ref B) []))) := by rw [e3, upd_same]
  have hB3 : H3 B = some (.lst xs1) := by rw [e3, upd_ne bx, upd_ne uB.symm, upd_ne bx, upd_same]
  have hU3 : H3 U = some (.lst xs2) := by rw [e3, upd_ne ux, upd_same]
  rw [← e3]
  clear e3 hU
  have X3' : Ext (x :: M) H H3 := X3.mono (by intro z h; simp at h; simp [h])
  have e2' := X3 _ _ (by simpa using m2) e2
  have A1' := A1.ext X3'
  have A2' := A2.ext X3'
  walk_at "xs"
  refine x_dnewT ?_
  intro N hN
  have nN : N ∉ M := fun h => by
    obtain ⟨o, e⟩ := hM N h
    rw [X3 N o (by simpa using fun z => nx (by rw [← z]; exact h)) e] at hN; cases hN
  have nx' : N ≠ x := ne_of_none2 hN hx3
  walk_at "xs"
  refine x_sAt (show _ = some (HO.ins C dx (putF "_bundles" (.ref U) (putF "_bounds" (.ref B) []))) by rw [upd_ne nx'.symm]; exact hx3) cc.ck.cls cc.numbers f2_len ?_
  obtain ⟨H4, e4⟩ : ∃ H4, H4 = upd (upd H3 N (.dT [])) x (.ins C dx (putF "_numbers" (.ref N) (putF "_bundles" (.ref U) (putF "_bounds" (.ref B) [])))) := ⟨_, rfl⟩
  have X4 : Ext [x] H3 H4 := fun z o nz e => by
    rw [e4, upd_ne (by simpa using nz), upd_ne (ne_of_none e hN)]; exact e
  have hx4 : H4 x = some (.ins C dx (F3 B U N)) := by rw [e4, upd_same]; rfl
  have hN4 : H4 N = some (.dT []) := by rw [e4, upd_ne nx', upd_same]
  rw [← e4]
  clear e4
  have X4' : Ext (x :: M) H3 H4 := X4.mono (by intro z h; simp at h; simp [h])
  have e2n : a2 ≠ N := ne_of_none e2' hN
  have e24 := X4 _ _ (by simpa using m2) e2'
  have nB : B ≠ N := ne_of_none hB3 hN
  have nU : U ≠ N := ne_of_none hU3 hN
  have eS : ∀ {H' : Hp}, Ext [N] H4 H' → Ext (x :: M) H3 H' := fun E z o nz e => E _ _ (by simpa using ne_of_none e hN) (X4' _ _ nz e)
  have eU : ∀ (G : Hp) (o : HO), Ext [N] G (upd G N o) := fun _ _ => Ext.upd (by simp)
  walk_at "xs"
  refine for_enum (K := K) (a := a2) (xs := xs2) (fun i σ' H' => ∃ (y3 y4 y5 y6 : Option V), σ' = [some (.ref x), some (.ref a1), some (.ref a2), y3, y4, y5, y6] ∧ Ext [N] H4 H' ∧ H' N = some (.dT (nums2 ds2 i))) ?_ ?_ ?_ ?_
  · exact ⟨_, _, _, _, rfl, Ext.refl _ _, hN4⟩
  · rintro i _ H' _ ⟨_, _, _, _, _, E, _⟩
    exact SqL.of (E _ _ (by simpa using e2n) e24)
  · rintro i y t _ H' hy ⟨y3, y4, y5, y6, rfl, E, hk⟩ ht
    obtain ⟨dR, hdR, dnR⟩ := A2'.get hy
    have hbd : bundleD dR n = true := by
      rw [List.all_eq_true] at hall
      exact hall _ (List.mem_map.mpr ⟨dR, List.mem_of_getElem? hdR, rfl⟩)
    obtain ⟨a', b', c', rfl⟩ := bundle_at hbd
    obtain ⟨p, rfl, np, hp⟩ := (dnR.ext (eS E)).tup3
    have ek1 : nums2 ds2 (i + 1) = putK (putK (nums2 ds2 i) [.inl a', .inl b'] (.int (i : Nat))) [.inl b', .inl a'] (.int (i : Nat)) := by
      show (match ds2[i]? with | some (.tuple (.int a :: .int b :: _)) => putK (putK (nums2 ds2 i) [.inl a, .inl b] (.int (i : Nat))) [.inl b, .inl a] (.int (i : Nat)) | _ => nums2 ds2 i) = _
      rw [hdR]
    have hi := (List.getElem?_eq_some_iff.mp hy).1
    have lk := nums2_len ds2 i
    have lp := length_putK (nums2 ds2 i) [Sum.inl a', Sum.inl b'] (V.int (i : Nat))
    rw [ek1]
    generalize nums2 ds2 i = kvs at *
    have hx' := E _ _ (by simpa using nx'.symm) hx4
    have S1 := same_upd ht (o := .tup [.int (i : Nat), .ref p])
    have hp := S1 _ _ hp
    have hk := S1 _ _ hk
    have hx' := S1 _ _ hx'
    have E := E.trans (Ext.same S1)
    have et := upd_same (H := H') (a := t) (o := .tup [.int (i : Nat), .ref p])
    generalize upd H' t _ = H5 at *
    walk_at "xs"
    refine x_gAt hx' cc.ck.cls cc.numbers (by unfold F3; rw [lookup_putF, if_pos rfl]) ?_
    walk_at "xs"
    intro r hr1
    have S3 := same_upd hr1 (o := .tup [.int a', .int b'])
    have hk := S3 _ _ hk
    have hx' := S3 _ _ hx'
    have E := E.trans (Ext.same S3)
    refine ⟨N, _, rfl, DPut.t hk (k := [.inl a', .inl b']) upd_same (by rw [sizeLine_eq]; omega), ?_⟩
    have E := E.trans (eU _ (.dT (putK kvs [.inl a', .inl b'] (.int (i : Nat)))))
    have hx' : (upd (upd H5 r (.tup [.int a', .int b'])) N (.dT (putK kvs [.inl a', .inl b'] (.int (i : Nat))))) x = some (.ins C dx (F3 B U N)) := by
      rw [upd_ne nx'.symm]; exact hx'
    have hk := upd_same (H := upd H5 r (.tup [.int a', .int b'])) (a := N) (o := .dT (putK kvs [.inl a', .inl b'] (.int (i : Nat))))
    generalize upd (upd H5 r (.tup [.int a', .int b'])) N _ = H6 at *
    walk_at "xs"
    refine x_gAt hx' cc.ck.cls cc.numbers (by unfold F3; rw [lookup_putF, if_pos rfl]) ?_
    walk_at "xs"
    intro r2 hr2
    have S4 := same_upd hr2 (o := .tup [.int b', .int a'])
    have hk := S4 _ _ hk
    have E := E.trans (Ext.same S4)
    refine ⟨N, _, rfl, DPut.t hk (k := [.inl b', .inl a']) upd_same (by rw [sizeLine_eq]; omega), ?_⟩
    have E := E.trans (eU _ (.dT (putK (putK kvs [.inl a', .inl b'] (.int (i : Nat))) [.inl b', .inl a'] (.int (i : Nat)))))
    walk_at "xs"
    exact ⟨_, _, _, _, rfl, E, upd_same⟩
  · rintro _ H' ⟨y3, y4, y5, y6, rfl, E, hk⟩
    walk_at "xs"
    refine q _ (fun z o nz e => ?_) ⟨dx, B, U, N, _, E _ _ (by simpa using nx'.symm) hx4, nx, ?_, ?_, hk, nN, fun i j => ?_⟩
    · have h3 := X3 z o nz e
      exact E _ _ (by simpa using ne_of_none h3 hN) (X4 _ _ nz h3)
    · exact .lst (E _ _ (by simpa using nB) (X4 _ _ (by simpa using bx) hB3)) bM (DnAll.sub (by intro z h; simp [h]) (A1'.ext (eS E)))
    · exact .lst (E _ _ (by simpa using nU) (X4 _ _ (by simpa using ux) hU3)) uM (DnAll.sub (by intro z h; simp [h]) (A2'.ext (eS E)))
    · rw [l2]
      exact nums2_eq hall i j _ (Nat.le_refl _)

theorem dn_its {M : List Addr} {x : Addr} {H : Hp} {v : V} {ds : List PyData} (h : Dn (x :: M) H v (.list ds)) : ∃ a xs, v = .ref a ∧ H a = some (.lst xs) ∧ a ≠ x ∧ DnAll (x :: M) H xs ds := by
  cases h with
  | @lst a xs _ e m A => exact ⟨a, xs, rfl, e, fun z => m (by rw [z]; simp), A⟩
theorem km_init {k : Nat} (D : Dm K C "__init__" "Cluster.__init__" s_Cluster_init) (B : Bl mg) (cc : Cc K mg C) (c_are_bounds : Kn P w K mg base "are_bounds" k spBounds) (c_are_bundles : Kn P w K mg base "are_bundles" k spBundles)
    (m_keep : Km P w K mg base C "_keep" k (spKeep C)) (noKeep : True) : Km P w K mg base C "__init__" (k + 1) (spInit C) := by
  refine km_of D (fun _ _ _ _ _ _ us hl => match us, hl with | [_, _, _], _ => rfl) sc_Cluster_init (fun vs H Q E h => by obtain ⟨M, x, dx, v1, v2, ds1, ds2, rfl, _⟩ := h; rfl) (fun f cd B' fr z H vs Q E hr gd h => ?_)
  obtain ⟨M, x, dx, v1, v2, ds1, ds2, rfl, hM, nx, hx, hd1, hd2, hb1, hb2, q⟩ := h
  have c_Cluster := cc.ck
  refine ⟨_, (pss_cons (ps_if (pt_not (pt_val (pe_own c_are_bounds hr gd (by rfl) (pa_cons (pv 1) pa_nil)))) (pss_one ps_never) pss_nil)
  (pss_cons (ps_if (pt_not (pt_val (pe_own c_are_bundles hr gd (by rfl) (pa_cons (pv 2) (pa_cons (pe_callB call_len_seq (by rfl) B.len (by decide +kernel) (pa_cons (pv 1) pa_nil)) pa_nil))))) (pss_one ps_never) pss_nil)
  (pss_one (ps_expr (pe_ownM (pv 0) c_Cluster.cls m_keep hr gd (pa_cons (pv 1) (pa_cons (pv 2) pa_nil))))))), ?_⟩
  obtain ⟨len2, all2⟩ := bundles_len hb2
  have len1 := bounds_len hb1
  walk_at "xs"
  refine x_bounds hd1 (fun es e => by cases e; omega) ?_
  intro H1 S1
  rw [hb1]
  have hd1 := hd1.ext (Ext.same S1)
  have hd2 := hd2.ext (Ext.same S1)
  have hx := S1 _ _ hx
  have hd1' := hd1
  cases hd1' with
  | @lst a1 xs1 _ e1 m1 A1 =>
  have l1 := A1.length
  walk_at "xs"
  rw [l1]
  refine x_bundles hd2 (fun es e => by cases e; omega) ?_
  intro H2 S2
  rw [hb2]
  have hd1 := hd1.ext (Ext.same S2)
  have hd2 := hd2.ext (Ext.same S2)
  have hx := S2 _ _ hx
  walk_at "xs"
  refine x_mAt hx rfl ?_
  walk_at "xs"
  refine ⟨M, x, dx, _, _, ds1, ds2, _, rfl, fun m hm => ?_, nx, hx, dn_its hd1, dn_its hd2, all2, len2, fun H' X cl => ?_⟩
  · obtain ⟨o, e⟩ := hM m hm
    exact ⟨o, S2 _ _ (S1 _ _ e)⟩
  · walk_at "xs"
    exact q _ (fun z o n e => X _ _ n (S2 _ _ (S1 _ _ e))) cl
def spLen (C : Addr) : Sp := fun vs H Q _ => ∃ x M d1 ds2, vs = [.ref x] ∧ Clu C M H x d1 (.list ds2) ∧ Q (.int ds2.length) H
theorem km_len {k : Nat} (D : Dm K C "__len__" "Cluster.__len__" s_Cluster_len) (B : Bl mg) (cc : Cc K mg C) : Km P w K mg base C "__len__" (k + 1) (spLen C) := by
  refine km_of D (fun _ _ _ _ _ _ us hl => match us, hl with | [_], _ => rfl) sc_Cluster_len (fun vs H Q E h => by obtain ⟨x, M, d1, ds2, rfl, _⟩ := h; rfl) (fun f cd B' fr z H vs Q E hr gd h => ?_)
  obtain ⟨x, M, d1, ds2, rfl, ⟨dx, B0, U0, N0, kvs, hx, nx, hd1, hd2, hN, nN, ek⟩, q⟩ := h
  refine ⟨_, (pss_one (ps_ret (pe_callB call_len_seq (by rfl) B.len (by decide +kernel) (pa_cons (pe_fld (pv 0) (by rfl)) pa_nil)))), ?_⟩
  cases hd2 with
  | @lst a2 xs2 _ e2 m2 A2 =>
  walk_at "xs"
  refine x_gAt hx cc.ck.cls cc.bundles (f3_bundles ..) ?_
  walk_at "xs"
  rw [A2.length]
  exact q
def spCopy (C : Addr) : Sp := fun vs H Q _ => ∃ x M d1 ds2, vs = [.ref x] ∧ Clu C M H x d1 (.list ds2) ∧ ∀ H' l, Same H H' → H l = none → Dn [] H' (.ref l) (.list ds2) → Q (.ref l) H'
theorem km_bundles {k : Nat} (D : Dm K C "bundles" "Cluster.bundles" s_Cluster_bundles) (B : Bl mg) (cc : Cc K mg C) : Km P w K mg base C "bundles" (k + 1) (spCopy C) := by
  refine km_of D (fun _ _ _ _ _ _ us hl => match us, hl with | [_], _ => rfl) sc_Cluster_bundles (fun vs H Q E h => by obtain ⟨x, M, d1, ds2, rfl, _⟩ := h; rfl) (fun f cd B' fr z H vs Q E hr gd h => ?_)
  obtain ⟨x, M, d1, ds2, rfl, ⟨dx, B0, U0, N0, kvs, hx, nx, hd1, hd2, hN, nN, ek⟩, q⟩ := h
  refine ⟨_, (pss_one (ps_ret (pe_callTy call_list_of (by rfl) B.«list» (by decide +kernel) (pa_cons (pe_fld (pv 0) (by rfl)) pa_nil)))), ?_⟩
  cases hd2 with
  | @lst a2 xs2 _ e2 m2 A2 =>
  walk_at "xs"
  refine x_gAt hx cc.ck.cls cc.bundles (f3_bundles ..) ?_
  walk_at "xs"
  intro l hl
  walk_at "xs"
  exact q _ l (same_upd hl) hl (.lst upd_same (by simp) ((A2.sub (by simp)).ext (Ext.same (same_upd hl))))
/-- making one -/
theorem x_clu {H : Hp} {b c : Addr} {v1 v2 : V} {ds1 ds2 : List PyData} {Q : VK} (hB : Bag H b c) (hd1 : Dn [b] H v1 (.list ds1)) (hd2 : Dn [b] H v2 (.list ds2)) (hb1 : boundsD (.list ds1) = true) (hb2 : bundlesD (.list ds2) ds1.length = true)
    (h : ∀ x H', Same H H' → Bag H' b c → H x = none → Clu C [b] H' x (.list ds1) (.list ds2) → Q (.ref x) H') :
    ∀ x dx, H x = none → H dx = none → dx ≠ x → spInit C [.ref x, v1, v2] (upd (upd H dx (.own x)) x (.ins C dx [])) (fun v H2 => v = .non ∧ Q (.ref x) H2) E0 := by
  intro x dx hx hdx ne
  obtain ⟨ob, hob⟩ := hB.at
  have S1 := same_upd hdx (o := .own x)
  have hx1 : (upd H dx (.own x)) x = none := by rw [upd_ne ne.symm]; exact hx
  have S := S1.trans (same_upd hx1 (o := .ins C dx []))
  have nb : x ∉ [b] := new_out (Same.refl H) hob hx
  refine ⟨[b], x, dx, v1, v2, ds1, ds2, rfl, ?_, nb, upd_same, (hd1.more hx).ext (Ext.same S), (hd2.more hx).ext (Ext.same S), hb1, hb2, fun H' X cl => ⟨rfl, ?_⟩⟩
  · intro m hm
    simp at hm; subst hm
    exact ⟨_, S _ _ hob⟩
  · have S' : Same H H' := fun z o e => X _ _ (by simpa using ne_of_none e hx) (S _ _ e)
    exact h x H' S' (hB.ext S') hx cl
theorem x_clu2 {H : Hp} {b c : Addr} {v1 v2 : V} {ds1 ds2 : List PyData} {R : Addr → Hp → Prop} (hB : Bag H b c) (hd1 : Dn [b] H v1 (.list ds1)) (hd2 : Dn [b] H v2 (.list ds2)) (hb1 : boundsD (.list ds1) = true) (hb2 : bundlesD (.list ds2) ds1.length = true)
    (h : ∀ x H', Same H H' → Bag H' b c → H x = none → Clu C [b] H' x (.list ds1) (.list ds2) → R x H') :
    ∀ x dx, H x = none → H dx = none → dx ≠ x → spInit C (.ref x :: ([v1, v2] ++ [])) (upd (upd H dx (.own x)) x (.ins C dx [])) (fun v H2 => v = .non ∧ R x H2) E0 := by
  intro x dx hx hdx ne
  obtain ⟨ob, hob⟩ := hB.at
  have S1 := same_upd hdx (o := .own x)
  have hx1 : (upd H dx (.own x)) x = none := by rw [upd_ne ne.symm]; exact hx
  have S := S1.trans (same_upd hx1 (o := .ins C dx []))
  have nb : x ∉ [b] := new_out (Same.refl H) hob hx
  refine ⟨[b], x, dx, v1, v2, ds1, ds2, rfl, ?_, nb, upd_same, (hd1.more hx).ext (Ext.same S), (hd2.more hx).ext (Ext.same S), hb1, hb2, fun H' X cl => ⟨rfl, ?_⟩⟩
  · intro m hm
    simp at hm; subst hm
    exact ⟨_, S _ _ hob⟩
  · have S' : Same H H' := fun z o e => X _ _ (by simpa using ne_of_none e hx) (S _ _ e)
    exact h x H' S' (hB.ext S') hx cl
end

/-! ### are these leads -/
def cntD : PyData → Int
  | .tuple [_, _, .int c] => c
  | _ => 0
def leadsD (rs : List PyData) (d : PyData) : Bool := match d with
  | .tuple ds => decide (ds.length = rs.length) && (ds.zip rs).all fun z => inD 0 (cntD z.2) z.1
  | _ => false
def spLeads (C : Addr) : Sp := fun vs H Q _ => ∃ x v d M M' d1 rs n, vs = [.ref x, v] ∧ Clu C M' H x d1 (.list rs) ∧ Dn M H v d ∧ (rs.map fun d => bundleD d n).all id = true ∧ rs.length ≤ 45 ∧ ∀ H', Same H H' → Q (.bl (leadsD rs d)) H'
def spLeadsL : Sp := fun vs H Q _ => ∃ u v d M M' rs n, vs = [u, v] ∧ Dn M' H u (.list rs) ∧ Dn M H v d ∧ (rs.map fun d => bundleD d n).all id = true ∧ rs.length ≤ 45 ∧ ∀ H', Same H H' → Q (.bl (leadsD rs d)) H'
theorem zip_step {α β : Type} {f : α × β → Bool} {ds : List α} {rs : List β} {i : Nat} {a : α} {b : β} (ha : ds[i]? = some a) (hb : rs[i]? = some b) (h : ((ds.zip rs).take i).all f = true) (h2 : f (a, b) = true) : ((ds.zip rs).take (i + 1)).all f = true := by
  have e : (ds.zip rs)[i]? = some (a, b) := by
    rw [List.getElem?_zip_eq_some]; exact ⟨ha, hb⟩
  rw [List.take_add_one, e, List.all_append, h]
  simp [h2]
theorem zip_fail {α β : Type} {f : α × β → Bool} {ds : List α} {rs : List β} {i : Nat} {a : α} {b : β} (ha : ds[i]? = some a) (hb : rs[i]? = some b) (h2 : f (a, b) = false) : (ds.zip rs).all f = false := by
  have e : (ds.zip rs)[i]? = some (a, b) := by
    rw [List.getElem?_zip_eq_some]; exact ⟨ha, hb⟩
  rw [List.all_eq_false]
  exact ⟨(a, b), List.mem_of_getElem? e, by rw [h2]; simp⟩
section
variable {P : Program} {w : World} {K : PySem.W.Frag} {mg : Str → Option Value} {base : Heap} {t0 t1 t2 t3 t4 : Tok} {C : Addr}
theorem kn_are_leads {k : Nat} (D : Df K mg "are_leads" s_are_leads) (B : Bl mg) (cc : Cc K mg C) (c_is_integer : Kn P w K mg base "is_integer" (k + 1) (sp1 isIntD)) (m_len : Km P w K mg base C "__len__" k (spLen C)) (m_bundles : Km P w K mg base C "bundles" (k + 1) (spCopy C)) :
    Kn P w K mg base "are_leads" (k + 2) (spLeads C) := by
  refine kn_of D (fun _ _ _ _ _ _ us hl => match us, hl with | [_, _], _ => rfl) sc_are_leads (fun vs H Q E h => by obtain ⟨x, v, d, M, M', d1, rs, n, rfl, _⟩ := h; rfl) (fun f cd B' fr z H vs Q E hr gd h => ?_)
  obtain ⟨x, v, d, M, M', d1, rs, n, rfl, hc, hd, hall, hlen, q⟩ := h
  have c_Cluster := cc.ck
  refine ⟨_, (pss_cons (ps_if (PW.pt (pw_or (pt_not (pt_val (pe_callB call_isD (by rfl) B.isinstance (by decide +kernel) (pa_cons (pv 1) (pa_cons (pe_bltn (v := .ty "tuple") (u := .type "tuple") (by rfl) B.«tuple» (by decide +kernel) rfl) pa_nil))))) (pw_or1 (pt_cmpR op_ne (pe_callB call_len_seq (by rfl) B.len (by decide +kernel) (pa_cons (pv 1) pa_nil)) (pe_callB (call_lenO m_len hr gd) (by rfl) B.len (by decide +kernel) (pa_cons (pv 0) pa_nil)) (nomark _))))) (pss_one (ps_ret pe_bl)) pss_nil)
  (pss_cons (ps_for PassesOwn.never rfl (pi_zipM (by rfl) B.zip (pa_cons (pv 1) (pa_cons (pe_ownM0 (pv 0) c_Cluster.cls m_bundles hr gd) pa_nil))) (pg_tup (by rfl) (pgs_cons (pg_name (i := 2) sc_are_leads.nd rfl (.inl rfl)) (pgs_cons (pg_name (i := 3) sc_are_leads.nd rfl (.inl rfl)) pgs_nil)))
  (pss_one (ps_if (PW.pt (pw_or (pt_not (pt_val (pe_own c_is_integer hr gd (by rfl) (pa_cons (pv 2) pa_nil)))) (pw_or1 (pt_not (pt_chain op_le op_le pe_int (pv 2) (pe_ix (r := rIxT K) ix_tup (pv 3) pe_int (fun _ _ => rfl))))))) (pss_one (ps_ret pe_bl)) pss_nil)))
  (pss_one (ps_ret pe_bl)))), ?_⟩
  have hc' := hc
  obtain ⟨dx, B0, U0, N0, kvs0, hx0, nx0, _⟩ := hc'
  walk_at "xs"
  refine x_iteNB (fun h => ?_) (fun h => ?_)
  · rw [isT_tuple] at h
    have e : leadsD rs d = false := by cases d <;> first | rfl | cases h
    walk_at "xs"
    rw [← e]; exact q _ (Same.refl H)
  · rw [isT_tuple] at h
    cases hd with
    | @tup a xs ds ha hm hxs =>
      have lx := hxs.length
      walk_at "xs"
      refine ⟨x, dx, _, rfl, hx0, x, M', d1, rs, rfl, hc, _, rfl, by omega, by omega, ?_⟩
      walk_at "xs"
      have e0 : leadsD rs (.tuple ds) = (decide (ds.length = rs.length) && (ds.zip rs).all fun z => inD 0 (cntD z.2) z.1) := rfl
      rw [e0] at q
      refine x_iteN (fun h => ?_) (fun h => ?_)
      · walk_at "xs"
        rw [decide_eq_false (by omega), Bool.false_and] at q
        exact q _ (Same.refl H)
      · have same : ds.length = rs.length := by omega
        rw [decide_eq_true same, Bool.true_and] at q
        walk_at "xs"
        refine x_mAt hx0 (f3_none _ _ _ (by decide) (by decide) (by decide)) ?_
        walk_at "xs"
        refine ⟨x, M', d1, rs, rfl, hc, ?_⟩
        intro H1 l S1 hl dl
        have ha1 := S1 _ _ ha
        cases dl with
        | @lst _ ys _ el _ A2 =>
        have hxs1 := hxs.ext (Ext.same S1)
        have ly := A2.length
        walk_at "xs"
        refine for_zipM (K := K) (us := xs) (vs := ys) (by omega) (fun i σ' H' => ∃ y2 y3, σ' = [some (.ref x), some (.ref a), y2, y3] ∧ Same H1 H' ∧ ((ds.zip rs).take i).all (fun z => inD 0 (cntD z.2) z.1) = true) ?_ ?_ ?_ ?_
        · exact ⟨_, _, rfl, Same.refl _, by simp⟩
        · rintro i _ H' ⟨_, _, _, SS, _⟩
          exact ⟨SqT.of (SS _ _ ha1), SqL.of (SS _ _ el)⟩
        · rintro i u r t _ H' hu hv ⟨y2, y3, rfl, SS, hz⟩ ht
          obtain ⟨dU, hdU, dnU⟩ := hxs1.get hu
          obtain ⟨dR, hdR, dnR⟩ := A2.get hv
          obtain ⟨p, a', b', c', rfl, hp, _⟩ := row_at A2 hall hv
          have hb : bundleD dR n = true := by
            rw [List.all_eq_true] at hall
            exact hall _ (List.mem_map.mpr ⟨dR, List.mem_of_getElem? hdR, rfl⟩)
          obtain ⟨a2, b2, c2, rfl⟩ := bundle_at hb
          obtain ⟨p2, e2, _, hp2⟩ := dnR.tup3
          cases e2
          rw [hp] at hp2
          cases hp2
          have S3 := SS.trans (same_upd ht (o := .tup [u, .ref p]))
          have hp := S3 _ _ hp
          have dnU := dnU.ext (Ext.same S3)
          have et := upd_same (H := H') (a := t) (o := .tup [u, .ref p])
          generalize upd H' t _ = H4 at *
          walk_at "xs"
          refine x_sp1 dnU ?_
          walk_at "xs"
          refine x_iteNB (fun h => ?_) (fun h => ?_)
          · have e : inD 0 (cntD (.tuple [.int a', .int b', .int c'])) dU = false := by cases dU <;> first | rfl | cases h
            walk_at "xs"
            rw [zip_fail hdU hdR e] at q
            exact q _ (S1.trans S3)
          · obtain ⟨i1, rfl, rfl⟩ := dnU.isInt h
            have e : inD 0 (cntD (.tuple [.int a', .int b', .int c'])) (.int i1) = (decide (0 ≤ i1) && decide (i1 ≤ c')) := rfl
            walk_at "xs"
            refine x_ite (fun h1 => ?_) (fun h1 => ?_)
            · walk_at "xs"
              refine x_iteN (fun h2 => ?_) (fun h2 => ?_)
              · walk_at "xs"
                rw [decide_eq_false h2, Bool.and_false] at e
                rw [zip_fail hdU hdR e] at q
                exact q _ (S1.trans S3)
              · walk_at "xs"
                rw [decide_eq_true h1, decide_eq_true h2, Bool.true_and] at e
                exact ⟨_, _, rfl, S3, zip_step hdU hdR hz e⟩
            · walk_at "xs"
              rw [decide_eq_false h1, Bool.false_and] at e
              rw [zip_fail hdU hdR e] at q
              exact q _ (S1.trans S3)
        · rintro _ H' ⟨y2, y3, rfl, SS, hz⟩
          rw [List.take_of_length_le (by rw [List.length_zip]; omega)] at hz
          walk_at "xs"
          rw [hz] at q
          exact q _ (S1.trans SS)
    | _ => cases h
end
/-! ### rows that are built -/
def RowD (d : PyData) : Prop := ∃ ns : List Int, d = tupD ns ∧ 0 < ns.length ∧ ns.length ≤ 3 ∧ ∀ n ∈ ns, n.natAbs < 2 ^ 200
structure Rb (H0 : Hp) (b c f : Addr) (acc : List V) (ds : List PyData) (H : Hp) : Prop where
  e : Ext [b] H0 H
  bag : Bag H b c
  fd : H f = some (.lst acc)
  ne : f ∉ [b]
  nc : c ≠ f
  f0 : H0 f = none
  rows : DnAll [b, f] H acc ds
  row : ∀ d ∈ ds, RowD d
theorem Rb.step {H0 H H' : Hp} {b c f : Addr} {acc : List V} {ds : List PyData} (r : Rb H0 b c f acc ds H) (E : Ext [b] H H') (B : Bag H' b c) : Rb H0 b c f acc ds H' :=
  ⟨r.e.trans E, B, E _ _ r.ne r.fd, r.ne, r.nc, r.f0, r.rows.ext (E.mono (by intro x h; simp at h ⊢; exact .inl h)), r.row⟩
theorem Rb.new {H0 H : Hp} {b c f p : Addr} {acc : List V} {ds : List PyData} (u : HO) (r : Rb H0 b c f acc ds H) (hp : H p = none) : Rb H0 b c f acc ds (upd H p u) ∧ p ∉ [b] ∧ p ∉ [b, f] ∧ upd H p u p = some u := by
  obtain ⟨ob, hob⟩ := r.bag.at
  have h1 := new_out (o := ob) (Same.refl H) hob hp
  have h2 : p ≠ f := ne_of_none2 hp r.fd
  exact ⟨r.step (Ext.same (same_upd hp)) (r.bag.ext (same_upd hp)), h1, by simp at h1 ⊢; exact ⟨h1, h2⟩, upd_same⟩
theorem Rb.app {H0 H : Hp} {b c f : Addr} {acc : List V} {ds : List PyData} {v : V} {d : PyData} (r : Rb H0 b c f acc ds H) (hv : Dn [b, f] H v d) (hd : RowD d) :
    Rb H0 b c f (acc ++ [v]) (ds ++ [d]) (upd H f (.lst (acc ++ [v]))) := by
  have X1 : Ext [b, f] H (upd H f (.lst (acc ++ [v]))) := Ext.upd (by simp)
  have nb : b ≠ f := fun e => r.ne (by rw [e]; simp)
  refine ⟨fun a o n e => ?_, ?_, upd_same, r.ne, r.nc, r.f0, (r.rows.ext X1).app (.cons (hv.ext X1) .nil), ?_⟩
  · rw [upd_ne (ne_of_none e r.f0)]; exact r.e _ _ n e
  · obtain ⟨x, y, k, cs, h1, h2, h3⟩ := r.bag
    exact ⟨x, y, k, cs, by rw [upd_ne nb]; exact h1, by rw [upd_ne r.nc]; exact h2, h3⟩
  · intro u hu
    rcases List.mem_append.mp hu with h | h
    · exact r.row u h
    · simp at h; subst h; exact hd
theorem Rb.dn {H0 H : Hp} {b c f : Addr} {acc : List V} {ds : List PyData} (r : Rb H0 b c f acc ds H) : Dn [b] H (.ref f) (.list ds) := .lst r.fd r.ne (r.rows.sub (by intro x h; simp at h ⊢; exact .inl h))
theorem Rb.mk0 {H0 : Hp} {b c f : Addr} (hB : Bag H0 b c) (hf : H0 f = none) : Rb H0 b c f [] [] (upd H0 f (.lst [])) := by
  obtain ⟨ob, hob⟩ := hB.at
  refine ⟨Ext.same (same_upd hf), hB.ext (same_upd hf), upd_same, new_out (Same.refl H0) hob hf, ?_, hf, .nil, by simp⟩
  obtain ⟨x, y, k, cs, h1, h2, h3⟩ := hB
  exact ne_of_none h2 hf
theorem in3 {x y : V} {a b c : Int} {k : Nat} (h : x ∈ [V.int a, V.int b, V.int c]) (ha : a.natAbs < k) (hb : b.natAbs < k) (hc : c.natAbs < k) : ∃ i, x = .int i ∧ i.natAbs < k := by
  simp only [List.mem_cons, List.not_mem_nil, or_false] at h
  rcases h with rfl | rfl | rfl
  · exact ⟨_, rfl, ha⟩
  · exact ⟨_, rfl, hb⟩
  · exact ⟨_, rfl, hc⟩

/-! ### one thing bent -/
structure Fin2 (d : PyData) : Prop where
  sz : Sz d 7900000 7
  few : fewD d
theorem Fine.fin2 {d : PyData} (h : Fine d) : Fin2 d := ⟨h.sz.mono (by decide) (by decide), h.few⟩
theorem row_sz {d : PyData} (h : RowD d) : Sz d 6100 4 := by
  obtain ⟨ns, rfl, h0, h1, h2⟩ := h
  have : Sz (tupD ns) (ns.length * (201 + 2) + 3) (0 + 1) := by
    have := sz_tuple (p := 201) (q := 0) (ds := ns.map PyData.int) (fun d hd => by obtain ⟨m, hm, rfl⟩ := List.mem_map.mp hd; exact sz_int (h2 m hm))
    rw [List.length_map] at this
    exact this
  exact this.mono (by omega) (by decide)
theorem small_list {ds : List PyData} (h : ∀ d ∈ ds, Sz d 6100 4) (n : ds.length ≤ 300) : Fin2 (.list ds) := ⟨(sz_list' h n).mono (by decide) (by decide), fun es e => by cases e; omega⟩
theorem small_tuple {ds : List PyData} (h : ∀ d ∈ ds, Sz d 6100 4) (n : ds.length ≤ 300) : Fin2 (.tuple ds) :=
  ⟨((sz_tuple h).mono (Nat.add_le_add_right (Nat.mul_le_mul_right _ n) 3) (Nat.le_refl _)).mono (by decide) (by decide), few_of nofun⟩
theorem big_list {ds : List PyData} (h : ∀ d ∈ ds, Sz d 42717 5) (n : ds.length ≤ 181) : Fin2 (.list ds) := ⟨(sz_list' h n).mono (by decide) (by decide), fun es e => by cases e; omega⟩
theorem item_tuple {ds : List PyData} (h : ∀ d ∈ ds, Sz d 6100 4) (n : ds.length ≤ 7) : Sz (.tuple ds) 42717 5 := (sz_tuple h).mono (Nat.le_trans (Nat.add_le_add_right (Nat.mul_le_mul_right _ n) 3) (by decide)) (by decide)
theorem item_list {ds : List PyData} (h : ∀ d ∈ ds, Sz d 6100 4) (n : ds.length ≤ 7) : Sz (.list ds) 42717 5 := (sz_list' h n).mono (by decide) (by decide)
theorem item_ints {ds : List PyData} (h : ∀ d ∈ ds, Sz d 201 0) (n : ds.length ≤ 9) : Sz (.tuple ds) 42717 5 := (sz_tuple h).mono (Nat.le_trans (Nat.add_le_add_right (Nat.mul_le_mul_right _ n) 3) (by decide)) (by decide)
theorem mem_app {α : Type} {p : α → Prop} {a b : List α} (ha : ∀ x ∈ a, p x) (hb : ∀ x ∈ b, p x) : ∀ x ∈ a ++ b, p x := fun x hx => (List.mem_append.mp hx).elim (ha x) (hb x)
theorem mem_one {α : Type} {p : α → Prop} {a : α} (ha : p a) : ∀ x ∈ [a], p x := fun x hx => by simp at hx; subst hx; exact ha
/-- what holds while things are made -/
structure Nb (M : List Addr) (H0 : Hp) (b c : Addr) (vs : List V) (ds : List PyData) (H : Hp) : Prop where
  e : Ext [b] H0 H
  bag : Bag H b c
  A : DnAll M H vs ds
  mem : b ∈ M
  al : ∀ m ∈ M, ∃ o, H m = some o
section
variable {M : List Addr} {H0 H : Hp} {b c : Addr} {vs : List V} {ds : List PyData}
theorem Nb.step0 {H' : Hp} (n : Nb M H0 b c vs ds H) (E : Ext [b] H H') (B : Bag H' b c) (al : ∀ m ∈ M, ∃ o, H' m = some o) : Nb M H0 b c vs ds H' := ⟨n.e.trans E, B, n.A.ext (E.mono fun z h => by simp at h; subst h; exact n.mem), n.mem, fun m hm => al m hm⟩
theorem Nb.step {H' : Hp} (n : Nb M H0 b c vs ds H) (E : Ext [b] H H') (B : Bag H' b c) : Nb M H0 b c vs ds H' := n.step0 E B fun m hm => by
  by_cases e : m = b
  · subst e; exact B.at
  · obtain ⟨o, h⟩ := n.al m hm
    exact ⟨o, E _ _ (by simpa using e) h⟩
theorem Nb.same {H' : Hp} (n : Nb M H0 b c vs ds H) (S : Same H H') : Nb M H0 b c vs ds H' := n.step (Ext.same S) (n.bag.ext S)
theorem Nb.push {v : V} {d : PyData} (n : Nb M H0 b c vs ds H) (h : Dn M H v d) : Nb M H0 b c (v :: vs) (d :: ds) H := ⟨n.e, n.bag, .cons h n.A, n.mem, n.al⟩
theorem Nb.out {p : Addr} (n : Nb M H0 b c vs ds H) (hp : H p = none) : p ∉ M := by
  exact new_outM (Same.refl H) n.al hp
theorem DnAll.head {v : V} {d : PyData} (h : DnAll M H (v :: vs) (d :: ds)) : Dn M H v d := by cases h with | cons a _ => exact a
theorem DnAll.tail {v : V} {d : PyData} (h : DnAll M H (v :: vs) (d :: ds)) : DnAll M H vs ds := by cases h with | cons _ a => exact a
end
section
variable {K : PySem.W.Frag} {M : List Addr} {H H0 : Hp} {Q : VK} {b c : Addr} {vs : List V} {ds : List PyData}
theorem x_slDM {a : Addr} {xs : List V} {lo hi : Option Int} (al : ∀ m ∈ M, ∃ o, H m = some o) (ha : H a = some (.tup xs)) (na : a ∉ M)
    (h : ∀ p H', Same H H' → H' p = some (.tup (cutV xs lo hi)) → p ∉ M → Q (.ref p) H') : rSlA K (.ref a) lo hi H Q := by
  refine ⟨a, xs, rfl, SqT.of ha, fun w => ?_, fun _ p hp => h p _ (same_upd hp) upd_same (new_outM (Same.refl H) al hp)⟩
  exact h a H (Same.refl H) (by rw [ha, cutV_whole w]) na
theorem x_catDM {a b : Addr} {xs ys : List V} (al : ∀ m ∈ M, ∃ o, H m = some o) (ha : H a = some (.tup xs)) (na : a ∉ M) (hb : H b = some (.tup ys)) (nb : b ∉ M) (z : xs.length + ys.length ≤ 100000)
    (h : ∀ p H', Same H H' → H' p = some (.tup (xs ++ ys)) → p ∉ M → Q (.ref p) H') : rCatA K (.ref a) (.ref b) H Q := by
  refine ⟨a, b, xs, ys, rfl, rfl, SqT.of ha, SqT.of hb, Nat.le_trans z (by decide), ?_, ?_, ?_⟩
  · rintro rfl; exact h b H (Same.refl H) (by rw [hb]; rfl) nb
  · rintro _ rfl; exact h a H (Same.refl H) (by rw [ha, List.append_nil]) na
  · intro _ _ p hp; exact h p _ (same_upd hp) upd_same (new_outM (Same.refl H) al hp)
theorem x_slTn {v : V} {d : List PyData} {lo hi : Option Int} (n : Nb M H0 b c vs ds H) (hd : Dn M H v (.tuple d))
    (h : ∀ p H' e, Nb M H0 b c (.ref p :: vs) (.tuple e :: ds) H' → Same H H' → (∀ z ∈ e, z ∈ d) → e.length ≤ d.length → Q (.ref p) H') : rSlA K v lo hi H Q := by
  cases hd with
  | tup ha na hx =>
    refine x_slDM n.al ha na fun p H' S e np => ?_
    obtain ⟨e', A, m, l⟩ := cut_dn lo hi hx
    exact h p H' e' ((n.same S).push (.tup e np (A.ext (Ext.same S)))) S m l
theorem x_catTn {v u : V} {d e : List PyData} (n : Nb M H0 b c vs ds H) (hd : Dn M H v (.tuple d)) (he : Dn M H u (.tuple e)) (z : d.length + e.length ≤ 100000)
    (h : ∀ p H', Nb M H0 b c (.ref p :: vs) (.tuple (d ++ e) :: ds) H' → Same H H' → Q (.ref p) H') : rCatA K v u H Q := by
  cases hd with
  | tup ha na hx =>
    cases he with
    | tup hb nb hy =>
      refine x_catDM n.al ha na hb nb (by rw [hx.length, hy.length]; exact z) fun p H' S e np => ?_
      exact h p H' ((n.same S).push (.tup e np ((hx.app hy).ext (Ext.same S)))) S
theorem x_slLn {v : V} {d : List PyData} {lo hi : Option Int} (n : Nb M H0 b c vs ds H) (hd : Dn M H v (.list d))
    (h : ∀ p H' e, Nb M H0 b c (.ref p :: vs) (.list e :: ds) H' → Same H H' → (∀ z ∈ e, z ∈ d) → e.length ≤ d.length → Q (.ref p) H') : rSlL K v lo hi H Q := by
  cases hd with
  | @lst a xs _ ha na hx =>
    refine x_slL (SqL.of ha) fun p hp => ?_
    obtain ⟨e', A, m, l⟩ := cut_dn lo hi hx
    have S := same_upd hp (o := .lst (cutV xs lo hi))
    exact h p _ e' ((n.same S).push (.lst upd_same (n.out hp) (A.ext (Ext.same S)))) S m l
theorem x_catLn {v u : V} {d e : List PyData} (n : Nb M H0 b c vs ds H) (hd : Dn M H v (.list d)) (he : Dn M H u (.list e)) (z : d.length + e.length ≤ 100000)
    (h : ∀ p H', Nb M H0 b c (.ref p :: vs) (.list (d ++ e) :: ds) H' → Same H H' → Q (.ref p) H') : rCat v u H Q := by
  cases hd with
  | @lst a xs _ ha na hx =>
    cases he with
    | @lst a2 ys _ hb nb hy =>
      refine x_cat ha hb (by rw [hx.length, hy.length]; exact Nat.le_trans z (by decide)) fun p hp => ?_
      have S := same_upd hp (o := .lst (xs ++ ys))
      exact h p _ ((n.same S).push (.lst upd_same (n.out hp) ((hx.app hy).ext (Ext.same S)))) S
theorem x_newL {us : List V} {es : List PyData} {p : Addr} (n : Nb M H0 b c vs ds H) (hp : H p = none) (h : DnAll M H us es) : Nb M H0 b c (.ref p :: vs) (.list es :: ds) (upd H p (.lst us)) ∧ Same H (upd H p (.lst us)) := by
  have S := same_upd hp (o := .lst us)
  exact ⟨(n.same S).push (.lst upd_same (n.out hp) (h.ext (Ext.same S))), S⟩
theorem x_newT {us : List V} {es : List PyData} {p : Addr} (n : Nb M H0 b c vs ds H) (hp : H p = none) (h : DnAll M H us es) : Nb M H0 b c (.ref p :: vs) (.tuple es :: ds) (upd H p (.tup us)) ∧ Same H (upd H p (.tup us)) := by
  have S := same_upd hp (o := .tup us)
  exact ⟨(n.same S).push (.tup upd_same (n.out hp) (h.ext (Ext.same S))), S⟩
end
theorem atI_last {xs : List V} (h : xs ≠ []) : ∃ x, x ∈ xs ∧ atI xs (-1) = some x := by
  have hl : 0 < xs.length := List.length_pos_iff.mpr h
  have e : ixN xs.length (-1) = some (xs.length - 1) := by
    unfold ixN
    rw [if_neg (by decide), if_pos (by omega)]
    congr 1
    omega
  refine ⟨xs[xs.length - 1], List.getElem_mem (by omega), ?_⟩
  unfold atI
  rw [e]
  simp

/-! ### drawn clusters -/
def spAmount : Sp := fun vs H Q _ => ∃ b c g, vs = [.ref b, .bl g] ∧ Bag H b c ∧ ∀ H' v, Ext [b] H H' → Bag H' b c → 1 ≤ v → v ≤ 10 ^ 18 → Q (.int v) H'
theorem x_amount {H : Hp} {Q : VK} {E : XK} {b c : Addr} {g : Bool} (hb : Bag H b c) (h : ∀ H' v, Ext [b] H H' → Bag H' b c → 1 ≤ v → v ≤ 10 ^ 18 → Q (.int v) H') : spAmount [.ref b, .bl g] H Q E := ⟨b, c, g, rfl, hb, h⟩
/-- places of pairs so far -/
def tri (n : Nat) : Nat → Nat
  | 0 => 0
  | i + 1 => tri n i + (n - (i + 1))
theorem tri_le : ∀ n, n ≤ 10 → tri n n ≤ 45 := by decide
theorem tri_mono (n : Nat) : ∀ i, tri n i ≤ tri n (i + 1) := fun i => Nat.le_add_right _ _
structure Good (n i j : Int) (ds : List PyData) : Prop where
  all : (ds.map fun d => bundleD d n).all id = true
  nd : (ds.map pairD).Nodup
  lt : ∀ d ∈ ds, ∃ a b, pairD d = [a, b] ∧ (a < i ∨ (a = i ∧ b < j))
theorem Good.skip {n i j j' : Int} {ds : List PyData} (g : Good n i j ds) (h : j ≤ j') : Good n i j' ds := ⟨g.all, g.nd, fun d hd => by
  obtain ⟨a, b, e, c⟩ := g.lt d hd
  exact ⟨a, b, e, by omega⟩⟩
theorem Good.next {n i j i' j' : Int} {ds : List PyData} (g : Good n i j ds) (h : i < i') : Good n i' j' ds := ⟨g.all, g.nd, fun d hd => by
  obtain ⟨a, b, e, c⟩ := g.lt d hd
  exact ⟨a, b, e, by omega⟩⟩
theorem good_one {n i j c : Int} (h0 : 0 ≤ i) (h1 : i < j) (h2 : j < n) (c0 : 1 ≤ c) (c1 : c ≤ 10 ^ 18) : bundleD (tupD [i, j, c]) n = true := by
  show (inD 1 (10 ^ 18) (.int c) && (brokerD (.int i) n && (brokerD (.int j) n && ltD (.int i) (.int j)))) = true
  show ((decide (1 ≤ c) && decide (c ≤ 10 ^ 18)) && ((decide (0 ≤ i) && decide (i < n)) && ((decide (0 ≤ j) && decide (j < n)) && decide (i < j)))) = true
  simp only [Bool.and_eq_true, decide_eq_true_eq]
  exact ⟨⟨c0, c1⟩, ⟨h0, by omega⟩, ⟨by omega, h2⟩, h1⟩
theorem Good.add {n i j c : Int} {ds : List PyData} (g : Good n i j ds) (h0 : 0 ≤ i) (h1 : i < j) (h2 : j < n) (c0 : 1 ≤ c) (c1 : c ≤ 10 ^ 18) : Good n i (j + 1) (ds ++ [tupD [i, j, c]]) := by
  refine ⟨?_, ?_, ?_⟩
  · rw [List.map_append, List.all_append, g.all]
    simp [good_one h0 h1 h2 c0 c1]
  · rw [List.map_append, List.nodup_append]
    refine ⟨g.nd, by simp, fun u hu v hv e => ?_⟩
    simp only [List.map_cons, List.map_nil, List.mem_cons, List.not_mem_nil, or_false] at hv
    obtain ⟨d, hd, rfl⟩ := List.mem_map.mp hu
    obtain ⟨a, b, e2, k⟩ := g.lt d hd
    rw [e2, hv] at e
    have e : [a, b] = [i, j] := e
    simp only [List.cons.injEq, and_true] at e
    omega
  · intro d hd
    rcases List.mem_append.mp hd with h | h
    · obtain ⟨a, b, e, k⟩ := g.lt d h
      exact ⟨a, b, e, by omega⟩
    · simp only [List.mem_cons, List.not_mem_nil, or_false] at h
      subst h
      exact ⟨i, j, rfl, by omega⟩
theorem Good.done {n i j : Int} {ds : List PyData} (g : Good n i j ds) (h : ds.length ≤ 45) : bundlesD (.list ds) n = true := by
  show (decide ((ds.length : Int) ≤ 45) && ((ds.map fun d => bundleD d n).all id && decide ((ds.map pairD).Nodup))) = true
  simp only [Bool.and_eq_true, decide_eq_true_eq]
  exact ⟨by omega, g.all, g.nd⟩
theorem bundles_rev {n : Int} {ds : List PyData} (h : bundlesD (.list ds) n = true) : bundlesD (.list ds.reverse) n = true := by
  have h : (decide ((ds.length : Int) ≤ 45) && ((ds.map fun d => bundleD d n).all id && decide ((ds.map pairD).Nodup))) = true := h
  show (decide ((ds.reverse.length : Int) ≤ 45) && ((ds.reverse.map fun d => bundleD d n).all id && decide ((ds.reverse.map pairD).Nodup))) = true
  simp only [Bool.and_eq_true, decide_eq_true_eq] at h ⊢
  refine ⟨by rw [List.length_reverse]; exact h.1, ?_, ?_⟩
  · rw [List.map_reverse, List.all_reverse]; exact h.2.1
  · rw [List.map_reverse]; exact (List.reverse_perm _).nodup_iff.mpr h.2.2
theorem bundle_row {d : PyData} {n : Int} (h : bundleD d n = true) (hn : n ≤ 10) : ∃ a b c : Int, d = tupD [a, b, c] ∧ 0 ≤ a ∧ a < b ∧ b < n ∧ 1 ≤ c ∧ c ≤ 10 ^ 18 := by
  obtain ⟨a, b, c, rfl⟩ := bundle_at h
  have h : ((decide (1 ≤ c) && decide (c ≤ 10 ^ 18)) && ((decide (0 ≤ a) && decide (a < n)) && ((decide (0 ≤ b) && decide (b < n)) && decide (a < b)))) = true := h
  simp only [Bool.and_eq_true, decide_eq_true_eq] at h
  exact ⟨a, b, c, rfl, h.2.1.1, h.2.2.2, h.2.2.1.2, h.1.1, h.1.2⟩
theorem row_of {i j c : Int} (h0 : 0 ≤ i) (h1 : i < j) (h2 : j < 10) (c0 : 1 ≤ c) (c1 : c ≤ 10 ^ 18) : RowD (tupD [i, j, c]) := by
  have big : (10 : Int) ^ 18 < 2 ^ 150 := by decide
  have big2 : (2 : Nat) ^ 150 + 100 < 2 ^ 200 := by decide
  refine ⟨_, rfl, Nat.le_of_ble_eq_true rfl, Nat.le_of_ble_eq_true rfl, ?_⟩
  intro m hm
  simp only [List.mem_cons, List.not_mem_nil, or_false] at hm
  rcases hm with rfl | rfl | rfl <;> omega
def spNetB : Sp := fun vs H Q _ => ∃ b c n g, vs = [.ref b, .int n, .bl g] ∧ Bag H b c ∧ 2 ≤ n ∧ n ≤ 10 ∧ ∀ H' f ds, Ext [b] H H' → Bag H' b c → Dn [b] H' (.ref f) (.list ds) → bundlesD (.list ds) n = true → 0 < ds.length → Q (.ref f) H'
theorem x_netB {H : Hp} {Q : VK} {E : XK} {b c : Addr} {n : Int} {g : Bool} (hb : Bag H b c) (n0 : 2 ≤ n) (n1 : n ≤ 10) (h : ∀ H' f ds, Ext [b] H H' → Bag H' b c → Dn [b] H' (.ref f) (.list ds) → bundlesD (.list ds) n = true → 0 < ds.length → Q (.ref f) H') : spNetB [.ref b, .int n, .bl g] H Q E := ⟨b, c, n, g, rfl, hb, n0, n1, h⟩
section
variable {P : Program} {w : World} {K : PySem.W.Frag} {mg : Str → Option Value} {base : Heap} {t0 t1 t2 t3 t4 : Tok}
theorem kn_amount {k : Nat} (D : Df K mg "_law_amount" s_Lamount) (B : Bl mg) (c_Ltake : Kn P w K mg base "_law_take" k spTake) : Kn P w K mg base "_law_amount" (k + 1) spAmount := by
  refine kn_of D (fun _ _ _ _ _ _ us hl => match us, hl with | [_, _], _ => rfl) sc_Lamount (fun vs H Q E h => by obtain ⟨b, c, g, rfl, _⟩ := h; rfl) (fun f cd B' fr z H vs Q E hr gd h => ?_)
  obtain ⟨b, c, g, rfl, hB, q⟩ := h
  refine ⟨_, (pss_cut (ps_if (PW.pt (pw_and (pt_val (pv 1)) (pw_and1 (pt_cmpR op_eq (pe_own c_Ltake hr gd (by rfl) (pa_cons (pv 0) (pa_cons pe_int pa_nil))) pe_int (nomark _))))) (pss_one (ps_ret (pe_ix (r := rIxL K) ix_list (pe_lst (pa_cons (pe_op op_sub (pe_op op_pow pe_int pe_int) (pe_own c_Ltake hr gd (by rfl) (pa_cons (pv 0) (pa_cons pe_int pa_nil)))) (pa_cons (pe_op op_add pe_int (pe_own c_Ltake hr gd (by rfl) (pa_cons (pv 0) (pa_cons (pe_op op_pow pe_int pe_int) pa_nil)))) pa_nil))) (pe_own c_Ltake hr gd (by rfl) (pa_cons (pv 0) (pa_cons pe_int pa_nil))) (fun _ _ => rfl)))) pss_nil)
  (pss_one (ps_ret (pe_op op_add pe_int (pe_own c_Ltake hr gd (by rfl) (pa_cons (pv 0) (pa_cons (pe_ix (r := rIxL K) ix_list (pe_lst (pa_cons pe_int (pa_cons pe_int (pa_cons pe_int pa_nil)))) (pe_own c_Ltake hr gd (by rfl) (pa_cons (pv 0) (pa_cons pe_int pa_nil))) (fun _ _ => rfl)) pa_nil))))))), ?_⟩
  have big : (3 : Int) < (10 : Int) ^ (18 : Int).toNat := by decide
  refine x_cut (fun σ' H' => σ' = [some (.ref b), some (.bl g)] ∧ Ext [b] H H' ∧ Bag H' b c) ?_ ?_
  · walk_at "xs"
    refine x_iteB (fun h => ?_) (fun h => ?_)
    · walk_at "xs"
      refine x_take hB (by decide) (by decide) ?_
      intro H1 v1 E1 B1 a1 c1
      walk_at "xs"
      refine x_ite (fun h => ?_) (fun h => ?_)
      · walk_at "xs"
        refine x_take B1 (by decide) (by decide) ?_
        intro H2 v2 E2 B2 a2 c2
        walk_at "xs"
        refine x_take B2 (by decide) (by decide) ?_
        intro H3 v3 E3 B3 a3 c3
        walk_at "xs"
        intro p hp
        obtain ⟨ob, hob⟩ := B3.at
        have np := new_out (Same.refl H3) hob hp
        have S := same_upd hp (o := .lst [.int (10 ^ (18 : Int).toNat - v2), .int (1 + v3)])
        have B4 := B3.ext S
        have ep := upd_same (H := H3) (a := p) (o := .lst [.int (10 ^ (18 : Int).toNat - v2), .int (1 + v3)])
        generalize upd H3 p _ = H4 at *
        walk_at "xs"
        refine x_take B4 (by decide) (by decide) ?_
        intro H5 v4 E5 B5 a4 c4
        have ep := E5 _ _ np ep
        obtain ⟨x, ex, ax⟩ := ix_at ep a4 c4
        refine x_ixL (SqL.of ep) ax ?_
        have X := E1.trans (E2.trans (E3.trans ((Ext.same S).trans E5)))
        have hm := List.mem_of_getElem? ex
        simp only [List.mem_cons, List.not_mem_nil, or_false] at hm
        rcases hm with rfl | rfl
        · exact q _ _ X B5 (by omega) (show (10 : Int) ^ (18 : Int).toNat - v2 ≤ 10 ^ (18 : Int).toNat by omega)
        · exact q _ _ X B5 (by omega) (show 1 + v3 ≤ 10 ^ (18 : Int).toNat by omega)
      · walk_at "xs"
        exact ⟨rfl, E1, B1⟩
    · walk_at "xs"
      exact ⟨rfl, Ext.refl _ _, hB⟩
  · rintro _ H1 ⟨rfl, E1, B1⟩
    walk_at "xs"
    intro p hp
    obtain ⟨ob, hob⟩ := B1.at
    have np := new_out (Same.refl H1) hob hp
    have S := same_upd hp (o := .lst [.int 1, .int 3, .int 9])
    have B4 := B1.ext S
    have ep := upd_same (H := H1) (a := p) (o := .lst [.int 1, .int 3, .int 9])
    generalize upd H1 p _ = H4 at *
    walk_at "xs"
    refine x_take B4 (by decide) (by decide) ?_
    intro H5 v4 E5 B5 a4 c4
    have ep := E5 _ _ np ep
    obtain ⟨x, ex, ax⟩ := ix_at ep a4 c4
    refine x_ixL (SqL.of ep) ax ?_
    have hm : ∃ m : Int, x = .int m ∧ 1 ≤ m ∧ m ≤ 9 := by
      have hm := List.mem_of_getElem? ex
      simp only [List.mem_cons, List.not_mem_nil, or_false] at hm
      rcases hm with rfl | rfl | rfl <;> exact ⟨_, rfl, by decide, by decide⟩
    obtain ⟨m, rfl, m0, m1⟩ := hm
    walk_at "xs"
    have big2 : (10 : Nat) < 2 ^ 200 := by decide
    refine x_take B5 (by omega) (by omega) ?_
    intro H6 v5 E6 B6 a5 c5
    walk_at "xs"
    have big3 : (20 : Int) < (10 : Int) ^ 18 := by decide
    exact q _ _ (E1.trans ((Ext.same S).trans (E5.trans E6))) B6 (by omega) (by omega)
theorem kn_netB {k : Nat} (D : Df K mg "_law_bundles" s_Lbundles) (B : Bl mg) (c_Ltake : Kn P w K mg base "_law_take" k spTake) (c_Lamount : Kn P w K mg base "_law_amount" k spAmount) : Kn P w K mg base "_law_bundles" (k + 1) spNetB := by
  refine kn_of D (fun _ _ _ _ _ _ us hl => match us, hl with | [_, _, _], _ => rfl) sc_Lbundles (fun vs H Q E h => by obtain ⟨b, c, n, g, rfl, _⟩ := h; rfl) (fun f cd B' fr z H vs Q E hr gd h => ?_)
  obtain ⟨b, c, n, g, rfl, hB, n0, n1, q⟩ := h
  refine ⟨_, (pss_cons (ps_par (i := 3) (j := 4) (by rfl) sc_Lbundles.nd rfl rfl (by decide) rfl rfl (pa_cons (pe_op op_add pe_int (pe_own c_Ltake hr gd (by rfl) (pa_cons (pv 0) (pa_cons pe_int pa_nil)))) (pa_cons (pe_lst pa_nil) pa_nil)) (by rfl))
  (pss_cons (ps_for PassesOwn.never rfl (pi_range1 (by rfl) B.range (pa_cons (pv 1) pa_nil)) (pg_name (i := 5) sc_Lbundles.nd rfl (.inl rfl))
  (pss_one (ps_for PassesOwn.never rfl (pi_range2 (by rfl) B.range (pa_cons (pe_op op_add (pv 5) pe_int) (pa_cons (pv 1) pa_nil))) (pg_name (i := 6) sc_Lbundles.nd rfl (.inl rfl))
  (pss_one (ps_if (pt_cmpR op_eq (pe_own c_Ltake hr gd (by rfl) (pa_cons (pv 0) (pa_cons (pv 3) pa_nil))) pe_int (nomark _)) (pss_one (ps_expr (pe_bm PySem.F.plainAttrs_list PySem.F.slot_list_append PySem.F.type_list_append mt_append (pv 4) (pa_cons (pe_tup (pa_cons (pv 5) (pa_cons (pv 6) (pa_cons (pe_own c_Lamount hr gd (by rfl) (pa_cons (pv 0) (pa_cons (pv 2) pa_nil))) pa_nil)))) pa_nil)))) pss_nil)))))
  (pss_cons (ps_set (i := 4) sc_Lbundles.nd rfl (.inl rfl) (pe_orT (pv 4) (pe_one (pe_lst (pa_cons (pe_tup (pa_cons pe_int (pa_cons pe_int (pa_cons (pe_own c_Lamount hr gd (by rfl) (pa_cons (pv 0) (pa_cons (pv 2) pa_nil))) pa_nil)))) pa_nil)))))
  (pss_one (ps_ret (pe_ifExp (pt_cmpR op_eq (pe_own c_Ltake hr gd (by rfl) (pa_cons (pv 0) (pa_cons pe_int pa_nil))) pe_int (nomark _)) (pe_revL (pv 4)) (pv 4))))))), ?_⟩
  walk_at "xs"
  refine x_take hB (by decide) (by decide) ?_
  intro H1 v1 E1 B1 a1 c1
  walk_at "xs"
  intro F hF
  have rb := Rb.mk0 B1 hF
  generalize upd H1 F _ = H2 at *
  have rare : (0 : Int) < 1 + v1 := by omega
  have big : (10 : Nat) < 2 ^ 200 := by decide
  walk_at "xs"
  refine for_range (lo := 0) (n := n.toNat) (fun i σ' H' => ∃ y5 y6 acc ds, σ' = [some (.ref b), some (.int n), some (.bl g), some (.int (1 + v1)), some (.ref F), y5, y6] ∧ Rb H1 b c F acc ds H' ∧ ds.length ≤ tri n.toNat i ∧ Good n i 0 ds) ?_ ?_ ?_
  · exact ⟨_, _, _, _, rfl, rb, Nat.le_refl _, rfl, by simp, by simp⟩
  · rintro i _ H3 hi ⟨y5, y6, acc, ds, rfl, rb, ll, gd0⟩
    walk_at "xs"
    refine for_range (lo := 0 + (i : Int) + 1) (n := (n - (0 + (i : Int) + 1)).toNat) (fun j σ' H' => ∃ y6 acc ds, σ' = [some (.ref b), some (.int n), some (.bl g), some (.int (1 + v1)), some (.ref F), some (.int (0 + (i : Int))), y6] ∧ Rb H1 b c F acc ds H' ∧ ds.length ≤ tri n.toNat i + j ∧ Good n i (i + 1 + j) ds) ?_ ?_ ?_
    · exact ⟨_, _, _, rfl, rb, ll, gd0.skip (by omega)⟩
    · rintro j _ H4 hj ⟨y6, acc, ds, rfl, rb, ll, gd1⟩
      walk_at "xs"
      refine x_take rb.bag rare (by omega) ?_
      intro H5 v2 E5 B5 a2 c2
      have rb := rb.step E5 B5
      have fd := rb.fd
      walk_at "xs"
      refine x_ite (fun h => ?_) (fun h => ?_)
      · walk_at "xs"
        refine x_amount rb.bag ?_
        intro H6 ct E6 B6 ct0 ct1
        have rb := rb.step E6 B6
        walk_at "xs"
        intro p3 hp3
        obtain ⟨rb, np3, np3', ep3⟩ := rb.new (.tup [.int (0 + (i : Int)), .int (0 + (i : Int) + 1 + (j : Int)), .int ct]) hp3
        generalize upd H6 p3 _ = H9 at *
        have la := rb.rows.length
        have tl : tri n.toNat i + j ≤ 100 := by
          have h1 : tri n.toNat i + j ≤ tri n.toNat (i + 1) := by show _ ≤ tri n.toNat i + (n.toNat - (i + 1)); omega
          have h2 : ∀ n, n ≤ 10 → ∀ i, i < n → tri n (i + 1) ≤ 45 := by decide
          have := h2 n.toNat (by omega) i hi
          omega
        walk_at "xs"
        refine x_app rb.fd (by rw [sizeLine_eq]; omega) ?_
        have g2 := gd1.add (c := ct) (by omega) (by omega) (by omega) ct0 ct1
        have rb := rb.app (v := .ref p3) (d := tupD [(i : Int), (i : Int) + 1 + (j : Int), ct]) (.tup (by rw [ep3, Int.zero_add]; rfl) np3' (DnAll.ints [(i : Int), (i : Int) + 1 + (j : Int), ct])) (row_of (by omega) (by omega) (by omega) ct0 ct1)
        walk_at "xs"
        exact ⟨_, _, _, rfl, rb, by rw [List.length_append, List.length_singleton]; omega, g2.skip (by omega)⟩
      · walk_at "xs"
        exact ⟨_, _, _, rfl, rb, by omega, gd1.skip (by omega)⟩
    · rintro _ H4 ⟨y6, acc, ds, rfl, rb, ll, gd1⟩
      exact ⟨_, _, _, _, rfl, rb, by show _ ≤ tri n.toNat i + (n.toNat - (i + 1)); omega, gd1.next (by omega)⟩
  · rintro _ H3 ⟨y5, y6, acc, ds, rfl, rb, ll, gd0⟩
    have l45 := tri_le n.toNat (by omega)
    have la := rb.rows.length
    have fd := rb.fd
    walk_at "xs"
    have tail : ∀ (H4 : Hp) (G : Addr) (xs : List V) (es : List PyData), Ext [b] H H4 → Bag H4 b c → H4 G = some (.lst xs) → G ∉ [b] → DnAll [b] H4 xs es → bundlesD (.list es) n = true → 0 < es.length → (∀ (H5 : Hp) (v : Int), Ext [b] H4 H5 → Bag H5 b c → 0 ≤ v → v < 3 → (v = 0 → ∀ l, H5 l = none → Q (.ref l) (upd H5 l (.lst xs.reverse))) ∧ (v ≠ 0 → Q (.ref G) H5)) := by
      intro H4 G xs es X4 B4 e4 n4 A4 hb4 h4 H5 v E5 B5 v0 v1
      refine ⟨fun _ l hl => ?_, fun _ => q _ _ es (X4.trans E5) B5 (.lst (E5 _ _ n4 e4) n4 (A4.ext E5)) hb4 h4⟩
      obtain ⟨ob, hob⟩ := B5.at
      have S := same_upd hl (o := .lst xs.reverse)
      exact q _ _ es.reverse (X4.trans (E5.trans (Ext.same S))) (B5.ext S) (.lst upd_same (new_out (Same.refl H5) hob hl) ((A4.ext E5).rev.ext (Ext.same S))) (bundles_rev hb4) (by rw [List.length_reverse]; exact h4)
    refine ⟨!acc.isEmpty, .inl ⟨acc, SqL.of fd, rfl⟩, ?_⟩
    cases acc with
    | cons a0 ar =>
      have pos : 0 < ds.length := by rw [← la]; exact Nat.succ_pos _
      have T := tail H3 F _ ds (E1.trans rb.e) rb.bag rb.fd rb.ne (rb.rows.sub (by intro x h; simp at h ⊢; exact .inl h)) (gd0.done (by omega)) pos
      rw [show (!(a0 :: ar).isEmpty) = true from rfl]
      walk_at "xs"
      refine x_take rb.bag (by decide) (by decide) ?_
      intro H5 v E5 B5 v0 v1'
      have fd5 := E5 _ _ rb.ne fd
      obtain ⟨Ta, Tb⟩ := T H5 v E5 B5 v0 v1'
      walk_at "xs"
      refine x_ite (fun h => ?_) (fun h => ?_)
      · walk_at "xs"
        refine x_revL (SqL.of fd5) ?_
        intro l hl
        exact Ta h l hl
      · walk_at "xs"
        exact Tb h
    | nil =>
      rw [show (!([] : List V).isEmpty) = false from rfl]
      walk_at "xs"
      refine x_amount rb.bag ?_
      intro H4 ct E4 B4 ct0 ct1
      walk_at "xs"
      intro p1 hp1
      obtain ⟨ob, hob⟩ := B4.at
      have np1 := new_out (Same.refl H4) hob hp1
      have S1 := same_upd hp1 (o := .tup [.int 0, .int 1, .int ct])
      have e1 := upd_same (H := H4) (a := p1) (o := .tup [.int 0, .int 1, .int ct])
      have B5 := B4.ext S1
      generalize upd H4 p1 _ = H5 at *
      walk_at "xs"
      intro p2 hp2
      have np2 := new_out (Same.refl H5) (S1 _ _ hob) hp2
      have S2 := same_upd hp2 (o := .lst [.ref p1])
      have e2 := upd_same (H := H5) (a := p2) (o := .lst [.ref p1])
      have e1 := S2 _ _ e1
      have B6 := B5.ext S2
      generalize upd H5 p2 _ = H6 at *
      have g1 : Good n 0 (1 + 1) [tupD [0, 1, ct]] := Good.add (ds := []) ⟨rfl, by simp, by simp⟩ (by omega) (by omega) (by omega) ct0 ct1
      have T := tail H6 p2 _ [tupD [0, 1, ct]] (E1.trans (rb.e.trans (E4.trans (Ext.same (S1.trans S2))))) B6 e2 np2 (.cons (.tup e1 np1 (DnAll.ints [0, 1, ct])) .nil) (g1.done (Nat.le_of_ble_eq_true rfl)) (Nat.le_of_ble_eq_true rfl)
      walk_at "xs"
      refine x_take B6 (by decide) (by decide) ?_
      intro H7 v E7 B7 v0 v1'
      have e7 := E7 _ _ np2 e2
      obtain ⟨Ta, Tb⟩ := T H7 v E7 B7 v0 v1'
      walk_at "xs"
      refine x_ite (fun h => ?_) (fun h => ?_)
      · walk_at "xs"
        refine x_revL (SqL.of e7) ?_
        intro l hl
        exact Ta h l hl
      · walk_at "xs"
        exact Tb h
end
/-! ### loads, bounds, the whole -/
def LeadsOk (rs : List PyData) (ls : List Int) : Prop := ls.length = rs.length ∧ ∀ (i : Nat) (l : Int) (r : PyData), ls[i]? = some l → rs[i]? = some r → 0 ≤ l ∧ l ≤ cntD r
def spLoads : Sp := fun vs H Q _ => ∃ (M : List Addr) (n : Int) (u : V) (p : Addr) (rs : List PyData) (ls : List Int), vs = [.int n, u, .ref p] ∧ Dn M H u (.list rs) ∧ H p = some (.lst (ls.map V.int)) ∧ bundlesD (.list rs) n = true ∧ 2 ≤ n ∧ n ≤ 10 ∧ LeadsOk rs ls ∧
  ∀ (H' : Hp) (f : Addr) (hs : List Int), Same H H' → H f = none → H' f = some (.lst (hs.map V.int)) → (hs.length : Int) = n → (∀ h ∈ hs, 0 ≤ h ∧ h ≤ 1000000000000000000000) → Q (.ref f) H'
theorem x_loads {H : Hp} {Q : VK} {E : XK} {M : List Addr} {n : Int} {u : V} {p : Addr} {rs : List PyData} {ls : List Int} (hu : Dn M H u (.list rs)) (hp : H p = some (.lst (ls.map V.int))) (hb : bundlesD (.list rs) n = true) (n0 : 2 ≤ n) (n1 : n ≤ 10) (ok : LeadsOk rs ls)
    (h : ∀ (H' : Hp) (f : Addr) (hs : List Int), Same H H' → H f = none → H' f = some (.lst (hs.map V.int)) → (hs.length : Int) = n → (∀ h ∈ hs, 0 ≤ h ∧ h ≤ 1000000000000000000000) → Q (.ref f) H') : spLoads [.int n, u, .ref p] H Q E := ⟨M, n, u, p, rs, ls, rfl, hu, hp, hb, n0, n1, ok, h⟩
theorem set_map (hs : List Int) (j : Nat) (v : Int) : (hs.map V.int).set j (.int v) = (hs.set j v).map V.int := by
  rw [List.map_set]
theorem repl_int : ∀ n : Nat, (List.replicate n [V.int 0]).flatten = (List.replicate n (0 : Int)).map V.int
  | 0 => rfl
  | n + 1 => by rw [List.replicate_succ, List.flatten_cons, repl_int n, List.replicate_succ, List.map_cons]; rfl
theorem int_at {ls : List Int} {i : Nat} {u : V} (h : (ls.map V.int)[i]? = some u) : ∃ l, ls[i]? = some l ∧ u = .int l := by
  rw [List.getElem?_map] at h
  cases e : ls[i]? with
  | none => rw [e] at h; cases h
  | some m => rw [e] at h; exact ⟨m, rfl, (Option.some.inj h).symm⟩
theorem e18 : (10 : Int) ^ 18 = 1000000000000000000 := by decide
section
variable {P : Program} {w : World} {K : PySem.W.Frag} {mg : Str → Option Value} {base : Heap} {t0 t1 t2 t3 t4 : Tok}
theorem kn_loads {k : Nat} (D : Df K mg "_law_loads" s_Lloads) (B : Bl mg) : Kn P w K mg base "_law_loads" (k + 1) spLoads := by
  refine kn_of D (fun _ _ _ _ _ _ us hl => match us, hl with | [_, _, _], _ => rfl) sc_Lloads (fun vs H Q E h => by obtain ⟨M, n, u, p, rs, ls, rfl, _⟩ := h; rfl) (fun f cd B' fr z H vs Q E hr gd h => ?_)
  obtain ⟨M, n, u, p, rs, ls, rfl, hu, hp, hb, n0, n1, ⟨same, hls⟩, q⟩ := h
  refine ⟨_, (pss_cons (ps_set (i := 3) sc_Lloads.nd rfl (.inl rfl) (pe_op op_rep (pe_lst (pa_cons pe_int pa_nil)) (pv 0)))
  (pss_cons (ps_for PassesOwn.never rfl (pi_zip (by rfl) B.zip (pa_cons (pv 2) (pa_cons (pv 1) pa_nil))) (pg_tup (by rfl) (pgs_cons (pg_name (i := 4) sc_Lloads.nd rfl (.inl rfl)) (pgs_cons (pg_tup (by rfl) (pgs_cons (pg_name (i := 5) sc_Lloads.nd rfl (.inl rfl)) (pgs_cons (pg_name (i := 6) sc_Lloads.nd rfl (.inl rfl)) (pgs_cons (pg_name (i := 7) sc_Lloads.nd rfl (.inl rfl)) pgs_nil)))) pgs_nil)))
  (pss_cons (ps_asg (pe_op op_add (pe_ix (r := rIxL K) ix_list (pv 3) (pv 5) (fun _ _ => rfl)) (pv 4)) (pg_sub (pv 3) (pv 5) set_list))
  (pss_one (ps_asg (pe_op op_sub (pe_op op_add (pe_ix (r := rIxL K) ix_list (pv 3) (pv 6) (fun _ _ => rfl)) (pv 7)) (pv 4)) (pg_sub (pv 3) (pv 6) set_list)))))
  (pss_one (ps_ret (pv 3))))), ?_⟩
  obtain ⟨len, all⟩ := bundles_len hb
  cases hu with
  | @lst a xs _ ea ma A =>
  have lx := A.length
  walk_at "xs"
  intro o ho
  have S0 := same_upd ho (o := .lst [.int 0])
  have eo := upd_same (H := H) (a := o) (o := .lst [.int 0])
  generalize upd H o _ = H1 at *
  walk_at "xs"
  refine x_rep eo (by omega) (by omega) (by rw [sizeLine_eq]; simp only [List.length_cons, List.length_nil]; omega) ?_
  intro F hF
  rw [repl_int]
  have hF0 : H F = none := S0.free hF
  have S1 : Same H (upd H1 F (.lst ((List.replicate n.toNat (0 : Int)).map V.int))) := S0.trans (same_upd hF)
  have eF := upd_same (H := H1) (a := F) (o := .lst ((List.replicate n.toNat (0 : Int)).map V.int))
  generalize upd H1 F _ = H2 at *
  have hp2 := S1 _ _ hp
  have ea2 := S1 _ _ ea
  walk_at "xs"
  refine RZ.for_zipL (K := K) (xs := ls.map V.int) (ys := xs) (by rw [List.length_map]; omega) (fun i σ' H' => ∃ (y4 y5 y6 y7 : Option V) (hs : List Int), σ' = [some (.int n), some (.ref a), some (.ref p), some (.ref F), y4, y5, y6, y7] ∧ H' F = some (.lst (hs.map V.int)) ∧ (hs.length : Int) = n ∧
    (∀ h ∈ hs, 0 ≤ h ∧ h ≤ 2 * (i : Int) * 1000000000000000000) ∧ Same H H') ?_ ?_ ?_ ?_
  · refine ⟨_, _, _, _, List.replicate n.toNat 0, rfl, eF, by rw [List.length_replicate]; omega, fun h hh => ?_, S1⟩
    obtain rfl := (List.mem_replicate.mp hh).2
    omega
  · rintro i _ H' ⟨_, _, _, _, _, _, _, _, _, S⟩
    exact ⟨SqL.of (S _ _ hp), SqL.of (S _ _ ea)⟩
  · rintro i u r t _ H' hu hv ⟨y4, y5, y6, y7, hs, rfl, fd, hn, hh, S⟩ ht
    obtain ⟨l, hl, rfl⟩ := int_at hu
    obtain ⟨dR, hdR, dnR⟩ := A.get hv
    have hbd : bundleD dR n = true := by
      rw [List.all_eq_true] at all
      exact all _ (List.mem_map.mpr ⟨dR, List.mem_of_getElem? hdR, rfl⟩)
    obtain ⟨a', b', c', rfl, p0, p1, p2, p3, p4⟩ := bundle_row hbd n1
    obtain ⟨r', rfl, _, hr2⟩ := Dn.tup3 (a := a') (b := b') (c := c') dnR
    obtain ⟨l0, l1⟩ := hls i l _ hl hdR
    have l1 : l ≤ c' := l1
    rw [e18] at p4
    have hr3 := S _ _ hr2
    have ntF : t ≠ F := ne_of_none2 ht fd
    have nrF : r' ≠ F := ne_of_none hr2 hF0
    have nrt : r' ≠ t := ne_of_none hr3 ht
    have fd' : (upd H' t (.tup [.int l, .ref r'])) F = some (.lst (hs.map V.int)) := by rw [upd_ne ntF.symm]; exact fd
    have hr4 : (upd H' t (.tup [.int l, .ref r'])) r' = some (.tup [.int a', .int b', .int c']) := by rw [upd_ne nrt]; exact hr3
    have et := upd_same (H := H') (a := t) (o := .tup [.int l, .ref r'])
    have S2 : Same H (upd H' t (.tup [.int l, .ref r'])) := S.trans (same_upd ht)
    generalize upd H' t _ = H4 at *
    walk_at "xs"
    obtain ⟨v1, hv1, at1⟩ := at_map (hs := hs) p0 (by omega)
    refine x_ixL (SqL.of fd') at1 ?_
    walk_at "xs"
    refine x_setL fd' (ixN_of p0 (by rw [List.length_map]; omega)) ?_
    rw [set_map]
    have b1 := hh v1 (List.mem_of_getElem? hv1)
    obtain ⟨hs1, eh1⟩ : ∃ hs1, hs1 = hs.set a'.toNat (v1 + l) := ⟨_, rfl⟩
    rw [← eh1]
    have len1 : (hs1.length : Int) = n := by rw [eh1, List.length_set]; exact hn
    have m1 : ∀ h ∈ hs1, 0 ≤ h ∧ h ≤ 2 * (i : Int) * 1000000000000000000 + 1000000000000000000 := by
      intro h hm
      rw [eh1] at hm
      rcases List.mem_or_eq_of_mem_set hm with hm | rfl
      · have := hh h hm; omega
      · omega
    have S3 : Same H (upd H4 F (.lst (hs1.map V.int))) := fun z o e => by rw [upd_ne (ne_of_none e hF0)]; exact S2 _ _ e
    have fd2 := upd_same (H := H4) (a := F) (o := .lst (hs1.map V.int))
    generalize upd H4 F _ = H5 at *
    walk_at "xs"
    obtain ⟨v2, hv2, at2⟩ := at_map (hs := hs1) (i := b') (by omega) (by omega)
    refine x_ixL (SqL.of fd2) at2 ?_
    walk_at "xs"
    refine x_setL fd2 (ixN_of (by omega) (by rw [List.length_map]; omega)) ?_
    rw [set_map]
    have b2 := m1 v2 (List.mem_of_getElem? hv2)
    walk_at "xs"
    refine ⟨_, _, _, _, hs1.set b'.toNat (v2 + c' - l), rfl, upd_same, by rw [List.length_set]; exact len1, fun h hm => ?_, fun z o e => by rw [upd_ne (ne_of_none e hF0)]; exact S3 _ _ e⟩
    rcases List.mem_or_eq_of_mem_set hm with hm | rfl
    · have := m1 h hm; omega
    · omega
  · rintro _ H' ⟨y4, y5, y6, y7, hs, rfl, fd, hn, hh, S⟩
    rw [List.length_map] at hh
    walk_at "xs"
    exact q _ F hs S hF0 fd hn fun h hm => by have := hh h hm; omega
def spBnd : Sp := fun vs H Q _ => ∃ (b c p : Addr) (hs : List Int), vs = [.ref b, .ref p] ∧ Bag H b c ∧ H p = some (.lst (hs.map V.int)) ∧ p ∉ [b] ∧ 2 ≤ hs.length ∧ hs.length ≤ 10 ∧ (∀ h ∈ hs, 0 ≤ h ∧ h ≤ 1000000000000000000000) ∧
  ∀ H' f ds, Ext [b] H H' → Bag H' b c → Dn [b] H' (.ref f) (.list ds) → boundsD (.list ds) = true → ds.length = hs.length → Q (.ref f) H'
theorem x_bnd {H : Hp} {Q : VK} {E : XK} {b c p : Addr} {hs : List Int} (hb : Bag H b c) (hp : H p = some (.lst (hs.map V.int))) (np : p ∉ [b]) (l0 : 2 ≤ hs.length) (l1 : hs.length ≤ 10) (hh : ∀ h ∈ hs, 0 ≤ h ∧ h ≤ 1000000000000000000000)
    (h : ∀ H' f ds, Ext [b] H H' → Bag H' b c → Dn [b] H' (.ref f) (.list ds) → boundsD (.list ds) = true → ds.length = hs.length → Q (.ref f) H') : spBnd [.ref b, .ref p] H Q E := ⟨b, c, p, hs, rfl, hb, hp, np, l0, l1, hh, h⟩
theorem bound_ok {x y : Int} (h0 : 0 ≤ x) (h1 : x ≤ y) (h2 : y ≤ 10 ^ 30) : boundD (tupD [x, y]) = true := by
  show ((decide (0 ≤ x) && decide (x ≤ 10 ^ 30)) && (decide (x ≤ y) && decide (y ≤ 10 ^ 30))) = true
  simp only [Bool.and_eq_true, decide_eq_true_eq]
  exact ⟨⟨h0, by omega⟩, h1, h2⟩
theorem in5 {x : V} {a b c d e m : Int} (h : x ∈ [V.int a, V.int b, V.int c, V.int d, V.int e]) (ha : 0 ≤ a ∧ a ≤ m) (hb : 0 ≤ b ∧ b ≤ m) (hc : 0 ≤ c ∧ c ≤ m) (hd : 0 ≤ d ∧ d ≤ m) (he : 0 ≤ e ∧ e ≤ m) : ∃ i, x = .int i ∧ 0 ≤ i ∧ i ≤ m := by
  simp only [List.mem_cons, List.not_mem_nil, or_false] at h
  rcases h with rfl | rfl | rfl | rfl | rfl
  · exact ⟨_, rfl, ha⟩
  · exact ⟨_, rfl, hb⟩
  · exact ⟨_, rfl, hc⟩
  · exact ⟨_, rfl, hd⟩
  · exact ⟨_, rfl, he⟩
theorem kn_bnd {k : Nat} (D : Df K mg "_law_bounds" s_Lbounds) (B : Bl mg) (c_Ltake : Kn P w K mg base "_law_take" k spTake) : Kn P w K mg base "_law_bounds" (k + 1) spBnd := by
  refine kn_of D (fun _ _ _ _ _ _ us hl => match us, hl with | [_, _], _ => rfl) sc_Lbounds (fun vs H Q E h => by obtain ⟨b, c, p, hs, rfl, _⟩ := h; rfl) (fun f cd B' fr z H vs Q E hr gd h => ?_)
  obtain ⟨b, c, p, hs, rfl, hB, hp, np, l0, l1, hh, q⟩ := h
  refine ⟨_, (pss_cons (ps_set (i := 2) sc_Lbounds.nd rfl (.inl rfl) (pe_lst pa_nil))
  (pss_cons (ps_for PassesOwn.never rfl (pi_list (pv 1)) (pg_name (i := 3) sc_Lbounds.nd rfl (.inl rfl))
  (pss_cons (ps_set (i := 4) sc_Lbounds.nd rfl (.inl rfl) (pe_ix (r := rIxL K) ix_list (pe_lst (pa_cons pe_int (pa_cons pe_int (pa_cons pe_int (pa_cons (pe_own c_Ltake hr gd (by rfl) (pa_cons (pv 0) (pa_cons pe_int pa_nil))) (pa_cons (pv 3) pa_nil)))))) (pe_own c_Ltake hr gd (by rfl) (pa_cons (pv 0) (pa_cons pe_int pa_nil))) (fun _ _ => rfl)))
  (pss_cons (ps_set (i := 5) sc_Lbounds.nd rfl (.inl rfl) (pe_ix (r := rIxL K) ix_list (pe_lst (pa_cons pe_int (pa_cons pe_int (pa_cons pe_int (pa_cons (pe_own c_Ltake hr gd (by rfl) (pa_cons (pv 0) (pa_cons pe_int pa_nil))) (pa_cons (pe_op op_pow pe_int pe_int) pa_nil)))))) (pe_own c_Ltake hr gd (by rfl) (pa_cons (pv 0) (pa_cons pe_int pa_nil))) (fun _ _ => rfl)))
  (pss_one (ps_expr (pe_bm PySem.F.plainAttrs_list PySem.F.slot_list_append PySem.F.type_list_append mt_append (pv 2) (pa_cons (pe_tup (pa_cons (pe_callB (call_max2 rfl) (by rfl) B.max (by decide +kernel) (pa_cons pe_int (pa_cons (pe_op op_sub (pv 3) (pv 4)) pa_nil))) (pa_cons (pe_op op_add (pv 3) (pv 5)) pa_nil))) pa_nil)))))))
  (pss_one (ps_ret (pv 2))))), ?_⟩
  walk_at "xs"
  intro F hF
  have rb := Rb.mk0 hB hF
  have hp1 := same_upd hF (o := .lst []) _ _ hp
  generalize upd H F _ = H1 at *
  walk_at "xs"
  have big : (1000000000000000000000 : Int) + 10 ^ (19 : Int).toNat < 10 ^ 30 := by decide
  have big2 : (10 : Int) ^ 30 < 2 ^ 150 := by decide
  have big3 : (2 : Nat) ^ 150 < 2 ^ 200 := by decide
  refine for_list (K := K) (a := p) (xs := hs.map V.int) (fun i σ' H' => ∃ y3 y4 y5 acc ds, σ' = [some (.ref b), some (.ref p), some (.ref F), y3, y4, y5] ∧ Rb H b c F acc ds H' ∧ ds.length = i ∧ (ds.map boundD).all id = true) ?_ ?_ ?_ ?_
  · exact ⟨_, _, _, _, _, rfl, rb, rfl, rfl⟩
  · rintro i _ H' _ ⟨_, _, _, _, _, _, rb, _⟩
    exact SqL.of (rb.e _ _ np hp)
  · rintro i x _ H3 hx ⟨y3, y4, y5, acc, ds, rfl, rb, ll, all⟩
    obtain ⟨ld, hld, rfl⟩ := int_at hx
    have b0 := hh ld (List.mem_of_getElem? hld)
    have hi := (List.getElem?_eq_some_iff.mp hld).1
    walk_at "xs"
    refine x_take rb.bag (by decide) (by decide) ?_
    intro H4 v1 E4 B4 a1 c1
    have rb := rb.step E4 B4
    walk_at "xs"
    intro p1 hp1
    obtain ⟨rb, n1, _, e1⟩ := rb.new (.lst [.int 0, .int 0, .int 1, .int v1, .int ld]) hp1
    generalize upd H4 p1 _ = H5 at *
    walk_at "xs"
    refine x_take rb.bag (by decide) (by decide) ?_
    intro H6 v2 E6 B6 a2 c2
    have rb := rb.step E6 B6
    have e1 := E6 _ _ n1 e1
    obtain ⟨x, ex, ax⟩ := ix_at e1 a2 c2
    refine x_ixL (SqL.of e1) ax ?_
    obtain ⟨ud, rfl, u0, u1⟩ := in5 (m := 1000000000000000000000) (List.mem_of_getElem? ex) (by omega) (by omega) (by omega) (by omega) (by omega)
    walk_at "xs"
    refine x_take rb.bag (by decide) (by decide) ?_
    intro H7 v3 E7 B7 a3 c3
    have rb := rb.step E7 B7
    walk_at "xs"
    intro p2 hp2
    obtain ⟨rb, n2, _, e2⟩ := rb.new (.lst [.int 0, .int 0, .int 1, .int v3, .int (10 ^ (19 : Int).toNat)]) hp2
    generalize upd H7 p2 _ = H8 at *
    walk_at "xs"
    refine x_take rb.bag (by decide) (by decide) ?_
    intro H9 v4 E9 B9 a4 c4
    have rb := rb.step E9 B9
    have e2 := E9 _ _ n2 e2
    obtain ⟨x, ex, ax⟩ := ix_at e2 a4 c4
    refine x_ixL (SqL.of e2) ax ?_
    have t19 : (5 : Int) ≤ 10 ^ (19 : Int).toNat := by decide
    obtain ⟨ov, rfl, o0, o1⟩ := in5 (m := 10 ^ (19 : Int).toNat) (List.mem_of_getElem? ex) (by omega) (by omega) (by omega) (by omega) (by omega)
    have fd := rb.fd
    walk_at "xs"
    have mx : 0 ≤ (if ld - ud > 0 then ld - ud else 0) ∧ (if ld - ud > 0 then ld - ud else 0) ≤ ld := by split <;> omega
    generalize (if ld - ud > 0 then ld - ud else 0) = fl at *
    walk_at "xs"
    intro p3 hp3
    obtain ⟨rb, np3, np3', ep3⟩ := rb.new (.tup [.int fl, .int (ld + ov)]) hp3
    generalize upd H9 p3 _ = H11 at *
    have la := rb.rows.length
    walk_at "xs"
    refine x_app rb.fd (by rw [sizeLine_eq]; omega) ?_
    have rb := rb.app (v := .ref p3) (d := tupD [fl, ld + ov]) (.tup ep3 np3' (DnAll.ints [fl, ld + ov])) ⟨[fl, ld + ov], rfl, Nat.le_of_ble_eq_true rfl, Nat.le_of_ble_eq_true rfl, by
      intro n hn
      simp only [List.mem_cons, List.not_mem_nil, or_false] at hn
      rcases hn with rfl | rfl <;> omega⟩
    walk_at "xs"
    refine ⟨_, _, _, _, _, rfl, rb, by rw [List.length_append, List.length_singleton]; omega, ?_⟩
    rw [List.map_append, List.all_append, all]
    simp [bound_ok (x := fl) (y := ld + ov) (by omega) (by omega) (by omega)]
  · rintro _ H3 ⟨y3, y4, y5, acc, ds, rfl, rb, ll, all⟩
    rw [List.length_map] at ll
    walk_at "xs"
    refine q _ _ _ rb.e rb.bag rb.dn ?_ ll
    show ((decide (2 ≤ (ds.length : Int)) && decide ((ds.length : Int) ≤ 10)) && (ds.map boundD).all id) = true
    rw [all, decide_eq_true (by omega), decide_eq_true (by omega)]; rfl
theorem Cb.app {H0 H : Hp} {b c f : Addr} {xs : List V} (v : V) (cb : Cb H0 b c f xs H) (nc : c ≠ f) (f0 : H0 f = none) : Cb H0 b c f (xs ++ [v]) (upd H f (.lst (xs ++ [v]))) := by
  have nb : b ≠ f := fun e => cb.ne (by rw [e]; simp)
  refine ⟨fun a o n e => ?_, ?_, upd_same, cb.ne⟩
  · rw [upd_ne (ne_of_none e f0)]; exact cb.e _ _ n e
  · obtain ⟨x, y, k, cs, h1, h2, h3⟩ := cb.bag
    exact ⟨x, y, k, cs, by rw [upd_ne nb]; exact h1, by rw [upd_ne nc]; exact h2, h3⟩
theorem Bag.cne {H : Hp} {b c f : Addr} (h : Bag H b c) (hf : H f = none) : c ≠ f := by
  obtain ⟨x, y, k, cs, h1, h2, _⟩ := h
  exact ne_of_none h2 hf
def spNet : Sp := fun vs H Q _ => ∃ b c m g, vs = [.ref b, .int m, .bl g] ∧ Bag H b c ∧ 2 ≤ m ∧ m ≤ 10 ∧ ∀ H' T f1 f2 f3 ds rs ls, Ext [b] H H' → Bag H' b c → H' T = some (.tup [.ref f1, .ref f2, .ref f3]) → T ∉ [b] →
  Dn [b] H' (.ref f1) (.list ds) → Dn [b] H' (.ref f2) (.list rs) → Dn [b] H' (.ref f3) (tupD ls) → boundsD (.list ds) = true → bundlesD (.list rs) ds.length = true → 0 < rs.length → LeadsOk rs ls → Q (.ref T) H'
theorem x_net {H : Hp} {Q : VK} {E : XK} {b c : Addr} {m : Int} {g : Bool} (hb : Bag H b c) (m0 : 2 ≤ m) (m1 : m ≤ 10) (h : ∀ H' T f1 f2 f3 ds rs ls, Ext [b] H H' → Bag H' b c → H' T = some (.tup [.ref f1, .ref f2, .ref f3]) → T ∉ [b] →
  Dn [b] H' (.ref f1) (.list ds) → Dn [b] H' (.ref f2) (.list rs) → Dn [b] H' (.ref f3) (tupD ls) → boundsD (.list ds) = true → bundlesD (.list rs) ds.length = true → 0 < rs.length → LeadsOk rs ls → Q (.ref T) H') : spNet [.ref b, .int m, .bl g] H Q E := ⟨b, c, m, g, rfl, hb, m0, m1, h⟩
theorem kn_net {k : Nat} (D : Df K mg "_law_net" s_Lnet) (B : Bl mg) (c_Ltake : Kn P w K mg base "_law_take" k spTake) (c_Lbundles : Kn P w K mg base "_law_bundles" k spNetB) (c_Lbounds : Kn P w K mg base "_law_bounds" k spBnd) (c_Lloads : Kn P w K mg base "_law_loads" k spLoads) :
    Kn P w K mg base "_law_net" (k + 1) spNet := by
  refine kn_of D (fun _ _ _ _ _ _ us hl => match us, hl with | [_, _, _], _ => rfl) sc_Lnet (fun vs H Q E h => by obtain ⟨b, c, m, g, rfl, _⟩ := h; rfl) (fun f cd B' fr z H vs Q E hr gd h => ?_)
  obtain ⟨b, c, m, g, rfl, hB, m0, m1, q⟩ := h
  refine ⟨_, (pss_cons (ps_set (i := 3) sc_Lnet.nd rfl (.inl rfl) (pe_op op_add pe_int (pe_own c_Ltake hr gd (by rfl) (pa_cons (pv 0) (pa_cons (pe_op op_sub (pv 1) pe_int) pa_nil)))))
  (pss_cons (ps_set (i := 4) sc_Lnet.nd rfl (.inl rfl) (pe_own c_Lbundles hr gd (by rfl) (pa_cons (pv 0) (pa_cons (pv 3) (pa_cons (pv 2) pa_nil)))))
  (pss_cons (ps_set (i := 5) sc_Lnet.nd rfl (.inl rfl) (pe_lst pa_nil))
  (pss_cons (ps_for PassesOwn.never rfl (pi_list (pv 4)) (pg_tup (by rfl) (pgs_cons (pg_name (i := 6) sc_Lnet.nd rfl (.inl rfl)) (pgs_cons (pg_name (i := 7) sc_Lnet.nd rfl (.inl rfl)) (pgs_cons (pg_name (i := 8) sc_Lnet.nd rfl (.inl rfl)) pgs_nil))))
  (pss_one (ps_expr (pe_bm PySem.F.plainAttrs_list PySem.F.slot_list_append PySem.F.type_list_append mt_append (pv 5) (pa_cons (pe_ix (r := rIxL K) ix_list (pe_lst (pa_cons pe_int (pa_cons (pv 8) (pa_cons (pe_own c_Ltake hr gd (by rfl) (pa_cons (pv 0) (pa_cons (pe_op op_add (pv 8) pe_int) pa_nil))) pa_nil)))) (pe_own c_Ltake hr gd (by rfl) (pa_cons (pv 0) (pa_cons pe_int pa_nil))) (fun _ _ => rfl)) pa_nil)))))
  (pss_one (ps_ret (pe_tup (pa_cons (pe_own c_Lbounds hr gd (by rfl) (pa_cons (pv 0) (pa_cons (pe_own c_Lloads hr gd (by rfl) (pa_cons (pv 3) (pa_cons (pv 4) (pa_cons (pv 5) pa_nil)))) pa_nil))) (pa_cons (pv 4) (pa_cons (pe_callTy call_tuple_of (by rfl) B.«tuple» (by decide +kernel) (pa_cons (pv 5) pa_nil)) pa_nil)))))))))), ?_⟩
  have big : (20 : Nat) < 2 ^ 200 := by decide
  have big2 : (1000000000000000000 : Nat) + 10 < 2 ^ 200 := by decide
  walk_at "xs"
  refine x_take hB (by omega) (by omega) ?_
  intro H1 v1 E1 B1 a1 c1
  walk_at "xs"
  refine x_netB B1 (by omega) (by omega) ?_
  intro H2 f2 rs E2 B2 d2 hb2 pos
  walk_at "xs"
  intro F hF
  obtain ⟨ob, hob⟩ := B2.at
  have nF := new_out (Same.refl H2) hob hF
  have nc := B2.cne hF
  have S3 := same_upd hF (o := .lst [])
  have cb : Cb H2 b c F [] (upd H2 F (.lst [])) := ⟨Ext.same S3, B2.ext S3, upd_same, nF⟩
  generalize upd H2 F _ = H3 at *
  obtain ⟨len, all⟩ := bundles_len hb2
  have d2' := d2
  cases d2' with
  | @lst _ xs _ e2 m2 A =>
  have lx := A.length
  have e23 := cb.e _ _ m2 e2
  walk_at "xs"
  refine for_list (K := K) (a := f2) (xs := xs) (fun i σ' H' => ∃ (y6 y7 y8 : Option V) (ls : List Int), σ' = [some (.ref b), some (.int m), some (.bl g), some (.int (2 + v1)), some (.ref f2), some (.ref F), y6, y7, y8] ∧ Cb H2 b c F (ls.map V.int) H' ∧ ls.length = i ∧ ∀ (j : Nat) (l : Int) (r : PyData), ls[j]? = some l → rs[j]? = some r → 0 ≤ l ∧ l ≤ cntD r) ?_ ?_ ?_ ?_
  · exact ⟨_, _, _, [], rfl, cb, rfl, by simp⟩
  · rintro i _ H' _ ⟨_, _, _, _, _, cb, _⟩
    exact SqL.of (cb.e _ _ m2 e2)
  · rintro i x _ H4 hx ⟨y6, y7, y8, ls, rfl, cb, ll, hls⟩
    obtain ⟨dR, hdR, dnR⟩ := A.get hx
    have hi := (List.getElem?_eq_some_iff.mp hx).1
    have hbd : bundleD dR (2 + v1) = true := by
      rw [List.all_eq_true] at all
      exact all _ (List.mem_map.mpr ⟨dR, List.mem_of_getElem? hdR, rfl⟩)
    obtain ⟨a', b', c', rfl, p0, p1, p2, p3, p4⟩ := bundle_row hbd (by omega)
    rw [e18] at p4
    obtain ⟨r', rfl, nr, hr2⟩ := Dn.tup3 (a := a') (b := b') (c := c') dnR
    have hr3 := cb.e _ _ nr hr2
    have fd := cb.fd
    walk_at "xs"
    refine x_take cb.bag (by omega) (by omega) ?_
    intro H5 v2 E5 B5 a2 c2
    have cb := cb.step E5 B5
    walk_at "xs"
    intro p1' hp1
    obtain ⟨cb, n1, e1⟩ := cb.new (.lst [.int 0, .int c', .int v2]) hp1
    generalize upd H5 p1' _ = H6 at *
    walk_at "xs"
    refine x_take cb.bag (by decide) (by decide) ?_
    intro H7 v3 E7 B7 a3 c3
    have cb := cb.step E7 B7
    have e1 := E7 _ _ n1 e1
    obtain ⟨x, ex, ax⟩ := ix_at e1 a3 c3
    refine x_ixL (SqL.of e1) ax ?_
    have hv : ∃ l : Int, x = .int l ∧ 0 ≤ l ∧ l ≤ c' := by
      have hm := List.mem_of_getElem? ex
      simp only [List.mem_cons, List.not_mem_nil, or_false] at hm
      rcases hm with rfl | rfl | rfl
      · exact ⟨_, rfl, by omega, by omega⟩
      · exact ⟨_, rfl, by omega, by omega⟩
      · exact ⟨_, rfl, by omega, by omega⟩
    obtain ⟨l, rfl, l0, l1⟩ := hv
    walk_at "xs"
    refine x_app cb.fd (by rw [sizeLine_eq, List.length_map]; omega) ?_
    have cb := cb.app (.int l) nc hF
    walk_at "xs"
    refine ⟨_, _, _, ls ++ [l], rfl, by rw [List.map_append]; exact cb, by rw [List.length_append, List.length_singleton]; omega, ?_⟩
    intro j lj r hj hr'
    by_cases hji : j < ls.length
    · rw [List.getElem?_append_left hji] at hj
      exact hls j lj r hj hr'
    · have e : j = ls.length := by
        have := (List.getElem?_eq_some_iff.mp hj).1
        rw [List.length_append, List.length_singleton] at this
        omega
      subst e
      rw [List.getElem?_append_right (Nat.le_refl _), Nat.sub_self] at hj
      rw [ll, hdR] at hr'
      cases hj; cases hr'
      exact ⟨l0, l1⟩
  · rintro _ H4 ⟨y6, y7, y8, ls, rfl, cb, ll, hls⟩
    have d2 := d2.ext cb.e
    have ok : LeadsOk rs ls := ⟨by omega, hls⟩
    walk_at "xs"
    refine x_loads d2 cb.fd hb2 (by omega) (by omega) ok ?_
    intro H5 fh hs S5 nfh eh lh hh
    have cb5 := cb.step (Ext.same S5) (cb.bag.ext S5)
    have d2 := d2.ext (Ext.same S5)
    obtain ⟨ob, hob⟩ := cb.bag.at
    have nh := new_out (Same.refl H4) hob nfh
    walk_at "xs"
    refine x_bnd cb5.bag eh nh (by omega) (by omega) hh ?_
    intro H6 f1 ds E6 B6 d1 hb1 l6
    have cb6 := cb5.step E6 B6
    have d2 := d2.ext E6
    have fd6 := cb6.fd
    walk_at "xs"
    intro f3 hf3
    have S7 := same_upd hf3 (o := .tup (ls.map V.int))
    have n3 : f3 ∉ [b] := by
      obtain ⟨ob, hob⟩ := cb6.bag.at
      exact new_out (Same.refl H6) hob hf3
    have d3 : Dn [b] (upd H6 f3 (.tup (ls.map V.int))) (.ref f3) (tupD ls) := .tup upd_same n3 (DnAll.ints ls)
    have cb7 := cb6.step (Ext.same S7) (cb6.bag.ext S7)
    have d2 := d2.ext (Ext.same S7)
    have d1 := d1.ext (Ext.same S7)
    generalize upd H6 f3 _ = H7 at *
    walk_at "xs"
    intro T hT
    have S8 := same_upd hT (o := .tup [.ref f1, .ref f2, .ref f3])
    have nT : T ∉ [b] := by
      obtain ⟨ob, hob⟩ := cb7.bag.at
      exact new_out (Same.refl H7) hob hT
    have cb8 := cb7.step (Ext.same S8) (cb7.bag.ext S8)
    refine q _ T f1 f2 f3 ds rs ls (E1.trans (E2.trans cb8.e)) cb8.bag upd_same nT (d1.ext (Ext.same S8)) (d2.ext (Ext.same S8)) (d3.ext (Ext.same S8)) hb1 (by rw [show (ds.length : Int) = 2 + v1 by omega]; exact hb2) pos ok
end
section
variable {P : Program} {w : World} {K : PySem.W.Frag} {mg : Str → Option Value} {base : Heap} {t0 t1 t2 t3 t4 : Tok}
theorem kn_Lare_leads {k : Nat} (D : Df K mg "_law_are_leads" s_Lare_leads) (B : Bl mg) : Kn P w K mg base "_law_are_leads" (k + 1) spLeadsL := by
  refine kn_of D (fun _ _ _ _ _ _ us hl => match us, hl with | [_, _], _ => rfl) sc_Lare_leads (fun vs H Q E h => by obtain ⟨u, v, d, M, M', rs, n, rfl, _⟩ := h; rfl) (fun f cd B' fr z H vs Q E hr gd h => ?_)
  obtain ⟨u, v, d, M, M', rs, n, rfl, hu, hd, hall, hlen, q⟩ := h
  refine ⟨_, (pss_cons (ps_if (PW.pt (pw_or (pt_not (pt_val (pe_callB call_isD (by rfl) B.isinstance (by decide +kernel) (pa_cons (pv 1) (pa_cons (pe_bltn (v := .ty "tuple") (u := .type "tuple") (by rfl) B.«tuple» (by decide +kernel) rfl) pa_nil))))) (pw_or1 (pt_cmpR op_ne (pe_callB call_len_seq (by rfl) B.len (by decide +kernel) (pa_cons (pv 1) pa_nil)) (pe_callB call_len_seq (by rfl) B.len (by decide +kernel) (pa_cons (pv 0) pa_nil)) (nomark _))))) (pss_one (ps_ret pe_bl)) pss_nil)
  (pss_cons (ps_for PassesOwn.never rfl (pi_zipM (by rfl) B.zip (pa_cons (pv 1) (pa_cons (pv 0) pa_nil))) (pg_tup (by rfl) (pgs_cons (pg_name (i := 2) sc_Lare_leads.nd rfl (.inl rfl)) (pgs_cons (pg_name (i := 3) sc_Lare_leads.nd rfl (.inl rfl)) pgs_nil)))
  (pss_one (ps_if (PW.pt (pw_or (pt_not (pt_val (pe_callB call_isD (by rfl) B.isinstance (by decide +kernel) (pa_cons (pv 2) (pa_cons (pe_bltn (v := .ty "int") (u := .type "int") (by rfl) B.«int» (by decide +kernel) rfl) pa_nil))))) (pw_or (pt_val (pe_callB call_isD (by rfl) B.isinstance (by decide +kernel) (pa_cons (pv 2) (pa_cons (pe_bltn (v := .ty "bool") (u := .type "bool") (by rfl) B.«bool» (by decide +kernel) rfl) pa_nil)))) (pw_or1 (pt_not (pt_chain op_le op_le pe_int (pv 2) (pe_ix (r := rIxT K) ix_tup (pv 3) pe_int (fun _ _ => rfl)))))))) (pss_one (ps_ret pe_bl)) pss_nil)))
  (pss_one (ps_ret pe_bl)))), ?_⟩
  walk_at "xs"
  refine x_iteNB (fun h => ?_) (fun h => ?_)
  · rw [isT_tuple] at h
    have e : leadsD rs d = false := by cases d <;> first | rfl | cases h
    walk_at "xs"
    rw [← e]; exact q _ (Same.refl H)
  · rw [isT_tuple] at h
    cases hd with
    | @tup a xs ds ha hm hxs =>
      cases hu with
      | @lst l ys _ el ml A2 =>
      have lx := hxs.length
      have ly := A2.length
      walk_at "xs"
      have e0 : leadsD rs (.tuple ds) = (decide (ds.length = rs.length) && (ds.zip rs).all fun z => inD 0 (cntD z.2) z.1) := rfl
      rw [e0] at q
      refine x_iteN (fun h => ?_) (fun h => ?_)
      · walk_at "xs"
        rw [decide_eq_false (by omega), Bool.false_and] at q
        exact q _ (Same.refl H)
      · have same : ds.length = rs.length := by omega
        rw [decide_eq_true same, Bool.true_and] at q
        walk_at "xs"
        refine for_zipM (K := K) (us := xs) (vs := ys) (by omega) (fun i σ' H' => ∃ y2 y3, σ' = [some (.ref l), some (.ref a), y2, y3] ∧ Same H H' ∧ ((ds.zip rs).take i).all (fun z => inD 0 (cntD z.2) z.1) = true) ?_ ?_ ?_ ?_
        · exact ⟨_, _, rfl, Same.refl _, by simp⟩
        · rintro i _ H' ⟨_, _, _, SS, _⟩
          exact ⟨SqT.of (SS _ _ ha), SqL.of (SS _ _ el)⟩
        · rintro i u r t _ H' hu hv ⟨y2, y3, rfl, SS, hz⟩ ht
          obtain ⟨dU, hdU, dnU⟩ := hxs.get hu
          obtain ⟨dR, hdR, dnR⟩ := A2.get hv
          obtain ⟨p, a', b', c', rfl, hp, _⟩ := row_at A2 hall hv
          have hb : bundleD dR n = true := by
            rw [List.all_eq_true] at hall
            exact hall _ (List.mem_map.mpr ⟨dR, List.mem_of_getElem? hdR, rfl⟩)
          obtain ⟨a2, b2, c2, rfl⟩ := bundle_at hb
          obtain ⟨p2, e2, _, hp2⟩ := dnR.tup3
          cases e2
          rw [hp] at hp2
          cases hp2
          have S3 := SS.trans (same_upd ht (o := .tup [u, .ref p]))
          have hp := S3 _ _ hp
          have dnU := dnU.ext (Ext.same S3)
          have et := upd_same (H := H') (a := t) (o := .tup [u, .ref p])
          generalize upd H' t _ = H4 at *
          have ei := isInt_eq dU
          walk_at "xs"
          refine x_iteNB (fun h => ?_) (fun h => ?_)
          · rw [h, Bool.false_and] at ei
            have e : inD 0 (cntD (.tuple [.int a', .int b', .int c'])) dU = false := by cases dU <;> first | rfl | cases ei
            walk_at "xs"
            rw [zip_fail hdU hdR e] at q
            exact q _ S3
          · rw [h, Bool.true_and] at ei
            walk_at "xs"
            refine x_iteB (fun h => ?_) (fun h => ?_)
            · rw [h] at ei
              have e : inD 0 (cntD (.tuple [.int a', .int b', .int c'])) dU = false := by cases dU <;> first | rfl | cases ei
              walk_at "xs"
              rw [zip_fail hdU hdR e] at q
              exact q _ S3
            · rw [h] at ei
              obtain ⟨i1, rfl, rfl⟩ := dnU.isInt ei.symm
              have e : inD 0 (cntD (.tuple [.int a', .int b', .int c'])) (.int i1) = (decide (0 ≤ i1) && decide (i1 ≤ c')) := rfl
              walk_at "xs"
              refine x_ite (fun h1 => ?_) (fun h1 => ?_)
              · walk_at "xs"
                refine x_iteN (fun h2 => ?_) (fun h2 => ?_)
                · walk_at "xs"
                  rw [decide_eq_false h2, Bool.and_false] at e
                  rw [zip_fail hdU hdR e] at q
                  exact q _ S3
                · walk_at "xs"
                  rw [decide_eq_true h1, decide_eq_true h2, Bool.true_and] at e
                  exact ⟨_, _, rfl, S3, zip_step hdU hdR hz e⟩
              · walk_at "xs"
                rw [decide_eq_false h1, Bool.false_and] at e
                rw [zip_fail hdU hdR e] at q
                exact q _ S3
        · rintro _ H' ⟨y2, y3, rfl, SS, hz⟩
          rw [List.take_of_length_le (by rw [List.length_zip]; omega)] at hz
          walk_at "xs"
          rw [hz] at q
          exact q _ SS
    | _ => cases h
end
theorem ofString_small (s : String) : ∀ c ∈ (Str.ofString s).cps.toList, c < 16 ^ 8 := by
  intro c hc
  rw [Str.ofString_eq_toList] at hc
  obtain ⟨x, _, rfl⟩ := List.mem_map.mp (show c ∈ s.toList.map Char.toNat from hc)
  exact x.val.toNat_lt
theorem sz_str {i : Int} (h : i.natAbs < 2 ^ 200) : Sz (.str (toString i)) 6100 4 := by
  refine ⟨rfl, ?_, Nat.zero_le _⟩
  have h1 := (sz_int h).sz
  have h2 := PySem.StrLaws.reprText_len (Str.ofString (toString i)) (ofString_small _)
  have h1 : (Str.ofString (toString i)).length ≤ 201 := h1
  show (reprText (Str.ofString (toString i))).length ≤ 6100
  omega

def spBentL : Sp := fun vs H Q _ => ∃ (b c : Addr) (M : List Addr) (u v : V) (rs : List PyData) (ls : List Int) (n : Int), vs = [.ref b, u, v] ∧ Bag H b c ∧ b ∈ M ∧ (∀ m ∈ M, ∃ o, H m = some o) ∧ Dn M H u (.list rs) ∧ Dn M H v (tupD ls) ∧ bundlesD (.list rs) n = true ∧ n ≤ 10 ∧ 0 < rs.length ∧ LeadsOk rs ls ∧
  ∀ H' x d, Ext [b] H H' → Bag H' b c → Dn M H' x d → Fin2 d → Q x H'
theorem x_bentL {H : Hp} {Q : VK} {E : XK} {b c : Addr} {M : List Addr} {u v : V} {rs : List PyData} {ls : List Int} {n : Int} (hB : Bag H b c) (bM : b ∈ M) (hM : ∀ m ∈ M, ∃ o, H m = some o) (hu : Dn M H u (.list rs)) (hv : Dn M H v (tupD ls)) (hb : bundlesD (.list rs) n = true) (hn : n ≤ 10) (pos : 0 < rs.length) (ok : LeadsOk rs ls)
    (h : ∀ H' x d, Ext [b] H H' → Bag H' b c → Dn M H' x d → Fin2 d → Q x H') : spBentL [.ref b, u, v] H Q E := ⟨b, c, M, u, v, rs, ls, n, rfl, hB, bM, hM, hu, hv, hb, hn, pos, ok, h⟩
theorem leads_small {rs : List PyData} {ls : List Int} {n : Int} (hb : bundlesD (.list rs) n = true) (hn : n ≤ 10) (ok : LeadsOk rs ls) : ∀ l ∈ ls, 0 ≤ l ∧ l ≤ 1000000000000000000 := by
  intro l hl
  obtain ⟨i, hi, e⟩ := List.getElem_of_mem hl
  obtain ⟨len, all⟩ := bundles_len hb
  have hr : i < rs.length := by rw [← ok.1]; exact hi
  have hbd : bundleD rs[i] n = true := by
    rw [List.all_eq_true] at all
    exact all _ (List.mem_map.mpr ⟨rs[i], List.getElem_mem hr, rfl⟩)
  obtain ⟨a, b, c, e2, _, _, _, _, p4⟩ := bundle_row hbd hn
  obtain ⟨q0, q1⟩ := ok.2 i l rs[i] (by rw [List.getElem?_eq_getElem hi, e]) (List.getElem?_eq_getElem hr)
  rw [e2] at q1
  have q1 : l ≤ c := q1
  rw [e18] at p4
  omega
section
variable {P : Program} {w : World} {K : PySem.W.Frag} {mg : Str → Option Value} {base : Heap} {t0 t1 t2 t3 t4 : Tok}
theorem kn_bentL {k : Nat} (D : Df K mg "_law_bent" s_Lbent) (B : Bl mg) (c_Ltake : Kn P w K mg base "_law_take" k spTake) (c_Lodd : Kn P w K mg base "_law_odd" k spOdd) : Kn P w K mg base "_law_bent" (k + 1) spBentL := by
  refine kn_of D (fun _ _ _ _ _ _ us hl => match us, hl with | [_, _, _], _ => rfl) sc_Lbent (fun vs H Q E h => by obtain ⟨b, c, M, u, v, rs, ls, n, rfl, _⟩ := h; rfl) (fun f cd B' fr z H vs Q E hr gd h => ?_)
  obtain ⟨b, c, M, u, v, rs, ls, n, rfl, hB, bM, hM, hu, hv, hb, hn, pos, ok, q⟩ := h
  have sub : ∀ z, z ∈ [b] → z ∈ M := fun z h => by simp at h; subst h; exact bM
  refine ⟨_, (pss_cons (ps_set (i := 3) sc_Lbent.nd rfl (.inl rfl) (pe_own c_Ltake hr gd (by rfl) (pa_cons (pv 0) (pa_cons (pe_callB call_len_seq (by rfl) B.len (by decide +kernel) (pa_cons (pv 2) pa_nil)) pa_nil))))
  (pss_cons (ps_set (i := 4) sc_Lbent.nd rfl (.inl rfl) (pe_ix (r := rIxL K) ix_list (pe_lst (pa_cons (pe_un un_neg pe_int) (pa_cons (pe_op op_add (pe_ix (r := rIxT K) ix_tup (pe_ix (r := rIxL K) ix_list (pv 1) (pv 3) (fun _ _ => rfl)) pe_int (fun _ _ => rfl)) pe_int) (pa_cons pe_bl (pa_cons (pe_own c_Lodd hr gd (by rfl) (pa_cons (pv 0) pa_nil)) (pa_cons (pe_callTy call_str_int (by rfl) B.«str» (by decide +kernel) (pa_cons (pe_ix (r := rIxT K) ix_tup (pv 2) (pv 3) (fun _ _ => rfl)) pa_nil)) (pa_cons (pe_ix (r := rIxT K) ix_tup (pe_ix (r := rIxL K) ix_list (pv 1) (pv 3) (fun _ _ => rfl)) pe_int (fun _ _ => rfl)) (pa_cons pe_int pa_nil)))))))) (pe_own c_Ltake hr gd (by rfl) (pa_cons (pv 0) (pa_cons pe_int pa_nil))) (fun _ _ => rfl)))
  (pss_cons (ps_set (i := 5) sc_Lbent.nd rfl (.inl rfl) (pe_lst (pa_cons (pe_op op_catA (pe_op op_catA (pe_slice (r := rSlA K) sl_tupA (pv 2) po_none (po_some (pv 3))) (pe_tup (pa_cons (pv 4) pa_nil))) (pe_slice (r := rSlA K) sl_tupA (pv 2) (po_some (pe_op op_add (pv 3) pe_int)) po_none)) (pa_cons (pe_op op_catA (pe_slice (r := rSlA K) sl_tupA (pv 2) po_none (po_some (pv 3))) (pe_slice (r := rSlA K) sl_tupA (pv 2) (po_some (pe_op op_add (pv 3) pe_int)) po_none)) (pa_cons (pe_op op_catA (pv 2) (pe_tup (pa_cons pe_int pa_nil))) (pa_cons (pe_callTy call_list_of (by rfl) B.«list» (by decide +kernel) (pa_cons (pv 2) pa_nil)) pa_nil))))))
  (pss_cons (ps_expr (pe_bm PySem.F.plainAttrs_list PySem.F.slot_list_append PySem.F.type_list_append mt_append (pv 5) (pa_cons (pe_revT (pv 2)) pa_nil)))
  (pss_one (ps_ret (pe_ix (r := rIxL K) ix_list (pe_op op_cat (pv 5) (pe_lst (pa_cons (pe_own c_Lodd hr gd (by rfl) (pa_cons (pv 0) pa_nil)) pa_nil))) (pe_own c_Ltake hr gd (by rfl) (pa_cons (pv 0) (pa_cons pe_int pa_nil))) (fun _ _ => rfl)))))))), ?_⟩
  have small := leads_small hb hn ok
  obtain ⟨len, all⟩ := bundles_len hb
  obtain ⟨okl, okv⟩ := ok
  have big : (1000000000000000000 : Nat) + 10 < 2 ^ 200 := by decide
  have n0 : Nb M H b c [] [] H := ⟨Ext.refl _ _, hB, .nil, bM, hM⟩
  obtain ⟨r, rfl⟩ : ∃ r, v = .ref r := by cases hv; exact ⟨_, rfl⟩
  obtain ⟨er, nr⟩ : H r = some (.tup (ls.map V.int)) ∧ r ∉ M := by
    cases hv with
    | tup e1 e2 e3 => obtain rfl := DnAll.toInts e3; exact ⟨e1, e2⟩
  cases hu with
  | @lst F xs _ fd ne A =>
  have lx := A.length
  have lns : (ls.map PyData.int).length ≤ 45 := by rw [List.length_map]; omega
  have hnsz : ∀ d ∈ ls.map PyData.int, Sz d 6100 4 := fun d hd => by obtain ⟨m, hm, rfl⟩ := List.mem_map.mp hd; have := small m hm; exact sz_big (by omega)
  walk_at "xs"
  refine x_take hB (by rw [List.length_map]; omega) (by rw [List.length_map]; omega) ?_
  intro H1 at_ E1 B1 a1 c1
  have X1 := E1.mono sub
  rw [List.length_map] at c1
  have n1 := n0.step E1 B1
  have fd1 := X1 _ _ ne fd
  have er1 := X1 _ _ nr er
  have A1 := A.ext X1
  obtain ⟨x, ex, ax⟩ := ix_at fd1 a1 (by omega)
  obtain ⟨dR, hdR, dnR⟩ := A1.get ex
  have hbd : bundleD dR n = true := by
    rw [List.all_eq_true] at all
    exact all _ (List.mem_map.mpr ⟨dR, List.mem_of_getElem? hdR, rfl⟩)
  obtain ⟨a', b', c', rfl, p0, p1, p2, p3, p4⟩ := bundle_row hbd hn
  rw [e18] at p4
  obtain ⟨r', rfl, nr', hr1⟩ := Dn.tup3 (a := a') (b := b') (c := c') dnR
  walk_at "xs"
  refine x_ixL (SqL.of fd1) ax ?_
  walk_at "xs"
  refine x_oddM n1.bag n1.mem n1.al ?_
  intro H2 vo dO E2 B2 dvo mo
  have X2 := E2.mono sub
  have n2 := n1.step E2 B2
  have fd2 := X2 _ _ ne fd1
  have er2 := X2 _ _ nr er1
  have hr2 := X2 _ _ nr' hr1
  obtain ⟨lv, hlv, atl⟩ := at_map (hs := ls) a1 (by omega)
  have sm := small lv (List.mem_of_getElem? hlv)
  walk_at "xs"
  refine x_ixT (SqT.of er2) atl ?_
  walk_at "xs"
  refine ⟨Nat.lt_of_le_of_lt (by
    by_cases h0 : lv.natAbs = 0
    · rw [h0]; decide
    · exact Nat.le_of_lt ((Nat.log2_lt h0).mpr (show lv.natAbs < 2 ^ 200 by omega))) (by decide : 200 < 1920), ?_⟩
  walk_at "xs"
  refine x_ixL (SqL.of fd2) ax ?_
  walk_at "xs"
  intro p hp
  have A7 : DnAll M H2 [.int (-1), .int (c' + 1), .bl true, vo, .str (toString lv), .int c', .int 0] [.int (-1), .int (c' + 1), .bool true, dO, .str (toString lv), .int c', .int 0] :=
    .cons (.int _) (.cons (.int _) (.cons (.bl _) (.cons dvo (.cons (.str _) (.cons (.int _) (.cons (.int _) .nil))))))
  have sz7 : ∀ d ∈ [.int (-1), .int (c' + 1), .bool true, dO, .str (toString lv), .int c', .int 0], Sz d 6100 4 := by
    intro d hd
    simp only [List.mem_cons, List.not_mem_nil, or_false] at hd
    rcases hd with rfl | rfl | rfl | rfl | rfl | rfl | rfl
    · exact sz_big (by decide)
    · exact sz_big (by omega)
    · exact (sz_bool _).mono (by decide) (by decide)
    · exact (odds_sz _ mo).1
    · exact sz_str (by omega)
    · exact sz_big (by omega)
    · exact sz_big (by decide)
  obtain ⟨n3, S3⟩ := x_newL n2 hp A7
  have np := n2.out hp
  have ep := upd_same (H := H2) (a := p) (o := .lst [.int (-1), .int (c' + 1), .bl true, vo, .str (toString lv), .int c', .int 0])
  have er3 := S3 _ _ er2
  have A7 := A7.ext (Ext.same S3)
  generalize upd H2 p _ = H3 at *
  walk_at "xs"
  refine x_take n3.bag (by decide) (by decide) ?_
  intro H4 i7 E4 B4 a4 c4
  have X4 := E4.mono sub
  have n4 := n3.step E4 B4
  have er4 := X4 _ _ nr er3
  have ep := X4 _ _ np ep
  have A7 := A7.ext X4
  obtain ⟨nv, env, anv⟩ := ix_at ep a4 c4
  refine x_ixL (SqL.of ep) anv ?_
  obtain ⟨dn, hdn, dnv⟩ := A7.get env
  have szn := sz7 _ (List.mem_of_getElem? hdn)
  have drow : Dn M H4 (.ref r) (.tuple (ls.map PyData.int)) := .tup er4 nr (DnAll.ints ls)
  walk_at "xs"
  refine x_slTn n4 drow ?_
  intro p1 H8 e1 n8 S8 m1 l1
  have drow := drow.ext (Ext.same S8)
  have dnv := dnv.ext (Ext.same S8)
  walk_at "xs"
  intro p2 hp2
  obtain ⟨n9, S9⟩ := x_newT n8 hp2 (.cons dnv .nil)
  have drow := drow.ext (Ext.same S9)
  generalize upd H8 p2 _ = H9 at *
  refine x_catTn n9 (DnAll.head (DnAll.tail n9.A)) (DnAll.head n9.A) (by simp only [List.length_cons, List.length_nil]; omega) ?_
  intro p3 H10 n10 S10
  have drow := drow.ext (Ext.same S10)
  walk_at "xs"
  refine x_slTn n10 drow ?_
  intro p4 H11 e4 n11 S11 m4 l4
  have drow := drow.ext (Ext.same S11)
  walk_at "xs"
  refine x_catTn n11 (DnAll.head (DnAll.tail n11.A)) (DnAll.head n11.A) (by simp only [List.length_append, List.length_cons, List.length_nil]; omega) ?_
  intro p5 H12 n12 S12
  have drow := drow.ext (Ext.same S12)
  have k1 : Fin2 (.tuple (e1 ++ [dn] ++ e4)) := small_tuple (mem_app (mem_app (fun z hz => hnsz z (m1 z hz)) (mem_one szn)) (fun z hz => hnsz z (m4 z hz))) (by simp only [List.length_append, List.length_cons, List.length_nil]; omega)
  have F1 := DnAll.cons (DnAll.head n12.A) .nil
  walk_at "xs"
  refine x_slTn n12 drow ?_
  intro p6 H13 e6 n13 S13 m6 l6
  have drow := drow.ext (Ext.same S13)
  walk_at "xs"
  refine x_slTn n13 drow ?_
  intro p7 H14 e7 n14 S14 m7 l7
  have drow := drow.ext (Ext.same S14)
  walk_at "xs"
  refine x_catTn n14 (DnAll.head (DnAll.tail n14.A)) (DnAll.head n14.A) (by omega) ?_
  intro p8 H15 n15 S15
  have drow := drow.ext (Ext.same S15)
  have k2 : Fin2 (.tuple (e6 ++ e7)) := small_tuple (mem_app (fun z hz => hnsz z (m6 z hz)) (fun z hz => hnsz z (m7 z hz))) (by simp only [List.length_append]; omega)
  have F2 := ((F1.ext (Ext.same (S13.trans (S14.trans S15)))).app (DnAll.cons (DnAll.head n15.A) .nil))
  walk_at "xs"
  intro p9 hp9
  obtain ⟨n16, S16⟩ := x_newT n15 hp9 (.cons (.int 0) .nil)
  have drow := drow.ext (Ext.same S16)
  generalize upd H15 p9 _ = H16 at *
  refine x_catTn n16 drow (DnAll.head n16.A) (by simp only [List.length_cons, List.length_nil]; omega) ?_
  intro p10 H17 n17 S17
  have drow := drow.ext (Ext.same S17)
  have er : H17 r = some (.tup (ls.map V.int)) := by cases drow with | tup e1 e2 e3 => obtain rfl := DnAll.toInts e3; exact e1
  have k3 : Fin2 (.tuple (ls.map PyData.int ++ [.int 0])) := small_tuple (mem_app hnsz (mem_one (sz_big (by decide)))) (by simp only [List.length_append, List.length_cons, List.length_nil]; omega)
  have F3' := ((F2.ext (Ext.same (S16.trans S17))).app (DnAll.cons (DnAll.head n17.A) .nil))
  walk_at "xs"
  intro p11 hp11
  obtain ⟨n18, S18⟩ := x_newL n17 hp11 (DnAll.ints ls)
  have drow := drow.ext (Ext.same S18)
  have k4 : Fin2 (.list (ls.map PyData.int)) := small_list hnsz (by omega)
  have F4 := ((F3'.ext (Ext.same S18)).app (DnAll.cons (DnAll.head n18.A) .nil))
  generalize upd H17 p11 _ = H18 at *
  walk_at "xs"
  intro p12 hp12
  have np12 := n18.out hp12
  have c12 := n18.bag.cne hp12
  have H12 : H p12 = none := by
    cases e : H p12 with
    | none => rfl
    | some o => exact absurd (n18.e _ _ (fun h => np12 (sub _ h)) e) (by rw [hp12]; simp)
  have F4n : DnAll (p12 :: M) H18 [.ref p5, .ref p8, .ref p10, .ref p11] [.tuple (e1 ++ [dn] ++ e4), .tuple (e6 ++ e7), .tuple (ls.map PyData.int ++ [.int 0]), .list (ls.map PyData.int)] :=
    DnAll.avoid (M := M) (fun a o n e m => (List.mem_cons.mp m).elim (ne_of_none e hp12) n) F4
  have S19 := same_upd hp12 (o := .lst [.ref p5, .ref p8, .ref p10, .ref p11])
  have e12 := upd_same (H := H18) (a := p12) (o := .lst [.ref p5, .ref p8, .ref p10, .ref p11])
  have n19 := n18.same S19
  have F5 := F4n.ext (Ext.same S19)
  have drow := drow.ext (Ext.same S19)
  generalize upd H18 p12 _ = H19 at *
  have er : H19 r = some (.tup (ls.map V.int)) := by cases drow with | tup e1 e2 e3 => obtain rfl := DnAll.toInts e3; exact e1
  walk_at "xs"
  refine ⟨r, ls.map V.int, rfl, SqT.of er, ?_⟩
  intro p13 hp13
  have q12 : p12 ≠ p13 := ne_of_none e12 hp13
  obtain ⟨n20, S20⟩ := x_newT n19 hp13 (DnAll.ints ls).rev
  have e12 := S20 _ _ e12
  have k5 : Fin2 (.tuple (ls.map PyData.int).reverse) := small_tuple (fun z hz => hnsz z (List.mem_reverse.mp hz)) (by rw [List.length_reverse]; omega)
  have d13 : Dn (p12 :: M) (upd H19 p13 (.tup (ls.map V.int).reverse)) (.ref p13) (.tuple (ls.map PyData.int).reverse) := by
    have h2 := n19.out hp13
    exact .tup upd_same (fun h => (List.mem_cons.mp h).elim q12.symm h2) (DnAll.ints ls).rev
  have F6 := (F5.ext (Ext.same S20)).app (DnAll.cons d13 .nil)
  generalize upd H19 p13 _ = H20 at *
  walk_at "xs"
  refine x_app e12 (by rw [sizeLine_eq]; exact Nat.le_of_ble_eq_true rfl) ?_
  have X21 : Ext (p12 :: M) H20 (upd H20 p12 (.lst ([.ref p5, .ref p8, .ref p10, .ref p11] ++ [.ref p13]))) := Ext.upd (by simp)
  have F7 : DnAll M _ [.ref p5, .ref p8, .ref p10, .ref p11, .ref p13] [.tuple (e1 ++ [dn] ++ e4), .tuple (e6 ++ e7), .tuple (ls.map PyData.int ++ [.int 0]), .list (ls.map PyData.int), .tuple (ls.map PyData.int).reverse] := DnAll.sub (fun z h => List.mem_cons_of_mem _ h) (F6.ext X21)
  have n21 : Nb M H b c [] [] (upd H20 p12 (.lst ([.ref p5, .ref p8, .ref p10, .ref p11] ++ [.ref p13]))) := by
    refine ⟨fun a o n e => ?_, ?_, .nil, bM, fun m hm => ?_⟩
    · rw [upd_ne (ne_of_none e H12)]; exact n20.e _ _ n e
    · obtain ⟨x, y, k, cs, h1, h2, h3⟩ := n20.bag
      exact ⟨x, y, k, cs, by rw [upd_ne (fun h : b = p12 => np12 (h ▸ bM))]; exact h1, by rw [upd_ne c12]; exact h2, h3⟩
    · rw [upd_ne (fun (h : m = p12) => np12 (h ▸ hm))]; exact n20.al m hm
  have e12 : upd H20 p12 (.lst ([.ref p5, .ref p8, .ref p10, .ref p11] ++ [.ref p13])) p12 = some (.lst [.ref p5, .ref p8, .ref p10, .ref p11, .ref p13]) := upd_same
  generalize upd H20 p12 _ = H21 at *
  walk_at "xs"
  refine x_oddM n21.bag n21.mem n21.al ?_
  intro H22 vo2 dO2 E22 B22 dvo2 mo2
  have X22 := E22.mono sub
  have n22 := n21.step E22 B22
  have d12 : Dn M H22 (.ref p12) (.list [.tuple (e1 ++ [dn] ++ e4), .tuple (e6 ++ e7), .tuple (ls.map PyData.int ++ [.int 0]), .list (ls.map PyData.int), .tuple (ls.map PyData.int).reverse]) := .lst (X22 _ _ np12 e12) np12 (F7.ext X22)
  walk_at "xs"
  intro p14 hp14
  obtain ⟨n23, S23⟩ := x_newL n22 hp14 (.cons dvo2 .nil)
  have d12 := d12.ext (Ext.same S23)
  generalize upd H22 p14 _ = H23 at *
  refine x_catLn n23 d12 (DnAll.head n23.A) (Nat.le_of_ble_eq_true rfl) ?_
  intro p15 H24 n24 S24
  have dsix := DnAll.head n24.A
  walk_at "xs"
  refine x_take n24.bag (by decide) (by decide) ?_
  intro H25 i6 E25 B25 a25 c25
  have X25 := E25.mono sub
  have n25 := n24.step E25 B25
  have dsix := dsix.ext X25
  cases dsix with
  | lst e6' n6' A6 =>
  obtain ⟨y, ey, ay⟩ := ix_at e6' a25 (by rw [A6.length]; exact c25)
  refine x_ixL (SqL.of e6') ay ?_
  obtain ⟨dy, hdy, dny⟩ := A6.get ey
  have szy : Fin2 dy := by
    have hm := List.mem_of_getElem? hdy
    simp only [List.cons_append, List.nil_append, List.mem_cons, List.not_mem_nil, or_false] at hm
    rcases hm with rfl | rfl | rfl | rfl | rfl | rfl
    · exact k1
    · exact k2
    · exact k3
    · exact k4
    · exact k5
    · exact (odd_fine mo2).fin2
  walk_at "xs"
  exact q _ _ _ n25.e n25.bag dny szy
end
def spLaw (K : PySem.W.Frag) : Sp := fun vs H Q _ => ∃ (a : Addr) (ns : List Int), vs = [.ref a] ∧ SqL K H a (ns.map V.int) ∧ ∀ H', Q (.bl true) H'
theorem x_bag {K : PySem.W.Frag} {H : Hp} {Q : VK} {E : XK} {a : Addr} {ns : List Int} (ha : SqL K H a (ns.map V.int)) (h : ∀ H' b c, Same H H' → H b = none → Bag H' b c → Q (.ref b) H') : spBag K [.ref a] H Q E := ⟨a, ns, rfl, ha, h⟩
theorem x_leads {C : Addr} {H : Hp} {Q : VK} {E : XK} {x : Addr} {v : V} {d d1 : PyData} {M M' : List Addr} {rs : List PyData} {n : Int} (hc : Clu C M' H x d1 (.list rs)) (hd : Dn M H v d) (hb : bundlesD (.list rs) n = true) (h : ∀ H', Same H H' → Q (.bl (leadsD rs d)) H') : spLeads C [.ref x, v] H Q E :=
  ⟨x, v, d, M, M', d1, rs, n, rfl, hc, hd, (bundles_len hb).2, (bundles_len hb).1, h⟩
theorem x_leadsL {H : Hp} {Q : VK} {E : XK} {u v : V} {d : PyData} {M M' : List Addr} {rs : List PyData} {n : Int} (hu : Dn M' H u (.list rs)) (hd : Dn M H v d) (hb : bundlesD (.list rs) n = true) (h : ∀ H', Same H H' → Q (.bl (leadsD rs d)) H') : spLeadsL [u, v] H Q E :=
  ⟨u, v, d, M, M', rs, n, rfl, hu, hd, (bundles_len hb).2, (bundles_len hb).1, h⟩
theorem shaped_bl (k : Bool) : SeqAt.shaped (.bool k) = true := by cases k <;> rfl
section
variable {P : Program} {w : World} {K : PySem.W.Frag} {mg : Str → Option Value} {t0 t1 t2 t3 t4 : Tok} {C : Addr}
theorem ok_law {base : Heap} (sys : ∃ o, base.get? sysModules = some o) (B : Bl mg) (cc : Cc K mg C) {k : Nat}
    (c_Lbag : Kn P w K mg base "_law_bag" (k + 1) (spBag K)) (c_Lnet : Kn P w K mg base "_law_net" (k + 1) spNet) (m_init : Km P w K mg base C "__init__" k (spInit C)) (c_Lbent : Kn P w K mg base "_law_bent" (k + 1) spBentL)
    (c_Lare_leads : Kn P w K mg base "_law_are_leads" (k + 1) spLeadsL) (c_are_leads : Kn P w K mg base "are_leads" (k + 1) (spLeads C)) (c_Lalike : Kn P w K mg base "_law_alike" (k + 1) spAlike)
    (f : Addr) (cd : Value) (B' : Around) (fr : List Env) (z : Shared) (H : Hp) (vs : List V) (Q : VK) (E : XK)
    (hr : Room (k + 1) (B'.deeper (envOfC "law" (defScope s_law) z.heap.objs.size f cd))) (gd : (B'.deeper (envOfC "law" (defScope s_law) z.heap.objs.size f cd)).guards = some []) (h : spLaw K vs H Q E) :
    ∃ t, PSs (bodyX P w K mg base ["_law_script", "_law_bag_here", "_law_turn", "_law_bounds_here", "_law_bundles_here", "_law_leads", "_law_cluster", "_law_thing", "_law_shown", "_law_due", "_law_again", "_law_k"] "law" s_law f cd B' fr z H E) (defBody s_law) t ∧
      t { nx := fun _ H' => Q .non H', rt := Q } (start ["_law_script", "_law_bag_here", "_law_turn", "_law_bounds_here", "_law_bundles_here", "_law_leads", "_law_cluster", "_law_thing", "_law_shown", "_law_due", "_law_again", "_law_k"] vs) H := by
  obtain ⟨a, ns, rfl, ha, q⟩ := h
  have c_Cluster := cc.ck
  refine ⟨_, (pss_cons (ps_set (i := 1) sc_law.nd rfl (.inr rfl) (pe_own c_Lbag hr gd (by rfl) (pa_cons (pv 0) pa_nil)))
  (pss_cons (ps_for PassesOwn.never rfl (pi_range1 (by rfl) B.range (pa_cons pe_int pa_nil)) (pg_name (i := 2) sc_law.nd rfl (.inl rfl))
  (pss_cons (ps_asg (pe_own c_Lnet hr gd (by rfl) (pa_cons (pv 1) (pa_cons pe_int (pa_cons pe_bl pa_nil)))) (pg_tup (by rfl) (pgs_cons (pg_name (i := 3) sc_law.nd rfl (.inl rfl)) (pgs_cons (pg_name (i := 4) sc_law.nd rfl (.inr rfl)) (pgs_cons (pg_name (i := 5) sc_law.nd rfl (.inr rfl)) pgs_nil)))))
  (pss_cons (ps_set (i := 6) sc_law.nd rfl (.inl rfl) (pe_ownMk c_Cluster m_init hr gd (by rfl) (pa_cons (pv 3) (pa_cons (pv 4) pa_nil))))
  (pss_one (ps_for PassesOwn.never rfl (pi_list (pe_op op_cat (pe_lst (pa_cons (pv 5) pa_nil)) (pe_lc (own := [("_law_k", 11)]) rfl sc_law.nd (pi_range1 (by rfl) B.range (pa_cons pe_int pa_nil)) (blkOk_by (N := ["_law_script", "_law_bag_here", "_law_turn", "_law_bounds_here", "_law_bundles_here", "_law_leads", "_law_cluster", "_law_thing", "_law_shown", "_law_due", "_law_again", "_law_k"]) (sc := defScope s_law) (by decide +kernel)) (fun _ _ _ _ _ => (pg_name (i := 11) sc_law.nd rfl (.inl rfl))) (fun _ _ _ _ _ => pts_nil) (fun _ _ _ _ _ => (pe_own c_Lbent hr gd (by rfl) (pa_cons (pv 1) (pa_cons (pv 4) (pa_cons (pv 5) pa_nil)))))))) (pg_name (i := 7) sc_law.nd rfl (.inl rfl))
  (pss_cons (ps_par (i := 8) (j := 9) (by rfl) sc_law.nd rfl rfl (by decide) rfl rfl (pa_cons (pe_callB (call_reprD gd hr.units sys) (by rfl) B.repr (by decide +kernel) (pa_cons (pv 7) pa_nil)) (pa_cons (pe_own c_Lare_leads hr gd (by rfl) (pa_cons (pv 4) (pa_cons (pv 7) pa_nil))) pa_nil)) (by rfl))
  (pss_one (ps_for PassesOwn.never rfl (pi_range1 (by rfl) B.range (pa_cons pe_int pa_nil)) (pg_name (i := 10) sc_law.nd rfl (.inl rfl))
  (pss_one (ps_if (PW.pt (pw_or (pt_not (pt_val (pe_own c_Lalike hr gd (by rfl) (pa_cons (pe_own c_are_leads hr gd (by rfl) (pa_cons (pv 6) (pa_cons (pv 7) pa_nil))) (pa_cons (pv 9) pa_nil))))) (pw_or1 (pt_cmpR op_ne (pe_callB (call_reprD gd hr.units sys) (by rfl) B.repr (by decide +kernel) (pa_cons (pv 7) pa_nil)) (pv 8) (nomark _))))) (pss_one (ps_ret pe_bl)) pss_nil))))))))))
  (pss_cons (ps_set (i := 6) sc_law.nd rfl (.inl rfl) (pe_ownMk c_Cluster m_init hr gd (by rfl) (pa_cons (pe_lst (pa_cons (pe_tup (pa_cons pe_int (pa_cons pe_int pa_nil))) (pa_cons (pe_tup (pa_cons pe_int (pa_cons pe_int pa_nil))) pa_nil))) (pa_cons (pe_lst (pa_cons (pe_tup (pa_cons pe_int (pa_cons pe_int (pa_cons pe_int pa_nil)))) pa_nil)) pa_nil))))
  (pss_cons (ps_if (PW.pt (pw_or (pt_not (pt_val (pe_own c_are_leads hr gd (by rfl) (pa_cons (pv 6) (pa_cons (pe_tup (pa_cons pe_int pa_nil)) pa_nil))))) (pw_or (pt_val (pe_own c_are_leads hr gd (by rfl) (pa_cons (pv 6) (pa_cons (pe_tup (pa_cons pe_bl pa_nil)) pa_nil)))) (pw_or1 (pt_val (pe_own c_are_leads hr gd (by rfl) (pa_cons (pv 6) (pa_cons (pe_tup pa_nil) pa_nil)))))))) (pss_one (ps_ret pe_bl)) pss_nil)
  (pss_cons (ps_set (i := 6) sc_law.nd rfl (.inl rfl) (pe_ownMk c_Cluster m_init hr gd (by rfl) (pa_cons (pe_lst (pa_cons (pe_tup (pa_cons pe_int (pa_cons pe_int pa_nil))) (pa_cons (pe_tup (pa_cons pe_int (pa_cons pe_int pa_nil))) pa_nil))) (pa_cons (pe_lst pa_nil) pa_nil))))
  (pss_one (ps_ret (pe_and (pe_cmpR op_isBl (pe_own c_are_leads hr gd (by rfl) (pa_cons (pv 6) (pa_cons (pe_tup pa_nil) pa_nil))) pe_bl (nomark _)) (pe_one (pe_cmpR op_isBl (pe_own c_are_leads hr gd (by rfl) (pa_cons (pv 6) (pa_cons (pe_tup (pa_cons pe_int pa_nil)) pa_nil))) pe_bl (nomark _))))))))))), ?_⟩
  walk_at "xs"
  refine x_bag ha ?_
  intro H1 b c S1 nb hB
  walk_at "xs"
  refine for_range (lo := 0) (n := (5 : Int).toNat) (fun i σ' H' => ∃ y2 y3 y4 y5 y6 y7 y8 y9 y10, σ' = [some (.ref a), some (.ref b), y2, y3, y4, y5, y6, y7, y8, y9, y10, none] ∧ Bag H' b c) ?_ ?_ ?_
  · exact ⟨_, _, _, _, _, _, _, _, _, rfl, hB⟩
  · rintro i _ H2 hi ⟨y2, y3, y4, y5, y6, y7, y8, y9, y10, rfl, hB⟩
    walk_at "xs"
    refine x_net hB (by decide) (by decide) ?_
    intro H3 T f1 f2 f3 ds rs ls E3 hB eT nT d1 d2 d3 hb1 hb2 pos ok
    have n10 := bounds_len hb1
    walk_at "xs"
    refine x_clu2 hB d1 d2 hb1 hb2 ?_
    intro x H4 S4 hB hx cl
    have d2 := d2.ext (Ext.same S4)
    have d3 := d3.ext (Ext.same S4)
    walk_at "xs"
    intro p1 hp1
    obtain ⟨ob, hob⟩ := hB.at
    have np1 := new_out (Same.refl H4) hob hp1
    have S5 := same_upd hp1 (o := .lst [.ref f3])
    have e1 := upd_same (H := H4) (a := p1) (o := .lst [.ref f3])
    have hB := hB.ext S5
    have cl := cl.ext (Ext.same S5)
    have d2 := d2.ext (Ext.same S5)
    have d3 := d3.ext (Ext.same S5)
    generalize upd H4 p1 _ = H5 at *
    walk_at "xs"
    intro L hL
    have nL : L ∉ [b] := by
      obtain ⟨ob, hob⟩ := hB.at
      exact new_out (Same.refl H5) hob hL
    have cL := hB.cne hL
    have S6 := same_upd hL (o := .lst [])
    have d2L := d2.more hL
    have d3L := d3.more hL
    refine lc_range (lo := 0) (n := (5 : Int).toNat) (fun i H' => ∃ acc da, Cb H5 b c L acc H' ∧ DnAll (L :: [b]) H' acc da ∧ acc.length = i ∧ ∀ d ∈ da, Fin2 d) ?_ ?_ ?_
    · exact ⟨[], [], ⟨Ext.same S6, hB.ext S6, upd_same, nL⟩, .nil, rfl, by simp⟩
    · rintro j H6 hj ⟨acc, da, cb, A, la, fin⟩
      have X6 : Ext (L :: [b]) H5 H6 := cb.e.mono (fun z h => List.mem_cons_of_mem _ h)
      walk_at "xs"
      refine x_wiped rfl ?_
      walk_at "xs"
      refine x_bentL (M := L :: [b]) cb.bag (by simp) (fun m hm => ?_) (d2L.ext X6) (d3L.ext X6) hb2 (by omega) pos ok ?_
      · rcases List.mem_cons.mp hm with rfl | hm
        · exact ⟨_, cb.fd⟩
        · simp at hm; subst hm; exact cb.bag.at
      intro H7 y d E7 B7 dy fd
      have cb := cb.step E7 B7
      have A := A.ext (E7.mono (fun z h => List.mem_cons_of_mem _ h))
      refine x_acc cb.fd (by rw [sizeLine_eq]; have : j < 5 := hj; omega) ?_
      have X8 : Ext (L :: [b]) H7 (upd H7 L (.lst (acc ++ [y]))) := Ext.upd (by simp)
      exact ⟨acc ++ [y], da ++ [d], cb.app y cL hL, (A.ext X8).app (.cons (dy.ext X8) .nil), by rw [List.length_append, List.length_singleton, la], mem_app fin (mem_one fd)⟩
    · rintro H6 ⟨acc, da, cb, A, la, fin⟩
      have A := DnAll.sub (M' := [b]) (fun z h => List.mem_cons_of_mem _ h) A
      have cl := cl.ext cb.e
      have d2 := d2.ext cb.e
      have d3 := d3.ext cb.e
      have e1 := cb.e _ _ np1 e1
      have hB := cb.bag
      have la : acc.length = 5 := la
      refine x_cat e1 cb.fd (by rw [sizeLine_eq, la]; exact Nat.le_of_ble_eq_true rfl) ?_
      intro p2 hp2
      obtain ⟨ob, hob⟩ := hB.at
      have np2 := new_out (Same.refl H6) hob hp2
      have S7 := same_upd hp2 (o := .lst ([.ref f3] ++ acc))
      have e2 : upd H6 p2 (.lst ([.ref f3] ++ acc)) p2 = some (.lst (.ref f3 :: acc)) := upd_same
      have A : DnAll [b] _ (.ref f3 :: acc) (tupD ls :: da) := (DnAll.cons d3 A).ext (Ext.same S7)
      have cl := cl.ext (Ext.same S7)
      have d2 := d2.ext (Ext.same S7)
      have hB := hB.ext S7
      have fins : ∀ d ∈ tupD ls :: da, Fin2 d := by
        intro d hd
        rcases List.mem_cons.mp hd with rfl | hd
        · have small := leads_small hb2 (by omega) ok
          have lr := (bundles_len hb2).1
          have big : (1000000000000000000 : Nat) + 10 < 2 ^ 200 := by decide
          have okl := ok.1
          refine small_tuple (fun d hd => ?_) (by rw [List.length_map]; omega)
          obtain ⟨m, hm, rfl⟩ := List.mem_map.mp hd
          have := small m hm
          exact sz_big (by omega)
        · exact fin d hd
      generalize upd H6 p2 _ = H8 at *
      generalize hxs : V.ref f3 :: acc = xs at *
      generalize hds : tupD ls :: da = es at *
      walk_at "xs"
      refine for_list (K := K) (a := p2) (xs := xs) (fun i σ' H' => ∃ y2 y3 y7 y8 y9 y10, σ' = [some (.ref a), some (.ref b), y2, y3, some (.ref f2), some (.ref f3), some (.ref x), y7, y8, y9, y10, none] ∧ Bag H' b c ∧ H' p2 = some (.lst xs) ∧ DnAll [b] H' xs es ∧ Dn [b] H' (.ref f2) (.list rs) ∧ Clu C [b] H' x (.list ds) (.list rs)) ?_ ?_ ?_ ?_
      · exact ⟨_, _, _, _, _, _, rfl, hB, e2, A, d2, cl⟩
      · rintro i _ H' _ ⟨_, _, _, _, _, _, _, _, e, _⟩
        exact SqL.of e
      · rintro j u _ H9 hu ⟨y2, y3, y7, y8, y9, y10, rfl, hB, e2, A, d2, cl⟩
        obtain ⟨d, hd, dx⟩ := A.get hu
        have fine := fins d (List.mem_of_getElem? hd)
        have sh : Shows d := fine.sz.shows (by decide) (by decide)
        walk_at "xs"
        refine x_repr dx sh ?_
        walk_at "ys"
        refine x_leadsL d2 dx hb2 ?_
        intro H10 S10
        have hB := hB.ext S10
        have e2 := S10 _ _ e2
        have A := A.ext (Ext.same S10)
        have d2 := d2.ext (Ext.same S10)
        have cl := cl.ext (Ext.same S10)
        have dx := dx.ext (Ext.same S10)
        walk_at "ys"
        refine for_range (lo := 0) (n := (2 : Int).toNat) (fun i σ' H' => ∃ y2 y3 y10, σ' = [some (.ref a), some (.ref b), y2, y3, some (.ref f2), some (.ref f3), some (.ref x), some u, some (.str d.shown), some (.bl (leadsD rs d)), y10, none] ∧ Bag H' b c ∧ H' p2 = some (.lst xs) ∧ DnAll [b] H' xs es ∧ Dn [b] H' (.ref f2) (.list rs) ∧ Clu C [b] H' x (.list ds) (.list rs) ∧ Dn [b] H' u d) ?_ ?_ ?_
        · exact ⟨_, _, _, rfl, hB, e2, A, d2, cl, dx⟩
        · rintro m _ H11 hm ⟨y2, y3, y10, rfl, hB, e2, A, d2, cl, dx⟩
          walk_at "ys"
          refine x_leads cl dx hb2 ?_
          intro H12 S12
          have hB := hB.ext S12
          have e2 := S12 _ _ e2
          have A := A.ext (Ext.same S12)
          have d2 := d2.ext (Ext.same S12)
          have cl := cl.ext (Ext.same S12)
          have dx := dx.ext (Ext.same S12)
          walk_at "ys"
          refine x_alike (M := [b]) (.bl _) (.bl _) (shaped_bl _) ((sz_bool _).shows (by decide) (by decide)) ?_
          walk_at "ys"
          refine x_repr dx sh ?_
          walk_at "ys"
          refine x_iteN (fun h => absurd rfl h) (fun _ => ?_)
          walk_at "ys"
          exact ⟨_, _, _, rfl, hB, e2, A, d2, cl, dx⟩
        · rintro _ H11 ⟨y2, y3, y10, rfl, hB, e2, A, d2, cl, dx⟩
          exact ⟨_, _, _, _, _, _, rfl, hB, e2, A, d2, cl⟩
      · rintro _ H9 ⟨y2, y3, y7, y8, y9, y10, rfl, hB, e2, A, d2, cl⟩
        exact ⟨_, _, _, _, _, _, _, _, _, rfl, hB⟩
  · rintro _ H2 ⟨y2, y3, y4, y5, y6, y7, y8, y9, y10, rfl, hB⟩
    have n0 : Nb [b] H2 b c [] [] H2 := ⟨Ext.refl _ _, hB, .nil, by simp, fun m hm => by simp at hm; subst hm; exact hB.at⟩
    walk_at "xs"
    intro p1 hp1
    obtain ⟨n1, S1⟩ := x_newT (us := [.int 0, .int 0]) n0 hp1 (DnAll.ints [0, 0])
    have k1 := DnAll.head n1.A
    generalize upd H2 p1 _ = H3 at *
    walk_at "xs"
    intro p2 hp2
    obtain ⟨n2, S2⟩ := x_newT (us := [.int 0, .int 0]) n1 hp2 (DnAll.ints [0, 0])
    have k1 := k1.ext (Ext.same S2)
    have k2 := DnAll.head n2.A
    generalize upd H3 p2 _ = H4 at *
    walk_at "xs"
    intro p3 hp3
    obtain ⟨n3, S3⟩ := x_newL (us := [.ref p1, .ref p2]) n2 hp3 (.cons k1 (.cons k2 .nil))
    have k3 := DnAll.head n3.A
    generalize upd H4 p3 _ = H5 at *
    walk_at "xs"
    intro p4 hp4
    obtain ⟨n4, S4⟩ := x_newT (us := [.int 0, .int 1, .int 1]) n3 hp4 (DnAll.ints [0, 1, 1])
    have k3 := k3.ext (Ext.same S4)
    have k4 := DnAll.head n4.A
    generalize upd H5 p4 _ = H6 at *
    walk_at "xs"
    intro p5 hp5
    obtain ⟨n5, S5⟩ := x_newL (us := [.ref p4]) n4 hp5 (.cons k4 .nil)
    have k3 := k3.ext (Ext.same S5)
    have k5 := DnAll.head n5.A
    generalize upd H6 p5 _ = H7 at *
    walk_at "xs"
    refine x_clu2 n5.bag k3 k5 (by decide +kernel) (by decide +kernel) ?_
    intro x H8 S8 hB8 hx cl
    have n8 := n5.same S8
    walk_at "xs"
    intro p6 hp6
    obtain ⟨n9, S9⟩ := x_newT (us := [.int 1]) n8 hp6 (DnAll.ints [1])
    have cl := cl.ext (Ext.same S9)
    have k6 := DnAll.head n9.A
    generalize upd H8 p6 _ = H9 at *
    walk_at "xs"
    refine x_leads (n := 2) cl k6 (by decide +kernel) ?_
    intro H10 S10
    have n10 := n9.same S10
    have cl := cl.ext (Ext.same S10)
    rw [show leadsD _ _ = true by decide +kernel]
    walk_at "xs"
    intro p7 hp7
    obtain ⟨n11, S11⟩ := x_newT (us := [.bl true]) n10 hp7 (.cons (.bl true) .nil)
    have cl := cl.ext (Ext.same S11)
    have k7 := DnAll.head n11.A
    generalize upd H10 p7 _ = H11 at *
    walk_at "xs"
    refine x_leads (n := 2) cl k7 (by decide +kernel) ?_
    intro H12 S12
    have n12 := n11.same S12
    have cl := cl.ext (Ext.same S12)
    rw [show leadsD _ _ = false by decide +kernel]
    walk_at "xs"
    intro p8 hp8
    obtain ⟨n13, S13⟩ := x_newT (us := []) n12 hp8 .nil
    have cl := cl.ext (Ext.same S13)
    have k8 := DnAll.head n13.A
    generalize upd H12 p8 _ = H13 at *
    walk_at "xs"
    refine x_leads (n := 2) cl k8 (by decide +kernel) ?_
    intro H14 S14
    have n14 := n13.same S14
    rw [show leadsD _ _ = false by decide +kernel]
    walk_at "xs"
    intro r1 hr1
    obtain ⟨m1, R1⟩ := x_newT (us := [.int 0, .int 1]) n14 hr1 (DnAll.ints [0, 1])
    have k1 := DnAll.head m1.A
    generalize upd H14 r1 _ = H15 at *
    walk_at "xs"
    intro r2 hr2
    obtain ⟨m2, R2⟩ := x_newT (us := [.int 1, .int 2]) m1 hr2 (DnAll.ints [1, 2])
    have k1 := k1.ext (Ext.same R2)
    have k2 := DnAll.head m2.A
    generalize upd H15 r2 _ = H16 at *
    walk_at "xs"
    intro r3 hr3
    obtain ⟨m3, R3⟩ := x_newL (us := [.ref r1, .ref r2]) m2 hr3 (.cons k1 (.cons k2 .nil))
    have k3 := DnAll.head m3.A
    generalize upd H16 r3 _ = H17 at *
    walk_at "xs"
    intro r4 hr4
    obtain ⟨m4, R4⟩ := x_newL (us := []) m3 hr4 .nil
    have k3 := k3.ext (Ext.same R4)
    have k4 := DnAll.head m4.A
    generalize upd H17 r4 _ = H18 at *
    walk_at "xs"
    refine x_clu2 m4.bag k3 k4 (by decide +kernel) (by decide +kernel) ?_
    intro y H19 S19 hB19 hy cl
    have m5 := m4.same S19
    walk_at "xs"
    intro r5 hr5
    obtain ⟨m6, R6⟩ := x_newT (us := []) m5 hr5 .nil
    have cl := cl.ext (Ext.same R6)
    have k5 := DnAll.head m6.A
    generalize upd H19 r5 _ = H20 at *
    walk_at "xs"
    refine x_leads (n := 2) cl k5 (by decide +kernel) ?_
    intro H21 S21
    have m7 := m6.same S21
    have cl := cl.ext (Ext.same S21)
    rw [show leadsD _ _ = true by decide +kernel]
    walk_at "xs"
    refine x_iteT ?_
    walk_at "xs"
    intro r6 hr6
    obtain ⟨m8, R8⟩ := x_newT (us := [.int 0]) m7 hr6 (DnAll.ints [0])
    have cl := cl.ext (Ext.same R8)
    have k6 := DnAll.head m8.A
    generalize upd H21 r6 _ = H22 at *
    walk_at "xs"
    refine x_leads (n := 2) cl k6 (by decide +kernel) ?_
    intro H23 S23
    rw [show leadsD _ _ = false by decide +kernel]
    walk_at "xs"
    exact q _
end
theorem cc_mk {K : PySem.W.Frag} {h : Heap} {mg : Str → Option Value} {C : Addr} (X : K.In h) (G : h.Ns mainGlobals mg)
    (a : PySem.W.nsIn K mainGlobals "Cluster" = some (some (.ref C))) (p1 : PySem.W.plainGet K C Str.empty = true) (p2 : PySem.W.hasDictIn K C = true) (p3 : PySem.W.plainOver K C = true)
    (p4 : PySem.W.findIn K (.ref C) "__setattr__" = some (some (.builtin "object.__setattr__"))) (m : PySem.W.makesIn K C = true) (k : PySem.W.keepIn K (.ref C) = true)
    (n1 : PySem.W.findIn K (.ref C) "_bounds" = some none) (n2 : PySem.W.findIn K (.ref C) "_bundles" = some none) (n3 : PySem.W.findIn K (.ref C) "_numbers" = some none) : Cc K mg C :=
  ⟨⟨⟨p1, p2, p3, p4⟩, m, k, PySem.W.mg_of X G a⟩, n1, n2, n3⟩
theorem len1 {K : PySem.W.Frag} : ∀ vs H Q E, spLaw K vs H Q E → vs.length = (["_law_script"] : List Str).length := fun vs H Q E h => by obtain ⟨a, ns, rfl, _⟩ := h; rfl
theorem all_mk {P : Program} {w : World} {K : PySem.W.Frag} {mg : Str → Option Value} {fa C : Addr} {t0 t1 t2 t3 t4 : Tok} (hfa : mg "law" = some (.ref fa)) (cc : Cc K mg C)
    (m1 : Dm K C "__init__" "Cluster.__init__" s_Cluster_init) (m2 : Dm K C "_keep" "Cluster._keep" s_Clusterkeep) (m3 : Dm K C "__len__" "Cluster.__len__" s_Cluster_len) (m4 : Dm K C "bundles" "Cluster.bundles" s_Cluster_bundles)
    (d1 : Df K mg "is_integer" s_is_integer) (d2 : Df K mg "is_amount" s_is_amount) (d3 : Df K mg "is_count" s_is_count) (d4 : Df K mg "is_broker" s_is_broker)
    (d5 : Df K mg "_is_bound" s__is_bound) (d6 : Df K mg "are_bounds" s_are_bounds) (d7 : Df K mg "_is_bundle" s__is_bundle) (d8 : Df K mg "are_bundles" s_are_bundles) (d9 : Df K mg "are_leads" s_are_leads)
    (d10 : Df K mg "_law_bag" s_Lbag) (d11 : Df K mg "_law_take" s_Ltake) (d12 : Df K mg "_law_alike" s_Lalike) (d13 : Df K mg "_law_amount" s_Lamount) (d14 : Df K mg "_law_bundles" s_Lbundles) (d15 : Df K mg "_law_loads" s_Lloads)
    (d16 : Df K mg "_law_bounds" s_Lbounds) (d17 : Df K mg "_law_net" s_Lnet) (d18 : Df K mg "_law_odd" s_Lodd) (d19 : Df K mg "_law_are_leads" s_Lare_leads) (d20 : Df K mg "_law_bent" s_Lbent) (d21 : Df K mg "law" s_law)
    (B : Bl mg) (CS : Cs mg t0 t1 t2 t3 t4) :
    ∃ fd : FuncData, (∀ (s : Shared) (u : Value), BindsTo s fd ⟨[u], []⟩ [("_law_script", u)]) ∧
      ∀ base : Heap, K.In base → base.Ns mainGlobals mg → (∃ o, base.get? sysModules = some o) → FnG P w K mg base (6 + 1) fa fd ["_law_script"] (spLaw K) := by
  refine law_of d21 hfa (fun _ _ _ _ _ _ us hl => match us, hl with | [_], _ => rfl) sc_law len1 (fun base sys f cd B' fr z H vs Q E hr gd h => ?_)
  have i1 : Kn P w K mg base "is_integer" 1 (sp1 isIntD) := kn_is_integer d1 B
  have i2 := kn_is_amount d2 B CS i1
  have i3 := kn_is_count d3 B CS i1
  have i4 := kn_is_broker d4 B i1
  have i5 := kn__is_bound d5 B i2
  have i6 := kn_are_bounds d6 B CS i5
  have i7 := kn__is_bundle d7 B i4 i3
  have i8 := kn_are_bundles d8 B CS i7
  have e1 : Km P w K mg base C "_keep" 1 (spKeep C) := km_keep m2 B cc
  have e2 := km_init m1 B cc i6 i8 (e1.up (by decide)) trivial
  have e3 : Km P w K mg base C "__len__" 1 (spLen C) := km_len m3 B cc
  have e4 : Km P w K mg base C "bundles" 1 (spCopy C) := km_bundles m4 B cc
  have i9 := kn_are_leads d9 B cc (i1.up (by decide)) e3 (e4.up (by decide))
  have u1 : Kn P w K mg base "_law_take" 1 spTake := kn_take d11 B
  have u2 := kn_amount d13 B u1
  have u3 := kn_netB d14 B (u1.up (by decide)) u2
  have u4 : Kn P w K mg base "_law_loads" 1 spLoads := kn_loads d15 B
  have u5 := kn_bnd d16 B u1
  have u6 := kn_net d17 B (u1.up (by decide)) u3 (u5.up (by decide)) (u4.up (by decide))
  have o2 : Kn P w K mg base "_law_odd" 2 spOdd := kn_odd d18 B u1
  exact ok_law (k := 5) sys B cc ((kn_bag d10 B (k := 0)).up (by decide)) (u6.up (by decide)) e2 ((kn_bentL d20 B (u1.up (by decide)) o2).up (by decide)) ((kn_Lare_leads d19 B (k := 0)).up (by decide)) (i9.up (by decide)) ((kn_alike d12 B sys (k := 0)).up (by decide)) f cd B' fr z H vs Q E hr gd h
end Lw
open PySem PySem.W PyProof.Rows
local macro_rules | `(tactic| walk_at "df") => `(tactic| (refine' Lw.df_mk (by assumption) (by assumption) ?za ?zl ?zc ?zk; (case za => k_is); (case zl => k_is); (case zc => k_is); (case zk => k_is)))
local macro_rules | `(tactic| walk_at "dm") => `(tactic| (refine' Lw.dm_mk ?za ?zi ?zl ?zc ?zk; (case za => k_is); (case zi => k_is); (case zl => k_is); (case zc => k_is); (case zk => k_is)))
set_option maxRecDepth 100000 in
set_option maxHeartbeats 0 in
theorem PySem.Challenge.cw_leadswitch_k17_leads_known_holds : PySem.Challenge.rw_leadswitch_k17_leads_known.Holds := by
  w_on; o_law; k_head; (case hw => w_witness2)
  k_fill
  refine Lw.walk_g (l := PySem.Challenge.rw_leadswitch_k17_leads_known) (n := 63) (k := 7) (x := "_law_script") (sp := Lw.spLaw) rfl (by decide) rfl ⟨rfl, by decide, by decide⟩ (by decide +kernel) (fun w h Y => PySem.W.kIn_of Y) ?F (fun K H a ns hl hS => ⟨a, ns, rfl, hS, fun _ => rfl⟩)
  case F =>
    intro w mg fa h KX G hmg
    refine' Lw.all_mk hmg ?cl ?m1 ?m2 ?m3 ?m4 ?d1 ?d2 ?d3 ?d4 ?d5 ?d6 ?d7 ?d8 ?d9 ?d10 ?d11 ?d12 ?d13 ?d14 ?d15 ?d16 ?d17 ?d18 ?d19 ?d20 ?d21 ?bb ?cc
    case cl =>
      refine' Lw.cc_mk KX G ?x0 ?x1 ?x2 ?x3 ?x4 ?x5 ?x6 ?x7 ?x8 ?x9
      (case x0 => k_is); (case x1 => k_is); (case x2 => k_is); (case x3 => k_is); (case x4 => k_is); (case x5 => k_is); (case x6 => k_is); (case x7 => k_is); (case x8 => k_is); (case x9 => k_is)
    (case m1 => walk_at "dm"); (case m2 => walk_at "dm"); (case m3 => walk_at "dm"); (case m4 => walk_at "dm")
    (case d1 => walk_at "df"); (case d2 => walk_at "df"); (case d3 => walk_at "df"); (case d4 => walk_at "df"); (case d5 => walk_at "df"); (case d6 => walk_at "df"); (case d7 => walk_at "df")
    (case d8 => walk_at "df"); (case d9 => walk_at "df"); (case d10 => walk_at "df"); (case d11 => walk_at "df"); (case d12 => walk_at "df"); (case d13 => walk_at "df"); (case d14 => walk_at "df")
    (case d15 => walk_at "df"); (case d16 => walk_at "df"); (case d17 => walk_at "df"); (case d18 => walk_at "df"); (case d19 => walk_at "df"); (case d20 => walk_at "df"); (case d21 => walk_at "df")
    case bb =>
      refine' Lw.bl_mk KX G ?z0 ?z1 ?z2 ?z3 ?z4 ?z5 ?z6 ?z7 ?z8 ?z9 ?z10 ?z11 ?z12 ?z13 ?z14 ?z15
      (case z0 => k_is); (case z1 => k_is); (case z2 => k_is); (case z3 => k_is); (case z4 => k_is); (case z5 => k_is); (case z6 => k_is); (case z7 => k_is)
      (case z8 => k_is); (case z9 => k_is); (case z10 => k_is); (case z11 => k_is); (case z12 => k_is); (case z13 => k_is); (case z14 => k_is); (case z15 => k_is)
    case cc =>
      refine' Lw.cs_mk KX G ?y0 ?y1 ?y2 ?y3 ?y4
      (case y0 => k_is); (case y1 => k_is); (case y2 => k_is); (case y3 => k_is); (case y4 => k_is)
