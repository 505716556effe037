import PyProof.Rows.All
import Wide.All
import OpenK.AllK
import Wide.FinOn
import HandS.Base
import HandS.Call
import HandS.List
import HandS.Comp
import HandS.Ends
import HandS.Iter
import HandS.Text
import HandS.Words
import HandS.WordsList
import HandS.TupAny
import HandS.TupLe
import HandS.Rev
import HandS.Style
import HandS.Flow
import HandS.IsInst
import HandS.Codes
import HandS.FStrTup
import HandS.Walk
import HandS.More
import PyProof.StrBlock2
import HandS.Wide
import HandS.WideBits
import HandS.TupMul
import HandS.Deep
import HandS.SortInts
import HandS.Gcd
import HandS.Zip
import HandS.Conv
import PySem.Challenge.RW_chartspec_k44_reach_and_visible_part
set_option Elab.async false
set_option linter.all false
set_option maxRecDepth 100000
set_option maxHeartbeats 4000000
/-! The layer's promises with one thing more: no repr is under way (A.guards = some []). -/
namespace Cs
open PySem PySem.Spec PyProof.Rows L2

/-- a def's promise, given where no repr is under way -/
structure FnG (P : Program) (w : World) (K : PySem.W.Frag) (mg : Str → Option Value) (base : Heap) (k : Nat) (f : Addr) (fd : FuncData) (ps : List Str) (sp : Sp) : Prop where
  len : ∀ vs H Q E, sp vs H Q E → vs.length = ps.length
  go : ∀ (A : Around) (out : List Env) (s : Shared) (H : Hp) (args : Args) (us : List Value) (vs : List V) (Q : VK) (E : XK),
    Room k A → A.guards = some [] → Env0 P w K mg base A out s H → BindsTo s fd args (ps.zip us) → Vals vs us → sp vs H Q E →
    codeAny (model P w) A (.call (.ref f) args) (CR CX0 out P w H s Q E) s

section
variable {P : Program} {w : World} {K : PySem.W.Frag} {mg : Str → Option Value} {base : Heap}

/-- the contexts of bodies: as cxOf, nothing leaves the def -/
abbrev cxG (P : Program) (w : World) (K : PySem.W.Frag) (mg : Str → Option Value) (base : Heap) (N : List Str) (qual : Str) (sc : Scope) (f : Addr) (cd : Value) (A : Around) (out : List Env) (s : Shared) (H : Hp) (E : XK) : Cx :=
  (cxOf CX0 P w K mg base N qual sc f cd A out s H E).nox

/-- a def by its body -/
theorem FnG.of {x qual : Str} {st : Stmt} {f : Addr} {fd : FuncData} {N ps : List Str} {k : Nat} {sp : Sp} (F : Fun K x qual st f fd) (S : FnScope N ps (defScope st)) (len : ∀ vs H Q E, sp vs H Q E → vs.length = ps.length)
    (body : ∀ (cdv : Value) (A : Around) (out : List Env) (s : Shared) (H : Hp) (vs : List V) (Q : VK) (E : XK), Room k (A.deeper (envOfC qual (defScope st) s.heap.objs.size f cdv)) → A.guards = some [] → sp vs H Q E →
      ∃ t, PSs (cxG P w K mg base N qual (defScope st) f cdv A out s H E) (defBody st) t ∧ t { nx := fun _ H' => Q .non H', rt := Q } (start N vs) H) :
    FnG P w K mg base (k + 1) f fd ps sp := by
  obtain ⟨oc, od, kV, doc, pm, an, cdv, ct, osl, rfl, lk, hcd⟩ := F.ex
  refine ⟨len, fun A out s H args us vs Q E hr hg e0 hb r hsp => ?_⟩
  have hl := len _ _ _ _ hsp
  have inK : K.In s.heap := e0.mod.kin.keeps fun b o e => (e0.bs b o e).1
  have noL : s.heap.NoLimit := e0.mod.nolimit.keeps fun b o e => (e0.bs b o e).1
  refine codeAny_call_function hr.depth (inK _ _ lk) rfl S.co S.gen rfl (PySem.W.codeRec_of inK hcd) (hb _ _ _ _ ?_)
  refine wpAny_newFunctionEnv_cells S.kind (fun y hy => ?_) fun env he s1 x => ?_
  · rcases S.par y.1 (List.of_mem_zip (show (y.1, y.2) ∈ ps.zip us from hy)).1 with q | q
    · exact Or.inl q
    · exact Or.inr ⟨q, PySem.W.cellsFrom_some _ _ _ (Or.inl q)⟩
  · subst he
    refine ⟨noL.keeps x.toInCall.keep, codeAny_func ?_⟩
    obtain ⟨t, ht, hq⟩ := body cdv A out s H vs Q E (hr.deeper _) hg hsp
    have I : Inv (cxOf CX0 P w K mg base N qual (defScope st) f cdv A out s H E) [] (start N vs) H s1 := inv_start S hr.hd e0 hl r x
    refine wpAny_mono (ht.nox.run [] s1 (start N vs) H _ I hq) (fun fl s' hs => ?_) fun e s' hs => hs
    have fin : ∀ {σ' : L2.St} {H' : Hp} {v : V} {u : Value}, Inv (cxOf CX0 P w K mg base N qual (defScope st) f cdv A out s H E) [] σ' H' s' → RelV v u → Q v H' → CE out P w H s Q u s' :=
      fun {σ' H' v u} J rv q => ⟨v, H', J.os, J.bare, J.base, J.hok, rv, q⟩
    cases fl with
    | next =>
      obtain ⟨σ', H', J, q⟩ := hs
      exact fin (v := V.non) (u := Value.none) J rfl q
    | ret u =>
      obtain ⟨v, σ', H', J, rv, q⟩ := hs
      exact fin J rv q
    | brk =>
      obtain ⟨_, _, _, q⟩ := hs
      exact q.elim
    | cont =>
      obtain ⟨_, _, _, q⟩ := hs
      exact q.elim
end

section
variable {X : Cx} {k : Nat} {f : Addr} {fd : FuncData} {ps : List Str} {sp : Sp} {x : Str} {p pos : Pos} {e : Expr} {es : List Expr} {t : TA}
theorem goFn {pins : List (Addr × Obj)} {σ : L2.St} {H : Hp} {s : Shared} {Q : VK} {us : List Value} {vs : List V} (F : FnG X.prog X.w X.K X.mg X.base k f fd ps sp) (hr : Room k X.A) (hg : X.A.guards = some []) (hb : Binds X.K fd ps [])
    (I : Inv X pins σ H s) (r : Vals vs us) (h : sp vs H Q E0) : wpAny (model X.prog X.w) X.A (call (.ref f) us) (EP X pins σ Q) X.xe s := by
  have hl : (us ++ []).length = ps.length := by rw [List.append_nil, ← r.length]; exact F.len _ _ _ _ h
  have hb' := hb s us I.kIn hl
  rw [List.append_nil] at hb'
  refine wpAny_call (codeAny_mono (F.go X.A X.stack s H ⟨us, []⟩ us vs Q E0 hr hg I.env0 hb' r h) fun r s' hq => ?_)
  match r, hq with
  | .ok (.ret u), hq => exact I.after hq
  | .error e, hq => exact False.elim hq
  | .ok .next, hq => exact False.elim hq
  | .ok .brk, hq => exact False.elim hq
  | .ok .cont, hq => exact False.elim hq
/-- f(a, ..): the callee's promise -/
def tFn (sp : Sp) (t : TA) : TE := fun σ H Q => t σ H fun vs H1 => sp vs H1 Q E0
theorem pe_fn (F : FnG X.prog X.w X.K X.mg X.base k f fd ps sp) (hr : Room k X.A) (hgd : X.A.guards = some []) (hg : Gl X x) (hm : X.mg x = some (.ref f)) (hk : PySem.W.keepIn X.K (.ref f) = true) (hb : Binds X.K fd ps [])
    (ha : PA X (e :: es) t) (hdb : (x == ("__debug__" : Str)) = false := by decide) (he : starEach (e :: es) X.env = (false, eval e X.env) :: starEach es X.env := by rfl) (hpl : (backTo pos (starEach es X.env)).any (·.1) = false := by rfl) :
    PE X (.Call (.Name x p) (e :: es) [] pos) (tFn sp t) := by
  refine ⟨fun pins s σ H Q I h => wpAny_Call_Name_kw (ld_glob I hg hm ?_ hdb)⟩
  refine PySem.W.callWith_K (h₀ := X.base) I.ok.mod.kin hk (thn (ha.run pos pins s σ H _ I h) fun us s1 ⟨vs, H1, I1, r, q⟩ => ⟨I1.kIn, ?_⟩) he hpl
  exact goFn F hr hgd hb I1 r q
theorem pe_fn0 (F : FnG X.prog X.w X.K X.mg X.base k f fd ps sp) (hr : Room k X.A) (hgd : X.A.guards = some []) (hg : Gl X x) (hm : X.mg x = some (.ref f)) (hk : PySem.W.keepIn X.K (.ref f) = true) (hb : Binds X.K fd ps [])
    (hdb : (x == ("__debug__" : Str)) = false := by decide) : PE X (.Call (.Name x p) [] [] pos) (tFn sp tNil) := by
  refine ⟨fun pins s σ H Q I h => wpAny_Call_Name_kw (ld_glob I hg hm ?_ hdb)⟩
  exact PySem.W.callWith_K0 I.kIn hk (goFn (us := []) F hr hgd hb I .nil h)

/-- repr(x) of data: what stands in the text -/
def rRepr (K : PySem.W.Frag) : List V → Hp → VK → Prop := fun vs H Q => ∃ (x : V) (d : PyData), vs = [x] ∧ Dp K H x d ∧ d.showable = true ∧ d.hasDict = false ∧ d.depth ≤ 40 ∧ d.shown.length ≤ sizeLine ∧ Q (.str d.shown) H
theorem call_repr (hu : X.A.units + 64 < cLine) (hg : X.A.guards = some []) : CallR X (.builtin "repr") (rRepr X.K) := by
  intro pins s σ H vs us Q I r h
  obtain ⟨x, d, rfl, hd, sh, nd, dp, sz, q⟩ := h
  cases r with
  | cons r1 rr =>
    cases rr
    rename_i u
    obtain ⟨as, rd⟩ := Dp.reads I d x u hd r1
    cases hd with
    | non =>
      cases r1
      exact PySem.P.repr_of_none ⟨.str _, H, I.tok _, ⟨_, rfl⟩, q⟩
    | bl b =>
      cases r1
      exact PySem.P.repr_of_bool ⟨.str _, H, I.tok _, ⟨_, rfl⟩, q⟩
    | int i =>
      obtain ⟨t, rfl⟩ := r1
      exact PySem.P.repr_of_int (of_decide_eq_true sh) ⟨.str _, H, I.tok _, ⟨_, rfl⟩, q⟩
    | str z =>
      obtain ⟨t, rfl⟩ := r1
      exact PySem.P.repr_of_str ⟨.str _, H, I.tok _, ⟨_, rfl⟩, q⟩ sz
    | lst h1 h2 =>
      cases r1
      exact repr_of_reads' rd sh (PyData.noDict_hsm nd) hg (by omega) (fun _ _ e => e) (fun h1 u tk hk => ⟨.str _, H, I.kept hk, ⟨u, rfl⟩, q⟩) sz
    | tup h1 h2 =>
      cases r1
      exact repr_of_reads' rd sh (PyData.noDict_hsm nd) hg (by omega) (fun _ _ e => e) (fun h1 u tk hk => ⟨.str _, H, I.kept hk, ⟨u, rfl⟩, q⟩) sz
end
end Cs

set_option maxRecDepth 100000
set_option maxHeartbeats 4000000
namespace Cs
open PySem PySem.Spec PyProof.Rows L2

/-- what is tracked at the law's entry: the script, locked -/
def hpOf (a : Addr) (o : Obj) (xs : List V) : Hp := fun b => if b = a then some (.frz o (.lst xs)) else none
theorem hpOf_some {a b : Addr} {o : Obj} {xs : List V} {u : HO} (h : hpOf a o xs b = some u) : b = a ∧ u = .frz o (.lst xs) := by
  unfold hpOf at h
  by_cases e : b = a
  · rw [if_pos e] at h
    exact ⟨e, (Option.some.inj h).symm⟩
  · rw [if_neg e] at h
    cases h
theorem hpOf_at {a : Addr} {o : Obj} {xs : List V} : hpOf a o xs a = some (.frz o (.lst xs)) := if_pos rfl

section
variable {P : Program} {w : World} {K : PySem.W.Frag} {mg mb : Str → Option Value} {k : Nat} {fa a : Addr} {fd : FuncData} {x : Str} {sp : Sp} {s₁ : Shared} {vs : List Value} {ns : List Int}

/-- one run of the law from an abstract heap H that tracks no more than the script -/
theorem law_from (H : Hp) (inK : K.In s₁.heap) (hns : s₁.heap.Ns mainGlobals mg) (hb : s₁.heap.Ns builtinsNs mb) (hbb : ∀ y : Str, y ≠ "__name__" → mb y = bootBuiltins y) (hlim : s₁.heap.NoLimit) (hg : s₁.gens = #[])
    (ha : s₁.heap.get? a = some { cls := .type "list", data := .seq vs.toArray }) (hr : Room k callerA)
    (F : ∀ base : Heap, K.In base → base.Ns mainGlobals mg → FnG P w K mg base k fa fd [x] sp) (hbind : ∀ (s : Shared) (u : Value), BindsTo s fd ⟨[u], []⟩ [(x, u)])
    (hS : sp [.ref a] H (fun v _ => v = .bl true) E0) (hok : HOk P w H s₁.heap) (one : ∀ b u, H b = some u → b = a ∧ ∃ o xs, u = .frz o (.lst xs)) (off : ∀ u, H a = some u → K.lookup a = none) :
    codeAny (model P w) callerA (.call (.ref fa) ⟨[.ref a], []⟩) (fun r s' => r = .ok (.ret (.bool true)) ∧ OldK s₁.heap s'.heap ∧ s'.os = s₁.os ∧ AllBare s'.gens) s₁ := by
  have none_of : ∀ {b : Addr}, b ≠ a → H b = none := fun {b} n => by
    cases e : H b with
    | none => rfl
    | some u => exact absurd (one b u e).1 n
  have ns_keep : ∀ {b : Addr} {m : Str → Option Value}, s₁.heap.Ns b m → (hidT s₁.heap H).Ns b m := fun {b m} ⟨o, es, ep, e, d, q⟩ => by
    refine ⟨o, es, ep, hidT_get e (none_of fun z => ?_), d, q⟩
    rw [z, ha] at e
    cases e
    cases (show Data.seq vs.toArray _ = Data.dict es ep from d)
  have kb : K.In (hidT s₁.heap H) := fun b o e => by
    refine hidT_get (inK b o e) ?_
    cases q : H b with
    | none => rfl
    | some u =>
      obtain ⟨z, _⟩ := one b u q
      rw [z] at q e
      rw [off u q] at e
      cases e
  obtain ⟨mc, c1, c2⟩ := hlim
  have md : Mod K mg (hidT s₁.heap H) := ⟨kb, ns_keep hns, ⟨mb, ns_keep hb, hbb⟩, ⟨mc, ns_keep c1, c2⟩⟩
  have e0 : Env0 P w K mg (hidT s₁.heap H) callerA [] s₁ H :=
    ⟨rfl, md, fun _ _ e => of_hidT e, Nat.le_of_eq (hidT_size _ _), trivial, (fun b hm => absurd (show b ∈ ([] : List Addr) from hm) List.not_mem_nil), hok, .of_eq hg⟩
  refine codeAny_mono ((F _ kb (ns_keep hns)).go callerA [] s₁ H ⟨[.ref a], []⟩ [.ref a] [.ref a] _ _ hr rfl e0 (hbind s₁ (.ref a)) (.cons rfl .nil) hS) fun r s' h => ?_
  match r, h with
  | .error e, h => exact False.elim h
  | .ok .next, h => exact False.elim h
  | .ok .brk, h => exact False.elim h
  | .ok .cont, h => exact False.elim h
  | .ok (.ret u), ⟨v, H', os, bare, un, hok', rv, q⟩ =>
    cases (show v = V.bl true from q)
    cases (show u = Value.bool true from rv)
    refine ⟨rfl, OldK.of_keep fun b o e => ?_, os, bare⟩
    cases q : H b with
    | none => exact un.keep b o e q (fun z => absurd (show b ∈ ([] : List Addr) from z) List.not_mem_nil) (fun z => absurd (show b ∈ ([] : List Addr) from z) List.not_mem_nil)
    | some u =>
      obtain ⟨_, ob, xs, z⟩ := one b u q
      subst z
      obtain ⟨g1, _⟩ := hok b _ q
      obtain ⟨g2, _⟩ := hok' b _ (un.frzs b ob _ q)
      rw [e] at g1
      cases g1
      exact g2

theorem law_run (inK : K.In s₁.heap) (hns : s₁.heap.Ns mainGlobals mg) (hb : s₁.heap.Ns builtinsNs mb) (hbb : ∀ y : Str, y ≠ "__name__" → mb y = bootBuiltins y) (hlim : s₁.heap.NoLimit) (hg : s₁.gens = #[])
    (ha : s₁.heap.get? a = some { cls := .type "list", data := .seq vs.toArray }) (hi : IntsAre vs ns) (hl : ns.length ≤ sizeLine) (hr : Room k callerA)
    (F : ∀ base : Heap, K.In base → base.Ns mainGlobals mg → FnG P w K mg base k fa fd [x] sp) (hbind : ∀ (s : Shared) (u : Value), BindsTo s fd ⟨[u], []⟩ [(x, u)])
    (hsp : ∀ H : Hp, SqL K H a (ns.map V.int) → sp [.ref a] H (fun v _ => v = .bl true) E0) :
    codeAny (model P w) callerA (.call (.ref fa) ⟨[.ref a], []⟩) (fun r s' => r = .ok (.ret (.bool true)) ∧ OldK s₁.heap s'.heap ∧ s'.os = s₁.os ∧ AllBare s'.gens) s₁ := by
  have rv := vals_ints hi
  have hl2 : (ns.map V.int).length ≤ sizeLine := by rw [List.length_map]; exact hl
  have hl3 : vs.length ≤ sizeLine := by rw [← rv.length]; exact hl2
  cases hk : K.lookup a with
  | none =>
    refine law_from (hpOf a { cls := .type "list", data := .seq vs.toArray } (ns.map V.int)) inK hns hb hbb hlim hg ha hr F hbind (hsp _ (.inl (.inr ⟨_, hpOf_at⟩))) (fun b u e => ?_) (fun b u e => ?_) fun _ _ => hk
    · obtain ⟨rfl, rfl⟩ := hpOf_some e
      exact ⟨ha, hl2, vs, _, rv, ha⟩
    · obtain ⟨z, q⟩ := hpOf_some e
      exact ⟨z, _, _, q⟩
  | some o =>
    have e := inK a o hk
    rw [ha] at e
    cases e
    exact law_from (fun _ => none) inK hns hb hbb hlim hg ha hr F hbind (hsp _ (.inr ⟨_, vs.toArray, _, hk, rfl, rfl, rfl, by rw [List.size_toArray]; exact hl3, by simpa using rv⟩)) (fun _ u e => absurd (show (none : Option HO) = some u from e) (by simp)) (fun _ u e => absurd (show (none : Option HO) = some u from e) (by simp)) fun u e => absurd (show (none : Option HO) = some u from e) (by simp)
end

/-- the law's row from the law's promise -/
theorem walkG {l : PySem.W.OpenLaw} {n k : Nat} {q : Program} {loose : List Str} {XP : (Str → Option Value) → Heap → Prop} {YP : World → Heap → Prop} {d : DefRec} {K : Params → PySem.W.Frag} {sp : PySem.W.Frag → Sp} {x : Str}
    (hn : l.most = some n) (hn2 : n ≤ sizeLine) (hdf : d.params.defaults = []) (hr : Room k callerA)
    (hY : ∀ (w : World) (h : Heap), YP w h → (K w.params).In h)
    (F : ∀ (w : World) (mg : Str → Option Value) (fa : Addr) (h : Heap), (K w.params).In h → h.Ns mainGlobals mg → mg d.name = some (.ref fa) →
      ∃ fd : FuncData, (∀ (s : Shared) (u : Value), BindsTo s fd ⟨[u], []⟩ [(x, u)]) ∧
        ∀ base : Heap, (K w.params).In base → base.Ns mainGlobals mg → FnG l.prog w (K w.params) mg base k fa fd [x] (sp (K w.params)))
    (hsp : ∀ (K : PySem.W.Frag) (H : Hp) (a : Addr) (ns : List Int), ns.length ≤ n → SqL K H a (ns.map V.int) → sp K [.ref a] H (fun v _ => v = .bl true) E0) :
    PySem.W.WalkO q loose XP YP l.row.toRowW d [] (fun f vs => PySem.call f vs) := by
  refine Att.attach_call hn hdf fun w s₀ s₁ mg mb fa o pm cd doc a vs ns G Y ho hd hcd hmg hobj hints hlen hg => ?_
  have inK := hY w _ Y
  obtain ⟨fd, hb, hF⟩ := F w mg fa _ inK G.T.g hmg
  exact law_run inK G.T.g G.T.b G.T.builtins G.T.nolimit hg hobj hints (Nat.le_trans hlen hn2) hr hF hb fun H hS => hsp (K w.params) H a ns hlen hS
end Cs

set_option maxRecDepth 100000
set_option maxHeartbeats 4000000
namespace Cs
open PySem PySem.Spec PyProof.Rows L2

/-! ### a def that stands in the text and keeps a promise -/
def At (K : PySem.W.Frag) (mg : Str → Option Value) (x : Str) (st : Stmt) : Prop := ∃ (f : Addr) (fd : FuncData), mg x = some (.ref f) ∧ Fun K x x st f fd
def Df (P : Program) (w : World) (K : PySem.W.Frag) (mg : Str → Option Value) (base : Heap) (k : Nat) (x : Str) (ps : List Str) (sp : Sp) : Prop :=
  ∃ (f : Addr) (fd : FuncData), mg x = some (.ref f) ∧ PySem.W.keepIn K (.ref f) = true ∧ Binds K fd ps [] ∧ FnG P w K mg base k f fd ps sp
section
variable {P : Program} {w : World} {K : PySem.W.Frag} {mg : Str → Option Value} {base : Heap}
theorem Df.of {x : Str} {st : Stmt} {N ps : List Str} {k : Nat} {sp : Sp} (A : At K mg x st)
    (bd : ∀ (kV doc pm : Value) (an : Option Addr) (cdv ct : Value) (us : List Value), us.length = ps.length → bindArgs (PySem.W.fnOf x x (defArgs st) (defBody st) (defScope st) .none kV doc pm an cdv ct) ⟨us, []⟩ = pure (ps.zip us))
    (S : FnScope N ps (defScope st)) (len : ∀ vs H Q E, sp vs H Q E → vs.length = ps.length)
    (body : ∀ (cdv : Value) (A : Around) (out : List Env) (f : Addr) (s : Shared) (H : Hp) (vs : List V) (Q : VK) (E : XK), Room k (A.deeper (envOfC x (defScope st) s.heap.objs.size f cdv)) → A.guards = some [] → sp vs H Q E →
      ∃ t, PSs (cxG P w K mg base N x (defScope st) f cdv A out s H E) (defBody st) t ∧ t { nx := fun _ H' => Q .non H', rt := Q } (start N vs) H) :
    Df P w K mg base (k + 1) x ps sp := by
  obtain ⟨f, fd, m, F⟩ := A
  exact ⟨f, fd, m, F.kp, F.binds bd, FnG.of F S len fun cdv A out s H vs Q E hr hg h => body cdv A out f s H vs Q E hr hg h⟩
end
section
variable {X : Cx} {k : Nat} {ps : List Str} {sp : Sp} {x : Str} {p pos : Pos} {e : Expr} {es : List Expr} {t : TA}
theorem pe_df (D : Df X.prog X.w X.K X.mg X.base k x ps sp) (hr : Room k X.A) (hgd : X.A.guards = some []) (hg : Gl X x)
    (ha : PA X (e :: es) t) (hdb : (x == ("__debug__" : Str)) = false := by decide) (he : starEach (e :: es) X.env = (false, eval e X.env) :: starEach es X.env := by rfl) (hpl : (backTo pos (starEach es X.env)).any (·.1) = false := by rfl) :
    PE X (.Call (.Name x p) (e :: es) [] pos) (tFn sp t) := by
  obtain ⟨f, fd, m, kp, b, G⟩ := D
  exact pe_fn G hr hgd hg m kp b ha hdb he hpl
theorem pe_df0 (D : Df X.prog X.w X.K X.mg X.base k x ps sp) (hr : Room k X.A) (hgd : X.A.guards = some []) (hg : Gl X x) (hdb : (x == ("__debug__" : Str)) = false := by decide) :
    PE X (.Call (.Name x p) [] [] pos) (tFn sp tNil) := by
  obtain ⟨f, fd, m, kp, b, G⟩ := D
  exact pe_fn0 G hr hgd hg m kp b hdb
end

/-! ### heaps -/
/-- all but t is as it was -/
def Al (t : Addr) (H H' : Hp) : Prop := ∀ b, b ≠ t → H' b = H b
/-- all that was tracked, but t, is as it was -/
def Gr (t : Addr) (H H' : Hp) : Prop := ∀ b o, H b = some o → b ≠ t → H' b = some o
theorem Al.gr {t : Addr} {H H' : Hp} (a : Al t H H') : Gr t H H' := fun b o e n => by rw [a b n]; exact e
theorem Al.upd {t : Addr} {H : Hp} {o : HO} : Al t H (upd H t o) := fun b n => upd_ne n
theorem Al.trans {t : Addr} {H H1 H2 : Hp} (a : Al t H H1) (b : Al t H1 H2) : Al t H H2 := fun c n => (b c n).trans (a c n)
theorem Al.free {t b : Addr} {H H' : Hp} (a : Al t H H') (n : b ≠ t) (h : H' b = none) : H b = none := by rw [← a b n]; exact h
theorem Gr.refl (t : Addr) (H : Hp) : Gr t H H := fun _ _ e _ => e
theorem Gr.trans {t : Addr} {H H1 H2 : Hp} (a : Gr t H H1) (b : Gr t H1 H2) : Gr t H H2 := fun c o e n => b c o (a c o e n) n
theorem Gr.of {t : Addr} {H H' : Hp} (a : Same H H') : Gr t H H' := fun b o e _ => a b o e
theorem Gr.free {t b : Addr} {H H' : Hp} (a : Gr t H H') (n : b ≠ t) (h : H' b = none) : H b = none := by
  cases e : H b with
  | none => rfl
  | some o =>
    rw [a b o e n] at h
    cases h
theorem Same.new {p : Addr} {H : Hp} {o : HO} (h : H p = none) : Same H (upd H p o) := fun b u e => by rw [upd_ne (ne_of_none e h)]; exact e
theorem Gr.new {t p : Addr} {H : Hp} {o : HO} (h : H p = none) : Gr t H (upd H p o) := Gr.of (Same.new h)

/-- things that never change are as they were -/
structure Im (H H' : Hp) : Prop where
  tup : ∀ b xs, H b = some (.tup xs) → H' b = some (.tup xs)
  frz : ∀ b o u, H b = some (.frz o u) → H' b = some (.frz o u)
theorem Im.refl (H : Hp) : Im H H := ⟨fun _ _ e => e, fun _ _ _ e => e⟩
theorem Im.trans {H H1 H2 : Hp} (a : Im H H1) (b : Im H1 H2) : Im H H2 := ⟨fun c xs e => b.tup c xs (a.tup c xs e), fun c o u e => b.frz c o u (a.frz c o u e)⟩
theorem Im.same {H H' : Hp} (a : Same H H') : Im H H' := ⟨fun b _ e => a b _ e, fun b _ _ e => a b _ e⟩
theorem Im.new {p : Addr} {H : Hp} {o : HO} (h : H p = none) : Im H (upd H p o) := Im.same (Same.new h)
theorem Im.gr {t : Addr} {H H' : Hp} {xs : List V} (a : Gr t H H') (h : H t = some (.lst xs)) : Im H H' :=
  ⟨fun b ys e => a b _ e fun z => (by subst z; rw [h] at e; cases e), fun b o u e => a b _ e fun z => (by subst z; rw [h] at e; cases e)⟩
theorem Im.set {t : Addr} {H : Hp} {xs : List V} {o : HO} (h : H t = some (.lst xs)) : Im H (upd H t o) := Im.gr (Al.upd.gr) h
theorem Im.sqT {K : PySem.W.Frag} {H H' : Hp} {a : Addr} {xs : List V} (e : Im H H') (h : SqT K H a xs) : SqT K H' a xs := by
  rcases h with (h | ⟨o, h⟩) | h
  · exact .inl (.inl (e.tup _ _ h))
  · exact .inl (.inr ⟨o, e.frz _ _ _ h⟩)
  · exact .inr h

/-! ### the tape -/
structure TapeAt (H : Hp) (t l : Addr) : Prop where
  ex : ∃ (ns : List Int) (p r s : Int), H t = some (.lst [.ref l, .int p, .int r, .int s]) ∧ H l = some (.lst (ns.map V.int)) ∧ 0 ≤ p ∧ 0 ≤ r ∧ 0 ≤ s
  ne : l ≠ t
theorem TapeAt.list {H : Hp} {t l : Addr} (T : TapeAt H t l) : ∃ xs, H t = some (.lst xs) := let ⟨_, _, _, _, h, _⟩ := T.ex; ⟨_, h⟩
theorem TapeAt.list' {H : Hp} {t l : Addr} (T : TapeAt H t l) : ∃ xs, H l = some (.lst xs) := let ⟨_, _, _, _, _, h, _⟩ := T.ex; ⟨_, h⟩
theorem TapeAt.same {H H' : Hp} {t l : Addr} (T : TapeAt H t l) (e : Same H H') : TapeAt H' t l := let ⟨ns, p, r, s, h1, h2, q⟩ := T.ex; ⟨⟨ns, p, r, s, e _ _ h1, e _ _ h2, q⟩, T.ne⟩
theorem TapeAt.new {H : Hp} {t l b : Addr} {o : HO} (T : TapeAt H t l) (h : H b = none) : TapeAt (upd H b o) t l := T.same (Same.new h)
theorem TapeAt.upd {H : Hp} {t l b : Addr} {o : HO} (T : TapeAt H t l) (n1 : b ≠ t) (n2 : b ≠ l) : TapeAt (upd H b o) t l :=
  let ⟨ns, p, r, s, h1, h2, q⟩ := T.ex; ⟨⟨ns, p, r, s, by rw [upd_ne n1.symm]; exact h1, by rw [upd_ne n2.symm]; exact h2, q⟩, T.ne⟩
theorem TapeAt.ne_t {H : Hp} {t l b : Addr} (T : TapeAt H t l) (h : H b = none) : b ≠ t := let ⟨_, e⟩ := T.list; (ne_of_none e h).symm
theorem TapeAt.ne_l {H : Hp} {t l b : Addr} (T : TapeAt H t l) (h : H b = none) : b ≠ l := let ⟨_, e⟩ := T.list'; (ne_of_none e h).symm
theorem TapeAt.im {H H' : Hp} {t l : Addr} (T : TapeAt H t l) (g : Gr t H H') : Im H H' := let ⟨_, e⟩ := T.list; Im.gr g e

/-- the law's own two: a tape is made; a number is drawn -/
def sp_law_tape (K : PySem.W.Frag) : Sp := fun vs H Q _ => ∃ (a : Addr) (ns : List Int), vs = [.ref a] ∧ SqL K H a (ns.map V.int) ∧ ns.length ≤ 63 ∧ ∀ t l H', Same H H' → TapeAt H' t l → H t = none → H l = none → Q (.ref t) H'
def sp_law_draw (K : PySem.W.Frag) : Sp := fun vs H Q _ => ∃ (t l : Addr) (m : Int), vs = [.ref t, .int m] ∧ TapeAt H t l ∧ m ≤ 1000000000 ∧ ∀ v H', TapeAt H' t l → Al t H H' → 0 ≤ v → v < max m 1 → Q (.int v) H'
end Cs

set_option maxRecDepth 100000
set_option maxHeartbeats 4000000
namespace Cs
open PySem PySem.Spec PyProof.Rows L2
/-! ### tests -/
section
variable {A B c : Prop}
theorem if_dec [Decidable c] (h1 : c → A) (h2 : ¬ c → B) : if decide c = true then A else B := by
  by_cases h : c
  · rw [decide_eq_true h, if_pos rfl]; exact h1 h
  · rw [decide_eq_false h, if_neg Bool.false_ne_true]; exact h2 h
theorem if_ndec [Decidable c] (h1 : ¬ c → A) (h2 : c → B) : if (!decide c) = true then A else B := by
  by_cases h : c
  · rw [decide_eq_true h]; exact h2 h
  · rw [decide_eq_false h]; exact h1 h
theorem if_int {i j : Int} (h1 : i = j → A) (h2 : ¬ i = j → B) : if decide (V.int i = V.int j) = true then A else B :=
  if_dec (fun h => h1 (V.int.inj h)) fun h => h2 fun e => h (by rw [e])
theorem if_nint {i j : Int} (h1 : ¬ i = j → A) (h2 : i = j → B) : if (!decide (V.int i = V.int j)) = true then A else B :=
  if_ndec (fun h => h1 fun e => h (by rw [e])) fun h => h2 (V.int.inj h)
theorem if_str {i j : Str} (h1 : i = j → A) (h2 : ¬ i = j → B) : if decide (V.str i = V.str j) = true then A else B :=
  if_dec (fun h => h1 (V.str.inj h)) fun h => h2 fun e => h (by rw [e])
theorem if_nstr {i j : Str} (h1 : ¬ i = j → A) (h2 : i = j → B) : if (!decide (V.str i = V.str j)) = true then A else B :=
  if_ndec (fun h => h1 fun e => h (by rw [e])) fun h => h2 (V.str.inj h)
theorem if_bool {b : Bool} (h1 : b = true → A) (h2 : b = false → B) : if b = true then A else B := by
  cases b with
  | true => exact h1 rfl
  | false => exact h2 rfl
theorem if_nbool {b : Bool} (h1 : b = false → A) (h2 : b = true → B) : if (!b) = true then A else B := by
  cases b with
  | true => exact h2 rfl
  | false => exact h1 rfl
end
theorem int_at {ns : List Int} {i : Nat} {y : V} (h : (ns.map V.int)[i]? = some y) : ∃ n, y = V.int n := by
  rw [List.getElem?_map] at h
  cases e : ns[i]? with
  | none => rw [e] at h; cases h
  | some z => rw [e] at h; exact ⟨z, (Option.some.inj h).symm⟩
theorem at_int {ns : List Int} {i : Int} (h0 : 0 ≤ i) (h : i < ns.length) : ∃ n, atI (ns.map V.int) i = some (V.int n) := by
  obtain ⟨j, rfl⟩ : ∃ j : Nat, i = (j : Int) := ⟨i.toNat, by omega⟩
  have hj : j < ns.length := by omega
  exact ⟨ns[j], atI_nat (by rw [List.getElem?_map, List.getElem?_eq_getElem hj]; rfl)⟩
theorem max_one (m : Int) : (if (1 : Int) > m then (1 : Int) else m) = max m 1 := by
  by_cases h : (1 : Int) > m
  · rw [if_pos h]; omega
  · rw [if_neg h]; omega
end Cs
namespace Cs
open PySem PySem.Spec PyProof.Rows L2
theorem set3 {α : Type} (σ : List α) (s : Nat) (a b c : α) : (((σ.set s a).set s b).set s c) = σ.set s c := by
  rw [List.set_set, List.set_set]
theorem get_snoc {ys : List V} {v u : V} {j : Nat} (e : (ys ++ [v])[j]? = some u) : (j < ys.length ∧ ys[j]? = some u) ∨ (j = ys.length ∧ u = v) := by
  by_cases h : j < ys.length
  · rw [List.getElem?_append_left h] at e
    exact .inl ⟨h, e⟩
  · rw [List.getElem?_append_right (by omega)] at e
    have q : j - ys.length = 0 := by
      by_cases z : j - ys.length = 0
      · exact z
      · rw [List.getElem?_eq_none (by show 1 ≤ _; omega)] at e
        cases e
    rw [q] at e
    exact .inr ⟨by omega, (Option.some.inj e).symm⟩
section
variable {K : PySem.W.Frag} {a : Addr} {xs : List V} {te : TE} {s : Nat} {σ : L2.St} {H1 : Hp} {D : Addr} {Qd : Hp → Prop}
/-- what holds of a comprehension's list under way: its items so far are as P says -/
def CompSo (P : Nat → V → Hp → Prop) (H1 : Hp) (D : Addr) (i : Nat) (H : Hp) : Prop := Same H1 H ∧ ∃ ys, H D = some (.lst ys) ∧ ys.length = i ∧ ∀ j v, ys[j]? = some v → P j v H
theorem comp_turn {P : Nat → V → Hp → Prop} {i n : Nat} {x : V} {H : Hp} (mono : ∀ i v H H', P i v H → Im H H' → P i v H') (hz : n ≤ sizeLine) (fresh : H1 D = none) (hi : i < n) (so : CompSo P H1 D i H)
    (elt : ∀ H, Same H1 H → ∀ Q' : VK, (∀ v H', Same H H' → P i v H' → Q' v H') → te ((σ.set s none).set s (some x)) H Q') :
    gName s x (wipe σ [s]) H fun σ2 H2 => wipe σ2 [s] = wipe σ [s] ∧ tYes σ2 H2 fun b H3 =>
      if b = true then te σ2 H3 fun y H4 => ∃ acc, H4 D = some (.lst acc) ∧ acc.length < sizeLine ∧ CompSo P H1 D (i + 1) (upd H4 D (.lst (acc ++ [y]))) else CompSo P H1 D (i + 1) H3 := by
  obtain ⟨sm, ys, hD, hlen, hP⟩ := so
  refine ⟨set3 σ s none (some x) none, ?_⟩
  unfold tYes
  dsimp only
  rw [if_pos rfl]
  refine elt H sm _ fun v H' sm' pv => ?_
  have hD' := sm' _ _ hD
  have im2 : Im H' (upd H' D (.lst (ys ++ [v]))) := Im.set hD'
  refine ⟨ys, hD', by omega, fun b o e => by rw [upd_ne (ne_of_none e fresh)]; exact sm' _ _ (sm _ _ e), ys ++ [v], upd_same, by rw [List.length_append, hlen]; rfl, fun j u e => ?_⟩
  rcases get_snoc e with ⟨_, e⟩ | ⟨rfl, rfl⟩
  · exact mono _ _ _ _ (hP j u e) ((Im.same sm').trans im2)
  · rw [hlen]
    exact mono _ _ _ _ pv im2
theorem comp_start {P : Nat → V → Hp → Prop} (fresh : H1 D = none) : CompSo P H1 D 0 (upd H1 D (.lst [])) := ⟨Same.new fresh, [], upd_same, rfl, fun j v e => by simp at e⟩
/-- a comprehension over a list, no test: each element of the new list is what P says; nothing that was tracked changes -/
theorem comp_list (P : Nat → V → Hp → Prop) (mono : ∀ i v H H', P i v H → Im H H' → P i v H') (hl : SqL K H1 a xs) (hz : xs.length ≤ sizeLine) (fresh : H1 D = none)
    (elt : ∀ i x, xs[i]? = some x → ∀ H, Same H1 H → ∀ Q' : VK, (∀ v H', Same H H' → P i v H' → Q' v H') → te ((σ.set s none).set s (some x)) H Q')
    (hd : ∀ H ys, Same H1 H → H D = some (.lst ys) → ys.length = xs.length → (∀ i v, ys[i]? = some v → P i v H) → Qd H) :
    ∃ W : Nat → Nat → Hp → Prop, (∃ m, W 0 m (upd H1 D (.lst []))) ∧ ∀ i m H, W i m H →
      ((Itl K a).stop i H ∧ Qd H) ∨ ((Itl K a).go i H ∧ ∃ Nx : Hp → Prop, (∀ H', Nx H' → ∃ m', m' < m ∧ W (i + 1) m' H') ∧ ∀ x H', (Itl K a).yld i H x H' → gName s x (wipe σ [s]) H' fun σ2 H2 => wipe σ2 [s] = wipe σ [s] ∧ tYes σ2 H2 fun b H3 =>
        if b = true then te σ2 H3 fun y H4 => ∃ acc, H4 D = some (.lst acc) ∧ acc.length < sizeLine ∧ Nx (upd H4 D (.lst (acc ++ [y]))) else Nx H3) :=
  lc_list (K := K) (a := a) (xs := xs) (CompSo P H1 D) (comp_start fresh) (fun i H _ h => h.1.seq hl)
    (fun i x H hx so => comp_turn mono hz fresh (List.getElem?_eq_some_iff.mp hx).1 so (elt i x hx)) fun H ⟨sm, ys, hD, hlen, hP⟩ => hd H ys sm hD hlen hP
theorem comp_tup (P : Nat → V → Hp → Prop) (mono : ∀ i v H H', P i v H → Im H H' → P i v H') (hl : SqT K H1 a xs) (hz : xs.length ≤ sizeLine) (fresh : H1 D = none)
    (elt : ∀ i x, xs[i]? = some x → ∀ H, Same H1 H → ∀ Q' : VK, (∀ v H', Same H H' → P i v H' → Q' v H') → te ((σ.set s none).set s (some x)) H Q')
    (hd : ∀ H ys, Same H1 H → H D = some (.lst ys) → ys.length = xs.length → (∀ i v, ys[i]? = some v → P i v H) → Qd H) :
    ∃ W : Nat → Nat → Hp → Prop, (∃ m, W 0 m (upd H1 D (.lst []))) ∧ ∀ i m H, W i m H →
      ((Itt K a).stop i H ∧ Qd H) ∨ ((Itt K a).go i H ∧ ∃ Nx : Hp → Prop, (∀ H', Nx H' → ∃ m', m' < m ∧ W (i + 1) m' H') ∧ ∀ x H', (Itt K a).yld i H x H' → gName s x (wipe σ [s]) H' fun σ2 H2 => wipe σ2 [s] = wipe σ [s] ∧ tYes σ2 H2 fun b H3 =>
        if b = true then te σ2 H3 fun y H4 => ∃ acc, H4 D = some (.lst acc) ∧ acc.length < sizeLine ∧ Nx (upd H4 D (.lst (acc ++ [y]))) else Nx H3) :=
  lc_tup (K := K) (a := a) (xs := xs) (CompSo P H1 D) (comp_start fresh) (fun i H _ h => (Im.same h.1).sqT hl)
    (fun i x H hx so => comp_turn mono hz fresh (List.getElem?_eq_some_iff.mp hx).1 so (elt i x hx)) fun H ⟨sm, ys, hD, hlen, hP⟩ => hd H ys sm hD hlen hP
end
end Cs

namespace Cs
open PySem PySem.Spec PyProof.Rows L2
theorem eq_map {α : Type} {ys : List V} {rs : List α} {f : α → V} (h1 : ys.length = rs.length) (h2 : ∀ (i : Nat) v, ys[i]? = some v → ∃ r, rs[i]? = some r ∧ v = f r) : ys = rs.map f := by
  refine List.ext_getElem? fun i => ?_
  rw [List.getElem?_map]
  cases e : ys[i]? with
  | none =>
    have : rs[i]? = none := List.getElem?_eq_none_iff.mpr (by have := List.getElem?_eq_none_iff.mp e; omega)
    rw [this]; rfl
  | some v =>
    obtain ⟨r, hr, rfl⟩ := h2 i v e
    rw [hr]; rfl
theorem get_len {α β : Type} {xs : List α} {rs : List β} (h : xs.length = rs.length) {i : Nat} {x : α} (e : xs[i]? = some x) : ∃ r, rs[i]? = some r := by
  have hi := (List.getElem?_eq_some_iff.mp e).1
  exact ⟨rs[i]'(by omega), List.getElem?_eq_getElem (by omega)⟩
section
variable {K : PySem.W.Frag} {a : Addr} {xs : List V} {te : TE} {s : Nat} {σ : L2.St} {H1 : Hp} {D : Addr} {Qd : Hp → Prop} {α : Type}
/-- .. where each element is a value that hangs on the datum alone -/
theorem map_list (rs : List α) (f : α → V) (hl : SqL K H1 a xs) (hz : xs.length ≤ sizeLine) (hlen : xs.length = rs.length) (fresh : H1 D = none)
    (elt : ∀ (i : Nat) x r, xs[i]? = some x → rs[i]? = some r → ∀ H, Same H1 H → ∀ Q' : VK, (∀ H', Same H H' → Q' (f r) H') → te ((σ.set s none).set s (some x)) H Q')
    (hd : ∀ H, Same H1 H → H D = some (.lst (rs.map f)) → Qd H) :
    ∃ W : Nat → Nat → Hp → Prop, (∃ m, W 0 m (upd H1 D (.lst []))) ∧ ∀ i m H, W i m H →
      ((Itl K a).stop i H ∧ Qd H) ∨ ((Itl K a).go i H ∧ ∃ Nx : Hp → Prop, (∀ H', Nx H' → ∃ m', m' < m ∧ W (i + 1) m' H') ∧ ∀ x H', (Itl K a).yld i H x H' → gName s x (wipe σ [s]) H' fun σ2 H2 => wipe σ2 [s] = wipe σ [s] ∧ tYes σ2 H2 fun b H3 =>
        if b = true then te σ2 H3 fun y H4 => ∃ acc, H4 D = some (.lst acc) ∧ acc.length < sizeLine ∧ Nx (upd H4 D (.lst (acc ++ [y]))) else Nx H3) :=
  comp_list (K := K) (a := a) (fun i v _ => ∃ r, rs[i]? = some r ∧ v = f r) (fun _ _ _ _ h _ => h) hl hz fresh
    (fun i x hx H sm Q' hQ => by
      obtain ⟨r, hr⟩ := get_len hlen hx
      exact elt i x r hx hr H sm Q' fun H' sm' => hQ _ H' sm' ⟨r, hr, rfl⟩)
    fun H ys sm hD hl2 hP => hd H sm (by rw [← eq_map (hl2.trans hlen) hP]; exact hD)
theorem map_tup (rs : List α) (f : α → V) (hl : SqT K H1 a xs) (hz : xs.length ≤ sizeLine) (hlen : xs.length = rs.length) (fresh : H1 D = none)
    (elt : ∀ (i : Nat) x r, xs[i]? = some x → rs[i]? = some r → ∀ H, Same H1 H → ∀ Q' : VK, (∀ H', Same H H' → Q' (f r) H') → te ((σ.set s none).set s (some x)) H Q')
    (hd : ∀ H, Same H1 H → H D = some (.lst (rs.map f)) → Qd H) :
    ∃ W : Nat → Nat → Hp → Prop, (∃ m, W 0 m (upd H1 D (.lst []))) ∧ ∀ i m H, W i m H →
      ((Itt K a).stop i H ∧ Qd H) ∨ ((Itt K a).go i H ∧ ∃ Nx : Hp → Prop, (∀ H', Nx H' → ∃ m', m' < m ∧ W (i + 1) m' H') ∧ ∀ x H', (Itt K a).yld i H x H' → gName s x (wipe σ [s]) H' fun σ2 H2 => wipe σ2 [s] = wipe σ [s] ∧ tYes σ2 H2 fun b H3 =>
        if b = true then te σ2 H3 fun y H4 => ∃ acc, H4 D = some (.lst acc) ∧ acc.length < sizeLine ∧ Nx (upd H4 D (.lst (acc ++ [y]))) else Nx H3) :=
  comp_tup (K := K) (a := a) (fun i v _ => ∃ r, rs[i]? = some r ∧ v = f r) (fun _ _ _ _ h _ => h) hl hz fresh
    (fun i x hx H sm Q' hQ => by
      obtain ⟨r, hr⟩ := get_len hlen hx
      exact elt i x r hx hr H sm Q' fun H' sm' => hQ _ H' sm' ⟨r, hr, rfl⟩)
    fun H ys sm hD hl2 hP => hd H sm (by rw [← eq_map (hl2.trans hlen) hP]; exact hD)
end
/-! ### rectangles -/
structure R where
  l : Int
  t : Int
  w : Int
  h : Int
  deriving DecidableEq
def R.vs (r : R) : List V := [.int r.l, .int r.t, .int r.w, .int r.h]
def R.es (r : R) : List V := [.int r.l, .int r.t, .int (r.l + r.w), .int (r.t + r.h)]
/-- v is the rectangle r -/
def Rc (K : PySem.W.Frag) (H : Hp) (v : V) (r : R) : Prop := ∃ a, v = .ref a ∧ SqT K H a r.vs
theorem Rc.im {K : PySem.W.Frag} {H H' : Hp} {v : V} {r : R} (h : Rc K H v r) (e : Im H H') : Rc K H' v r := let ⟨a, h1, h2⟩ := h; ⟨a, h1, e.sqT h2⟩
theorem Rc.same {K : PySem.W.Frag} {H H' : Hp} {v : V} {r : R} (h : Rc K H v r) (e : Same H H') : Rc K H' v r := h.im (Im.same e)
/-- xs are the rectangles rs -/
structure Rcs (K : PySem.W.Frag) (H : Hp) (xs : List V) (rs : List R) : Prop where
  len : xs.length = rs.length
  at_ : ∀ (i : Nat) (x : V) (r : R), xs[i]? = some x → rs[i]? = some r → Rc K H x r
theorem Rcs.im {K : PySem.W.Frag} {H H' : Hp} {xs : List V} {rs : List R} (h : Rcs K H xs rs) (e : Im H H') : Rcs K H' xs rs := ⟨h.len, fun i x r h1 h2 => (h.at_ i x r h1 h2).im e⟩
theorem Rcs.nil {K : PySem.W.Frag} {H : Hp} : Rcs K H [] [] := ⟨rfl, fun i x r h => by simp at h⟩
theorem Rcs.snoc {K : PySem.W.Frag} {H : Hp} {xs : List V} {rs : List R} {x : V} {r : R} (h : Rcs K H xs rs) (q : Rc K H x r) : Rcs K H (xs ++ [x]) (rs ++ [r]) := by
  refine ⟨by rw [List.length_append, List.length_append, h.len]; rfl, fun i y s h1 h2 => ?_⟩
  rcases get_snoc h1 with ⟨hi, h1⟩ | ⟨rfl, rfl⟩
  · rw [List.getElem?_append_left (by rw [← h.len]; exact hi)] at h2
    exact h.at_ i y s h1 h2
  · rw [h.len, List.getElem?_append_right (Nat.le_refl _), Nat.sub_self] at h2
    cases (Option.some.inj h2)
    exact q
theorem Rcs.take {K : PySem.W.Frag} {H : Hp} {xs : List V} {rs : List R} (h : Rcs K H xs rs) (n : Nat) : Rcs K H (xs.take n) (rs.take n) := by
  refine ⟨by rw [List.length_take, List.length_take, h.len], fun i y s h1 h2 => ?_⟩
  rw [List.getElem?_take] at h1 h2
  split at h1
  · rw [if_pos (by assumption)] at h2
    exact h.at_ i y s h1 h2
  · cases h1
theorem Rcs.drop {K : PySem.W.Frag} {H : Hp} {xs : List V} {rs : List R} (h : Rcs K H xs rs) (n : Nat) : Rcs K H (xs.drop n) (rs.drop n) := by
  refine ⟨by rw [List.length_drop, List.length_drop, h.len], fun i y s h1 h2 => ?_⟩
  rw [List.getElem?_drop] at h1 h2
  exact h.at_ _ y s h1 h2
theorem Rcs.reverse {K : PySem.W.Frag} {H : Hp} {xs : List V} {rs : List R} (h : Rcs K H xs rs) : Rcs K H xs.reverse rs.reverse := by
  refine ⟨by rw [List.length_reverse, List.length_reverse, h.len], fun i y s h1 h2 => ?_⟩
  have hi : i < xs.length := by have := (List.getElem?_eq_some_iff.mp h1).1; rw [List.length_reverse] at this; exact this
  rw [List.getElem?_reverse hi] at h1
  rw [List.getElem?_reverse (by rw [← h.len]; exact hi), ← h.len] at h2
  exact h.at_ _ y s h1 h2
end Cs

set_option maxRecDepth 100000
set_option maxHeartbeats 4000000
/-! rules with the written part named, so that they stand within comprehensions too -/
namespace Cs
open PySem PySem.Spec PyProof.Rows L2
section
variable {X : Cx} {a b e : Expr} {ta tb te : TE} {pos : Pos}
theorem ixL (K : PySem.W.Frag) (h : X.K = K := by rfl) : IxR X (rIxL K) := h ▸ ix_list
theorem ixT (K : PySem.W.Frag) (h : X.K = K := by rfl) : IxR X (rIxT K) := h ▸ ix_tup
theorem slL (K : PySem.W.Frag) (h : X.K = K := by rfl) : SlR X (rSlL K) := h ▸ sl_list
theorem slT (K : PySem.W.Frag) (h : X.K = K := by rfl) : SlR X (rSlA K) := h ▸ sl_tupA
theorem eqK (K : PySem.W.Frag) (hu : X.A.units + 64 < cLine) (h : X.K = K := by rfl) : OpR X (compareOp .Eq) (rEqD K) := h ▸ op_eqD hu
theorem neK (K : PySem.W.Frag) (hu : X.A.units + 64 < cLine) (h : X.K = K := by rfl) : OpR X (compareOp .NotEq) (rNeD K) := h ▸ op_neD hu
theorem catT (K : PySem.W.Frag) (h : X.K = K := by rfl) : OpR X (binaryOp .Add) (rCatA K) := h ▸ op_catA
def rLen (K : PySem.W.Frag) : List V → Hp → VK → Prop := fun xs H Q => ∃ x n, xs = [x] ∧ LenV K x H n ∧ Q (.int n) H
theorem lenK (K : PySem.W.Frag) (h : X.K = K := by rfl) : CallR X (.builtin "len") (rLen K) := h ▸ call_len
def rListOf (K : PySem.W.Frag) : List V → Hp → VK → Prop := fun xs H Q => ∃ p ys, xs = [.ref p] ∧ (SqL K H p ys ∨ SqT K H p ys) ∧ ∀ l, H l = none → Q (.ref l) (upd H l (.lst ys))
theorem listK (K : PySem.W.Frag) (h : X.K = K := by rfl) : CallR X (.type "list") (rListOf K) := h ▸ call_list_of
def rTupOf (K : PySem.W.Frag) : List V → Hp → VK → Prop := fun xs H Q => ∃ p ys, xs = [.ref p] ∧ ((SqL K H p ys ∧ ∀ l, H l = none → Q (.ref l) (upd H l (.tup ys))) ∨ (SqT K H p ys ∧ Q (.ref p) H))
theorem tupK (K : PySem.W.Frag) (h : X.K = K := by rfl) : CallR X (.type "tuple") (rTupOf K) := h ▸ call_tuple_of
theorem reprK (K : PySem.W.Frag) (hu : X.A.units + 64 < cLine) (hg : X.A.guards = some []) (h : X.K = K := by rfl) : CallR X (.builtin "repr") (rRepr K) := h ▸ call_repr hu hg
theorem minK (K : PySem.W.Frag) (hc : X.calm = true) (h : X.K = K := by rfl) : CallR X (.builtin "min") (rMin K) := h ▸ cr_min hc
theorem maxK (K : PySem.W.Frag) (hc : X.calm = true) (h : X.K = K := by rfl) : CallR X (.builtin "max") (rMax K) := h ▸ cr_max hc
theorem sumK (K : PySem.W.Frag) (hc : X.calm = true) (h : X.K = K := by rfl) : CallR X (.builtin "sum") (rSum K) := h ▸ cr_sum hc
/-- a test by truth -/
def tTru (K : PySem.W.Frag) (ta : TE) : TT := fun σ H Q => ta σ H fun x H' => ∃ k, TruV K x H' k ∧ Q k H'
theorem truK (K : PySem.W.Frag) (ha : PE X a ta) (he : ∀ whole, isTrue a X.env whole = (do let v ← whole; standAt a.pos; holding [v] (truthy v)) := by intro _; rfl) (h : X.K = K := by rfl) : PT X a (tTru K ta) := h ▸ pt_truth ha he
end
theorem atI_mem {α : Type} {xs : List α} {v : Int} (h0 : 0 ≤ v) (h1 : v < xs.length) : ∃ z, atI xs v = some z ∧ xs[v.toNat]? = some z ∧ z ∈ xs := by
  obtain ⟨j, rfl⟩ : ∃ j : Nat, v = (j : Int) := ⟨v.toNat, by omega⟩
  have hj : j < xs.length := by omega
  have e : xs[j]? = some xs[j] := List.getElem?_eq_getElem hj
  exact ⟨xs[j], atI_nat e, by rw [Int.toNat_natCast]; exact e, List.getElem_mem hj⟩
/-! the slots as a written list -/
theorem gset {i : Nat} {v : V} {σ σ' : L2.St} {H : Hp} {Q : L2.St → Hp → Prop} (e : σ.set i (some v) = σ') (h : Q σ' H) : gName i v σ H Q := by
  subst e
  exact h
theorem set_0 {α : Type} {a b : α} {l : List α} : (a :: l).set 0 b = b :: l := rfl
theorem set_s {α : Type} {a b : α} {l l' : List α} {n : Nat} (h : l.set n b = l') : (a :: l).set (n + 1) b = a :: l' := by
  subst h
  rfl
def tPar2 (i j : Nat) (ta : TA) : TS := fun D σ H => ta σ H fun vs H1 => ∃ v w, vs = [v, w] ∧ gName i v σ H1 fun σ' H' => gName j w σ' H' D.nx
theorem par2 {X : Cx} {i j : Nat} {st : Stmt} {ta : TA} (h : PS X st (tPar i j ta)) : PS X st (tPar2 i j ta) := h
theorem at_start {N : List Str} {vs : List V} {σ : L2.St} {t : TS} {D : Ends} {H : Hp} (e : L2.start N vs = σ) (h : t D σ H) : t D (L2.start N vs) H := by
  subst e
  exact h
theorem rep_0 {α : Type} {a : α} : List.replicate 0 a = [] := rfl
theorem rep_s {α : Type} {a : α} {k : Nat} {l : List α} (h : List.replicate k a = l) : List.replicate (k + 1) a = a :: l := by
  subst h
  rfl
theorem app_nil {α : Type} {r l : List (Option α)} (h : r = l) : ([] : List α).map some ++ r = l := h
theorem app_cons {α : Type} {v : α} {vs : List α} {r l : List (Option α)} (h : vs.map some ++ r = l) : (v :: vs).map some ++ r = some v :: l := by
  subst h
  rfl
theorem st_of {N : List Str} {vs : List V} {k : Nat} {σ : L2.St} (h : N.length - vs.length = k) (e : vs.map some ++ List.replicate k none = σ) : L2.start N vs = σ := by
  subst h
  exact e
theorem cut_to {xs : List V} {k : Int} (h : 0 ≤ k) : cutV xs none (some k) = xs.take k.toNat := by
  obtain ⟨j, rfl⟩ : ∃ j : Nat, k = (j : Int) := ⟨k.toNat, by omega⟩
  unfold cutV
  rw [HT.sIx_none, HT.sIx_nat, List.drop_zero, Nat.sub_zero, Int.toNat_natCast]
  by_cases h : j ≤ xs.length
  · rw [Nat.min_eq_left h]
  · rw [Nat.min_eq_right (by omega), List.take_length, List.take_of_length_le (by omega)]
theorem cut_from {xs : List V} {k : Int} (h : 0 ≤ k) : cutV xs (some k) none = xs.drop k.toNat := by
  obtain ⟨j, rfl⟩ : ∃ j : Nat, k = (j : Int) := ⟨k.toNat, by omega⟩
  unfold cutV
  rw [HT.sIx_none, HT.sIx_nat, Int.toNat_natCast]
  by_cases h : j ≤ xs.length
  · rw [Nat.min_eq_left h, List.take_of_length_le (by rw [List.length_drop]; omega)]
  · rw [Nat.min_eq_right (by omega), List.drop_of_length_le (Nat.le_refl _), List.drop_of_length_le (by omega), List.take_nil]
theorem Al.at_ {t b : Addr} {H H' : Hp} {o : HO} (a : Al t H H') (n : b ≠ t) (h : H b = some o) : H' b = some o := by rw [a b n]; exact h
theorem Al.none_ {t b : Addr} {H H' : Hp} (a : Al t H H') (n : b ≠ t) (h : H b = none) : H' b = none := by rw [a b n]; exact h
end Cs

set_option maxRecDepth 100000
set_option maxHeartbeats 4000000
/-! how long the text of data may get -/
namespace Cs
open PySem PySem.Spec PyProof.Rows L2
def smallStr (x : Str) : Bool := x.cps.toList.all fun c => decide (c < 16 ^ 8)
theorem smallStr_all {x : Str} (h : smallStr x = true) : ∀ c ∈ x.cps.toList, c < 16 ^ 8 := fun c hc => of_decide_eq_true (List.all_eq_true.mp h c hc)
mutual
/-- no dicts, ints below 2 ^ 1920, texts of codes that can be shown -/
def plainD : PyData → Bool
  | .none => true
  | .bool _ => true
  | .int i => decide (i.natAbs.log2 < 1920)
  | .str x => smallStr x
  | .list xs => plainAll xs
  | .tuple xs => plainAll xs
  | .dict _ => false
def plainAll : List PyData → Bool
  | [] => true
  | x :: xs => plainD x && plainAll xs
end
mutual
def cost : PyData → Nat
  | .none => 4
  | .bool _ => 5
  | .int _ => 1921
  | .str x => 10 * x.length + 2
  | .list xs => costAll xs + 2
  | .tuple xs => costAll xs + 2
  | .dict _ => 0
def costAll : List PyData → Nat
  | [] => 0
  | x :: xs => cost x + 2 + costAll xs
end
theorem list_text (ts : List Str) : (listText ts).length ≤ piled ts + 2 := by
  cases ts with
  | nil => decide +kernel
  | cons t r =>
    have e1 : (listText (t :: r)).length = (textFrom 0 "[" (t :: r)).length + 1 := by
      show (textFrom 0 "[" (t :: r) ++ "]").length = _
      rw [strLen_append]; rfl
    have e2 : (textFrom 0 "[" (t :: r)).length = (textFrom 1 (("[" : Str) ++ (if (0 : Nat) > 0 then ", " else "" : String) ++ t) r).length := rfl
    have e3 : ((("[" : Str) ++ (if (0 : Nat) > 0 then ", " else "" : String) ++ t)).length = 1 + t.length := by
      rw [strLen_append, strLen_append]; rfl
    have h := textFrom_length_pos r 1 (("[" : Str) ++ (if (0 : Nat) > 0 then ", " else "" : String) ++ t) (Nat.succ_pos 0)
    rw [piled_cons]
    omega
mutual
theorem plain_shows : ∀ d : PyData, plainD d = true → d.showable = true ∧ d.hasDict = false ∧ d.shown.length ≤ cost d
  | .none, _ => ⟨by simp only [PyData.showable], by simp only [PyData.hasDict], by simp only [PyData.shown, cost]; decide +kernel⟩
  | .bool b, _ => ⟨by simp only [PyData.showable], by simp only [PyData.hasDict], by simp only [PyData.shown, cost]; cases b <;> decide +kernel⟩
  | .int i, h => by
    simp only [plainD] at h
    exact ⟨by simp only [PyData.showable]; exact h, by simp only [PyData.hasDict], by simp only [PyData.shown, cost]; exact int_text_len_1921 (of_decide_eq_true h)⟩
  | .str x, h => by
    simp only [plainD] at h
    exact ⟨by simp only [PyData.showable], by simp only [PyData.hasDict], by simp only [PyData.shown, cost]; exact StrLaws.reprText_len x (smallStr_all h)⟩
  | .list xs, h => by
    simp only [plainD] at h
    obtain ⟨h1, h2, h3⟩ := plain_showsAll xs h
    refine ⟨by simp only [PyData.showable]; exact h1, by simp only [PyData.hasDict]; exact h2, ?_⟩
    simp only [PyData.shown, cost]
    have := list_text (PyData.shownAll xs)
    omega
  | .tuple xs, h => by
    simp only [plainD] at h
    obtain ⟨h1, h2, h3⟩ := plain_showsAll xs h
    refine ⟨by simp only [PyData.showable]; exact h1, by simp only [PyData.hasDict]; exact h2, ?_⟩
    simp only [PyData.shown, cost]
    have := fmt_text (PyData.shownAll xs)
    omega
  | .dict _, h => by simp [plainD] at h
theorem plain_showsAll : ∀ xs : List PyData, plainAll xs = true → PyData.showableAll xs = true ∧ PyData.hasDictAll xs = false ∧ piled (PyData.shownAll xs) ≤ costAll xs
  | [], _ => ⟨by simp only [PyData.showableAll], by simp only [PyData.hasDictAll], by simp only [PyData.shownAll, costAll]; exact Nat.le_refl _⟩
  | x :: xs, h => by
    simp only [plainAll, Bool.and_eq_true] at h
    obtain ⟨a1, a2, a3⟩ := plain_shows x h.1
    obtain ⟨b1, b2, b3⟩ := plain_showsAll xs h.2
    refine ⟨by simp only [PyData.showableAll, a1, b1, Bool.and_self], by simp only [PyData.hasDictAll, a2, b2, Bool.or_self], ?_⟩
    simp only [PyData.shownAll, costAll, piled_cons]
    omega
end
/-- what repr asks of data -/
def RepOk (d : PyData) : Prop := plainD d = true ∧ d.depth ≤ 40 ∧ cost d ≤ sizeLine
theorem repr_go {K : PySem.W.Frag} {x : V} {d : PyData} {H : Hp} {Q : VK} (hd : Dp K H x d) (ok : RepOk d) (q : Q (.str d.shown) H) : rRepr K [x] H Q := by
  obtain ⟨h1, h2, h3⟩ := plain_shows d ok.1
  exact ⟨x, d, rfl, hd, h1, h2, ok.2.1, Nat.le_trans h3 ok.2.2, q⟩
theorem RepOk.sh {d : PyData} (ok : RepOk d) : d.showable = true := (plain_shows d ok.1).1
theorem RepOk.nd {d : PyData} (ok : RepOk d) : d.hasDict = false := (plain_shows d ok.1).2.1
theorem RepOk.dp {d : PyData} (ok : RepOk d) : d.depth ≤ 40 := ok.2.1
theorem RepOk.sz {d : PyData} (ok : RepOk d) : d.shown.length ≤ sizeLine := Nat.le_trans (plain_shows d ok.1).2.2 ok.2.2
theorem small_int {i : Int} (h1 : -1000000000000000000000000000000 ≤ i) (h2 : i ≤ 1000000000000000000000000000000) : plainD (.int i) = true := by
  simp only [plainD]
  refine decide_eq_true ?_
  by_cases h : i.natAbs = 0
  · rw [h]; decide
  · refine (Nat.log2_lt h).mpr ?_
    have : i.natAbs ≤ 1000000000000000000000000000000 := by omega
    exact Nat.lt_of_le_of_lt this (by decide)
/-- the rectangle as data -/
def R.d (r : R) : PyData := .tuple [.int r.l, .int r.t, .int r.w, .int r.h]
theorem Rc.dp {K : PySem.W.Frag} {H : Hp} {v : V} {r : R} (h : Rc K H v r) : Dp K H v r.d := by
  obtain ⟨a, rfl, h⟩ := h
  exact .tup h (.cons (.int _) (.cons (.int _) (.cons (.int _) (.cons (.int _) .nil))))
theorem R.rep {r : R} (h : ∀ z ∈ [r.l, r.t, r.w, r.h], -1000000000000000000000000000000 ≤ z ∧ z ≤ 1000000000000000000000000000000) : RepOk r.d := by
  refine ⟨?_, by simp [R.d, PyData.depth, PyData.depthAll], ?_⟩
  · have p : ∀ z ∈ [r.l, r.t, r.w, r.h], plainD (.int z) = true := fun z hz => small_int (h z hz).1 (h z hz).2
    simp only [R.d, plainD, plainAll, Bool.and_true, Bool.and_eq_true] at *
    exact ⟨p _ (by simp), p _ (by simp), p _ (by simp), p _ (by simp)⟩
  · simp only [R.d, cost, costAll]
    decide
end Cs

set_option maxRecDepth 100000
set_option maxHeartbeats 4000000
/-! rectangles: the plain functions, and what the program's functions promise of them -/
namespace Cs
open PySem PySem.Spec PyProof.Rows L2
def has (r : R) (x y : Int) : Bool := (decide (r.l ≤ x) && decide (x < r.l + r.w)) && (decide (r.t ≤ y) && decide (y < r.t + r.h))
def In (a b : R) : Bool := decide (b.l ≤ a.l) && (decide (b.t ≤ a.t) && (decide (a.l + a.w ≤ b.l + b.w) && decide (a.t + a.h ≤ b.t + b.h)))
def com (a b : R) : Option R :=
  if max a.l b.l < min (a.l + a.w) (b.l + b.w) ∧ max a.t b.t < min (a.t + a.h) (b.t + b.h) then
    some ⟨max a.l b.l, max a.t b.t, min (a.l + a.w) (b.l + b.w) - max a.l b.l, min (a.t + a.h) (b.t + b.h) - max a.t b.t⟩
  else none
theorem com_comm (a b : R) : com a b = com b a := by
  unfold com
  rw [Int.max_comm a.l b.l, Int.max_comm a.t b.t, Int.min_comm (a.l + a.w), Int.min_comm (a.t + a.h)]
theorem max_if (i j : Int) : (if j > i then j else i) = max i j := by split <;> omega
theorem min_if (i j : Int) : (if j < i then j else i) = min i j := by split <;> omega
/-- v is None or the rectangle o -/
def OptR (K : PySem.W.Frag) (H : Hp) (v : V) : Option R → Prop
  | none => v = .non
  | some r => Rc K H v r
theorem OptR.im {K : PySem.W.Frag} {H H' : Hp} {v : V} {o : Option R} (h : OptR K H v o) (e : Im H H') : OptR K H' v o := by
  cases o with
  | none => exact h
  | some r => exact Rc.im h e
theorem OptR.same {K : PySem.W.Frag} {H H' : Hp} {v : V} {o : Option R} (h : OptR K H v o) (e : Same H H') : OptR K H' v o := h.im (Im.same e)
theorem OptR.isN {K : PySem.W.Frag} {H : Hp} {v : V} {o : Option R} (h : OptR K H v o) : decide (v = .non) = o.isNone := by
  cases o with
  | none => cases h; rfl
  | some r => obtain ⟨a, rfl, _⟩ := h; rfl
def odata : Option R → PyData
  | none => .none
  | some r => r.d
theorem OptR.dp {K : PySem.W.Frag} {H : Hp} {v : V} {o : Option R} (h : OptR K H v o) : Dp K H v (odata o) := by
  cases o with
  | none => cases h; exact .non
  | some r => exact Rc.dp h
theorem none_rep : RepOk .none := ⟨rfl, by simp [PyData.depth], by simp only [cost]; decide⟩
def sp_edges (K : PySem.W.Frag) : Sp := fun vs H Q _ => ∃ (v : V) (r : R), vs = [v] ∧ Rc K H v r ∧ ∀ p, H p = none → Q (.ref p) (upd H p (.tup r.es))
def sp_inside (K : PySem.W.Frag) : Sp := fun vs H Q _ => ∃ (u v : V) (a b : R), vs = [u, v] ∧ Rc K H u a ∧ Rc K H v b ∧ ∀ H', Same H H' → Q (.bl (In a b)) H'
def sp_contains (K : PySem.W.Frag) : Sp := fun vs H Q _ => ∃ (v : V) (r : R) (x y : Int), vs = [v, .int x, .int y] ∧ Rc K H v r ∧ Q (.bl (has r x y)) H
def sp_common (K : PySem.W.Frag) : Sp := fun vs H Q _ => ∃ (u v : V) (a b : R), vs = [u, v] ∧ Rc K H u a ∧ Rc K H v b ∧ ∀ x H', Same H H' → OptR K H' x (com a b) → Q x H'
def sp_overlap (K : PySem.W.Frag) : Sp := fun vs H Q _ => ∃ (u v : V) (a b : R), vs = [u, v] ∧ Rc K H u a ∧ Rc K H v b ∧ ∀ H', Same H H' → Q (.bl (com a b).isSome) H'
def spLaw (K : PySem.W.Frag) : Sp := fun vs H Q _ => ∃ (a : Addr) (ns : List Int), vs = [.ref a] ∧ SqL K H a (ns.map V.int) ∧ ns.length ≤ 63 ∧ ∀ H', Q (.bl true) H'
theorem law_start (K : PySem.W.Frag) (H : Hp) (a : Addr) (ns : List Int) (h1 : ns.length ≤ 63) (h2 : SqL K H a (ns.map V.int)) : spLaw K [.ref a] H (fun v _ => v = .bl true) E0 := ⟨a, ns, rfl, h2, h1, fun _ => rfl⟩
end Cs

set_option maxRecDepth 100000
set_option maxHeartbeats 4000000
/-! texts as lists of codes; a written dict asked by get; comprehensions and loops over a text -/
namespace Cs
open PySem PySem.Spec PyProof.Rows L2
/-- the text of the codes l -/
def S (l : List Nat) : Str := ⟨l.toArray⟩
theorem S_len (l : List Nat) : (S l).length = l.length := by simp [S, Str.length]
theorem S_codes (l : List Nat) : (S l).cps.toList = l := by simp [S]
theorem S_app (l m : List Nat) : S l ++ S m = S (l ++ m) := by
  show Str.mk (l.toArray ++ m.toArray) = Str.mk (l ++ m).toArray
  rw [List.append_toArray]
theorem S_inj {l m : List Nat} (h : S l = S m) : l = m := by
  have := congrArg (fun x : Str => x.cps.toList) h
  simpa [S] using this
theorem S_of (x : Str) : ∃ l, x = S l := ⟨x.cps.toList, by cases x; simp [S]⟩
theorem S_eq {l : List Nat} {x : Str} (h : x.cps.toList = l) : x = S l := by
  subst h
  cases x
  simp [S]
theorem S_at {l : List Nat} {i : Nat} {c : Nat} (h : (S l).cps[i]? = some c) : l[i]? = some c := by
  have : (S l).cps.toList[i]? = some c := by rw [Array.getElem?_toList]; exact h
  rwa [S_codes] at this
/-- text * int -/
def rMulS : R2 := fun x y H Q => ∃ (l : List Nat) (k : Int), x = .str (S l) ∧ y = .int k ∧ 1 ≤ k ∧ l.length * k.toNat ≤ 100000 ∧ k ≤ 100000 ∧ Q (.str (S (List.replicate k.toNat l).flatten)) H
theorem fold_cat : ∀ (n : Nat) (acc l : List Nat), (List.replicate n l.toArray).foldl (· ++ ·) acc.toArray = (acc ++ (List.replicate n l).flatten).toArray
  | 0, acc, l => by simp
  | n + 1, acc, l => by
    rw [List.replicate_succ, List.foldl_cons, List.append_toArray, fold_cat n (acc ++ l) l, List.replicate_succ, List.flatten_cons, List.append_assoc]
theorem op_mul_str {X : Cx} : OpR X (binaryOp .Mult) rMulS := by
  intro pins s σ H x y v u Q I rx ry h
  obtain ⟨l, k, rfl, rfl, k1, k2, k3, q⟩ := h
  obtain ⟨t, rfl⟩ := rx
  obtain ⟨t', rfl⟩ := ry
  have hz : sizeLine = 16777216 := by decide
  refine SB.mul (x := S l) ⟨by simp; omega, fun _ _ h => ?_, fun _ _ => ?_⟩ fun t' n => ⟨.str (Txt.mul (S l) k), H, I.tok _, ⟨_, rfl⟩, ?_⟩
  · rw [S_len] at h
    have hl : (l.length : Int) ≤ 100000 := by
      have : l.length * 1 ≤ l.length * k.toNat := Nat.mul_le_mul_left _ (by omega)
      omega
    have : (2 ^ 63 - 1 : Int) / 100000 ≤ (2 ^ 63 - 1) / k := by
      refine Int.le_ediv_of_mul_le (by omega) ?_
      have : (2 ^ 63 - 1 : Int) / 100000 * k ≤ (2 ^ 63 - 1 : Int) / 100000 * 100000 := Int.mul_le_mul_of_nonneg_left k3 (by decide)
      exact Int.le_trans this (by decide)
    have : (100000 : Int) ≤ (2 ^ 63 - 1 : Int) / 100000 := by decide
    omega
  · rw [S_len]
    show decide (l.length * k.toNat > sizeLine) = false
    exact decide_eq_false (by omega)
  · have e : Txt.mul (S l) k = S (List.replicate k.toNat l).flatten := by
      unfold Txt.mul
      rw [if_neg (by omega)]
      by_cases h1 : (k == 1 || (S l).length == 0) = true
      · rw [if_pos h1]
        rcases Bool.or_eq_true _ _ ▸ h1 with h | h
        · have : k = 1 := by simpa using h
          subst this
          show S l = S (List.replicate 1 l).flatten
          simp
        · rw [S_len] at h
          have : l = [] := by simpa using h
          subst this
          simp
      · rw [if_neg h1]
        have := fold_cat k.toNat [] l
        show Str.mk _ = Str.mk _
        rw [show (S l).cps = l.toArray from rfl]
        simpa using this
    rw [e]
    exact q
section
variable {X : Cx} {o e f : Expr} {apos cpos : Pos} {td ty tx : TE}
/-- d.get(x, z) of a written dict: r says what it holds at the text -/
def tWGet (K : PySem.W.Frag) (w : World) (ty tx : TE) (d : Addr) : TE := fun σ H Q => ty σ H fun y H2 => tx σ H2 fun z H3 => ∃ (x : Str) (es : Array DictEntry) (n : Nat), y = .str x ∧ KDict K w d es n ∧
  ((∃ u v, findBy Value.isStrOf es x = some u ∧ RelV v u ∧ Q v H3) ∨ (findBy Value.isStrOf es x = none ∧ Q z H3))
theorem pe_wget {d : Addr} {x : Str} {pos : Pos} (hg : Gl X x) (hm : X.mg x = some (.ref d)) (D : ∃ es n, KDict X.K X.w d es n) (he : PE X e ty) (hf : PE X f tx) (m : M2 X (.Name x pos) "get" apos e f cpos) (hd : (x == ("__debug__" : Str)) = false := by decide) :
    PE X (.Call (.Attribute (.Name x pos) "get" apos) [e, f] [] cpos) (tWGet X.K X.w ty tx d) := by
  refine ⟨fun pins s σ H Q I h => ?_⟩
  obtain ⟨es, n, D⟩ := D
  refine wpAny_Call_method m.base m.few m.line PySem.F.plainAttrs_dict PySem.F.slot_dict_get PySem.F.type_dict_get (thn ((pe_glob (X := X) (v := .ref d) hg hm rfl hd).run pins s σ H (fun v H' => v = .ref d ∧ H' = H) I ⟨rfl, rfl⟩) fun u s1 ⟨v, H1, I1, rx, e1, e2⟩ => ?_)
  subst e1
  subst e2
  obtain rfl : u = Value.ref d := rx
  have hm0 := PySem.W.mapOf_K (prog := X.prog) (w := X.w) I1.kIn D.at_ D.lit
  refine ⟨hm0.typeIs, fun b eb => ?_, ?_⟩
  · cases eb
    exact ⟨_, I1.kIn _ _ D.at_, rfl⟩
  rw [m.trees]
  refine Calls.callWith_builtin rfl (Calls.evalArgs_plain (Calls.spliced_cons (thn (he.run pins s1 σ H1 _ I1 h) fun iv s2 ⟨y, H2, I2, ry, q2⟩ => Calls.spliced_cons (thn (hf.run pins s2 σ H2 _ I2 q2) fun fv s3 ⟨z, H3, I3, rz, q3⟩ => Calls.spliced_nil ?_))))
  obtain ⟨x0, es', n', ey, D', q⟩ := q3
  subst ey
  obtain ⟨t, rfl⟩ := (show ∃ t, iv = Value.str x0 t from ry)
  have hm3 := PySem.W.mapOf_K (prog := X.prog) (w := X.w) I3.kIn D'.at_ D'.lit
  refine call_meetsIn PySem.F.slot_dict_get hm3.typeIs PySem.F.entry_dict_get (PySem.F.args_dict_get_3 _ _ _) (meets_dict_get_default (strKind X.prog X.w) d (strKind_is X.prog X.w x0 t) D'.low fv) ⟨_, hm3, ?_⟩
  rcases q with ⟨u0, v0, hq, rv, q⟩ | ⟨hq, q⟩
  · rw [hq]
    exact ⟨v0, H3, I3.tok _, rv, q⟩
  · rw [hq]
    exact ⟨z, H3, I3.tok _, rz, q⟩
/-- a module's number, whatever token it bears -/
theorem pe_globI {x : Str} {i : Int} {pos : Pos} (hg : Gl X x) (hm : ∃ t, X.mg x = some (.int i t)) (hd : (x == ("__debug__" : Str)) = false := by decide) : PE X (.Name x pos) (tC (.int i)) := by
  obtain ⟨t, hm⟩ := hm
  exact pe_glob hg hm ⟨t, rfl⟩ hd
end
section
variable {K : PySem.W.Frag} {l : List Nat} {te : TE} {g : TG} {tb : TS} {s : Nat} {σ : L2.St} {H H1 : Hp} {D : Addr} {Qd : Hp → Prop} {En : Ends}
theorem for_text (Pv : Nat → L2.St → Hp → Prop) (h0 : Pv 0 σ H)
    (hs : ∀ (i : Nat) c σ H, l[i]? = some c → Pv i σ H → g (.str (S [c])) σ H fun σ2 H2 => tb { En with nx := Pv (i + 1), ct := Pv (i + 1), bk := En.nx } σ2 H2) (hd : ∀ σ H, Pv l.length σ H → En.nx σ H) :
    ∃ W : Nat → Nat → L2.St → Hp → Prop, (∃ m, W 0 m σ H) ∧ ∀ i m σ H, W i m σ H →
      ((Its (S l)).stop i H ∧ En.nx σ H) ∨ ((Its (S l)).go i H ∧ ∃ N : L2.St → Hp → Prop, (∀ σ' H', N σ' H' → ∃ m', m' < m ∧ W (i + 1) m' σ' H') ∧ ∀ x H', (Its (S l)).yld i H x H' → g x σ H' fun σ2 H2 => tb { En with nx := N, ct := N, bk := En.nx } σ2 H2) := by
  have sz : (S l).cps.size = l.length := by simp [S]
  refine ⟨fun i m σ H => m = l.length - i ∧ i ≤ l.length ∧ Pv i σ H, ⟨l.length, by simp, Nat.zero_le _, h0⟩, ?_⟩
  rintro i m σ H ⟨rfl, hi, p⟩
  by_cases hlt : i < l.length
  · refine .inr ⟨by show i < (S l).cps.size; omega, Pv (i + 1), fun σ' H' p' => ⟨l.length - (i + 1), by omega, rfl, hlt, p'⟩, fun x H' y => ?_⟩
    obtain ⟨e, c, hc, ex⟩ := y
    subst e
    subst ex
    exact hs i c σ _ (S_at hc) p
  · have e : i = l.length := by omega
    subst e
    exact .inl ⟨by show (S l).cps.size ≤ _; omega, hd σ H p⟩
theorem lc_text (Pv : Nat → Hp → Prop) (h0 : Pv 0 (upd H1 D (.lst [])))
    (hs : ∀ (i : Nat) c H, l[i]? = some c → Pv i H → gName s (.str (S [c])) (wipe σ [s]) H fun σ2 H2 => wipe σ2 [s] = wipe σ [s] ∧ tYes σ2 H2 fun b H3 =>
      if b = true then te σ2 H3 fun y H4 => ∃ acc, H4 D = some (.lst acc) ∧ acc.length < sizeLine ∧ Pv (i + 1) (upd H4 D (.lst (acc ++ [y]))) else Pv (i + 1) H3) (hd : ∀ H, Pv l.length H → Qd H) :
    ∃ W : Nat → Nat → Hp → Prop, (∃ m, W 0 m (upd H1 D (.lst []))) ∧ ∀ i m H, W i m H →
      ((Its (S l)).stop i H ∧ Qd H) ∨ ((Its (S l)).go i H ∧ ∃ Nx : Hp → Prop, (∀ H', Nx H' → ∃ m', m' < m ∧ W (i + 1) m' H') ∧ ∀ x H', (Its (S l)).yld i H x H' → gName s x (wipe σ [s]) H' fun σ2 H2 => wipe σ2 [s] = wipe σ [s] ∧ tYes σ2 H2 fun b H3 =>
        if b = true then te σ2 H3 fun y H4 => ∃ acc, H4 D = some (.lst acc) ∧ acc.length < sizeLine ∧ Nx (upd H4 D (.lst (acc ++ [y]))) else Nx H3) := by
  have sz : (S l).cps.size = l.length := by simp [S]
  refine ⟨fun i m H => m = l.length - i ∧ i ≤ l.length ∧ Pv i H, ⟨l.length, by simp, Nat.zero_le _, h0⟩, ?_⟩
  rintro i m H ⟨rfl, hi, p⟩
  by_cases hlt : i < l.length
  · refine .inr ⟨by show i < (S l).cps.size; omega, Pv (i + 1), fun H' p' => ⟨l.length - (i + 1), by omega, rfl, hlt, p'⟩, fun x H' y => ?_⟩
    obtain ⟨e, c, hc, ex⟩ := y
    subst e
    subst ex
    exact hs i c _ (S_at hc) p
  · have e : i = l.length := by omega
    subst e
    exact .inl ⟨by show (S l).cps.size ≤ _; omega, hd H p⟩
/-- [f(c) for c in text], f a value that hangs on the sign alone -/
theorem map_text (f : Nat → V) (hz : l.length ≤ sizeLine) (fresh : H1 D = none)
    (elt : ∀ (i : Nat) c, l[i]? = some c → ∀ H, Same H1 H → ∀ Q' : VK, (∀ H', Same H H' → Q' (f c) H') → te ((σ.set s none).set s (some (.str (S [c])))) H Q')
    (hd : ∀ H, Same H1 H → H D = some (.lst (l.map f)) → Qd H) :
    ∃ W : Nat → Nat → Hp → Prop, (∃ m, W 0 m (upd H1 D (.lst []))) ∧ ∀ i m H, W i m H →
      ((Its (S l)).stop i H ∧ Qd H) ∨ ((Its (S l)).go i H ∧ ∃ Nx : Hp → Prop, (∀ H', Nx H' → ∃ m', m' < m ∧ W (i + 1) m' H') ∧ ∀ x H', (Its (S l)).yld i H x H' → gName s x (wipe σ [s]) H' fun σ2 H2 => wipe σ2 [s] = wipe σ [s] ∧ tYes σ2 H2 fun b H3 =>
        if b = true then te σ2 H3 fun y H4 => ∃ acc, H4 D = some (.lst acc) ∧ acc.length < sizeLine ∧ Nx (upd H4 D (.lst (acc ++ [y]))) else Nx H3) :=
  lc_text (CompSo (fun i v _ => ∃ c, l[i]? = some c ∧ v = f c) H1 D) (comp_start fresh)
    (fun i c H hc so => comp_turn (fun _ _ _ _ h _ => h) hz fresh (List.getElem?_eq_some_iff.mp hc).1 so fun H sm Q' hQ => elt i c hc H sm Q' fun H' sm' => hQ _ H' sm' ⟨c, hc, rfl⟩)
    fun H ⟨sm, ys, hD, hlen, hP⟩ => hd H sm (by rw [← eq_map hlen hP]; exact hD)
end
end Cs

set_option maxRecDepth 100000
set_option maxHeartbeats 4000000
/-! widths of texts -/
namespace Cs
open PySem PySem.Spec PyProof.Rows L2
def alpha : List Nat := (Str.ofString " !\"#$&'()*+,-./0123456789:;<=>?@ABCDEFGHIJKLMNOPQRSTUVWXYZ[\\]^_`" ++ Str.ofString "abcdefghijklmnopqrstuvwxyz{|}~").cps.toList
theorem alpha_len : alpha.length = 94 := by decide +kernel
theorem alpha_small : ∀ c ∈ alpha, c < 128 := by decide +kernel
/-- the width of the sign with the code c -/
def gw (c : Nat) : Int :=
  if c ∈ (Str.ofString "!'.:i|").cps.toList then 1
  else if c ∈ (Str.ofString "(),;[]jl`").cps.toList then 2
  else if c ∈ (Str.ofString " \"*-/1<>I\\^frt{}").cps.toList then 3
  else if c ∈ (Str.ofString "$023456789=?J_abcdeghknopqsuvxyz").cps.toList then 4
  else 5
theorem gw_pos (c : Nat) : 1 ≤ gw c := by unfold gw; split <;> (try decide); split <;> (try decide); split <;> (try decide); split <;> decide
theorem gw_le (c : Nat) : gw c ≤ 5 := by unfold gw; split <;> (try decide); split <;> (try decide); split <;> (try decide); split <;> decide
/-- a text of such signs -/
def Word (l : List Nat) : Prop := ∀ c ∈ l, c ∈ alpha
theorem Word.nil : Word [] := fun _ h => absurd h List.not_mem_nil
theorem Word.app {l m : List Nat} (a : Word l) (b : Word m) : Word (l ++ m) := fun c h => (List.mem_append.mp h).elim (a c) (b c)
theorem Word.one {c : Nat} (h : c ∈ alpha) : Word [c] := fun d hd => by rw [List.mem_singleton.mp hd]; exact h
def tw (l : List Nat) : Int := if l = [] then 0 else (l.map gw).sum + l.length - 1
theorem sum_gw : ∀ l : List Nat, (l.length : Int) ≤ (l.map gw).sum ∧ (l.map gw).sum ≤ 5 * l.length
  | [] => by simp
  | c :: r => by
    have := sum_gw r
    have := gw_pos c
    have := gw_le c
    rw [List.map_cons, List.sum_cons, List.length_cons]
    omega
theorem tw_nn (l : List Nat) : 0 ≤ tw l := by
  unfold tw
  split
  · exact Int.le_refl _
  · have := (sum_gw l).1
    have : 0 < l.length := List.length_pos_iff.mpr (by assumption)
    omega
theorem tw_le (l : List Nat) : tw l ≤ 6 * l.length := by
  unfold tw
  split
  · omega
  · have := (sum_gw l).2
    omega
theorem sum_gw1 : ∀ l : List Nat, (l.map fun c => 1 + gw c).sum = (l.map gw).sum + l.length
  | [] => by simp
  | c :: r => by
    have := sum_gw1 r
    rw [List.map_cons, List.sum_cons, List.map_cons, List.sum_cons, List.length_cons]
    omega
theorem tw_law (l : List Nat) : max ((l.map fun c => 1 + gw c).sum - 1) 0 = tw l := by
  rw [sum_gw1]
  unfold tw
  split
  · rename_i h
    subst h
    show max ((0 : Int) + 0 - 1) 0 = 0
    decide
  · have := (sum_gw l).1
    have : 0 < l.length := List.length_pos_iff.mpr (by assumption)
    omega
theorem tw_app (l m : List Nat) (h1 : l ≠ []) (h2 : m ≠ []) : tw (l ++ m) = tw l + 1 + tw m := by
  unfold tw
  rw [if_neg h1, if_neg h2, if_neg (by simp [h1]), List.map_append, List.sum_append, List.length_append]
  omega
theorem sum_take_map {f : Nat → Int} {l : List Nat} {i : Nat} {c : Nat} (h : l[i]? = some c) : ((l.take (i + 1)).map f).sum = ((l.take i).map f).sum + f c := by
  rw [List.take_add_one, h, List.map_append, List.sum_append]
  simp
/-- the column x is one of a sign's, the first sign at left -/
def ink : List Nat → Int → Int → Bool
  | [], _, _ => false
  | c :: r, left, x => if x < left + gw c then decide (left ≤ x) && !decide (c = 32) else ink r (left + gw c + 1) x
theorem ink_cons (c : Nat) (r : List Nat) (left x : Int) : ink (c :: r) left x = if x < left + gw c then decide (left ≤ x) && !decide (c = 32) else ink r (left + gw c + 1) x := rfl
theorem ink_off : ∀ (l : List Nat) (left x : Int), x < left → ink l left x = false
  | [], _, _, _ => rfl
  | c :: r, left, x, h => by
    have := gw_pos c
    unfold ink
    rw [if_pos (by omega), decide_eq_false (by omega)]
    rfl
/-- .. as the law asks it -/
def ink2 : List Nat → Int → Int → Bool
  | [], _, _ => false
  | c :: r, left, x => if left ≤ x ∧ x < left + gw c then !decide (c = 32) else ink2 r (left + gw c + 1) x
theorem ink2_cons (c : Nat) (r : List Nat) (left x : Int) : ink2 (c :: r) left x = if left ≤ x ∧ x < left + gw c then !decide (c = 32) else ink2 r (left + gw c + 1) x := rfl
theorem ink2_off : ∀ (l : List Nat) (left x : Int), x < left → ink2 l left x = false
  | [], _, _, _ => rfl
  | c :: r, left, x, h => by
    have := gw_pos c
    unfold ink2
    rw [if_neg (by omega)]
    exact ink2_off r _ _ (by omega)
theorem ink_eq : ∀ (l : List Nat) (left x : Int), ink2 l left x = ink l left x
  | [], _, _ => rfl
  | c :: r, left, x => by
    have := gw_pos c
    unfold ink2 ink
    by_cases h : x < left + gw c
    · rw [if_pos h]
      by_cases h2 : left ≤ x
      · rw [if_pos ⟨h2, h⟩, decide_eq_true h2]; rfl
      · rw [if_neg (by omega), decide_eq_false h2, ink2_off r _ _ (by omega)]; rfl
    · rw [if_neg h, if_neg (by omega)]
      exact ink_eq r _ _
def inkT (l : List Nat) (x y : Int) : Bool := (decide (0 ≤ y) && decide (y < 7)) && ink l 0 x
theorem drop_cons {l : List Nat} {i : Nat} {c : Nat} (h : l[i]? = some c) : l.drop i = c :: l.drop (i + 1) := by
  obtain ⟨hi, e⟩ := List.getElem?_eq_some_iff.mp h
  rw [List.drop_eq_getElem_cons hi, e]
/-- the written table of widths -/
structure Glyphs (K : PySem.W.Frag) (w : World) (mg : Str → Option Value) : Prop where
  tab : ∃ (d : Addr) (es : Array DictEntry) (n : Nat), mg "GLYPH_WIDTHS" = some (.ref d) ∧ KDict K w d es n ∧ ∀ c ∈ alpha, (∃ t, findBy Value.isStrOf es (S [c]) = some (.int (gw c) t)) ∨ (findBy Value.isStrOf es (S [c]) = none ∧ gw c = 5)
  other : ∃ t, mg "OTHER_WIDTH" = some (.int 5 t)
  height : ∃ t, mg "TEXT_HEIGHT" = some (.int 7 t)
/-- the check of the table, to be run -/
def tabB (es : Array DictEntry) : Bool := alpha.all fun c => match findBy Value.isStrOf es (S [c]) with
  | some (.int i _) => decide (i = gw c)
  | none => decide (gw c = 5)
  | _ => false
theorem tab_of {es : Array DictEntry} (h : tabB es = true) : ∀ c ∈ alpha, (∃ t, findBy Value.isStrOf es (S [c]) = some (.int (gw c) t)) ∨ (findBy Value.isStrOf es (S [c]) = none ∧ gw c = 5) := fun c hc => by
  have q := List.all_eq_true.mp h c hc
  split at q
  · rename_i i t e
    exact .inl ⟨t, by rw [e, of_decide_eq_true q]⟩
  · rename_i e
    exact .inr ⟨e, of_decide_eq_true q⟩
  · cases q
def sp_glyph_width (K : PySem.W.Frag) : Sp := fun vs H Q _ => ∃ c, vs = [.str (S [c])] ∧ c ∈ alpha ∧ Q (.int (gw c)) H
def sp_text_width (K : PySem.W.Frag) : Sp := fun vs H Q _ => ∃ l, vs = [.str (S l)] ∧ Word l ∧ l.length ≤ 100000 ∧ ∀ H', Same H H' → Q (.int (tw l)) H'
def sp_inked (K : PySem.W.Frag) : Sp := fun vs H Q _ => ∃ l x y, vs = [.str (S l), .int x, .int y] ∧ Word l ∧ Q (.bl (inkT l x y)) H
def sp_law_sign_width (K : PySem.W.Frag) : Sp := fun vs H Q _ => ∃ c, vs = [.str (S [c])] ∧ Q (.int (gw c)) H
def sp_law_width (K : PySem.W.Frag) : Sp := fun vs H Q _ => ∃ l, vs = [.str (S l)] ∧ Q (.int (tw l)) H
def sp_law_inked (K : PySem.W.Frag) : Sp := fun vs H Q _ => ∃ l x y, vs = [.str (S l), .int x, .int y] ∧ Q (.bl (inkT l x y)) H
def sp_law_word (K : PySem.W.Frag) : Sp := fun vs H Q _ => ∃ (t l : Addr), vs = [.ref t] ∧ TapeAt H t l ∧ ∀ m H', TapeAt H' t l → Gr t H H' → Word m → m.length ≤ 5 → Q (.str (S m)) H'
theorem S_lit : S [] = Str.ofString "" := by decide +kernel
theorem S_sp : S [32] = Str.ofString " " := by decide +kernel
theorem S_sp_iff {c : Nat} : (S [c] = Str.ofString " ") ↔ c = 32 := by
  rw [← S_sp]
  constructor
  · intro h
    have := S_inj h
    simpa using this
  · intro h; rw [h]
end Cs

set_option maxRecDepth 100000
set_option maxHeartbeats 4000000
/-! t[a::2] of a tuple -/
namespace Cs
open PySem PySem.Spec PyProof.Rows L2
/-- every other item, from the first on -/
def ev {α : Type} : List α → List α
  | [] => []
  | [a] => [a]
  | a :: _ :: r => a :: ev r
theorem ev_vals : ∀ {xs : List V} {us : List Value}, Vals xs us → Vals (ev xs) (ev us)
  | _, _, .nil => .nil
  | _, _, .cons h .nil => .cons h .nil
  | _, _, .cons h (.cons _ t) => .cons h (ev_vals t)
theorem ev_len {α : Type} : ∀ l : List α, (ev l).length ≤ l.length
  | [] => Nat.le_refl _
  | [_] => Nat.le_refl _
  | _ :: _ :: r => by have := ev_len r; show (ev r).length + 1 ≤ r.length + 1 + 1; omega
theorem ev_pick {α : Type} : ∀ l : List α, ((List.range ((l.length + 1) / 2)).filterMap fun m => l[2 * m]?) = ev l
  | [] => by simp [ev]
  | [a] => by simp [ev]
  | a :: b :: r => by
    have e : ((a :: b :: r).length + 1) / 2 = (r.length + 1) / 2 + 1 := by
      show (r.length + 1 + 1 + 1) / 2 = _
      omega
    rw [e, List.range_succ_eq_map, List.filterMap_cons, List.filterMap_map]
    have e2 : ((fun m => (a :: b :: r)[2 * m]?) ∘ Nat.succ) = fun m => r[2 * m]? := by
      funext m
      show (a :: b :: r)[2 * (m + 1)]? = _
      rw [show 2 * (m + 1) = 2 * m + 1 + 1 from by omega, List.getElem?_cons_succ, List.getElem?_cons_succ]
    rw [e2, ev_pick r]
    rfl
section
variable {prog : Program} {w : World} {A : Around} {E : Value → Shared → Prop} {s : Shared}
theorem slice_two {sl : Addr} {vl : Value} {u : Tok} {lo : Option Int} {n : Nat} {Q : Int × Int × Nat → Shared → Prop} (hs : s.heap.IsSliceOf sl vl .none (.int 2 u)) (pl : IsPart vl lo)
    (h : Q (((HT.sIx n 0 lo : Nat) : Int), 2, (n - HT.sIx n 0 lo + 1) / 2) s) : wpAny (model prog w) A (Builtin.Slice.sliceApplied (.ref sl) (pure (n : Int))) Q E s := by
  obtain ⟨os, hos, hcs, hds⟩ := id hs
  unfold Builtin.Slice.sliceApplied Builtin.Slice.sliceFields
  refine wpAny_bind (wpAny_bind (wpAny_field hos hds (x := vl) rfl (wpAny_bind (wpAny_field hos hds (x := .none) rfl (wpAny_bind (wpAny_field hos hds (x := .int 2 u) rfl (wpAny_pure ?_)))))))
  refine wpAny_bind (HT.slicePart_ (.int 2 u) ?_)
  show wpAny _ _ (if ((2 : Int) == 0) = true then _ else _) _ _ s
  rw [if_neg (by decide)]
  refine wpAny_bind (HT.slicePart_ pl (wpAny_bind (HT.slicePart_ .none (wpAny_bind (wpAny_pure ?_)))))
  have e1 : Builtin.Slice.sliceAdjust lo none 2 (n : Int) = (((HT.sIx n 0 lo : Nat) : Int), (n : Int)) := by
    unfold Builtin.Slice.sliceAdjust
    simp only [show ¬ ((2 : Int) < 0) from by omega, if_false]
    refine Prod.ext ?_ rfl
    cases lo with
    | none => rfl
    | some v => exact HT.clip_eq v n 0
  have hle : HT.sIx n 0 lo ≤ n := HT.sIx_le n 0 (Nat.zero_le _) lo
  have e2 : Builtin.Slice.slicePlaces ((HT.sIx n 0 lo : Nat) : Int) (n : Int) 2 = (n - HT.sIx n 0 lo + 1) / 2 := by
    unfold Builtin.Slice.slicePlaces
    simp only [show (2 : Int) > 0 from by omega, if_true]
    split <;> omega
  show wpAny _ _ (match Builtin.Slice.sliceAdjust lo none 2 (n : Int) with | (lo, hi) => pure (lo, (2 : Int), Builtin.Slice.slicePlaces lo hi 2)) _ _ s
  rw [e1]
  show wpAny _ _ (pure (((HT.sIx n 0 lo : Nat) : Int), (2 : Int), Builtin.Slice.slicePlaces ((HT.sIx n 0 lo : Nat) : Int) (n : Int) 2)) _ _ s
  rw [e2]
  exact wpAny_pure h
theorem pick_two (xs : Array Value) (i : Nat) : ((List.range ((xs.size - i + 1) / 2)).filterMap fun (m : Nat) => xs[((i : Int) + (m : Int) * 2).toNat]?).toArray = (ev (xs.toList.drop i)).toArray := by
  have e : (fun (m : Nat) => xs[((i : Int) + (m : Int) * 2).toNat]?) = fun m => (xs.toList.drop i)[2 * m]? := by
    funext m
    rw [List.getElem?_drop, Array.getElem?_toList]
    congr 1
    omega
  rw [e, ← ev_pick (xs.toList.drop i), List.length_drop, Array.length_toList]
theorem item_two {t sl : Addr} {items : Array Value} {vl : Value} {u : Tok} {lo : Option Int} {Q : Value → Shared → Prop} (ht : IsTup s.heap t items) (hs : s.heap.IsSliceOf sl vl .none (.int 2 u)) (pl : IsPart vl lo)
    (h : Q (.ref s.heap.objs.size) { s with heap := s.heap.push { cls := .type "tuple", data := .seq (ev (items.toList.drop (HT.sIx items.size 0 lo))).toArray } })
    (hsz : items.size ≤ sizeLine) : wpAny (model prog w) A (getItem (.ref t) (.ref sl)) Q E s := by
  have ok : sizeOk (.seq (ev (items.toList.drop (HT.sIx items.size 0 lo))).toArray) := by
    show (ev (items.toList.drop (HT.sIx items.size 0 lo))).toArray.size ≤ sizeLine
    have := ev_len (items.toList.drop (HT.sIx items.size 0 lo))
    rw [List.length_drop] at this
    have e : items.toList.length = items.size := Array.length_toList
    rw [List.size_toArray]
    omega
  obtain ⟨os, hos, hcs, hds⟩ := id hs
  have hTs : s.TypeIs (.ref sl) "slice" := ⟨os, hos, hcs⟩
  unfold getItem
  try with_reducible refine wpAny_holding ?_
  first | refine wpAny_bind (wpAny_pure ?_) | skip
  refine wpAny_bind (wpAny_sequenceKey ht.typeIs (by decide) ?_)
  refine wpAny_bind (wpAny_callSpecial?_slot (name := Str.ofString "__getitem__") ht.typeIs PyProof.Rows.slot_tuple_getitem (wpAny_call_entry PyProof.Rows.slot_tuple_getitem ht.typeIs entry_tuple_getitem ?_ (args_tuple_getitem _ _)))
  show wpAny _ _ (Builtin.Tuple.tupleItemsOf (.ref t) >>= _) _ _ s
  refine wpAny_bind (tupleItemsOf_ ht (wpAny_bind (wpAny_typeOf hTs ?_)))
  rw [if_pos (by decide)]
  refine wpAny_bind (slice_two hs pl ?_)
  have hno : ¬ ((((HT.sIx items.size 0 lo : Nat) : Int) == 0 && (2 : Int) == 1 && ((items.size - HT.sIx items.size 0 lo + 1) / 2) == items.size) = true) := by
    intro q
    rw [Bool.and_eq_true, Bool.and_eq_true] at q
    exact absurd q.1.2 (by decide)
  show wpAny _ _ (if (((HT.sIx items.size 0 lo : Nat) : Int) == 0 && (2 : Int) == 1 && ((items.size - HT.sIx items.size 0 lo + 1) / 2) == items.size) = true then _ else _) _ _ s
  rw [if_neg hno, pick_two]
  first
    | exact wpAny_bind (m := Builtin.Tuple.tupleExact _) (wpAny_newObj_type (wpAny_pure ⟨_, rfl, wpAny_pure h⟩) ok)
    | exact wpAny_bind (m := Builtin.Tuple.tupleExact _) (wpAny_newObj_type (wpAny_bind (wpAny_pure (wpAny_pure ⟨_, rfl, wpAny_pure h⟩))) ok)
    | exact wpAny_bind (wpAny_bind (m := Builtin.Tuple.tupleExact _) (wpAny_newObj_type (wpAny_pure (wpAny_pure ⟨_, rfl, wpAny_pure h⟩)) ok))
    | exact wpAny_bind (wpAny_bind (m := Builtin.Tuple.tupleExact _) (wpAny_newObj_type (wpAny_pure ⟨_, rfl, wpAny_pure h⟩) ok))
end
section
variable {X : Cx} {e : Expr} {te : TE} {lo : Option Expr} {tl : TO} {pos p2 p3 : Pos} {j : Nat}
def tSl2 (K : PySem.W.Frag) (te : TE) (tl : TO) : TE := fun σ H Q => te σ H fun x H1 => tl σ H1 fun l H2 => ∃ a xs, x = .ref a ∧ SqT K H2 a xs ∧ ∀ p, H2 p = none → Q (.ref p) (upd H2 p (.tup (ev (xs.drop (HT.sIx xs.length 0 l)))))
theorem pe_sl2 (K : PySem.W.Frag) (he : PE X e te) (hl : PO X lo tl) (hK : X.K = K := by rfl) : PE X (.Subscript e (.Slice lo none (some (.Constant (.int 2) j p3)) p2) pos) (tSl2 K te tl) := by
  subst hK
  refine ⟨fun pins s σ H Q I h => ?_⟩
  refine Subscript_ (thn (he.run pins s σ H _ I h) fun v s1 ⟨x, H1, I1, r1, q1⟩ => ?_)
  refine wpAny_Slice (thn (hl.run pins s1 σ H1 _ I1 q1) fun vl s2 ⟨l, H2, I2, pl, q2⟩ => ?_)
  rw [evalPart_none]
  refine wpAny_pure (thn ((pe_int (X := X) (i := 2) (j := j) (pos := p3)).run pins s2 σ H2 (fun v H' => v = .int 2 ∧ H' = H2) I2 ⟨rfl, rfl⟩) fun vs s3 ⟨y, H3, I3, ry, e1, e2⟩ => ?_)
  subst e1
  subst e2
  obtain ⟨u, rfl⟩ := (show ∃ t, vs = Value.int 2 t from ry)
  obtain ⟨a, xs, ex, hx, q⟩ := q2
  subst ex
  obtain rfl : v = Value.ref a := r1
  have I4 : Inv X pins σ H3 { s3 with heap := s3.heap.push { cls := .type "slice", data := .fields #[vl, .none, .int 2 u] } } := I3.kept (t' := s3.toks) fun b ob q => Heap.get?_push_of_some _ q
  obtain ⟨its, r, ht, hz⟩ := I4.tuple hx
  have hlen : its.toArray.size = xs.length := by rw [List.size_toArray]; exact r.length.symm
  show wpAny (model X.prog X.w) X.A (subscriptTail e (.Slice lo none (some (.Constant (.int 2) j p3)) p2) (.ref a) (.ref s3.heap.objs.size)) (EP X pins σ Q) X.xe { s3 with heap := s3.heap.push { cls := .type "slice", data := .fields #[vl, .none, .int 2 u] } }
  refine tail_any (ops := [.ref a, .ref s3.heap.objs.size]) ht.typeIs PyProof.Rows.slot_tuple_getitem.lookup ?_ (by with_unfolding_all rfl)
  refine item_two ht (Heap.IsSliceOf.new ..) pl ?_ (by rw [hlen]; exact hz)
  rw [hlen]
  refine ⟨.ref _, _, I4.laid (t' := s3.toks) (o := .tup (ev (xs.drop (HT.sIx xs.length 0 l)))) (fun b ob q => Heap.get?_push_of_some _ q) (Nat.le_refl _) ?_, rfl, q _ (I4.hok.fresh (Nat.le_refl _))⟩
  exact ⟨Nat.le_trans (ev_len _) (by rw [List.length_drop]; omega), _, ev_vals (r.drop (HT.sIx xs.length 0 l)), IsTup.new _ _⟩
end
end Cs

set_option maxRecDepth 100000
set_option maxHeartbeats 4000000
/-! shapes -/
namespace Cs
open PySem PySem.Spec PyProof.Rows L2
/-- v is a tuple of vs -/
def Tup (K : PySem.W.Frag) (H : Hp) (v : V) (vs : List V) : Prop := ∃ a, v = .ref a ∧ SqT K H a vs
theorem Tup.im {K : PySem.W.Frag} {H H' : Hp} {v : V} {vs : List V} (h : Tup K H v vs) (e : Im H H') : Tup K H' v vs := let ⟨a, h1, h2⟩ := h; ⟨a, h1, e.sqT h2⟩
theorem Tup.same {K : PySem.W.Frag} {H H' : Hp} {v : V} {vs : List V} (h : Tup K H v vs) (e : Same H H') : Tup K H' v vs := h.im (Im.same e)
inductive Sh where
  | rect (x y w h : Int)
  | line (x y u v : Int)
  | poly (p : Int × Int) (ps : List (Int × Int))
  | circ (x y r : Int)
  | tS (x y : Int) (l : List Nat)
  | tM (x y : Int) (l : List Nat)
  | tE (x y : Int) (l : List Nat)
def flat : List (Int × Int) → List Int
  | [] => []
  | p :: r => p.1 :: p.2 :: flat r
def Sh.name : Sh → Str
  | .rect .. => Str.ofString "rectangle"
  | .line .. => Str.ofString "line"
  | .poly .. => Str.ofString "polyline"
  | .circ .. => Str.ofString "circle"
  | .tS .. => Str.ofString "text start"
  | .tM .. => Str.ofString "text middle"
  | .tE .. => Str.ofString "text end"
def Sh.pts : Sh → List Int
  | .rect x y w h => [x, y, w, h]
  | .line x y u v => [x, y, u, v]
  | .poly p ps => flat (p :: ps)
  | .circ x y r => [x, y, r]
  | .tS x y _ => [x, y]
  | .tM x y _ => [x, y]
  | .tE x y _ => [x, y]
def Sh.txt : Sh → List Nat
  | .tS _ _ l => l
  | .tM _ _ l => l
  | .tE _ _ l => l
  | _ => []
/-- its corners (of a line, a polyline) -/
def Sh.cor : Sh → List (Int × Int)
  | .line x y u v => [(x, y), (u, v)]
  | .poly p ps => p :: ps
  | _ => []
/-- r is the least rectangle that holds the pixels ps -/
structure IsBB (ps : List (Int × Int)) (r : R) : Prop where
  l1 : r.l ∈ ps.map (·.1)
  l2 : ∀ p ∈ ps, r.l ≤ p.1
  t1 : r.t ∈ ps.map (·.2)
  t2 : ∀ p ∈ ps, r.t ≤ p.2
  r1 : r.l + r.w - 1 ∈ ps.map (·.1)
  r2 : ∀ p ∈ ps, p.1 ≤ r.l + r.w - 1
  b1 : r.t + r.h - 1 ∈ ps.map (·.2)
  b2 : ∀ p ∈ ps, p.2 ≤ r.t + r.h - 1
theorem IsBB.one {ps : List (Int × Int)} {a b : R} (h : IsBB ps a) (k : IsBB ps b) : a = b := by
  have el : a.l = b.l := by
    obtain ⟨p, p1, p2⟩ := List.mem_map.mp h.l1
    obtain ⟨q, q1, q2⟩ := List.mem_map.mp k.l1
    have := h.l2 q q1; have := k.l2 p p1; omega
  have et : a.t = b.t := by
    obtain ⟨p, p1, p2⟩ := List.mem_map.mp h.t1
    obtain ⟨q, q1, q2⟩ := List.mem_map.mp k.t1
    have := h.t2 q q1; have := k.t2 p p1; omega
  have er : a.l + a.w - 1 = b.l + b.w - 1 := by
    obtain ⟨p, p1, p2⟩ := List.mem_map.mp h.r1
    obtain ⟨q, q1, q2⟩ := List.mem_map.mp k.r1
    have := h.r2 q q1; have := k.r2 p p1; omega
  have eb : a.t + a.h - 1 = b.t + b.h - 1 := by
    obtain ⟨p, p1, p2⟩ := List.mem_map.mp h.b1
    obtain ⟨q, q1, q2⟩ := List.mem_map.mp k.b1
    have := h.b2 q q1; have := k.b2 p p1; omega
  obtain ⟨l, t, w, h'⟩ := a
  obtain ⟨l2, t2, w2, h2⟩ := b
  simp only at el et er eb
  subst el et
  have : w = w2 := by omega
  have : h' = h2 := by omega
  simp [*]
/-- r is the rectangle around s -/
def IsBox : Sh → R → Prop
  | .rect x y w h, r => r = ⟨x, y, w, h⟩
  | .line x y u v, r => IsBB [(x, y), (u, v)] r
  | .poly p ps, r => IsBB (p :: ps) r
  | .circ x y q, r => r = ⟨x - q, y - q, 2 * q + 1, 2 * q + 1⟩
  | .tS x y l, r => r = ⟨x, y, tw l, 7⟩
  | .tM x y l, r => r = ⟨x - tw l / 2, y, tw l, 7⟩
  | .tE x y l, r => r = ⟨x - tw l, y, tw l, 7⟩
theorem IsBox.one {s : Sh} {a b : R} (h : IsBox s a) (k : IsBox s b) : a = b := by
  cases s with
  | line x y u v => exact IsBB.one h k
  | poly p ps => exact IsBB.one h k
  | rect x y w h' => exact Eq.trans h (Eq.symm k)
  | circ x y q => exact Eq.trans h (Eq.symm k)
  | tS x y l => exact Eq.trans h (Eq.symm k)
  | tM x y l => exact Eq.trans h (Eq.symm k)
  | tE x y l => exact Eq.trans h (Eq.symm k)
theorem flat_ev : ∀ ps : List (Int × Int), ev (flat ps) = ps.map (·.1)
  | [] => rfl
  | p :: r => by show p.1 :: ev (flat r) = _; rw [flat_ev r]; rfl
theorem flat_od : ∀ ps : List (Int × Int), ev ((flat ps).drop 1) = ps.map (·.2)
  | [] => rfl
  | [p] => rfl
  | p :: q :: r => by
    have := flat_od (q :: r)
    show p.2 :: ev (q.2 :: flat r) = _
    have e : ev (q.2 :: flat r) = ev ((flat (q :: r)).drop 1) := rfl
    rw [e, this]
    rfl
theorem flat_len : ∀ ps : List (Int × Int), (flat ps).length = 2 * ps.length
  | [] => rfl
  | p :: r => by show (flat r).length + 1 + 1 = _; rw [flat_len r, List.length_cons]; omega
theorem flat_app : ∀ a b : List (Int × Int), flat (a ++ b) = flat a ++ flat b
  | [], b => rfl
  | p :: r, b => by show p.1 :: p.2 :: flat (r ++ b) = _; rw [flat_app r b]; rfl
theorem flat_at : ∀ (ps : List (Int × Int)) (i : Nat) (p : Int × Int), ps[i]? = some p → (flat ps)[2 * i]? = some p.1 ∧ (flat ps)[2 * i + 1]? = some p.2
  | [], i, p, h => by simp at h
  | q :: r, 0, p, h => by
    have e : q = p := Option.some.inj h
    subst e
    exact ⟨rfl, rfl⟩
  | q :: r, i + 1, p, h => by
    have := flat_at r i p h
    show (q.1 :: q.2 :: flat r)[2 * (i + 1)]? = _ ∧ (q.1 :: q.2 :: flat r)[2 * (i + 1) + 1]? = _
    rw [show 2 * (i + 1) = 2 * i + 1 + 1 from by omega, List.getElem?_cons_succ, List.getElem?_cons_succ, List.getElem?_cons_succ, List.getElem?_cons_succ]
    exact this
theorem ev_map {α β : Type} (f : α → β) : ∀ l : List α, ev (l.map f) = (ev l).map f
  | [] => rfl
  | [_] => rfl
  | a :: b :: r => by show f a :: ev (r.map f) = _; rw [ev_map f r]; rfl
theorem Sh.pts_cor {s : Sh} (h : s.cor ≠ []) : s.pts = flat s.cor := by
  cases s <;> first | rfl | exact absurd rfl h
theorem bb_of {ps : List (Int × Int)} {L T Rt B : Int} (h1 : L ∈ ps.map (·.1)) (h1' : ∀ z, z ∈ ps.map (·.1) → L ≤ z) (h2 : T ∈ ps.map (·.2)) (h2' : ∀ z, z ∈ ps.map (·.2) → T ≤ z)
    (h3 : Rt ∈ ps.map (·.1)) (h3' : ∀ z, z ∈ ps.map (·.1) → z ≤ Rt) (h4 : B ∈ ps.map (·.2)) (h4' : ∀ z, z ∈ ps.map (·.2) → z ≤ B) : IsBB ps ⟨L, T, Rt - L + 1, B - T + 1⟩ := by
  have e1 : L + (Rt - L + 1) - 1 = Rt := by omega
  have e2 : T + (B - T + 1) - 1 = B := by omega
  refine ⟨h1, fun p hp => h1' _ (List.mem_map.mpr ⟨p, hp, rfl⟩), h2, fun p hp => h2' _ (List.mem_map.mpr ⟨p, hp, rfl⟩), ?_, fun p hp => ?_, ?_, fun p hp => ?_⟩
  · show L + (Rt - L + 1) - 1 ∈ _
    rw [e1]; exact h3
  · show _ ≤ L + (Rt - L + 1) - 1
    rw [e1]; exact h3' _ (List.mem_map.mpr ⟨p, hp, rfl⟩)
  · show T + (B - T + 1) - 1 ∈ _
    rw [e2]; exact h4
  · show _ ≤ T + (B - T + 1) - 1
    rw [e2]; exact h4' _ (List.mem_map.mpr ⟨p, hp, rfl⟩)
def iv (l : List Int) : List V := l.map V.int
structure ShOk (s : Sh) : Prop where
  word : Word s.txt
  tlen : s.txt.length ≤ 1000
  plen : s.pts.length ≤ 1000
def sp_around_points (K : PySem.W.Frag) : Sp := fun vs H Q _ => ∃ (v : V) (ps : List (Int × Int)), vs = [v] ∧ Tup K H v (iv (flat ps)) ∧ ps ≠ [] ∧ ps.length ≤ 1000 ∧ ∀ x r H', Same H H' → IsBB ps r → Rc K H' x r → Q x H'
def sp_around_text (K : PySem.W.Frag) : Sp := fun vs H Q _ => ∃ (s : Sh) (v : V), vs = [.str s.name, v, .str (S s.txt)] ∧ Tup K H v (iv s.pts) ∧ ShOk s ∧ (∃ x y l, s = .tS x y l ∨ s = .tM x y l ∨ s = .tE x y l) ∧ ∀ x r H', Same H H' → IsBox s r → Rc K H' x r → Q x H'
def sp_around (K : PySem.W.Frag) : Sp := fun vs H Q _ => ∃ (s : Sh) (v : V), vs = [.str s.name, v, .str (S s.txt)] ∧ Tup K H v (iv s.pts) ∧ ShOk s ∧ ∀ x r H', Same H H' → IsBox s r → Rc K H' x r → Q x H'
def sp_law_around (K : PySem.W.Frag) : Sp := sp_around K
end Cs

set_option maxRecDepth 100000
set_option maxHeartbeats 4000000
/-! min and max of a tuple of ints -/
namespace Cs
open PySem PySem.Spec PyProof.Rows L2
section
variable {prog : Program} {w : World} {A : Around} {E : Value → Shared → Prop} {s : Shared} {l : Addr} {xs : Array (Int × Tok)} {Q : Value → Shared → Prop}
theorem walk_tup (hl : s.heap.IsTuple l (intItems xs))
    (h : ∀ s₂ : Shared, s₂ = { s with heap := s.heap.push { cls := .type "tuple_iterator", data := .fields #[.ref l, .int 0 0] } } →
      (s₂.heap.IsTupleIter s.heap.objs.size l 0 ∧ s₂.heap.IsTuple l (intItems xs)) → (∀ b ∈ [s.heap.objs.size, l], b < s₂.heap.objs.size) → l ≠ s.heap.objs.size → Q (.ref s.heap.objs.size) s₂) :
    wpAny (model prog w) A (pyIter (.ref l)) Q E s := by
  have hlt : l < s.heap.objs.size := by
    obtain ⟨_, e, _⟩ := hl
    exact Heap.lt_size e
  refine wpAny_pyIter_tuple hl (h _ rfl ⟨⟨_, Heap.get?_push_size _ rfl, rfl, rfl⟩, hl.push _⟩ (fun b hb => ?_) (Nat.ne_of_lt hlt))
  show b < (s.heap.push _).objs.size
  rw [Heap.size_push]
  rcases List.mem_cons.mp hb with rfl | hb
  · exact Nat.lt_succ_self _
  · rw [List.mem_singleton.mp hb]
    exact Nat.lt_succ_of_lt hlt
theorem tup_old {h' : Heap} (hk : ∀ b o, b ∉ [s.heap.objs.size] → (s.heap.push { cls := .type "tuple_iterator", data := .fields #[.ref l, .int 0 0] }).get? b = some o → h'.get? b = some o) :
    ∀ b o, s.heap.get? b = some o → h'.get? b = some o := fun b o e => by
  refine hk b o (fun hm => ?_) (Heap.get?_push_of_some _ e)
  have := Heap.lt_size e
  rw [List.mem_singleton.mp hm] at this
  exact absurd this (Nat.lt_irrefl _)
theorem max_tup (hh : A.handled = none) (hl : s.heap.IsTuple l (intItems xs)) (hne : 0 < xs.size)
    (h : ∀ v h' tk, (intItems xs)[argBest (fun i j => decide (numAt xs i > numAt xs j)) (xs.size - 1)]? = some v → (∀ b o, s.heap.get? b = some o → h'.get? b = some o) → Q v { s with heap := h', toks := tk }) :
    wpAny (model prog w) A (call (.builtin "max") [.ref l]) Q E s := by
  refine call_max_walk (walk_tup hl fun s₂ e st hfp hlI => ?_)
  subst e
  refine ⟨_, _, _, _, _, _, _, rfl, Walks.tuple (A := A.in1) hh _ l hlI (intItems xs), st, hfp, by simpa [intItems] using hne, CmpOf.ints_gt (numAt xs) (fun _ _ => intItems_at), fun v h' tk hP hk => ?_⟩
  exact h v h' tk (by simpa [intItems] using hP) (tup_old hk)
theorem min_tup (hh : A.handled = none) (hl : s.heap.IsTuple l (intItems xs)) (hne : 0 < xs.size)
    (h : ∀ v h' tk, (intItems xs)[argBest (fun i j => decide (numAt xs i < numAt xs j)) (xs.size - 1)]? = some v → (∀ b o, s.heap.get? b = some o → h'.get? b = some o) → Q v { s with heap := h', toks := tk }) :
    wpAny (model prog w) A (call (.builtin "min") [.ref l]) Q E s := by
  refine call_min_walk (walk_tup hl fun s₂ e st hfp hlI => ?_)
  subst e
  refine ⟨_, _, _, _, _, _, _, rfl, Walks.tuple (A := A.in1) hh _ l hlI (intItems xs), st, hfp, by simpa [intItems] using hne, CmpOf.ints_lt (numAt xs) (fun _ _ => intItems_at), fun v h' tk hP hk => ?_⟩
  exact h v h' tk (by simpa [intItems] using hP) (tup_old hk)
end
section
variable {X : Cx}
def rMaxT (K : PySem.W.Frag) : List V → Hp → VK → Prop := fun vs H Q => ∃ (a : Addr) (ns : List Int), vs = [V.ref a] ∧ SqT K H a (ns.map V.int) ∧ 0 < ns.length ∧ ∀ m, m ∈ ns → (∀ y, y ∈ ns → y ≤ m) → Q (.int m) H
def rMinT (K : PySem.W.Frag) : List V → Hp → VK → Prop := fun vs H Q => ∃ (a : Addr) (ns : List Int), vs = [V.ref a] ∧ SqT K H a (ns.map V.int) ∧ 0 < ns.length ∧ ∀ m, m ∈ ns → (∀ y, y ∈ ns → m ≤ y) → Q (.int m) H
theorem cr_maxT (hc : X.calm = true) : CallR X (.builtin "max") (rMaxT X.K) := by
  intro pins s σ H vs us Q I r h
  obtain ⟨a, ns, rfl, hs, hne, q⟩ := h
  obtain ⟨its, rv, hl, _⟩ := I.tuple hs
  rw [Vals.ref1 r]
  have hi := rv.ints
  obtain ⟨xs, e⟩ := hi.allInts.items
  have hn : numsOf (intItems xs).toList = ns := by rw [← e]; exact hi.numsOf
  rw [nums_intItems] at hn
  subst hn
  rw [e] at hl
  have hsz : 0 < xs.size := by simpa using hne
  refine max_tup (I.ok.hd hc) hl hsz fun v h' tk hv hk => ?_
  obtain ⟨t, rfl⟩ := intItems_at hv
  obtain ⟨h1, h2⟩ := argBest_gt (numAt xs) (xs.size - 1)
  refine ⟨.int _, H, I.kept hk, ⟨_, rfl⟩, q _ ?_ fun a ha => ?_⟩
  · rw [numAt_eq]; exact PySem.getD_mem (by rw [List.length_map, Array.length_toList]; omega)
  · obtain ⟨j, hj, rfl⟩ := mem_getD ha
    rw [List.length_map, Array.length_toList] at hj
    rw [← numAt_eq]; exact h2 j (by omega)
theorem cr_minT (hc : X.calm = true) : CallR X (.builtin "min") (rMinT X.K) := by
  intro pins s σ H vs us Q I r h
  obtain ⟨a, ns, rfl, hs, hne, q⟩ := h
  obtain ⟨its, rv, hl, _⟩ := I.tuple hs
  rw [Vals.ref1 r]
  have hi := rv.ints
  obtain ⟨xs, e⟩ := hi.allInts.items
  have hn : numsOf (intItems xs).toList = ns := by rw [← e]; exact hi.numsOf
  rw [nums_intItems] at hn
  subst hn
  rw [e] at hl
  have hsz : 0 < xs.size := by simpa using hne
  refine min_tup (I.ok.hd hc) hl hsz fun v h' tk hv hk => ?_
  obtain ⟨t, rfl⟩ := intItems_at hv
  obtain ⟨h1, h2⟩ := argBest_lt (numAt xs) (xs.size - 1)
  refine ⟨.int _, H, I.kept hk, ⟨_, rfl⟩, q _ ?_ fun a ha => ?_⟩
  · rw [numAt_eq]; exact PySem.getD_mem (by rw [List.length_map, Array.length_toList]; omega)
  · obtain ⟨j, hj, rfl⟩ := mem_getD ha
    rw [List.length_map, Array.length_toList] at hj
    rw [← numAt_eq]; exact h2 j (by omega)
theorem minT (K : PySem.W.Frag) (hc : X.calm = true) (h : X.K = K := by rfl) : CallR X (.builtin "min") (rMinT K) := h ▸ cr_minT hc
theorem maxT (K : PySem.W.Frag) (hc : X.calm = true) (h : X.K = K := by rfl) : CallR X (.builtin "max") (rMaxT K) := h ▸ cr_maxT hc
end
end Cs

set_option maxRecDepth 100000
set_option maxHeartbeats 4000000
/-! comprehensions over a stepped range; shapes moved -/
namespace Cs
open PySem PySem.Spec PyProof.Rows L2
section
variable {g : TG} {te : TE} {s : Nat} {σ : L2.St} {H1 : Hp} {D : Addr} {Qd : Hp → Prop} {lo c : Int} {n : Nat}
theorem lc_step (Pv : Nat → Hp → Prop) (h0 : Pv 0 (upd H1 D (.lst [])))
    (hs : ∀ i H, i < n → Pv i H → gName s (.int (lo + (i : Nat) * c)) (wipe σ [s]) H fun σ2 H2 => wipe σ2 [s] = wipe σ [s] ∧ tYes σ2 H2 fun b H3 =>
      if b = true then te σ2 H3 fun y H4 => ∃ acc, H4 D = some (.lst acc) ∧ acc.length < sizeLine ∧ Pv (i + 1) (upd H4 D (.lst (acc ++ [y]))) else Pv (i + 1) H3) (hd : ∀ H, Pv n H → Qd H) :
    ∃ W : Nat → Nat → Hp → Prop, (∃ m, W 0 m (upd H1 D (.lst []))) ∧ ∀ i m H, W i m H →
      ((Itc lo c n).stop i H ∧ Qd H) ∨ ((Itc lo c n).go i H ∧ ∃ Nx : Hp → Prop, (∀ H', Nx H' → ∃ m', m' < m ∧ W (i + 1) m' H') ∧ ∀ x H', (Itc lo c n).yld i H x H' → gName s x (wipe σ [s]) H' fun σ2 H2 => wipe σ2 [s] = wipe σ [s] ∧ tYes σ2 H2 fun b H3 =>
        if b = true then te σ2 H3 fun y H4 => ∃ acc, H4 D = some (.lst acc) ∧ acc.length < sizeLine ∧ Nx (upd H4 D (.lst (acc ++ [y]))) else Nx H3) := by
  refine ⟨fun i m H => m = n - i ∧ i ≤ n ∧ Pv i H, ⟨n, by simp, Nat.zero_le _, h0⟩, ?_⟩
  rintro i m H ⟨rfl, hi, p⟩
  by_cases hlt : i < n
  · refine .inr ⟨hlt, Pv (i + 1), fun H' p' => ⟨n - (i + 1), by omega, rfl, hlt, p'⟩, fun x H' y => ?_⟩
    obtain ⟨e, ex⟩ := y
    subst e
    subst ex
    exact hs i _ hlt p
  · have e : i = n := by omega
    subst e
    exact .inl ⟨Nat.le_refl _, hd H p⟩
/-- [… for k in range(lo, …, c)], whose items are xs, one after another -/
theorem map_step (xs : List V) (hn : xs.length = n) (hz : n ≤ sizeLine) (fresh : H1 D = none)
    (elt : ∀ (i : Nat) v, xs[i]? = some v → ∀ H, Same H1 H → ∀ Q' : VK, (∀ H', Same H H' → Q' v H') → te ((σ.set s none).set s (some (.int (lo + (i : Nat) * c)))) H Q')
    (hd : ∀ H, Same H1 H → H D = some (.lst xs) → Qd H) :
    ∃ W : Nat → Nat → Hp → Prop, (∃ m, W 0 m (upd H1 D (.lst []))) ∧ ∀ i m H, W i m H →
      ((Itc lo c n).stop i H ∧ Qd H) ∨ ((Itc lo c n).go i H ∧ ∃ Nx : Hp → Prop, (∀ H', Nx H' → ∃ m', m' < m ∧ W (i + 1) m' H') ∧ ∀ x H', (Itc lo c n).yld i H x H' → gName s x (wipe σ [s]) H' fun σ2 H2 => wipe σ2 [s] = wipe σ [s] ∧ tYes σ2 H2 fun b H3 =>
        if b = true then te σ2 H3 fun y H4 => ∃ acc, H4 D = some (.lst acc) ∧ acc.length < sizeLine ∧ Nx (upd H4 D (.lst (acc ++ [y]))) else Nx H3) :=
  lc_step (CompSo (fun i v _ => xs[i]? = some v) H1 D) (comp_start fresh)
    (fun i H hi so => comp_turn (fun _ _ _ _ h _ => h) hz fresh hi so fun H sm Q' hQ => by
      have hx : xs[i]? = some xs[i] := List.getElem?_eq_getElem (by omega)
      exact elt i _ hx H sm Q' fun H' sm' => hQ _ H' sm' hx)
    fun H ⟨sm, ys, hD, hlen, hP⟩ => hd H sm (by
      have e : ys = xs := by
        refine List.ext_getElem? fun i => ?_
        cases q : ys[i]? with
        | none =>
          have := List.getElem?_eq_none_iff.mp q
          exact (List.getElem?_eq_none (by omega)).symm
        | some v => exact (hP i v q).symm
      rw [← e]
      exact hD)
end
theorem rg0 {m : Nat} (h : m ≤ 1000000) : RgC 0 ((2 * m : Nat) : Int) 2 m := by
  have hs : Builtin.Range.rangeSize 0 ((2 * m : Nat) : Int) 2 = m := by
    unfold Builtin.Range.rangeSize
    rw [if_pos (by decide)]
    split <;> omega
  refine ⟨by decide, by decide, ?_, hs⟩
  unfold Builtin.Range.small
  rw [hs]
  have j1 : (0 : Int) ≤ ((2 * m : Nat) : Int) := by omega
  have j2 : ((2 * m : Nat) : Int) ≤ 2000000 := by omega
  have m1 : (0 : Int) ≤ (m : Int) := by omega
  have m2 : (m : Int) ≤ 1000000 := by omega
  clear hs
  generalize ((2 * m : Nat) : Int) = j at *
  generalize (m : Int) = k at *
  simp only [Builtin.Range.rangeFitsLong, Bool.and_eq_true, Bool.or_eq_true, decide_eq_true_eq, beq_iff_eq, show (2 : Int) > 0 by decide, if_true]
  omega
theorem rg1 {m : Nat} (h : m ≤ 1000000) : RgC 1 ((2 * m : Nat) : Int) 2 m := by
  have hs : Builtin.Range.rangeSize 1 ((2 * m : Nat) : Int) 2 = m := by
    unfold Builtin.Range.rangeSize
    rw [if_pos (by decide)]
    split <;> omega
  refine ⟨by decide, by decide, ?_, hs⟩
  unfold Builtin.Range.small
  rw [hs]
  have j1 : (0 : Int) ≤ ((2 * m : Nat) : Int) := by omega
  have j2 : ((2 * m : Nat) : Int) ≤ 2000000 := by omega
  have m1 : (0 : Int) ≤ (m : Int) := by omega
  have m2 : (m : Int) ≤ 1000000 := by omega
  clear hs
  generalize ((2 * m : Nat) : Int) = j at *
  generalize (m : Int) = k at *
  simp only [Builtin.Range.rangeFitsLong, Bool.and_eq_true, Bool.or_eq_true, decide_eq_true_eq, beq_iff_eq, show (2 : Int) > 0 by decide, if_true]
  omega
/-- a shape moved -/
def Sh.mv (dx dy : Int) : Sh → Sh
  | .rect x y w h => .rect (x + dx) (y + dy) w h
  | .line x y u v => .line (x + dx) (y + dy) (u + dx) (v + dy)
  | .poly p ps => .poly (p.1 + dx, p.2 + dy) (ps.map fun q => (q.1 + dx, q.2 + dy))
  | .circ x y r => .circ (x + dx) (y + dy) r
  | .tS x y l => .tS (x + dx) (y + dy) l
  | .tM x y l => .tM (x + dx) (y + dy) l
  | .tE x y l => .tE (x + dx) (y + dy) l
theorem Sh.mv_name {s : Sh} {dx dy : Int} : (s.mv dx dy).name = s.name := by cases s <;> rfl
theorem Sh.mv_txt {s : Sh} {dx dy : Int} : (s.mv dx dy).txt = s.txt := by cases s <;> rfl
theorem Sh.mv_cor {s : Sh} {dx dy : Int} : (s.mv dx dy).cor = s.cor.map fun q => (q.1 + dx, q.2 + dy) := by cases s <;> rfl
theorem Sh.mv_len {s : Sh} {dx dy : Int} : (s.mv dx dy).pts.length = s.pts.length := by
  cases s <;> first | rfl | skip
  rename_i p ps
  show (flat (_ :: _)).length = (flat (p :: ps)).length
  rw [flat_len, flat_len, List.length_cons, List.length_cons, List.length_map]
theorem ShOk.mv {s : Sh} {dx dy : Int} (h : ShOk s) : ShOk (s.mv dx dy) := ⟨by rw [Sh.mv_txt]; exact h.word, by rw [Sh.mv_txt]; exact h.tlen, by rw [Sh.mv_len]; exact h.plen⟩
theorem IsBB.mv {ps : List (Int × Int)} {r : R} {dx dy : Int} (h : IsBB ps r) : IsBB (ps.map fun q => (q.1 + dx, q.2 + dy)) ⟨r.l + dx, r.t + dy, r.w, r.h⟩ := by
  obtain ⟨h1, h2, h3, h4, h5, h6, h7, h8⟩ := h
  refine ⟨?_, ?_, ?_, ?_, ?_, ?_, ?_, ?_⟩
  · obtain ⟨p, a, b⟩ := List.mem_map.mp h1
    exact List.mem_map.mpr ⟨_, List.mem_map.mpr ⟨p, a, rfl⟩, by show p.1 + dx = r.l + dx; omega⟩
  · intro q hq
    obtain ⟨p, a, rfl⟩ := List.mem_map.mp hq
    have := h2 p a
    show r.l + dx ≤ p.1 + dx
    omega
  · obtain ⟨p, a, b⟩ := List.mem_map.mp h3
    exact List.mem_map.mpr ⟨_, List.mem_map.mpr ⟨p, a, rfl⟩, by show p.2 + dy = r.t + dy; omega⟩
  · intro q hq
    obtain ⟨p, a, rfl⟩ := List.mem_map.mp hq
    have := h4 p a
    show r.t + dy ≤ p.2 + dy
    omega
  · obtain ⟨p, a, b⟩ := List.mem_map.mp h5
    exact List.mem_map.mpr ⟨_, List.mem_map.mpr ⟨p, a, rfl⟩, by show p.1 + dx = r.l + dx + r.w - 1; omega⟩
  · intro q hq
    obtain ⟨p, a, rfl⟩ := List.mem_map.mp hq
    have := h6 p a
    show p.1 + dx ≤ r.l + dx + r.w - 1
    omega
  · obtain ⟨p, a, b⟩ := List.mem_map.mp h7
    exact List.mem_map.mpr ⟨_, List.mem_map.mpr ⟨p, a, rfl⟩, by show p.2 + dy = r.t + dy + r.h - 1; omega⟩
  · intro q hq
    obtain ⟨p, a, rfl⟩ := List.mem_map.mp hq
    have := h8 p a
    show p.2 + dy ≤ r.t + dy + r.h - 1
    omega
theorem IsBox.mv {s : Sh} {r : R} {dx dy : Int} (h : IsBox s r) : IsBox (s.mv dx dy) ⟨r.l + dx, r.t + dy, r.w, r.h⟩ := by
  cases s with
  | line x y u v => exact IsBB.mv h
  | poly p ps => exact IsBB.mv h
  | rect x y w k => rw [show r = _ from h] <;> rfl
  | circ x y q => rw [show r = _ from h]; show R.mk _ _ _ _ = R.mk _ _ _ _; congr 1 <;> simp only <;> omega
  | tS x y l => rw [show r = _ from h] <;> rfl
  | tM x y l => rw [show r = _ from h]; show R.mk _ _ _ _ = R.mk _ _ _ _; congr 1 <;> simp only <;> omega
  | tE x y l => rw [show r = _ from h]; show R.mk _ _ _ _ = R.mk _ _ _ _; congr 1 <;> simp only <;> omega
def sp_law_shifted (K : PySem.W.Frag) : Sp := fun vs H Q _ => ∃ (s : Sh) (v : V) (dx dy : Int), vs = [.str s.name, v, .int dx, .int dy] ∧ Tup K H v (iv s.pts) ∧ s.pts.length ≤ 1000 ∧ ∀ x H', Same H H' → Tup K H' x (iv (s.mv dx dy).pts) → Q x H'
/-- a drawn form: its three parts, and what is known of its size -/
structure Drawn (K : PySem.W.Frag) (H : Hp) (x : V) (s : Sh) : Prop where
  rad : ∀ a b q, s = .circ a b q → 0 ≤ q
  ok : ShOk s
  sm : ∀ z ∈ s.pts, -1000 ≤ z ∧ z ≤ 1000
  at_ : ∃ (a : Addr) (v : V), x = .ref a ∧ SqT K H a [.str s.name, v, .str (S s.txt)] ∧ Tup K H v (iv s.pts)
def sp_law_form (K : PySem.W.Frag) : Sp := fun vs H Q _ => ∃ (t l : Addr) (m : Int), vs = [.ref t, .int m] ∧ TapeAt H t l ∧ 1 ≤ m ∧ m ≤ 100 ∧ ∀ x s H', TapeAt H' t l → Gr t H H' → Drawn K H' x s → Q x H'
theorem small_box {s : Sh} {r : R} (h : IsBox s r) (ok : ShOk s) (sm : ∀ z ∈ s.pts, -1000 ≤ z ∧ z ≤ 1000) : ∀ z ∈ [r.l, r.t, r.w, r.h], -1000000 ≤ z ∧ z ≤ 1000000 := by
  have hc : ∀ ps : List (Int × Int), (∀ z ∈ flat ps, -1000 ≤ z ∧ z ≤ 1000) → ∀ p ∈ ps, (-1000 ≤ p.1 ∧ p.1 ≤ 1000) ∧ (-1000 ≤ p.2 ∧ p.2 ≤ 1000) := by
    intro ps
    induction ps with
    | nil => intro _ p hp; cases hp
    | cons q r ih =>
      intro hz p hp
      rcases List.mem_cons.mp hp with rfl | hp
      · exact ⟨hz _ (List.mem_cons_self ..), hz _ (List.mem_cons_of_mem _ (List.mem_cons_self ..))⟩
      · exact ih (fun z hz' => hz z (List.mem_cons_of_mem _ (List.mem_cons_of_mem _ hz'))) p hp
  have hb : ∀ ps : List (Int × Int), (∀ z ∈ flat ps, -1000 ≤ z ∧ z ≤ 1000) → IsBB ps r → ∀ z ∈ [r.l, r.t, r.w, r.h], -1000000 ≤ z ∧ z ≤ 1000000 := by
    intro ps hz b
    have hc := hc ps hz
    obtain ⟨p1, a1, b1⟩ := List.mem_map.mp b.l1
    obtain ⟨p2, a2, b2⟩ := List.mem_map.mp b.t1
    obtain ⟨p3, a3, b3⟩ := List.mem_map.mp b.r1
    obtain ⟨p4, a4, b4⟩ := List.mem_map.mp b.b1
    have := hc _ a1; have := hc _ a2; have := hc _ a3; have := hc _ a4
    intro z hz
    simp only [List.mem_cons, List.not_mem_nil, or_false] at hz
    omega
  cases s with
  | line x y u v => exact hb [(x, y), (u, v)] sm h
  | poly p ps => exact hb (p :: ps) sm h
  | rect x y w k => rw [show r = _ from h]; exact fun z hz => by have := sm z hz; omega
  | circ x y q =>
    rw [show r = _ from h]
    have a1 := sm x (by simp [Sh.pts]); have a2 := sm y (by simp [Sh.pts]); have a3 := sm q (by simp [Sh.pts])
    intro z hz
    simp only [List.mem_cons, List.not_mem_nil, or_false] at hz
    omega
  | tS x y l =>
    rw [show r = _ from h]
    have a1 := sm x (by simp [Sh.pts]); have a2 := sm y (by simp [Sh.pts])
    have := tw_nn l; have := tw_le l; have := ok.tlen; simp only [Sh.txt] at this
    intro z hz
    simp only [List.mem_cons, List.not_mem_nil, or_false] at hz
    omega
  | tM x y l =>
    rw [show r = _ from h]
    have a1 := sm x (by simp [Sh.pts]); have a2 := sm y (by simp [Sh.pts])
    have := tw_nn l; have := tw_le l; have := ok.tlen; simp only [Sh.txt] at this
    intro z hz
    simp only [List.mem_cons, List.not_mem_nil, or_false] at hz
    omega
  | tE x y l =>
    rw [show r = _ from h]
    have a1 := sm x (by simp [Sh.pts]); have a2 := sm y (by simp [Sh.pts])
    have := tw_nn l; have := tw_le l; have := ok.tlen; simp only [Sh.txt] at this
    intro z hz
    simp only [List.mem_cons, List.not_mem_nil, or_false] at hz
    omega
theorem rgf0 {ps : List (Int × Int)} (h : (flat ps).length ≤ 1000) : RgC 0 ((iv (flat ps)).length : Int) 2 ps.length := by
  have := flat_len ps
  rw [show (iv (flat ps)).length = 2 * ps.length from by rw [iv, List.length_map, flat_len]]
  exact rg0 (by omega)
theorem rgf1 {ps : List (Int × Int)} (h : (flat ps).length ≤ 1000) : RgC 1 ((iv (flat ps)).length : Int) 2 ps.length := by
  have := flat_len ps
  rw [show (iv (flat ps)).length = 2 * ps.length from by rw [iv, List.length_map, flat_len]]
  exact rg1 (by omega)
theorem fx {ps : List (Int × Int)} {i : Nat} {v : V} (h : ((ps.map (·.1)).map V.int)[i]? = some v) : atI (iv (flat ps)) (0 + (i : Int) * 2) = some v := by
  rw [List.getElem?_map, List.getElem?_map] at h
  cases q : ps[i]? with
  | none => rw [q] at h; cases h
  | some p =>
    rw [q] at h
    rw [show (0 : Int) + (i : Int) * 2 = ((2 * i : Nat) : Int) from by omega]
    refine atI_nat ?_
    rw [iv, List.getElem?_map, (flat_at ps i p q).1]
    exact h
theorem fy {ps : List (Int × Int)} {i : Nat} {v : V} (h : ((ps.map (·.2)).map V.int)[i]? = some v) : atI (iv (flat ps)) (1 + (i : Int) * 2) = some v := by
  rw [List.getElem?_map, List.getElem?_map] at h
  cases q : ps[i]? with
  | none => rw [q] at h; cases h
  | some p =>
    rw [q] at h
    rw [show (1 : Int) + (i : Int) * 2 = ((2 * i + 1 : Nat) : Int) from by omega]
    refine atI_nat ?_
    rw [iv, List.getElem?_map, (flat_at ps i p q).2]
    exact h
def Sh.tag : Sh → Nat
  | .rect .. => 0
  | .line .. => 1
  | .poly .. => 2
  | .circ .. => 3
  | .tS .. => 4
  | .tM .. => 5
  | .tE .. => 6
theorem nm0 {s : Sh} : s.name = Str.ofString "rectangle" ↔ s.tag = 0 := by
  cases s <;> first | exact ⟨fun _ => rfl, fun _ => rfl⟩ | exact ⟨fun h => absurd h (by show ¬ Str.ofString _ = Str.ofString _; decide +kernel), fun h => by cases h⟩
theorem nm1 {s : Sh} : s.name = Str.ofString "line" ↔ s.tag = 1 := by
  cases s <;> first | exact ⟨fun _ => rfl, fun _ => rfl⟩ | exact ⟨fun h => absurd h (by show ¬ Str.ofString _ = Str.ofString _; decide +kernel), fun h => by cases h⟩
theorem nm2 {s : Sh} : s.name = Str.ofString "polyline" ↔ s.tag = 2 := by
  cases s <;> first | exact ⟨fun _ => rfl, fun _ => rfl⟩ | exact ⟨fun h => absurd h (by show ¬ Str.ofString _ = Str.ofString _; decide +kernel), fun h => by cases h⟩
theorem nm3 {s : Sh} : s.name = Str.ofString "circle" ↔ s.tag = 3 := by
  cases s <;> first | exact ⟨fun _ => rfl, fun _ => rfl⟩ | exact ⟨fun h => absurd h (by show ¬ Str.ofString _ = Str.ofString _; decide +kernel), fun h => by cases h⟩
theorem nm4 {s : Sh} : s.name = Str.ofString "text start" ↔ s.tag = 4 := by
  cases s <;> first | exact ⟨fun _ => rfl, fun _ => rfl⟩ | exact ⟨fun h => absurd h (by show ¬ Str.ofString _ = Str.ofString _; decide +kernel), fun h => by cases h⟩
theorem nm5 {s : Sh} : s.name = Str.ofString "text middle" ↔ s.tag = 5 := by
  cases s <;> first | exact ⟨fun _ => rfl, fun _ => rfl⟩ | exact ⟨fun h => absurd h (by show ¬ Str.ofString _ = Str.ofString _; decide +kernel), fun h => by cases h⟩
theorem nm6 {s : Sh} : s.name = Str.ofString "text end" ↔ s.tag = 6 := by
  cases s <;> first | exact ⟨fun _ => rfl, fun _ => rfl⟩ | exact ⟨fun h => absurd h (by show ¬ Str.ofString _ = Str.ofString _; decide +kernel), fun h => by cases h⟩
theorem inK {X : Cx} (K : PySem.W.Frag) (h : X.K = K := by rfl) : OpR X (compareOp .In) (rIn K false) := h ▸ op_in_seq
theorem notInK {X : Cx} (K : PySem.W.Frag) (h : X.K = K := by rfl) : OpR X (compareOp .NotIn) (rIn K true) := h ▸ op_notIn_seq
theorem in_lp {s : Sh} : inV (.str s.name) [.str (Str.ofString "line"), .str (Str.ofString "polyline")] = decide (s.cor ≠ []) := by
  cases s with
  | line x y u v => rw [decide_eq_true (by intro h; cases h)]; show inV (.str (Str.ofString _)) _ = true; decide +kernel
  | poly p ps => rw [decide_eq_true (by intro h; cases h)]; show inV (.str (Str.ofString _)) _ = true; decide +kernel
  | rect _ _ _ _ => rw [decide_eq_false (fun h => h rfl)]; show inV (.str (Str.ofString _)) _ = false; decide +kernel
  | circ _ _ _ => rw [decide_eq_false (fun h => h rfl)]; show inV (.str (Str.ofString _)) _ = false; decide +kernel
  | tS _ _ _ => rw [decide_eq_false (fun h => h rfl)]; show inV (.str (Str.ofString _)) _ = false; decide +kernel
  | tM _ _ _ => rw [decide_eq_false (fun h => h rfl)]; show inV (.str (Str.ofString _)) _ = false; decide +kernel
  | tE _ _ _ => rw [decide_eq_false (fun h => h rfl)]; show inV (.str (Str.ofString _)) _ = false; decide +kernel
theorem IsBox.cor {s : Sh} {r : R} (h : s.cor ≠ []) (b : IsBB s.cor r) : IsBox s r := by
  cases s <;> first | exact b | exact absurd rfl h
theorem tag_cor {s : Sh} : (s.tag = 1 ∨ s.tag = 2) ↔ s.cor ≠ [] := by
  cases s <;> simp [Sh.tag, Sh.cor]
theorem Drawn.of {K : PySem.W.Frag} {H : Hp} {p q : Addr} {s : Sh} (rad : ∀ a b q, s = .circ a b q → 0 ≤ q) (ok : ShOk s) (sm : ∀ z ∈ s.pts, -1000 ≤ z ∧ z ≤ 1000) (hS : SqT K H p (iv s.pts)) (hq : H q = none) : Drawn K (upd H q (.tup [.str s.name, .ref p, .str (S s.txt)])) (.ref q) s :=
  ⟨rad, ok, sm, q, .ref p, rfl, SqT.of upd_same, p, rfl, (Im.new hq).sqT hS⟩
theorem Drawn.of0 {K : PySem.W.Frag} {H : Hp} {p q : Addr} {s : Sh} (rad : ∀ a b q, s = .circ a b q → 0 ≤ q) (e : s.txt = []) (hl : s.pts.length ≤ 1000) (sm : ∀ z ∈ s.pts, -1000 ≤ z ∧ z ≤ 1000) (hS : SqT K H p (iv s.pts)) (hq : H q = none) : Drawn K (upd H q (.tup [.str s.name, .ref p, .str (Str.ofString "")])) (.ref q) s := by
  have := Drawn.of (s := s) rad ⟨by rw [e]; exact Word.nil, by rw [e]; exact Nat.zero_le _, hl⟩ sm hS hq
  rw [e, S_lit] at this
  exact this
theorem all4 {a b c d : Int} {P : Int → Prop} (h1 : P a) (h2 : P b) (h3 : P c) (h4 : P d) : ∀ z ∈ [a, b, c, d], P z := by
  intro z hz
  simp only [List.mem_cons, List.not_mem_nil, or_false] at hz
  rcases hz with rfl | rfl | rfl | rfl <;> assumption
theorem all3 {a b c : Int} {P : Int → Prop} (h1 : P a) (h2 : P b) (h3 : P c) : ∀ z ∈ [a, b, c], P z := by
  intro z hz
  simp only [List.mem_cons, List.not_mem_nil, or_false] at hz
  rcases hz with rfl | rfl | rfl <;> assumption
theorem all2 {a b : Int} {P : Int → Prop} (h1 : P a) (h2 : P b) : ∀ z ∈ [a, b], P z := by
  intro z hz
  simp only [List.mem_cons, List.not_mem_nil, or_false] at hz
  rcases hz with rfl | rfl <;> assumption
def sp_law_holds (K : PySem.W.Frag) : Sp := sp_contains K
theorem cut4 {s : Sh} : cutS s.name none (some 4) = Str.ofString "text" ↔ s.cor = [] ∧ s.tag ≠ 0 ∧ s.tag ≠ 3 := by
  cases s with
  | line _ _ _ _ => exact ⟨fun h => absurd h (by show ¬ cutS (Str.ofString _) _ _ = _; decide +kernel), fun h => by cases h.1⟩
  | poly _ _ => exact ⟨fun h => absurd h (by show ¬ cutS (Str.ofString _) _ _ = _; decide +kernel), fun h => by cases h.1⟩
  | rect _ _ _ _ => exact ⟨fun h => absurd h (by show ¬ cutS (Str.ofString _) _ _ = _; decide +kernel), fun h => absurd rfl h.2.1⟩
  | circ _ _ _ => exact ⟨fun h => absurd h (by show ¬ cutS (Str.ofString _) _ _ = _; decide +kernel), fun h => absurd rfl h.2.2⟩
  | tS _ _ _ => exact ⟨fun _ => ⟨rfl, (by intro h; cases h), (by intro h; cases h)⟩, fun _ => by show cutS (Str.ofString _) _ _ = _; decide +kernel⟩
  | tM _ _ _ => exact ⟨fun _ => ⟨rfl, (by intro h; cases h), (by intro h; cases h)⟩, fun _ => by show cutS (Str.ofString _) _ _ = _; decide +kernel⟩
  | tE _ _ _ => exact ⟨fun _ => ⟨rfl, (by intro h; cases h), (by intro h; cases h)⟩, fun _ => by show cutS (Str.ofString _) _ _ = _; decide +kernel⟩
theorem nocor {s : Sh} {dx dy : Int} (h : s.cor = []) : ∃ x y r, s.pts = x :: y :: r ∧ (s.mv dx dy).pts = (x + dx) :: (y + dy) :: r := by
  cases s with
  | line _ _ _ _ => cases h
  | poly _ _ => cases h
  | rect x y w k => exact ⟨x, y, [w, k], rfl, rfl⟩
  | circ x y q => exact ⟨x, y, [q], rfl, rfl⟩
  | tS x y l => exact ⟨x, y, [], rfl, rfl⟩
  | tM x y l => exact ⟨x, y, [], rfl, rfl⟩
  | tE x y l => exact ⟨x, y, [], rfl, rfl⟩
theorem cut_2 {a b : V} {r : List V} : cutV (a :: b :: r) (some 2) none = r := by rw [cut_from (by decide)] <;> rfl
theorem six2 {n : Nat} : HT.sIx (n + 2) 0 (some 2) = 2 := by
  rw [show (2 : Int) = ((2 : Nat) : Int) from rfl, HT.sIx_nat]
  omega
theorem nm_len (s : Sh) : s.name.length ≤ 16 := by cases s <;> (show (Str.ofString _).length ≤ 16; decide +kernel)
theorem fx1 {ps : List (Int × Int)} {i : Nat} {q : Int × Int} (h : ps[i]? = some q) : atI (iv (flat ps)) (0 + (i : Int) * 2) = some (V.int q.1) := fx (by rw [List.getElem?_map, List.getElem?_map, h]; rfl)
theorem fy1 {ps : List (Int × Int)} {i : Nat} {q : Int × Int} (h : ps[i]? = some q) : atI (iv (flat ps)) (0 + (i : Int) * 2 + 1) = some (V.int q.2) := by
  rw [show (0 : Int) + (i : Int) * 2 + 1 = 1 + (i : Int) * 2 from by omega]
  exact fy (by rw [List.getElem?_map, List.getElem?_map, h]; rfl)
theorem flat_take {ps : List (Int × Int)} {i : Nat} {q : Int × Int} {f : Int × Int → Int × Int} (h : ps[i]? = some q) : iv (flat ((ps.take (i + 1)).map f)) = iv (flat ((ps.take i).map f)) ++ [V.int (f q).1, V.int (f q).2] := by
  rw [List.take_add_one, h, List.map_append, flat_app, iv, List.map_append]
  rfl
end Cs

set_option maxRecDepth 100000
set_option maxHeartbeats 4000000
/-! what shapes cover -/
namespace Cs
open PySem PySem.Spec PyProof.Rows L2
def ab (i : Int) : Int := if i < 0 then -i else i
/-- how far (x, y) is from the line, times its size -/
def off (p q : Int × Int) (x y : Int) : Int := (y - p.2) * (q.1 - p.1) - (x - p.1) * (q.2 - p.2)
def near (p q : Int × Int) (x y : Int) : Bool := decide (2 * ab (off p q x y) ≤ max (ab (q.1 - p.1)) (ab (q.2 - p.2)))
def between (p q : Int × Int) (x y : Int) : Bool := decide (min p.1 q.1 ≤ x ∧ x ≤ max p.1 q.1 ∧ min p.2 q.2 ≤ y ∧ y ≤ max p.2 q.2)
def onl (p q : Int × Int) (x y : Int) : Bool := between p q x y && near p q x y
theorem ab_nn (i : Int) : 0 ≤ ab i := by unfold ab; split <;> omega
theorem ab_neg (i : Int) : ab (-i) = ab i := by unfold ab; split <;> split <;> omega
theorem off_swap (p q : Int × Int) (x y : Int) : off q p x y = - off p q x y := by
  unfold off
  grind
theorem onl_swap (p q : Int × Int) (x y : Int) : onl q p x y = onl p q x y := by
  have e1 : between q p x y = between p q x y := by
    unfold between
    rw [Int.min_comm, Int.max_comm, Int.min_comm q.2, Int.max_comm q.2]
  have e2 : near q p x y = near p q x y := by
    unfold near
    rw [off_swap, ab_neg, show p.1 - q.1 = -(q.1 - p.1) from by omega, show p.2 - q.2 = -(q.2 - p.2) from by omega, ab_neg, ab_neg]
  unfold onl
  rw [e1, e2]
theorem onl_end (p q : Int × Int) : onl p q p.1 p.2 = true := by
  have e : off p q p.1 p.2 = 0 := by unfold off; rw [Int.sub_self, Int.sub_self, Int.zero_mul, Int.zero_mul]; rfl
  unfold onl between near
  rw [e]
  have := ab_nn (q.1 - p.1)
  have h0 : ab 0 = 0 := rfl
  rw [h0, Bool.and_eq_true, decide_eq_true_eq, decide_eq_true_eq]
  omega
theorem has_bb {p q : Int × Int} {r : R} (h : IsBB [p, q] r) (x y : Int) : has r x y = between p q x y := by
  have a1 := h.l1; have a2 := h.t1; have a3 := h.r1; have a4 := h.b1
  have b1 := h.l2 p (by simp); have b2 := h.l2 q (by simp); have b3 := h.t2 p (by simp); have b4 := h.t2 q (by simp)
  have b5 := h.r2 p (by simp); have b6 := h.r2 q (by simp); have b7 := h.b2 p (by simp); have b8 := h.b2 q (by simp)
  simp only [List.map_cons, List.map_nil, List.mem_cons, List.not_mem_nil, or_false] at a1 a2 a3 a4
  rw [Bool.eq_iff_iff]
  simp only [has, between, Bool.and_eq_true, decide_eq_true_eq]
  omega
theorem onl_same {p : Int × Int} (x y : Int) : onl p p x y = decide (p = (x, y)) := by
  obtain ⟨a, b⟩ := p
  rw [Bool.eq_iff_iff]
  unfold onl between near off
  simp only [Bool.and_eq_true, decide_eq_true_eq, Prod.mk.injEq]
  constructor
  · rintro ⟨h, _⟩; omega
  · rintro ⟨rfl, rfl⟩
    refine ⟨by omega, ?_⟩
    simp [ab]
/-- one of the lines from point to point -/
def chain : List (Int × Int) → Int → Int → Bool
  | p :: q :: r, x, y => onl p q x y || chain (q :: r) x y
  | _, _, _ => false
def pol (p : Int × Int) (ps : List (Int × Int)) (x y : Int) : Bool := if ps = [] then decide (p = (x, y)) else chain (p :: ps) x y
def cov : Sh → Int → Int → Bool
  | .rect a b u v, x, y => has ⟨a, b, u, v⟩ x y
  | .line a b c d, x, y => onl (a, b) (c, d) x y
  | .poly p ps, x, y => pol p ps x y
  | .circ a b q, x, y => decide ((x - a) ^ 2 + (y - b) ^ 2 ≤ q * q + q)
  | .tS a b l, x, y => inkT l (x - a) (y - b)
  | .tM a b l, x, y => inkT l (x - (a - tw l / 2)) (y - b)
  | .tE a b l, x, y => inkT l (x - (a - tw l)) (y - b)
/-- of a size at which all products stay small -/
def Nr (z : Int) : Prop := -1000000000 ≤ z ∧ z ≤ 1000000000
def sp_line_covers (K : PySem.W.Frag) : Sp := fun vs H Q _ => ∃ (v : V) (p q : Int × Int) (x y : Int), vs = [v, .int x, .int y] ∧ Tup K H v (iv (flat [p, q])) ∧ (∀ z ∈ flat [p, q], Nr z) ∧ Nr x ∧ Nr y ∧ ∀ H', Same H H' → Q (.bl (onl p q x y)) H'
def sp_law_on_line (K : PySem.W.Frag) : Sp := sp_line_covers K
def sp_polyline_covers (K : PySem.W.Frag) : Sp := fun vs H Q _ => ∃ (v : V) (p : Int × Int) (ps : List (Int × Int)) (x y : Int), vs = [v, .int x, .int y] ∧ Tup K H v (iv (flat (p :: ps))) ∧ (flat (p :: ps)).length ≤ 1000 ∧ (∀ z ∈ flat (p :: ps), Nr z) ∧ Nr x ∧ Nr y ∧ ∀ H', Same H H' → Q (.bl (pol p ps x y)) H'
def sp_circle_covers (K : PySem.W.Frag) : Sp := fun vs H Q _ => ∃ (v : V) (a b q x y : Int), vs = [v, .int x, .int y] ∧ Tup K H v (iv [a, b, q]) ∧ Nr a ∧ Nr b ∧ Nr q ∧ Nr x ∧ Nr y ∧ ∀ H', Same H H' → Q (.bl (decide ((x - a) ^ 2 + (y - b) ^ 2 ≤ q * q + q))) H'
def sp_covers (K : PySem.W.Frag) : Sp := fun vs H Q _ => ∃ (s : Sh) (v : V) (x y : Int), vs = [.str s.name, v, .str (S s.txt), .int x, .int y] ∧ Tup K H v (iv s.pts) ∧ ShOk s ∧ (∀ z ∈ s.pts, Nr z) ∧ Nr x ∧ Nr y ∧ ∀ H', Same H H' → Q (.bl (cov s x y)) H'
def sp_law_covers (K : PySem.W.Frag) : Sp := sp_covers K
theorem pol_cor {s : Sh} (h : s.cor ≠ []) : ∃ p ps, s.cor = p :: ps ∧ ∀ x y, cov s x y = pol p ps x y := by
  cases s with
  | line a b c d =>
    refine ⟨(a, b), [(c, d)], rfl, fun x y => ?_⟩
    show onl (a, b) (c, d) x y = if [(c, d)] = [] then _ else (onl (a, b) (c, d) x y || false)
    rw [if_neg (by intro h; cases h), Bool.or_false]
  | poly p ps => exact ⟨p, ps, rfl, fun x y => rfl⟩
  | rect _ _ _ _ => exact absurd rfl h
  | circ _ _ _ => exact absurd rfl h
  | tS _ _ _ => exact absurd rfl h
  | tM _ _ _ => exact absurd rfl h
  | tE _ _ _ => exact absurd rfl h
theorem rg1_ : RgC 0 1 2 1 := ⟨by decide, by decide, by decide +kernel, by decide +kernel⟩
end Cs

set_option maxRecDepth 100000
set_option maxHeartbeats 4000000
/-! a polyline, line by line, as the law walks it -/
namespace Cs
open PySem PySem.Spec PyProof.Rows L2
theorem chain_one {l : List (Int × Int)} (h : l.length ≤ 1) (x y : Int) : chain l x y = false := by
  match l, h with
  | [], _ => rfl
  | [_], _ => rfl
  | _ :: _ :: _, h => simp only [List.length_cons] at h; omega
def gst (p : Int × Int) (ps : List (Int × Int)) (x y : Int) (i : Nat) : Bool := if ps = [] then (if i = 0 then onl p p x y else false) else chain ((p :: ps).drop i) x y
def gm (ps : List (Int × Int)) : Nat := if ps = [] then 1 else ps.length
theorem gst0 (p : Int × Int) (ps : List (Int × Int)) (x y : Int) : gst p ps x y 0 = pol p ps x y := by
  unfold gst pol
  by_cases h : ps = []
  · rw [if_pos h, if_pos h, if_pos rfl, onl_same]
  · rw [if_neg h, if_neg h, List.drop_zero]
theorem gst_end (p : Int × Int) (ps : List (Int × Int)) (x y : Int) : gst p ps x y (gm ps) = false := by
  unfold gst gm
  by_cases h : ps = []
  · rw [if_pos h, if_pos h, if_neg (by decide)]
  · rw [if_neg h, if_neg h]
    exact chain_one (by rw [List.length_drop, List.length_cons]; omega) x y
theorem iv_len (p : Int × Int) (ps : List (Int × Int)) : ((iv (flat (p :: ps))).length : Int) - 2 = 2 * (ps.length : Int) := by
  rw [iv, List.length_map, flat_len, List.length_cons]
  omega
theorem gst_step {p : Int × Int} {ps : List (Int × Int)} {x y : Int} {i : Nat} (h : i < gm ps) :
    ∃ (u v : Int × Int) (j : Nat), (p :: ps)[i]? = some u ∧ (p :: ps)[j]? = some v ∧ (if ((iv (flat (p :: ps))).length : Int) - 2 < 0 + (i : Int) * 2 + 2 then ((iv (flat (p :: ps))).length : Int) - 2 else 0 + (i : Int) * 2 + 2) = 0 + (j : Int) * 2 ∧ gst p ps x y i = (onl u v x y || gst p ps x y (i + 1)) := by
  rw [iv_len]
  unfold gm at h
  by_cases e : ps = []
  · rw [if_pos e] at h
    have : i = 0 := by omega
    subst this
    subst e
    refine ⟨p, p, 0, rfl, rfl, by rw [if_pos (by simp)]; simp, ?_⟩
    unfold gst
    simp
  · rw [if_neg e] at h
    have h1 : i < (p :: ps).length := by rw [List.length_cons]; omega
    have h2 : i + 1 < (p :: ps).length := by rw [List.length_cons]; omega
    refine ⟨(p :: ps)[i], (p :: ps)[i + 1], i + 1, List.getElem?_eq_getElem h1, List.getElem?_eq_getElem h2, by rw [if_neg (by omega)]; omega, ?_⟩
    unfold gst
    rw [if_neg e, if_neg e, List.drop_eq_getElem_cons h1, List.drop_eq_getElem_cons h2]
    rfl
theorem gst_rg {p : Int × Int} {ps : List (Int × Int)} (h : (flat (p :: ps)).length ≤ 1000) : RgC 0 (if (1 : Int) > ((iv (flat (p :: ps))).length : Int) - 2 then 1 else ((iv (flat (p :: ps))).length : Int) - 2) 2 (gm ps) := by
  rw [iv_len]
  rw [flat_len, List.length_cons] at h
  unfold gm
  by_cases e : ps = []
  · subst e
    rw [if_pos (by simp), if_pos rfl]
    exact rg1_
  · have : ps.length ≠ 0 := fun z => e (List.length_eq_zero_iff.mp z)
    rw [if_neg e, if_neg (by omega), show 2 * (ps.length : Int) = ((2 * ps.length : Nat) : Int) from by omega]
    exact rg0 (by omega)
theorem nr_at {ps : List (Int × Int)} {i : Nat} {u : Int × Int} (h : ps[i]? = some u) (nz : ∀ z ∈ flat ps, Nr z) : Nr u.1 ∧ Nr u.2 := by
  obtain ⟨a, b⟩ := flat_at ps i u h
  exact ⟨nz _ (List.mem_of_getElem? a), nz _ (List.mem_of_getElem? b)⟩
theorem not_cor {s : Sh} (hc : ¬ s.cor ≠ []) (e0 : ¬ s.tag = 0) (e3 : ¬ s.tag = 3) : ∃ x y l, s = .tS x y l ∨ s = .tM x y l ∨ s = .tE x y l := by
  cases s with
  | rect _ _ _ _ => exact absurd rfl e0
  | line _ _ _ _ => exact absurd (by intro h; cases h) hc
  | poly _ _ => exact absurd (by intro h; cases h) hc
  | circ _ _ _ => exact absurd rfl e3
  | tS x y l => exact ⟨x, y, l, Or.inl rfl⟩
  | tM x y l => exact ⟨x, y, l, Or.inr (Or.inl rfl)⟩
  | tE x y l => exact ⟨x, y, l, Or.inr (Or.inr rfl)⟩
theorem cov_text {s : Sh} {r : R} (hs : ∃ x y l, s = .tS x y l ∨ s = .tM x y l ∨ s = .tE x y l) (hb : IsBox s r) (x y : Int) : inkT s.txt (x - r.l) (y - r.t) = cov s x y := by
  obtain ⟨a1, a2, l, hs⟩ := hs
  rcases hs with rfl | rfl | rfl <;> (rw [show r = _ from hb]; rfl)
theorem wide_box {s : Sh} {r : R} (h : IsBox s r) (ok : ShOk s) (sm : ∀ z ∈ s.pts, -30000 ≤ z ∧ z ≤ 30000) : ∀ z ∈ [r.l, r.t, r.w, r.h], -1000000 ≤ z ∧ z ≤ 1000000 := by
  have hc : ∀ ps : List (Int × Int), (∀ z ∈ flat ps, -30000 ≤ z ∧ z ≤ 30000) → ∀ p ∈ ps, (-30000 ≤ p.1 ∧ p.1 ≤ 30000) ∧ (-30000 ≤ p.2 ∧ p.2 ≤ 30000) := by
    intro ps
    induction ps with
    | nil => intro _ p hp; cases hp
    | cons q r ih =>
      intro hz p hp
      rcases List.mem_cons.mp hp with rfl | hp
      · exact ⟨hz _ (List.mem_cons_self ..), hz _ (List.mem_cons_of_mem _ (List.mem_cons_self ..))⟩
      · exact ih (fun z hz' => hz z (List.mem_cons_of_mem _ (List.mem_cons_of_mem _ hz'))) p hp
  have hb : ∀ ps : List (Int × Int), (∀ z ∈ flat ps, -30000 ≤ z ∧ z ≤ 30000) → IsBB ps r → ∀ z ∈ [r.l, r.t, r.w, r.h], -1000000 ≤ z ∧ z ≤ 1000000 := by
    intro ps hz b
    have hc := hc ps hz
    obtain ⟨p1, a1, b1⟩ := List.mem_map.mp b.l1
    obtain ⟨p2, a2, b2⟩ := List.mem_map.mp b.t1
    obtain ⟨p3, a3, b3⟩ := List.mem_map.mp b.r1
    obtain ⟨p4, a4, b4⟩ := List.mem_map.mp b.b1
    have := hc _ a1; have := hc _ a2; have := hc _ a3; have := hc _ a4
    intro z hz
    simp only [List.mem_cons, List.not_mem_nil, or_false] at hz
    omega
  cases s with
  | line x y u v => exact hb [(x, y), (u, v)] sm h
  | poly p ps => exact hb (p :: ps) sm h
  | rect x y w k => rw [show r = _ from h]; exact fun z hz => by have := sm z hz; omega
  | circ x y q =>
    rw [show r = _ from h]
    have a1 := sm x (by simp [Sh.pts]); have a2 := sm y (by simp [Sh.pts]); have a3 := sm q (by simp [Sh.pts])
    intro z hz
    simp only [List.mem_cons, List.not_mem_nil, or_false] at hz
    omega
  | tS x y l =>
    rw [show r = _ from h]
    have a1 := sm x (by simp [Sh.pts]); have a2 := sm y (by simp [Sh.pts])
    have := tw_nn l; have := tw_le l; have := ok.tlen; simp only [Sh.txt] at this
    intro z hz
    simp only [List.mem_cons, List.not_mem_nil, or_false] at hz
    omega
  | tM x y l =>
    rw [show r = _ from h]
    have a1 := sm x (by simp [Sh.pts]); have a2 := sm y (by simp [Sh.pts])
    have := tw_nn l; have := tw_le l; have := ok.tlen; simp only [Sh.txt] at this
    intro z hz
    simp only [List.mem_cons, List.not_mem_nil, or_false] at hz
    omega
  | tE x y l =>
    rw [show r = _ from h]
    have a1 := sm x (by simp [Sh.pts]); have a2 := sm y (by simp [Sh.pts])
    have := tw_nn l; have := tw_le l; have := ok.tlen; simp only [Sh.txt] at this
    intro z hz
    simp only [List.mem_cons, List.not_mem_nil, or_false] at hz
    omega

theorem flat_mv {dx dy : Int} (hx : -19001 ≤ dx ∧ dx ≤ 19001) (hy : -19001 ≤ dy ∧ dy ≤ 19001) : ∀ ps : List (Int × Int), (∀ z ∈ flat ps, -1000 ≤ z ∧ z ≤ 1000) → ∀ z ∈ flat (ps.map fun q => (q.1 + dx, q.2 + dy)), -30000 ≤ z ∧ z ≤ 30000
  | [], _, z, hz => by cases hz
  | p :: r, h, z, hz => by
    have h1 := h p.1 (List.mem_cons_self ..)
    have h2 := h p.2 (List.mem_cons_of_mem _ (List.mem_cons_self ..))
    rcases List.mem_cons.mp hz with e | hz
    · have : z = p.1 + dx := e
      omega
    rcases List.mem_cons.mp hz with e | hz
    · have : z = p.2 + dy := e
      omega
    exact flat_mv hx hy r (fun w hw => h w (List.mem_cons_of_mem _ (List.mem_cons_of_mem _ hw))) z hz
theorem mv_sm {s : Sh} {dx dy : Int} (sm : ∀ z ∈ s.pts, -1000 ≤ z ∧ z ≤ 1000) (hx : -19001 ≤ dx ∧ dx ≤ 19001) (hy : -19001 ≤ dy ∧ dy ≤ 19001) : ∀ z ∈ (s.mv dx dy).pts, -30000 ≤ z ∧ z ≤ 30000 := by
  cases s with
  | poly p ps => exact flat_mv hx hy (p :: ps) sm
  | line x y u v => exact flat_mv hx hy [(x, y), (u, v)] sm
  | rect x y u v =>
    have a1 := sm x (by simp [Sh.pts]); have a2 := sm y (by simp [Sh.pts]); have a3 := sm u (by simp [Sh.pts]); have a4 := sm v (by simp [Sh.pts])
    exact all4 (by omega) (by omega) (by omega) (by omega)
  | circ x y u =>
    have a1 := sm x (by simp [Sh.pts]); have a2 := sm y (by simp [Sh.pts]); have a3 := sm u (by simp [Sh.pts])
    exact all3 (by omega) (by omega) (by omega)
  | tS x y l =>
    have a1 := sm x (by simp [Sh.pts]); have a2 := sm y (by simp [Sh.pts])
    exact all2 (by omega) (by omega)
  | tM x y l =>
    have a1 := sm x (by simp [Sh.pts]); have a2 := sm y (by simp [Sh.pts])
    exact all2 (by omega) (by omega)
  | tE x y l =>
    have a1 := sm x (by simp [Sh.pts]); have a2 := sm y (by simp [Sh.pts])
    exact all2 (by omega) (by omega)
theorem cov_back (a b c d x y : Int) : cov (.line c d a b) x y = cov (.line a b c d) x y := onl_swap (a, b) (c, d) x y
theorem cov_e1 (a b c d : Int) : cov (.line a b c d) a b = true := onl_end (a, b) (c, d)
theorem cov_e2 (a b c d : Int) : cov (.line a b c d) c d = true := (onl_swap (c, d) (a, b) c d).trans (onl_end (c, d) (a, b))
theorem line_vs {a b c d : Int} {v x y : V} : [V.str (Str.ofString "line"), v, V.str (Str.ofString ""), x, y] = [V.str (Sh.line a b c d).name, v, V.str (S (Sh.line a b c d).txt), x, y] := by
  rw [show S (Sh.line a b c d).txt = Str.ofString "" from S_lit]
  rfl
theorem line_ok {a b c d : Int} : ShOk (.line a b c d) := ⟨Word.nil, Nat.zero_le _, (show 4 ≤ 1000 by decide)⟩
end Cs

set_option maxRecDepth 100000
set_option maxHeartbeats 4000000
/-! primitives -/
namespace Cs
open PySem PySem.Spec PyProof.Rows L2
def sp_law_inside (K : PySem.W.Frag) : Sp := fun vs H Q _ => ∃ (u v : V) (a b : R), vs = [u, v] ∧ Rc K H u a ∧ Rc K H v b ∧ Q (.bl (In a b)) H
def sp_law_common (K : PySem.W.Frag) : Sp := sp_common K
/-- v is a primitive: its shape s, its clip o -/
structure Prim (K : PySem.W.Frag) (H : Hp) (v : V) (s : Sh) (o : Option R) : Prop where
  ok : ShOk s
  at_ : ∃ (p : Addr) (x0 x1 x2 u c6 c7 c : V), v = .ref p ∧ SqT K H p [x0, x1, x2, .str s.name, u, .str (S s.txt), c6, c7, c] ∧ Tup K H u (iv s.pts) ∧ OptR K H c o
theorem Prim.im {K : PySem.W.Frag} {H H' : Hp} {v : V} {s : Sh} {o : Option R} (h : Prim K H v s o) (e : Im H H') : Prim K H' v s o :=
  let ⟨p, x0, x1, x2, u, c6, c7, c, h1, h2, h3, h4⟩ := h.at_
  ⟨h.ok, p, x0, x1, x2, u, c6, c7, c, h1, e.sqT h2, h3.im e, h4.im e⟩
def rea (r : R) (o : Option R) : Option R := com r (o.getD r)
def vis (r : R) (o : Option R) (w h : Int) : Option R := (rea r o).bind fun q => com q ⟨0, 0, w, h⟩
def sp_reach (K : PySem.W.Frag) : Sp := fun vs H Q _ => ∃ (v : V) (s : Sh) (o : Option R), vs = [v] ∧ Prim K H v s o ∧ ∀ x r H', Same H H' → IsBox s r → OptR K H' x (rea r o) → Q x H'
def sp_law_reach (K : PySem.W.Frag) : Sp := sp_reach K
def sp_visible_part (K : PySem.W.Frag) : Sp := fun vs H Q _ => ∃ (a : Addr) (v y : V) (w h : Int) (s : Sh) (o : Option R), vs = [.ref a, v] ∧ SqT K H a [.int w, .int h, y] ∧ Prim K H v s o ∧ ∀ x r H', Same H H' → IsBox s r → OptR K H' x (vis r o w h) → Q x H'
def sp_law_visible (K : PySem.W.Frag) : Sp := sp_visible_part K
def sp_law_color (K : PySem.W.Frag) : Sp := fun vs H Q _ => ∃ (t l : Addr), vs = [.ref t] ∧ TapeAt H t l ∧ ∀ x H', TapeAt H' t l → Gr t H H' → Q x H'
/-- a clip of a drawn size -/
def Small (o : Option R) : Prop := ∀ q, o = some q → ∀ z ∈ [q.l, q.t, q.w, q.h], -1000 ≤ z ∧ z ≤ 1000
def sp_law_clip (K : PySem.W.Frag) : Sp := fun vs H Q _ => ∃ (t l : Addr) (m : Int), vs = [.ref t, .int m] ∧ TapeAt H t l ∧ 1 ≤ m ∧ m ≤ 100 ∧ ∀ x o H', TapeAt H' t l → Gr t H H' → OptR K H' x o → Small o → Q x H'
def Big (r : R) : Prop := ∀ z ∈ [r.l, r.t, r.w, r.h], -10000000 ≤ z ∧ z ≤ 10000000
theorem com_big {a b : R} (ha : Big a) (hb : Big b) : RepOk (odata (com a b)) := by
  have a1 := ha a.l (by simp)
  have a2 := ha a.t (by simp)
  have a3 := ha a.w (by simp)
  have a4 := ha a.h (by simp)
  have b1 := hb b.l (by simp)
  have b2 := hb b.t (by simp)
  have b3 := hb b.w (by simp)
  have b4 := hb b.h (by simp)
  unfold com
  split
  · refine R.rep (r := ⟨_, _, _, _⟩) fun z hz => ?_
    simp at hz
    rcases hz with rfl | rfl | rfl | rfl <;> omega
  · exact none_rep
/-- an item of the law's: a primitive of a bounded size -/
def Good (K : PySem.W.Frag) (H : Hp) (x : V) : Prop := ∃ s o, Prim K H x s o ∧ (∀ r, IsBox s r → Big r) ∧ (∀ q, o = some q → Big q)
theorem Good.im {K : PySem.W.Frag} {H H' : Hp} {x : V} (h : Good K H x) (e : Im H H') : Good K H' x := let ⟨s, o, p, q⟩ := h; ⟨s, o, p.im e, q⟩
/-- what com tells lies in both -/
theorem com_in {a b c : R} (h : com a b = some c) : In c a = true ∧ In c b = true := by
  unfold com at h
  split at h
  · cases h
    simp only [In, Bool.and_eq_true, decide_eq_true_eq]
    omega
  · cases h
def Huge (r : R) : Prop := ∀ z ∈ [r.l, r.t, r.w, r.h], -1000000000 ≤ z ∧ z ≤ 1000000000
theorem Big.huge {r : R} (h : Big r) : Huge r := fun z hz => by have := h z hz; omega
theorem com_huge {a b c : R} (ha : Big a) (hb : Big b) (h : com a b = some c) : Huge c := by
  have a1 := ha a.l (by simp)
  have a2 := ha a.t (by simp)
  have a3 := ha a.w (by simp)
  have a4 := ha a.h (by simp)
  have b1 := hb b.l (by simp)
  have b2 := hb b.t (by simp)
  have b3 := hb b.w (by simp)
  have b4 := hb b.h (by simp)
  unfold com at h
  split at h
  · cases h
    intro z hz
    simp at hz
    rcases hz with rfl | rfl | rfl | rfl <;> omega
  · cases h
theorem com_rep2 {a b : R} (ha : Huge a) (hb : Huge b) : RepOk (odata (com a b)) := by
  have a1 := ha a.l (by simp)
  have a2 := ha a.t (by simp)
  have a3 := ha a.w (by simp)
  have a4 := ha a.h (by simp)
  have b1 := hb b.l (by simp)
  have b2 := hb b.t (by simp)
  have b3 := hb b.w (by simp)
  have b4 := hb b.h (by simp)
  unfold com
  split
  · refine R.rep (r := ⟨_, _, _, _⟩) fun z hz => ?_
    simp at hz
    rcases hz with rfl | rfl | rfl | rfl <;> omega
  · exact none_rep
theorem pair_rep {a b : Option R} (ha : RepOk (odata a)) (hb : RepOk (odata b)) : RepOk (.tuple [odata a, odata b]) := by
  have p : plainD (.tuple [odata a, odata b]) = true := by
    have pa := ha.1
    have pb := hb.1
    show (plainD (odata a) && (plainD (odata b) && true)) = true
    rw [pa, pb]
    rfl
  cases a <;> cases b <;> exact ⟨p, by simp [odata, R.d, PyData.depth, PyData.depthAll], by simp only [odata, R.d, cost, costAll]; decide⟩
theorem rea_rep {r : R} {o : Option R} (hr : Big r) (ho : ∀ q, o = some q → Big q) : RepOk (odata (rea r o)) := by
  unfold rea
  refine com_rep2 hr.huge ?_
  cases o with
  | none => exact hr.huge
  | some q => exact (ho q rfl).huge
theorem vis_rep {r : R} {o : Option R} {w h : Int} (hr : Big r) (ho : ∀ q, o = some q → Big q) (hw : 0 ≤ w ∧ w ≤ 100) (hh : 0 ≤ h ∧ h ≤ 100) : RepOk (odata (vis r o w h)) := by
  unfold vis
  cases e : rea r o with
  | none => exact none_rep
  | some q =>
    have hq : Huge q := by
      unfold rea at e
      refine com_huge hr ?_ e
      cases o with
      | none => exact hr
      | some q => exact ho q rfl
    refine com_rep2 hq (all4 (P := fun z => -1000000000 ≤ z ∧ z ≤ 1000000000) (show (-1000000000 : Int) ≤ 0 ∧ (0 : Int) ≤ 1000000000 by decide) (show (-1000000000 : Int) ≤ 0 ∧ (0 : Int) ≤ 1000000000 by decide) ?_ ?_)
    · show -1000000000 ≤ w ∧ w ≤ 1000000000
      omega
    · show -1000000000 ≤ h ∧ h ≤ 1000000000
      omega
theorem vis_in {r q v : R} {o : Option R} {w h : Int} (e : rea r o = some q) (f : vis r o w h = some v) : In v q = true ∧ In v ⟨0, 0, w, h⟩ = true := by
  unfold vis at f
  rw [e] at f
  exact com_in f
theorem vis_some {r v : R} {o : Option R} {w h : Int} (f : vis r o w h = some v) : ∃ q, rea r o = some q := by
  unfold vis at f
  cases e : rea r o with
  | none => rw [e] at f; cases f
  | some q => exact ⟨q, rfl⟩
end Cs

set_option maxRecDepth 100000
set_option maxHeartbeats 4000000
/-! The plain layer: a def's text read as a plain program over data. -/
namespace Cs
open PySem PySem.Spec PyProof.Rows L2
/-! ### data without lists -/
mutual
def lf : PyData → Bool
  | .none => true
  | .bool _ => true
  | .int _ => true
  | .str _ => true
  | .list _ => false
  | .tuple xs => lfAll xs
  | .dict _ => false
def lfAll : List PyData → Bool
  | [] => true
  | x :: xs => lf x && lfAll xs
end
theorem lfAll_get : ∀ {ds : List PyData} {i : Nat} {d : PyData}, lfAll ds = true → ds[i]? = some d → lf d = true
  | [], _, _, _, h => by simp at h
  | x :: xs, 0, d, f, h => by
    simp only [lfAll, Bool.and_eq_true] at f
    simp at h
    subst h
    exact f.1
  | x :: xs, i + 1, d, f, h => by
    simp only [lfAll, Bool.and_eq_true] at f
    exact lfAll_get f.2 (by simpa using h)
theorem lfAll_app : ∀ {xs ys : List PyData}, lfAll xs = true → lfAll ys = true → lfAll (xs ++ ys) = true
  | [], _, _, h => h
  | x :: xs, ys, f, h => by
    simp only [lfAll, Bool.and_eq_true] at f
    simp only [List.cons_append, lfAll, Bool.and_eq_true]
    exact ⟨f.1, lfAll_app f.2 h⟩
theorem lfAll_iff : ∀ {ds : List PyData}, lfAll ds = true ↔ ∀ d ∈ ds, lf d = true
  | [] => by simp [lfAll]
  | x :: xs => by simp only [lfAll, Bool.and_eq_true, List.mem_cons, forall_eq_or_imp, lfAll_iff]
end Cs
namespace L2
open PySem PySem.Spec PyProof.Rows Cs
section
variable {K : PySem.W.Frag} {H H' : Hp}
mutual
theorem Dp.imlf (e : Im H H') : ∀ (d : PyData) (v : V), Dp K H v d → lf d = true → Dp K H' v d
  | .none, _, h, _ => by cases h; exact .non
  | .bool _, _, h, _ => by cases h; exact .bl _
  | .int _, _, h, _ => by cases h; exact .int _
  | .str _, _, h, _ => by cases h; exact .str _
  | .list _, _, _, f => by simp [lf] at f
  | .dict _, _, _, f => by simp [lf] at f
  | .tuple ds, _, h, f => by
    cases h with
    | tup hs ha => exact .tup (e.sqT hs) (DpAll.imlf e ds _ ha (by simpa only [lf] using f))
theorem DpAll.imlf (e : Im H H') : ∀ (ds : List PyData) (vs : List V), DpAll K H vs ds → lfAll ds = true → DpAll K H' vs ds
  | [], _, h, _ => by cases h; exact .nil
  | d :: ds, _, h, f => by
    simp only [lfAll, Bool.and_eq_true] at f
    cases h with
    | cons h1 h2 => exact .cons (Dp.imlf e d _ h1 f.1) (DpAll.imlf e ds _ h2 f.2)
end
theorem DpAll.len : ∀ {ds : List PyData} {vs : List V}, DpAll K H vs ds → vs.length = ds.length
  | [], _, h => by cases h; rfl
  | d :: ds, _, h => by
    cases h with
    | cons h1 h2 => simp only [List.length_cons, DpAll.len h2]
theorem DpAll.get : ∀ {ds : List PyData} {vs : List V} {i : Nat} {d : PyData}, DpAll K H vs ds → ds[i]? = some d → ∃ v, vs[i]? = some v ∧ Dp K H v d
  | [], _, _, _, _, e => by simp at e
  | d :: ds, _, 0, _, h, e => by
    cases h with
    | cons h1 h2 => simp at e; subst e; exact ⟨_, rfl, h1⟩
  | d :: ds, _, i + 1, _, h, e => by
    cases h with
    | cons h1 h2 =>
      obtain ⟨v, h3, h4⟩ := DpAll.get (i := i) h2 (by simpa using e)
      exact ⟨v, by simpa using h3, h4⟩
theorem DpAll.getV : ∀ {ds : List PyData} {vs : List V} {i : Nat} {v : V}, DpAll K H vs ds → vs[i]? = some v → ∃ d, ds[i]? = some d ∧ Dp K H v d
  | [], _, _, _, h, e => by cases h; simp at e
  | d :: ds, _, 0, _, h, e => by
    cases h with
    | cons h1 h2 => simp at e; subst e; exact ⟨_, rfl, h1⟩
  | d :: ds, _, i + 1, _, h, e => by
    cases h with
    | cons h1 h2 =>
      obtain ⟨v, h3, h4⟩ := DpAll.getV (i := i) h2 (by simpa using e)
      exact ⟨v, by simpa using h3, h4⟩
theorem DpAll.app : ∀ {ds es : List PyData} {vs us : List V}, DpAll K H vs ds → DpAll K H us es → DpAll K H (vs ++ us) (ds ++ es)
  | [], _, _, _, h, q => by cases h; exact q
  | d :: ds, _, _, _, h, q => by
    cases h with
    | cons h1 h2 => exact .cons h1 (DpAll.app h2 q)
theorem DpAll.take : ∀ {ds : List PyData} {vs : List V} (n : Nat), DpAll K H vs ds → DpAll K H (vs.take n) (ds.take n)
  | _, _, 0, _ => .nil
  | [], _, n + 1, h => by cases h; exact .nil
  | d :: ds, _, n + 1, h => by
    cases h with
    | cons h1 h2 => exact .cons h1 (DpAll.take n h2)
theorem DpAll.drop : ∀ {ds : List PyData} {vs : List V} (n : Nat), DpAll K H vs ds → DpAll K H (vs.drop n) (ds.drop n)
  | _, _, 0, h => h
  | [], _, n + 1, h => by cases h; exact .nil
  | d :: ds, _, n + 1, h => by
    cases h with
    | cons h1 h2 => exact DpAll.drop n h2
theorem DpAll.set : ∀ {ds : List PyData} {vs : List V} (n : Nat) {v : V} {d : PyData}, DpAll K H vs ds → Dp K H v d → DpAll K H (vs.set n v) (ds.set n d)
  | [], _, _, _, _, h, _ => by cases h; exact .nil
  | d :: ds, _, 0, _, _, h, q => by
    cases h with
    | cons h1 h2 => exact .cons q h2
  | d :: ds, _, n + 1, _, _, h, q => by
    cases h with
    | cons h1 h2 => exact .cons h1 (DpAll.set n h2 q)
theorem lfAll_take {ds : List PyData} (n : Nat) (h : lfAll ds = true) : lfAll (ds.take n) = true := lfAll_iff.mpr fun d m => lfAll_iff.mp h d (List.mem_of_mem_take m)
theorem lfAll_drop {ds : List PyData} (n : Nat) (h : lfAll ds = true) : lfAll (ds.drop n) = true := lfAll_iff.mpr fun d m => lfAll_iff.mp h d (List.mem_of_mem_drop m)
theorem lfAll_set {ds : List PyData} (n : Nat) {d : PyData} (h : lfAll ds = true) (f : lf d = true) : lfAll (ds.set n d) = true := lfAll_iff.mpr fun e m => by
  rcases List.mem_or_eq_of_mem_set m with m | m
  · exact lfAll_iff.mp h e m
  · rw [m]; exact f
theorem DpAll.ofInts : ∀ (ns : List Int), DpAll K H (ns.map V.int) (ns.map PyData.int)
  | [] => .nil
  | n :: ns => .cons (.int n) (DpAll.ofInts ns)
end
end L2
namespace Cs
open PySem PySem.Spec PyProof.Rows L2
/-! ### plain programs -/
inductive M (α : Type) where
  | ret (a : α)
  | fail
  | draw (m : Int) (k : Int → M α)
  | any (p : PyData → Prop) (k : PyData → M α)
def M.bind {α β : Type} : M α → (α → M β) → M β
  | .ret a, f => f a
  | .fail, _ => .fail
  | .draw m k, f => .draw m fun v => (k v).bind f
  | .any p k, f => .any p fun v => (k v).bind f
def wp0 {α : Type} : M α → (α → Prop) → Prop
  | .ret a, Q => Q a
  | .fail, _ => False
  | .draw m k, Q => ∀ v, 0 ≤ v → v < max m 1 → wp0 (k v) Q
  | .any p k, Q => ∀ d, p d → wp0 (k d) Q
@[simp] theorem M.ret_bind {α β : Type} (a : α) (f : α → M β) : (M.ret a).bind f = f a := rfl
@[simp] theorem M.fail_bind {α β : Type} (f : α → M β) : (M.fail : M α).bind f = .fail := rfl
@[simp] theorem M.draw_bind {α β : Type} (m : Int) (k : Int → M α) (f : α → M β) : (M.draw m k).bind f = .draw m fun v => (k v).bind f := rfl
@[simp] theorem M.any_bind {α β : Type} (p : PyData → Prop) (k : PyData → M α) (f : α → M β) : (M.any p k).bind f = .any p fun v => (k v).bind f := rfl
@[simp] theorem wp0_ret {α : Type} (a : α) (Q : α → Prop) : wp0 (.ret a) Q = Q a := rfl
theorem wp0_mono {α : Type} {Q Q' : α → Prop} (h : ∀ a, Q a → Q' a) : ∀ {m : M α}, wp0 m Q → wp0 m Q'
  | .ret a, q => h a q
  | .fail, q => q
  | .draw m k, q => fun v h0 h1 => wp0_mono h (q v h0 h1)
  | .any p k, q => fun d h0 => wp0_mono h (q d h0)
theorem wp0_bind {α β : Type} {f : α → M β} {Q : β → Prop} : ∀ {m : M α}, wp0 (m.bind f) Q ↔ wp0 m fun a => wp0 (f a) Q
  | .ret a => Iff.rfl
  | .fail => Iff.rfl
  | .draw m k => ⟨fun q v h0 h1 => wp0_bind.mp (q v h0 h1), fun q v h0 h1 => wp0_bind.mpr (q v h0 h1)⟩
  | .any p k => ⟨fun q d h0 => wp0_bind.mp (q d h0), fun q d h0 => wp0_bind.mpr (q d h0)⟩
theorem M.bind_assoc {α β γ : Type} (f : α → M β) (g : β → M γ) : ∀ m : M α, (m.bind f).bind g = m.bind fun a => (f a).bind g
  | .ret a => rfl
  | .fail => rfl
  | .draw m k => by simp only [draw_bind, M.bind_assoc f g]
  | .any p k => by simp only [any_bind, M.bind_assoc f g]
/-- an object that may change -/
inductive PO where
  | lst (ds : List PyData)
/-- what a slot holds: data, an object of this def's own, one that is lent, the tape -/
inductive C where
  | val (d : PyData)
  | own (o : PO)
  | bor (o : PO)
  | tape
abbrev Ro := List (Option C)
section
variable (tp : Option (Addr × Addr)) (K : PySem.W.Frag)
def GrT (H H' : Hp) : Prop := ∀ b o, H b = some o → tp.map (·.1) ≠ some b → H' b = some o
/-- not the tape's -/
def TNe (a : Addr) : Prop := ∀ t l, tp = some (t, l) → a ≠ t ∧ a ≠ l
def TOk (H : Hp) : Prop := ∀ t l, tp = some (t, l) → TapeAt H t l
def BorL (H : Hp) (b : Addr) (vs : List V) : Prop := Rd H b (.lst vs) ∧ tp.map (·.1) ≠ some b
def OwnO (H : Hp) (a : Addr) : PO → Prop
  | .lst ds => ∃ vs, H a = some (.lst vs) ∧ DpAll K H vs ds ∧ lfAll ds = true
def BorO (H : Hp) (a : Addr) : PO → Prop
  | .lst ds => ∃ vs, BorL tp H a vs ∧ DpAll K H vs ds ∧ lfAll ds = true
def RC (H0 H : Hp) (v : V) : C → Prop
  | .val d => Dp K H v d ∧ lf d = true
  | .own o => ∃ a, v = .ref a ∧ H0 a = none ∧ TNe tp a ∧ OwnO K H a o
  | .bor o => ∃ a, v = .ref a ∧ BorO tp K H a o
  | .tape => ∃ t l, tp = some (t, l) ∧ v = .ref t
/-- what a slot bears: Hq is what the def leaves as it is -/
def SR (Hq H : Hp) (v : V) : C → Prop
  | .val d => Dp K H v d ∧ lf d = true
  | .own o => ∃ a, v = .ref a ∧ Hq a = none ∧ TNe tp a ∧ OwnO K H a o
  | .bor o => ∃ a, v = .ref a ∧ BorO tp K Hq a o
  | .tape => ∃ t l, tp = some (t, l) ∧ v = .ref t
structure Rel (He Hq H : Hp) (σ : L2.St) (ρ : Ro) : Prop where
  len : σ.length = ρ.length
  at_ : ∀ (i : Nat) (c : C), ρ[i]? = some (some c) → ∃ v, σ[i]? = some (some v) ∧ SR tp K Hq H v c
  dist : ∀ (i j : Nat) (a : Addr) (o o' : PO), ρ[i]? = some (some (.own o)) → ρ[j]? = some (some (.own o')) → σ[i]? = some (some (.ref a)) → σ[j]? = some (some (.ref a)) → i = j
  sub : GrT tp He Hq
  gr : GrT tp Hq H
  tok : TOk tp H
  he : ∀ (t l : Addr), tp = some (t, l) → Hq t = none ∨ ∃ xs, Hq t = some (.lst xs)
end
section
variable {tp : Option (Addr × Addr)} {K : PySem.W.Frag} {H H' H'' H0 H1 He : Hp} {Hq : Hp} {σ : L2.St} {ρ : Ro}
theorem GrT.refl : GrT tp H H := fun _ _ e _ => e
theorem GrT.trans (a : GrT tp H H') (b : GrT tp H' H'') : GrT tp H H'' := fun c o e n => b c o (a c o e n) n
theorem GrT.of (a : Same H H') : GrT tp H H' := fun b o e _ => a b o e
theorem GrT.im (g : GrT tp H H') (t : TOk tp H) : Im H H' := by
  cases tp with
  | none => exact Im.same fun b o e => g b o e (by simp)
  | some q =>
    obtain ⟨a, l⟩ := q
    exact (t a l rfl).im fun b o e n => g b o e (by simpa using fun z => n z.symm)
theorem GrT.free (g : GrT tp H H') (t : TOk tp H') {b : Addr} (h : H' b = none) : H b = none := by
  cases e : H b with
  | none => rfl
  | some o =>
    by_cases q : tp.map (·.1) = some b
    · cases tp with
      | none => simp at q
      | some r =>
        obtain ⟨a, l⟩ := r
        obtain ⟨xs, e2⟩ := (t a l rfl).list
        have : a = b := by simpa using q
        subst this
        rw [h] at e2
        cases e2
    · rw [g b o e q] at h
      cases h
theorem TOk.same (t : TOk tp H) (e : Same H H') : TOk tp H' := fun a l h => (t a l h).same e
theorem TNe.ne {a : Addr} (h : TNe tp a) : tp.map (·.1) ≠ some a := by
  cases tp with
  | none => simp
  | some r =>
    obtain ⟨t, l⟩ := r
    simpa using fun z => (h t l rfl).1 z.symm
theorem TOk.tne (t : TOk tp H) {p : Addr} (h : H p = none) : TNe tp p := fun a l e => ⟨(t a l e).ne_t h, (t a l e).ne_l h⟩
theorem TOk.ne (t : TOk tp H) {p : Addr} (h : H p = none) : tp.map (·.1) ≠ some p := by
  cases tp with
  | none => simp
  | some r =>
    obtain ⟨a, l⟩ := r
    have := (t a l rfl).ne_t h
    simpa using fun z => this z.symm
theorem BorL.gr {b : Addr} {vs : List V} (h : BorL tp H b vs) (g : GrT tp H H') : BorL tp H' b vs := by
  rcases h with ⟨h | ⟨o, h⟩, n⟩
  · exact ⟨.inl (g _ _ h n), n⟩
  · exact ⟨.inr ⟨o, g _ _ h n⟩, n⟩
theorem BorL.sq {b : Addr} {vs : List V} (h : BorL tp H b vs) : SqL K H b vs := by
  exact .inl h.1
theorem OwnO.gr {a : Addr} {o : PO} (h : OwnO K H a o) (g : GrT tp H H') (t : TOk tp H) (n : TNe tp a) : OwnO K H' a o := by
  cases o with
  | lst ds =>
    obtain ⟨vs, h1, h2, h3⟩ := h
    exact ⟨vs, g _ _ h1 n.ne, h2.imlf (g.im t) ds _ h3, h3⟩
theorem BorO.gr {a : Addr} {o : PO} (h : BorO tp K H a o) (g : GrT tp H H') (t : TOk tp H) : BorO tp K H' a o := by
  cases o with
  | lst ds =>
    obtain ⟨vs, h1, h2, h3⟩ := h
    exact ⟨vs, h1.gr g, h2.imlf (g.im t) ds _ h3, h3⟩
theorem OwnO.bor {a : Addr} {o : PO} (h : OwnO K H a o) (n : TNe tp a) : BorO tp K H a o := by
  cases o with
  | lst ds =>
    obtain ⟨vs, h1, h2, h3⟩ := h
    exact ⟨vs, ⟨.inl h1, n.ne⟩, h2, h3⟩
theorem RC.gr {v : V} {c : C} (h : RC tp K H0 H v c) (g : GrT tp H H') (t : TOk tp H) : RC tp K H0 H' v c := by
  cases c with
  | val d => exact ⟨h.1.imlf (g.im t) d _ h.2, h.2⟩
  | own o =>
    obtain ⟨a, e, f, n, h⟩ := h
    exact ⟨a, e, f, n, h.gr g t n⟩
  | bor o =>
    obtain ⟨a, e, h⟩ := h
    exact ⟨a, e, h.gr g t⟩
  | tape => exact h
theorem RC.base {v : V} {c : C} (h : RC tp K H1 H v c) (g : GrT tp H0 H1) (t : TOk tp H1) : RC tp K H0 H v c := by
  cases c with
  | val d => exact h
  | own o =>
    obtain ⟨a, e, f, n, h⟩ := h
    exact ⟨a, e, g.free t f, n, h⟩
  | bor o => exact h
  | tape => exact h
theorem SR.gr {v : V} {c : C} (h : SR tp K Hq H v c) (g : GrT tp H H') (t : TOk tp H) : SR tp K Hq H' v c := by
  cases c with
  | val d => exact ⟨h.1.imlf (g.im t) d _ h.2, h.2⟩
  | own o =>
    obtain ⟨a, e, f, n, h⟩ := h
    exact ⟨a, e, f, n, h.gr g t n⟩
  | bor o => exact h
  | tape => exact h
theorem Rel.go (r : Rel tp K He Hq H σ ρ) (g : GrT tp H H') (t : TOk tp H') : Rel tp K He Hq H' σ ρ :=
  ⟨r.len, fun i c e => let ⟨v, h1, h2⟩ := r.at_ i c e; ⟨v, h1, h2.gr g r.tok⟩, r.dist, r.sub, r.gr.trans g, t, r.he⟩
/-- data that a thing reads as -/
def PO.dat : PO → Option PyData
  | .lst ds => some (.list ds)
def C.dat : C → Option PyData
  | .val d => some d
  | .own o => o.dat
  | .bor o => o.dat
  | .tape => none
theorem RC.dp {v : V} {c : C} {d : PyData} (h : RC tp K H0 H v c) (e : c.dat = some d) : Dp K H v d := by
  cases c with
  | val d' => cases e; exact h.1
  | own o =>
    obtain ⟨a, rfl, _, _, h⟩ := h
    cases o with
    | lst ds =>
      cases e
      obtain ⟨vs, h1, h2, _⟩ := h
      exact .lst (SqL.of h1) h2
  | bor o =>
    obtain ⟨a, rfl, h⟩ := h
    cases o with
    | lst ds =>
      cases e
      obtain ⟨vs, h1, h2, _⟩ := h
      exact .lst h1.sq h2
  | tape => cases e
/-- what follows an expression -/
def Post (tp : Option (Addr × Addr)) (K : PySem.W.Frag) (H : Hp) (Q : VK) (c : C) : Prop := ∀ v H', GrT tp H H' → TOk tp H' → RC tp K H H' v c → Q v H'
/-- the reading t is served by the plain program g -/
def RE (K : PySem.W.Frag) (t : TE) (g : Ro → M C) : Prop := ∀ tp He Hq ρ σ H Q, Rel tp K He Hq H σ ρ → wp0 (g ρ) (Post tp K H Q) → t σ H Q
def PostB (tp : Option (Addr × Addr)) (H : Hp) (Q : Bool → Hp → Prop) (b : Bool) : Prop := ∀ H', GrT tp H H' → TOk tp H' → Q b H'
def RT (K : PySem.W.Frag) (t : TT) (g : Ro → M Bool) : Prop := ∀ tp He Hq ρ σ H Q, Rel tp K He Hq H σ ρ → wp0 (g ρ) (PostB tp H Q) → t σ H Q
def RCs (tp : Option (Addr × Addr)) (K : PySem.W.Frag) (H0 H : Hp) : List V → List C → Prop
  | [], [] => True
  | v :: vs, c :: cs => RC tp K H0 H v c ∧ RCs tp K H0 H vs cs
  | _, _ => False
def PostA (tp : Option (Addr × Addr)) (K : PySem.W.Frag) (H : Hp) (Q : List V → Hp → Prop) (cs : List C) : Prop := ∀ vs H', GrT tp H H' → TOk tp H' → RCs tp K H H' vs cs → Q vs H'
def RA (K : PySem.W.Frag) (t : TA) (g : Ro → M (List C)) : Prop := ∀ tp He Hq ρ σ H Q, Rel tp K He Hq H σ ρ → wp0 (g ρ) (PostA tp K H Q) → t σ H Q
/-- behind one expression, another -/
theorem Post.step {m : M C} {P Q : C → Prop} (h : wp0 m P) (k : ∀ c, P c → Q c) : wp0 m Q := wp0_mono k h
/-! ### names and constants -/
def gVar (i : Nat) (ρ : Ro) : M C := match ρ[i]? with
  | some (some (.own o)) => .ret (.bor o)
  | some (some c) => .ret c
  | _ => .fail
theorem Rel.im (r : Rel tp K He Hq H σ ρ) : Im Hq H := by
  have n : ∀ b o, Hq b = some o → (∀ xs, o ≠ .lst xs) → tp.map (·.1) ≠ some b := fun b o e h z => by
    cases tp with
    | none => simp at z
    | some w =>
      obtain ⟨t, l⟩ := w
      have : t = b := by simpa using z
      subst this
      rcases r.he t l rfl with q | ⟨xs, q⟩
      · rw [q] at e; cases e
      · rw [q] at e; cases e; exact h xs rfl
  exact ⟨fun b xs e => r.gr b _ e (n b _ e fun _ z => by cases z), fun b o u e => r.gr b _ e (n b _ e fun _ z => by cases z)⟩
theorem Rel.bor (r : Rel tp K He Hq H σ ρ) {a : Addr} {o : PO} (h : BorO tp K Hq a o) : BorO tp K H a o := by
  cases o with
  | lst ds =>
    obtain ⟨vs, h1, h2, h3⟩ := h
    exact ⟨vs, h1.gr r.gr, h2.imlf r.im ds _ h3, h3⟩
def C.lend : C → C
  | .own o => .bor o
  | c => c
theorem RC.lend {v : V} {c : C} (h : RC tp K H0 H v c) : RC tp K H1 H v c.lend := by
  cases c with
  | val d => exact h
  | own o =>
    obtain ⟨a, e, f, n, h⟩ := h
    exact ⟨a, e, h.bor n⟩
  | bor o => exact h
  | tape => exact h
theorem Rel.var (r : Rel tp K He Hq H σ ρ) {i : Nat} {c : C} (e : ρ[i]? = some (some c)) : ∃ v, σ[i]? = some (some v) ∧ RC tp K H H v c.lend := by
  obtain ⟨v, h1, h2⟩ := r.at_ i c e
  refine ⟨v, h1, ?_⟩
  cases c with
  | val d => exact h2
  | own o =>
    obtain ⟨a, e, f, n, h⟩ := h2
    exact ⟨a, e, h.bor n⟩
  | bor o =>
    obtain ⟨a, e, h⟩ := h2
    exact ⟨a, e, r.bor h⟩
  | tape => exact h2
theorem re_var {i : Nat} : RE K (tVar i) (gVar i) := by
  intro tp He Hq ρ σ H Q r h
  unfold gVar at h
  split at h
  · rename_i o e
    obtain ⟨v, h1, h2⟩ := r.var e
    exact ⟨v, h1, h v H .refl r.tok h2⟩
  · rename_i e
    obtain ⟨v, h1, h2⟩ := r.var e
    refine ⟨v, h1, h v H .refl r.tok ?_⟩
    rename_i c' n
    cases c' with
    | own o => exact absurd rfl (n o)
    | val d => exact h2
    | bor d => exact h2
    | tape => exact h2
  · exact h.elim
def gC (d : PyData) (_ : Ro) : M C := .ret (.val d)
theorem re_con {v : V} {d : PyData} (h : ∀ H, Dp K H v d) (f : lf d = true) : RE K (tC v) (gC d) := fun tp He Hq ρ σ H Q r q => q v H .refl r.tok ⟨h H, f⟩
theorem re_int {i : Int} : RE K (tC (.int i)) (gC (.int i)) := re_con (fun _ => .int i) rfl
theorem re_str {x : Str} : RE K (tC (.str x)) (gC (.str x)) := re_con (fun _ => .str x) rfl
theorem re_bl {b : Bool} : RE K (tC (.bl b)) (gC (.bool b)) := re_con (fun _ => .bl b) rfl
theorem re_non : RE K (tC .non) (gC .none) := re_con (fun _ => .non) rfl
/-! ### arguments, displays -/
def gaNil (_ : Ro) : M (List C) := .ret []
def gaCons (g : Ro → M C) (gs : Ro → M (List C)) (ρ : Ro) : M (List C) := (g ρ).bind fun c => (gs ρ).bind fun cs => .ret (c :: cs)
theorem RCs.gr : ∀ {vs : List V} {cs : List C}, RCs tp K H0 H vs cs → GrT tp H H' → TOk tp H → RCs tp K H0 H' vs cs
  | [], [], _, _, _ => trivial
  | v :: vs, c :: cs, h, g, t => ⟨h.1.gr g t, RCs.gr h.2 g t⟩
  | [], _ :: _, h, _, _ => h.elim
  | _ :: _, [], h, _, _ => h.elim
theorem RCs.base : ∀ {vs : List V} {cs : List C}, RCs tp K H1 H vs cs → GrT tp H0 H1 → TOk tp H1 → RCs tp K H0 H vs cs
  | [], [], _, _, _ => trivial
  | v :: vs, c :: cs, h, g, t => ⟨h.1.base g t, RCs.base h.2 g t⟩
  | [], _ :: _, h, _, _ => h.elim
  | _ :: _, [], h, _, _ => h.elim
theorem ra_nil : RA K tNil gaNil := fun tp He Hq ρ σ H Q r q => q [] H .refl r.tok trivial
theorem ra_cons {t : TE} {u : TA} {g : Ro → M C} {gs : Ro → M (List C)} (h1 : RE K t g) (h2 : RA K u gs) : RA K (tCons t u) (gaCons g gs) := by
  intro tp He Hq ρ σ H Q r h
  refine h1 tp He Hq ρ σ H _ r (wp0_mono (fun c hc => ?_) (wp0_bind.mp h))
  intro x H1 g1 t1 rc
  refine h2 tp He Hq ρ σ H1 _ (r.go g1 t1) (wp0_mono (fun cs hcs => ?_) (wp0_bind.mp hc))
  intro xs H2 g2 t2 rcs
  exact hcs (x :: xs) H2 (g1.trans g2) t2 ⟨rc.gr g2 t1, rcs.base g1 t1⟩
def datas : List C → Option (List PyData)
  | [] => some []
  | .val d :: cs => (datas cs).map (d :: ·)
  | _ :: _ => none
theorem datas_dp : ∀ {vs : List V} {cs : List C} {ds : List PyData}, RCs tp K H0 H vs cs → datas cs = some ds → DpAll K H vs ds ∧ lfAll ds = true
  | [], [], ds, _, e => by cases e; exact ⟨.nil, rfl⟩
  | v :: vs, .val d :: cs, ds, h, e => by
    unfold datas at e
    cases q : datas cs with
    | none => rw [q] at e; cases e
    | some es =>
      rw [q] at e
      cases e
      obtain ⟨a1, a2⟩ := datas_dp h.2 q
      exact ⟨.cons h.1.1 a1, by simp only [lfAll, Bool.and_eq_true]; exact ⟨h.1.2, a2⟩⟩
  | _ :: _, .own _ :: _, _, _, e => by cases e
  | _ :: _, .bor _ :: _, _, _, e => by cases e
  | _ :: _, .tape :: _, _, _, e => by cases e
  | [], _ :: _, _, h, _ => h.elim
  | _ :: _, [], _, h, _ => h.elim
/-- lengths that the model holds -/
def lenOk (n : Nat) : Bool := decide (n ≤ 16777216)
theorem lenOk_le {n : Nat} (h : lenOk n = true) : n ≤ sizeLine := by rw [show sizeLine = 16777216 by decide]; exact of_decide_eq_true h
def oTup (cs : List C) : M C := match datas cs with
  | some ds => if lenOk ds.length = true then .ret (.val (.tuple ds)) else .fail
  | none => .fail
def oLst (cs : List C) : M C := match datas cs with
  | some ds => if lenOk ds.length = true then .ret (.own (.lst ds)) else .fail
  | none => .fail
def gTupE (gs : Ro → M (List C)) (ρ : Ro) : M C := (gs ρ).bind oTup
def gLst (gs : Ro → M (List C)) (ρ : Ro) : M C := (gs ρ).bind oLst
theorem re_tup {u : TA} {gs : Ro → M (List C)} (h1 : RA K u gs) : RE K (tTup u) (gTupE gs) := by
  intro tp He Hq ρ σ H Q r h
  refine h1 tp He Hq ρ σ H _ r (wp0_mono (fun cs hcs => ?_) (wp0_bind.mp h))
  intro xs H1 g1 t1 rc
  unfold oTup at hcs
  split at hcs
  · rename_i ds e
    obtain ⟨a1, a2⟩ := datas_dp rc e
    split at hcs
    · rename_i l
      refine ⟨by rw [a1.len]; exact lenOk_le l, fun p hp => hcs _ _ (g1.trans (.of (Same.new hp))) (t1.same (Same.new hp)) ⟨.tup (SqT.of upd_same) (a1.imlf (Im.new hp) ds _ a2), by simp only [lf]; exact a2⟩⟩
    · exact hcs.elim
  · exact hcs.elim
theorem re_lst {u : TA} {gs : Ro → M (List C)} (h1 : RA K u gs) : RE K (tLst u) (gLst gs) := by
  intro tp He Hq ρ σ H Q r h
  refine h1 tp He Hq ρ σ H _ r (wp0_mono (fun cs hcs => ?_) (wp0_bind.mp h))
  intro xs H1 g1 t1 rc
  unfold oLst at hcs
  split at hcs
  · rename_i ds e
    obtain ⟨a1, a2⟩ := datas_dp rc e
    split at hcs
    · rename_i l
      refine ⟨by rw [a1.len]; exact lenOk_le l, fun p hp => hcs _ _ (g1.trans (.of (Same.new hp))) (t1.same (Same.new hp)) ⟨p, rfl, g1.free t1 hp, t1.tne hp, xs, upd_same, a1.imlf (Im.new hp) ds _ a2, a2⟩⟩
    · exact hcs.elim
  · exact hcs.elim
end
end Cs

set_option maxRecDepth 100000
set_option maxHeartbeats 4000000
/-! operators by values -/
namespace Cs
open PySem PySem.Spec PyProof.Rows L2
section
variable {tp : Option (Addr × Addr)} {K : PySem.W.Frag} {H H' H'' H0 H1 He : Hp} {Hq : Hp} {σ : L2.St} {ρ : Ro}
def OpS (K : PySem.W.Frag) (r : R2) (op : C → C → M C) : Prop := ∀ tp H0 H x y cx cy Q, GrT tp H0 H → TOk tp H → RC tp K H0 H x cx → RC tp K H0 H y cy → wp0 (op cx cy) (Post tp K H0 Q) → r x y H Q
def gOp (op : C → C → M C) (ga gb : Ro → M C) (ρ : Ro) : M C := (ga ρ).bind fun a => (gb ρ).bind fun b => op a b
theorem re_op {r : R2} {op : C → C → M C} {ta tb : TE} {ga gb : Ro → M C} (ho : OpS K r op) (ha : RE K ta ga) (hb : RE K tb gb) : RE K (tOp r ta tb) (gOp op ga gb) := by
  intro tp He Hq ρ σ H Q rl h
  refine ha tp He Hq ρ σ H _ rl (wp0_mono (fun a h1 => ?_) (wp0_bind.mp h))
  intro x H1 g1 t1 rx
  refine hb tp He Hq ρ σ H1 _ (rl.go g1 t1) (wp0_mono (fun b h2 => ?_) (wp0_bind.mp h1))
  intro y H2 g2 t2 ry
  exact ho tp H H2 x y a b Q (g1.trans g2) t2 (rx.gr g2 t1) (ry.base g1 t1) h2
def UnS (K : PySem.W.Frag) (r : V → Hp → VK → Prop) (op : C → M C) : Prop := ∀ tp H0 H x cx Q, GrT tp H0 H → TOk tp H → RC tp K H0 H x cx → wp0 (op cx) (Post tp K H0 Q) → r x H Q
def gUn (op : C → M C) (ga : Ro → M C) (ρ : Ro) : M C := (ga ρ).bind op
theorem re_un {r : V → Hp → VK → Prop} {op : C → M C} {ta : TE} {ga : Ro → M C} (ho : UnS K r op) (ha : RE K ta ga) : RE K (tUn r ta) (gUn op ga) := by
  intro tp He Hq ρ σ H Q rl h
  refine ha tp He Hq ρ σ H _ rl (wp0_mono (fun a h1 => ?_) (wp0_bind.mp h))
  intro x H1 g1 t1 rx
  exact ho tp H H1 x a Q g1 t1 rx h1
/-- a flat answer, the heap as it is -/
theorem Post.at_ {Q : VK} {c : C} {v : V} (p : Post tp K H0 Q c) (g : GrT tp H0 H) (t : TOk tp H) (r : RC tp K H0 H v c) : Q v H := p v H g t r
theorem Post.int {Q : VK} {i : Int} (p : Post tp K H0 Q (.val (.int i))) (g : GrT tp H0 H) (t : TOk tp H) : Q (.int i) H := p _ H g t ⟨.int i, rfl⟩
theorem Post.bl {Q : VK} {b : Bool} (p : Post tp K H0 Q (.val (.bool b))) (g : GrT tp H0 H) (t : TOk tp H) : Q (.bl b) H := p _ H g t ⟨.bl b, rfl⟩
theorem Post.str {Q : VK} {b : Str} (p : Post tp K H0 Q (.val (.str b))) (g : GrT tp H0 H) (t : TOk tp H) : Q (.str b) H := p _ H g t ⟨.str b, rfl⟩
theorem Post.non {Q : VK} (p : Post tp K H0 Q (.val .none)) (g : GrT tp H0 H) (t : TOk tp H) : Q .non H := p _ H g t ⟨.non, rfl⟩
theorem Post.tup {Q : VK} {ds : List PyData} {vs : List V} {a : Addr} (p : Post tp K H0 Q (.val (.tuple ds))) (g : GrT tp H0 H) (t : TOk tp H) (n : H a = none) (h : DpAll K H vs ds) (f : lfAll ds = true) : Q (.ref a) (upd H a (.tup vs)) :=
  p _ _ (g.trans (.of (Same.new n))) (t.same (Same.new n)) ⟨.tup (SqT.of upd_same) (h.imlf (Im.new n) ds _ f), by simp only [lf]; exact f⟩
theorem Post.lst {Q : VK} {ds : List PyData} {vs : List V} {a : Addr} (p : Post tp K H0 Q (.own (.lst ds))) (g : GrT tp H0 H) (t : TOk tp H) (n : H a = none) (h : DpAll K H vs ds) (f : lfAll ds = true) : Q (.ref a) (upd H a (.lst vs)) :=
  p _ _ (g.trans (.of (Same.new n))) (t.same (Same.new n)) ⟨a, rfl, g.free t n, t.tne n, vs, upd_same, h.imlf (Im.new n) ds _ f, f⟩
theorem RC.int {v : V} {i : Int} (h : RC tp K H0 H v (.val (.int i))) : v = .int i := by obtain ⟨h, _⟩ := h; cases h; rfl
theorem RC.bl {v : V} {i : Bool} (h : RC tp K H0 H v (.val (.bool i))) : v = .bl i := by obtain ⟨h, _⟩ := h; cases h; rfl
theorem RC.str {v : V} {i : Str} (h : RC tp K H0 H v (.val (.str i))) : v = .str i := by obtain ⟨h, _⟩ := h; cases h; rfl
theorem RC.non {v : V} (h : RC tp K H0 H v (.val .none)) : v = .non := by obtain ⟨h, _⟩ := h; cases h; rfl
theorem RC.tup {v : V} {ds : List PyData} (h : RC tp K H0 H v (.val (.tuple ds))) : ∃ a vs, v = .ref a ∧ SqT K H a vs ∧ DpAll K H vs ds ∧ lfAll ds = true := by
  obtain ⟨h, f⟩ := h
  cases h with
  | tup h1 h2 => exact ⟨_, _, rfl, h1, h2, by simpa only [lf] using f⟩
/-- a list, read -/
def C.items : C → Option (List PyData)
  | .own (.lst ds) => some ds
  | .bor (.lst ds) => some ds
  | _ => none
theorem RC.rd {v : V} {c : C} {ds : List PyData} (h : RC tp K H0 H v c) (e : c.items = some ds) : ∃ a vs, v = .ref a ∧ Rd H a (.lst vs) ∧ DpAll K H vs ds ∧ lfAll ds = true := by
  cases c with
  | val d => cases e
  | tape => cases e
  | own o =>
    cases o with
    | lst es =>
      cases e
      obtain ⟨a, rfl, _, _, vs, h1, h2, h3⟩ := h
      exact ⟨a, vs, rfl, .inl h1, h2, h3⟩
  | bor o =>
    cases o with
    | lst es =>
      cases e
      obtain ⟨a, rfl, vs, h1, h2, h3⟩ := h
      exact ⟨a, vs, rfl, h1.1, h2, h3⟩
/-! ### + -/
def rCatR : R2 := fun x y H Q => ∃ l b xs zs, x = .ref l ∧ y = .ref b ∧ Rd H l (.lst xs) ∧ Rd H b (.lst zs) ∧ xs.length + zs.length ≤ sizeLine ∧ ∀ p, H p = none → Q (.ref p) (upd H p (.lst (xs ++ zs)))
theorem op_catR {X : Cx} : OpR X (binaryOp .Add) rCatR := by
  intro pins s σ H x y v u Q I rx ry h
  obtain ⟨l, b, xs, zs, rfl, rfl, hH, hB, hz, q⟩ := h
  cases rx
  cases ry
  obtain ⟨z, its, n, r, e⟩ := hH.ok I.hok
  obtain ⟨z2, its2, n2, r2, e2⟩ := hB.ok I.hok
  have hl := r.length
  have hl2 := r2.length
  refine PySem.P.add_list e e2 ?_ (by rw [List.size_toArray, List.size_toArray]; omega)
  have ea : its.toArray ++ its2.toArray = (its ++ its2).toArray := by simp
  rw [ea]
  exact ⟨.ref _, _, I.lnew (t' := s.toks) (r.append r2) (by rw [List.length_append]; omega), rfl, q _ I.fresh⟩
def rAddS : R2 := fun x y H Q => ∃ i j, x = .str i ∧ y = .str j ∧ i.length + j.length ≤ sizeLine ∧ Q (.str (i ++ j)) H
def rAddU (K : PySem.W.Frag) : R2 := fun x y H Q => rI0 (fun i j => .int (i + j)) x y H Q ∨ rAddS x y H Q ∨ rCatA K x y H Q ∨ rCatR x y H Q
theorem opAdd (K : PySem.W.Frag) {X : Cx} (h : X.K = K := by rfl) : OpR X (binaryOp .Add) (rAddU K) := by
  subst h
  intro pins s σ H x y v u Q I rx ry h
  rcases h with h | h | h | h
  · exact op_add pins s σ H x y v u Q I rx ry h
  · exact op_add_str pins s σ H x y v u Q I rx ry h
  · exact op_catA pins s σ H x y v u Q I rx ry h
  · exact op_catR pins s σ H x y v u Q I rx ry h
def addL : Option (List PyData) → Option (List PyData) → M C
  | some ds, some es => if lenOk (ds.length + es.length) = true then .ret (.own (.lst (ds ++ es))) else .fail
  | _, _ => .fail
def oAdd : C → C → M C
  | .val (.int i), .val (.int j) => .ret (.val (.int (i + j)))
  | .val (.str i), .val (.str j) => if lenOk (i.length + j.length) = true then .ret (.val (.str (i ++ j))) else .fail
  | .val (.tuple ds), .val (.tuple es) => if lenOk (ds.length + es.length) = true then .ret (.val (.tuple (ds ++ es))) else .fail
  | cx, cy => addL cx.items cy.items
theorem addL_ok {x y : V} {cx cy : C} {Q : VK} (g : GrT tp H0 H) (t : TOk tp H) (rx : RC tp K H0 H x cx) (ry : RC tp K H0 H y cy) (h : wp0 (addL cx.items cy.items) (Post tp K H0 Q)) : rAddU K x y H Q := by
  unfold addL at h
  split at h
  · rename_i ds es e1 e2
    obtain ⟨a, vs, rfl, q1, q2, q3⟩ := rx.rd e1
    obtain ⟨b, us, rfl, p1, p2, p3⟩ := ry.rd e2
    split at h
    · rename_i l
      exact .inr (.inr (.inr ⟨a, b, vs, us, rfl, rfl, q1, p1, by rw [q2.len, p2.len]; exact lenOk_le l, fun p hp => Post.lst h g t hp (q2.app p2) (lfAll_app q3 p3)⟩))
    · exact h.elim
  · exact h.elim
theorem os_add : OpS K (rAddU K) oAdd := by
  intro tp H0 H x y cx cy Q g t rx ry h
  unfold oAdd at h
  split at h
  · rename_i i j
    cases rx.int; cases ry.int
    exact .inl ⟨i, j, rfl, rfl, Post.int h g t⟩
  · rename_i i j
    cases rx.str; cases ry.str
    split at h
    · rename_i l
      exact .inr (.inl ⟨i, j, rfl, rfl, lenOk_le l, Post.str h g t⟩)
    · exact h.elim
  · rename_i ds es
    obtain ⟨a, vs, rfl, q1, q2, q3⟩ := rx.tup
    obtain ⟨b, us, rfl, p1, p2, p3⟩ := ry.tup
    split at h
    · rename_i l
      refine .inr (.inr (.inl ⟨a, b, vs, us, rfl, rfl, q1, p1, by rw [q2.len, p2.len]; exact lenOk_le l, fun e => ?_, fun _ e => ?_, fun _ _ p hp => Post.tup h g t hp (q2.app p2) (lfAll_app q3 p3)⟩))
      · subst e
        cases q2
        exact Post.at_ h g t ry
      · subst e
        cases p2
        rw [List.append_nil] at h
        exact Post.at_ h g t rx
    · exact h.elim
  · exact addL_ok g t rx ry h
/-! ### - * // % ** -/
def oInt (f : Int → Int → PyData) (c : Int → Int → Bool) : C → C → M C
  | .val (.int i), .val (.int j) => if c i j = true then .ret (.val (f i j)) else .fail
  | _, _ => .fail
theorem os_int {f : Int → Int → Int} {c : Int → Int → Bool} {R : Int → Int → Prop} (h : ∀ i j, c i j = true → R i j) : OpS K (rI R fun i j => .int (f i j)) (oInt (fun i j => .int (f i j)) c) := by
  intro tp H0 H x y cx cy Q g t rx ry q
  unfold oInt at q
  split at q
  · rename_i i j
    cases rx.int; cases ry.int
    split at q
    · rename_i e
      exact ⟨i, j, rfl, rfl, h i j e, Post.int q g t⟩
    · exact q.elim
  · exact q.elim
theorem os_int0 {f : Int → Int → Int} : OpS K (rI0 fun i j => .int (f i j)) (oInt (fun i j => .int (f i j)) fun _ _ => true) := by
  intro tp H0 H x y cx cy Q g t rx ry q
  unfold oInt at q
  split at q
  · rename_i i j
    cases rx.int; cases ry.int
    split at q
    · rename_i e
      exact ⟨i, j, rfl, rfl, Post.int q g t⟩
    · exact q.elim
  · exact q.elim
theorem os_cmp0 {f : Int → Int → Bool} : OpS K (rI0 fun i j => .bl (f i j)) (oInt (fun i j => .bool (f i j)) fun _ _ => true) := by
  intro tp H0 H x y cx cy Q g t rx ry q
  unfold oInt at q
  split at q
  · rename_i i j
    cases rx.int; cases ry.int
    split at q
    · rename_i e
      exact ⟨i, j, rfl, rfl, Post.bl q g t⟩
    · exact q.elim
  · exact q.elim
abbrev oSub : C → C → M C := oInt (fun i j => .int (i - j)) fun _ _ => true
abbrev oLt : C → C → M C := oInt (fun i j => .bool (decide (i < j))) fun _ _ => true
abbrev oLe : C → C → M C := oInt (fun i j => .bool (decide (i ≤ j))) fun _ _ => true
abbrev oGt : C → C → M C := oInt (fun i j => .bool (decide (j < i))) fun _ _ => true
abbrev oGe : C → C → M C := oInt (fun i j => .bool (decide (j ≤ i))) fun _ _ => true
def cMul (i j : Int) : Bool := decide (i.natAbs.log2 + j.natAbs.log2 < 1000000)
def cDiv (_ j : Int) : Bool := decide (0 < j) && decide (j.natAbs.log2 < 9000)
def cMod (_ j : Int) : Bool := decide (0 < j)
def cPow (i j : Int) : Bool := decide (0 ≤ j) && (decide (j ≤ 1000000) && decide (i.natAbs < 18446744073709551616))
abbrev oFdiv : C → C → M C := oInt (fun i j => .int (i / j)) cDiv
abbrev oMod : C → C → M C := oInt (fun i j => .int (i % j)) cMod
abbrev oPow : C → C → M C := oInt (fun i j => .int (i ^ j.toNat)) cPow
theorem os_sub : OpS K (rI0 fun i j => .int (i - j)) oSub := os_int0 (f := fun i j => i - j)
theorem os_fdiv : OpS K (rI CDivW fun i j => .int (i / j)) oFdiv := os_int (f := fun i j => i / j) fun i j h => by
  simp only [cDiv, Bool.and_eq_true, decide_eq_true_eq] at h
  exact h
/-- // by any divisor -/
def CDivA (_ j : Int) : Prop := j ≠ 0 ∧ j.natAbs.log2 < 9000
theorem op_fdivA {X : Cx} : OpR X (binaryOp .FloorDiv) (rI CDivA fun i j => .int (i.fdiv j)) := opI fun i j _ _ _ _ _ hc q => floordiv_int hc.1 q (.inl (PyProof.noPylong_of_log2 hc.2))
def cDivA (_ j : Int) : Bool := !decide (j = 0) && decide (j.natAbs.log2 < 9000)
abbrev oFdivA : C → C → M C := oInt (fun i j => .int (i.fdiv j)) cDivA
theorem os_fdivA : OpS K (rI CDivA fun i j => .int (i.fdiv j)) oFdivA := os_int (f := fun i j => i.fdiv j) fun i j h => by
  simp only [cDivA, Bool.and_eq_true, Bool.not_eq_true', decide_eq_false_iff_not, decide_eq_true_eq] at h
  exact h
theorem os_mod : OpS K (rI (fun _ j => 0 < j) fun i j => .int (i % j)) oMod := os_int (f := fun i j => i % j) fun i j h => of_decide_eq_true h
theorem os_pow : OpS K (rI CPow fun i j => .int (i ^ j.toNat)) oPow := os_int (f := fun i j => i ^ j.toNat) fun i j h => by
  simp only [cPow, Bool.and_eq_true, decide_eq_true_eq] at h
  exact ⟨h.1, h.2.1, by have := h.2.2; show _ < 18446744073709551616; exact this⟩
/-! ### * -/
def rRepR : R2 := fun x y H Q => ∃ l k xs, x = .ref l ∧ y = .int k ∧ H l = some (.lst xs) ∧ -(2 ^ 63) ≤ k ∧ k < 2 ^ 63 ∧ xs.length * k.toNat ≤ sizeLine ∧
  ∀ p, H p = none → Q (.ref p) (upd H p (.lst (List.replicate k.toNat xs).flatten))
def rMulU (K : PySem.W.Frag) : R2 := fun x y H Q => rI CMulW (fun i j => .int (i * j)) x y H Q ∨ rRepT K x y H Q ∨ rRep x y H Q
theorem opMul (K : PySem.W.Frag) {X : Cx} (h : X.K = K := by rfl) : OpR X (binaryOp .Mult) (rMulU K) := by
  subst h
  intro pins s σ H x y v u Q I rx ry h
  rcases h with h | h | h
  · exact op_mulW pins s σ H x y v u Q I rx ry h
  · exact op_repT pins s σ H x y v u Q I rx ry h
  · exact op_rep pins s σ H x y v u Q I rx ry h
def repD (k : Nat) (ds : List PyData) : List PyData := (List.replicate k ds).flatten
theorem dpRep {vs : List V} {ds : List PyData} (h : DpAll K H vs ds) : ∀ k : Nat, DpAll K H (List.replicate k vs).flatten (repD k ds)
  | 0 => .nil
  | k + 1 => by
    unfold repD
    rw [List.replicate_succ, List.replicate_succ, List.flatten_cons, List.flatten_cons]
    exact h.app (dpRep h k)
theorem lfAll_rep {ds : List PyData} (h : lfAll ds = true) : ∀ k : Nat, lfAll (repD k ds) = true
  | 0 => rfl
  | k + 1 => by
    unfold repD
    rw [List.replicate_succ, List.flatten_cons]
    exact lfAll_app h (lfAll_rep h k)
def cRepT (ds : List PyData) (k : Int) : Bool := !ds.isEmpty && (decide (2 ≤ k) && (decide (k ≤ 1000) && decide (ds.length ≤ 1000)))
def cRepL (ds : List PyData) (k : Int) : Bool := decide (-9223372036854775808 ≤ k) && (decide (k < 9223372036854775808) && lenOk (ds.length * k.toNat))
def oMul : C → C → M C
  | .val (.int i), .val (.int j) => if cMul i j = true then .ret (.val (.int (i * j))) else .fail
  | .val (.tuple ds), .val (.int k) => if cRepT ds k = true then .ret (.val (.tuple (repD k.toNat ds))) else .fail
  | .own (.lst ds), .val (.int k) => if cRepL ds k = true then .ret (.own (.lst (repD k.toNat ds))) else .fail
  | _, _ => .fail
theorem os_mul : OpS K (rMulU K) oMul := by
  intro tp H0 H x y cx cy Q g t rx ry h
  unfold oMul at h
  split at h
  · rename_i i j
    cases rx.int; cases ry.int
    split at h
    · rename_i e
      exact .inl ⟨i, j, rfl, rfl, (show i.natAbs.log2 + j.natAbs.log2 < 1000000 from of_decide_eq_true e), Post.int h g t⟩
    · exact h.elim
  · rename_i ds k
    obtain ⟨a, vs, rfl, q1, q2, q3⟩ := rx.tup
    cases ry.int
    split at h
    · rename_i e
      simp only [cRepT, Bool.and_eq_true, decide_eq_true_eq, Bool.not_eq_true'] at e
      refine .inr (.inl ⟨a, k, vs, rfl, rfl, q1, fun z => ?_, e.2.1, e.2.2.1, by rw [q2.len]; exact e.2.2.2, fun p hp => Post.tup h g t hp (dpRep q2 _) (lfAll_rep q3 _)⟩)
      subst z
      cases q2
      simp at e
    · exact h.elim
  · rename_i ds k
    obtain ⟨a, rfl, _, _, vs, q1, q2, q3⟩ := rx
    cases ry.int
    split at h
    · rename_i e
      simp only [cRepL, Bool.and_eq_true, decide_eq_true_eq] at e
      exact .inr (.inr ⟨a, k, vs, rfl, rfl, q1, e.1, e.2.1, by rw [q2.len]; exact lenOk_le e.2.2, fun p hp => Post.lst h g t hp (dpRep q2 _) (lfAll_rep q3 _)⟩)
    · exact h.elim
  · exact h.elim
/-! ### -x -/
def oNeg : C → M C
  | .val (.int i) => .ret (.val (.int (-i)))
  | _ => .fail
theorem us_neg : UnS K (rU fun i => .int (-i)) oNeg := by
  intro tp H0 H x cx Q g t rx h
  unfold oNeg at h
  split at h
  · rename_i i
    cases rx.int
    exact ⟨i, rfl, Post.int h g t⟩
  · exact h.elim
/-! ### == != is in -/
def rEqU (K : PySem.W.Frag) (n : Bool) : R2 := fun x y H Q => (∃ i j, x = .str i ∧ y = .str j ∧ Q (.bl (n ^^ decide (i = j))) H) ∨ ∃ d e, Dp K H x d ∧ Dp K H y e ∧ SeqAt.shaped d = true ∧ SeqAt.shaped e = true ∧ Q (.bl (n ^^ PyData.eqv d e)) H
theorem dec_strV {i j : Str} : decide (V.str i = V.str j) = decide (i = j) := by
  by_cases h : i = j
  · subst h; simp
  · rw [decide_eq_false h, decide_eq_false (fun z => h (V.str.inj z))]
theorem opEq (K : PySem.W.Frag) {X : Cx} (hu : X.A.units + 64 < cLine) (h : X.K = K := by rfl) : OpR X (compareOp .Eq) (rEqU K false) := by
  subst h
  intro pins s σ H x y v u Q I rx ry h
  rcases h with ⟨i, j, rfl, rfl, q⟩ | ⟨d, e, h1, h2, h3, h4, q⟩
  · rw [Bool.false_xor] at q
    exact op_eq pins s σ H _ _ v u Q I rx ry ⟨rfl, by rw [dec_strV]; exact q⟩
  · rw [Bool.false_xor] at q
    exact op_eqD hu pins s σ H x y v u Q I rx ry ⟨d, e, h1, h2, h3, h4, q⟩
theorem opNe (K : PySem.W.Frag) {X : Cx} (hu : X.A.units + 64 < cLine) (h : X.K = K := by rfl) : OpR X (compareOp .NotEq) (rEqU K true) := by
  subst h
  intro pins s σ H x y v u Q I rx ry h
  rcases h with ⟨i, j, rfl, rfl, q⟩ | ⟨d, e, h1, h2, h3, h4, q⟩
  · rw [Bool.true_xor] at q
    exact op_ne pins s σ H _ _ v u Q I rx ry ⟨rfl, by rw [dec_strV]; exact q⟩
  · rw [Bool.true_xor] at q
    exact op_neD hu pins s σ H x y v u Q I rx ry ⟨d, e, h1, h2, h3, h4, q⟩
def oEqD (n : Bool) : Option PyData → Option PyData → M C
  | some (.str i), some (.str j) => .ret (.val (.bool (n ^^ decide (i = j))))
  | some d, some e => if (SeqAt.shaped d && SeqAt.shaped e) = true then .ret (.val (.bool (n ^^ PyData.eqv d e))) else .fail
  | _, _ => .fail
def oEq (a b : C) : M C := oEqD false a.dat b.dat
def oNe (a b : C) : M C := oEqD true a.dat b.dat
theorem eqD_ok {n : Bool} {x y : V} {cx cy : C} {Q : VK} (g : GrT tp H0 H) (t : TOk tp H) (rx : RC tp K H0 H x cx) (ry : RC tp K H0 H y cy) (h : wp0 (oEqD n cx.dat cy.dat) (Post tp K H0 Q)) : rEqU K n x y H Q := by
  unfold oEqD at h
  split at h
  · rename_i i j h1 h2
    have r1 := rx.dp h1
    have r2 := ry.dp h2
    cases r1; cases r2
    exact .inl ⟨i, j, rfl, rfl, Post.bl h g t⟩
  · rename_i d e _ h1 h2
    split at h
    · rename_i s
      simp only [Bool.and_eq_true] at s
      exact .inr ⟨d, e, rx.dp h1, ry.dp h2, s.1, s.2, Post.bl h g t⟩
    · exact h.elim
  · exact h.elim
theorem os_eq : OpS K (rEqU K false) oEq := fun tp H0 H x y cx cy Q g t rx ry h => eqD_ok g t rx ry h
theorem os_ne : OpS K (rEqU K true) oNe := fun tp H0 H x y cx cy Q g t rx ry h => eqD_ok g t rx ry h
def C.isN : C → Bool
  | .val .none => true
  | _ => false
theorem RC.isN {v : V} {c : C} (h : RC tp K H0 H v c) : decide (v = .non) = c.isN := by
  cases c with
  | val d =>
    obtain ⟨h, f⟩ := h
    cases h <;> rfl
  | own o => obtain ⟨a, rfl, _⟩ := h; rfl
  | bor o => obtain ⟨a, rfl, _⟩ := h; rfl
  | tape => obtain ⟨a, _, _, rfl⟩ := h; rfl
def oIs : C → C → M C
  | a, .val .none => .ret (.val (.bool a.isN))
  | _, _ => .fail
def oIsNot : C → C → M C
  | a, .val .none => .ret (.val (.bool (!a.isN)))
  | _, _ => .fail
theorem os_is : OpS K (fun x y H Q => y = .non ∧ Q (.bl (decide (x = .non))) H) oIs := by
  intro tp H0 H x y cx cy Q g t rx ry h
  unfold oIs at h
  split at h
  · cases ry.non
    exact ⟨rfl, by rw [rx.isN]; exact Post.bl h g t⟩
  · exact h.elim
theorem os_isnot : OpS K (fun x y H Q => y = .non ∧ Q (.bl (!decide (x = .non))) H) oIsNot := by
  intro tp H0 H x y cx cy Q g t rx ry h
  unfold oIsNot at h
  split at h
  · cases ry.non
    exact ⟨rfl, by rw [rx.isN]; exact Post.bl h g t⟩
  · exact h.elim
def rInU (K : PySem.W.Frag) (n : Bool) : R2 := fun x y H Q => (∃ d ds, Dp K H x d ∧ (Dp K H y (.list ds) ∨ Dp K H y (.tuple ds)) ∧ SeqAt.shaped d = true ∧ SeqAt.shaped (.list ds) = true ∧ Q (.bl (n ^^ ds.any fun z => PyData.eqv z d)) H) ∨
  (∃ (c : Nat) (z : Str), x = .str ⟨#[c]⟩ ∧ y = .str z ∧ Q (.bl (n ^^ decide (c ∈ z.cps.toList))) H)
theorem shaped_tup {ds : List PyData} (h : SeqAt.shaped (.list ds) = true) : SeqAt.shaped (.tuple ds) = true := by
  have e : SeqAt.shaped (.list ds) = ((PyData.canLay0 (.list ds)) && decide ((PyData.depth (.list ds)) ≤ 64)) := rfl
  have e' : SeqAt.shaped (.tuple ds) = ((PyData.canLay0 (.tuple ds)) && decide ((PyData.depth (.tuple ds)) ≤ 64)) := rfl
  rw [e] at h
  rw [e']
  simp only [PyData.canLay0, PyData.depth] at h ⊢
  exact h
theorem opIn (K : PySem.W.Frag) {X : Cx} (hu : X.A.units + 65 < cLine) (h : X.K = K := by rfl) : OpR X (compareOp .In) (rInU K false) := by
  subst h
  intro pins s σ H x y v u Q I rx ry h
  rcases h with ⟨d, ds, hd, he | he, sd, se, q⟩ | h
  · rw [Bool.false_xor] at q
    exact op_inD hu pins s σ H x y v u Q I rx ry ⟨d, ds, hd, he, sd, se, q⟩
  · rw [Bool.false_xor] at q
    obtain ⟨as, r1⟩ := Dp.reads I d x v hd rx
    obtain ⟨bs, r2⟩ := Dp.reads I (.tuple ds) y u he ry
    exact SeqAt.in_tuple_reads r2 r1 (SeqAt.canLay_of_shaped se) (SeqAt.canLay_of_shaped sd) (room_in_shaped sd hu) ⟨.bl _, H, I, rfl, q⟩
  · obtain ⟨c, z, h1, h2, q⟩ := h
    rw [Bool.false_xor] at q
    exact op_in_sign pins s σ H x y v u Q I rx ry ⟨c, z, h1, h2, q⟩
theorem opNotIn (K : PySem.W.Frag) {X : Cx} (hu : X.A.units + 65 < cLine) (h : X.K = K := by rfl) : OpR X (compareOp .NotIn) (rInU K true) := by
  subst h
  intro pins s σ H x y v u Q I rx ry h
  rcases h with ⟨d, ds, hd, he | he, sd, se, q⟩ | h
  · rw [Bool.true_xor] at q
    exact op_notInD hu pins s σ H x y v u Q I rx ry ⟨d, ds, hd, he, sd, se, q⟩
  · rw [Bool.true_xor] at q
    obtain ⟨as, r1⟩ := Dp.reads I d x v hd rx
    obtain ⟨bs, r2⟩ := Dp.reads I (.tuple ds) y u he ry
    exact SeqAt.notIn_tuple_reads r2 r1 (SeqAt.canLay_of_shaped se) (SeqAt.canLay_of_shaped sd) (room_in_shaped sd hu) ⟨.bl _, H, I, rfl, q⟩
  · obtain ⟨c, z, h1, h2, q⟩ := h
    rw [Bool.true_xor] at q
    exact op_notIn_sign pins s σ H x y v u Q I rx ry ⟨c, z, h1, h2, q⟩
def oInD (n : Bool) (d : PyData) (ds : List PyData) : M C := if (SeqAt.shaped d && SeqAt.shaped (.list ds)) = true then .ret (.val (.bool (n ^^ ds.any fun z => PyData.eqv z d))) else .fail
def oInS (n : Bool) (x : Str) (z : Str) : M C := if x.cps.size = 1 then .ret (.val (.bool (n ^^ decide (x.cps.getD 0 0 ∈ z.cps.toList)))) else .fail
def oInX (n : Bool) : Option PyData → Option PyData → M C
  | some (.str x), some (.str z) => oInS n x z
  | some d, some (.list ds) => oInD n d ds
  | some d, some (.tuple ds) => oInD n d ds
  | _, _ => .fail
def oIn (a b : C) : M C := oInX false a.dat b.dat
def oNotIn (a b : C) : M C := oInX true a.dat b.dat
theorem inX_ok {n : Bool} {x y : V} {cx cy : C} {Q : VK} (g : GrT tp H0 H) (t : TOk tp H) (rx : RC tp K H0 H x cx) (ry : RC tp K H0 H y cy) (h : wp0 (oInX n cx.dat cy.dat) (Post tp K H0 Q)) : rInU K n x y H Q := by
  unfold oInX at h
  split at h
  · rename_i x' z h1 h2
    unfold oInS at h
    split at h
    · rename_i e
      have r1 := rx.dp h1
      have r2 := ry.dp h2
      cases r1
      cases r2
      obtain ⟨⟨l⟩⟩ := x'
      cases l with
      | nil => simp at e
      | cons c l =>
        cases l with
        | nil => exact .inr ⟨c, z, rfl, rfl, Post.bl h g t⟩
        | cons _ _ => simp at e
    · exact h.elim
  · rename_i d ds h1 h2
    unfold oInD at h
    split at h
    · rename_i e
      simp only [Bool.and_eq_true] at e
      exact .inl ⟨d, ds, rx.dp h1, .inl (ry.dp h2), e.1, e.2, Post.bl h g t⟩
    · exact h.elim
  · rename_i d ds h1 h2
    unfold oInD at h
    split at h
    · rename_i e
      simp only [Bool.and_eq_true] at e
      exact .inl ⟨d, ds, rx.dp h1, .inr (ry.dp h2), e.1, e.2, Post.bl h g t⟩
    · exact h.elim
  · exact h.elim
theorem os_in : OpS K (rInU K false) oIn := fun tp H0 H x y cx cy Q g t rx ry h => inX_ok g t rx ry h
theorem os_notin : OpS K (rInU K true) oNotIn := fun tp H0 H x y cx cy Q g t rx ry h => inX_ok g t rx ry h
end
end Cs

set_option maxRecDepth 100000
set_option maxHeartbeats 4000000
/-! tests, subscripts, calls -/
namespace Cs
open PySem PySem.Spec PyProof.Rows L2
section
variable {tp : Option (Addr × Addr)} {K : PySem.W.Frag} {H H' H'' H0 H1 He : Hp} {Hq : Hp} {σ : L2.St} {ρ : Ro}
/-! ### truth -/
def truD : PyData → M Bool
  | .none => .ret false
  | .bool b => .ret b
  | .int i => .ret (i != 0)
  | .str x => if lenOk x.length = true then .ret ((x.length : Int) != 0) else .fail
  | .tuple xs => .ret (!xs.isEmpty)
  | .list xs => .ret (!xs.isEmpty)
  | .dict _ => .fail
def oTru (c : C) : M Bool := match c.dat with
  | some d => truD d
  | none => .fail
theorem dp_empty {vs : List V} {ds : List PyData} (h : DpAll K H vs ds) : vs.isEmpty = ds.isEmpty := by
  cases h <;> rfl
theorem tru_of {v : V} {d : PyData} (h : Dp K H v d) {Q : Bool → Prop} (q : wp0 (truD d) Q) : ∃ k, TruV K v H k ∧ Q k := by
  cases h with
  | non => exact ⟨_, rfl, q⟩
  | bl b => exact ⟨_, rfl, q⟩
  | int i => exact ⟨_, rfl, q⟩
  | str x =>
    unfold truD at q
    dsimp only at q
    split at q
    · rename_i l
      exact ⟨_, ⟨lenOk_le l, rfl⟩, q⟩
    · exact q.elim
  | lst h1 h2 => exact ⟨_, .inl ⟨_, h1, rfl⟩, by rw [dp_empty h2]; exact q⟩
  | tup h1 h2 => exact ⟨_, .inr (.inl ⟨_, h1, rfl⟩), by rw [dp_empty h2]; exact q⟩
def gTru (g : Ro → M C) (ρ : Ro) : M Bool := (g ρ).bind oTru
theorem oTru_ok {x : V} {c : C} {Q : Bool → Prop} (rx : RC tp K H0 H x c) (h : wp0 (oTru c) Q) : ∃ k, TruV K x H k ∧ Q k := by
  unfold oTru at h
  split at h
  · rename_i d e
    exact tru_of (rx.dp e) h
  · exact h.elim
theorem rt_tru {ta : TE} {ga : Ro → M C} (ha : RE K ta ga) : RT K (tTru K ta) (gTru ga) := by
  intro tp He Hq ρ σ H Q rl h
  refine ha tp He Hq ρ σ H _ rl (wp0_mono (fun a h1 => ?_) (wp0_bind.mp h))
  intro x H1 g1 t1 rx
  obtain ⟨k, h2, h3⟩ := oTru_ok rx h1
  exact ⟨k, h2, h3 H1 g1 t1⟩
def oBl : C → M Bool
  | .val (.bool b) => .ret b
  | _ => .fail
def gTest (g : Ro → M C) (ρ : Ro) : M Bool := (g ρ).bind oBl
theorem oBl_ok {x : V} {c : C} {Q : Bool → Prop} (rx : RC tp K H0 H x c) (h : wp0 (oBl c) Q) : ∃ k, x = .bl k ∧ Q k := by
  unfold oBl at h
  split at h
  · cases rx.bl
    exact ⟨_, rfl, h⟩
  · exact h.elim
theorem rt_test {ta : TE} {ga : Ro → M C} (ha : RE K ta ga) : RT K (tTest ta) (gTest ga) := by
  intro tp He Hq ρ σ H Q rl h
  refine ha tp He Hq ρ σ H _ rl (wp0_mono (fun a h1 => ?_) (wp0_bind.mp h))
  intro x H1 g1 t1 rx
  obtain ⟨k, h2, h3⟩ := oBl_ok rx h1
  exact ⟨k, h2, h3 H1 g1 t1⟩
def gAnd (g1 g2 : Ro → M Bool) (ρ : Ro) : M Bool := (g1 ρ).bind fun b => if b = true then g2 ρ else .ret false
def gOr (g1 g2 : Ro → M Bool) (ρ : Ro) : M Bool := (g1 ρ).bind fun b => if b = true then .ret true else g2 ρ
def gNot (g1 : Ro → M Bool) (ρ : Ro) : M Bool := (g1 ρ).bind fun b => .ret (!b)
theorem rt_and {t u : TT} {g1 g2 : Ro → M Bool} (h1 : RT K t g1) (h2 : RT K u g2) : RT K (tAnd t u) (gAnd g1 g2) := by
  intro tp He Hq ρ σ H Q rl h
  refine h1 tp He Hq ρ σ H _ rl (wp0_mono (fun b hb => ?_) (wp0_bind.mp h))
  intro H1 e1 t1
  cases b with
  | true =>
    rw [if_pos rfl] at hb ⊢
    exact h2 tp He Hq ρ σ H1 _ (rl.go e1 t1) (wp0_mono (fun b hb H2 e2 t2 => hb H2 (e1.trans e2) t2) hb)
  | false =>
    rw [if_neg Bool.false_ne_true] at hb ⊢
    exact hb H1 e1 t1
theorem rt_or {t u : TT} {g1 g2 : Ro → M Bool} (h1 : RT K t g1) (h2 : RT K u g2) : RT K (tOr t u) (gOr g1 g2) := by
  intro tp He Hq ρ σ H Q rl h
  refine h1 tp He Hq ρ σ H _ rl (wp0_mono (fun b hb => ?_) (wp0_bind.mp h))
  intro H1 e1 t1
  cases b with
  | true =>
    rw [if_pos rfl] at hb ⊢
    exact hb H1 e1 t1
  | false =>
    rw [if_neg Bool.false_ne_true] at hb ⊢
    exact h2 tp He Hq ρ σ H1 _ (rl.go e1 t1) (wp0_mono (fun b hb H2 e2 t2 => hb H2 (e1.trans e2) t2) hb)
theorem rt_not {t : TT} {g1 : Ro → M Bool} (h1 : RT K t g1) : RT K (tNot t) (gNot g1) := by
  intro tp He Hq ρ σ H Q rl h
  refine h1 tp He Hq ρ σ H _ rl (wp0_mono (fun b hb => ?_) (wp0_bind.mp h))
  intro H1 e1 t1
  exact hb H1 e1 t1
/-! ### and, or, not, if as values -/
theorem andT (K : PySem.W.Frag) {X : Cx} {a b : Expr} {rest : List Expr} {pos : Pos} {ta tb : TE} (ha : PE X a ta) (hb : PE X (.BoolOp .And (b :: rest) pos) tb) (h : X.K = K := by rfl) : PE X (.BoolOp .And (a :: b :: rest) pos) (tAndT K ta tb) := h ▸ pe_andT ha hb
theorem orT (K : PySem.W.Frag) {X : Cx} {a b : Expr} {rest : List Expr} {pos : Pos} {ta tb : TE} (ha : PE X a ta) (hb : PE X (.BoolOp .Or (b :: rest) pos) tb) (h : X.K = K := by rfl) : PE X (.BoolOp .Or (a :: b :: rest) pos) (tOrT K ta tb) := h ▸ pe_orT ha hb
theorem notT (K : PySem.W.Frag) {X : Cx} {a : Expr} {pos : Pos} {ta : TE} (ha : PE X a ta) (h : X.K = K := by rfl) : PE X (.UnaryOp .Not a pos) (tNotT K ta) := h ▸ pe_notT ha
def gAndT (g1 g2 : Ro → M C) (ρ : Ro) : M C := (g1 ρ).bind fun c => (oTru c).bind fun b => if b = true then g2 ρ else .ret c
def gOrT (g1 g2 : Ro → M C) (ρ : Ro) : M C := (g1 ρ).bind fun c => (oTru c).bind fun b => if b = true then .ret c else g2 ρ
def gNotT (g1 : Ro → M C) (ρ : Ro) : M C := (g1 ρ).bind fun c => (oTru c).bind fun b => .ret (.val (.bool (!b)))
theorem Post.after {Q : VK} {c : C} (p : Post tp K H0 Q c) (g : GrT tp H0 H) (t : TOk tp H) : Post tp K H Q c := fun v H' g' t' r => p v H' (g.trans g') t' (r.base g t)
theorem re_and {ta tb : TE} {g1 g2 : Ro → M C} (h1 : RE K ta g1) (h2 : RE K tb g2) : RE K (tAndT K ta tb) (gAndT g1 g2) := by
  intro tp He Hq ρ σ H Q rl h
  refine h1 tp He Hq ρ σ H _ rl (wp0_mono (fun c hc => ?_) (wp0_bind.mp h))
  intro x H1 e1 t1 rx
  obtain ⟨k, h3, h4⟩ := oTru_ok rx (wp0_bind.mp hc)
  refine ⟨k, h3, ?_⟩
  cases k with
  | true =>
    rw [if_pos rfl] at h4 ⊢
    exact h2 tp He Hq ρ σ H1 _ (rl.go e1 t1) (wp0_mono (fun b hb => hb.after e1 t1) h4)
  | false =>
    rw [if_neg Bool.false_ne_true] at h4 ⊢
    exact h4 x H1 e1 t1 rx
theorem re_or {ta tb : TE} {g1 g2 : Ro → M C} (h1 : RE K ta g1) (h2 : RE K tb g2) : RE K (tOrT K ta tb) (gOrT g1 g2) := by
  intro tp He Hq ρ σ H Q rl h
  refine h1 tp He Hq ρ σ H _ rl (wp0_mono (fun c hc => ?_) (wp0_bind.mp h))
  intro x H1 e1 t1 rx
  obtain ⟨k, h3, h4⟩ := oTru_ok rx (wp0_bind.mp hc)
  refine ⟨k, h3, ?_⟩
  cases k with
  | true =>
    rw [if_pos rfl] at h4 ⊢
    exact h4 x H1 e1 t1 rx
  | false =>
    rw [if_neg Bool.false_ne_true] at h4 ⊢
    exact h2 tp He Hq ρ σ H1 _ (rl.go e1 t1) (wp0_mono (fun b hb => hb.after e1 t1) h4)
theorem re_not {ta : TE} {g1 : Ro → M C} (h1 : RE K ta g1) : RE K (tNotT K ta) (gNotT g1) := by
  intro tp He Hq ρ σ H Q rl h
  refine h1 tp He Hq ρ σ H _ rl (wp0_mono (fun c hc => ?_) (wp0_bind.mp h))
  intro x H1 e1 t1 rx
  obtain ⟨k, h3, h4⟩ := oTru_ok rx (wp0_bind.mp hc)
  exact ⟨k, h3, Post.bl h4 e1 t1⟩
def gIfE (gc : Ro → M Bool) (g1 g2 : Ro → M C) (ρ : Ro) : M C := (gc ρ).bind fun b => if b = true then g1 ρ else g2 ρ
theorem re_if {t : TT} {ta tb : TE} {gc : Ro → M Bool} {g1 g2 : Ro → M C} (hc : RT K t gc) (h1 : RE K ta g1) (h2 : RE K tb g2) : RE K (tIf t ta tb) (gIfE gc g1 g2) := by
  intro tp He Hq ρ σ H Q rl h
  refine hc tp He Hq ρ σ H _ rl (wp0_mono (fun b hb => ?_) (wp0_bind.mp h))
  intro H1 e1 t1
  cases b with
  | true =>
    rw [if_pos rfl] at hb ⊢
    exact h1 tp He Hq ρ σ H1 _ (rl.go e1 t1) (wp0_mono (fun b hb => hb.after e1 t1) hb)
  | false =>
    rw [if_neg Bool.false_ne_true] at hb ⊢
    exact h2 tp He Hq ρ σ H1 _ (rl.go e1 t1) (wp0_mono (fun b hb => hb.after e1 t1) hb)
/-! ### a < b < c -/
def gChain (o1 o2 : C → C → M C) (ga gb gc : Ro → M C) (ρ : Ro) : M C := (ga ρ).bind fun a => (gb ρ).bind fun b => (o1 a.lend b.lend).bind fun r => (oBl r).bind fun k => if k = true then (gc ρ).bind fun c => o2 b c else .ret (.val (.bool false))
theorem re_chain {r r' : R2} {o1 o2 : C → C → M C} {ta tb tc : TE} {ga gb gc : Ro → M C} (ho : OpS K r o1) (ho' : OpS K r' o2) (ha : RE K ta ga) (hb : RE K tb gb) (hc : RE K tc gc) : RE K (tChain r r' ta tb tc) (gChain o1 o2 ga gb gc) := by
  intro tp He Hq ρ σ H Q rl h
  refine ha tp He Hq ρ σ H _ rl (wp0_mono (fun a h1 => ?_) (wp0_bind.mp h))
  intro x H1 g1 t1 rx
  refine hb tp He Hq ρ σ H1 _ (rl.go g1 t1) (wp0_mono (fun b h2 => ?_) (wp0_bind.mp h1))
  intro y H2 g2 t2 ry
  refine ho tp H2 H2 x y a.lend b.lend _ .refl t2 (rx.gr g2 t1).lend ry.lend (wp0_mono (fun c h3 => ?_) (wp0_bind.mp h2))
  intro z H3 g3 t3 rz
  obtain ⟨k, e, h4⟩ := oBl_ok rz (wp0_bind.mp h3)
  refine ⟨k, e, ?_⟩
  cases k with
  | true =>
    rw [if_pos rfl] at h4 ⊢
    refine hc tp He Hq ρ σ H3 _ (((rl.go g1 t1).go g2 t2).go g3 t3) (wp0_mono (fun c h5 => ?_) (wp0_bind.mp h4))
    intro w H4 g4 t4 rw'
    exact ho' tp H H4 y w b c Q (g1.trans (g2.trans (g3.trans g4))) t4 ((ry.base g1 t1).gr (g3.trans g4) t2) (rw'.base (g1.trans (g2.trans g3)) t3) h5
  | false =>
    rw [if_neg Bool.false_ne_true] at h4 ⊢
    exact Post.bl h4 (g1.trans (g2.trans g3)) t3
/-! ### subscripts, slices -/
theorem ixU (K : PySem.W.Frag) {X : Cx} (h : X.K = K := by rfl) : IxR X (rIx K) := h ▸ ix_seq
def atD (ds : List PyData) (i : Int) : M C := match atI ds i with
  | some d => .ret (.val d)
  | none => .fail
def atS (z : Str) (i : Int) : M C := if lenOk z.length = true then (match atI z.cps.toList i with
  | some c => .ret (.val (.str ⟨#[c]⟩))
  | none => .fail) else .fail
def oIx (cx cy : C) : M C := match cy with
  | .val (.int i) => (match cx with
    | .val (.tuple ds) => atD ds i
    | .val (.str z) => atS z i
    | cx => (match cx.items with
      | some ds => atD ds i
      | none => .fail))
  | _ => .fail
theorem dp_at {vs : List V} {ds : List PyData} {i : Int} {d : PyData} (h : DpAll K H vs ds) (f : lfAll ds = true) (e : atI ds i = some d) : ∃ v, atI vs i = some v ∧ Dp K H v d ∧ lf d = true := by
  unfold atI at e ⊢
  rw [h.len]
  cases q : ixN ds.length i with
  | none => rw [q] at e; cases e
  | some j =>
    rw [q] at e
    obtain ⟨v, h1, h2⟩ := h.get (show ds[j]? = some d from e)
    exact ⟨v, h1, h2, lfAll_get f (show ds[j]? = some d from e)⟩
theorem atD_ok {vs : List V} {ds : List PyData} {i : Int} {Q : VK} (g : GrT tp H0 H) (t : TOk tp H) (h : DpAll K H vs ds) (f : lfAll ds = true) (q : wp0 (atD ds i) (Post tp K H0 Q)) : ∃ v, atI vs i = some v ∧ Q v H := by
  unfold atD at q
  split at q
  · rename_i d e
    obtain ⟨v, h1, h2, h3⟩ := dp_at h f e
    exact ⟨v, h1, Post.at_ q g t ⟨h2, h3⟩⟩
  · exact q.elim
theorem os_ix : OpS K (rIx K) oIx := by
  intro tp H0 H x y cx cy Q g t rx ry h
  unfold oIx at h
  split at h
  · rename_i i
    cases ry.int
    split at h
    · rename_i ds
      obtain ⟨a, vs, rfl, q1, q2, q3⟩ := rx.tup
      obtain ⟨v, e, q⟩ := atD_ok g t q2 q3 h
      exact .inr (.inl ⟨a, vs, i, v, rfl, rfl, q1, e, q⟩)
    · rename_i z
      cases rx.str
      unfold atS at h
      split at h
      · rename_i l
        split at h
        · rename_i c e
          exact .inr (.inr ⟨z, i, c, rfl, rfl, lenOk_le l, e, Post.str h g t⟩)
        · exact h.elim
      · exact h.elim
    · split at h
      · rename_i ds e
        obtain ⟨a, vs, rfl, q1, q2, q3⟩ := rx.rd e
        obtain ⟨v, e, q⟩ := atD_ok g t q2 q3 h
        exact .inl ⟨a, vs, i, v, rfl, rfl, .inl q1, e, q⟩
      · exact h.elim
  · exact h.elim
def RO (K : PySem.W.Frag) (t : TO) (g : Ro → M (Option Int)) : Prop := ∀ tp He Hq ρ σ H (Q : Option Int → Hp → Prop), Rel tp K He Hq H σ ρ → wp0 (g ρ) (fun o => ∀ H', GrT tp H H' → TOk tp H' → Q o H') → t σ H Q
def gNo (_ : Ro) : M (Option Int) := .ret none
def oInt? : C → M (Option Int)
  | .val (.int i) => .ret (some i)
  | _ => .fail
def gSome (g : Ro → M C) (ρ : Ro) : M (Option Int) := (g ρ).bind oInt?
theorem ro_no : RO K tNoPart gNo := fun tp He Hq ρ σ H Q rl h => h H .refl rl.tok
theorem ro_some {t : TE} {g : Ro → M C} (h1 : RE K t g) : RO K (tPart t) (gSome g) := by
  intro tp He Hq ρ σ H Q rl h
  refine h1 tp He Hq ρ σ H _ rl (wp0_mono (fun c hc => ?_) (wp0_bind.mp h))
  intro x H1 g1 t1 rx
  unfold oInt? at hc
  split at hc
  · cases rx.int
    exact ⟨_, rfl, hc H1 g1 t1⟩
  · exact hc.elim
def cutD (ds : List PyData) (lo hi : Option Int) : List PyData := (ds.drop (HT.sIx ds.length 0 lo)).take (HT.sIx ds.length ds.length hi - HT.sIx ds.length 0 lo)
theorem dp_cut {vs : List V} {ds : List PyData} (h : DpAll K H vs ds) (lo hi : Option Int) : DpAll K H (cutV vs lo hi) (cutD ds lo hi) := by
  unfold cutV cutD
  rw [h.len]
  exact (h.drop _).take _
theorem lf_cut {ds : List PyData} (f : lfAll ds = true) (lo hi : Option Int) : lfAll (cutD ds lo hi) = true := lfAll_take _ (lfAll_drop _ f)
theorem cut_whole {ds : List PyData} {lo hi : Option Int} (h : HT.sIx ds.length 0 lo = 0 ∧ HT.sIx ds.length ds.length hi = ds.length) : cutD ds lo hi = ds := by
  unfold cutD
  rw [h.1, h.2, List.drop_zero, Nat.sub_zero, List.take_length]
def rSlU (K : PySem.W.Frag) : V → Option Int → Option Int → Hp → VK → Prop := fun x lo hi H Q => rSlL K x lo hi H Q ∨ rSlA K x lo hi H Q ∨ rSlS x lo hi H Q
theorem slU (K : PySem.W.Frag) {X : Cx} (h : X.K = K := by rfl) : SlR X (rSlU K) := h ▸ sl_list.or (sl_tupA.or sl_str)
def oSl (c : C) (lo hi : Option Int) : M C := match c with
  | .val (.tuple ds) => .ret (.val (.tuple (cutD ds lo hi)))
  | .val (.str z) => if lenOk z.length = true then .ret (.val (.str (cutS z lo hi))) else .fail
  | c => (match c.items with
    | some ds => .ret (.own (.lst (cutD ds lo hi)))
    | none => .fail)
def gSl (g : Ro → M C) (l u : Ro → M (Option Int)) (ρ : Ro) : M C := (g ρ).bind fun c => (l ρ).bind fun lo => (u ρ).bind fun hi => oSl c lo hi
theorem re_sl {te : TE} {tl th : TO} {g : Ro → M C} {l u : Ro → M (Option Int)} (h1 : RE K te g) (h2 : RO K tl l) (h3 : RO K th u) : RE K (tSl (rSlU K) te tl th) (gSl g l u) := by
  intro tp He Hq ρ σ H Q rl h
  refine h1 tp He Hq ρ σ H _ rl (wp0_mono (fun c hc => ?_) (wp0_bind.mp h))
  intro x H1 g1 t1 rx
  refine h2 tp He Hq ρ σ H1 _ (rl.go g1 t1) (wp0_mono (fun lo hlo => ?_) (wp0_bind.mp hc))
  intro H2 g2 t2
  refine h3 tp He Hq ρ σ H2 _ ((rl.go g1 t1).go g2 t2) (wp0_mono (fun hi hhi => ?_) (wp0_bind.mp hlo))
  intro H3 g3 t3
  have rx3 := (rx.gr g2 t1).gr g3 t2
  have g := g1.trans (g2.trans g3)
  unfold oSl at hhi
  split at hhi
  · rename_i ds
    obtain ⟨a, vs, rfl, q1, q2, q3⟩ := rx3.tup
    refine .inr (.inl ⟨a, vs, rfl, q1, fun e => ?_, fun _ p hp => Post.tup hhi g t3 hp (dp_cut q2 lo hi) (lf_cut q3 lo hi)⟩)
    rw [q2.len] at e
    rw [cut_whole e] at hhi
    exact Post.at_ hhi g t3 rx3
  · rename_i z
    cases rx3.str
    split at hhi
    · rename_i l
      exact .inr (.inr ⟨z, rfl, lenOk_le l, Post.str hhi g t3⟩)
    · exact hhi.elim
  · split at hhi
    · rename_i ds e
      obtain ⟨a, vs, rfl, q1, q2, q3⟩ := rx3.rd e
      exact .inl ⟨a, vs, rfl, .inl q1, fun p hp => Post.lst hhi g t3 hp (dp_cut q2 lo hi) (lf_cut q3 lo hi)⟩
    · exact hhi.elim
/-- t[a::2] -/
def gSl2 (g : Ro → M C) (l : Ro → M (Option Int)) (ρ : Ro) : M C := (g ρ).bind fun c => (l ρ).bind fun lo => match c with
  | .val (.tuple ds) => .ret (.val (.tuple (ev (ds.drop (HT.sIx ds.length 0 lo)))))
  | _ => .fail
theorem dp_ev : ∀ {vs : List V} {ds : List PyData}, DpAll K H vs ds → DpAll K H (ev vs) (ev ds)
  | [], _, h => by cases h; exact .nil
  | [_], _, h => by
    cases h with
    | cons h1 h2 => cases h2; exact .cons h1 .nil
  | _ :: _ :: vs, _, h => by
    cases h with
    | cons h1 h2 =>
      cases h2 with
      | cons h3 h4 => exact .cons h1 (dp_ev h4)
theorem lf_ev : ∀ {ds : List PyData}, lfAll ds = true → lfAll (ev ds) = true
  | [], _ => rfl
  | [_], h => h
  | a :: b :: ds, h => by
    simp only [lfAll, Bool.and_eq_true] at h
    show lfAll (a :: ev ds) = true
    simp only [lfAll, Bool.and_eq_true]
    exact ⟨h.1, lf_ev h.2.2⟩
theorem re_sl2 {te : TE} {tl : TO} {g : Ro → M C} {l : Ro → M (Option Int)} (h1 : RE K te g) (h2 : RO K tl l) : RE K (tSl2 K te tl) (gSl2 g l) := by
  intro tp He Hq ρ σ H Q rl h
  refine h1 tp He Hq ρ σ H _ rl (wp0_mono (fun c hc => ?_) (wp0_bind.mp h))
  intro x H1 g1 t1 rx
  refine h2 tp He Hq ρ σ H1 _ (rl.go g1 t1) (wp0_mono (fun lo hlo => ?_) (wp0_bind.mp hc))
  intro H2 g2 t2
  have rx2 := rx.gr g2 t1
  split at hlo
  · rename_i ds
    obtain ⟨a, vs, rfl, q1, q2, q3⟩ := rx2.tup
    refine ⟨a, vs, rfl, q1, fun p hp => ?_⟩
    rw [q2.len]
    exact Post.tup hlo (g1.trans g2) t2 hp (dp_ev (q2.drop _)) (lf_ev (lfAll_drop _ q3))
  · exact hlo.elim
/-! ### calls of what is built in -/
def CallS (K : PySem.W.Frag) (r : List V → Hp → VK → Prop) (op : List C → M C) : Prop := ∀ tp H0 H vs cs Q, GrT tp H0 H → TOk tp H → RCs tp K H0 H vs cs → wp0 (op cs) (Post tp K H0 Q) → r vs H Q
def gCall (op : List C → M C) (gs : Ro → M (List C)) (ρ : Ro) : M C := (gs ρ).bind op
theorem re_call {r : List V → Hp → VK → Prop} {op : List C → M C} {t : TA} {gs : Ro → M (List C)} (ho : CallS K r op) (h1 : RA K t gs) : RE K (tCB r t) (gCall op gs) := by
  intro tp He Hq ρ σ H Q rl h
  refine h1 tp He Hq ρ σ H _ rl (wp0_mono (fun cs hc => ?_) (wp0_bind.mp h))
  intro vs H1 g1 t1 rx
  exact ho tp H H1 vs cs Q g1 t1 rx hc
theorem RCs.one {vs : List V} {c : C} (h : RCs tp K H0 H vs [c]) : ∃ v, vs = [v] ∧ RC tp K H0 H v c := by
  cases vs with
  | nil => exact h.elim
  | cons v vs =>
    cases vs with
    | nil => exact ⟨v, rfl, h.1⟩
    | cons _ _ => exact h.2.elim
theorem RCs.two {vs : List V} {c d : C} (h : RCs tp K H0 H vs [c, d]) : ∃ v w, vs = [v, w] ∧ RC tp K H0 H v c ∧ RC tp K H0 H w d := by
  cases vs with
  | nil => exact h.elim
  | cons v vs =>
    obtain ⟨w, e, q⟩ := RCs.one h.2
    exact ⟨v, w, by rw [e], h.1, q⟩
/-- a call of one thing that is read as data -/
def o1 (f : PyData → M C) : List C → M C
  | [c] => (match c.dat with
    | some d => f d
    | none => .fail)
  | _ => .fail
theorem o1_ok {f : PyData → M C} {vs : List V} {cs : List C} {P : C → Prop} (r : RCs tp K H0 H vs cs) (h : wp0 (o1 f cs) P) : ∃ v d, vs = [v] ∧ Dp K H v d ∧ wp0 (f d) P := by
  unfold o1 at h
  split at h
  · obtain ⟨v, rfl, q⟩ := r.one
    split at h
    · rename_i d e
      exact ⟨v, d, rfl, q.dp e, h⟩
    · exact h.elim
  · exact h.elim
def lenD : PyData → M C
  | .str x => if lenOk x.length = true then .ret (.val (.int x.length)) else .fail
  | .tuple xs => .ret (.val (.int xs.length))
  | .list xs => .ret (.val (.int xs.length))
  | _ => .fail
abbrev oLen := o1 lenD
theorem cs_len : CallS K (rLen K) oLen := by
  intro tp H0 H vs cs Q g t r h
  obtain ⟨v, d, rfl, q, h⟩ := o1_ok r h
  cases q with
  | str x =>
    unfold lenD at h
    dsimp only at h
    split at h
    · rename_i l
      exact ⟨_, _, rfl, ⟨lenOk_le l, rfl⟩, Post.int h g t⟩
    · exact h.elim
  | tup h1 h2 => exact ⟨_, _, rfl, .inr ⟨_, h1, rfl⟩, by rw [h2.len]; exact Post.int h g t⟩
  | lst h1 h2 => exact ⟨_, _, rfl, .inl ⟨_, h1, rfl⟩, by rw [h2.len]; exact Post.int h g t⟩
  | non => exact h.elim
  | bl _ => exact h.elim
  | int _ => exact h.elim
def absD : PyData → M C
  | .int i => .ret (.val (.int (if i < 0 then -i else i)))
  | _ => .fail
abbrev oAbs := o1 absD
theorem cs_abs : CallS K (fun xs H Q => ∃ i, xs = [.int i] ∧ Q (.int (if i < 0 then -i else i)) H) oAbs := by
  intro tp H0 H vs cs Q g t r h
  obtain ⟨v, d, rfl, q, h⟩ := o1_ok r h
  cases q with
  | int i => exact ⟨i, rfl, Post.int h g t⟩
  | _ => exact h.elim
def intD : PyData → M C
  | .int i => .ret (.val (.int i))
  | .bool b => .ret (.val (.int (if b then 1 else 0)))
  | _ => .fail
abbrev oIntC := o1 intD
theorem cs_int : CallS K (fun xs H Q => (∃ i, xs = [.int i] ∧ Q (.int i) H) ∨ ∃ k, xs = [.bl k] ∧ Q (.int (if k then 1 else 0)) H) oIntC := by
  intro tp H0 H vs cs Q g t r h
  obtain ⟨v, d, rfl, q, h⟩ := o1_ok r h
  cases q with
  | int i => exact .inl ⟨i, rfl, Post.int h g t⟩
  | bl b => exact .inr ⟨b, rfl, Post.int h g t⟩
  | _ => exact h.elim
def strD : PyData → M C
  | .int i => if decide (i.natAbs.log2 < 1920) = true then .ret (.val (.str (toString i))) else .fail
  | _ => .fail
abbrev oStr := o1 strD
theorem cs_str : CallS K (fun xs H Q => ∃ i : Int, xs = [.int i] ∧ i.natAbs.log2 < 1920 ∧ Q (.str (toString i)) H) oStr := by
  intro tp H0 H vs cs Q g t r h
  obtain ⟨v, d, rfl, q, h⟩ := o1_ok r h
  cases q with
  | int i =>
    unfold strD at h
    dsimp only at h
    split at h
    · rename_i l
      exact ⟨i, rfl, of_decide_eq_true l, Post.str h g t⟩
    · exact h.elim
  | _ => exact h.elim
/-- what repr asks of data, as a test -/
def repOk (d : PyData) : Bool := plainD d && (decide (d.depth ≤ 40) && decide (cost d ≤ 16777216))
theorem repOk_of {d : PyData} (h : repOk d = true) : RepOk d := by
  simp only [repOk, Bool.and_eq_true, decide_eq_true_eq] at h
  exact ⟨h.1, h.2.1, by rw [show sizeLine = 16777216 by decide]; exact h.2.2⟩
def repD1 (d : PyData) : M C := if repOk d = true then .ret (.val (.str d.shown)) else .fail
abbrev oRepr := o1 repD1
theorem cs_repr : CallS K (rRepr K) oRepr := by
  intro tp H0 H vs cs Q g t r h
  obtain ⟨v, d, rfl, q, h⟩ := o1_ok r h
  unfold repD1 at h
  split at h
  · rename_i l
    exact repr_go q (repOk_of l) (Post.str h g t)
  · exact h.elim
/-! min and max -/
def oMax2 : List C → M C
  | [.val (.int i), .val (.int j)] => .ret (.val (.int (max i j)))
  | _ => .fail
def oMin2 : List C → M C
  | [.val (.int i), .val (.int j)] => .ret (.val (.int (min i j)))
  | _ => .fail
theorem cs_max2 : CallS K (fun xs H Q => ∃ i j : Int, xs = [.int i, .int j] ∧ Q (.int (if j > i then j else i)) H) oMax2 := by
  intro tp H0 H vs cs Q g t r h
  unfold oMax2 at h
  split at h
  · rename_i i j
    obtain ⟨v, w, rfl, q1, q2⟩ := r.two
    cases q1.int; cases q2.int
    refine ⟨i, j, rfl, ?_⟩
    rw [show (if j > i then j else i) = max i j by split <;> omega]
    exact Post.int h g t
  · exact h.elim
theorem cs_min2 : CallS K (fun xs H Q => ∃ i j : Int, xs = [.int i, .int j] ∧ Q (.int (if j < i then j else i)) H) oMin2 := by
  intro tp H0 H vs cs Q g t r h
  unfold oMin2 at h
  split at h
  · rename_i i j
    obtain ⟨v, w, rfl, q1, q2⟩ := r.two
    cases q1.int; cases q2.int
    refine ⟨i, j, rfl, ?_⟩
    rw [show (if j < i then j else i) = min i j by split <;> omega]
    exact Post.int h g t
  · exact h.elim
def intsOf : List PyData → Option (List Int)
  | [] => some []
  | .int i :: ds => (intsOf ds).map (i :: ·)
  | _ :: _ => none
theorem intsOf_map : ∀ ns : List Int, intsOf (ns.map PyData.int) = some ns
  | [] => rfl
  | n :: ns => by rw [List.map_cons, intsOf, intsOf_map ns]; rfl
theorem intsOf_dp : ∀ {vs : List V} {ds : List PyData} {ns : List Int}, DpAll K H vs ds → intsOf ds = some ns → vs = ns.map V.int
  | _, [], ns, h, e => by cases e; cases h; rfl
  | _, .int i :: ds, ns, h, e => by
    unfold intsOf at e
    cases q : intsOf ds with
    | none => rw [q] at e; cases e
    | some ms =>
      rw [q] at e
      cases e
      cases h with
      | cons h1 h2 =>
        cases h1
        rw [intsOf_dp h2 q]
        rfl
  | _, .none :: _, _, _, e => by cases e
  | _, .bool _ :: _, _, _, e => by cases e
  | _, .str _ :: _, _, _, e => by cases e
  | _, .list _ :: _, _, _, e => by cases e
  | _, .tuple _ :: _, _, _, e => by cases e
  | _, .dict _ :: _, _, _, e => by cases e
def maxL : List Int → Int
  | [] => 0
  | [x] => x
  | x :: y :: r => max x (maxL (y :: r))
def minL : List Int → Int
  | [] => 0
  | [x] => x
  | x :: y :: r => min x (minL (y :: r))
theorem maxL_mem : ∀ {ns : List Int}, 0 < ns.length → maxL ns ∈ ns ∧ ∀ y ∈ ns, y ≤ maxL ns
  | [x], _ => by simp [maxL]
  | x :: y :: r, _ => by
    obtain ⟨h1, h2⟩ := maxL_mem (ns := y :: r) (by simp)
    refine ⟨?_, fun z hz => ?_⟩
    · unfold maxL
      by_cases h : x ≤ maxL (y :: r)
      · rw [show max x (maxL (y :: r)) = maxL (y :: r) by omega]; exact List.mem_cons_of_mem _ h1
      · rw [show max x (maxL (y :: r)) = x by omega]; exact List.mem_cons_self
    · unfold maxL
      rcases List.mem_cons.mp hz with rfl | hz
      · omega
      · have := h2 z hz; omega
theorem minL_mem : ∀ {ns : List Int}, 0 < ns.length → minL ns ∈ ns ∧ ∀ y ∈ ns, minL ns ≤ y
  | [x], _ => by simp [minL]
  | x :: y :: r, _ => by
    obtain ⟨h1, h2⟩ := minL_mem (ns := y :: r) (by simp)
    refine ⟨?_, fun z hz => ?_⟩
    · unfold minL
      by_cases h : x ≤ minL (y :: r)
      · rw [show min x (minL (y :: r)) = x by omega]; exact List.mem_cons_self
      · rw [show min x (minL (y :: r)) = minL (y :: r) by omega]; exact List.mem_cons_of_mem _ h1
    · unfold minL
      rcases List.mem_cons.mp hz with rfl | hz
      · omega
      · have := h2 z hz; omega
def foldD (f : List Int → Int) (ne : Bool) : PyData → M C
  | .tuple ds => (match intsOf ds with
    | some ns => if (ne && ns.isEmpty) = true then .fail else .ret (.val (.int (f ns)))
    | none => .fail)
  | .list ds => (match intsOf ds with
    | some ns => if (ne && ns.isEmpty) = true then .fail else .ret (.val (.int (f ns)))
    | none => .fail)
  | _ => .fail
theorem foldD_ok {f : List Int → Int} {ne : Bool} {v : V} {d : PyData} {P : C → Prop} (q : Dp K H v d) (h : wp0 (foldD f ne d) P) : ∃ a ns, v = .ref a ∧ (SqL K H a (ns.map V.int) ∨ SqT K H a (ns.map V.int)) ∧ (ne = true → 0 < ns.length) ∧ P (.val (.int (f ns))) := by
  have go : ∀ {ns : List Int}, wp0 (if (ne && ns.isEmpty) = true then (.fail : M C) else .ret (.val (.int (f ns)))) P → (ne = true → 0 < ns.length) ∧ P (.val (.int (f ns))) := fun {ns} h => by
    split at h
    · exact h.elim
    · rename_i z
      refine ⟨fun e => ?_, h⟩
      subst e
      cases ns with
      | nil => simp at z
      | cons _ _ => simp
  cases q with
  | tup h1 h2 =>
    unfold foldD at h
    dsimp only at h
    split at h
    · rename_i ns e
      have := intsOf_dp h2 e
      subst this
      obtain ⟨a1, a2⟩ := go h
      exact ⟨_, ns, rfl, .inr h1, a1, a2⟩
    · exact h.elim
  | lst h1 h2 =>
    unfold foldD at h
    dsimp only at h
    split at h
    · rename_i ns e
      have := intsOf_dp h2 e
      subst this
      obtain ⟨a1, a2⟩ := go h
      exact ⟨_, ns, rfl, .inl h1, a1, a2⟩
    · exact h.elim
  | _ => exact h.elim
def rMaxU (K : PySem.W.Frag) : List V → Hp → VK → Prop := fun vs H Q => rMax K vs H Q ∨ rMaxT K vs H Q
def rMinU (K : PySem.W.Frag) : List V → Hp → VK → Prop := fun vs H Q => rMin K vs H Q ∨ rMinT K vs H Q
theorem CallR.or {X : Cx} {f : Value} {r r' : List V → Hp → VK → Prop} (h : CallR X f r) (h' : CallR X f r') : CallR X f (fun vs H Q => r vs H Q ∨ r' vs H Q) := by
  intro pins s σ H vs us Q I rv q
  rcases q with q | q
  · exact h pins s σ H vs us Q I rv q
  · exact h' pins s σ H vs us Q I rv q
theorem maxU (K : PySem.W.Frag) {X : Cx} (hc : X.calm = true) (h : X.K = K := by rfl) : CallR X (.builtin "max") (rMaxU K) := h ▸ CallR.or (cr_max hc) (cr_maxT hc)
theorem minU (K : PySem.W.Frag) {X : Cx} (hc : X.calm = true) (h : X.K = K := by rfl) : CallR X (.builtin "min") (rMinU K) := h ▸ CallR.or (cr_min hc) (cr_minT hc)
abbrev oMaxL := o1 (foldD maxL true)
abbrev oMinL := o1 (foldD minL true)
abbrev oSum := o1 (foldD List.sum false)
theorem cs_maxL : CallS K (rMaxU K) oMaxL := by
  intro tp H0 H vs cs Q g t r h
  obtain ⟨v, d, rfl, q, h⟩ := o1_ok r h
  obtain ⟨a, ns, rfl, hs, hn, p⟩ := foldD_ok q h
  have hn := hn rfl
  have fin : ∀ m, m ∈ ns → (∀ y, y ∈ ns → y ≤ m) → Q (.int m) H := fun m h1 h2 => by
    obtain ⟨b1, b2⟩ := maxL_mem hn
    have : m = maxL ns := Int.le_antisymm (b2 m h1) (h2 _ b1)
    rw [this]
    exact Post.int p g t
  rcases hs with hs | hs
  · exact .inl ⟨a, ns, rfl, hs, hn, fin⟩
  · exact .inr ⟨a, ns, rfl, hs, hn, fin⟩
theorem cs_minL : CallS K (rMinU K) oMinL := by
  intro tp H0 H vs cs Q g t r h
  obtain ⟨v, d, rfl, q, h⟩ := o1_ok r h
  obtain ⟨a, ns, rfl, hs, hn, p⟩ := foldD_ok q h
  have hn := hn rfl
  have fin : ∀ m, m ∈ ns → (∀ y, y ∈ ns → m ≤ y) → Q (.int m) H := fun m h1 h2 => by
    obtain ⟨b1, b2⟩ := minL_mem hn
    have : m = minL ns := Int.le_antisymm (h2 _ b1) (b2 m h1)
    rw [this]
    exact Post.int p g t
  rcases hs with hs | hs
  · exact .inl ⟨a, ns, rfl, hs, hn, fin⟩
  · exact .inr ⟨a, ns, rfl, hs, hn, fin⟩
/-- sum of a list (of a tuple: no rule) -/
def sumD : PyData → M C
  | .list ds => (match intsOf ds with
    | some ns => .ret (.val (.int ns.sum))
    | none => .fail)
  | _ => .fail
abbrev oSumL := o1 sumD
theorem cs_sum : CallS K (rSum K) oSumL := by
  intro tp H0 H vs cs Q g t r h
  obtain ⟨v, d, rfl, q, h⟩ := o1_ok r h
  cases q with
  | lst h1 h2 =>
    unfold sumD at h
    dsimp only at h
    split at h
    · rename_i ns e
      have := intsOf_dp h2 e
      subst this
      exact ⟨_, ns, rfl, h1, Post.int h g t⟩
    · exact h.elim
  | _ => exact h.elim
def blsOf : List PyData → Option (List Bool)
  | [] => some []
  | .bool i :: ds => (blsOf ds).map (i :: ·)
  | _ :: _ => none
theorem blsOf_dp : ∀ {vs : List V} {ds : List PyData} {ns : List Bool}, DpAll K H vs ds → blsOf ds = some ns → vs = ns.map V.bl
  | _, [], ns, h, e => by cases e; cases h; rfl
  | _, .bool i :: ds, ns, h, e => by
    unfold blsOf at e
    cases q : blsOf ds with
    | none => rw [q] at e; cases e
    | some ms =>
      rw [q] at e
      cases e
      cases h with
      | cons h1 h2 =>
        cases h1
        rw [blsOf_dp h2 q]
        rfl
  | _, .none :: _, _, _, e => by cases e
  | _, .int _ :: _, _, _, e => by cases e
  | _, .str _ :: _, _, _, e => by cases e
  | _, .list _ :: _, _, _, e => by cases e
  | _, .tuple _ :: _, _, _, e => by cases e
  | _, .dict _ :: _, _, _, e => by cases e
theorem blsOf_map : ∀ ns : List Bool, blsOf (ns.map PyData.bool) = some ns
  | [] => rfl
  | n :: ns => by rw [List.map_cons, blsOf, blsOf_map ns]; rfl
def bigD (f : List Bool → Bool) : PyData → M C
  | .list ds => (match blsOf ds with
    | some ns => .ret (.val (.bool (f ns)))
    | none => .fail)
  | _ => .fail
abbrev oAny := o1 (bigD fun bs => bs.any id)
abbrev oAll := o1 (bigD fun bs => bs.all id)
theorem cs_any : CallS K (rAny K) oAny := by
  intro tp H0 H vs cs Q g t r h
  obtain ⟨v, d, rfl, q, h⟩ := o1_ok r h
  cases q with
  | lst h1 h2 =>
    unfold bigD at h
    dsimp only at h
    split at h
    · rename_i ns e
      have := blsOf_dp h2 e
      subst this
      exact ⟨_, ns, rfl, h1, Post.bl h g t⟩
    · exact h.elim
  | _ => exact h.elim
theorem cs_all : CallS K (rAll K) oAll := by
  intro tp H0 H vs cs Q g t r h
  obtain ⟨v, d, rfl, q, h⟩ := o1_ok r h
  cases q with
  | lst h1 h2 =>
    unfold bigD at h
    dsimp only at h
    split at h
    · rename_i ns e
      have := blsOf_dp h2 e
      subst this
      exact ⟨_, ns, rfl, h1, Post.bl h g t⟩
    · exact h.elim
  | _ => exact h.elim
theorem anyK (K : PySem.W.Frag) {X : Cx} (hc : X.calm = true) (h : X.K = K := by rfl) : CallR X (.builtin "any") (rAny K) := h ▸ cr_any hc
theorem allK (K : PySem.W.Frag) {X : Cx} (hc : X.calm = true) (h : X.K = K := by rfl) : CallR X (.builtin "all") (rAll K) := h ▸ cr_all hc
/-! list(x), tuple(x) -/
def oListC : List C → M C
  | [.val (.tuple ds)] => .ret (.own (.lst ds))
  | [c] => (match c.items with
    | some ds => .ret (.own (.lst ds))
    | none => .fail)
  | _ => .fail
def oTupC : List C → M C
  | [.val (.tuple ds)] => .ret (.val (.tuple ds))
  | [c] => (match c.items with
    | some ds => .ret (.val (.tuple ds))
    | none => .fail)
  | _ => .fail
theorem cs_list : CallS K (rListOf K) oListC := by
  intro tp H0 H vs cs Q g t r h
  unfold oListC at h
  split at h
  · obtain ⟨v, rfl, q⟩ := r.one
    obtain ⟨a, us, rfl, q1, q2, q3⟩ := q.tup
    exact ⟨a, us, rfl, .inr q1, fun p hp => Post.lst h g t hp q2 q3⟩
  · obtain ⟨v, rfl, q⟩ := r.one
    split at h
    · rename_i ds e
      obtain ⟨a, us, rfl, q1, q2, q3⟩ := q.rd e
      exact ⟨a, us, rfl, .inl (.inl q1), fun p hp => Post.lst h g t hp q2 q3⟩
    · exact h.elim
  · exact h.elim
theorem cs_tuple : CallS K (rTupOf K) oTupC := by
  intro tp H0 H vs cs Q g t r h
  unfold oTupC at h
  split at h
  · obtain ⟨v, rfl, q⟩ := r.one
    obtain ⟨a, us, rfl, q1, q2, q3⟩ := q.tup
    exact ⟨a, us, rfl, .inr ⟨q1, Post.at_ h g t q⟩⟩
  · obtain ⟨v, rfl, q⟩ := r.one
    split at h
    · rename_i ds e
      obtain ⟨a, us, rfl, q1, q2, q3⟩ := q.rd e
      exact ⟨a, us, rfl, .inl ⟨.inl q1, fun p hp => Post.tup h g t hp q2 q3⟩⟩
    · exact h.elim
  · exact h.elim
/-! math.gcd -/
def oGcd : List C → M C
  | [.val (.int i), .val (.int j)] => .ret (.val (.int ((Nat.gcd i.natAbs j.natAbs : Nat) : Int)))
  | _ => .fail
theorem cs_gcd : CallS K rGcd oGcd := by
  intro tp H0 H vs cs Q g t r h
  unfold oGcd at h
  split at h
  · rename_i i j
    obtain ⟨v, w, rfl, q1, q2⟩ := r.two
    cases q1.int; cases q2.int
    exact ⟨i, j, rfl, Post.int h g t⟩
  · exact h.elim
/-! isinstance(x, T), x flat -/
def isiD (T : String) : PyData → M C
  | .none => (match kitB "NoneType" T with | some b => .ret (.val (.bool b)) | none => .fail)
  | .bool _ => (match kitB "bool" T with | some b => .ret (.val (.bool b)) | none => .fail)
  | .int _ => (match kitB "int" T with | some b => .ret (.val (.bool b)) | none => .fail)
  | .str _ => (match kitB "str" T with | some b => .ret (.val (.bool b)) | none => .fail)
  | _ => .fail
end
end Cs

set_option maxRecDepth 100000
set_option maxHeartbeats 4000000
/-! statements, loops, comprehensions, defs -/
namespace Cs
open PySem PySem.Spec PyProof.Rows L2
inductive Res where
  | nx (ρ : Ro)
  | rt (c : C)
  | bk (ρ : Ro)
  | ct (ρ : Ro)
section
variable {tp : Option (Addr × Addr)} {K : PySem.W.Frag} {H H' H'' H0 H1 He : Hp} {Hq : Hp} {σ : L2.St} {ρ : Ro}
def NxOk (tp : Option (Addr × Addr)) (K : PySem.W.Frag) (He Hq : Hp) (F : L2.St → Hp → Prop) (ρ : Ro) : Prop := ∀ σ' H' Hq', GrT tp Hq Hq' → Rel tp K He Hq' H' σ' ρ → F σ' H'
def PostS (tp : Option (Addr × Addr)) (K : PySem.W.Frag) (He Hq : Hp) (D : Ends) : Res → Prop
  | .nx ρ => NxOk tp K He Hq D.nx ρ
  | .bk ρ => NxOk tp K He Hq D.bk ρ
  | .ct ρ => NxOk tp K He Hq D.ct ρ
  | .rt c => ∀ v H', GrT tp He H' → TOk tp H' → RC tp K He H' v c → D.rt v H'
def RS (K : PySem.W.Frag) (t : TS) (m : Ro → M Res) : Prop := ∀ tp He Hq ρ σ H D, Rel tp K He Hq H σ ρ → wp0 (m ρ) (PostS tp K He Hq D) → t D σ H
theorem NxOk.mono {F : L2.St → Hp → Prop} {Hq2 : Hp} (h : NxOk tp K He Hq F ρ) (g : GrT tp Hq Hq2) : NxOk tp K He Hq2 F ρ := fun σ' H' Hq' g' r => h σ' H' Hq' (g.trans g') r
theorem PostS.mono {D : Ends} {Hq2 : Hp} {r : Res} (h : PostS tp K He Hq D r) (g : GrT tp Hq Hq2) : PostS tp K He Hq2 D r := by
  cases r with
  | nx ρ => exact NxOk.mono h g
  | bk ρ => exact NxOk.mono h g
  | ct ρ => exact NxOk.mono h g
  | rt c => exact h
/-! ### blocks -/
def mNext (ρ : Ro) : M Res := .ret (.nx ρ)
def mSeq (m n : Ro → M Res) (ρ : Ro) : M Res := (m ρ).bind fun r => match r with
  | .nx ρ' => n ρ'
  | r => .ret r
def mBreak (ρ : Ro) : M Res := .ret (.bk ρ)
def mCont (ρ : Ro) : M Res := .ret (.ct ρ)
theorem rs_next : RS K tNext mNext := fun tp He Hq ρ σ H D r h => h σ H Hq .refl r
theorem rs_break : RS K tBreak mBreak := fun tp He Hq ρ σ H D r h => h σ H Hq .refl r
theorem rs_cont : RS K tCont mCont := fun tp He Hq ρ σ H D r h => h σ H Hq .refl r
theorem rs_seq {t u : TS} {m n : Ro → M Res} (h1 : RS K t m) (h2 : RS K u n) : RS K (tSeq t u) (mSeq m n) := by
  intro tp He Hq ρ σ H D r h
  refine h1 tp He Hq ρ σ H _ r (wp0_mono (fun q hq => ?_) (wp0_bind.mp h))
  cases q with
  | nx ρ' => exact fun σ' H' Hq' g' r' => h2 tp He Hq' ρ' σ' H' D r' (wp0_mono (fun q hq => hq.mono g') hq)
  | bk ρ' => exact hq
  | ct ρ' => exact hq
  | rt c => exact hq
def mDrop (g : Ro → M C) (ρ : Ro) : M Res := (g ρ).bind fun _ => .ret (.nx ρ)
theorem rs_drop {te : TE} {g : Ro → M C} (h1 : RE K te g) : RS K (tDrop te) (mDrop g) := by
  intro tp He Hq ρ σ H D r h
  refine h1 tp He Hq ρ σ H _ r (wp0_mono (fun c hc => ?_) (wp0_bind.mp h))
  intro x H1 g1 t1 rx
  exact hc σ H1 Hq .refl (r.go g1 t1)
def mRet (g : Ro → M C) (ρ : Ro) : M Res := (g ρ).bind fun c => .ret (.rt c)
theorem rs_ret {te : TE} {g : Ro → M C} (h1 : RE K te g) : RS K (tRet te) (mRet g) := by
  intro tp He Hq ρ σ H D r h
  refine h1 tp He Hq ρ σ H _ r (wp0_mono (fun c hc => ?_) (wp0_bind.mp h))
  intro x H1 g1 t1 rx
  exact hc x H1 ((r.sub.trans r.gr).trans g1) t1 (rx.base (r.sub.trans r.gr) r.tok)
/-- return of a name: what is the def's own is handed over -/
def mRetV (i : Nat) (ρ : Ro) : M Res := match ρ[i]? with
  | some (some c) => .ret (.rt c)
  | _ => .fail
theorem rs_retV {i : Nat} : RS K (tRet (tVar i)) (mRetV i) := by
  intro tp He Hq ρ σ H D r h
  unfold mRetV at h
  split at h
  · rename_i c e
    obtain ⟨v, h1, h2⟩ := r.at_ i c e
    refine ⟨v, h1, h v H (r.sub.trans r.gr) r.tok ?_⟩
    cases c with
    | val d => exact h2
    | own o =>
      obtain ⟨a, e, f, n, h⟩ := h2
      refine ⟨a, e, ?_, n, h⟩
      cases q : He a with
      | none => rfl
      | some o =>
        rw [r.sub a o q n.ne] at f
        cases f
    | bor o =>
      obtain ⟨a, e, h⟩ := h2
      exact ⟨a, e, r.bor h⟩
    | tape => exact h2
  · exact h.elim
def mRetN (_ : Ro) : M Res := .ret (.rt (.val .none))
theorem rs_retN : RS K tRetN mRetN := fun tp He Hq ρ σ H D r h => h .non H (r.sub.trans r.gr) r.tok ⟨.non, rfl⟩
def mIf (gc : Ro → M Bool) (m n : Ro → M Res) (ρ : Ro) : M Res := (gc ρ).bind fun b => if b = true then m ρ else n ρ
theorem rs_if {c : TT} {t u : TS} {gc : Ro → M Bool} {m n : Ro → M Res} (hc : RT K c gc) (h1 : RS K t m) (h2 : RS K u n) : RS K (tIfS c t u) (mIf gc m n) := by
  intro tp He Hq ρ σ H D r h
  refine hc tp He Hq ρ σ H _ r (wp0_mono (fun b hb => ?_) (wp0_bind.mp h))
  intro H1 g1 t1
  cases b with
  | true =>
    rw [if_pos rfl] at hb ⊢
    exact h1 tp He Hq ρ σ H1 D (r.go g1 t1) hb
  | false =>
    rw [if_neg Bool.false_ne_true] at hb ⊢
    exact h2 tp He Hq ρ σ H1 D (r.go g1 t1) hb
/-! ### targets -/
def asgR (i : Nat) (c : C) (ρ : Ro) : M Ro := match ρ[i]? with
  | some _ => (match c with
    | .val d => .ret (ρ.set i (some (.val d)))
    | .own o => .ret (ρ.set i (some (.own o)))
    | _ => .fail)
  | none => .fail
theorem Rel.put {v : V} {c : C} {i : Nat} (r : Rel tp K He Hq H σ ρ) (s : SR tp K Hq H v c) (d : ∀ (a : Addr) (o : PO), c = .own o → v = .ref a → ∀ (j : Nat) (o' : PO), ρ[j]? = some (some (.own o')) → σ[j]? ≠ some (some (.ref a))) :
    Rel tp K He Hq H (σ.set i (some v)) (ρ.set i (some c)) := by
  refine ⟨by rw [List.length_set, List.length_set, r.len], fun j c' e => ?_, fun j k a o o' e1 e2 e3 e4 => ?_, r.sub, r.gr, r.tok, r.he⟩
  · by_cases hij : i = j
    · subst hij
      have hl : i < ρ.length := by
        have := (List.getElem?_eq_some_iff.mp e).1
        rwa [List.length_set] at this
      rw [List.getElem?_set_self hl] at e
      cases e
      exact ⟨v, List.getElem?_set_self (by rw [r.len]; exact hl), s⟩
    · rw [List.getElem?_set_ne hij] at e
      obtain ⟨u, h1, h2⟩ := r.at_ j c' e
      exact ⟨u, by rw [List.getElem?_set_ne hij]; exact h1, h2⟩
  · by_cases hij : i = j
    · subst hij
      by_cases hik : i = k
      · exact hik
      · have hl : i < ρ.length := by
          have := (List.getElem?_eq_some_iff.mp e1).1
          rwa [List.length_set] at this
        rw [List.getElem?_set_self hl] at e1
        rw [List.getElem?_set_self (by rw [r.len]; exact hl)] at e3
        rw [List.getElem?_set_ne hik] at e2 e4
        have e1' : c = .own o := by simpa using e1
        have e3' : v = .ref a := by simpa using e3
        exact absurd e4 (d a o e1' e3' k o' e2)
    · rw [List.getElem?_set_ne hij] at e1 e3
      by_cases hik : i = k
      · subst hik
        have hl : i < ρ.length := by
          have := (List.getElem?_eq_some_iff.mp e2).1
          rwa [List.length_set] at this
        rw [List.getElem?_set_self hl] at e2
        rw [List.getElem?_set_self (by rw [r.len]; exact hl)] at e4
        have e2' : c = .own o' := by simpa using e2
        have e4' : v = .ref a := by simpa using e4
        exact absurd e3 (d a o' e2' e4' j o e1)
      · rw [List.getElem?_set_ne hik] at e2 e4
        exact r.dist j k a o o' e1 e2 e3 e4
/-- only the slots sl are stored to -/
def Off (sl : List Nat) (σ σ' : L2.St) : Prop := σ'.length = σ.length ∧ ∀ j : Nat, j ∉ sl → σ'[j]? = σ[j]?
theorem Off.refl {sl : List Nat} {σ : L2.St} : Off sl σ σ := ⟨rfl, fun _ _ => rfl⟩
theorem Off.trans {s1 s2 : List Nat} {σ σ1 σ2 : L2.St} (h : Off s1 σ σ1) (q : Off s2 σ1 σ2) : Off (s1 ++ s2) σ σ2 :=
  ⟨q.1.trans h.1, fun j hj => by
    simp only [List.mem_append, not_or] at hj
    rw [q.2 j hj.2, h.2 j hj.1]⟩
def RG (K : PySem.W.Frag) (g : TG) (a : C → Ro → M Ro) (sl : List Nat) : Prop := ∀ tp He Hq ρ σ Hb H v c (Q : L2.St → Hp → Prop), Rel tp K He Hq Hb σ ρ → GrT tp Hb H → TOk tp H → RC tp K Hb H v c → wp0 (a c ρ) (fun ρ' => ∀ σ', Off sl σ σ' → Rel tp K He Hq H σ' ρ' → Q σ' H) → g v σ H Q
theorem RC.sr {Hb : Hp} {v : V} {c : C} (r : Rel tp K He Hq Hb σ ρ) (h : RC tp K Hb H v c) (n : ∀ o, c ≠ .bor o) : SR tp K Hq H v c := by
  cases c with
  | val d => exact h
  | own o =>
    obtain ⟨a, e, f, k, h⟩ := h
    exact ⟨a, e, r.gr.free r.tok f, k, h⟩
  | bor o => exact absurd rfl (n o)
  | tape => exact h
theorem rg_name {i : Nat} : RG K (gName i) (asgR i) [i] := by
  have off : ∀ {σ : L2.St} {v : V}, Off [i] σ (σ.set i (some v)) := fun {σ v} => ⟨List.length_set, fun j hj => List.getElem?_set_ne (fun z => hj (by simp [z]))⟩
  intro tp He Hq ρ σ Hb H v c Q r g t rc h
  unfold asgR at h
  split at h
  · split at h
    · rename_i d
      exact h _ off ((r.go g t).put (rc.sr r (fun _ z => by cases z)) (fun _ _ z => by cases z))
    · rename_i o
      refine h _ off ((r.go g t).put (rc.sr r (fun _ z => by cases z)) (fun a o2 z e j o' hj hs => ?_))
      obtain ⟨a', e', f, n, q⟩ := rc
      obtain ⟨u, hu, hr⟩ := r.at_ j _ hj
      obtain ⟨b, eb, _, _, qb⟩ := hr
      rw [hs] at hu
      cases hu
      cases eb
      rw [e] at e'
      cases e'
      cases o' with
      | lst ds =>
        obtain ⟨vs, h1, _⟩ := qb
        rw [f] at h1
        cases h1
    · exact h.elim
  · exact h.elim
def RGs (K : PySem.W.Frag) (g : TGs) (a : List PyData → Ro → M Ro) (sl : List Nat) : Prop := ∀ tp He Hq ρ σ H vs ds (Q : L2.St → Hp → Prop), Rel tp K He Hq H σ ρ → DpAll K H vs ds → lfAll ds = true → wp0 (a ds ρ) (fun ρ' => ∀ σ', Off sl σ σ' → Rel tp K He Hq H σ' ρ' → Q σ' H) → g vs σ H Q
def aNil : List PyData → Ro → M Ro
  | [], ρ => .ret ρ
  | _, _ => .fail
def aCons (a : C → Ro → M Ro) (as : List PyData → Ro → M Ro) : List PyData → Ro → M Ro
  | d :: ds, ρ => (a (.val d) ρ).bind fun ρ' => as ds ρ'
  | [], _ => .fail
def aTup (n : Nat) (as : List PyData → Ro → M Ro) : C → Ro → M Ro
  | .val (.tuple ds), ρ => if ds.length = n then as ds ρ else .fail
  | _, _ => .fail
theorem rgs_nil : RGs K gNil aNil [] := by
  intro tp He Hq ρ σ H vs ds Q r hd f h
  unfold aNil at h
  split at h
  · cases hd
    exact ⟨rfl, h σ .refl r⟩
  · exact h.elim
theorem rgs_cons {g : TG} {gs : TGs} {a : C → Ro → M Ro} {as : List PyData → Ro → M Ro} {s1 s2 : List Nat} (h1 : RG K g a s1) (h2 : RGs K gs as s2) : RGs K (gCons g gs) (aCons a as) (s1 ++ s2) := by
  intro tp He Hq ρ σ H vs ds Q r hd f h
  unfold aCons at h
  split at h
  · rename_i d ds
    simp only [lfAll, Bool.and_eq_true] at f
    cases hd with
    | cons q1 q2 =>
      refine ⟨_, _, rfl, h1 tp He Hq ρ σ H H _ (.val d) _ r .refl r.tok ⟨q1, f.1⟩ (wp0_mono (fun ρ' hρ => ?_) (wp0_bind.mp h))⟩
      intro σ' o' r'
      exact h2 tp He Hq ρ' σ' H _ ds Q r' q2 f.2 (wp0_mono (fun ρ2 h2 σ2 o2 r2 => h2 σ2 (o'.trans o2) r2) hρ)
  · exact h.elim
theorem rg_tup {n : Nat} {gs : TGs} {as : List PyData → Ro → M Ro} {sl : List Nat} (h2 : RGs K gs as sl) : RG K (gTup K n gs) (aTup n as) sl := by
  intro tp He Hq ρ σ Hb H v c Q r g t rc h
  unfold aTup at h
  split at h
  · rename_i ds
    obtain ⟨a, vs, rfl, q1, q2, q3⟩ := rc.tup
    split at h
    · rename_i e
      exact ⟨a, vs, rfl, q1, by rw [q2.len]; exact e, h2 tp He Hq ρ σ H vs ds Q (r.go g t) q2 q3 h⟩
    · exact h.elim
  · exact h.elim
def mAsg (g : Ro → M C) (a : C → Ro → M Ro) (ρ : Ro) : M Res := (g ρ).bind fun c => (a c ρ).bind fun ρ' => .ret (.nx ρ')
theorem rs_asg {te : TE} {g : TG} {ge : Ro → M C} {a : C → Ro → M Ro} {sl : List Nat} (h1 : RE K te ge) (h2 : RG K g a sl) : RS K (tAsg te g) (mAsg ge a) := by
  intro tp He Hq ρ σ H D r h
  refine h1 tp He Hq ρ σ H _ r (wp0_mono (fun c hc => ?_) (wp0_bind.mp h))
  intro x H1 g1 t1 rx
  exact h2 tp He Hq ρ σ H H1 x c _ r g1 t1 rx (wp0_mono (fun ρ' hρ σ' _ r' => hρ σ' H1 Hq .refl r') (wp0_bind.mp hc))
/-- a, b = x, y -/
def mPar (i j : Nat) (gs : Ro → M (List C)) (ρ : Ro) : M Res := (gs ρ).bind fun cs => match cs with
  | [c, d] => (asgR i c ρ).bind fun ρ1 => (match d with
    | .own _ => (.fail : M Res)
    | d => (asgR j d ρ1).bind fun ρ2 => .ret (.nx ρ2))
  | _ => .fail
theorem rs_par {i j : Nat} {ta : TA} {gs : Ro → M (List C)} (h1 : RA K ta gs) : RS K (tPar2 i j ta) (mPar i j gs) := by
  intro tp He Hq ρ σ H D r h
  refine h1 tp He Hq ρ σ H _ r (wp0_mono (fun cs hc => ?_) (wp0_bind.mp h))
  intro vs H1 g1 t1 rx
  split at hc
  · rename_i c d
    obtain ⟨v, w, rfl, q1, q2⟩ := rx.two
    refine ⟨v, w, rfl, rg_name tp He Hq ρ σ H H1 v c _ r g1 t1 q1 (wp0_mono (fun ρ1 h2 σ1 _ r1 => ?_) (wp0_bind.mp hc))⟩
    split at h2
    · exact h2.elim
    · rename_i n
      have q3 : RC tp K H1 H1 w d := by
        cases d with
        | own o => exact absurd rfl (n o)
        | val d => exact q2
        | bor d => exact q2
        | tape => exact q2
      exact rg_name tp He Hq ρ1 σ1 H1 H1 w d _ r1 .refl t1 q3 (wp0_mono (fun ρ2 h3 σ2 _ r2 => h3 σ2 H1 Hq .refl r2) (wp0_bind.mp h2))
  · exact hc.elim
/-! ### a list of one's own is changed -/
def setOwn (i : Nat) (ds : List PyData) (ρ : Ro) : Ro := ρ.set i (some (.own (.lst ds)))
theorem Rel.own {i : Nat} {ds ds' : List PyData} {vs' : List V} (r : Rel tp K He Hq H σ ρ) (e : ρ[i]? = some (some (.own (.lst ds)))) : ∃ a vs, σ[i]? = some (some (.ref a)) ∧ H a = some (.lst vs) ∧ DpAll K H vs ds ∧ lfAll ds = true ∧
    (∀ vs' ds', DpAll K H vs' ds' → lfAll ds' = true → Rel tp K He Hq (upd H a (.lst vs')) σ (setOwn i ds' ρ)) := by
  obtain ⟨v, h1, a, e2, f, n, vs, h2, h3, h4⟩ := r.at_ i _ e
  subst e2
  refine ⟨a, vs, h1, h2, h3, h4, fun vs' ds' hd hf => ?_⟩
  have im : Im H (upd H a (.lst vs')) := Im.set h2
  have hl : i < ρ.length := (List.getElem?_eq_some_iff.mp e).1
  refine ⟨by unfold setOwn; rw [List.length_set, r.len], fun j c ej => ?_, fun j k b o o' e1 e2 e3 e4 => ?_, r.sub, fun b o eb nb => ?_, fun t l et => ?_, r.he⟩
  · unfold setOwn at ej
    by_cases hij : i = j
    · subst hij
      rw [List.getElem?_set_self hl] at ej
      cases ej
      exact ⟨_, h1, a, rfl, f, n, vs', upd_same, hd.imlf im ds' _ hf, hf⟩
    · rw [List.getElem?_set_ne hij] at ej
      obtain ⟨u, q1, q2⟩ := r.at_ j c ej
      refine ⟨u, q1, ?_⟩
      cases c with
      | val d => exact ⟨q2.1.imlf im d _ q2.2, q2.2⟩
      | own o =>
        obtain ⟨b, eb, fb, nb, q⟩ := q2
        have hne : b ≠ a := fun z => by
          subst z
          subst eb
          exact hij (r.dist i j b _ _ e ej h1 q1)
        refine ⟨b, eb, fb, nb, ?_⟩
        cases o with
        | lst es =>
          obtain ⟨us, p1, p2, p3⟩ := q
          exact ⟨us, by rw [upd_ne hne]; exact p1, p2.imlf im es _ p3, p3⟩
      | bor o => exact q2
      | tape => exact q2
  · have own_of : ∀ {m : Nat} {o : PO}, (setOwn i ds' ρ)[m]? = some (some (.own o)) → ∃ o, ρ[m]? = some (some (.own o)) := fun {m o} em => by
      unfold setOwn at em
      by_cases him : i = m
      · subst him; exact ⟨_, e⟩
      · rw [List.getElem?_set_ne him] at em; exact ⟨_, em⟩
    obtain ⟨o1, e1'⟩ := own_of e1
    obtain ⟨o2, e2'⟩ := own_of e2
    exact r.dist j k b o1 o2 e1' e2' e3 e4
  · have hne : b ≠ a := fun z => by subst z; rw [f] at eb; cases eb
    rw [upd_ne hne]
    exact r.gr b o eb nb
  · exact (r.tok t l et).upd (n t l et).1 (n t l et).2
end
end Cs

set_option maxRecDepth 100000
set_option maxHeartbeats 4000000
/-! what is walked; for, while, comprehensions -/
namespace Cs
open PySem PySem.Spec PyProof.Rows L2
/-- a list, a tuple or a text, walked -/
def iSeq (K : PySem.W.Frag) (tl : TE) : TI := fun σ H R => tl σ H fun x H1 => (∃ a, x = .ref a ∧ (∃ xs, SqL K H1 a xs) ∧ R (Itl K a) H1) ∨ (∃ a, x = .ref a ∧ (∃ xs, SqT K H1 a xs) ∧ R (Itt K a) H1) ∨ (∃ z, x = .str z ∧ R (Its z) H1)
theorem pi_seq (K : PySem.W.Frag) {X : Cx} {tg l : Expr} {tl : TE} (hl : PE X l tl) (h : X.K = K := by rfl) : PI X tg l (iSeq K tl) := by
  subst h
  refine ⟨fun pins s σ H R I h => ?_⟩
  refine thn (hl.run pins s σ H _ I h) fun v s1 ⟨x, H1, I1, r1, q1⟩ => ?_
  rcases q1 with ⟨a, e, ⟨xs, hq⟩, q⟩ | ⟨a, e, ⟨xs, hq⟩, q⟩ | ⟨z, e, q⟩
  · subst e
    cases r1
    obtain ⟨its, rv, p, hz⟩ := I1.list hq
    refine wpAny_pyIter_list p.isList ?_
    refine ⟨s1.heap.objs.size, [s1.heap.objs.size], _, _, H1, rfl, I1.kept (t' := s1.toks) fun b o e => Heap.get?_push_of_some _ e, turn_list a _, ⟨_, Heap.get?_push_size _ rfl, rfl, rfl⟩, fun b hb => ?_, q⟩
    have e : b = s1.heap.objs.size := by simpa using hb
    subst e
    exact I1.fpOk (Nat.le_refl _) (I1.hok.fresh (Nat.le_refl _))
  · subst e
    cases r1
    obtain ⟨its, rv, p, hz⟩ := I1.tuple hq
    refine wpAny_pyIter_tuple (show s1.heap.IsTuple a its.toArray from p) ?_
    refine ⟨s1.heap.objs.size, [s1.heap.objs.size], _, _, H1, rfl, I1.kept (t' := s1.toks) fun b o e => Heap.get?_push_of_some _ e, turn_tuple a _, ⟨_, Heap.get?_push_size _ rfl, rfl, rfl⟩, fun b hb => ?_, q⟩
    have e : b = s1.heap.objs.size := by simpa using hb
    subst e
    exact I1.fpOk (Nat.le_refl _) (I1.hok.fresh (Nat.le_refl _))
  · subst e
    obtain ⟨t, rfl⟩ := r1
    cases ha : z.cps.all (· < 128)
    · exact wpAny_pyIter_wide ha (pi_one (tk := s1.toks) I1 _ (turn_str _ z t "str_iterator" (.inr rfl)) ⟨_, Heap.get?_push_size _ rfl, rfl, rfl⟩ q)
    · exact wpAny_pyIter_ascii ha (pi_one (tk := s1.toks) I1 _ (turn_str _ z t "str_ascii_iterator" (.inl rfl)) ⟨_, Heap.get?_push_size _ rfl, rfl, rfl⟩ q)
section
variable {tp : Option (Addr × Addr)} {K : PySem.W.Frag} {H H' H'' H0 H1 He : Hp} {Hq : Hp} {σ : L2.St} {ρ : Ro}
/-- the walk J yields the data ds, while tuples stay and what stands at pa stays -/
def Wk (K : PySem.W.Frag) (H1 : Hp) (J : It) (pa : List Addr) (ds : List PyData) : Prop := ∀ H', Im H1 H' → (∀ p ∈ pa, ∀ o, H1 p = some o → H' p = some o) →
  J.stop ds.length H' ∧ ∀ (i : Nat) (d : PyData), ds[i]? = some d → J.go i H' ∧ ∀ x H'', J.yld i H' x H'' → Same H' H'' ∧ Dp K H'' x d
theorem wk_list {a : Addr} {vs : List V} {ds : List PyData} (h : Rd H1 a (.lst vs)) (hd : DpAll K H1 vs ds) (f : lfAll ds = true) : Wk K H1 (Itl K a) [a] ds := by
  intro H' im kp
  have hs : SqL K H' a vs := by
    rcases h with h | ⟨o, h⟩
    · exact .inl (.inl (kp a (by simp) _ h))
    · exact .inl (.inr ⟨o, im.frz _ _ _ h⟩)
  have hd' := hd.imlf im ds _ f
  refine ⟨⟨vs, hs, by rw [hd.len]; exact Nat.le_refl _⟩, fun i d e => ?_⟩
  obtain ⟨v, h1, h2⟩ := hd'.get e
  refine ⟨⟨vs, v, hs, h1⟩, fun x H'' y => ?_⟩
  obtain ⟨e1, y⟩ := y
  subst e1
  have := y vs hs
  rw [h1] at this
  cases this
  exact ⟨fun _ _ e => e, h2⟩
theorem wk_tup {a : Addr} {vs : List V} {ds : List PyData} (h : SqT K H1 a vs) (hd : DpAll K H1 vs ds) (f : lfAll ds = true) : Wk K H1 (Itt K a) [] ds := by
  intro H' im kp
  have hs : SqT K H' a vs := im.sqT h
  have hd' := hd.imlf im ds _ f
  refine ⟨⟨vs, hs, by rw [hd.len]; exact Nat.le_refl _⟩, fun i d e => ?_⟩
  obtain ⟨v, h1, h2⟩ := hd'.get e
  refine ⟨⟨vs, v, hs, h1⟩, fun x H'' y => ?_⟩
  obtain ⟨e1, y⟩ := y
  subst e1
  have := y vs hs
  rw [h1] at this
  cases this
  exact ⟨fun _ _ e => e, h2⟩
def signsD (z : Str) : List PyData := z.cps.toList.map fun c => .str ⟨#[c]⟩
theorem lf_signs (z : Str) : lfAll (signsD z) = true := lfAll_iff.mpr fun d m => by
  obtain ⟨c, _, rfl⟩ := List.mem_map.mp m
  rfl
theorem wk_str {z : Str} : Wk K H1 (Its z) [] (signsD z) := by
  intro H' im kp
  refine ⟨show z.cps.size ≤ (signsD z).length by simp [signsD], fun i d e => ?_⟩
  unfold signsD at e
  rw [List.getElem?_map] at e
  cases q : z.cps.toList[i]? with
  | none => rw [q] at e; cases e
  | some c =>
    rw [q] at e
    cases e
    have hi := (List.getElem?_eq_some_iff.mp q).1
    refine ⟨show i < z.cps.size by simpa using hi, fun x H'' y => ?_⟩
    obtain ⟨e1, c', hc, e2⟩ := y
    subst e1 e2
    have q' : z.cps[i]? = some c := by simpa using q
    rw [q'] at hc
    cases hc
    exact ⟨fun _ _ e => e, .str _⟩
def rngD (lo c : Int) (n : Nat) : List PyData := (List.range n).map fun i => .int (lo + (i : Nat) * c)
theorem lf_rng (lo c : Int) (n : Nat) : lfAll (rngD lo c n) = true := lfAll_iff.mpr fun d m => by
  obtain ⟨c, _, rfl⟩ := List.mem_map.mp m
  rfl
theorem rngD_get {lo c : Int} {n i : Nat} {d : PyData} (e : (rngD lo c n)[i]? = some d) : i < n ∧ d = .int (lo + (i : Nat) * c) := by
  unfold rngD at e
  rw [List.getElem?_map] at e
  cases q : (List.range n)[i]? with
  | none => rw [q] at e; cases e
  | some j =>
    rw [q] at e
    cases e
    have hi := (List.getElem?_eq_some_iff.mp q).1
    rw [List.getElem?_range (by simpa using hi)] at q
    cases q
    exact ⟨by simpa using hi, rfl⟩
theorem wk_rng {lo : Int} {n : Nat} : Wk K H1 (Itr lo n) [] (rngD lo 1 n) := by
  intro H' im kp
  refine ⟨show n ≤ (rngD lo 1 n).length by simp [rngD], fun i d e => ?_⟩
  obtain ⟨h1, rfl⟩ := rngD_get e
  refine ⟨h1, fun x H'' y => ?_⟩
  obtain ⟨e1, e2⟩ := y
  subst e1 e2
  rw [Int.mul_one]
  exact ⟨fun _ _ e => e, .int _⟩
theorem wk_rngC {lo c : Int} {n : Nat} : Wk K H1 (Itc lo c n) [] (rngD lo c n) := by
  intro H' im kp
  refine ⟨show n ≤ (rngD lo c n).length by simp [rngD], fun i d e => ?_⟩
  obtain ⟨h1, rfl⟩ := rngD_get e
  refine ⟨h1, fun x H'' y => ?_⟩
  obtain ⟨e1, e2⟩ := y
  subst e1 e2
  exact ⟨fun _ _ e => e, .int _⟩
theorem lf_rev {ds : List PyData} (f : lfAll ds = true) : lfAll ds.reverse = true := lfAll_iff.mpr fun d m => lfAll_iff.mp f d (List.mem_reverse.mp m)
theorem rev_get {ds : List PyData} {i : Nat} {d : PyData} (e : ds.reverse[i]? = some d) : i < ds.length ∧ ds[ds.length - 1 - i]? = some d := by
  have hi : i < ds.length := by have := (List.getElem?_eq_some_iff.mp e).1; simpa using this
  rw [List.getElem?_reverse hi] at e
  exact ⟨hi, e⟩
theorem wk_revT {a : Addr} {vs : List V} {ds : List PyData} (h : SqT K H1 a vs) (hd : DpAll K H1 vs ds) (f : lfAll ds = true) : Wk K H1 (RT.ItvT K a vs.length) [] ds.reverse := by
  intro H' im kp
  have hs : SqT K H' a vs := im.sqT h
  have hd' := hd.imlf im ds _ f
  refine ⟨show vs.length ≤ ds.reverse.length by rw [hd.len, List.length_reverse]; exact Nat.le_refl _, fun i d e => ?_⟩
  obtain ⟨hi, e⟩ := rev_get e
  obtain ⟨v, h1, h2⟩ := hd'.get e
  rw [← hd.len] at h1 hi
  refine ⟨⟨hi, vs, v, hs, h1⟩, fun x H'' y => ?_⟩
  obtain ⟨e1, y⟩ := y
  subst e1
  have := y vs hs
  rw [h1] at this
  cases this
  exact ⟨fun _ _ e => e, h2⟩
theorem wk_revL {a : Addr} {vs : List V} {ds : List PyData} (h : Rd H1 a (.lst vs)) (hd : DpAll K H1 vs ds) (f : lfAll ds = true) : Wk K H1 (Itv K a vs.length) [a] ds.reverse := by
  intro H' im kp
  have hs : SqL K H' a vs := by
    rcases h with h | ⟨o, h⟩
    · exact .inl (.inl (kp a (by simp) _ h))
    · exact .inl (.inr ⟨o, im.frz _ _ _ h⟩)
  have hd' := hd.imlf im ds _ f
  refine ⟨show vs.length ≤ ds.reverse.length by rw [hd.len, List.length_reverse]; exact Nat.le_refl _, fun i d e => ?_⟩
  obtain ⟨hi, e⟩ := rev_get e
  obtain ⟨v, h1, h2⟩ := hd'.get e
  rw [← hd.len] at h1 hi
  refine ⟨⟨hi, vs, v, hs, h1⟩, fun x H'' y => ?_⟩
  obtain ⟨e1, y⟩ := y
  subst e1
  have := y vs hs
  rw [h1] at this
  cases this
  exact ⟨fun _ _ e => e, h2⟩
/-! ### the sources -/
def OwnFree (σ : L2.St) (ρ : Ro) (pa : List Addr) : Prop := ∀ (p : Addr) (j : Nat) (o : PO), p ∈ pa → ρ[j]? = some (some (.own o)) → σ[j]? ≠ some (some (.ref p))
def RI (K : PySem.W.Frag) (s : Bool) (wi : TI) (its : Ro → M (List PyData)) : Prop := ∀ tp He Hq ρ σ H (Q : It → Hp → Prop), Rel tp K He Hq H σ ρ →
  wp0 (its ρ) (fun ds => ∀ J H1 pa, GrT tp H H1 → TOk tp H1 → lfAll ds = true → Wk K H1 J pa ds → (∀ p ∈ pa, tp.map (·.1) ≠ some p) → (s = true → OwnFree σ ρ pa) → Q J H1) → wi σ H Q
def itD : C → M (List PyData)
  | .val (.tuple ds) => .ret ds
  | .val (.str z) => .ret (signsD z)
  | .own (.lst ds) => .ret ds
  | _ => .fail
/-- a thing made in place -/
def gIt (g : Ro → M C) (ρ : Ro) : M (List PyData) := (g ρ).bind itD
theorem Rel.nown (r : Rel tp K He Hq H σ ρ) {p : Addr} (h : H p = none) {j : Nat} {o : PO} (e : ρ[j]? = some (some (.own o))) : σ[j]? ≠ some (some (.ref p)) := fun hs => by
  obtain ⟨v, h1, a, e2, _, _, q⟩ := r.at_ j _ e
  rw [hs] at h1
  cases h1
  cases e2
  cases o with
  | lst ds =>
    obtain ⟨vs, h3, _⟩ := q
    rw [h] at h3
    cases h3
theorem ri_seq {te : TE} {g : Ro → M C} {s : Bool} (h1 : RE K te g) : RI K s (iSeq K te) (gIt g) := by
  intro tp He Hq ρ σ H Q r h
  refine h1 tp He Hq ρ σ H _ r (wp0_mono (fun c hc => ?_) (wp0_bind.mp h))
  intro x H1 g1 t1 rx
  unfold itD at hc
  split at hc
  · rename_i ds
    obtain ⟨a, vs, rfl, q1, q2, q3⟩ := rx.tup
    exact .inr (.inl ⟨a, rfl, ⟨vs, q1⟩, hc _ H1 [] g1 t1 q3 (wk_tup q1 q2 q3) (fun _ m => by simp at m) (fun _ _ _ _ m => by simp at m)⟩)
  · rename_i z
    cases rx.str
    exact .inr (.inr ⟨z, rfl, hc _ H1 [] g1 t1 (lf_signs z) wk_str (fun _ m => by simp at m) (fun _ _ _ _ m => by simp at m)⟩)
  · rename_i ds
    obtain ⟨a, rfl, f, n, vs, q1, q2, q3⟩ := rx
    refine .inl ⟨a, rfl, ⟨vs, SqL.of q1⟩, hc _ H1 [a] g1 t1 q3 (wk_list (.inl q1) q2 q3) (fun p m => ?_) (fun _ p j o m e => ?_)⟩
    · have : p = a := by simpa using m
      subst this
      exact n.ne
    · have : p = a := by simpa using m
      subst this
      exact r.nown f e
  · exact hc.elim
/-- a name -/
def itV : C → M (List PyData)
  | .val (.tuple ds) => .ret ds
  | .val (.str z) => .ret (signsD z)
  | .bor (.lst ds) => .ret ds
  | .own (.lst ds) => .ret ds
  | _ => .fail
def itVs : C → M (List PyData)
  | .val (.tuple ds) => .ret ds
  | .val (.str z) => .ret (signsD z)
  | .bor (.lst ds) => .ret ds
  | _ => .fail
def gItV (s : Bool) (i : Nat) (ρ : Ro) : M (List PyData) := match ρ[i]? with
  | some (some c) => if s = true then itVs c else itV c
  | _ => .fail
theorem ri_var {i : Nat} {s : Bool} : RI K s (iSeq K (tVar i)) (gItV s i) := by
  intro tp He Hq ρ σ H Q r h
  unfold gItV at h
  split at h
  · rename_i c e
    obtain ⟨v, h1, h2⟩ := r.at_ i c e
    refine ⟨v, h1, ?_⟩
    have tup : ∀ {ds : List PyData}, SR tp K Hq H v (.val (.tuple ds)) → wp0 (.ret ds : M (List PyData)) (fun ds => ∀ J H1 pa, GrT tp H H1 → TOk tp H1 → lfAll ds = true → Wk K H1 J pa ds → (∀ p ∈ pa, tp.map (·.1) ≠ some p) → (s = true → OwnFree σ ρ pa) → Q J H1) → (∃ a, v = .ref a ∧ (∃ xs, SqL K H a xs) ∧ Q (Itl K a) H) ∨ (∃ a, v = .ref a ∧ (∃ xs, SqT K H a xs) ∧ Q (Itt K a) H) ∨ (∃ z, v = .str z ∧ Q (Its z) H) := fun {ds} h2 h => by
      have h2' : RC tp K H H v (.val (.tuple ds)) := h2
      obtain ⟨a, vs, rfl, q1, q2, q3⟩ := h2'.tup
      exact .inr (.inl ⟨a, rfl, ⟨vs, q1⟩, h _ H [] .refl r.tok q3 (wk_tup q1 q2 q3) (fun _ m => by simp at m) (fun _ _ _ _ m => by simp at m)⟩)
    have str : ∀ {z : Str}, SR tp K Hq H v (.val (.str z)) → wp0 (.ret (signsD z) : M (List PyData)) (fun ds => ∀ J H1 pa, GrT tp H H1 → TOk tp H1 → lfAll ds = true → Wk K H1 J pa ds → (∀ p ∈ pa, tp.map (·.1) ≠ some p) → (s = true → OwnFree σ ρ pa) → Q J H1) → (∃ a, v = .ref a ∧ (∃ xs, SqL K H a xs) ∧ Q (Itl K a) H) ∨ (∃ a, v = .ref a ∧ (∃ xs, SqT K H a xs) ∧ Q (Itt K a) H) ∨ (∃ z, v = .str z ∧ Q (Its z) H) := fun {z} h2 h => by
      have h2' : RC tp K H H v (.val (.str z)) := h2
      cases h2'.str
      exact .inr (.inr ⟨z, rfl, h _ H [] .refl r.tok (lf_signs z) wk_str (fun _ m => by simp at m) (fun _ _ _ _ m => by simp at m)⟩)
    have bor : ∀ {ds : List PyData}, SR tp K Hq H v (.bor (.lst ds)) → wp0 (.ret ds : M (List PyData)) (fun ds => ∀ J H1 pa, GrT tp H H1 → TOk tp H1 → lfAll ds = true → Wk K H1 J pa ds → (∀ p ∈ pa, tp.map (·.1) ≠ some p) → (s = true → OwnFree σ ρ pa) → Q J H1) → (∃ a, v = .ref a ∧ (∃ xs, SqL K H a xs) ∧ Q (Itl K a) H) ∨ (∃ a, v = .ref a ∧ (∃ xs, SqT K H a xs) ∧ Q (Itt K a) H) ∨ (∃ z, v = .str z ∧ Q (Its z) H) := fun {ds} h2 h => by
      obtain ⟨a, rfl, q⟩ := h2
      obtain ⟨vs, q1, q2, q3⟩ := r.bor q
      obtain ⟨ws, p1, _, _⟩ := q
      refine .inl ⟨a, rfl, ⟨vs, q1.sq⟩, h _ H [a] .refl r.tok q3 (wk_list q1.1 q2 q3) (fun p m => ?_) (fun _ p j o m e => ?_)⟩
      · have : p = a := by simpa using m
        subst this
        exact q1.2
      · have : p = a := by simpa using m
        subst this
        intro hs
        obtain ⟨v', h3, b, e3, f, _⟩ := r.at_ j _ e
        rw [hs] at h3
        cases h3
        cases e3
        rcases p1.1 with z | ⟨_, z⟩ <;> (rw [f] at z; cases z)
    split at h
    · unfold itVs at h
      split at h
      · exact tup h2 h
      · exact str h2 h
      · exact bor h2 h
      · exact h.elim
    · rename_i ns
      unfold itV at h
      split at h
      · exact tup h2 h
      · exact str h2 h
      · exact bor h2 h
      · rename_i ds
        obtain ⟨a, rfl, f, n, vs, q1, q2, q3⟩ := h2
        refine .inl ⟨a, rfl, ⟨vs, SqL.of q1⟩, h _ H [a] .refl r.tok q3 (wk_list (.inl q1) q2 q3) (fun p m => ?_) (fun z => absurd z ns)⟩
        have : p = a := by simpa using m
        subst this
        exact n.ne
      · exact h.elim
  · exact h.elim
/-! range -/
def rngOk (i : Int) : Bool := decide (-4611686018427387904 ≤ i) && decide (i < 4611686018427387904)
theorem rngOk_of {i : Int} (h : rngOk i = true) : -(2 ^ 62) ≤ i ∧ i < 2 ^ 62 := by
  simp only [rngOk, Bool.and_eq_true, decide_eq_true_eq] at h
  exact h
def itR1 : List C → M (List PyData)
  | [.val (.int j)] => if rngOk j = true then .ret (rngD 0 1 j.toNat) else .fail
  | _ => .fail
def itR2 : List C → M (List PyData)
  | [.val (.int i), .val (.int j)] => if (rngOk i && rngOk j) = true then .ret (rngD i 1 (j - i).toNat) else .fail
  | _ => .fail
def gItR1 (gs : Ro → M (List C)) (ρ : Ro) : M (List PyData) := (gs ρ).bind itR1
def gItR2 (gs : Ro → M (List C)) (ρ : Ro) : M (List PyData) := (gs ρ).bind itR2
theorem ri_rng1 {ta : TA} {gs : Ro → M (List C)} {s : Bool} (h1 : RA K ta gs) : RI K s (iRng1 ta) (gItR1 gs) := by
  intro tp He Hq ρ σ H Q r h
  refine h1 tp He Hq ρ σ H _ r (wp0_mono (fun cs hc => ?_) (wp0_bind.mp h))
  intro vs H1 g1 t1 rx
  unfold itR1 at hc
  split at hc
  · rename_i j
    obtain ⟨v, rfl, q⟩ := rx.one
    cases q.int
    split at hc
    · rename_i l
      obtain ⟨l1, l2⟩ := rngOk_of l
      exact ⟨j, rfl, l1, l2, hc _ H1 [] g1 t1 (lf_rng _ _ _) wk_rng (fun _ m => by simp at m) (fun _ _ _ _ m => by simp at m)⟩
    · exact hc.elim
  · exact hc.elim
theorem ri_rng2 {ta : TA} {gs : Ro → M (List C)} {s : Bool} (h1 : RA K ta gs) : RI K s (iRng2 ta) (gItR2 gs) := by
  intro tp He Hq ρ σ H Q r h
  refine h1 tp He Hq ρ σ H _ r (wp0_mono (fun cs hc => ?_) (wp0_bind.mp h))
  intro vs H1 g1 t1 rx
  unfold itR2 at hc
  split at hc
  · rename_i i j
    obtain ⟨v, w, rfl, q, q'⟩ := rx.two
    cases q.int; cases q'.int
    split at hc
    · rename_i l
      simp only [Bool.and_eq_true] at l
      obtain ⟨l1, l2⟩ := rngOk_of l.1
      obtain ⟨l3, l4⟩ := rngOk_of l.2
      exact ⟨i, j, rfl, ⟨l1, l2, l3, l4⟩, hc _ H1 [] g1 t1 (lf_rng _ _ _) wk_rng (fun _ m => by simp at m) (fun _ _ _ _ m => by simp at m)⟩
    · exact hc.elim
  · exact hc.elim
/-! ### for -/
theorem GrT.imH (g : GrT tp Hq H') (h : ∀ (t l : Addr), tp = some (t, l) → Hq t = none ∨ ∃ xs, Hq t = some (.lst xs)) : Im Hq H' := by
  have n : ∀ b o, Hq b = some o → (∀ xs, o ≠ .lst xs) → tp.map (·.1) ≠ some b := fun b o e k z => by
    cases tp with
    | none => simp at z
    | some w =>
      obtain ⟨t, l⟩ := w
      have : t = b := by simpa using z
      subst this
      rcases h t l rfl with q | ⟨xs, q⟩
      · rw [q] at e; cases e
      · rw [q] at e; cases e; exact k xs rfl
  exact ⟨fun b xs e => g b _ e (n b _ e fun _ z => by cases z), fun b o u e => g b _ e (n b _ e fun _ z => by cases z)⟩
def forL (a : C → Ro → M Ro) (b : Ro → M Res) : List PyData → Ro → M Res
  | [], ρ => .ret (.nx ρ)
  | d :: ds, ρ => (a (.val d) ρ).bind fun ρ1 => (b ρ1).bind fun r => match r with
    | .nx ρ' => forL a b ds ρ'
    | .ct ρ' => forL a b ds ρ'
    | .bk ρ' => .ret (.nx ρ')
    | .rt c => .ret (.rt c)
theorem for_go {J : It} {pa : List Addr} {ds : List PyData} {g : TG} {tb : TS} {D : Ends} {a : C → Ro → M Ro} {b : Ro → M Res} {sl : List Nat} (hg : RG K g a sl) (hb : RS K tb b) (r : Rel tp K He Hq H1 σ ρ) (f : lfAll ds = true) (w : Wk K Hq J pa ds)
    (np : ∀ p ∈ pa, tp.map (·.1) ≠ some p) (h : wp0 (forL a b ds ρ) (PostS tp K He Hq D)) :
    ∃ W : Nat → Nat → L2.St → Hp → Prop, (∃ m, W 0 m σ H1) ∧ ∀ i m σ H, W i m σ H →
      (J.stop i H ∧ D.nx σ H) ∨ (J.go i H ∧ ∃ N : L2.St → Hp → Prop, (∀ σ' H', N σ' H' → ∃ m', m' < m ∧ W (i + 1) m' σ' H') ∧ ∀ x H', J.yld i H x H' → g x σ H' fun σ2 H2 => tb { D with nx := N, ct := N, bk := D.nx } σ2 H2) := by
  refine ⟨fun i m σ H => m = ds.length - i ∧ i ≤ ds.length ∧ ∃ ρ' Hq', GrT tp Hq Hq' ∧ Rel tp K He Hq' H σ ρ' ∧ wp0 (forL a b (ds.drop i) ρ') (PostS tp K He Hq' D), ⟨ds.length, rfl, Nat.zero_le _, ρ, Hq, .refl, r, h⟩, ?_⟩
  rintro i m σ' H' ⟨rfl, hi, ρ', Hq', g', r', h'⟩
  have gr : GrT tp Hq H' := g'.trans r'.gr
  obtain ⟨st, go⟩ := w H' (gr.imH r.he) (fun p hp o e => gr p o e (np p hp))
  by_cases hlt : i < ds.length
  · obtain ⟨d, hd⟩ : ∃ d, ds[i]? = some d := ⟨ds[i], List.getElem?_eq_getElem hlt⟩
    obtain ⟨go1, yl⟩ := go i d hd
    have e : ds.drop i = d :: ds.drop (i + 1) := by
      rw [List.drop_eq_getElem_cons hlt]
      have : ds[i] = d := by rw [List.getElem?_eq_getElem hlt] at hd; exact Option.some.inj hd
      rw [this]
    rw [e] at h'
    refine .inr ⟨go1, fun σ2 H2 => ∃ ρ2 Hq2, GrT tp Hq Hq2 ∧ Rel tp K He Hq2 H2 σ2 ρ2 ∧ wp0 (forL a b (ds.drop (i + 1)) ρ2) (PostS tp K He Hq2 D), fun σ2 H2 n => ⟨ds.length - (i + 1), by omega, rfl, hlt, n⟩, fun x H'' y => ?_⟩
    obtain ⟨sm, dp⟩ := yl x H'' y
    refine hg tp He Hq' ρ' σ' H' H'' x (.val d) _ r' (.of sm) (r'.tok.same sm) ⟨dp, lfAll_get f hd⟩ (wp0_mono (fun ρ1 h1 => ?_) (wp0_bind.mp (show wp0 ((a (.val d) ρ').bind _) _ from h')))
    intro σ1 _ r1
    refine hb tp He Hq' ρ1 σ1 H'' _ r1 (wp0_mono (fun q hq => ?_) (wp0_bind.mp h1))
    cases q with
    | nx ρ2 => exact fun σ2 H2 Hq2 g2 r2 => ⟨ρ2, Hq2, g'.trans g2, r2, wp0_mono (fun _ hq => hq.mono g2) hq⟩
    | ct ρ2 => exact fun σ2 H2 Hq2 g2 r2 => ⟨ρ2, Hq2, g'.trans g2, r2, wp0_mono (fun _ hq => hq.mono g2) hq⟩
    | bk ρ2 => exact hq
    | rt c => exact hq
  · have e : i = ds.length := by omega
    subst e
    rw [List.drop_length] at h'
    exact .inl ⟨st, h' σ' H' Hq' .refl r'⟩
/-- the walked thing is laid under what the def leaves as it is -/
theorem Rel.more {J : It} {pa : List Addr} {ds : List PyData} (r : Rel tp K He Hq H σ ρ) (of : OwnFree σ ρ pa) (np : ∀ p ∈ pa, tp.map (·.1) ≠ some p) (w : Wk K H J pa ds) :
    ∃ Hq2, GrT tp Hq Hq2 ∧ Rel tp K He Hq2 H σ ρ ∧ Wk K Hq2 J pa ds ∧ Im H Hq2 ∧ ∀ b, tp.map (·.1) ≠ some b → (∀ (j : Nat) (o : PO), ρ[j]? = some (some (.own o)) → σ[j]? ≠ some (some (V.ref b))) → Hq2 b = H b := by
  classical
  let O : Addr → Prop := fun b => tp.map (·.1) = some b ∨ ∃ (j : Nat) (o : PO), ρ[j]? = some (some (.own o)) ∧ σ[j]? = some (some (V.ref b))
  have own_none : ∀ {b : Addr} {j : Nat} {o : PO}, ρ[j]? = some (some (C.own o)) → σ[j]? = some (some (V.ref b)) → Hq b = none ∧ ∃ vs, H b = some (.lst vs) := fun {b j o} e s => by
    obtain ⟨v, h1, a, e2, f, _, q⟩ := r.at_ j _ e
    rw [s] at h1
    cases h1
    cases e2
    cases o with
    | lst ds =>
      obtain ⟨vs, h3, _⟩ := q
      exact ⟨f, vs, h3⟩
  let G : Hp := fun b => if O b then Hq b else H b
  have gO : ∀ {b}, O b → G b = Hq b := fun {b} h => if_pos h
  have gN : ∀ {b}, ¬ O b → G b = H b := fun {b} h => if_neg h
  have g1 : GrT tp Hq G := fun b o e n => by
    by_cases hO : O b
    · rw [gO hO]; exact e
    · rw [gN hO]; exact r.gr b o e n
  have im1 : Im Hq G := g1.imH r.he
  have g2 : GrT tp G H := fun b o e n => by
    by_cases hO : O b
    · rw [gO hO] at e
      exact r.gr b o e n
    · rw [gN hO] at e; exact e
  have lst_of : ∀ {b}, O b → ∃ xs, H b = some (.lst xs) := fun {b} hO => by
    rcases hO with hO | ⟨j, o, e, s⟩
    · cases tp with
      | none => simp at hO
      | some w =>
        obtain ⟨t, l⟩ := w
        have : t = b := by simpa using hO
        subst this
        exact (r.tok t l rfl).list
    · exact (own_none e s).2
  have tupN : ∀ {b xs}, H b = some (.tup xs) → ¬ O b := fun {b xs} e hO => by
    obtain ⟨ys, z⟩ := lst_of hO
    rw [e] at z
    cases z
  have frzN : ∀ {b o u}, H b = some (.frz o u) → ¬ O b := fun {b o u} e hO => by
    obtain ⟨ys, z⟩ := lst_of hO
    rw [e] at z
    cases z
  refine ⟨G, g1, ⟨r.len, fun i c e => ?_, r.dist, r.sub.trans g1, g2, r.tok, fun t l e => ?_⟩, fun H' im kp => ?_, ⟨fun b xs e => by rw [gN (tupN e)]; exact e, fun b o u e => by rw [gN (frzN e)]; exact e⟩, fun b n1 n2 => gN fun hO => by
    rcases hO with hO | ⟨j, o, e, s⟩
    · exact n1 hO
    · exact n2 j o e s⟩
  · obtain ⟨v, h1, h2⟩ := r.at_ i c e
    refine ⟨v, h1, ?_⟩
    cases c with
    | val d => exact h2
    | own o =>
      obtain ⟨a, e2, f, n, q⟩ := h2
      subst e2
      exact ⟨a, rfl, by rw [gO (Or.inr ⟨i, o, e, h1⟩)]; exact f, n, q⟩
    | bor o =>
      obtain ⟨a, e2, q⟩ := h2
      refine ⟨a, e2, ?_⟩
      cases o with
      | lst ds =>
        obtain ⟨vs, q1, q2, q3⟩ := q
        exact ⟨vs, q1.gr g1, q2.imlf im1 ds _ q3, q3⟩
    | tape => exact h2
  · rw [gO (Or.inl (by rw [e]; rfl))]
    exact r.he t l e
  · refine w H' ⟨fun b xs e => im.tup b xs (by rw [gN (tupN e)]; exact e), fun b o u e => im.frz b o u (by rw [gN (frzN e)]; exact e)⟩ fun p hp o e => kp p hp o ?_
    by_cases hO : O p
    · rcases hO with hO | ⟨j, o', e', s⟩
      · exact absurd hO (np p hp)
      · exact absurd s (of p j o' hp e')
    · rw [gN hO]; exact e
def mFor (its : Ro → M (List PyData)) (a : C → Ro → M Ro) (b : Ro → M Res) (ρ : Ro) : M Res := (its ρ).bind fun ds => forL a b ds ρ
theorem rs_for {wi : TI} {g : TG} {tb : TS} {its : Ro → M (List PyData)} {a : C → Ro → M Ro} {b : Ro → M Res} {sl : List Nat} (hi : RI K true wi its) (hg : RG K g a sl) (hb : RS K tb b) : RS K (tFor wi g tb) (mFor its a b) := by
  intro tp He Hq ρ σ H D r h
  refine hi tp He Hq ρ σ H _ r (wp0_mono (fun ds hd => ?_) (wp0_bind.mp h))
  intro J H1 pa g1 t1 f w np of
  obtain ⟨Hq2, q1, r2, w2, _⟩ := (r.go g1 t1).more (of rfl) np w
  exact for_go hg hb r2 f w2 np (wp0_mono (fun _ q => q.mono q1) hd)
/-- over a name; a list of one's own is no longer changed from there on -/
def mForV (i : Nat) (a : C → Ro → M Ro) (b : Ro → M Res) (ρ : Ro) : M Res := match ρ[i]? with
  | some (some (.own (.lst ds))) => forL a b ds (ρ.set i (some (.bor (.lst ds))))
  | some (some c) => (itVs c).bind fun ds => forL a b ds ρ
  | _ => .fail
theorem Rel.forget {i : Nat} (r : Rel tp K He Hq H σ ρ) : Rel tp K He Hq H σ (ρ.set i none) := by
  have old : ∀ {j : Nat} {c : C}, (ρ.set i none)[j]? = some (some c) → i ≠ j ∧ ρ[j]? = some (some c) := fun {j c} e => by
    by_cases hij : i = j
    · subst hij
      have hl : i < ρ.length := by
        have := (List.getElem?_eq_some_iff.mp e).1
        rwa [List.length_set] at this
      rw [List.getElem?_set_self hl] at e
      cases e
    · rw [List.getElem?_set_ne hij] at e
      exact ⟨hij, e⟩
  exact ⟨by rw [List.length_set]; exact r.len, fun j c e => r.at_ j c (old e).2, fun j k a o o' e1 e2 => r.dist j k a o o' (old e1).2 (old e2).2, r.sub, r.gr, r.tok, r.he⟩
theorem Rel.forgot {i : Nat} {j : Nat} {c : C} (e : (ρ.set i none)[j]? = some (some c)) : i ≠ j ∧ ρ[j]? = some (some c) := by
  by_cases hij : i = j
  · subst hij
    have hl : i < ρ.length := by
      have := (List.getElem?_eq_some_iff.mp e).1
      rwa [List.length_set] at this
    rw [List.getElem?_set_self hl] at e
    cases e
  · rw [List.getElem?_set_ne hij] at e
    exact ⟨hij, e⟩
theorem Rel.freeze {i : Nat} {ds : List PyData} (r : Rel tp K He Hq H σ ρ) (e : ρ[i]? = some (some (.own (.lst ds)))) : ∃ Hq2 a, GrT tp Hq Hq2 ∧ Rel tp K He Hq2 H σ (ρ.set i (some (.bor (.lst ds)))) ∧ σ[i]? = some (some (.ref a)) ∧ Wk K Hq2 (Itl K a) [a] ds ∧ tp.map (·.1) ≠ some a ∧ lfAll ds = true ∧ ∃ vs, SqL K H a vs := by
  obtain ⟨v, h1, a, e2, f, n, vs, q1, q2, q3⟩ := r.at_ i _ e
  subst e2
  have nown : ∀ (j : Nat) (o : PO), (ρ.set i none)[j]? = some (some (.own o)) → σ[j]? ≠ some (some (.ref a)) := fun j o ej hs => by
    obtain ⟨n1, e'⟩ := Rel.forgot ej
    exact n1 (r.dist i j a _ _ e e' h1 hs)
  have w : Wk K H (Itl K a) [a] ds := wk_list (.inl q1) q2 q3
  have np : ∀ p ∈ [a], tp.map (·.1) ≠ some p := fun p m => by
    have : p = a := by simpa using m
    subst this
    exact n.ne
  obtain ⟨Hq2, g2, r2, w2, im, eqs⟩ := (r.forget (i := i)).more (pa := [a]) (fun p j o m ej => by
    have : p = a := by simpa using m
    subst this
    exact nown j o ej) np w
  have ea : Hq2 a = some (.lst vs) := (eqs a n.ne nown).trans q1
  have r3 := r2.put (i := i) (v := .ref a) (c := .bor (.lst ds)) ⟨a, rfl, vs, ⟨.inl ea, n.ne⟩, q2.imlf im ds _ q3, q3⟩ (fun _ _ z => by cases z)
  rw [List.set_set] at r3
  have es : σ.set i (some (.ref a)) = σ := by
    refine List.ext_getElem? fun j => ?_
    by_cases hij : i = j
    · subst hij
      rw [List.getElem?_set_self (List.getElem?_eq_some_iff.mp h1).1, h1]
    · rw [List.getElem?_set_ne hij]
  rw [es] at r3
  exact ⟨Hq2, a, g2, r3, h1, w2, n.ne, q3, vs, SqL.of q1⟩
theorem rs_forV {i : Nat} {g : TG} {tb : TS} {a : C → Ro → M Ro} {b : Ro → M Res} {sl : List Nat} (hg : RG K g a sl) (hb : RS K tb b) : RS K (tFor (iSeq K (tVar i)) g tb) (mForV i a b) := by
  intro tp He Hq ρ σ H D r h
  unfold mForV at h
  split at h
  · rename_i ds e
    obtain ⟨Hq2, p, g2, r2, hs, w, np, f, vs, sq⟩ := r.freeze e
    refine ⟨_, hs, .inl ⟨p, rfl, ⟨vs, sq⟩, for_go hg hb r2 f w (fun q m => ?_) (wp0_mono (fun _ q => q.mono g2) h)⟩⟩
    have : q = p := by simpa using m
    subst this
    exact np
  · rename_i c n e
    refine rs_for (ri_var (i := i)) hg hb tp He Hq ρ σ H D r ?_
    unfold mFor gItV
    rw [e]
    exact h
  · exact h.elim
/-! ### while -/
def whlL (gc : Ro → M Bool) (b : Ro → M Res) : Nat → Ro → M Res
  | 0, _ => .fail
  | n + 1, ρ => (gc ρ).bind fun c => if c = true then (b ρ).bind (fun r => match r with
    | .nx ρ' => whlL gc b n ρ'
    | .ct ρ' => whlL gc b n ρ'
    | .bk ρ' => .ret (.nx ρ')
    | .rt c => .ret (.rt c)) else .ret (.nx ρ)
/-- fuel: a bound of the turns and one more, by what the slots hold ahead of the loop -/
def mWhile (fuel : Ro → Nat) (gc : Ro → M Bool) (b : Ro → M Res) (ρ : Ro) : M Res := whlL gc b (fuel ρ) ρ
theorem rs_while {c : TT} {tb : TS} {gc : Ro → M Bool} {b : Ro → M Res} {fuel : Ro → Nat} (hc : RT K c gc) (hb : RS K tb b) : RS K (tWhile c tb) (mWhile fuel gc b) := by
  intro tp He Hq ρ σ H D r h
  refine ⟨fun m σ H => ∃ ρ' Hq', GrT tp Hq Hq' ∧ Rel tp K He Hq' H σ ρ' ∧ wp0 (whlL gc b m ρ') (PostS tp K He Hq' D), ⟨fuel ρ, ρ, Hq, .refl, r, h⟩, ?_⟩
  rintro m σ' H' ⟨ρ', Hq', g', r', h'⟩
  cases m with
  | zero => exact h'.elim
  | succ m =>
    refine hc tp He Hq' ρ' σ' H' _ r' (wp0_mono (fun k hk => ?_) (wp0_bind.mp (show wp0 ((gc ρ').bind _) _ from h')))
    intro H1 g1 t1
    cases k with
    | true =>
      rw [if_pos rfl] at hk ⊢
      refine ⟨fun σ2 H2 => ∃ ρ2 Hq2, GrT tp Hq Hq2 ∧ Rel tp K He Hq2 H2 σ2 ρ2 ∧ wp0 (whlL gc b m ρ2) (PostS tp K He Hq2 D), fun σ2 H2 n => ⟨m, Nat.lt_succ_self m, n⟩, ?_⟩
      refine hb tp He Hq' ρ' σ' H1 _ (r'.go g1 t1) (wp0_mono (fun q hq => ?_) (wp0_bind.mp hk))
      cases q with
      | nx ρ2 => exact fun σ2 H2 Hq2 g2 r2 => ⟨ρ2, Hq2, g'.trans g2, r2, wp0_mono (fun _ hq => hq.mono g2) hq⟩
      | ct ρ2 => exact fun σ2 H2 Hq2 g2 r2 => ⟨ρ2, Hq2, g'.trans g2, r2, wp0_mono (fun _ hq => hq.mono g2) hq⟩
      | bk ρ2 => exact hq
      | rt c => exact hq
    | false =>
      rw [if_neg Bool.false_ne_true] at hk ⊢
      exact hk σ' H1 Hq' .refl (r'.go g1 t1)
end
end Cs

set_option maxRecDepth 100000
set_option maxHeartbeats 4000000
/-! comprehensions, lists that change, defs -/
namespace Cs
open PySem PySem.Spec PyProof.Rows L2
section
variable {tp : Option (Addr × Addr)} {K : PySem.W.Frag} {H H' H'' H0 H1 He : Hp} {Hq : Hp} {σ : L2.St} {ρ : Ro}
/-! ### [e for x in xs if c] -/
def wipeR (ρ : Ro) : List Nat → Ro
  | [] => ρ
  | v :: vs => (wipeR ρ vs).set v none
theorem Rel.set_none {i : Nat} (r : Rel tp K He Hq H σ ρ) : Rel tp K He Hq H (σ.set i none) (ρ.set i none) := by
  refine ⟨by rw [List.length_set, List.length_set]; exact r.len, fun j c e => ?_, fun j k a o o' e1 e2 e3 e4 => ?_, r.sub, r.gr, r.tok, r.he⟩
  · obtain ⟨n, e'⟩ := Rel.forgot e
    obtain ⟨v, h1, h2⟩ := r.at_ j c e'
    exact ⟨v, by rw [List.getElem?_set_ne n]; exact h1, h2⟩
  · obtain ⟨n1, e1'⟩ := Rel.forgot e1
    obtain ⟨n2, e2'⟩ := Rel.forgot e2
    rw [List.getElem?_set_ne n1] at e3
    rw [List.getElem?_set_ne n2] at e4
    exact r.dist j k a o o' e1' e2' e3 e4
theorem Rel.wipe (r : Rel tp K He Hq H σ ρ) : ∀ vs : List Nat, Rel tp K He Hq H (L2.wipe σ vs) (wipeR ρ vs)
  | [] => r
  | v :: vs => by
    unfold L2.wipe wipeR
    exact (Rel.wipe r vs).set_none
theorem wipe_in {σ : L2.St} {i : Nat} : ∀ {vs : List Nat}, i ∈ vs → (L2.wipe σ vs)[i]? = if i < σ.length then some none else none
  | [], h => by simp at h
  | v :: vs, h => by
    unfold L2.wipe
    by_cases hv : v = i
    · subst hv
      by_cases hl : v < σ.length
      · rw [if_pos hl, List.getElem?_set_self (by rw [wipe_length]; exact hl)]
      · rw [if_neg hl]
        exact List.getElem?_eq_none_iff.mpr (by rw [List.length_set, wipe_length]; omega)
    · rw [List.getElem?_set_ne hv]
      exact wipe_in (by rcases List.mem_cons.mp h with z | z; exact absurd z.symm hv; exact z)
theorem wipe_off {σ σ' : L2.St} {sl vs : List Nat} (o : Off sl (L2.wipe σ vs) σ') (h : ∀ j ∈ sl, j ∈ vs) : L2.wipe σ' vs = L2.wipe σ vs := by
  have hl : σ'.length = σ.length := o.1.trans (wipe_length σ vs)
  refine List.ext_getElem? fun i => ?_
  by_cases hi : i ∈ vs
  · rw [wipe_in hi, wipe_in hi, hl]
  · rw [wipe_out hi, o.2 i (fun z => hi (h i z))]
def lcL (a : C → Ro → M Ro) (c : Ro → M Bool) (e : Ro → M C) : List PyData → Ro → List PyData → M C
  | [], _, acc => .ret (.own (.lst acc))
  | d :: ds, ρ, acc => (a (.val d) ρ).bind fun ρ1 => (c ρ1).bind fun b => if b = true then (e ρ1).bind (fun x => match x with
    | .val y => lcL a c e ds ρ (acc ++ [y])
    | _ => .fail) else lcL a c e ds ρ acc
def gLc (its : Ro → M (List PyData)) (a : C → Ro → M Ro) (c : Ro → M Bool) (e : Ro → M C) (vs : List Nat) (ρ : Ro) : M C := (its ρ).bind fun ds => if lenOk ds.length = true then lcL a c e ds (wipeR ρ vs) [] else .fail
def gYes (_ : Ro) : M Bool := .ret true
theorem rt_yes : RT K tYes gYes := fun tp He Hq ρ σ H Q r h => h H .refl r.tok
theorem re_lc {wi : TI} {g : TG} {tt : TT} {te : TE} {its : Ro → M (List PyData)} {a : C → Ro → M Ro} {c : Ro → M Bool} {e : Ro → M C} {sl vs : List Nat} {s : Bool} (hi : RI K s wi its) (hg : RG K g a sl) (hc : RT K tt c) (he : RE K te e)
    (hs : ∀ j ∈ sl, j ∈ vs) : RE K (tLc wi g tt te vs) (gLc its a c e vs) := by
  intro tp He Hq ρ σ H Q r h
  refine hi tp He Hq ρ σ H _ r (wp0_mono (fun ds hd => ?_) (wp0_bind.mp h))
  intro J H1 pa g1 t1 f w np _ D hD
  by_cases hz : lenOk ds.length = true
  case neg =>
    rw [if_neg hz] at hd
    exact hd.elim
  rw [if_pos hz] at hd
  have hz' : ds.length ≤ sizeLine := lenOk_le hz
  have r1 := r.go g1 t1
  have tD : TNe tp D := t1.tne hD
  have upG : ∀ {H2 : Hp} {o : HO}, GrT tp H1 H2 → GrT tp H1 (upd H2 D o) := fun {H2 o} g b u e n => by
    have hne : b ≠ D := fun z => by subst z; rw [hD] at e; cases e
    rw [upd_ne hne]
    exact g b u e n
  have upT : ∀ {H2 : Hp} {o : HO}, TOk tp H2 → TOk tp (upd H2 D o) := fun {H2 o} t a l e => (t a l e).upd (tD a l e).1 (tD a l e).2
  refine ⟨fun i m H' => m = ds.length - i ∧ i ≤ ds.length ∧ ∃ acc vsa, H' D = some (.lst vsa) ∧ DpAll K H' vsa acc ∧ lfAll acc = true ∧ acc.length ≤ i ∧ GrT tp H1 H' ∧ TOk tp H' ∧ wp0 (lcL a c e (ds.drop i) (wipeR ρ vs) acc) (Post tp K H Q),
    ⟨ds.length, rfl, Nat.zero_le _, [], [], upd_same, .nil, rfl, Nat.le_refl _, upG .refl, upT t1, hd⟩, ?_⟩
  rintro i m H' ⟨rfl, hi, acc, vsa, eD, hda, fa, hl, g', t', h'⟩
  obtain ⟨st, go⟩ := w H' (g'.im t1) (fun p hp o e => g' p o e (np p hp))
  by_cases hlt : i < ds.length
  · obtain ⟨d, hd'⟩ : ∃ d, ds[i]? = some d := ⟨ds[i], List.getElem?_eq_getElem hlt⟩
    obtain ⟨go1, yl⟩ := go i d hd'
    have ed : ds.drop i = d :: ds.drop (i + 1) := by
      rw [List.drop_eq_getElem_cons hlt]
      have : ds[i] = d := by rw [List.getElem?_eq_getElem hlt] at hd'; exact Option.some.inj hd'
      rw [this]
    rw [ed] at h'
    refine .inr ⟨go1, fun H2 => ∃ acc vsa, H2 D = some (.lst vsa) ∧ DpAll K H2 vsa acc ∧ lfAll acc = true ∧ acc.length ≤ i + 1 ∧ GrT tp H1 H2 ∧ TOk tp H2 ∧ wp0 (lcL a c e (ds.drop (i + 1)) (wipeR ρ vs) acc) (Post tp K H Q),
      fun H2 ⟨acc, vsa, q⟩ => ⟨ds.length - (i + 1), by omega, rfl, hlt, acc, vsa, q⟩, fun x H2 y => ?_⟩
    obtain ⟨sm, dp⟩ := yl x H2 y
    have rw' := ((r1.go g' t').wipe vs)
    refine hg tp He Hq _ _ H' H2 x (.val d) _ rw' (.of sm) (t'.same sm) ⟨dp, lfAll_get f hd'⟩ (wp0_mono (fun ρ1 h1 => ?_) (wp0_bind.mp (show wp0 ((a (.val d) (wipeR ρ vs)).bind _) _ from h')))
    intro σ2 off r2
    refine ⟨wipe_off off hs, ?_⟩
    refine hc tp He Hq ρ1 σ2 H2 _ r2 (wp0_mono (fun b hb => ?_) (wp0_bind.mp h1))
    intro H3 g3 t3
    have g13 : GrT tp H1 H3 := (g'.trans (.of sm)).trans g3
    have eD3 : H3 D = some (.lst vsa) := g3 D _ (sm D _ eD) tD.ne
    have im3 : Im H' H3 := (Im.same sm).trans (g3.im (t'.same sm))
    cases b with
    | true =>
      rw [if_pos rfl] at hb ⊢
      refine he tp He Hq ρ1 σ2 H3 _ (r2.go g3 t3) (wp0_mono (fun z hz => ?_) (wp0_bind.mp hb))
      intro v H4 g4 t4 rc
      have eD4 : H4 D = some (.lst vsa) := g4 D _ eD3 tD.ne
      have im4 : Im H' H4 := im3.trans (g4.im t3)
      cases z with
      | val y =>
        have hd4 := hda.imlf im4 acc _ fa
        refine ⟨vsa, eD4, ?_, acc ++ [y], vsa ++ [v], upd_same, ?_, lfAll_app fa (by simp only [lfAll, Bool.and_true]; exact rc.2), by rw [List.length_append]; simp; omega, upG (g13.trans g4), upT t4, hz⟩
        · rw [hd4.len]; omega
        · exact (hd4.app (.cons rc.1 .nil)).imlf (Im.set eD4) _ _ (lfAll_app fa (by simp only [lfAll, Bool.and_true]; exact rc.2))
      | own o => exact hz.elim
      | bor o => exact hz.elim
      | tape => exact hz.elim
    | false =>
      rw [if_neg Bool.false_ne_true] at hb ⊢
      exact ⟨acc, vsa, eD3, hda.imlf im3 acc _ fa, fa, by omega, g13, t3, hb⟩
  · have e1 : i = ds.length := by omega
    subst e1
    rw [List.drop_length] at h'
    exact .inl ⟨st, (show Post tp K H Q (.own (.lst acc)) from h') _ H' (g1.trans g') t' ⟨D, rfl, g1.free t1 hD, tD, vsa, eD, hda, fa⟩⟩
/-! ### a list of one's own, changed -/
def mApp (i : Nat) (g : Ro → M C) (ρ : Ro) : M Res := match ρ[i]? with
  | some (some (.own (.lst ds))) => (g ρ).bind fun c => (match c with
    | .val d => if lenOk (ds.length + 1) = true then .ret (.nx (setOwn i (ds ++ [d]) ρ)) else .fail
    | _ => .fail)
  | _ => .fail
theorem rs_app {i : Nat} {te : TE} {g : Ro → M C} (h1 : RE K te g) : RS K (tDrop (tBM K "list" rAppend (tVar i) (tCons te tNil))) (mApp i g) := by
  intro tp He Hq ρ σ H D r h
  unfold mApp at h
  split at h
  · rename_i ds e
    obtain ⟨a, vs, hs, hl, hd, hf, _⟩ := r.own (vs' := []) (ds' := []) e
    refine ⟨_, hs, .inl ⟨rfl, vs, SqL.of hl⟩, h1 tp He Hq ρ σ H _ r (wp0_mono (fun c hc => ?_) (wp0_bind.mp h))⟩
    intro x H1 g1 t1 rx
    split at hc
    · rename_i d
      obtain ⟨a', vs', hs', hl', hd', hf', up⟩ := (r.go g1 t1).own (vs' := []) (ds' := []) e
      split at hc
      · rename_i l
        refine ⟨a', vs', x, ?_, rfl, hl', by rw [hd'.len]; have := lenOk_le l; omega, ?_⟩
        · rw [hs] at hs'; cases hs'; rfl
        · exact hc σ _ Hq .refl (up _ _ (hd'.app (.cons rx.1 .nil)) (lfAll_app hf' (by simp only [lfAll, Bool.and_true]; exact rx.2)))
      · exact hc.elim
    · exact hc.elim
  · exact h.elim
/-- xs[i] = e -/
def mSetAt (i : Nat) (g gi : Ro → M C) (ρ : Ro) : M Res := match ρ[i]? with
  | some (some (.own (.lst ds))) => (g ρ).bind fun c => (gi ρ).bind fun k => (match c, k with
    | .val d, .val (.int j) => (match ixN ds.length j with
      | some n => .ret (.nx (setOwn i (ds.set n d) ρ))
      | none => .fail)
    | _, _ => .fail)
  | _ => .fail
theorem rs_setAt {i : Nat} {te ti : TE} {g gi : Ro → M C} (h1 : RE K te g) (h2 : RE K ti gi) : RS K (tAsg te (gSub (tVar i) ti rSetL)) (mSetAt i g gi) := by
  intro tp He Hq ρ σ H D r h
  unfold mSetAt at h
  split at h
  · rename_i ds e
    refine h1 tp He Hq ρ σ H _ r (wp0_mono (fun c hc => ?_) (wp0_bind.mp h))
    intro x H1 g1 t1 rx
    have r1 := r.go g1 t1
    obtain ⟨a, vs, hs, hl, hd, hf, _⟩ := r1.own (vs' := []) (ds' := []) e
    refine ⟨_, hs, h2 tp He Hq ρ σ H1 _ r1 (wp0_mono (fun k hk => ?_) (wp0_bind.mp hc))⟩
    intro y H2 g2 t2 ry
    split at hk
    · rename_i d j
      cases ry.int
      obtain ⟨a', vs', hs', hl', hd', hf', up⟩ := (r1.go g2 t2).own (vs' := []) (ds' := []) e
      have rx2 := rx.gr g2 t1
      split at hk
      · rename_i n en
        refine ⟨a', vs', j, n, ?_, rfl, hl', by rw [hd'.len]; exact en, ?_⟩
        · rw [hs] at hs'; cases hs'; rfl
        · exact hk σ _ Hq .refl (up _ _ (hd'.set n rx2.1) (lfAll_set n hf' rx2.2))
      · exact hk.elim
    · exact hk.elim
  · exact h.elim
/-- xs.insert(i, e), dropped -/
def rIns : V → List V → Hp → VK → Prop := fun x vs H Q => ∃ (l : Addr) (xs : List V) (i : Int) (y : V), x = .ref l ∧ vs = [.int i, y] ∧ H l = some (.lst xs) ∧ xs.length < sizeLine ∧ 0 ≤ i ∧ i < 2 ^ 63 ∧
    Q .non (upd H l (.lst (xs.take i.toNat ++ [y] ++ xs.drop i.toNat)))
theorem mt_ins {X : Cx} : MtR X "list.insert" rIns := mt_insert
def mIns (i : Nat) (gs : Ro → M (List C)) (ρ : Ro) : M Res := match ρ[i]? with
  | some (some (.own (.lst ds))) => (gs ρ).bind fun cs => (match cs with
    | [.val (.int j), .val d] => if (decide (0 ≤ j) && (decide (j < 9223372036854775808) && lenOk (ds.length + 1))) = true then .ret (.nx (setOwn i (ds.take j.toNat ++ [d] ++ ds.drop j.toNat) ρ)) else .fail
    | _ => .fail)
  | _ => .fail
theorem rs_ins {i : Nat} {ta : TA} {gs : Ro → M (List C)} (h1 : RA K ta gs) : RS K (tDrop (tBM K "list" rIns (tVar i) ta)) (mIns i gs) := by
  intro tp He Hq ρ σ H D r h
  unfold mIns at h
  split at h
  · rename_i ds e
    obtain ⟨a, vs, hs, hl, hd, hf, _⟩ := r.own (vs' := []) (ds' := []) e
    refine ⟨_, hs, .inl ⟨rfl, vs, SqL.of hl⟩, h1 tp He Hq ρ σ H _ r (wp0_mono (fun cs hc => ?_) (wp0_bind.mp h))⟩
    intro xs H1 g1 t1 rx
    split at hc
    · rename_i j d
      obtain ⟨v, y, rfl, q1, q2⟩ := rx.two
      cases q1.int
      obtain ⟨a', vs', hs', hl', hd', hf', up⟩ := (r.go g1 t1).own (vs' := []) (ds' := []) e
      split at hc
      · rename_i l
        simp only [Bool.and_eq_true, decide_eq_true_eq] at l
        refine ⟨a', vs', j, y, ?_, rfl, hl', by rw [hd'.len]; have := lenOk_le l.2.2; omega, l.1, l.2.1, ?_⟩
        · rw [hs] at hs'; cases hs'; rfl
        · exact hc σ _ Hq .refl (up _ _ (((hd'.take _).app (.cons q2.1 .nil)).app (hd'.drop _)) (lfAll_app (lfAll_app (lfAll_take _ hf') (by simp only [lfAll, Bool.and_true]; exact q2.2)) (lfAll_drop _ hf')))
      · exact hc.elim
    · exact hc.elim
  · exact h.elim
/-- xs.pop(i), dropped -/
def mPop (i : Nat) (g : Ro → M C) (ρ : Ro) : M Res := match ρ[i]? with
  | some (some (.own (.lst ds))) => (g ρ).bind fun c => (match c with
    | .val (.int j) => if (decide (-9223372036854775808 ≤ j) && decide (j < 9223372036854775808)) = true then (match seqIndex? j ds.length with
      | some k => if k < ds.length then .ret (.nx (setOwn i (ds.eraseIdx k) ρ)) else .fail
      | none => .fail) else .fail
    | _ => .fail)
  | _ => .fail
theorem dp_erase : ∀ {vs : List V} {ds : List PyData} (k : Nat), DpAll K H vs ds → DpAll K H (vs.eraseIdx k) (ds.eraseIdx k)
  | _, _, _, .nil => .nil
  | _, _, 0, .cons h1 h2 => h2
  | _, _, k + 1, .cons h1 h2 => .cons h1 (dp_erase k h2)
theorem lf_erase {ds : List PyData} (k : Nat) (f : lfAll ds = true) : lfAll (ds.eraseIdx k) = true := lfAll_iff.mpr fun d m => lfAll_iff.mp f d (List.mem_of_mem_eraseIdx m)
theorem rs_pop {i : Nat} {te : TE} {g : Ro → M C} (h1 : RE K te g) : RS K (tDrop (tBM K "list" rPopAt (tVar i) (tCons te tNil))) (mPop i g) := by
  intro tp He Hq ρ σ H D r h
  unfold mPop at h
  split at h
  · rename_i ds e
    obtain ⟨a, vs, hs, hl, hd, hf, _⟩ := r.own (vs' := []) (ds' := []) e
    refine ⟨_, hs, .inl ⟨rfl, vs, SqL.of hl⟩, h1 tp He Hq ρ σ H _ r (wp0_mono (fun c hc => ?_) (wp0_bind.mp h))⟩
    intro x H1 g1 t1 rx
    split at hc
    · rename_i j
      cases rx.int
      obtain ⟨a', vs', hs', hl', hd', hf', up⟩ := (r.go g1 t1).own (vs' := []) (ds' := []) e
      split at hc
      · rename_i l
        simp only [Bool.and_eq_true, decide_eq_true_eq] at l
        split at hc
        · rename_i k ek
          split at hc
          · rename_i lk
            obtain ⟨y, hy⟩ : ∃ y, vs'[k]? = some y := ⟨vs'[k]'(by rw [hd'.len]; exact lk), List.getElem?_eq_getElem _⟩
            refine ⟨a', vs', j, k, y, ?_, rfl, hl', l.1, l.2, by rw [hd'.len]; exact ek, hy, ?_⟩
            · rw [hs] at hs'; cases hs'; rfl
            · exact hc σ _ Hq .refl (up _ _ (dp_erase k hd') (lf_erase k hf'))
          · exact hc.elim
        · exact hc.elim
      · exact hc.elim
    · exact hc.elim
  · exact h.elim
/-! ### defs -/
def spU (K : PySem.W.Frag) (f : List C → M C) : Sp := fun vs H Q _ => ∃ tp cs, TOk tp H ∧ RCs tp K H H vs cs ∧ (∀ c ∈ cs, ∀ o, c ≠ .own o) ∧ wp0 (f cs) (Post tp K H Q)
theorem RCs.lend : ∀ {vs : List V} {cs : List C}, RCs tp K H0 H vs cs → RCs tp K H1 H vs (cs.map C.lend)
  | [], [], _ => trivial
  | v :: vs, c :: cs, h => ⟨h.1.lend, RCs.lend h.2⟩
  | [], _ :: _, h => h.elim
  | _ :: _, [], h => h.elim
theorem RCs.len : ∀ {vs : List V} {cs : List C}, RCs tp K H0 H vs cs → vs.length = cs.length
  | [], [], _ => rfl
  | v :: vs, c :: cs, h => by rw [List.length_cons, List.length_cons, RCs.len h.2]
  | [], _ :: _, h => h.elim
  | _ :: _, [], h => h.elim
theorem RCs.get : ∀ {vs : List V} {cs : List C} {i : Nat} {c : C}, RCs tp K H0 H vs cs → cs[i]? = some c → ∃ v, vs[i]? = some v ∧ RC tp K H0 H v c
  | [], [], _, _, _, e => by simp at e
  | v :: vs, c :: cs, 0, _, h, e => by simp at e; subst e; exact ⟨v, rfl, h.1⟩
  | v :: vs, c :: cs, i + 1, _, h, e => by
    obtain ⟨u, h1, h2⟩ := RCs.get (i := i) h.2 (by simpa using e)
    exact ⟨u, by simpa using h1, h2⟩
  | [], _ :: _, _, _, h, _ => h.elim
  | _ :: _, [], _, _, h, _ => h.elim
def gFn (f : List C → M C) (gs : Ro → M (List C)) (ρ : Ro) : M C := (gs ρ).bind fun cs => f (cs.map C.lend)
theorem re_fn {f : List C → M C} {t : TA} {gs : Ro → M (List C)} (h1 : RA K t gs) : RE K (tFn (spU K f) t) (gFn f gs) := by
  intro tp He Hq ρ σ H Q r h
  refine h1 tp He Hq ρ σ H _ r (wp0_mono (fun cs hc => ?_) (wp0_bind.mp h))
  intro vs H1 g1 t1 rx
  refine ⟨tp, cs.map C.lend, t1, rx.lend, fun c m o z => ?_, wp0_mono (fun c hc => hc.after g1 t1) hc⟩
  obtain ⟨c', _, e⟩ := List.mem_map.mp m
  subst z
  cases c' <;> cases e
/-- a drawn number -/
def drawC : List C → M C
  | [.tape, .val (.int m)] => if decide (m ≤ 1000000000) = true then .draw m fun v => .ret (.val (.int v)) else .fail
  | _ => .fail
theorem re_draw {t : TA} {gs : Ro → M (List C)} (h1 : RA K t gs) : RE K (tFn (sp_law_draw K) t) (gCall drawC gs) := by
  intro tp He Hq ρ σ H Q r h
  refine h1 tp He Hq ρ σ H _ r (wp0_mono (fun cs hc => ?_) (wp0_bind.mp h))
  intro vs H1 g1 t1 rx
  unfold drawC at hc
  split at hc
  · rename_i m
    obtain ⟨v, w, rfl, q1, q2⟩ := rx.two
    cases q2.int
    obtain ⟨t, l, rfl, rfl⟩ := q1
    split at hc
    · rename_i lm
      refine ⟨t, l, m, rfl, t1 t l rfl, of_decide_eq_true lm, fun v H' T al h0 h2 => hc v h0 h2 _ H' (g1.trans fun b o e n => ?_) (fun t' l' e => by cases e; exact T) ⟨.int v, rfl⟩⟩
      rw [al b (fun z => n (by simp [z]))]
      exact e
    · exact hc.elim
  · exact hc.elim
def Res.out : Res → M C
  | .rt c => .ret c
  | .nx _ => .ret (.val .none)
  | _ => .fail
/-- a def: n parameters, k further names -/
def fnU (n k : Nat) (m : Ro → M Res) (cs : List C) : M C := if cs.length = n then (m (cs.map some ++ List.replicate k none)).bind Res.out else .fail
theorem start_rel {vs : List V} {cs : List C} {N : List Str} {k : Nat} (t : TOk tp H) (rc : RCs tp K H H vs cs) (no : ∀ c ∈ cs, ∀ o, c ≠ .own o) (hN : N.length - vs.length = k) :
    Rel tp K H H H (L2.start N vs) (cs.map some ++ List.replicate k none) := by
  have hl := rc.len
  have at1 : ∀ {i : Nat} {c : C}, (cs.map some ++ List.replicate k none)[i]? = some (some c) → cs[i]? = some c := fun {i c} e => by
    by_cases hi : i < cs.length
    · rw [List.getElem?_append_left (by simpa using hi), List.getElem?_map] at e
      cases q : cs[i]? with
      | none => rw [q] at e; cases e
      | some c' => rw [q] at e; cases e; rfl
    · rw [List.getElem?_append_right (by simpa using hi), List.getElem?_replicate] at e
      split at e <;> cases e
  refine ⟨?_, fun i c e => ?_, fun i j a o o' e1 => ?_, .refl, .refl, t, fun a l e => ?_⟩
  · unfold L2.start
    simp only [List.length_append, List.length_map, List.length_replicate]
    omega
  · obtain ⟨v, h1, h2⟩ := rc.get (at1 e)
    refine ⟨v, ?_, ?_⟩
    · unfold L2.start
      rw [List.getElem?_append_left (by simpa using (List.getElem?_eq_some_iff.mp h1).1), List.getElem?_map, h1]
      rfl
    · cases c with
      | val d => exact h2
      | own o => exact absurd rfl (no _ (List.mem_of_getElem? (at1 e)) o)
      | bor o => exact h2
      | tape => exact h2
  · exact absurd rfl (no _ (List.mem_of_getElem? (at1 e1)) o)
  · obtain ⟨xs, h⟩ := (t a l e).list
    exact .inr ⟨xs, h⟩
theorem Df.uni {P : Program} {w : World} {mg : Str → Option Value} {base : Heap} {x : Str} {st : Stmt} {N ps : List Str} {k n : Nat} {m : Ro → M Res} (A : At K mg x st)
    (bd : ∀ (kV doc pm : Value) (an : Option Addr) (cdv ct : Value) (us : List Value), us.length = ps.length → bindArgs (PySem.W.fnOf x x (defArgs st) (defBody st) (defScope st) .none kV doc pm an cdv ct) ⟨us, []⟩ = pure (ps.zip us))
    (S : FnScope N ps (defScope st)) (hn : N.length - ps.length = n)
    (body : ∀ (cdv : Value) (A : Around) (out : List Env) (f : Addr) (s : Shared) (H : Hp) (E : XK), Room k (A.deeper (envOfC x (defScope st) s.heap.objs.size f cdv)) → A.guards = some [] →
      ∃ t, PSs (cxG P w K mg base N x (defScope st) f cdv A out s H E) (defBody st) t ∧ RS K t m) :
    Df P w K mg base (k + 1) x ps (spU K (fnU ps.length n m)) := by
  refine Df.of A bd S (fun vs H Q E h => ?_) (fun cdv A out f s H vs Q E hr hg h => ?_)
  · obtain ⟨tp, cs, t, rc, no, h⟩ := h
    unfold fnU at h
    split at h
    · rename_i e
      rw [rc.len, e]
    · exact h.elim
  · obtain ⟨tp, cs, t, rc, no, h⟩ := h
    obtain ⟨t', h1, h2⟩ := body cdv A out f s H E hr hg
    refine ⟨t', h1, ?_⟩
    unfold fnU at h
    split at h
    · rename_i e
      refine h2 tp H H _ _ H _ (start_rel t rc no (by rw [rc.len, e]; exact hn)) (wp0_mono (fun q hq => ?_) (wp0_bind.mp h))
      cases q with
      | nx ρ' => exact fun σ' H' Hq' g' r' => hq .non H' (r'.sub.trans r'.gr) r'.tok ⟨.non, rfl⟩
      | rt c => exact hq
      | bk _ => exact hq.elim
      | ct _ => exact hq.elim
    · exact h.elim
/-- the law's own def: the tape is made, then the rest runs from it -/
theorem law_rel {a t l : Addr} {ns : List Int} {k : Nat} (T : TapeAt H t l) (g : Same H0 H) (n : H0 t = none) : Rel (some (t, l)) K H0 H0 H ([some (.ref a), some (.ref t)] ++ List.replicate k none) ([none, some .tape] ++ List.replicate k none) := by
  have at1 : ∀ {i : Nat} {c : C}, (([none, some .tape] : Ro) ++ List.replicate k none)[i]? = some (some c) → i = 1 ∧ c = .tape := fun {i c} e => by
    match i, e with
    | 0, e => cases e
    | 1, e => cases e; exact ⟨rfl, rfl⟩
    | i + 2, e =>
      rw [List.getElem?_append_right (by simp), List.getElem?_replicate] at e
      split at e <;> cases e
  refine ⟨by simp, fun i c e => ?_, fun i j b o o' e1 => ?_, .refl, .of g, fun t' l' e => by cases e; exact T, fun t' l' e => by cases e; exact .inl n⟩
  · obtain ⟨rfl, rfl⟩ := at1 e
    exact ⟨.ref t, rfl, t, l, rfl, rfl⟩
  · obtain ⟨_, z⟩ := at1 e1
    cases z
theorem law_go {t : TS} {m : Ro → M Res} {H : Hp} {a : Addr} {k : Nat} {D : Ends} {ns : List Int} (h : RS K t m) (hS : SqL K H a (ns.map V.int)) (hl : ns.length ≤ 63)
    (pure_ : wp0 (m ([none, some .tape] ++ List.replicate k none)) fun r => r = .rt (.val (.bool true))) (q : ∀ H', D.rt (.bl true) H') :
    tSeq (tAsg (tFn (sp_law_tape K) (tCons (tVar 0) tNil)) (gName 1)) t D ([some (.ref a), none] ++ List.replicate k none) H := by
  refine ⟨_, rfl, a, ns, rfl, hS, hl, fun tt l H1 sm T nt nl => ?_⟩
  refine h (some (tt, l)) H H _ _ H1 D (law_rel (ns := ns) T sm nt) (wp0_mono (fun r e => ?_) pure_)
  subst e
  intro v H' _ _ rc
  cases rc.bl
  exact q H'
end
end Cs
namespace Cs
open PySem PySem.Spec PyProof.Rows L2
theorem u65 {k : Nat} {A : Around} (r : Room k A) : A.units + 65 < cLine := by have := r.un; omega
end Cs

set_option maxRecDepth 100000
set_option maxHeartbeats 4000000
/-! isinstance, is of bools, list(range ..), reversed -/
namespace Cs
open PySem PySem.Spec PyProof.Rows L2
section
variable {tp : Option (Addr × Addr)} {K : PySem.W.Frag} {H H' H'' H0 H1 He : Hp} {Hq : Hp} {σ : L2.St} {ρ : Ro}
theorem isiK (K : PySem.W.Frag) {X : Cx} (h : X.K = K := by rfl) : CallR X (.builtin "isinstance") (rIsi K) := h ▸ call_isi
def tyD : PyData → Option String
  | .none => some "NoneType"
  | .bool _ => some "bool"
  | .int _ => some "int"
  | .str _ => some "str"
  | _ => none
def isiT (T : String) : Option String → M C
  | some s => (match kitB s T with
    | some b => .ret (.val (.bool b))
    | none => .fail)
  | none => .fail
def oIsi (T : String) : C → M C
  | .val d => isiT T (tyD d)
  | _ => .fail
theorem kit_bool_int : kitB "bool" "int" = some true := by decide +kernel
theorem kit_int_int : kitB "int" "int" = some true := by decide +kernel
theorem kit_int_bool : kitB "int" "bool" = some false := by decide +kernel
theorem kit_bool_bool : kitB "bool" "bool" = some true := by decide +kernel
theorem kit_none_int : kitB "NoneType" "int" = some false := by decide +kernel
theorem kit_str_str : kitB "str" "str" = some true := by decide +kernel
theorem kit_none_bool : kitB "NoneType" "bool" = some false := by decide +kernel
theorem re_isi {T : String} {ta : TE} {g : Ro → M C} (h1 : RE K ta g) : RE K (tCB (rIsi K) (tCons ta (tCons (tC (.ty T)) tNil))) (gUn (oIsi T) g) := by
  intro tp He Hq ρ σ H Q r h
  refine h1 tp He Hq ρ σ H _ r (wp0_mono (fun c hc => ?_) (wp0_bind.mp h))
  intro x H1 g1 t1 rx
  cases c with
  | val d =>
    have key : ∀ {s : String}, TyOf K H1 x (.type s) → wp0 (isiT T (some s)) (Post tp K H Q) → rIsi K [x, .ty T] H1 Q := fun {s} ty h => by
      unfold isiT at h
      dsimp only at h
      split at h
      · rename_i b e
        exact ⟨x, .ty T, .type s, .type T, b, rfl, .ty T, .base ty, kit_ty e, Post.bl h g1 t1⟩
      · exact h.elim
    obtain ⟨hd, _⟩ := rx
    cases hd with
    | non => exact key .non hc
    | bl b => exact key (.bl b) hc
    | int i => exact key (.int i) hc
    | str s => exact key (.str s) hc
    | lst _ _ => exact hc.elim
    | tup _ _ => exact hc.elim
  | own o => exact hc.elim
  | bor o => exact hc.elim
  | tape => exact hc.elim
/-! is -/
def rIsU (n : Bool) : R2 := fun x y H Q => (y = .non ∧ Q (.bl (n ^^ decide (x = .non))) H) ∨ ∃ a b, x = .bl a ∧ y = .bl b ∧ Q (.bl (n ^^ decide (a = b))) H
theorem opIs {X : Cx} : OpR X (compareOp .Is) (rIsU false) := by
  intro pins s σ H x y v u Q I rx ry h
  rcases h with ⟨e, q⟩ | ⟨a, b, e1, e2, q⟩
  · rw [Bool.false_xor] at q
    exact op_isN pins s σ H x y v u Q I rx ry ⟨e, q⟩
  · rw [Bool.false_xor] at q
    exact op_is_bl pins s σ H x y v u Q I rx ry ⟨a, b, e1, e2, q⟩
theorem opIsNot {X : Cx} : OpR X (compareOp .IsNot) (rIsU true) := by
  intro pins s σ H x y v u Q I rx ry h
  rcases h with ⟨e, q⟩ | ⟨a, b, e1, e2, q⟩
  · rw [Bool.true_xor] at q
    exact op_notN pins s σ H x y v u Q I rx ry ⟨e, q⟩
  · rw [Bool.true_xor] at q
    exact op_isnot_bl pins s σ H x y v u Q I rx ry ⟨a, b, e1, e2, q⟩
def oIsX (n : Bool) : C → C → M C
  | a, .val .none => .ret (.val (.bool (n ^^ a.isN)))
  | .val (.bool a), .val (.bool b) => .ret (.val (.bool (n ^^ decide (a = b))))
  | _, _ => .fail
theorem os_isX {n : Bool} : OpS K (rIsU n) (oIsX n) := by
  intro tp H0 H x y cx cy Q g t rx ry h
  unfold oIsX at h
  split at h
  · cases ry.non
    exact .inl ⟨rfl, by rw [rx.isN]; exact Post.bl h g t⟩
  · rename_i a b
    cases rx.bl; cases ry.bl
    exact .inr ⟨a, b, rfl, rfl, Post.bl h g t⟩
  · exact h.elim
/-! list(range(..)), tuple(range(..)) -/
def RR (K : PySem.W.Frag) (t : L2.St → Hp → (Int → Int → Hp → Prop) → Prop) (g : Ro → M (Int × Int)) : Prop := ∀ tp He Hq ρ σ H (Q : Int → Int → Hp → Prop), Rel tp K He Hq H σ ρ → wp0 (g ρ) (fun p => ∀ H', GrT tp H H' → TOk tp H' → Q p.1 p.2 H') → t σ H Q
def gR1 (g : Ro → M C) (ρ : Ro) : M (Int × Int) := (g ρ).bind fun c => match c with
  | .val (.int j) => .ret (0, j)
  | _ => .fail
theorem rr_1 {ta : TE} {g : Ro → M C} (h1 : RE K ta g) : RR K (tRg1 ta) (gR1 g) := by
  intro tp He Hq ρ σ H Q r h
  refine h1 tp He Hq ρ σ H _ r (wp0_mono (fun c hc => ?_) (wp0_bind.mp h))
  intro x H1 g1 t1 rx
  split at hc
  · cases rx.int
    exact ⟨_, rfl, hc H1 g1 t1⟩
  · exact hc.elim
def gR2 (g1 g2 : Ro → M C) (ρ : Ro) : M (Int × Int) := (g1 ρ).bind fun c => (g2 ρ).bind fun d => match c, d with
  | .val (.int i), .val (.int j) => .ret (i, j)
  | _, _ => .fail
theorem rr_2 {ta tb : TE} {g1 g2 : Ro → M C} (h1 : RE K ta g1) (h2 : RE K tb g2) : RR K (tRg2 ta tb) (gR2 g1 g2) := by
  intro tp He Hq ρ σ H Q r h
  refine h1 tp He Hq ρ σ H _ r (wp0_mono (fun c hc => ?_) (wp0_bind.mp h))
  intro x H1 e1 t1 rx
  refine h2 tp He Hq ρ σ H1 _ (r.go e1 t1) (wp0_mono (fun d hd => ?_) (wp0_bind.mp hc))
  intro y H2 e2 t2 ry
  split at hd
  · cases rx.int; cases ry.int
    exact ⟨_, _, rfl, rfl, hd H2 (e1.trans e2) t2⟩
  · exact hd.elim
theorem dp_rgV (a b : Int) : DpAll K H (rgV a b) (rngD a 1 (b - a).toNat) := by
  unfold rgV rngD
  generalize List.range (b - a).toNat = l
  induction l with
  | nil => exact .nil
  | cons i l ih =>
    rw [List.map_cons, List.map_cons, Int.mul_one]
    exact .cons (.int _) ih
def rgOk (a b : Int) : Bool := rngOk a && (rngOk b && lenOk (b - a).toNat)
theorem rgOk_of {a b : Int} (h : rgOk a b = true) : RgOk a b := by
  simp only [rgOk, Bool.and_eq_true] at h
  obtain ⟨h1, h2⟩ := rngOk_of h.1
  obtain ⟨h3, h4⟩ := rngOk_of h.2.1
  exact ⟨h1, h2, h3, h4, by have := of_decide_eq_true h.2.2; omega⟩
def gLstRg (g : Ro → M (Int × Int)) (ρ : Ro) : M C := (g ρ).bind fun p => if rgOk p.1 p.2 = true then .ret (.own (.lst (rngD p.1 1 (p.2 - p.1).toNat))) else .fail
def gTupRg (g : Ro → M (Int × Int)) (ρ : Ro) : M C := (g ρ).bind fun p => if rgOk p.1 p.2 = true then .ret (.val (.tuple (rngD p.1 1 (p.2 - p.1).toNat))) else .fail
theorem re_lstRg {te : L2.St → Hp → (Int → Int → Hp → Prop) → Prop} {g : Ro → M (Int × Int)} (h1 : RR K te g) : RE K (tLstRg te) (gLstRg g) := by
  intro tp He Hq ρ σ H Q r h
  refine h1 tp He Hq ρ σ H _ r (wp0_mono (fun p hp => ?_) (wp0_bind.mp h))
  intro H1 g1 t1
  split at hp
  · rename_i l
    exact ⟨rgOk_of l, fun q hq => Post.lst hp g1 t1 hq (dp_rgV _ _) (lf_rng _ _ _)⟩
  · exact hp.elim
theorem re_tupRg {te : L2.St → Hp → (Int → Int → Hp → Prop) → Prop} {g : Ro → M (Int × Int)} (h1 : RR K te g) : RE K (tTupRg te) (gTupRg g) := by
  intro tp He Hq ρ σ H Q r h
  refine h1 tp He Hq ρ σ H _ r (wp0_mono (fun p hp => ?_) (wp0_bind.mp h))
  intro H1 g1 t1
  split at hp
  · rename_i l
    exact ⟨rgOk_of l, fun q hq => Post.tup hp g1 t1 hq (dp_rgV _ _) (lf_rng _ _ _)⟩
  · exact hp.elim
/-! range(a, b, c) -/
def rg3N (i j c : Int) : Nat := ((j - i + c - 1) / c).toNat
end
end Cs

set_option maxRecDepth 100000
set_option maxHeartbeats 4000000
/-! reckoning with plain programs -/
namespace Cs
open PySem PySem.Spec PyProof.Rows L2
variable {α β γ : Type}
@[irreducible] def wp (m : M α) (Q : α → Prop) : Prop := wp0 m Q
theorem wp_def {m : M α} {Q : α → Prop} : wp m Q = wp0 m Q := by unfold wp; rfl
theorem wp_out {m : M α} {Q : α → Prop} (h : wp m Q) : wp0 m Q := by rw [← wp_def]; exact h
theorem wp_mono {Q Q' : α → Prop} (h : ∀ a, Q a → Q' a) {m : M α} : wp m Q → wp m Q' := by rw [wp_def, wp_def]; exact wp0_mono h
theorem wp_bind {f : α → M β} {Q : β → Prop} {m : M α} : wp (m.bind f) Q ↔ wp m fun a => wp (f a) Q := by simp only [wp_def]; exact wp0_bind
theorem wp_failE {Q : α → Prop} : wp (.fail : M α) Q = False := by rw [wp_def]; rfl
theorem wp_retE {a : α} {Q : α → Prop} : wp (.ret a) Q = Q a := by rw [wp_def]; rfl
theorem wp_drawE {m : Int} {k : Int → M α} {Q : α → Prop} : wp (.draw m k) Q = ∀ v, 0 ≤ v → v < max m 1 → wp (k v) Q := by simp only [wp_def]; rfl
theorem wp_bindE {m : M α} {f : α → M β} {Q : β → Prop} : wp (m.bind f) Q = wp m fun a => wp (f a) Q := propext wp_bind
theorem wp_anyE {p : PyData → Prop} {k : PyData → M α} {Q : α → Prop} : wp (.any p k) Q = ∀ d, p d → wp (k d) Q := by simp only [wp_def]; rfl
theorem anyB (p : PyData → Prop) (k : PyData → M α) (f : α → M β) : (M.any p k).bind f = .any p fun v => (k v).bind f := (rfl)
theorem bind_bind (m : M α) (f : α → M β) (g : β → M γ) : (m.bind f).bind g = m.bind fun a => (f a).bind g := M.bind_assoc f g m
theorem retB (a : α) (f : α → M β) : (M.ret a).bind f = f a := (rfl)
theorem bindR (m : M α) : (m.bind fun a => .ret a) = m := by
  induction m with
  | ret a => rfl
  | fail => rfl
  | draw m k ih => exact congrArg (M.draw m) (funext ih)
  | any p k ih => exact congrArg (M.any p) (funext ih)
theorem failB (f : α → M β) : (M.fail : M α).bind f = .fail := (rfl)
theorem drawB (m : Int) (k : Int → M α) (f : α → M β) : (M.draw m k).bind f = .draw m fun v => (k v).bind f := (rfl)
/- only what is run next is looked at -/
theorem bind_cg {m m' : M α} {f : α → M β} (h : m = m') : m.bind f = m'.bind f := by rw [h]
theorem wp_cg {m m' : M α} {Q : α → Prop} (h : m = m') : wp m Q = wp m' Q := by rw [h]
theorem draw_cg {m m' : Int} {k : Int → M α} (h : m = m') : M.draw m k = M.draw m' k := by rw [h]
theorem ite_cg {c c' : Prop} [Decidable c] [Decidable c'] {x y : M α} (h : c = c') : (if c then x else y) = if c' then x else y := by
  by_cases hc : c
  · rw [if_pos hc, if_pos (h ▸ hc)]
  · rw [if_neg hc, if_neg (h ▸ hc)]
theorem wp_call {m : M α} {k : α → M β} {Q : β → Prop} (P : α → Prop) (h : wp m P) (q : ∀ a, P a → wp (k a) Q) : wp (m.bind k) Q := wp_bind.mpr (wp_mono q h)
theorem wp_eq {m : M α} {k : α → M β} {Q : β → Prop} {a : α} (h : wp m fun x => x = a) (q : wp (k a) Q) : wp (m.bind k) Q := wp_call _ h fun x e => e ▸ q
theorem wp_ite {c : Prop} [Decidable c] {a b : M α} {Q : α → Prop} (h1 : c → wp a Q) (h2 : ¬c → wp b Q) : wp (if c then a else b) Q := by
  by_cases hc : c
  · rw [if_pos hc]; exact h1 hc
  · rw [if_neg hc]; exact h2 hc
theorem iteB {c : Prop} [Decidable c] {a b : M α} {k : α → M β} : (if c then a else b).bind k = if c then a.bind k else b.bind k := by split <;> rfl
/-! ### the programs' parts, step by step -/
variable {ρ : Ro} {g ga gb gc : Ro → M C}
def kSeq (n : Ro → M Res) : Res → M Res
  | .nx ρ' => n ρ'
  | r => .ret r
theorem kSeq_nx {n : Ro → M Res} : kSeq n (.nx ρ) = n ρ := (rfl)
theorem kSeq_rt {n : Ro → M Res} {c : C} : kSeq n (.rt c) = .ret (.rt c) := (rfl)
theorem kSeq_bk {n : Ro → M Res} : kSeq n (.bk ρ) = .ret (.bk ρ) := (rfl)
theorem kSeq_ct {n : Ro → M Res} : kSeq n (.ct ρ) = .ret (.ct ρ) := (rfl)
theorem mSeq_eq {m n : Ro → M Res} : mSeq m n ρ = (m ρ).bind (kSeq n) := by
  unfold mSeq
  congr 1
theorem mNext_eq : mNext ρ = .ret (.nx ρ) := (rfl)
theorem mBreak_eq : mBreak ρ = .ret (.bk ρ) := (rfl)
theorem mCont_eq : mCont ρ = .ret (.ct ρ) := (rfl)
theorem mDrop_eq : mDrop g ρ = (g ρ).bind fun _ => .ret (.nx ρ) := (rfl)
theorem mRet_eq : mRet g ρ = (g ρ).bind fun c => .ret (.rt c) := (rfl)
theorem mRetN_eq : mRetN ρ = .ret (.rt (.val .none)) := (rfl)
theorem mAsg_eq {a : C → Ro → M Ro} : mAsg g a ρ = (g ρ).bind fun c => (a c ρ).bind fun ρ' => .ret (.nx ρ') := (rfl)
theorem mIf_eq {t : Ro → M Bool} {m n : Ro → M Res} : mIf t m n ρ = (t ρ).bind fun b => if b = true then m ρ else n ρ := (rfl)
/-! names -/
def gAt : Option (Option C) → M C
  | some (some (.own o)) => .ret (.bor o)
  | some (some c) => .ret c
  | _ => .fail
theorem gVar_eq {i : Nat} : gVar i ρ = gAt ρ[i]? := (rfl)
theorem gAt_v {d : PyData} : gAt (some (some (.val d))) = .ret (.val d) := (rfl)
theorem gAt_o {o : PO} : gAt (some (some (.own o))) = .ret (.bor o) := (rfl)
theorem gAt_b {o : PO} : gAt (some (some (.bor o))) = .ret (.bor o) := (rfl)
theorem gAt_t : gAt (some (some .tape)) = .ret .tape := (rfl)
def rAt : Option (Option C) → M Res
  | some (some c) => .ret (.rt c)
  | _ => .fail
theorem mRetV_eq {i : Nat} : mRetV i ρ = rAt ρ[i]? := (rfl)
theorem rAt_s {c : C} : rAt (some (some c)) = .ret (.rt c) := (rfl)
def aAt (ρ : Ro) (i : Nat) (c : C) : Option (Option C) → M Ro
  | some _ => (match c with
    | .val d => .ret (ρ.set i (some (.val d)))
    | .own o => .ret (ρ.set i (some (.own o)))
    | _ => .fail)
  | none => .fail
theorem asgR_eq {i : Nat} {c : C} : asgR i c ρ = aAt ρ i c ρ[i]? := (rfl)
theorem aAt_v {i : Nat} {d : PyData} {x : Option C} : aAt ρ i (.val d) (some x) = .ret (ρ.set i (some (.val d))) := (rfl)
theorem aAt_o {i : Nat} {d : PO} {x : Option C} : aAt ρ i (.own d) (some x) = .ret (ρ.set i (some (.own d))) := (rfl)
theorem get_0 {x : Option C} : (x :: ρ)[0]? = some x := (rfl)
theorem get_s {x : Option C} {i : Nat} : (x :: ρ)[i + 1]? = ρ[i]? := (rfl)
theorem set_0' {x y : Option C} : List.set (x :: ρ) 0 y = y :: ρ := (rfl)
theorem set_s' {x y : Option C} {i : Nat} : List.set (x :: ρ) (i + 1) y = x :: List.set ρ i y := (rfl)
/-! targets -/
theorem aNil_eq : aNil [] ρ = .ret ρ := (rfl)
theorem aCons_eq {a : C → Ro → M Ro} {as : List PyData → Ro → M Ro} {d : PyData} {ds : List PyData} : aCons a as (d :: ds) ρ = (a (.val d) ρ).bind fun ρ' => as ds ρ' := (rfl)
theorem aTup_eq {n : Nat} {as : List PyData → Ro → M Ro} {ds : List PyData} : aTup n as (.val (.tuple ds)) ρ = if ds.length = n then as ds ρ else .fail := (rfl)
def kPar (i j : Nat) (ρ : Ro) : List C → M Res
  | [c, d] => (asgR i c ρ).bind fun ρ1 => (match d with
    | .own _ => (.fail : M Res)
    | d => (asgR j d ρ1).bind fun ρ2 => .ret (.nx ρ2))
  | _ => .fail
theorem mPar_eq {i j : Nat} {gs : Ro → M (List C)} : mPar i j gs ρ = (gs ρ).bind (kPar i j ρ) := by
  unfold mPar
  congr 1
theorem kPar_v {i j : Nat} {c : C} {d : PyData} : kPar i j ρ [c, .val d] = (asgR i c ρ).bind fun ρ1 => (asgR j (.val d) ρ1).bind fun ρ2 => .ret (.nx ρ2) := (rfl)
/-! expressions -/
theorem gC_eq {d : PyData} : gC d ρ = .ret (.val d) := (rfl)
theorem gaNil_eq : gaNil ρ = .ret [] := (rfl)
theorem gaCons_eq {gs : Ro → M (List C)} : gaCons g gs ρ = (g ρ).bind fun c => (gs ρ).bind fun cs => .ret (c :: cs) := (rfl)
theorem gTupE_eq {gs : Ro → M (List C)} : gTupE gs ρ = (gs ρ).bind oTup := (rfl)
theorem gLst_eq {gs : Ro → M (List C)} : gLst gs ρ = (gs ρ).bind oLst := (rfl)
theorem gOp_eq {op : C → C → M C} : gOp op ga gb ρ = (ga ρ).bind fun a => (gb ρ).bind fun b => op a b := (rfl)
theorem gUn_eq {op : C → M C} : gUn op ga ρ = (ga ρ).bind op := (rfl)
theorem gCall_eq {op : List C → M C} {gs : Ro → M (List C)} : gCall op gs ρ = (gs ρ).bind op := (rfl)
theorem gFn_eq {f : List C → M C} {gs : Ro → M (List C)} : gFn f gs ρ = (gs ρ).bind fun cs => f (cs.map C.lend) := (rfl)
theorem map_nilC : List.map C.lend [] = [] := (rfl)
theorem map_consC {c : C} {cs : List C} : List.map C.lend (c :: cs) = c.lend :: List.map C.lend cs := (rfl)
theorem lend_v {d : PyData} : C.lend (.val d) = .val d := (rfl)
theorem lend_o {d : PO} : C.lend (.own d) = .bor d := (rfl)
theorem lend_b {d : PO} : C.lend (.bor d) = .bor d := (rfl)
theorem lend_t : C.lend .tape = .tape := (rfl)
theorem gTru_eq : gTru g ρ = (g ρ).bind oTru := (rfl)
theorem gTest_eq : gTest g ρ = (g ρ).bind oBl := (rfl)
theorem oBl_b {b : Bool} : oBl (.val (.bool b)) = .ret b := (rfl)
theorem oTru_v {d : PyData} : oTru (.val d) = truD d := (rfl)
theorem oTru_o {ds : List PyData} : oTru (.own (.lst ds)) = .ret (!ds.isEmpty) := (rfl)
theorem oTru_b {ds : List PyData} : oTru (.bor (.lst ds)) = .ret (!ds.isEmpty) := (rfl)
theorem truD_n : truD .none = .ret false := (rfl)
theorem truD_b {b : Bool} : truD (.bool b) = .ret b := (rfl)
theorem truD_i {i : Int} : truD (.int i) = .ret (i != 0) := (rfl)
theorem truD_t {ds : List PyData} : truD (.tuple ds) = .ret (!ds.isEmpty) := (rfl)
/-- b and m, a test; m is looked at -/
def mAnd (b : Bool) (m : M Bool) : M Bool := if b = true then m else .ret false
def mOr (b : Bool) (m : M Bool) : M Bool := if b = true then .ret true else m
theorem mAnd_r {b c : Bool} : mAnd b (.ret c) = .ret (b && c) := by cases b <;> rfl
theorem mOr_r {b c : Bool} : mOr b (.ret c) = .ret (b || c) := by cases b <;> rfl
theorem mAnd_t {m : M Bool} : mAnd true m = m := (rfl)
theorem mAnd_f {m : M Bool} : mAnd false m = .ret false := (rfl)
theorem mOr_t {m : M Bool} : mOr true m = .ret true := (rfl)
theorem mOr_f {m : M Bool} : mOr false m = m := (rfl)
theorem mAnd_ite {b : Bool} {m : M Bool} : mAnd b m = if b = true then m else .ret false := (rfl)
theorem mOr_ite {b : Bool} {m : M Bool} : mOr b m = if b = true then .ret true else m := (rfl)
theorem gAnd_eq {g1 g2 : Ro → M Bool} : gAnd g1 g2 ρ = (g1 ρ).bind fun b => mAnd b (g2 ρ) := (rfl)
theorem gOr_eq {g1 g2 : Ro → M Bool} : gOr g1 g2 ρ = (g1 ρ).bind fun b => mOr b (g2 ρ) := (rfl)
theorem gNot_eq {g1 : Ro → M Bool} : gNot g1 ρ = (g1 ρ).bind fun b => .ret (!b) := (rfl)
/-- as values -/
def mAndC (b : Bool) (m : M C) (c : C) : M C := if b = true then m else .ret c
def mOrC (b : Bool) (m : M C) (c : C) : M C := if b = true then .ret c else m
theorem mAndC_r {b q : Bool} : mAndC b (.ret (.val (.bool q))) (.val (.bool b)) = .ret (.val (.bool (b && q))) := by cases b <;> rfl
theorem mAndC_f {b q : Bool} : mAndC b (.ret (.val (.bool q))) (.val (.bool false)) = .ret (.val (.bool (b && q))) := by cases b <;> rfl
theorem mOrC_r {b q : Bool} : mOrC b (.ret (.val (.bool q))) (.val (.bool b)) = .ret (.val (.bool (b || q))) := by cases b <;> rfl
theorem mAndC_ite {b : Bool} {m : M C} {c : C} : mAndC b m c = if b = true then m else .ret c := (rfl)
theorem mOrC_ite {b : Bool} {m : M C} {c : C} : mOrC b m c = if b = true then .ret c else m := (rfl)
theorem gAndT_eq {g1 g2 : Ro → M C} : gAndT g1 g2 ρ = (g1 ρ).bind fun c => (oTru c).bind fun b => mAndC b (g2 ρ) c := (rfl)
theorem gOrT_eq {g1 g2 : Ro → M C} : gOrT g1 g2 ρ = (g1 ρ).bind fun c => (oTru c).bind fun b => mOrC b (g2 ρ) c := (rfl)
theorem gNotT_eq {g1 : Ro → M C} : gNotT g1 ρ = (g1 ρ).bind fun c => (oTru c).bind fun b => .ret (.val (.bool (!b))) := (rfl)
theorem gIfE_eq {t : Ro → M Bool} {g1 g2 : Ro → M C} : gIfE t g1 g2 ρ = (t ρ).bind fun b => if b = true then g1 ρ else g2 ρ := (rfl)
theorem gChain_eq {o1 o2 : C → C → M C} : gChain o1 o2 ga gb gc ρ = (ga ρ).bind fun a => (gb ρ).bind fun b => (o1 a.lend b.lend).bind fun r => (oBl r).bind fun k => mAndC k ((gc ρ).bind fun c => o2 b c) (.val (.bool false)) := (rfl)
theorem gNo_eq : gNo ρ = .ret none := (rfl)
theorem gSome_eq : gSome g ρ = (g ρ).bind oInt? := (rfl)
theorem oInt?_i {i : Int} : oInt? (.val (.int i)) = .ret (some i) := (rfl)
theorem gSl_eq {l u : Ro → M (Option Int)} : gSl g l u ρ = (g ρ).bind fun c => (l ρ).bind fun lo => (u ρ).bind fun hi => oSl c lo hi := (rfl)
theorem oSl_t {ds : List PyData} {lo hi : Option Int} : oSl (.val (.tuple ds)) lo hi = .ret (.val (.tuple (cutD ds lo hi))) := (rfl)
theorem oSl_b {ds : List PyData} {lo hi : Option Int} : oSl (.bor (.lst ds)) lo hi = .ret (.own (.lst (cutD ds lo hi))) := (rfl)
def kSl2 (lo : Option Int) : C → M C
  | .val (.tuple ds) => .ret (.val (.tuple (ev (ds.drop (HT.sIx ds.length 0 lo)))))
  | _ => .fail
theorem gSl2_eq {l : Ro → M (Option Int)} : gSl2 g l ρ = (g ρ).bind fun c => (l ρ).bind fun lo => kSl2 lo c := by
  unfold gSl2
  congr 1
theorem kSl2_t {lo : Option Int} {ds : List PyData} : kSl2 lo (.val (.tuple ds)) = .ret (.val (.tuple (ev (ds.drop (HT.sIx ds.length 0 lo))))) := (rfl)
theorem gIt_eq : gIt g ρ = (g ρ).bind itD := (rfl)
def kItV (s : Bool) : Option (Option C) → M (List PyData)
  | some (some c) => if s = true then itVs c else itV c
  | _ => .fail
theorem gItV_eq {s : Bool} {i : Nat} : gItV s i ρ = kItV s ρ[i]? := (rfl)
theorem kItV_v {s : Bool} {d : PyData} : kItV s (some (some (.val d))) = itV (.val d) := by cases s <;> cases d <;> rfl
theorem kItV_b {s : Bool} {d : PO} : kItV s (some (some (.bor d))) = itV (.bor d) := by cases s <;> cases d <;> rfl
theorem kItV_o {d : PO} : kItV false (some (some (.own d))) = itV (.own d) := (rfl)
theorem itV_t {ds : List PyData} : itV (.val (.tuple ds)) = .ret ds := (rfl)
theorem itV_s {z : Str} : itV (.val (.str z)) = .ret (signsD z) := (rfl)
theorem itV_b {ds : List PyData} : itV (.bor (.lst ds)) = .ret ds := (rfl)
theorem itV_o {ds : List PyData} : itV (.own (.lst ds)) = .ret ds := (rfl)
theorem itD_t {ds : List PyData} : itD (.val (.tuple ds)) = .ret ds := (rfl)
theorem itD_s {z : Str} : itD (.val (.str z)) = .ret (signsD z) := (rfl)
theorem itD_o {ds : List PyData} : itD (.own (.lst ds)) = .ret ds := (rfl)
theorem gItR1_eq {gs : Ro → M (List C)} : gItR1 gs ρ = (gs ρ).bind itR1 := (rfl)
theorem gItR2_eq {gs : Ro → M (List C)} : gItR2 gs ρ = (gs ρ).bind itR2 := (rfl)
theorem itR1_i {j : Int} : itR1 [.val (.int j)] = if rngOk j = true then .ret (rngD 0 1 j.toNat) else .fail := (rfl)
theorem itR2_i {i j : Int} : itR2 [.val (.int i), .val (.int j)] = if (rngOk i && rngOk j) = true then .ret (rngD i 1 (j - i).toNat) else .fail := (rfl)
theorem gLc_eq {its : Ro → M (List PyData)} {a : C → Ro → M Ro} {c : Ro → M Bool} {e : Ro → M C} {vs : List Nat} : gLc its a c e vs ρ = (its ρ).bind fun ds => if lenOk ds.length = true then lcL a c e ds (wipeR ρ vs) [] else .fail := (rfl)
theorem wipe_n : wipeR ρ [] = ρ := (rfl)
theorem wipe_c {i : Nat} {vs : List Nat} : wipeR ρ (i :: vs) = (wipeR ρ vs).set i none := (rfl)
theorem gYes_eq : gYes ρ = .ret true := (rfl)
def kR1 : C → M (Int × Int)
  | .val (.int j) => .ret (0, j)
  | _ => .fail
theorem gR1_eq : gR1 g ρ = (g ρ).bind kR1 := by
  unfold gR1
  congr 1
theorem kR1_i {j : Int} : kR1 (.val (.int j)) = .ret (0, j) := (rfl)
def kR2 : C → C → M (Int × Int)
  | .val (.int i), .val (.int j) => .ret (i, j)
  | _, _ => .fail
theorem gR2_eq : gR2 ga gb ρ = (ga ρ).bind fun c => (gb ρ).bind fun d => kR2 c d := by
  unfold gR2
  congr 1
theorem kR2_i {i j : Int} : kR2 (.val (.int i)) (.val (.int j)) = .ret (i, j) := (rfl)
theorem gLstRg_eq {q : Ro → M (Int × Int)} : gLstRg q ρ = (q ρ).bind fun p => if rgOk p.1 p.2 = true then .ret (.own (.lst (rngD p.1 1 (p.2 - p.1).toNat))) else .fail := (rfl)
theorem gTupRg_eq {q : Ro → M (Int × Int)} : gTupRg q ρ = (q ρ).bind fun p => if rgOk p.1 p.2 = true then .ret (.val (.tuple (rngD p.1 1 (p.2 - p.1).toNat))) else .fail := (rfl)
/-! loops -/
theorem mFor_eq {its : Ro → M (List PyData)} {a : C → Ro → M Ro} {b : Ro → M Res} : mFor its a b ρ = (its ρ).bind fun ds => forL a b ds ρ := (rfl)
def kForV (ρ : Ro) (i : Nat) (a : C → Ro → M Ro) (b : Ro → M Res) : Option (Option C) → M Res
  | some (some (.own (.lst ds))) => forL a b ds (ρ.set i (some (.bor (.lst ds))))
  | some (some c) => (itVs c).bind fun ds => forL a b ds ρ
  | _ => .fail
theorem mForV_eq {i : Nat} {a : C → Ro → M Ro} {b : Ro → M Res} : mForV i a b ρ = kForV ρ i a b ρ[i]? := (rfl)
theorem kForV_o {i : Nat} {a : C → Ro → M Ro} {b : Ro → M Res} {ds : List PyData} : kForV ρ i a b (some (some (.own (.lst ds)))) = forL a b ds (ρ.set i (some (.bor (.lst ds)))) := (rfl)
theorem kForV_b {i : Nat} {a : C → Ro → M Ro} {b : Ro → M Res} {ds : List PyData} : kForV ρ i a b (some (some (.bor (.lst ds)))) = forL a b ds ρ := (rfl)
theorem kForV_t {i : Nat} {a : C → Ro → M Ro} {b : Ro → M Res} {ds : List PyData} : kForV ρ i a b (some (some (.val (.tuple ds)))) = forL a b ds ρ := (rfl)
theorem kForV_s {i : Nat} {a : C → Ro → M Ro} {b : Ro → M Res} {z : Str} : kForV ρ i a b (some (some (.val (.str z)))) = forL a b (signsD z) ρ := (rfl)
def kFor (a : C → Ro → M Ro) (b : Ro → M Res) (ds : List PyData) : Res → M Res
  | .nx ρ' => forL a b ds ρ'
  | .ct ρ' => forL a b ds ρ'
  | .bk ρ' => .ret (.nx ρ')
  | .rt c => .ret (.rt c)
theorem kFor_nx {a : C → Ro → M Ro} {b : Ro → M Res} {ds : List PyData} : kFor a b ds (.nx ρ) = forL a b ds ρ := (rfl)
theorem kFor_ct {a : C → Ro → M Ro} {b : Ro → M Res} {ds : List PyData} : kFor a b ds (.ct ρ) = forL a b ds ρ := (rfl)
theorem kFor_bk {a : C → Ro → M Ro} {b : Ro → M Res} {ds : List PyData} : kFor a b ds (.bk ρ) = .ret (.nx ρ) := (rfl)
theorem kFor_rt {a : C → Ro → M Ro} {b : Ro → M Res} {ds : List PyData} {c : C} : kFor a b ds (.rt c) = .ret (.rt c) := (rfl)
theorem forL_nil {a : C → Ro → M Ro} {b : Ro → M Res} : forL a b [] ρ = .ret (.nx ρ) := (rfl)
theorem forL_cons {a : C → Ro → M Ro} {b : Ro → M Res} {d : PyData} {ds : List PyData} : forL a b (d :: ds) ρ = (a (.val d) ρ).bind fun ρ1 => (b ρ1).bind (kFor a b ds) := by
  show (a (.val d) ρ).bind _ = _
  congr 1
def ForPost (I : List PyData → Ro → Prop) (ds : List PyData) (Q : Res → Prop) : Res → Prop
  | .nx ρ' => I ds ρ'
  | .ct ρ' => I ds ρ'
  | .bk ρ' => Q (.nx ρ')
  | .rt c => Q (.rt c)
theorem ForPost_nx {I : List PyData → Ro → Prop} {ds : List PyData} {Q : Res → Prop} : ForPost I ds Q (.nx ρ) = I ds ρ := (rfl)
theorem ForPost_ct {I : List PyData → Ro → Prop} {ds : List PyData} {Q : Res → Prop} : ForPost I ds Q (.ct ρ) = I ds ρ := (rfl)
theorem ForPost_bk {I : List PyData → Ro → Prop} {ds : List PyData} {Q : Res → Prop} : ForPost I ds Q (.bk ρ) = Q (.nx ρ) := (rfl)
theorem ForPost_rt {I : List PyData → Ro → Prop} {ds : List PyData} {Q : Res → Prop} {c : C} : ForPost I ds Q (.rt c) = Q (.rt c) := (rfl)
theorem wp_for (I : List PyData → Ro → Prop) {a : C → Ro → M Ro} {b : Ro → M Res} {Q : Res → Prop} (hn : ∀ ρ, I [] ρ → Q (.nx ρ)) (hc : ∀ d ds ρ, I (d :: ds) ρ → wp ((a (.val d) ρ).bind b) (ForPost I ds Q)) : ∀ {ds : List PyData} {ρ : Ro}, I ds ρ → wp (forL a b ds ρ) Q
  | [], ρ, h => by rw [forL_nil, wp_retE]; exact hn ρ h
  | d :: ds, ρ, h => by
    rw [forL_cons, ← bind_bind]
    refine wp_call _ (hc d ds ρ h) fun r hr => ?_
    cases r with
    | nx ρ' => rw [kFor_nx]; exact wp_for I hn hc hr
    | ct ρ' => rw [kFor_ct]; exact wp_for I hn hc hr
    | bk ρ' => rw [kFor_bk, wp_retE]; exact hr
    | rt c => rw [kFor_rt, wp_retE]; exact hr
/-- a loop of n turns over a row of things -/
theorem wp_each {δ : Type} (enc : δ → PyData) (I : List δ → Ro → Prop) {a : C → Ro → M Ro} {b : Ro → M Res} {Q : Res → Prop} (hn : ∀ ρ, I [] ρ → Q (.nx ρ)) (hc : ∀ d ds ρ, I (d :: ds) ρ → wp ((a (.val (enc d)) ρ).bind b) (ForPost (fun es ρ => ∃ xs, es = xs.map enc ∧ I xs ρ) (ds.map enc) Q)) {ds : List δ} {ρ : Ro} (h : I ds ρ) : wp (forL a b (ds.map enc) ρ) Q := by
  apply wp_for (fun es ρ => ∃ xs, es = xs.map enc ∧ I xs ρ) ?A ?B ⟨ds, rfl, h⟩
  case A =>
    rintro ρ ⟨xs, e, h⟩
    cases xs with
    | nil => exact hn ρ h
    | cons _ _ => cases e
  case B =>
    rintro d es ρ ⟨xs, e, h⟩
    cases xs with
    | nil => cases e
    | cons x xs =>
      rw [List.map_cons] at e
      obtain ⟨e1, e2⟩ := List.cons.inj e
      subst e1; subst e2
      exact hc x xs ρ h
theorem wp_turns (I : Nat → Ro → Prop) {a : C → Ro → M Ro} {b : Ro → M Res} {Q : Res → Prop} {lo c : Int} {n : Nat} (hn : ∀ ρ, I n ρ → Q (.nx ρ)) (hc : ∀ (i : Nat) ds ρ, i < n → I i ρ → wp ((a (.val (.int (lo + (i : Nat) * c))) ρ).bind b) (ForPost (fun _ ρ => I (i + 1) ρ) ds Q)) {ρ : Ro} (h : I 0 ρ) : wp (forL a b (rngD lo c n) ρ) Q := by
  have key : ∀ (k i : Nat) (ρ : Ro), i + k = n → I i ρ → wp (forL a b ((List.range' i k).map fun i => .int (lo + (i : Nat) * c)) ρ) Q := by
    intro k
    induction k with
    | zero =>
      intro i ρ e h
      have e2 : i = n := by omega
      rw [List.range'_zero, List.map_nil, forL_nil, wp_retE]
      exact hn ρ (e2 ▸ h)
    | succ k ih =>
      intro i ρ e h
      rw [List.range'_succ, List.map_cons, forL_cons, ← bind_bind]
      refine wp_call _ (hc i [] ρ (by omega) h) fun r hr => ?_
      cases r with
      | nx ρ' => rw [kFor_nx]; exact ih (i + 1) ρ' (by omega) hr
      | ct ρ' => rw [kFor_ct]; exact ih (i + 1) ρ' (by omega) hr
      | bk ρ' => rw [kFor_bk, wp_retE]; exact hr
      | rt c => rw [kFor_rt, wp_retE]; exact hr
  unfold rngD
  rw [List.range_eq_range']
  exact key n 0 ρ (by omega) h
theorem forL_any {δ : Type} (enc : δ → PyData) (p : δ → Bool) (S : Ro → Prop) (c : C) {a : C → Ro → M Ro} {b : Ro → M Res} : ∀ (xs : List δ) (ρ : Ro), S ρ →
    (∀ x ∈ xs, ∀ ρ, S ρ → ∃ ρ1, a (.val (enc x)) ρ = .ret ρ1 ∧ (p x = true → b ρ1 = .ret (.rt c)) ∧ (p x = false → ∃ ρ2, S ρ2 ∧ b ρ1 = .ret (.nx ρ2))) →
    (xs.any p = true ∧ forL a b (xs.map enc) ρ = .ret (.rt c)) ∨ (xs.any p = false ∧ ∃ ρ', S ρ' ∧ forL a b (xs.map enc) ρ = .ret (.nx ρ'))
  | [], ρ, h, _ => .inr ⟨rfl, ρ, h, rfl⟩
  | x :: xs, ρ, h, st => by
    obtain ⟨ρ1, h1, h2, h3⟩ := st x List.mem_cons_self ρ h
    rw [List.map_cons, List.any_cons, forL_cons, h1, retB]
    cases hp : p x with
    | true => exact .inl ⟨rfl, by rw [h2 hp]; rfl⟩
    | false =>
      obtain ⟨ρ2, h4, h5⟩ := h3 hp
      rw [h5, retB, kFor_nx, Bool.false_or]
      exact forL_any enc p S c xs ρ2 h4 fun y hy => st y (List.mem_cons_of_mem _ hy)
/-! [e for x in xs if c] -/
def kLc (a : C → Ro → M Ro) (c : Ro → M Bool) (e : Ro → M C) (ds : List PyData) (ρ : Ro) (acc : List PyData) : C → M C
  | .val y => lcL a c e ds ρ (acc ++ [y])
  | _ => .fail
theorem kLc_v {a : C → Ro → M Ro} {c : Ro → M Bool} {e : Ro → M C} {ds acc : List PyData} {y : PyData} : kLc a c e ds ρ acc (.val y) = lcL a c e ds ρ (acc ++ [y]) := (rfl)
theorem lcL_nil {a : C → Ro → M Ro} {c : Ro → M Bool} {e : Ro → M C} {acc : List PyData} : lcL a c e [] ρ acc = .ret (.own (.lst acc)) := (rfl)
theorem lcL_cons {a : C → Ro → M Ro} {c : Ro → M Bool} {e : Ro → M C} {d : PyData} {ds acc : List PyData} : lcL a c e (d :: ds) ρ acc = (a (.val d) ρ).bind fun ρ1 => (c ρ1).bind fun b => if b = true then (e ρ1).bind (kLc a c e ds ρ acc) else lcL a c e ds ρ acc := by
  show (a (.val d) ρ).bind _ = _
  congr 1
/-- each thing x is kept if p x and gives f x -/
theorem lcL_fm {δ : Type} (enc : δ → PyData) (p : δ → Bool) (f : δ → PyData) {a : C → Ro → M Ro} {c : Ro → M Bool} {e : Ro → M C} : ∀ (xs : List δ) (acc : List PyData), (∀ x ∈ xs, ∃ ρ1, a (.val (enc x)) ρ = .ret ρ1 ∧ c ρ1 = .ret (p x) ∧ (p x = true → e ρ1 = .ret (.val (f x)))) →
    lcL a c e (xs.map enc) ρ acc = .ret (.own (.lst (acc ++ (xs.filter p).map f)))
  | [], acc, _ => by rw [List.map_nil, lcL_nil, List.filter_nil, List.map_nil, List.append_nil]
  | x :: xs, acc, h => by
    obtain ⟨ρ1, h1, h2, h3⟩ := h x List.mem_cons_self
    rw [List.map_cons, lcL_cons, h1, retB, h2, retB]
    by_cases hp : p x = true
    · rw [if_pos hp, h3 hp, retB, kLc_v, lcL_fm enc p f xs _ fun y hy => h y (List.mem_cons_of_mem _ hy), List.filter_cons_of_pos hp, List.map_cons, List.append_assoc]
      rfl
    · rw [if_neg hp, lcL_fm enc p f xs _ fun y hy => h y (List.mem_cons_of_mem _ hy), List.filter_cons_of_neg hp]
theorem lcL_map {δ : Type} (enc : δ → PyData) (f : δ → PyData) {a : C → Ro → M Ro} {c : Ro → M Bool} {e : Ro → M C} (xs : List δ) (acc : List PyData) (h : ∀ x ∈ xs, ∃ ρ1, a (.val (enc x)) ρ = .ret ρ1 ∧ c ρ1 = .ret true ∧ e ρ1 = .ret (.val (f x))) :
    lcL a c e (xs.map enc) ρ acc = .ret (.own (.lst (acc ++ xs.map f))) := by
  rw [lcL_fm enc (fun _ => true) f xs acc fun x hx => by
    obtain ⟨ρ1, h1, h2, h3⟩ := h x hx
    exact ⟨ρ1, h1, h2, fun _ => h3⟩]
  rw [List.filter_eq_self.mpr fun _ _ => rfl]
/-- the same, with draws -/
theorem wp_lc {δ : Type} (enc : δ → PyData) (P : List PyData → Prop) {a : C → Ro → M Ro} {c : Ro → M Bool} {e : Ro → M C} {Q : C → Prop} (hq : ∀ acc, P acc → Q (.own (.lst acc))) : ∀ (xs : List δ) (acc : List PyData), P acc →
    (∀ x ∈ xs, ∀ acc, P acc → wp ((a (.val (enc x)) ρ).bind fun ρ1 => (c ρ1).bind fun b => if b = true then (e ρ1).bind fun y => .ret (some y) else .ret none) fun o => (o = none ∧ P acc) ∨ ∃ y, o = some (.val y) ∧ P (acc ++ [y])) → wp (lcL a c e (xs.map enc) ρ acc) Q
  | [], acc, h, _ => by rw [List.map_nil, lcL_nil, wp_retE]; exact hq acc h
  | x :: xs, acc, h, st => by
    rw [List.map_cons, lcL_cons]
    have hx := st x List.mem_cons_self acc h
    rw [wp_bindE] at hx ⊢
    refine wp_mono (fun ρ1 h1 => ?_) hx
    rw [wp_bindE] at h1 ⊢
    refine wp_mono (fun b h2 => ?_) h1
    by_cases hb : b = true
    · rw [if_pos hb] at h2 ⊢
      rw [wp_bindE] at h2 ⊢
      refine wp_mono (fun y h3 => ?_) h2
      rw [wp_retE] at h3
      rcases h3 with ⟨z, _⟩ | ⟨y', e1, h4⟩
      · cases z
      · cases e1
        rw [kLc_v]
        exact wp_lc enc P hq xs _ h4 fun y hy => st y (List.mem_cons_of_mem _ hy)
    · rw [if_neg hb] at h2 ⊢
      rw [wp_retE] at h2
      rcases h2 with ⟨_, h4⟩ | ⟨y', e1, h4⟩
      · exact wp_lc enc P hq xs _ h4 fun y hy => st y (List.mem_cons_of_mem _ hy)
      · cases e1
/-! lists that change -/
def kApp (i : Nat) (ρ : Ro) (ds : List PyData) : C → M Res
  | .val d => if lenOk (ds.length + 1) = true then .ret (.nx (setOwn i (ds ++ [d]) ρ)) else .fail
  | _ => .fail
def appAt (i : Nat) (g : Ro → M C) (ρ : Ro) : Option (Option C) → M Res
  | some (some (.own (.lst ds))) => (g ρ).bind (kApp i ρ ds)
  | _ => .fail
theorem mApp_eq {i : Nat} : mApp i g ρ = appAt i g ρ ρ[i]? := by
  unfold mApp
  generalize ρ[i]? = o
  match o with
  | some (some (.own (.lst ds))) => congr 1
  | some (some (.val _)) => rfl
  | some (some (.bor _)) => rfl
  | some (some .tape) => rfl
  | some none => rfl
  | none => rfl
theorem appAt_o {i : Nat} {ds : List PyData} : appAt i g ρ (some (some (.own (.lst ds)))) = (g ρ).bind (kApp i ρ ds) := (rfl)
theorem kApp_v {i : Nat} {ds : List PyData} {d : PyData} : kApp i ρ ds (.val d) = if lenOk (ds.length + 1) = true then .ret (.nx (ρ.set i (some (.own (.lst (ds ++ [d])))))) else .fail := (rfl)
/-! defs -/
theorem fnU_eq {n k : Nat} {m : Ro → M Res} {cs : List C} : fnU n k m cs = if cs.length = n then (m (cs.map some ++ List.replicate k none)).bind Res.out else .fail := (rfl)
theorem fnU_0 {n k : Nat} {m : Ro → M Res} {cs : List C} (h : cs.length = n) : fnU n k m cs = (m (cs.map some ++ List.replicate k none)).bind Res.out := if_pos h
theorem rp_0 : (List.replicate 0 none : Ro) = [] := (rfl)
theorem rp_s {k : Nat} : (List.replicate (k + 1) none : Ro) = none :: List.replicate k none := (rfl)
theorem ap_n {r : Ro} : ([] : Ro) ++ r = r := (rfl)
theorem ap_c {x : Option C} {r s : Ro} : (x :: r) ++ s = x :: (r ++ s) := (rfl)
theorem ms_n : List.map some ([] : List C) = [] := (rfl)
theorem ms_c {c : C} {cs : List C} : List.map some (c :: cs) = some c :: List.map some cs := (rfl)
theorem out_rt {c : C} : Res.out (.rt c) = .ret c := (rfl)
theorem out_nx : Res.out (.nx ρ) = .ret (.val .none) := (rfl)
/-! ### operators at values -/
theorem oAdd_i {i j : Int} : oAdd (.val (.int i)) (.val (.int j)) = .ret (.val (.int (i + j))) := (rfl)
theorem oAdd_s {i j : Str} : oAdd (.val (.str i)) (.val (.str j)) = if lenOk (i.length + j.length) = true then .ret (.val (.str (i ++ j))) else .fail := (rfl)
theorem oAdd_t {i j : List PyData} : oAdd (.val (.tuple i)) (.val (.tuple j)) = if lenOk (i.length + j.length) = true then .ret (.val (.tuple (i ++ j))) else .fail := (rfl)
theorem oAdd_oo {i j : List PyData} : oAdd (.own (.lst i)) (.own (.lst j)) = if lenOk (i.length + j.length) = true then .ret (.own (.lst (i ++ j))) else .fail := (rfl)
theorem oAdd_bo {i j : List PyData} : oAdd (.bor (.lst i)) (.own (.lst j)) = if lenOk (i.length + j.length) = true then .ret (.own (.lst (i ++ j))) else .fail := (rfl)
theorem oAdd_bb {i j : List PyData} : oAdd (.bor (.lst i)) (.bor (.lst j)) = if lenOk (i.length + j.length) = true then .ret (.own (.lst (i ++ j))) else .fail := (rfl)
theorem oAdd_ob {i j : List PyData} : oAdd (.own (.lst i)) (.bor (.lst j)) = if lenOk (i.length + j.length) = true then .ret (.own (.lst (i ++ j))) else .fail := (rfl)
theorem oInt_v {f : Int → Int → PyData} {c : Int → Int → Bool} {i j : Int} : oInt f c (.val (.int i)) (.val (.int j)) = if c i j = true then .ret (.val (f i j)) else .fail := (rfl)
theorem oMul_i {i j : Int} : oMul (.val (.int i)) (.val (.int j)) = if cMul i j = true then .ret (.val (.int (i * j))) else .fail := (rfl)
theorem oNeg_i {i : Int} : oNeg (.val (.int i)) = .ret (.val (.int (-i))) := (rfl)
theorem oEqD_s {n : Bool} {i j : Str} : oEqD n (some (.str i)) (some (.str j)) = .ret (.val (.bool (n ^^ decide (i = j)))) := (rfl)
theorem oEqD_d {n : Bool} {d e : PyData} (h1 : SeqAt.shaped d = true) (h2 : SeqAt.shaped e = true) : oEqD n (some d) (some e) = .ret (.val (.bool (n ^^ PyData.eqv d e))) := by
  unfold oEqD
  split
  · rename_i i j e1 e2
    cases e1; cases e2
    simp only [PyData.eqv]
    rfl
  · rename_i d' e' _ e1 e2
    cases e1; cases e2
    rw [if_pos (by rw [h1, h2]; rfl)]
  · rename_i a b
    exact absurd rfl (b d e rfl)
theorem oEq_i {i j : Int} : oEq (.val (.int i)) (.val (.int j)) = .ret (.val (.bool (decide (i = j)))) := by
  show oEqD false (some (.int i)) (some (.int j)) = _
  rw [oEqD_d rfl rfl]
  simp only [PyData.eqv, Bool.false_xor]
  rfl
theorem oNe_i {i j : Int} : oNe (.val (.int i)) (.val (.int j)) = .ret (.val (.bool (!decide (i = j)))) := by
  show oEqD true (some (.int i)) (some (.int j)) = _
  rw [oEqD_d rfl rfl]
  simp only [PyData.eqv, Bool.true_xor]
  rfl
theorem oEq_b {i j : Bool} : oEq (.val (.bool i)) (.val (.bool j)) = .ret (.val (.bool (decide (i = j)))) := by
  show oEqD false (some (.bool i)) (some (.bool j)) = _
  rw [oEqD_d rfl rfl]
  cases i <;> cases j <;> rfl
theorem oNe_b {i j : Bool} : oNe (.val (.bool i)) (.val (.bool j)) = .ret (.val (.bool (!decide (i = j)))) := by
  show oEqD true (some (.bool i)) (some (.bool j)) = _
  rw [oEqD_d rfl rfl]
  cases i <;> cases j <;> rfl
theorem oEq_s {i j : Str} : oEq (.val (.str i)) (.val (.str j)) = .ret (.val (.bool (decide (i = j)))) := by
  show oEqD false (some (.str i)) (some (.str j)) = _
  rw [oEqD_s, Bool.false_xor]
theorem oNe_s {i j : Str} : oNe (.val (.str i)) (.val (.str j)) = .ret (.val (.bool (!decide (i = j)))) := by
  show oEqD true (some (.str i)) (some (.str j)) = _
  rw [oEqD_s, Bool.true_xor]
/-! subscripts -/
theorem oIx_t {ds : List PyData} {i : Int} : oIx (.val (.tuple ds)) (.val (.int i)) = atD ds i := (rfl)
theorem oIx_s {ds : Str} {i : Int} : oIx (.val (.str ds)) (.val (.int i)) = atS ds i := (rfl)
theorem oIx_o {ds : List PyData} {i : Int} : oIx (.own (.lst ds)) (.val (.int i)) = atD ds i := (rfl)
theorem oIx_b {ds : List PyData} {i : Int} : oIx (.bor (.lst ds)) (.val (.int i)) = atD ds i := (rfl)
theorem atD_get {ds : List PyData} {i : Nat} {d : PyData} (h : ds[i]? = some d) : atD ds (i : Int) = .ret (.val d) := by
  obtain ⟨hl, _⟩ := List.getElem?_eq_some_iff.mp h
  have : atI ds (i : Int) = some d := by
    unfold atI
    have e : ixN ds.length (i : Int) = some i := by
      unfold ixN
      simp only [Int.natCast_nonneg, Int.toNat_natCast, if_true]
      first
        | rfl
        | simp [hl]
        | (split <;> first | rfl | omega | simp_all)
    rw [e]
    exact h
  unfold atD
  rw [this]
theorem atD_int {ds : List PyData} {i : Int} {d : PyData} (h0 : 0 ≤ i) (h : ds[i.toNat]? = some d) : atD ds i = .ret (.val d) := by
  have := atD_get h
  rwa [Int.toNat_of_nonneg h0] at this
theorem atD_m1 {ds : List PyData} {d : PyData} (h : ds[ds.length - 1]? = some d) : atD ds (-1) = .ret (.val d) := by
  obtain ⟨hl, _⟩ := List.getElem?_eq_some_iff.mp h
  have : atI ds (-1) = some d := by
    unfold atI
    have e : ixN ds.length (-1) = some (ds.length - 1) := by
      unfold ixN
      have h1 : ¬ (0 : Int) ≤ -1 := by omega
      first
        | (rw [if_neg h1]; simp; omega)
        | (simp; omega)
        | (split <;> simp_all <;> omega)
    rw [e]
    exact h
  unfold atD
  rw [this]
section
variable {a0 a1 a2 a3 a4 a5 a6 a7 a8 a9 : PyData} {ds : List PyData}
theorem atD_0 : atD (a0 :: ds) 0 = .ret (.val a0) := atD_get (i := 0) rfl
theorem atD_1 : atD (a0 :: a1 :: ds) 1 = .ret (.val a1) := atD_get (i := 1) rfl
theorem atD_2 : atD (a0 :: a1 :: a2 :: ds) 2 = .ret (.val a2) := atD_get (i := 2) rfl
theorem atD_3 : atD (a0 :: a1 :: a2 :: a3 :: ds) 3 = .ret (.val a3) := atD_get (i := 3) rfl
theorem atD_4 : atD (a0 :: a1 :: a2 :: a3 :: a4 :: ds) 4 = .ret (.val a4) := atD_get (i := 4) rfl
theorem atD_5 : atD (a0 :: a1 :: a2 :: a3 :: a4 :: a5 :: ds) 5 = .ret (.val a5) := atD_get (i := 5) rfl
theorem atD_6 : atD (a0 :: a1 :: a2 :: a3 :: a4 :: a5 :: a6 :: ds) 6 = .ret (.val a6) := atD_get (i := 6) rfl
theorem atD_7 : atD (a0 :: a1 :: a2 :: a3 :: a4 :: a5 :: a6 :: a7 :: ds) 7 = .ret (.val a7) := atD_get (i := 7) rfl
theorem atD_8 : atD (a0 :: a1 :: a2 :: a3 :: a4 :: a5 :: a6 :: a7 :: a8 :: ds) 8 = .ret (.val a8) := atD_get (i := 8) rfl
end
/-! displays -/
theorem datas_n : datas [] = some [] := (rfl)
theorem datas_v {d : PyData} {cs : List C} : datas (.val d :: cs) = (datas cs).map (d :: ·) := (rfl)
theorem mp_some {δ ε : Type} {f : δ → ε} {x : δ} : Option.map f (some x) = some (f x) := (rfl)
def kTup : Option (List PyData) → M C
  | some ds => if lenOk ds.length = true then .ret (.val (.tuple ds)) else .fail
  | none => .fail
def kLst : Option (List PyData) → M C
  | some ds => if lenOk ds.length = true then .ret (.own (.lst ds)) else .fail
  | none => .fail
theorem oTup_eq {cs : List C} : oTup cs = kTup (datas cs) := (rfl)
theorem oLst_eq {cs : List C} : oLst cs = kLst (datas cs) := (rfl)
theorem kTup_s {ds : List PyData} : kTup (some ds) = if lenOk ds.length = true then .ret (.val (.tuple ds)) else .fail := (rfl)
theorem kLst_s {ds : List PyData} : kLst (some ds) = if lenOk ds.length = true then .ret (.own (.lst ds)) else .fail := (rfl)
theorem len_n : ([] : List PyData).length = 0 := (rfl)
theorem len_c {d : PyData} {ds : List PyData} : (d :: ds).length = ds.length + 1 := (rfl)
/-! built in -/
theorem o1_v {f : PyData → M C} {d : PyData} : o1 f [.val d] = f d := (rfl)
theorem o1_o {f : PyData → M C} {ds : List PyData} : o1 f [.own (.lst ds)] = f (.list ds) := (rfl)
theorem o1_b {f : PyData → M C} {ds : List PyData} : o1 f [.bor (.lst ds)] = f (.list ds) := (rfl)
theorem lenD_t {ds : List PyData} : lenD (.tuple ds) = .ret (.val (.int ds.length)) := (rfl)
theorem lenD_l {ds : List PyData} : lenD (.list ds) = .ret (.val (.int ds.length)) := (rfl)
theorem lenD_s {z : Str} : lenD (.str z) = if lenOk z.length = true then .ret (.val (.int z.length)) else .fail := (rfl)
theorem absD_i {i : Int} : absD (.int i) = .ret (.val (.int (i.natAbs : Int))) := by
  show M.ret (C.val (.int (if i < 0 then -i else i))) = _
  rw [show (if i < 0 then -i else i) = (i.natAbs : Int) by split <;> omega]
theorem intD_i {i : Int} : intD (.int i) = .ret (.val (.int i)) := (rfl)
theorem intD_b {b : Bool} : intD (.bool b) = .ret (.val (.int (if b then 1 else 0))) := (rfl)
theorem oMax2_i {i j : Int} : oMax2 [.val (.int i), .val (.int j)] = .ret (.val (.int (max i j))) := (rfl)
theorem oMin2_i {i j : Int} : oMin2 [.val (.int i), .val (.int j)] = .ret (.val (.int (min i j))) := (rfl)
theorem oGcd_i {i j : Int} : oGcd [.val (.int i), .val (.int j)] = .ret (.val (.int ((Nat.gcd i.natAbs j.natAbs : Nat) : Int))) := (rfl)
theorem oListC_t {ds : List PyData} : oListC [.val (.tuple ds)] = .ret (.own (.lst ds)) := (rfl)
theorem oListC_o {ds : List PyData} : oListC [.own (.lst ds)] = .ret (.own (.lst ds)) := (rfl)
theorem oListC_b {ds : List PyData} : oListC [.bor (.lst ds)] = .ret (.own (.lst ds)) := (rfl)
theorem oTupC_t {ds : List PyData} : oTupC [.val (.tuple ds)] = .ret (.val (.tuple ds)) := (rfl)
theorem oTupC_o {ds : List PyData} : oTupC [.own (.lst ds)] = .ret (.val (.tuple ds)) := (rfl)
theorem oTupC_b {ds : List PyData} : oTupC [.bor (.lst ds)] = .ret (.val (.tuple ds)) := (rfl)
theorem repr_ok {d : PyData} (h : RepOk d) : repD1 d = .ret (.val (.str d.shown)) := by
  refine if_pos ?_
  obtain ⟨h1, h2, h3⟩ := h
  unfold repOk
  rw [h1, decide_eq_true h2, decide_eq_true (by rw [show sizeLine = 16777216 by decide] at h3; exact h3)]
  rfl
theorem bigD_l {f : List Bool → Bool} {bs : List Bool} : bigD f (.list (bs.map .bool)) = .ret (.val (.bool (f bs))) := by
  unfold bigD
  dsimp only
  rw [blsOf_map]
theorem isi_bi : isiT "int" (some "bool") = .ret (.val (.bool true)) := by unfold isiT; dsimp only; rw [kit_bool_int]
theorem isi_ii : isiT "int" (some "int") = .ret (.val (.bool true)) := by unfold isiT; dsimp only; rw [kit_int_int]
theorem isi_ib : isiT "bool" (some "int") = .ret (.val (.bool false)) := by unfold isiT; dsimp only; rw [kit_int_bool]
theorem isi_bb : isiT "bool" (some "bool") = .ret (.val (.bool true)) := by unfold isiT; dsimp only; rw [kit_bool_bool]
theorem isi_ni : isiT "int" (some "NoneType") = .ret (.val (.bool false)) := by unfold isiT; dsimp only; rw [kit_none_int]
theorem isi_ss : isiT "str" (some "str") = .ret (.val (.bool true)) := by unfold isiT; dsimp only; rw [kit_str_str]
theorem isi_nb : isiT "bool" (some "NoneType") = .ret (.val (.bool false)) := by unfold isiT; dsimp only; rw [kit_none_bool]
theorem oIsi_v {T : String} {d : PyData} : oIsi T (.val d) = isiT T (tyD d) := (rfl)
theorem tyD_b {b : Bool} : tyD (.bool b) = some "bool" := (rfl)
theorem tyD_i {b : Int} : tyD (.int b) = some "int" := (rfl)
theorem tyD_s {b : Str} : tyD (.str b) = some "str" := (rfl)
theorem tyD_n : tyD .none = some "NoneType" := (rfl)
theorem oIsX_n {n : Bool} {a : C} : oIsX n a (.val .none) = .ret (.val (.bool (n ^^ a.isN))) := by
  cases a with
  | val d => cases d <;> rfl
  | own _ => rfl
  | bor _ => rfl
  | tape => rfl
theorem oIsX_b {n a b : Bool} : oIsX n (.val (.bool a)) (.val (.bool b)) = .ret (.val (.bool (n ^^ decide (a = b)))) := (rfl)
theorem isN_n : C.isN (.val .none) = true := (rfl)
theorem isN_i {i : Int} : C.isN (.val (.int i)) = false := (rfl)
theorem isN_b {i : Bool} : C.isN (.val (.bool i)) = false := (rfl)
theorem isN_s {i : Str} : C.isN (.val (.str i)) = false := (rfl)
theorem isN_t {i : List PyData} : C.isN (.val (.tuple i)) = false := (rfl)
/-! draws -/
theorem wp_drawn {m : Int} {k : C → M α} {Q : α → Prop} (hm : m ≤ 1000000000) (q : ∀ v, 0 ≤ v → v < max m 1 → wp (k (.val (.int v))) Q) : wp ((drawC [.tape, .val (.int m)]).bind k) Q := by
  have e : drawC [.tape, .val (.int m)] = .draw m fun v => .ret (.val (.int v)) := if_pos (decide_eq_true hm)
  rw [e, drawB, wp_drawE]
  exact q
/-- a drawn one out of a row -/
theorem wp_pick {ds : List PyData} {i : Int} {k : C → M α} {Q : α → Prop} (h0 : 0 ≤ i) (h1 : i < ds.length) (q : ∀ d, d ∈ ds → wp (k (.val d)) Q) : wp ((atD ds i).bind k) Q := by
  have hl : i.toNat < ds.length := by omega
  rw [atD_int h0 (List.getElem?_eq_getElem hl), retB]
  exact q _ (List.getElem_mem hl)
def rng (k : Int) (i : Int) : Bool := decide (-k ≤ i) && decide (i ≤ k)
def smB (k : Int) : PyData → Bool
  | .int i => rng k i
  | _ => false
theorem wp_pickI (m : Int) {ds : List PyData} {i : Int} {k : C → M α} {Q : α → Prop} (hs : ds.all (smB m) = true) (h0 : 0 ≤ i) (h1 : i < ds.length) (q : ∀ j : Int, -m ≤ j → j ≤ m → wp (k (.val (.int j))) Q) : wp ((atD ds i).bind k) Q :=
  wp_pick h0 h1 fun d hd => by
    have := List.all_eq_true.mp hs d hd
    cases d with
    | int j =>
      simp only [smB, rng, Bool.and_eq_true, decide_eq_true_eq] at this
      exact q j this.1 this.2
    | _ => cases this
/-! bounds -/
theorem small_log {i : Int} {k : Nat} (hk : k ≠ 0) (h : i.natAbs < 2 ^ k) : i.natAbs.log2 < k := by
  by_cases h0 : i.natAbs = 0
  · rw [h0]; simp; omega
  · exact (Nat.log2_lt h0).mpr h
theorem cMul_ok {i j : Int} (k l : Nat) (hk : k ≠ 0) (hl : l ≠ 0) (h : k + l ≤ 1000000) (hi : i.natAbs < 2 ^ k) (hj : j.natAbs < 2 ^ l) : cMul i j = true := by
  have h1 := small_log hk hi
  have h2 := small_log hl hj
  exact decide_eq_true (by omega)
theorem cDiv_ok {i j : Int} (k : Nat) (hk : k ≠ 0) (h : k ≤ 9000) (h0 : 0 < j) (hj : j.natAbs < 2 ^ k) : cDiv i j = true := by
  have h2 := small_log hk hj
  unfold cDiv
  rw [decide_eq_true h0, decide_eq_true (by omega)]
  rfl
theorem cMod_ok {i j : Int} (h0 : 0 < j) : cMod i j = true := decide_eq_true h0
theorem rngOk_ok {i : Int} (h1 : -4611686018427387904 ≤ i) (h2 : i < 4611686018427387904) : rngOk i = true := by
  unfold rngOk
  rw [decide_eq_true h1, decide_eq_true h2]
  rfl
theorem lenOk_ok {n : Nat} (h : n ≤ 16777216) : lenOk n = true := decide_eq_true h
theorem rngD_len {lo c : Int} {n : Nat} : (rngD lo c n).length = n := by unfold rngD; rw [List.length_map, List.length_range]
end Cs

set_option maxRecDepth 100000
set_option maxHeartbeats 4000000
/-! a word of one's own at a join -/
namespace Cs
open PySem PySem.Spec PyProof.Rows L2
def Jn (P : Ro → Prop) (Q : Res → Prop) : Res → Prop
  | .nx ρ => P ρ
  | .rt c => Q (.rt c)
  | .bk ρ => Q (.bk ρ)
  | .ct ρ => Q (.ct ρ)
theorem wp_seqJ (P : Ro → Prop) {m n : Ro → M Res} {ρ : Ro} {Q : Res → Prop} (h1 : wp (m ρ) (Jn P Q)) (h2 : ∀ ρ', P ρ' → wp (n ρ') Q) : wp (mSeq m n ρ) Q := by
  rw [mSeq_eq]
  refine wp_call _ h1 fun r hr => ?_
  cases r with
  | nx ρ' => rw [kSeq_nx]; exact h2 _ hr
  | rt c => rw [kSeq_rt, wp_retE]; exact hr
  | bk ρ' => rw [kSeq_bk, wp_retE]; exact hr
  | ct ρ' => rw [kSeq_ct, wp_retE]; exact hr
theorem out_ok {c : C} {Q : C → Prop} (h : Q c) : wp (Res.out (.rt c)) Q := by rw [out_rt, wp_retE]; exact h
/-- behind a turn of a loop -/
def Fp (P : Ro → Prop) (Q : Res → Prop) : Res → Prop
  | .nx ρ => P ρ
  | .ct ρ => P ρ
  | .bk ρ => Q (.nx ρ)
  | .rt c => Q (.rt c)
theorem wp_over {δ : Type} (enc : δ → PyData) (I : List δ → Ro → Prop) {a : C → Ro → M Ro} {b : Ro → M Res} {Q : Res → Prop} (hn : ∀ ρ, I [] ρ → Q (.nx ρ)) (hc : ∀ d ds ρ, I (d :: ds) ρ → wp ((a (.val (enc d)) ρ).bind b) (Fp (I ds) Q)) : ∀ {ds : List δ} {ρ : Ro}, I ds ρ → wp (forL a b (ds.map enc) ρ) Q
  | [], ρ, h => by rw [List.map_nil, forL_nil, wp_retE]; exact hn ρ h
  | d :: ds, ρ, h => by
    rw [List.map_cons, forL_cons, ← bind_bind]
    refine wp_call _ (hc d ds ρ h) fun r hr => ?_
    cases r with
    | nx ρ' => rw [kFor_nx]; exact wp_over enc I hn hc hr
    | ct ρ' => rw [kFor_ct]; exact wp_over enc I hn hc hr
    | bk ρ' => rw [kFor_bk, wp_retE]; exact hr
    | rt c => rw [kFor_rt, wp_retE]; exact hr
/-- a def's run, its result named -/
theorem wp_fn {n k : Nat} {m : Ro → M Res} {cs : List C} {Q : C → Prop} (h : cs.length = n) (q : wp (m (cs.map some ++ List.replicate k none)) (fun r => wp (Res.out r) Q)) : wp (fnU n k m cs) Q := by
  rw [fnU_0 h]
  exact wp_bind.mpr q
end Cs

set_option maxRecDepth 100000
set_option maxHeartbeats 4000000
/-! promises made by hand, as plain programs -/
namespace Cs
open PySem PySem.Spec PyProof.Rows L2
section
variable {tp : Option (Addr × Addr)} {K : PySem.W.Frag} {H H' H0 H1 He Hq : Hp} {ρ : Ro} {σ : L2.St}
theorem re_fnH {f : List C → M C} {sp : Sp} {t : TA} {gs : Ro → M (List C)} (br : ∀ vs H Q E, spU K f vs H Q E → sp vs H Q E) (h1 : RA K t gs) : RE K (tFn sp t) (gFn f gs) := by
  intro tp He Hq ρ σ H Q r h
  refine h1 tp He Hq ρ σ H _ r (wp0_mono (fun cs hc => ?_) (wp0_bind.mp h))
  intro vs H1 g1 t1 rx
  refine br _ _ _ _ ⟨tp, cs.map C.lend, t1, rx.lend, fun c m o z => ?_, wp0_mono (fun c hc => hc.after g1 t1) hc⟩
  obtain ⟨c', _, e⟩ := List.mem_map.mp m
  subst z
  cases c' <;> cases e
theorem RC.tupI {v : V} {ns : List Int} (h : RC tp K H0 H v (.val (.tuple (ns.map PyData.int)))) : Tup K H v (iv ns) := by
  obtain ⟨a, vs, e, hS, hd, _⟩ := h.tup
  rw [intsOf_dp hd (intsOf_map ns)] at hS
  exact ⟨a, e, hS⟩
/-- a text of these signs -/
def Sh.pD (s : Sh) : PyData := .tuple (s.pts.map PyData.int)
theorem flat_inj : ∀ {ps qs : List (Int × Int)}, flat ps = flat qs → ps = qs
  | [], [], _ => rfl
  | [], _ :: _, e => by cases e
  | _ :: _, [], e => by cases e
  | p :: ps, q :: qs, e => by
    obtain ⟨p1, p2⟩ := p
    obtain ⟨q1, q2⟩ := q
    simp only [flat, List.cons.injEq] at e
    rw [e.1, e.2.1, flat_inj e.2.2]
theorem Sh.inj {s t : Sh} (h1 : s.name = t.name) (h2 : s.pts = t.pts) (h3 : s.txt = t.txt) : s = t := by
  cases s <;> cases t <;> first
    | (exfalso; revert h1; simp only [Sh.name]; decide +kernel)
    | (simp only [Sh.pts, List.cons.injEq, and_true] at h2; simp only [Sh.txt] at h3; simp_all; done)
    | (simp only [Sh.pts] at h2; have := flat_inj h2; simp_all; done)
theorem map_int_inj : ∀ {xs ys : List Int}, xs.map PyData.int = ys.map PyData.int → xs = ys
  | [], [], _ => rfl
  | [], _ :: _, e => by cases e
  | _ :: _, [], e => by cases e
  | x :: xs, y :: ys, e => by
    simp only [List.map_cons, List.cons.injEq, PyData.int.injEq] at e
    rw [e.1, map_int_inj e.2]
/-- what stands of a shape in three places -/
def Sh.is (s : Sh) (a b c : PyData) : Prop := a = .str s.name ∧ b = s.pD ∧ c = .str (S s.txt)
theorem Sh.is_one {s t : Sh} {a b c : PyData} (h : s.is a b c) (k : t.is a b c) : s = t := by
  obtain ⟨h1, h2, h3⟩ := h
  obtain ⟨k1, k2, k3⟩ := k
  refine Sh.inj (PyData.str.inj (h1.symm.trans k1)) (map_int_inj (PyData.tuple.inj (h2.symm.trans k2))) (S_inj (PyData.str.inj (h3.symm.trans k3)))
theorem lf_ints (ns : List Int) : lf (.tuple (ns.map PyData.int)) = true := by
  simp only [lf]
  exact lfAll_iff.mpr fun d m => by obtain ⟨i, _, rfl⟩ := List.mem_map.mp m; rfl
/-! around -/
open Classical in
noncomputable def F_around : List C → M C
  | [.val a, .val b, .val c] => if ∃ s : Sh, ShOk s ∧ s.is a b c then .any (fun d => ∃ s r, s.is a b c ∧ IsBox s r ∧ d = r.d) fun d => .ret (.val d) else .fail
  | _ => .fail
theorem lfR (r : R) : lf r.d = true := rfl
theorem Rc.rc {x : V} {r : R} (h : Rc K H x r) : RC tp K H0 H x (.val r.d) := ⟨h.dp, rfl⟩
theorem br_around : ∀ vs H Q E, spU K F_around vs H Q E → sp_around K vs H Q E := by
  rintro vs H Q E ⟨tp, cs, t, r, no, h⟩
  unfold F_around at h
  split at h
  · rename_i a b c
    split at h
    · rename_i ex
      obtain ⟨s, ok, i1, i2, i3⟩ := ex
      subst i1 i2 i3
      obtain ⟨v1, vs1, e1, r1, rs⟩ : ∃ v vs', vs = v :: vs' ∧ RC tp K H H v (.val (.str s.name)) ∧ RCs tp K H H vs' [.val s.pD, .val (.str (S s.txt))] := by
        cases vs with
        | nil => exact r.elim
        | cons v vs' => exact ⟨v, vs', rfl, r.1, r.2⟩
      obtain ⟨v2, v3, e2, r2, r3⟩ := rs.two
      cases r1.str
      cases r3.str
      subst e1 e2
      refine ⟨s, v2, rfl, r2.tupI, ok, fun x q H' sm hb hx => ?_⟩
      exact h q.d ⟨s, q, ⟨rfl, rfl, rfl⟩, hb, rfl⟩ x H' (GrT.of sm) (t.same sm) hx.rc
    · exact h.elim
  · exact h.elim
theorem around_wp {s : Sh} (ok : ShOk s) {α : Type} {k : C → M α} {Q : α → Prop} (q : ∀ r, IsBox s r → wp (k (.val r.d)) Q) : wp ((F_around [.val (.str s.name), .val s.pD, .val (.str (S s.txt))]).bind k) Q := by
  unfold F_around
  dsimp only
  rw [if_pos ⟨s, ok, rfl, rfl, rfl⟩, anyB, wp_anyE]
  rintro d ⟨s', r, i, hb, rfl⟩
  rw [Sh.is_one i ⟨rfl, rfl, rfl⟩] at hb
  exact q r hb
/-! covers -/
open Classical in
noncomputable def F_covers : List C → M C
  | [.val a, .val b, .val c, .val (.int x), .val (.int y)] => if h : ∃ s : Sh, ShOk s ∧ (∀ z ∈ s.pts, Nr z) ∧ Nr x ∧ Nr y ∧ s.is a b c then .ret (.val (.bool (cov h.choose x y))) else .fail
  | _ => .fail
theorem covers_eq {s : Sh} {x y : Int} (ok : ShOk s) (hn : ∀ z ∈ s.pts, Nr z) (hx : Nr x) (hy : Nr y) : F_covers [.val (.str s.name), .val s.pD, .val (.str (S s.txt)), .val (.int x), .val (.int y)] = .ret (.val (.bool (cov s x y))) := by
  unfold F_covers
  have h : ∃ t : Sh, ShOk t ∧ (∀ z ∈ t.pts, Nr z) ∧ Nr x ∧ Nr y ∧ t.is (.str s.name) s.pD (.str (S s.txt)) := ⟨s, ok, hn, hx, hy, rfl, rfl, rfl⟩
  simp only
  rw [dif_pos h, Sh.is_one h.choose_spec.2.2.2.2 ⟨rfl, rfl, rfl⟩]
theorem br_covers : ∀ vs H Q E, spU K F_covers vs H Q E → sp_covers K vs H Q E := by
  rintro vs H Q E ⟨tp, cs, t, r, no, h⟩
  unfold F_covers at h
  split at h
  · rename_i a b c x y
    split at h
    · rename_i ex
      obtain ⟨ok, hn, hx, hy, i⟩ := ex.choose_spec
      generalize ex.choose = s at *
      obtain ⟨i1, i2, i3⟩ := i
      subst i1 i2 i3
      cases vs with
      | nil => exact r.elim
      | cons v1 vs =>
        cases vs with
        | nil => exact r.2.elim
        | cons v2 vs =>
          cases vs with
          | nil => exact r.2.2.elim
          | cons v3 vs =>
            obtain ⟨v4, v5, e, r4, r5⟩ := RCs.two r.2.2.2
            subst e
            have r1 := r.1
            have r2 := r.2.1
            have r3 := r.2.2.1
            cases r1.str
            cases r3.str
            cases r4.int
            cases r5.int
            exact ⟨s, v2, x, y, rfl, r2.tupI, ok, hn, hx, hy, fun H' sm => h _ H' (GrT.of sm) (t.same sm) ⟨.bl _, rfl⟩⟩
    · exact h.elim
  · exact h.elim
/-! contains -/
theorem RC.rc {v : V} {r : R} (h : RC tp K H0 H v (.val r.d)) : Rc K H v r := by
  obtain ⟨a, e, hS⟩ := RC.tupI (ns := [r.l, r.t, r.w, r.h]) h
  exact ⟨a, e, hS⟩
open Classical in
noncomputable def F_contains : List C → M C
  | [.val a, .val (.int x), .val (.int y)] => if h : ∃ r : R, a = r.d then .ret (.val (.bool (has h.choose x y))) else .fail
  | _ => .fail
theorem R.d_inj {a b : R} (h : a.d = b.d) : a = b := by
  obtain ⟨a1, a2, a3, a4⟩ := a
  obtain ⟨b1, b2, b3, b4⟩ := b
  simp only [R.d, PyData.tuple.injEq, List.cons.injEq, PyData.int.injEq, and_true] at h
  obtain ⟨rfl, rfl, rfl, rfl⟩ := h
  rfl
theorem contains_eq {r : R} {x y : Int} : F_contains [.val r.d, .val (.int x), .val (.int y)] = .ret (.val (.bool (has r x y))) := by
  unfold F_contains
  have h : ∃ q : R, r.d = q.d := ⟨r, rfl⟩
  simp only
  rw [dif_pos h, ← R.d_inj h.choose_spec]
theorem br_contains : ∀ vs H Q E, spU K F_contains vs H Q E → sp_contains K vs H Q E := by
  rintro vs H Q E ⟨tp, cs, t, r, no, h⟩
  unfold F_contains at h
  split at h
  · rename_i a x y
    split at h
    · rename_i ex
      have e := ex.choose_spec
      generalize ex.choose = q at *
      subst e
      cases vs with
      | nil => exact r.elim
      | cons v1 vs =>
        obtain ⟨v4, v5, e, r4, r5⟩ := RCs.two r.2
        subst e
        have r1 := r.1
        cases r4.int
        cases r5.int
        exact ⟨v1, q, x, y, rfl, r1.rc, h _ H .refl t ⟨.bl _, rfl⟩⟩
    · exact h.elim
  · exact h.elim
/-! the law's word, the law's shapes -/
def F_law_word : List C → M C
  | [.tape] => .any (fun d => ∃ m, Word m ∧ m.length ≤ 5 ∧ d = .str (S m)) fun d => .ret (.val d)
  | _ => .fail
theorem RCs.tape {vs : List V} {cs : List C} (r : RCs tp K H0 H vs (.tape :: cs)) : ∃ t l vs', tp = some (t, l) ∧ vs = .ref t :: vs' ∧ RCs tp K H0 H vs' cs := by
  cases vs with
  | nil => exact r.elim
  | cons v vs' =>
    obtain ⟨t, l, e, rfl⟩ := r.1
    exact ⟨t, l, vs', e, rfl, r.2⟩
theorem RCs.nil_ {vs : List V} (r : RCs tp K H0 H vs []) : vs = [] := by
  cases vs with
  | nil => rfl
  | cons _ _ => exact r.elim
theorem GrT.ofGr {t l : Addr} (e : Gr t H H') : GrT (some (t, l)) H H' := fun b o h n => e b o h (fun z => n (by simp [z]))
theorem tok1 {t l : Addr} (h : TapeAt H t l) : TOk (some (t, l)) H := fun a b e => by cases e; exact h
theorem br_law_word : ∀ vs H Q E, spU K F_law_word vs H Q E → sp_law_word K vs H Q E := by
  rintro vs H Q E ⟨tp, cs, t, r, no, h⟩
  unfold F_law_word at h
  split at h
  · obtain ⟨a, l, vs', e, e', r'⟩ := RCs.tape r
    have := RCs.nil_ r'
    subst e e' this
    exact ⟨a, l, rfl, t a l rfl, fun m H' T g hw hl => h _ ⟨m, hw, hl, rfl⟩ _ H' (.ofGr g) (tok1 T) ⟨.str _, rfl⟩⟩
  · exact h.elim
/-- a drawn shape's data -/
def Sh.d (s : Sh) : PyData := .tuple [.str s.name, s.pD, .str (S s.txt)]
theorem Sh.lf_d (s : Sh) : lf s.d = true := by
  unfold Sh.d
  simp only [lf, lfAll, Bool.and_true, Bool.true_and]
  exact lf_ints _
structure ShS (s : Sh) : Prop where
  ok : ShOk s
  sm : ∀ z ∈ s.pts, -1000 ≤ z ∧ z ≤ 1000
  rad : ∀ a b q, s = .circ a b q → 0 ≤ q
def F_law_form : List C → M C
  | [.tape, .val (.int m)] => if (decide (1 ≤ m) && decide (m ≤ 100)) = true then .any (fun d => ∃ s, ShS s ∧ d = s.d) fun d => .ret (.val d) else .fail
  | _ => .fail
theorem dp_ints : ∀ ns : List Int, DpAll K H (iv ns) (ns.map PyData.int)
  | [] => .nil
  | n :: ns => .cons (.int n) (dp_ints ns)
theorem Drawn.dp {x : V} {s : Sh} (h : Drawn K H x s) : Dp K H x s.d := by
  obtain ⟨a, v, rfl, hS, b, rfl, hT⟩ := h.at_
  exact .tup hS (.cons (.str _) (.cons (.tup hT (dp_ints _)) (.cons (.str _) .nil)))
theorem br_law_form : ∀ vs H Q E, spU K F_law_form vs H Q E → sp_law_form K vs H Q E := by
  rintro vs H Q E ⟨tp, cs, t, r, no, h⟩
  unfold F_law_form at h
  split at h
  · rename_i m
    obtain ⟨a, l, vs', e, e', r'⟩ := RCs.tape r
    obtain ⟨v, e2, r2⟩ := RCs.one r'
    subst e e' e2
    cases r2.int
    split at h
    · rename_i hm
      simp only [Bool.and_eq_true, decide_eq_true_eq] at hm
      exact ⟨a, l, m, rfl, t a l rfl, hm.1, hm.2, fun x s H' T g hd => h _ ⟨s, ⟨hd.ok, hd.sm, hd.rad⟩, rfl⟩ _ H' (.ofGr g) (tok1 T) ⟨hd.dp, s.lf_d⟩⟩
    · exact h.elim
  · exact h.elim
theorem form_wp {m : Int} (h1 : 1 ≤ m) (h2 : m ≤ 100) {α : Type} {k : C → M α} {Q : α → Prop} (q : ∀ s, ShS s → wp (k (.val s.d)) Q) : wp ((F_law_form [.tape, .val (.int m)]).bind k) Q := by
  unfold F_law_form
  dsimp only
  rw [if_pos (by rw [decide_eq_true h1, decide_eq_true h2]; rfl), anyB, wp_anyE]
  rintro d ⟨s, hs, rfl⟩
  exact q s hs
theorem word_wp {α : Type} {k : C → M α} {Q : α → Prop} (q : ∀ m, Word m → m.length ≤ 5 → wp (k (.val (.str (S m)))) Q) : wp ((F_law_word [.tape]).bind k) Q := by
  unfold F_law_word
  rw [anyB, wp_anyE]
  rintro d ⟨m, h1, h2, rfl⟩
  exact q m h1 h2
end
end Cs

set_option maxRecDepth 100000
set_option maxHeartbeats 1000000
/-! what is covered lies in the rectangle around -/
namespace Cs
open PySem PySem.Spec PyProof.Rows L2
theorem tw_cons {c : Nat} {r : List Nat} (h : r ≠ []) : tw (c :: r) = gw c + 1 + tw r := by
  have := tw_app [c] r (by simp) h
  rw [show [c] ++ r = c :: r from rfl] at this
  rw [this]
  have : tw [c] = gw c := by unfold tw; simp
  omega
theorem ink_in : ∀ (l : List Nat) (left x : Int), ink l left x = true → left ≤ x ∧ x < left + tw l
  | [], _, _, h => by cases h
  | c :: r, left, x, h => by
    rw [ink_cons] at h
    have hg := gw_pos c
    by_cases hx : x < left + gw c
    · rw [if_pos hx, Bool.and_eq_true, decide_eq_true_eq] at h
      refine ⟨h.1, ?_⟩
      by_cases hr : r = []
      · subst hr
        have : tw [c] = gw c := by unfold tw; simp
        omega
      · rw [tw_cons hr]
        have := tw_nn r
        omega
    · rw [if_neg hx] at h
      have hr : r ≠ [] := by rintro rfl; cases h
      have ih := ink_in r _ _ h
      rw [tw_cons hr]
      omega
theorem inkT_in {l : List Nat} {x y : Int} (h : inkT l x y = true) : 0 ≤ x ∧ x < tw l ∧ 0 ≤ y ∧ y < 7 := by
  unfold inkT at h
  simp only [Bool.and_eq_true, decide_eq_true_eq] at h
  have := ink_in l 0 x h.2
  omega
theorem chain_in : ∀ (l : List (Int × Int)) (x y : Int), chain l x y = true → ∃ p q, p ∈ l ∧ q ∈ l ∧ between p q x y = true
  | [], _, _, h => by cases h
  | [_], _, _, h => by cases h
  | p :: q :: r, x, y, h => by
    unfold chain at h
    rcases Bool.or_eq_true_iff.mp h with h | h
    · exact ⟨p, q, by simp, by simp, by unfold onl at h; exact (Bool.and_eq_true_iff.mp h).1⟩
    · obtain ⟨a, b, ha, hb, e⟩ := chain_in (q :: r) x y h
      exact ⟨a, b, List.mem_cons_of_mem _ ha, List.mem_cons_of_mem _ hb, e⟩
theorem bb_has {L : List (Int × Int)} {r : R} (h : IsBB L r) {p q : Int × Int} (hp : p ∈ L) (hq : q ∈ L) {x y : Int} (e : between p q x y = true) : has r x y = true := by
  have b1 := h.l2 p hp; have b2 := h.l2 q hq; have b3 := h.t2 p hp; have b4 := h.t2 q hq
  have b5 := h.r2 p hp; have b6 := h.r2 q hq; have b7 := h.b2 p hp; have b8 := h.b2 q hq
  simp only [between, decide_eq_true_eq] at e
  simp only [has, Bool.and_eq_true, decide_eq_true_eq]
  omega
theorem sq_le {d e q : Int} (hq : 0 ≤ q) (h : d ^ 2 + e ^ 2 ≤ q * q + q) : -q ≤ d ∧ d ≤ q := by
  have h1 : d ^ 2 = d * d := by rw [Int.pow_succ, Int.pow_succ, Int.pow_zero, Int.one_mul]
  have h2 : e ^ 2 = e * e := by rw [Int.pow_succ, Int.pow_succ, Int.pow_zero, Int.one_mul]
  have h3 : 0 ≤ e * e := by
    rcases Int.le_total 0 e with g | g
    · exact Int.mul_nonneg g g
    · exact Int.mul_nonneg_of_nonpos_of_nonpos g g
  have key : ∀ z : Int, 0 ≤ z → z * z ≤ q * q + q → z ≤ q := by
    intro z hz hh
    by_cases g : z ≤ q
    · exact g
    · exfalso
      have : (q + 1) * (q + 1) ≤ z * z := Int.mul_le_mul (by omega) (by omega) (by omega) hz
      have e1 : (q + 1) * (q + 1) = q * q + q + q + 1 := by rw [Int.add_mul, Int.mul_add]; omega
      omega
  rw [h1, h2] at h
  constructor
  · by_cases g : 0 ≤ d
    · omega
    · have := key (-d) (by omega) (by rw [Int.neg_mul_neg]; omega)
      omega
  · by_cases g : 0 ≤ d
    · exact key d g (by omega)
    · omega
theorem cov_box {s : Sh} {r : R} {x y : Int} (rad : ∀ a b q, s = .circ a b q → 0 ≤ q) (h : IsBox s r) (c : cov s x y = true) : has r x y = true := by
  cases s with
  | rect a b u v =>
    have e : r = ⟨a, b, u, v⟩ := h
    rw [e]
    exact c
  | line a b u v =>
    have c' : onl (a, b) (u, v) x y = true := c
    unfold onl at c'
    exact bb_has (L := [(a, b), (u, v)]) h (by simp) (by simp) (Bool.and_eq_true_iff.mp c').1
  | poly p ps =>
    have c' : pol p ps x y = true := c
    unfold pol at c'
    by_cases e : ps = []
    · rw [if_pos e, decide_eq_true_eq] at c'
      subst e
      exact bb_has (L := [p]) (p := p) (q := p) h (by simp) (by simp) (by subst c'; simp [between])
    · rw [if_neg e] at c'
      obtain ⟨a, b, ha, hb, z⟩ := chain_in _ _ _ c'
      exact bb_has (L := p :: ps) h ha hb z
  | circ a b q =>
    have e : r = ⟨a - q, b - q, 2 * q + 1, 2 * q + 1⟩ := h
    have hq := rad a b q rfl
    have c' : decide ((x - a) ^ 2 + (y - b) ^ 2 ≤ q * q + q) = true := c
    have c2 := of_decide_eq_true c'
    have h1 := sq_le hq c2
    have h2 := sq_le hq (by rw [Int.add_comm]; exact c2)
    subst e
    simp only [has, Bool.and_eq_true, decide_eq_true_eq]
    omega
  | tS a b l =>
    have e : r = ⟨a, b, tw l, 7⟩ := h
    have c' := inkT_in (show inkT l (x - a) (y - b) = true from c)
    subst e
    simp only [has, Bool.and_eq_true, decide_eq_true_eq]
    omega
  | tM a b l =>
    have e : r = ⟨a - tw l / 2, b, tw l, 7⟩ := h
    have c' := inkT_in (show inkT l (x - (a - tw l / 2)) (y - b) = true from c)
    subst e
    simp only [has, Bool.and_eq_true, decide_eq_true_eq]
    omega
  | tE a b l =>
    have e : r = ⟨a - tw l, b, tw l, 7⟩ := h
    have c' := inkT_in (show inkT l (x - (a - tw l)) (y - b) = true from c)
    subst e
    simp only [has, Bool.and_eq_true, decide_eq_true_eq]
    omega
end Cs

set_option maxRecDepth 100000
set_option maxHeartbeats 1000000
/-! a shape's points, moved -/
namespace Cs
open PySem PySem.Spec PyProof.Rows L2
section
variable {tp : Option (Addr × Addr)} {K : PySem.W.Frag} {H H' H0 H1 He Hq : Hp} {ρ : Ro} {σ : L2.St}
theorem mv_pts {s t : Sh} (h1 : s.name = t.name) (h2 : s.pts = t.pts) (dx dy : Int) : (s.mv dx dy).pts = (t.mv dx dy).pts := by
  cases s <;> cases t <;> first
    | (exfalso; revert h1; simp only [Sh.name]; decide +kernel)
    | (simp only [Sh.pts, List.cons.injEq, and_true] at h2; simp only [Sh.mv, Sh.pts]; simp_all; done)
    | (simp only [Sh.pts] at h2; have := flat_inj h2; simp only [Sh.mv, Sh.pts]; simp_all; done)
open Classical in
noncomputable def F_law_shifted : List C → M C
  | [.val a, .val b, .val (.int x), .val (.int y)] => if ∃ s : Sh, s.pts.length ≤ 1000 ∧ a = .str s.name ∧ b = s.pD then .any (fun d => ∃ s : Sh, a = .str s.name ∧ b = s.pD ∧ d = (s.mv x y).pD) fun d => .ret (.val d) else .fail
  | _ => .fail
theorem br_law_shifted : ∀ vs H Q E, spU K F_law_shifted vs H Q E → sp_law_shifted K vs H Q E := by
  rintro vs H Q E ⟨tp, cs, t, r, no, h⟩
  unfold F_law_shifted at h
  split at h
  · rename_i a b x y
    split at h
    · rename_i ex
      obtain ⟨s, ok, i1, i2⟩ := ex
      subst i1 i2
      cases vs with
      | nil => exact r.elim
      | cons v1 vs =>
        cases vs with
        | nil => exact r.2.elim
        | cons v2 vs =>
          obtain ⟨v4, v5, e, r4, r5⟩ := RCs.two r.2.2
          subst e
          have r1 := r.1
          have r2 := r.2.1
          cases r1.str
          cases r4.int
          cases r5.int
          refine ⟨s, v2, x, y, rfl, r2.tupI, ok, fun z H' sm hz => ?_⟩
          obtain ⟨q, rfl, hS⟩ := hz
          exact h (s.mv x y).pD ⟨s, rfl, rfl, rfl⟩ _ H' (GrT.of sm) (t.same sm) ⟨.tup hS (dp_ints _), lf_ints _⟩
    · exact h.elim
  · exact h.elim
theorem shifted_wp {s : Sh} {x y : Int} (ok : s.pts.length ≤ 1000) {α : Type} {k : C → M α} {Q : α → Prop} (q : wp (k (.val (s.mv x y).pD)) Q) : wp ((F_law_shifted [.val (.str s.name), .val s.pD, .val (.int x), .val (.int y)]).bind k) Q := by
  unfold F_law_shifted
  dsimp only
  rw [if_pos ⟨s, ok, rfl, rfl⟩, anyB, wp_anyE]
  rintro d ⟨s', e1, e2, rfl⟩
  have h : (s'.mv x y).pts = (s.mv x y).pts := mv_pts (PyData.str.inj e1).symm (map_int_inj (PyData.tuple.inj e2)).symm x y
  unfold Sh.pD at q ⊢
  rw [h]
  exact q
end
end Cs

set_option maxRecDepth 100000
set_option maxHeartbeats 800000

namespace Cs
open PySem PySem.Spec PyProof.Rows L2
local macro_rules | `(tactic| walk_at "sets") => `(tactic| (repeat (first | exact set_0 | apply set_s)))
local macro_rules | `(tactic| walk_at "sts") => `(tactic| (repeat (first | exact rep_0 | apply rep_s | apply app_cons | apply app_nil)))
local macro_rules | `(tactic| walk_at "sql") => `(tactic| first
  | exact SqL.of (by assumption)
  | exact SqL.of upd_same
  | assumption)
local macro_rules | `(tactic| walk_at "sqt") => `(tactic| first
  | exact SqT.of (by assumption)
  | exact SqT.of upd_same
  | assumption)
local macro_rules | `(tactic| walk_at "rd1") => `(tactic| first
  | ((with_reducible show gName _ _ _ _ _); refine gset (by walk_at "sets") ?_)
  | refine ⟨_, rfl, ?_⟩
  | refine ⟨rfl, ?_⟩
  | refine ⟨_, _, rfl, rfl, (show CMul _ _ from Or.inr ⟨by decide, by decide⟩), ?_⟩
  | refine ⟨_, _, rfl, rfl, (show CMul _ _ from Or.inl ⟨by decide, by decide⟩), ?_⟩
  | refine ⟨_, _, rfl, rfl, (show (0 : Int) < _ by first | decide | omega), ?_⟩
  | refine ⟨_, _, rfl, rfl, (show CDiv _ _ from ⟨by omega, by omega⟩), ?_⟩
  | refine ⟨_, _, rfl, rfl, (show CPow _ _ from ⟨by decide, by decide, by decide⟩), ?_⟩
  | refine ⟨_, _, rfl, rfl, ?_⟩
  | refine ⟨_, _, _, _, rfl, rfl, (show SqL _ _ _ _ by walk_at "sql"), rfl, ?_⟩
  | refine ⟨_, _, _, _, rfl, rfl, (show SqT _ _ _ _ by walk_at "sqt"), rfl, ?_⟩
  | refine ⟨_, _, _, _, rfl, rfl, (by assumption), rfl, ?_⟩
  | refine ⟨_, _, _, _, rfl, rfl, upd_same, rfl, ?_⟩
  | refine ⟨_, _, rfl, (show LenV _ _ _ _ from Or.inl ⟨_, (by walk_at "sql"), rfl⟩), ?_⟩
  | refine ⟨_, _, rfl, (show LenV _ _ _ _ from Or.inr ⟨_, (by walk_at "sqt"), rfl⟩), ?_⟩
  | refine ⟨_, (show TruV _ _ _ _ from Or.inl ⟨_, (by walk_at "sql"), rfl⟩), ?_⟩
  | refine ⟨_, (show TruV _ _ _ _ from Or.inr (Or.inl ⟨_, (by walk_at "sqt"), rfl⟩)), ?_⟩
  | refine Or.inl ⟨_, rfl, ?_⟩
  | refine ⟨_, _, rfl, ?_⟩)

local macro_rules | `(tactic| walk_at "pe") => `(tactic| simp (config := {maxSteps := 2000000}) only [bind_bind, bindR, retB, failB, anyB, iteB, wp_retE, wp_failE,
  ↓kSeq_nx, ↓kSeq_rt, ↓kSeq_bk, ↓kSeq_ct, ↓mNext_eq, ↓mBreak_eq, ↓mCont_eq, ↓mDrop_eq, ↓mRet_eq, ↓mRetN_eq, ↓mAsg_eq, ↓mIf_eq, ↓gVar_eq, gAt_v, gAt_o, gAt_b, gAt_t, ↓mRetV_eq, rAt_s, ↓asgR_eq, aAt_v, aAt_o,
  get_0, get_s, set_0', set_s', List.getElem?_cons_zero, List.getElem?_cons_succ, List.set_cons_zero, List.set_cons_succ, ↓aNil_eq, ↓aCons_eq, ↓aTup_eq, ↓mPar_eq, ↓kPar_v, ↓gC_eq, ↓gaNil_eq, ↓gaCons_eq, ↓gTupE_eq, ↓gLst_eq, ↓gOp_eq, ↓gUn_eq, ↓gCall_eq, ↓gFn_eq, map_nilC, map_consC, lend_v, lend_o, lend_b, lend_t,
  ↓gTru_eq, ↓gTest_eq, oBl_b, oTru_v, oTru_o, oTru_b, truD_n, truD_b, truD_i, truD_t, mAnd_r, mOr_r, mAnd_t, mAnd_f, mOr_t, mOr_f, ↓gAnd_eq, ↓gOr_eq, ↓gNot_eq, mAndC_r, mAndC_f, mOrC_r, ↓gAndT_eq, ↓gOrT_eq, ↓gNotT_eq, ↓gIfE_eq, ↓gChain_eq, ↓gNo_eq, ↓gSome_eq, oInt?_i, ↓gSl_eq, oSl_t, oSl_b, ↓gSl2_eq, kSl2_t,
  ↓gIt_eq, ↓gItV_eq, kItV_v, kItV_b, kItV_o, itV_t, itV_s, itV_b, itV_o, itD_t, itD_s, itD_o, ↓gItR1_eq, ↓gItR2_eq, itR1_i, itR2_i, ↓gLc_eq, wipe_n, wipe_c, ↓gYes_eq, ↓gR1_eq, kR1_i, ↓gR2_eq, kR2_i, ↓gLstRg_eq, ↓gTupRg_eq, ↓mFor_eq, ↓mForV_eq, kForV_o, kForV_b, kForV_t, kForV_s, ↓mApp_eq, appAt_o, kApp_v,
  ↓fnU_eq, rp_0, rp_s, ap_n, ap_c, ms_n, ms_c, out_rt, out_nx, oAdd_i, oAdd_s, oAdd_t, oAdd_oo, oAdd_bo, oAdd_bb, oAdd_ob, oInt_v, oMul_i, oNeg_i, oEq_i, oNe_i, oEq_b, oNe_b, oEq_s, oNe_s, oIx_t, oIx_s, oIx_o, oIx_b, atD_0, atD_1, atD_2, atD_3, atD_4, atD_5, atD_6, atD_7, atD_8, datas_n, datas_v, mp_some, oTup_eq, oLst_eq, kTup_s, kLst_s, len_n, len_c,
  o1_v, o1_o, o1_b, lenD_t, lenD_l, lenD_s, absD_i, intD_i, intD_b, oMax2_i, oMin2_i, oGcd_i, oListC_t, oListC_o, oListC_b, oTupC_t, oTupC_o, oTupC_b, isi_bi, isi_ii, isi_ib, isi_bb, isi_ni, isi_ss, isi_nb, oIsi_v, tyD_b, tyD_i, tyD_s, tyD_n, oIsX_n, oIsX_b, isN_n, isN_i, isN_b, isN_s, isN_t,
  lenOk, decide_eq_true_eq, Nat.reduceAdd, Nat.reduceLeDiff, Nat.reduceEqDiff, Bool.false_xor, Bool.true_xor, Bool.not_false, Bool.not_true, Bool.false_eq_true, if_true, if_false, reduceIte, ↓reduceIte, decide_true, decide_false, List.length_cons, List.length_nil])
local macro_rules | `(tactic| walk_at "pl") => `(tactic| simp (config := {maxSteps := 2000000}) only [bind_bind, bindR, retB, failB, anyB, iteB, wp_retE, wp_failE,
  ↓mSeq_eq, ↓kSeq_nx, ↓kSeq_rt, ↓kSeq_bk, ↓kSeq_ct, ↓mNext_eq, ↓mBreak_eq, ↓mCont_eq, ↓mDrop_eq, ↓mRet_eq, ↓mRetN_eq, ↓mAsg_eq, ↓mIf_eq, ↓gVar_eq, gAt_v, gAt_o, gAt_b, gAt_t, ↓mRetV_eq, rAt_s, ↓asgR_eq, aAt_v, aAt_o,
  get_0, get_s, set_0', set_s', List.getElem?_cons_zero, List.getElem?_cons_succ, List.set_cons_zero, List.set_cons_succ, ↓aNil_eq, ↓aCons_eq, ↓aTup_eq, ↓mPar_eq, ↓kPar_v, ↓gC_eq, ↓gaNil_eq, ↓gaCons_eq, ↓gTupE_eq, ↓gLst_eq, ↓gOp_eq, ↓gUn_eq, ↓gCall_eq, ↓gFn_eq, map_nilC, map_consC, lend_v, lend_o, lend_b, lend_t,
  ↓gTru_eq, ↓gTest_eq, oBl_b, oTru_v, oTru_o, oTru_b, truD_n, truD_b, truD_i, truD_t, mAnd_r, mOr_r, mAnd_t, mAnd_f, mOr_t, mOr_f, ↓gAnd_eq, ↓gOr_eq, ↓gNot_eq, mAndC_r, mAndC_f, mOrC_r, ↓gAndT_eq, ↓gOrT_eq, ↓gNotT_eq, ↓gIfE_eq, ↓gChain_eq, ↓gNo_eq, ↓gSome_eq, oInt?_i, ↓gSl_eq, oSl_t, oSl_b, ↓gSl2_eq, kSl2_t,
  ↓gIt_eq, ↓gItV_eq, kItV_v, kItV_b, kItV_o, itV_t, itV_s, itV_b, itV_o, itD_t, itD_s, itD_o, ↓gItR1_eq, ↓gItR2_eq, itR1_i, itR2_i, ↓gLc_eq, wipe_n, wipe_c, ↓gYes_eq, ↓gR1_eq, kR1_i, ↓gR2_eq, kR2_i, ↓gLstRg_eq, ↓gTupRg_eq, ↓mFor_eq, ↓mForV_eq, kForV_o, kForV_b, kForV_t, kForV_s, ↓mApp_eq, appAt_o, kApp_v,
  ↓fnU_eq, rp_0, rp_s, ap_n, ap_c, ms_n, ms_c, out_rt, out_nx, oAdd_i, oAdd_s, oAdd_t, oAdd_oo, oAdd_bo, oAdd_bb, oAdd_ob, oInt_v, oMul_i, oNeg_i, oEq_i, oNe_i, oEq_b, oNe_b, oEq_s, oNe_s, oIx_t, oIx_s, oIx_o, oIx_b, atD_0, atD_1, atD_2, atD_3, atD_4, atD_5, atD_6, atD_7, atD_8, datas_n, datas_v, mp_some, oTup_eq, oLst_eq, kTup_s, kLst_s, len_n, len_c,
  o1_v, o1_o, o1_b, lenD_t, lenD_l, lenD_s, absD_i, intD_i, intD_b, oMax2_i, oMin2_i, oGcd_i, oListC_t, oListC_o, oListC_b, oTupC_t, oTupC_o, oTupC_b, isi_bi, isi_ii, isi_ib, isi_bb, isi_ni, isi_ss, isi_nb, oIsi_v, tyD_b, tyD_i, tyD_s, tyD_n, oIsX_n, oIsX_b, isN_n, isN_i, isN_b, isN_s, isN_t,
  lenOk, decide_eq_true_eq, Nat.reduceAdd, Nat.reduceLeDiff, Nat.reduceEqDiff, Bool.false_xor, Bool.true_xor, Bool.not_false, Bool.not_true, Bool.false_eq_true, if_true, if_false, reduceIte, ↓reduceIte, decide_true, decide_false, List.length_cons, List.length_nil])
local macro_rules | `(tactic| walk_at "pr") => `(tactic| ((try walk_at "pl"); try rfl))
local macro_rules | `(tactic| walk_at "wk") => `(tactic| try walk_at "pl")
local macro_rules | `(tactic| walk_at "we") => `(tactic| try walk_at "pe")

def top (i : Nat) : Stmt := PySem.Challenge.pw_chartspec_k44_reach_and_visible_part.main.body.getD i (.Pass ⟨0, 0, 0, 0⟩)
abbrev s_common : Stmt := top 1
theorem sc_common : FnScope ["first", "second", "first_left", "first_top", "first_right", "first_bottom", "second_left", "second_top", "second_right", "second_bottom", "left", "top", "right", "bottom"] ["first", "second"] (defScope s_common) := ⟨rfl, rfl, rfl, by decide +kernel, rfl, by decide +kernel, by decide +kernel⟩
abbrev s_edges : Stmt := top 2
theorem sc_edges : FnScope ["rectangle", "left", "top", "width", "height"] ["rectangle"] (defScope s_edges) := ⟨rfl, rfl, rfl, by decide +kernel, rfl, by decide +kernel, by decide +kernel⟩
abbrev s_glyph_width : Stmt := top 7
theorem sc_glyph_width : FnScope ["character"] ["character"] (defScope s_glyph_width) := ⟨rfl, rfl, rfl, by decide +kernel, rfl, by decide +kernel, by decide +kernel⟩
abbrev s_text_width : Stmt := top 8
theorem sc_text_width : FnScope ["text", "character"] ["text"] (defScope s_text_width) := ⟨rfl, rfl, rfl, by decide +kernel, rfl, by decide +kernel, by decide +kernel⟩
abbrev s_around : Stmt := top 10
theorem sc_around : FnScope ["shape", "points", "text", "x", "y", "radius"] ["shape", "points", "text"] (defScope s_around) := ⟨rfl, rfl, rfl, by decide +kernel, rfl, by decide +kernel, by decide +kernel⟩
abbrev s_around_points : Stmt := top 11
theorem sc_around_points : FnScope ["points", "columns", "lines", "left", "top"] ["points"] (defScope s_around_points) := ⟨rfl, rfl, rfl, by decide +kernel, rfl, by decide +kernel, by decide +kernel⟩
abbrev s_around_text : Stmt := top 12
theorem sc_around_text : FnScope ["shape", "points", "text", "x", "y", "width"] ["shape", "points", "text"] (defScope s_around_text) := ⟨rfl, rfl, rfl, by decide +kernel, rfl, by decide +kernel, by decide +kernel⟩
abbrev s_surrounding : Stmt := top 14
theorem sc_surrounding : FnScope ["primitive", "_", "shape", "points", "text"] ["primitive"] (defScope s_surrounding) := ⟨rfl, rfl, rfl, by decide +kernel, rfl, by decide +kernel, by decide +kernel⟩
abbrev s_reach : Stmt := top 15
theorem sc_reach : FnScope ["primitive", "box", "clip"] ["primitive"] (defScope s_reach) := ⟨rfl, rfl, rfl, by decide +kernel, rfl, by decide +kernel, by decide +kernel⟩
abbrev s_visible_part : Stmt := top 16
theorem sc_visible_part : FnScope ["scene", "primitive", "part", "width", "height", "_"] ["scene", "primitive"] (defScope s_visible_part) := ⟨rfl, rfl, rfl, by decide +kernel, rfl, by decide +kernel, by decide +kernel⟩
abbrev s_law_tape : Stmt := top 18
theorem sc_law_tape : FnScope ["script", "total", "cell"] ["script"] (defScope s_law_tape) := ⟨rfl, rfl, rfl, by decide +kernel, rfl, by decide +kernel, by decide +kernel⟩
abbrev s_law_draw : Stmt := top 19
theorem sc_law_draw : FnScope ["tape", "many", "place", "number"] ["tape", "many"] (defScope s_law_draw) := ⟨rfl, rfl, rfl, by decide +kernel, rfl, by decide +kernel, by decide +kernel⟩
abbrev s_law_inside : Stmt := top 20
theorem sc_law_inside : FnScope ["one", "area"] ["one", "area"] (defScope s_law_inside) := ⟨rfl, rfl, rfl, by decide +kernel, rfl, by decide +kernel, by decide +kernel⟩
abbrev s_law_common : Stmt := top 21
theorem sc_law_common : FnScope ["first", "second", "left", "top", "right", "low"] ["first", "second"] (defScope s_law_common) := ⟨rfl, rfl, rfl, by decide +kernel, rfl, by decide +kernel, by decide +kernel⟩
abbrev s_law_sign_width : Stmt := top 22
theorem sc_law_sign_width : FnScope ["sign"] ["sign"] (defScope s_law_sign_width) := ⟨rfl, rfl, rfl, by decide +kernel, rfl, by decide +kernel, by decide +kernel⟩
abbrev s_law_width : Stmt := top 23
theorem sc_law_width : FnScope ["text", "total", "sign"] ["text"] (defScope s_law_width) := ⟨rfl, rfl, rfl, by decide +kernel, rfl, by decide +kernel, by decide +kernel⟩
abbrev s_law_around : Stmt := top 24
theorem sc_law_around : FnScope ["shape", "points", "text", "size", "across", "k", "down", "width", "left"] ["shape", "points", "text"] (defScope s_law_around) := ⟨rfl, rfl, rfl, by decide +kernel, rfl, by decide +kernel, by decide +kernel⟩
abbrev s_law_reach : Stmt := top 25
theorem sc_law_reach : FnScope ["item", "rectangle", "clip"] ["item"] (defScope s_law_reach) := ⟨rfl, rfl, rfl, by decide +kernel, rfl, by decide +kernel, by decide +kernel⟩
abbrev s_law_visible : Stmt := top 26
theorem sc_law_visible : FnScope ["scene", "item", "part"] ["scene", "item"] (defScope s_law_visible) := ⟨rfl, rfl, rfl, by decide +kernel, rfl, by decide +kernel, by decide +kernel⟩
abbrev s_law_word : Stmt := top 27
theorem sc_law_word : FnScope ["tape", "signs", "word", "k"] ["tape"] (defScope s_law_word) := ⟨rfl, rfl, rfl, by decide +kernel, rfl, by decide +kernel, by decide +kernel⟩
abbrev s_law_color : Stmt := top 28
theorem sc_law_color : FnScope ["tape", "number", "digits", "k"] ["tape"] (defScope s_law_color) := ⟨rfl, rfl, rfl, by decide +kernel, rfl, by decide +kernel, by decide +kernel⟩
abbrev s_law_form : Stmt := top 29
theorem sc_law_form : FnScope ["tape", "room", "x", "y", "kind", "points", "k"] ["tape", "room"] (defScope s_law_form) := ⟨rfl, rfl, rfl, by decide +kernel, rfl, by decide +kernel, by decide +kernel⟩
abbrev s_law_clip : Stmt := top 30
theorem sc_law_clip : FnScope ["tape", "room"] ["tape", "room"] (defScope s_law_clip) := ⟨rfl, rfl, rfl, by decide +kernel, rfl, by decide +kernel, by decide +kernel⟩
abbrev s_law_shifted : Stmt := top 31
theorem sc_law_shifted : FnScope ["shape", "points", "x", "y", "shifted", "k"] ["shape", "points", "x", "y"] (defScope s_law_shifted) := ⟨rfl, rfl, rfl, by decide +kernel, rfl, by decide +kernel, by decide +kernel⟩
abbrev s_law : Stmt := top 32
theorem sc_law : FnScope ["script", "tape", "scene", "far", "items", "k", "form", "clip", "points", "item", "told"] ["script"] (defScope s_law) := ⟨rfl, rfl, rfl, by decide +kernel, rfl, by decide +kernel, by decide +kernel⟩
structure Blt (mg : Str → Option Value) : Prop where
  abs : mg "abs" = none
  int : mg "int" = none
  len : mg "len" = none
  list : mg "list" = none
  max : mg "max" = none
  min : mg "min" = none
  range : mg "range" = none
  repr : mg "repr" = none
  sum : mg "sum" = none
  tuple : mg "tuple" = none

section
variable {P : Program} {w : World} {K : PySem.W.Frag} {mg : Str → Option Value} {base : Heap}
theorem df_glyph_width (M : Blt mg) (A : At K mg "glyph_width" s_glyph_width) (G : Glyphs K w mg) : Df P w K mg base 1 "glyph_width" ["character"] (sp_glyph_width K) := by
  have nd := sc_glyph_width.nd
  refine Df.of A (fun _ _ _ _ _ _ us hl => match us, hl with | [_], _ => rfl) sc_glyph_width (fun vs H Q E h => ?_) (fun cdv A out f s H vs Q E hr hgd h => ?_)
  · obtain ⟨c, rfl, _⟩ := h
    rfl
  · obtain ⟨c, rfl, hc, k⟩ := h
    obtain ⟨d, es, n, hd, hD, ht⟩ := G.tab
    refine ⟨_, (pss_one (ps_ret (pe_wget (d := d) rfl hd ⟨_, _, hD⟩ (pv 0) (pe_globI rfl G.other) ⟨rfl, rfl, rfl, rfl⟩))), at_start (st_of (k := 0) rfl (by walk_at "sts")) ?_⟩
    refine ⟨_, rfl, S [c], es, n, rfl, hD, ?_⟩
    rcases ht c hc with ⟨t, e⟩ | ⟨e, e5⟩
    · exact Or.inl ⟨_, .int (gw c), e, ⟨t, rfl⟩, k⟩
    · exact Or.inr ⟨e, by rw [← e5]; exact k⟩
theorem df_text_width (M : Blt mg) (A : At K mg "text_width" s_text_width) (D_glyph_width : Df P w K mg base 1 "glyph_width" ["character"] (sp_glyph_width K)) : Df P w K mg base 2 "text_width" ["text"] (sp_text_width K) := by
  have nd := sc_text_width.nd
  refine Df.of A (fun _ _ _ _ _ _ us hl => match us, hl with | [_], _ => rfl) sc_text_width (fun vs H Q E h => ?_) (fun cdv A out f s H vs Q E hr hgd h => ?_)
  · obtain ⟨l, rfl, _⟩ := h
    rfl
  · obtain ⟨l, rfl, hw, hl, k⟩ := h
    have h16 : sizeLine = 16777216 := by decide
    refine ⟨_, (pss_cons (ps_if (pt_cmpR op_eq (pv 0) pe_str (nomark _)) (pss_one (ps_ret pe_int)) pss_nil)
      (pss_one (ps_ret (pe_op op_sub (pe_op op_add (pe_callB (sumK K rfl) (by rfl) M.sum (by decide +kernel) (pa_cons (pe_lc (own := [("character", 1)]) (g := (gName 1)) (tt := tYes) rfl nd (pi_str (pv 0)) (blkOk_by (N := ["text", "character"]) (sc := defScope s_text_width) (by decide +kernel)) (fun _ _ _ _ _ => pg_name (i := 1) nd rfl (Or.inl rfl)) (fun _ _ _ _ _ => pts_nil) (fun _ _ _ _ _ => (pe_df D_glyph_width (hr.mono (by decide)) hgd rfl (pa_cons (pv 1) pa_nil)))) pa_nil)) (pe_callB (lenK K) (by rfl) M.len (by decide +kernel) (pa_cons (pv 0) pa_nil))) pe_int)))), at_start (st_of (k := 1) rfl (by walk_at "sts")) ?_⟩
    repeat walk_at "rd1"
    refine if_str (fun e => ?_) (fun e => ?_)
    · have e0 : l = [] := S_inj (e.trans S_lit.symm)
      subst e0
      exact k H (Same.refl _)
    · have ne : l ≠ [] := fun q => e (by rw [q]; exact S_lit)
      refine ⟨_, rfl, S l, rfl, fun D hD => map_text (fun c => V.int (gw c)) (by omega) hD (fun i c hc H1 sm Q' hQ => ?_) fun H1 sm hD1 => ?_⟩
      · exact ⟨_, rfl, c, rfl, hw c (List.mem_of_getElem? hc), hQ _ (Same.refl _)⟩
      · have e1 : (l.map fun c => V.int (gw c)) = (l.map gw).map V.int := by rw [List.map_map]; rfl
        rw [e1] at hD1
        refine ⟨D, _, rfl, SqL.of hD1, _, rfl, _, _, rfl, (show LenV K (.str (S l)) H1 l.length from ⟨by rw [S_len]; omega, (S_len l).symm⟩), _, _, rfl, rfl, _, _, rfl, rfl, ?_⟩
        have e2 : tw l = (l.map gw).sum + (l.length : Int) - 1 := if_neg ne
        show Q (.int ((l.map gw).sum + (l.length : Int) - 1)) H1
        rw [← e2]
        exact k H1 sm
theorem df_law_sign_width (M : Blt mg) (A : At K mg "_law_sign_width" s_law_sign_width) : Df P w K mg base 1 "_law_sign_width" ["sign"] (sp_law_sign_width K) := by
  have nd := sc_law_sign_width.nd
  refine Df.of A (fun _ _ _ _ _ _ us hl => match us, hl with | [_], _ => rfl) sc_law_sign_width (fun vs H Q E h => ?_) (fun cdv A out f s H vs Q E hr hgd h => ?_)
  · obtain ⟨c, rfl, _⟩ := h
    rfl
  · obtain ⟨c, rfl, k⟩ := h
    refine ⟨_, (pss_cons (ps_if (pt_cmpR op_in_sign (pv 0) pe_str rfl) (pss_one (ps_ret pe_int)) pss_nil)
      (pss_cons (ps_if (pt_cmpR op_in_sign (pv 0) pe_str rfl) (pss_one (ps_ret pe_int)) pss_nil)
      (pss_cons (ps_if (pt_cmpR op_in_sign (pv 0) pe_str rfl) (pss_one (ps_ret pe_int)) pss_nil)
      (pss_cons (ps_if (pt_cmpR op_in_sign (pv 0) pe_str rfl) (pss_one (ps_ret pe_int)) pss_nil)
      (pss_one (ps_ret pe_int)))))), at_start (st_of (k := 0) rfl (by walk_at "sts")) ?_⟩
    have k' : ∀ i, gw c = i → Q (.int i) H := fun i e => by rw [← e]; exact k
    refine ⟨_, rfl, c, _, rfl, rfl, _, rfl, if_dec (fun c1 => k' _ (by simp only [gw, if_pos c1])) (fun c1 => ?_)⟩
    refine ⟨_, rfl, c, _, rfl, rfl, _, rfl, if_dec (fun c2 => k' _ (by simp only [gw, if_neg c1, if_pos c2])) (fun c2 => ?_)⟩
    refine ⟨_, rfl, c, _, rfl, rfl, _, rfl, if_dec (fun c3 => k' _ (by simp only [gw, if_neg c1, if_neg c2, if_pos c3])) (fun c3 => ?_)⟩
    refine ⟨_, rfl, c, _, rfl, rfl, _, rfl, if_dec (fun c4 => k' _ (by simp only [gw, if_neg c1, if_neg c2, if_neg c3, if_pos c4])) (fun c4 => ?_)⟩
    exact k' _ (by simp only [gw, if_neg c1, if_neg c2, if_neg c3, if_neg c4])
theorem df_law_width (M : Blt mg) (A : At K mg "_law_width" s_law_width) (D_law_sign_width : Df P w K mg base 1 "_law_sign_width" ["sign"] (sp_law_sign_width K)) : Df P w K mg base 2 "_law_width" ["text"] (sp_law_width K) := by
  have nd := sc_law_width.nd
  refine Df.of A (fun _ _ _ _ _ _ us hl => match us, hl with | [_], _ => rfl) sc_law_width (fun vs H Q E h => ?_) (fun cdv A out f s H vs Q E hr hgd h => ?_)
  · obtain ⟨l, rfl, _⟩ := h
    rfl
  · obtain ⟨l, rfl, k⟩ := h
    refine ⟨_, (pss_cons (ps_set (i := 1) nd rfl (Or.inl rfl) pe_int)
      (pss_cons (ps_for PassesOwn.never rfl (pi_str (pv 0)) (pg_name (i := 2) nd rfl (Or.inl rfl)) (pss_one (ps_set (i := 1) nd rfl (Or.inl rfl) (pe_op op_add (pe_op op_add (pv 1) pe_int) (pe_df D_law_sign_width (hr.mono (by decide)) hgd rfl (pa_cons (pv 2) pa_nil))))))
      (pss_one (ps_ret (pe_callB (call_max2 rfl) (by rfl) M.max (by decide +kernel) (pa_cons (pe_op op_sub (pv 1) pe_int) (pa_cons pe_int pa_nil))))))), at_start (st_of (k := 2) rfl (by walk_at "sts")) ?_⟩
    repeat walk_at "rd1"
    refine for_text (fun i σ H' => H' = H ∧ ∃ (v2 : Option V), σ = [some (.str (S l)), some (.int ((l.take i).map fun c => 1 + gw c).sum), v2]) ⟨rfl, _, rfl⟩ ?_ ?_
    · rintro i c σ H' hc ⟨rfl, v2, rfl⟩
      repeat walk_at "rd1"
      exact ⟨_, by rw [sum_take_map hc, ← Int.add_assoc]⟩
    · rintro σ H' ⟨rfl, v2, rfl⟩
      repeat walk_at "rd1"
      rw [List.take_length]
      show Q (.int (if 0 > (l.map fun c => 1 + gw c).sum - 1 then 0 else (l.map fun c => 1 + gw c).sum - 1)) H'
      rw [max_if, tw_law]
      exact k
theorem df_law_word (M : Blt mg) (A : At K mg "_law_word" s_law_word) (D_law_draw : Df P w K mg base 1 "_law_draw" ["tape", "many"] (sp_law_draw K)) : Df P w K mg base 2 "_law_word" ["tape"] (sp_law_word K) := by
  have nd := sc_law_word.nd
  refine Df.of A (fun _ _ _ _ _ _ us hl => match us, hl with | [_], _ => rfl) sc_law_word (fun vs H Q E h => ?_) (fun cdv A out f s H vs Q E hr hgd h => ?_)
  · obtain ⟨t, l, rfl, _⟩ := h
    rfl
  · obtain ⟨t, l, rfl, T, k⟩ := h
    refine ⟨_, (pss_cons (ps_set (i := 1) nd rfl (Or.inl rfl) pe_str)
      (pss_cons (ps_set (i := 1) nd rfl (Or.inl rfl) (pe_op op_add_str (pv 1) pe_str))
      (pss_cons (ps_set (i := 2) nd rfl (Or.inl rfl) pe_str)
      (pss_cons (ps_for PassesOwn.never rfl (pi_range1 rfl M.range (pa_cons (pe_ix (ixL K) (pe_lst (pa_cons pe_int (pa_cons pe_int (pa_cons pe_int (pa_cons pe_int (pa_cons pe_int (pa_cons pe_int pa_nil))))))) (pe_df D_law_draw (hr.mono (by decide)) hgd rfl (pa_cons (pv 0) (pa_cons pe_int pa_nil))) (fun _ _ => rfl)) pa_nil)) (pg_name (i := 3) nd rfl (Or.inl rfl)) (pss_one (ps_set (i := 2) nd rfl (Or.inl rfl) (pe_op op_add_str (pv 2) (pe_ix ix_str (pv 1) (pe_df D_law_draw (hr.mono (by decide)) hgd rfl (pa_cons (pv 0) (pa_cons pe_int pa_nil))) (fun _ _ => rfl))))))
      (pss_one (ps_ret (pv 2))))))), at_start (st_of (k := 3) rfl (by walk_at "sts")) ?_⟩
    repeat walk_at "rd1"
    refine ⟨(by decide +kernel), ?_⟩
    repeat walk_at "rd1"
    refine ⟨(show 6 ≤ sizeLine by decide), fun b hb => ?_⟩
    repeat walk_at "rd1"
    refine ⟨t, l, _, rfl, T.new hb, by decide, fun c H2 T2 a2 c1 c2 => ?_⟩
    obtain ⟨z, z1, _, z3⟩ := atI_mem (xs := [V.int 0, V.int 1, V.int 1, V.int 2, V.int 3, V.int 5]) c1 (by show c < 6; omega)
    obtain ⟨n, rfl, n0, n5⟩ : ∃ n : Int, z = V.int n ∧ 0 ≤ n ∧ n ≤ 5 := by
      simp at z3
      rcases z3 with rfl | rfl | rfl | rfl | rfl
      · exact ⟨0, rfl, by decide, by decide⟩
      · exact ⟨1, rfl, by decide, by decide⟩
      · exact ⟨2, rfl, by decide, by decide⟩
      · exact ⟨3, rfl, by decide, by decide⟩
      · exact ⟨5, rfl, by decide, by decide⟩
    have g2 : Gr t H H2 := (Gr.new hb).trans a2.gr
    refine ⟨b, _, _, _, rfl, rfl, SqL.of (a2.at_ (T.ne_t hb) upd_same), z1, n, rfl, by omega, by omega, for_range (lo := 0) (n := n.toNat) (fun i σ H' => ∃ (m : List Nat) (v3 : Option V), σ = [some (.ref t), some (.str (Str.ofString " !\"#$&'()*+,-./0123456789:;<=>?@ABCDEFGHIJKLMNOPQRSTUVWXYZ[\\]^_`" ++ Str.ofString "abcdefghijklmnopqrstuvwxyz{|}~")), some (.str (S m)), v3] ∧ TapeAt H' t l ∧ Gr t H H' ∧ Word m ∧ m.length ≤ i) ⟨[], none, by rw [S_lit]; rfl, T2, g2, Word.nil, Nat.le_refl _⟩ ?_ ?_⟩
    · rintro i σ H' hi ⟨m, v3, rfl, T', g', wm, lm⟩
      repeat walk_at "rd1"
      refine ⟨t, l, _, rfl, T', by decide, fun d H3 T3 a3 d1 d2 => ?_⟩
      obtain ⟨e, e1, _, e3⟩ := atI_mem (xs := alpha) d1 (by rw [alpha_len]; omega)
      refine ⟨_, _, e, rfl, rfl, (by decide +kernel), e1, _, _, rfl, rfl, (by rw [S_len]; show m.length + 1 ≤ sizeLine; have : sizeLine = 16777216 := (by decide); omega), ?_⟩
      have es : S m ++ (⟨#[e]⟩ : Str) = S (m ++ [e]) := S_app m [e]
      rw [es]
      exact ⟨m ++ [e], _, rfl, T3, g'.trans a3.gr, wm.app (Word.one e3), by rw [List.length_append]; show _ + 1 ≤ _; omega⟩
    · rintro σ H' ⟨m, v3, rfl, T', g', wm, lm⟩
      exact ⟨_, rfl, k m H' T' g' wm (by omega)⟩
end

section
variable {P : Program} {w : World} {K : PySem.W.Frag} {mg : Str → Option Value} {base : Heap}
theorem df_law_tape (M : Blt mg) (A : At K mg "_law_tape" s_law_tape) : Df P w K mg base 1 "_law_tape" ["script"] (sp_law_tape K) := by
  have nd := sc_law_tape.nd
  refine Df.of A (fun _ _ _ _ _ _ us hl => match us, hl with | [_], _ => rfl) sc_law_tape (fun vs H Q E h => ?_) (fun cdv A out f s H vs Q E hr hgd h => ?_)
  · obtain ⟨a, ns, rfl, _⟩ := h
    rfl
  · obtain ⟨a, ns, rfl, hS, hl, k⟩ := h
    refine ⟨_, (pss_cons (ps_set (i := 1) nd rfl (Or.inl rfl) pe_int)
      (pss_cons (ps_for PassesOwn.never rfl (pi_list (pv 0)) (pg_name (i := 2) nd rfl (Or.inl rfl)) (pss_one (ps_set (i := 1) nd rfl (Or.inl rfl) (pe_op op_mod (pe_callTy call_int1 (by rfl) M.int (by decide +kernel) (pa_cons (pe_op op_add (pe_op op_mul (pv 1) pe_int) (pe_callB call_abs (by rfl) M.abs (by decide +kernel) (pa_cons (pe_callTy call_int1 (by rfl) M.int (by decide +kernel) (pa_cons (pv 2) pa_nil)) pa_nil))) pa_nil)) pe_int))))
      (pss_one (ps_ret (pe_lst (pa_cons (pe_callTy (listK K) (by rfl) M.list (by decide +kernel) (pa_cons (pv 0) pa_nil)) (pa_cons pe_int (pa_cons pe_int (pa_cons (pv 1) pa_nil))))))))), at_start (st_of (k := 2) rfl (by walk_at "sts")) ?_⟩
    refine ⟨_, rfl, a, rfl, ⟨_, hS⟩, for_list (K := K) (a := a) (xs := ns.map V.int) (fun i σ H2 => H2 = H ∧ ∃ (z : Int) (v : Option V), σ = [some (.ref a), some (.int z), v] ∧ 0 ≤ z) ⟨rfl, 7, none, rfl, by decide⟩ (fun i σ H2 _ e => by rw [e.1]; exact hS) ?_ ?_⟩
    · rintro i y σ H2 hi ⟨rfl, z, v, rfl, hz⟩
      obtain ⟨n, rfl⟩ := int_at hi
      repeat walk_at "rd1"
      exact Int.emod_nonneg _ (by decide)
    · rintro σ H2 ⟨rfl, z, v, rfl, hz⟩
      refine ⟨_, rfl, a, _, rfl, Or.inl hS, fun l hl => ?_⟩
      repeat walk_at "rd1"
      refine ⟨(by show 4 ≤ sizeLine; decide), fun t ht => ?_⟩
      have nlt : l ≠ t := ne_of_none upd_same ht
      refine k t l _ (fun b o e => ?_) ⟨⟨ns, 0, 0, z, upd_same, by rw [upd_ne nlt]; exact upd_same, by decide, by decide, hz⟩, nlt⟩ ((Same.new hl).free ht) hl
      rw [upd_ne (ne_of_none (Same.new hl _ _ e) ht), upd_ne (ne_of_none e hl)]
      exact e
theorem df_law_draw (M : Blt mg) (A : At K mg "_law_draw" s_law_draw) : Df P w K mg base 1 "_law_draw" ["tape", "many"] (sp_law_draw K) := by
  have nd := sc_law_draw.nd
  refine Df.of A (fun _ _ _ _ _ _ us hl => match us, hl with | [_, _], _ => rfl) sc_law_draw (fun vs H Q E h => ?_) (fun cdv A out f s H vs Q E hr hgd h => ?_)
  · obtain ⟨t, l, m, rfl, _⟩ := h
    rfl
  · obtain ⟨t, l, m, rfl, T, hm, k⟩ := h
    obtain ⟨⟨ns, p, r, s, h1, h2, p0, r0, s0⟩, nlt⟩ := id T
    refine ⟨_, (pss_cons (ps_if (pt_cmpR op_eq (pe_ix (ixL K) (pv 0) pe_int (fun _ _ => rfl)) pe_int (nomark _)) (pss_cons (ps_set (i := 2) nd rfl (Or.inl rfl) (pe_ix (ixL K) (pv 0) pe_int (fun _ _ => rfl)))
      (pss_cons (ps_set (i := 3) nd rfl (Or.inl rfl) pe_int)
      (pss_cons (ps_if (pt_cmpR op_lt (pv 2) (pe_callB (lenK K) (by rfl) M.len (by decide +kernel) (pa_cons (pe_ix (ixL K) (pv 0) pe_int (fun _ _ => rfl)) pa_nil)) (nomark _)) (pss_one (ps_set (i := 3) nd rfl (Or.inl rfl) (pe_callB call_abs (by rfl) M.abs (by decide +kernel) (pa_cons (pe_callTy call_int1 (by rfl) M.int (by decide +kernel) (pa_cons (pe_ix (ixL K) (pe_ix (ixL K) (pv 0) pe_int (fun _ _ => rfl)) (pv 2) (fun _ _ => rfl)) pa_nil)) pa_nil)))) (pss_cons (ps_asg (pe_op op_mod (pe_callTy call_int1 (by rfl) M.int (by decide +kernel) (pa_cons (pe_op op_add (pe_op op_add (pe_op op_mul (pe_ix (ixL K) (pv 0) pe_int (fun _ _ => rfl)) pe_int) (pv 2)) pe_int) pa_nil)) pe_int) (pg_sub (pv 0) pe_int set_list))
      (pss_one (ps_set (i := 3) nd rfl (Or.inl rfl) (pe_ix (ixL K) (pv 0) pe_int (fun _ _ => rfl))))))
      (pss_cons (ps_asg (pe_op op_add (pv 2) pe_int) (pg_sub (pv 0) pe_int set_list))
      (pss_cons (ps_if (pt_cmpR op_lt (pv 3) (pe_op op_pow pe_int pe_int) (nomark _)) (pss_cons (ps_set (i := 3) nd rfl (Or.inl rfl) (pe_op op_mod (pe_callTy call_int1 (by rfl) M.int (by decide +kernel) (pa_cons (pe_op op_add (pe_op op_add (pe_op op_mul (pv 3) pe_int) (pe_op op_mul (pv 2) pe_int)) pe_int) pa_nil)) pe_int))
      (pss_cons (ps_set (i := 3) nd rfl (Or.inl rfl) (pe_op op_mod (pe_callTy call_int1 (by rfl) M.int (by decide +kernel) (pa_cons (pe_op op_mul (pv 3) pe_int) pa_nil)) pe_int))
      (pss_one (ps_ret (pe_op op_mod (pe_callTy call_int1 (by rfl) M.int (by decide +kernel) (pa_cons (pv 3) pa_nil)) (pe_callB (call_max2 rfl) (by rfl) M.max (by decide +kernel) (pa_cons (pv 1) (pa_cons pe_int pa_nil)))))))) pss_nil)
      (pss_one (ps_asg (pv 3) (pg_sub (pv 0) pe_int set_list)))))))) pss_nil)
      (pss_cons (ps_set (i := 3) nd rfl (Or.inl rfl) (pe_ix (ixL K) (pv 0) pe_int (fun _ _ => rfl)))
      (pss_cons (ps_asg (pe_op op_fdiv (pv 3) (pe_callB (call_max2 rfl) (by rfl) M.max (by decide +kernel) (pa_cons (pv 1) (pa_cons pe_int pa_nil)))) (pg_sub (pv 0) pe_int set_list))
      (pss_one (ps_ret (pe_op op_mod (pe_callTy call_int1 (by rfl) M.int (by decide +kernel) (pa_cons (pv 3) pa_nil)) (pe_callB (call_max2 rfl) (by rfl) M.max (by decide +kernel) (pa_cons (pv 1) (pa_cons pe_int pa_nil))))))))), at_start (st_of (k := 2) rfl (by walk_at "sts")) ?_⟩
    have fin : ∀ (n : Int) (H1 : Hp) (p' r' s' : Int), H1 t = some (.lst [.ref l, .int p', .int r', .int s']) → Al t H H1 → 0 ≤ p' → 0 ≤ r' → 0 ≤ s' → Q (.int (n % (if (1 : Int) > m then (1 : Int) else m))) H1 := by
      intro n H1 p' r' s' e1 a1 hp hr' hs
      rw [max_one]
      refine k _ H1 ⟨⟨ns, p', r', s', e1, by rw [a1 l nlt]; exact h2, hp, hr', hs⟩, nlt⟩ a1 (Int.emod_nonneg _ (by omega)) (Int.emod_lt_of_pos _ (by omega))
    repeat walk_at "rd1"
    refine if_int (fun hr0 => ?_) (fun hr0 => ?_)
    · subst hr0
      repeat walk_at "rd1"
      refine if_dec (fun hpl => ?_) (fun hpl => ?_)
      · rw [List.length_map] at hpl
        obtain ⟨n, hn⟩ := at_int p0 hpl
        refine ⟨_, rfl, _, _, _, _, rfl, rfl, SqL.of h1, rfl, _, rfl, _, _, _, _, rfl, rfl, SqL.of h2, hn, ?_⟩
        repeat walk_at "rd1"
        refine if_dec (fun h18 => ?_) (fun h18 => ?_)
        · repeat walk_at "rd1"
          exact fin _ _ (p + 1) 0 s upd_same Al.upd (by omega) (by decide) s0
        · repeat walk_at "rd1"
          exact fin _ _ (p + 1) _ s upd_same ((Al.upd.trans Al.upd).trans Al.upd) (by omega) (Int.ediv_nonneg (by split <;> omega) (by split <;> omega)) s0
      · repeat walk_at "rd1"
        refine if_dec (fun h18 => ?_) (fun h18 => ?_)
        · repeat walk_at "rd1"
          exact fin _ _ (p + 1) 0 _ upd_same (Al.upd.trans Al.upd) (by omega) (by decide) (Int.emod_nonneg _ (by decide))
        · repeat walk_at "rd1"
          exact fin _ _ (p + 1) _ _ upd_same (((Al.upd.trans Al.upd).trans Al.upd).trans Al.upd) (by omega) (Int.ediv_nonneg (Int.emod_nonneg _ (by decide)) (by split <;> omega)) (Int.emod_nonneg _ (by decide))
    · repeat walk_at "rd1"
      exact fin _ _ p _ s upd_same Al.upd p0 (Int.ediv_nonneg r0 (by split <;> omega)) s0
end

section
variable {P : Program} {w : World} {K : PySem.W.Frag} {mg : Str → Option Value} {base : Heap}
end

section
variable {P : Program} {w : World} {K : PySem.W.Frag} {mg : Str → Option Value} {base : Heap}
theorem df_around_points (M : Blt mg) (A : At K mg "around_points" s_around_points) : Df P w K mg base 1 "around_points" ["points"] (sp_around_points K) := by
  have nd := sc_around_points.nd
  refine Df.of A (fun _ _ _ _ _ _ us hl => match us, hl with | [_], _ => rfl) sc_around_points (fun vs H Q E h => ?_) (fun cdv A out f s H vs Q E hr hgd h => ?_)
  · obtain ⟨v, ps, rfl, _⟩ := h
    rfl
  · obtain ⟨_, ps, rfl, ⟨a, rfl, hS⟩, ne, hl, k⟩ := h
    have h16 : sizeLine = 16777216 := by decide
    refine ⟨_, (pss_cons (par2 (ps_par (i := 1) (j := 2) (by rfl) nd rfl rfl (by decide) rfl rfl (pa_cons (pe_sl2 K (pv 0) po_none) (pa_cons (pe_sl2 K (pv 0) (po_some pe_int)) pa_nil)) (by rfl)))
      (pss_cons (par2 (ps_par (i := 3) (j := 4) (by rfl) nd rfl rfl (by decide) rfl rfl (pa_cons (pe_callB (minT K rfl) (by rfl) M.min (by decide +kernel) (pa_cons (pv 1) pa_nil)) (pa_cons (pe_callB (minT K rfl) (by rfl) M.min (by decide +kernel) (pa_cons (pv 2) pa_nil)) pa_nil)) (by rfl)))
      (pss_one (ps_ret (pe_tup (pa_cons (pv 3) (pa_cons (pv 4) (pa_cons (pe_op op_add (pe_op op_sub (pe_callB (maxT K rfl) (by rfl) M.max (by decide +kernel) (pa_cons (pv 1) pa_nil)) (pv 3)) pe_int) (pa_cons (pe_op op_add (pe_op op_sub (pe_callB (maxT K rfl) (by rfl) M.max (by decide +kernel) (pa_cons (pv 2) pa_nil)) (pv 4)) pe_int) pa_nil))))))))), at_start (st_of (k := 4) rfl (by walk_at "sts")) ?_⟩
    have e1 : ev ((iv (flat ps)).drop 0) = (ps.map (·.1)).map V.int := by rw [List.drop_zero, iv, ev_map, flat_ev]
    have e2 : ev ((iv (flat ps)).drop (HT.sIx (iv (flat ps)).length 0 (some 1))) = (ps.map (·.2)).map V.int := by
      have : HT.sIx (iv (flat ps)).length 0 (some ((1 : Nat) : Int)) = 1 := by
        rw [HT.sIx_nat]
        have := List.length_pos_iff.mpr ne
        have : (iv (flat ps)).length = 2 * ps.length := by rw [iv, List.length_map, flat_len]
        omega
      rw [show (1 : Int) = ((1 : Nat) : Int) from rfl, this, iv, ← List.map_drop, ev_map, flat_od]
    refine ⟨_, rfl, a, _, rfl, hS, fun p hp => ?_⟩
    rw [HT.sIx_none, e1]
    refine ⟨_, rfl, _, rfl, a, _, rfl, (Im.new hp).sqT hS, fun q hq => ⟨_, _, rfl, ?_⟩⟩
    rw [e2]
    have im : Same H (upd (upd H p (.tup ((ps.map (·.1)).map V.int))) q (.tup ((ps.map (·.2)).map V.int))) := (Same.new hp).trans (Same.new hq)
    have npq : p ≠ q := ne_of_none upd_same hq
    have c1 : (upd (upd H p (.tup ((ps.map (·.1)).map V.int))) q (.tup ((ps.map (·.2)).map V.int))) p = some (.tup ((ps.map (·.1)).map V.int)) := by rw [upd_ne npq]; exact upd_same
    have c2 : (upd (upd H p (.tup ((ps.map (·.1)).map V.int))) q (.tup ((ps.map (·.2)).map V.int))) q = some (.tup ((ps.map (·.2)).map V.int)) := upd_same
    generalize (upd (upd H p (.tup ((ps.map (·.1)).map V.int))) q (.tup ((ps.map (·.2)).map V.int))) = H1 at *
    repeat walk_at "rd1"
    have lp : 0 < (ps.map (·.1)).length := by rw [List.length_map]; exact List.length_pos_iff.mpr ne
    have lq : 0 < (ps.map (·.2)).length := by rw [List.length_map]; exact List.length_pos_iff.mpr ne
    refine ⟨p, _, rfl, SqT.of c1, lp, fun L h1 h1' => ?_⟩
    repeat walk_at "rd1"
    refine ⟨q, _, rfl, SqT.of c2, lq, fun T h2 h2' => ?_⟩
    repeat walk_at "rd1"
    refine ⟨p, _, rfl, SqT.of c1, lp, fun Rt h3 h3' => ?_⟩
    repeat walk_at "rd1"
    refine ⟨q, _, rfl, SqT.of c2, lq, fun B h4 h4' => ?_⟩
    repeat walk_at "rd1"
    exact ⟨(show 4 ≤ sizeLine by decide), fun r hr => k _ _ _ (im.trans (Same.new hr)) (bb_of h1 h1' h2 h2' h3 h3' h4 h4') ⟨_, rfl, SqT.of upd_same⟩⟩
theorem df_around_text (M : Blt mg) (A : At K mg "around_text" s_around_text) (G : Glyphs K w mg) (D_text_width : Df P w K mg base 2 "text_width" ["text"] (sp_text_width K)) : Df P w K mg base 3 "around_text" ["shape", "points", "text"] (sp_around_text K) := by
  have nd := sc_around_text.nd
  refine Df.of A (fun _ _ _ _ _ _ us hl => match us, hl with | [_, _, _], _ => rfl) sc_around_text (fun vs H Q E h => ?_) (fun cdv A out f s H vs Q E hr hgd h => ?_)
  · obtain ⟨s, v, rfl, _⟩ := h
    rfl
  · obtain ⟨s, v, rfl, ⟨a, rfl, hS⟩, ok, hs, k⟩ := h
    have h16 : sizeLine = 16777216 := by decide
    refine ⟨_, (pss_cons (ps_asg (pv 1) (pg_tup rfl (pgs_cons (pg_name (i := 3) nd rfl (Or.inl rfl)) (pgs_cons (pg_name (i := 4) nd rfl (Or.inl rfl)) pgs_nil))))
      (pss_cons (ps_set (i := 5) nd rfl (Or.inl rfl) (pe_df D_text_width (hr.mono (by decide)) hgd rfl (pa_cons (pv 2) pa_nil)))
      (C8.pss_cut (ps_if (pt_cmpR op_eq (pv 0) pe_str (nomark _)) (pss_one (ps_set (i := 3) nd rfl (Or.inl rfl) (pe_op op_sub (pv 3) (pe_op op_fdiv (pv 5) pe_int)))) (pss_one (ps_if (pt_cmpR op_eq (pv 0) pe_str (nomark _)) (pss_one (ps_set (i := 3) nd rfl (Or.inl rfl) (pe_op op_sub (pv 3) (pv 5)))) pss_nil)))
      (pss_one (ps_ret (pe_tup (pa_cons (pv 3) (pa_cons (pv 4) (pa_cons (pv 5) (pa_cons (pe_globI rfl G.height) pa_nil)))))))))), at_start (st_of (k := 3) rfl (by walk_at "sts")) ?_⟩
    have tl := ok.tlen
    obtain ⟨x, y, l, hs⟩ := hs
    have ep : s.pts = [x, y] ∧ s.txt = l := by rcases hs with rfl | rfl | rfl <;> exact ⟨rfl, rfl⟩
    rw [ep.1] at hS
    refine ⟨_, rfl, a, _, rfl, hS, rfl, ?_⟩
    repeat walk_at "rd1"
    refine ⟨ok.word, (by omega), fun H1 s1 => ?_⟩
    repeat walk_at "rd1"
    rw [ep.2]
    refine ⟨fun σ H' => ∃ z, σ = [some (.str s.name), some (.ref a), some (.str (S s.txt)), some (.int z), some (.int y), some (.int (tw l))] ∧ H' = H1 ∧ IsBox s ⟨z, y, tw l, 7⟩, ?_, ?_⟩
    · repeat walk_at "rd1"
      refine if_str (fun e => ?_) (fun e => ?_)
      · have e' := nm5.mp e
        rcases hs with rfl | rfl | rfl
        · simp [Sh.tag] at e'
        · repeat walk_at "rd1"
          exact rfl
        · simp [Sh.tag] at e'
      · repeat walk_at "rd1"
        refine if_str (fun e2 => ?_) (fun e2 => ?_)
        · have e' := nm6.mp e2
          rcases hs with rfl | rfl | rfl
          · simp [Sh.tag] at e'
          · simp [Sh.tag] at e'
          · repeat walk_at "rd1"
            exact rfl
        · rcases hs with rfl | rfl | rfl
          · exact ⟨_, rfl, rfl, rfl⟩
          · exact absurd (nm5.mpr rfl) e
          · exact absurd (nm6.mpr rfl) e2
    · rintro σ H2 ⟨z, rfl, rfl, hb⟩
      repeat walk_at "rd1"
      exact ⟨(show 4 ≤ sizeLine by decide), fun r hr => k _ _ _ (s1.trans (Same.new hr)) hb ⟨_, rfl, SqT.of upd_same⟩⟩
theorem df_around (M : Blt mg) (A : At K mg "around" s_around) (G : Glyphs K w mg) (D_around_text : Df P w K mg base 3 "around_text" ["shape", "points", "text"] (sp_around_text K)) (D_around_points : Df P w K mg base 1 "around_points" ["points"] (sp_around_points K)) : Df P w K mg base 4 "around" ["shape", "points", "text"] (sp_around K) := by
  have nd := sc_around.nd
  refine Df.of A (fun _ _ _ _ _ _ us hl => match us, hl with | [_, _, _], _ => rfl) sc_around (fun vs H Q E h => ?_) (fun cdv A out f s H vs Q E hr hgd h => ?_)
  · obtain ⟨s, v, rfl, _⟩ := h
    rfl
  · obtain ⟨s, v, rfl, ⟨a, rfl, hS⟩, ok, k⟩ := h
    refine ⟨_, (pss_cons (ps_if (pt_cmpR op_eq (pv 0) pe_str (nomark _)) (pss_one (ps_ret (pv 1))) pss_nil)
      (pss_cons (ps_if (pt_cmpR (inK K) (pv 0) (pe_tup (pa_cons pe_str (pa_cons pe_str pa_nil))) rfl) (pss_one (ps_ret (pe_df D_around_points (hr.mono (by decide)) hgd rfl (pa_cons (pv 1) pa_nil)))) pss_nil)
      (pss_cons (ps_if (pt_cmpR op_eq (pv 0) pe_str (nomark _)) (pss_cons (ps_asg (pv 1) (pg_tup rfl (pgs_cons (pg_name (i := 3) nd rfl (Or.inl rfl)) (pgs_cons (pg_name (i := 4) nd rfl (Or.inl rfl)) (pgs_cons (pg_name (i := 5) nd rfl (Or.inl rfl)) pgs_nil)))))
      (pss_one (ps_ret (pe_tup (pa_cons (pe_op op_sub (pv 3) (pv 5)) (pa_cons (pe_op op_sub (pv 4) (pv 5)) (pa_cons (pe_op op_add (pe_op op_mul pe_int (pv 5)) pe_int) (pa_cons (pe_op op_add (pe_op op_mul pe_int (pv 5)) pe_int) pa_nil)))))))) pss_nil)
      (pss_one (ps_ret (pe_df D_around_text (hr.mono (by decide)) hgd rfl (pa_cons (pv 0) (pa_cons (pv 1) (pa_cons (pv 2) pa_nil))))))))), at_start (st_of (k := 3) rfl (by walk_at "sts")) ?_⟩
    repeat walk_at "rd1"
    refine if_str (fun e => ?_) (fun e0 => ?_)
    · have e' := nm0.mp e
      cases s <;> first | (simp [Sh.tag] at e'; done) | skip
      repeat walk_at "rd1"
      exact k _ _ _ (Same.refl _) rfl ⟨_, rfl, hS⟩
    repeat walk_at "rd1"
    refine ⟨(show 2 ≤ sizeLine by decide), fun p hp => ?_⟩
    have hS1 := (Im.new (o := .tup [V.str (Str.ofString "line"), V.str (Str.ofString "polyline")]) hp).sqT hS
    refine ⟨p, _, rfl, Or.inr (SqT.of upd_same), rfl, rfl, _, rfl, ?_⟩
    have sm1 : Same H (upd H p (.tup [V.str (Str.ofString "line"), V.str (Str.ofString "polyline")])) := Same.new hp
    generalize (upd H p (.tup [V.str (Str.ofString "line"), V.str (Str.ofString "polyline")])) = H1 at *
    show if (inV (.str s.name) [.str (Str.ofString "line"), .str (Str.ofString "polyline")]) = true then _ else _
    rw [in_lp]
    refine if_dec (fun c => ?_) (fun c => ?_)
    · have pl := ok.plen
      rw [Sh.pts_cor c] at pl hS1
      refine ⟨_, rfl, _, s.cor, rfl, ⟨a, rfl, hS1⟩, c, by rw [flat_len] at pl; omega, fun x r H2 s2 hb hr => k _ _ _ (sm1.trans s2) (IsBox.cor c hb) hr⟩
    · repeat walk_at "rd1"
      refine if_str (fun e => ?_) (fun e3 => ?_)
      · have e' := nm3.mp e
        cases s <;> first | (simp [Sh.tag] at e'; done) | skip
        refine ⟨_, rfl, a, _, rfl, hS1, rfl, ?_⟩
        repeat walk_at "rd1"
        exact ⟨(show 4 ≤ sizeLine by decide), fun r hr => k _ _ _ (sm1.trans (Same.new hr)) rfl ⟨_, rfl, SqT.of upd_same⟩⟩
      · repeat walk_at "rd1"
        refine ⟨⟨a, rfl, hS1⟩, ok, ?_, fun x r H2 s2 hb hr => k _ _ _ (sm1.trans s2) hb hr⟩
        cases s with
        | rect _ _ _ _ => exact absurd (nm0.mpr rfl) e0
        | line _ _ _ _ => exact absurd (by intro h; cases h) c
        | poly _ _ => exact absurd (by intro h; cases h) c
        | circ _ _ _ => exact absurd (nm3.mpr rfl) e3
        | tS x y l => exact ⟨x, y, l, Or.inl rfl⟩
        | tM x y l => exact ⟨x, y, l, Or.inr (Or.inl rfl)⟩
        | tE x y l => exact ⟨x, y, l, Or.inr (Or.inr rfl)⟩
theorem df_law_around (M : Blt mg) (A : At K mg "_law_around" s_law_around) (D_law_width : Df P w K mg base 2 "_law_width" ["text"] (sp_law_width K)) : Df P w K mg base 3 "_law_around" ["shape", "points", "text"] (sp_law_around K) := by
  have nd := sc_law_around.nd
  refine Df.of A (fun _ _ _ _ _ _ us hl => match us, hl with | [_, _, _], _ => rfl) sc_law_around (fun vs H Q E h => ?_) (fun cdv A out f s H vs Q E hr hgd h => ?_)
  · obtain ⟨s, v, rfl, _⟩ := h
    rfl
  · obtain ⟨s, v, rfl, ⟨a, rfl, hS⟩, ok, k⟩ := h
    have h16 : sizeLine = 16777216 := by decide
    refine ⟨_, (pss_cons (ps_if (pt_cmpR op_eq (pv 0) pe_str (nomark _)) (pss_one (ps_ret (pv 1))) pss_nil)
      (pss_cons (ps_if (pt_cmpR op_eq (pv 0) pe_str (nomark _)) (pss_cons (ps_set (i := 3) nd rfl (Or.inl rfl) (pe_op op_add (pe_op op_mul pe_int (pe_ix (ixT K) (pv 1) pe_int (fun _ _ => rfl))) pe_int))
      (pss_one (ps_ret (pe_tup (pa_cons (pe_op op_sub (pe_ix (ixT K) (pv 1) pe_int (fun _ _ => rfl)) (pe_ix (ixT K) (pv 1) pe_int (fun _ _ => rfl))) (pa_cons (pe_op op_sub (pe_ix (ixT K) (pv 1) pe_int (fun _ _ => rfl)) (pe_ix (ixT K) (pv 1) pe_int (fun _ _ => rfl))) (pa_cons (pv 3) (pa_cons (pv 3) pa_nil)))))))) pss_nil)
      (pss_cons (ps_if (PW.pt (pw_or (pt_cmpR op_eq (pv 0) pe_str (nomark _)) (pw_or1 (pt_cmpR op_eq (pv 0) pe_str (nomark _))))) (pss_cons (ps_setLc (i := 4) (own := [("k", 5)]) (g := (gName 5)) (tt := tYes) rfl nd rfl rfl (sw_true rfl rfl rfl (by decide +kernel)) (pi_range3 rfl M.range (pa_cons pe_int (pa_cons (pe_callB (lenK K) (by rfl) M.len (by decide +kernel) (pa_cons (pv 1) pa_nil)) (pa_cons pe_int pa_nil)))) (blkOk_by (N := ["shape", "points", "text", "size", "across", "k", "down", "width", "left"]) (sc := defScope s_law_around) (by decide +kernel)) (fun _ _ _ _ _ => pg_name (i := 5) nd rfl (Or.inl rfl)) (fun _ _ _ _ _ => pts_nil) (fun _ _ _ _ _ => (pe_ix (ixT K) (pv 1) (pv 5) (fun _ _ => rfl))))
      (pss_cons (ps_setLc (i := 6) (own := [("k", 5)]) (g := (gName 5)) (tt := tYes) rfl nd rfl rfl (sw_true rfl rfl rfl (by decide +kernel)) (pi_range3 rfl M.range (pa_cons pe_int (pa_cons (pe_callB (lenK K) (by rfl) M.len (by decide +kernel) (pa_cons (pv 1) pa_nil)) (pa_cons pe_int pa_nil)))) (blkOk_by (N := ["shape", "points", "text", "size", "across", "k", "down", "width", "left"]) (sc := defScope s_law_around) (by decide +kernel)) (fun _ _ _ _ _ => pg_name (i := 5) nd rfl (Or.inl rfl)) (fun _ _ _ _ _ => pts_nil) (fun _ _ _ _ _ => (pe_ix (ixT K) (pv 1) (pv 5) (fun _ _ => rfl))))
      (pss_one (ps_ret (pe_tup (pa_cons (pe_callB (minK K rfl) (by rfl) M.min (by decide +kernel) (pa_cons (pv 4) pa_nil)) (pa_cons (pe_callB (minK K rfl) (by rfl) M.min (by decide +kernel) (pa_cons (pv 6) pa_nil)) (pa_cons (pe_op op_add (pe_op op_sub (pe_callB (maxK K rfl) (by rfl) M.max (by decide +kernel) (pa_cons (pv 4) pa_nil)) (pe_callB (minK K rfl) (by rfl) M.min (by decide +kernel) (pa_cons (pv 4) pa_nil))) pe_int) (pa_cons (pe_op op_add (pe_op op_sub (pe_callB (maxK K rfl) (by rfl) M.max (by decide +kernel) (pa_cons (pv 6) pa_nil)) (pe_callB (minK K rfl) (by rfl) M.min (by decide +kernel) (pa_cons (pv 6) pa_nil))) pe_int) pa_nil))))))))) pss_nil)
      (pss_cons (ps_set (i := 7) nd rfl (Or.inl rfl) (pe_df D_law_width (hr.mono (by decide)) hgd rfl (pa_cons (pv 2) pa_nil)))
      (pss_cons (ps_set (i := 8) nd rfl (Or.inl rfl) (pe_ix (ixT K) (pv 1) pe_int (fun _ _ => rfl)))
      (C8.pss_cut (ps_if (pt_cmpR op_eq (pv 0) pe_str (nomark _)) (pss_one (ps_set (i := 8) nd rfl (Or.inl rfl) (pe_op op_sub (pv 8) (pe_op op_fdiv (pv 7) pe_int)))) pss_nil)
      (C8.pss_cut (ps_if (pt_cmpR op_eq (pv 0) pe_str (nomark _)) (pss_one (ps_set (i := 8) nd rfl (Or.inl rfl) (pe_op op_sub (pv 8) (pv 7)))) pss_nil)
      (pss_one (ps_ret (pe_tup (pa_cons (pv 8) (pa_cons (pe_ix (ixT K) (pv 1) pe_int (fun _ _ => rfl)) (pa_cons (pv 7) (pa_cons pe_int pa_nil)))))))))))))), at_start (st_of (k := 6) rfl (by walk_at "sts")) ?_⟩
    repeat walk_at "rd1"
    refine if_str (fun e => ?_) (fun e0 => ?_)
    · have e' := nm0.mp e
      cases s <;> first | (simp [Sh.tag] at e'; done) | skip
      repeat walk_at "rd1"
      exact k _ _ _ (Same.refl _) rfl ⟨_, rfl, hS⟩
    repeat walk_at "rd1"
    refine if_str (fun e => ?_) (fun e3 => ?_)
    · have e' := nm3.mp e
      cases s <;> first | (simp [Sh.tag] at e'; done) | skip
      repeat walk_at "rd1"
      exact ⟨(show 4 ≤ sizeLine by decide), fun r hr => k _ _ _ (Same.new hr) rfl ⟨_, rfl, SqT.of upd_same⟩⟩
    by_cases hc : s.cor ≠ []
    · have pl := ok.plen
      rw [Sh.pts_cor hc] at pl hS
      have lp : 0 < (s.cor.map (·.1)).length := by rw [List.length_map]; exact List.length_pos_iff.mpr hc
      have lq : 0 < (s.cor.map (·.2)).length := by rw [List.length_map]; exact List.length_pos_iff.mpr hc
      have pl2 := flat_len s.cor
      repeat walk_at "rd1"
      refine if_str (fun e => ?_) (fun e1 => ?_)
      rotate_left 1
      repeat walk_at "rd1"
      refine if_str (fun e => ?_) (fun e2 => absurd (tag_cor.mpr hc) (by intro h; rcases h with h | h; exact e1 (nm1.mpr h); exact e2 (nm2.mpr h)))
      all_goals
        try refine iteT ?_
        repeat walk_at "rd1"
        refine ⟨_, _, _, _, rfl, rgf0 pl, fun D hD => map_step ((s.cor.map (·.1)).map V.int) (by rw [List.length_map, List.length_map]) (by omega) hD (fun i v hv H1 s1 Q' hQ => ?_) fun H1 s1 hD1 => ?_⟩
        · refine ⟨_, rfl, _, rfl, a, _, _, _, rfl, rfl, (Im.same s1).sqT hS, fx hv, hQ _ (Same.refl _)⟩
        · have hS1 := (Im.same s1).sqT hS
          repeat walk_at "rd1"
          refine ⟨_, _, _, _, rfl, rgf1 pl, fun E hE => map_step ((s.cor.map (·.2)).map V.int) (by rw [List.length_map, List.length_map]) (by omega) hE (fun i v hv H2 s2 Q' hQ => ?_) fun H2 s2 hE2 => ?_⟩
          · refine ⟨_, rfl, _, rfl, a, _, _, _, rfl, rfl, (Im.same s2).sqT hS1, fy hv, hQ _ (Same.refl _)⟩
          · have hD2 := s2 _ _ hD1
            repeat walk_at "rd1"
            refine ⟨D, _, rfl, SqL.of hD2, lp, fun L h1 h1' => ?_⟩
            repeat walk_at "rd1"
            refine ⟨E, _, rfl, SqL.of hE2, lq, fun T h2 h2' => ?_⟩
            repeat walk_at "rd1"
            refine ⟨D, _, rfl, SqL.of hD2, lp, fun Rt h3 h3' => ?_⟩
            repeat walk_at "rd1"
            refine ⟨D, _, rfl, SqL.of hD2, lp, fun L2 h5 h5' => ?_⟩
            have e5 : L2 = L := by have := h5' _ h1; have := h1' _ h5; omega
            subst e5
            repeat walk_at "rd1"
            refine ⟨E, _, rfl, SqL.of hE2, lq, fun B h4 h4' => ?_⟩
            repeat walk_at "rd1"
            refine ⟨E, _, rfl, SqL.of hE2, lq, fun T2 h6 h6' => ?_⟩
            have e6 : T2 = T := by have := h6' _ h2; have := h2' _ h6; omega
            subst e6
            repeat walk_at "rd1"
            exact ⟨(show 4 ≤ sizeLine by decide), fun r hr => k _ _ _ ((s1.trans s2).trans (Same.new hr)) (IsBox.cor hc (bb_of h1 h1' h2 h2' h3 h3' h4 h4')) ⟨_, rfl, SqT.of upd_same⟩⟩
    · have hn : ∀ n, n = 1 ∨ n = 2 → ¬ s.tag = n := fun n hn e => hc (tag_cor.mp (by rw [e]; exact hn))
      repeat walk_at "rd1"
      refine if_str (fun e => absurd (nm1.mp e) (hn 1 (Or.inl rfl))) (fun _ => ?_)
      repeat walk_at "rd1"
      refine if_str (fun e => absurd (nm2.mp e) (hn 2 (Or.inr rfl))) (fun _ => ?_)
      have hs : ∃ x y l, s = .tS x y l ∨ s = .tM x y l ∨ s = .tE x y l := by
        cases s with
        | rect _ _ _ _ => exact absurd (nm0.mpr rfl) e0
        | line _ _ _ _ => exact absurd (by intro h; cases h) hc
        | poly _ _ => exact absurd (by intro h; cases h) hc
        | circ _ _ _ => exact absurd (nm3.mpr rfl) e3
        | tS x y l => exact ⟨x, y, l, Or.inl rfl⟩
        | tM x y l => exact ⟨x, y, l, Or.inr (Or.inl rfl)⟩
        | tE x y l => exact ⟨x, y, l, Or.inr (Or.inr rfl)⟩
      obtain ⟨x, y, l, hs⟩ := hs
      have ep : s.pts = [x, y] ∧ s.txt = l := by rcases hs with rfl | rfl | rfl <;> exact ⟨rfl, rfl⟩
      rw [ep.1] at hS
      repeat walk_at "rd1"
      rw [ep.2]
      refine ⟨fun σ H' => σ = [some (.str s.name), some (.ref a), some (.str (S l)), none, none, none, none, some (.int (tw l)), some (.int (if s.tag = 5 then x - tw l / 2 else x))] ∧ H' = H, ?_, ?_⟩
      · repeat walk_at "rd1"
        refine if_str (fun e => ?_) (fun e => ?_)
        · have e' := nm5.mp e
          repeat walk_at "rd1"
          rw [if_pos e']
          try exact ⟨rfl, rfl⟩
        · rw [if_neg (fun h => e (nm5.mpr h))]
          exact ⟨rfl, rfl⟩
      rintro σ H2 ⟨rfl, rfl⟩
      refine ⟨fun σ H' => σ = [some (.str s.name), some (.ref a), some (.str (S l)), none, none, none, none, some (.int (tw l)), some (.int (if s.tag = 6 then x - tw l else if s.tag = 5 then x - tw l / 2 else x))] ∧ H' = H2, ?_, ?_⟩
      · repeat walk_at "rd1"
        refine if_str (fun e => ?_) (fun e => ?_)
        · have e' := nm6.mp e
          repeat walk_at "rd1"
          rw [if_pos e', if_neg (by omega)]
          try exact ⟨rfl, rfl⟩
        · rw [if_neg (c := s.tag = 6) (fun h => e (nm6.mpr h))]
          exact ⟨rfl, rfl⟩
      rintro σ H3 ⟨rfl, rfl⟩
      have hb : IsBox s ⟨(if s.tag = 6 then x - tw l else if s.tag = 5 then x - tw l / 2 else x), y, tw l, 7⟩ := by
        rcases hs with rfl | rfl | rfl <;> exact rfl
      repeat walk_at "rd1"
      exact ⟨(show 4 ≤ sizeLine by decide), fun r hr => k _ _ _ (Same.new hr) hb ⟨_, rfl, SqT.of upd_same⟩⟩
end

section
variable {P : Program} {w : World} {K : PySem.W.Frag} {mg : Str → Option Value} {base : Heap}
theorem df_law_form (M : Blt mg) (A : At K mg "_law_form" s_law_form) (D_law_draw : Df P w K mg base 1 "_law_draw" ["tape", "many"] (sp_law_draw K)) (D_law_word : Df P w K mg base 2 "_law_word" ["tape"] (sp_law_word K)) : Df P w K mg base 3 "_law_form" ["tape", "room"] (sp_law_form K) := by
  have nd := sc_law_form.nd
  refine Df.of A (fun _ _ _ _ _ _ us hl => match us, hl with | [_, _], _ => rfl) sc_law_form (fun vs H Q E h => ?_) (fun cdv A out f s H vs Q E hr hgd h => ?_)
  · obtain ⟨t, l, m, rfl, _⟩ := h
    rfl
  · obtain ⟨t, l, m, rfl, T, m1, m2, k⟩ := h
    have h16 : sizeLine = 16777216 := by decide
    refine ⟨_, (pss_cons (ps_set (i := 2) nd rfl (Or.inl rfl) (pe_op op_sub (pe_df D_law_draw (hr.mono (by decide)) hgd rfl (pa_cons (pv 0) (pa_cons (pe_op op_add (pv 1) pe_int) pa_nil))) pe_int))
      (pss_cons (ps_set (i := 3) nd rfl (Or.inl rfl) (pe_op op_sub (pe_df D_law_draw (hr.mono (by decide)) hgd rfl (pa_cons (pv 0) (pa_cons (pe_op op_add (pv 1) pe_int) pa_nil))) pe_int))
      (pss_cons (ps_set (i := 4) nd rfl (Or.inl rfl) (pe_df D_law_draw (hr.mono (by decide)) hgd rfl (pa_cons (pv 0) (pa_cons pe_int pa_nil))))
      (pss_cons (ps_if (pt_cmpR op_lt (pv 4) pe_int (nomark _)) (pss_one (ps_ret (pe_tup (pa_cons pe_str (pa_cons (pe_tup (pa_cons (pv 2) (pa_cons (pv 3) (pa_cons (pe_df D_law_draw (hr.mono (by decide)) hgd rfl (pa_cons (pv 0) (pa_cons (pv 1) pa_nil))) (pa_cons (pe_df D_law_draw (hr.mono (by decide)) hgd rfl (pa_cons (pv 0) (pa_cons (pv 1) pa_nil))) pa_nil))))) (pa_cons pe_str pa_nil)))))) pss_nil)
      (pss_cons (ps_if (pt_cmpR op_eq (pv 4) pe_int (nomark _)) (pss_one (ps_ret (pe_tup (pa_cons pe_str (pa_cons (pe_tup (pa_cons (pv 2) (pa_cons (pv 3) (pa_cons (pe_op op_sub (pe_df D_law_draw (hr.mono (by decide)) hgd rfl (pa_cons (pv 0) (pa_cons (pe_op op_add (pv 1) pe_int) pa_nil))) pe_int) (pa_cons (pe_op op_sub (pe_df D_law_draw (hr.mono (by decide)) hgd rfl (pa_cons (pv 0) (pa_cons (pe_op op_add (pv 1) pe_int) pa_nil))) pe_int) pa_nil))))) (pa_cons pe_str pa_nil)))))) pss_nil)
      (pss_cons (ps_if (pt_cmpR op_eq (pv 4) pe_int (nomark _)) (pss_cons (ps_set (i := 5) nd rfl (Or.inl rfl) (pe_tup (pa_cons (pv 2) (pa_cons (pv 3) pa_nil))))
      (pss_cons (ps_for PassesOwn.never rfl (pi_range1 rfl M.range (pa_cons (pe_df D_law_draw (hr.mono (by decide)) hgd rfl (pa_cons (pv 0) (pa_cons pe_int pa_nil))) pa_nil)) (pg_name (i := 6) nd rfl (Or.inl rfl)) (pss_one (ps_set (i := 5) nd rfl (Or.inl rfl) (pe_op (catT K) (pv 5) (pe_tup (pa_cons (pe_op op_sub (pe_df D_law_draw (hr.mono (by decide)) hgd rfl (pa_cons (pv 0) (pa_cons (pe_op op_add (pv 1) pe_int) pa_nil))) pe_int) (pa_cons (pe_op op_sub (pe_df D_law_draw (hr.mono (by decide)) hgd rfl (pa_cons (pv 0) (pa_cons (pe_op op_add (pv 1) pe_int) pa_nil))) pe_int) pa_nil)))))))
      (pss_one (ps_ret (pe_tup (pa_cons pe_str (pa_cons (pv 5) (pa_cons pe_str pa_nil)))))))) pss_nil)
      (pss_cons (ps_if (pt_cmpR op_eq (pv 4) pe_int (nomark _)) (pss_one (ps_ret (pe_tup (pa_cons pe_str (pa_cons (pe_tup (pa_cons (pv 2) (pa_cons (pv 3) (pa_cons (pe_df D_law_draw (hr.mono (by decide)) hgd rfl (pa_cons (pv 0) (pa_cons (pe_op op_add (pe_op op_fdiv (pv 1) pe_int) pe_int) pa_nil))) pa_nil)))) (pa_cons pe_str pa_nil)))))) pss_nil)
      (pss_one (ps_ret (pe_tup (pa_cons (pe_ix (ixL K) (pe_lst (pa_cons pe_str (pa_cons pe_str (pa_cons pe_str pa_nil)))) (pe_op op_sub (pv 4) pe_int) (fun _ _ => rfl)) (pa_cons (pe_tup (pa_cons (pv 2) (pa_cons (pv 3) pa_nil))) (pa_cons (pe_df D_law_word (hr.mono (by decide)) hgd rfl (pa_cons (pv 0) pa_nil)) pa_nil))))))))))))), at_start (st_of (k := 5) rfl (by walk_at "sts")) ?_⟩
    repeat walk_at "rd1"
    refine ⟨t, l, _, rfl, T, (by omega), fun x H1 T1 a1 x1 x2 => ?_⟩
    repeat walk_at "rd1"
    refine ⟨t, l, _, rfl, T1, (by omega), fun y H2 T2 a2 y1 y2 => ?_⟩
    repeat walk_at "rd1"
    refine ⟨t, l, _, rfl, T2, (by omega), fun kd H3 T3 a3 c1 c2 => ?_⟩
    have g3 : Gr t H H3 := ((a1.trans a2).trans a3).gr
    have bx : -1000 ≤ x - 4 ∧ x - 4 ≤ 1000 := by omega
    have by_ : -1000 ≤ y - 4 ∧ y - 4 ≤ 1000 := by omega
    clear a1 a2 a3 T1 T2
    repeat walk_at "rd1"
    refine if_dec (fun k1 => ?_) (fun k1 => ?_)
    · repeat walk_at "rd1"
      refine ⟨t, l, _, rfl, T3, (by omega), fun u H4 T4 a4 u1 u2 => ?_⟩
      repeat walk_at "rd1"
      refine ⟨t, l, _, rfl, T4, (by omega), fun v H5 T5 a5 v1 v2 => ?_⟩
      repeat walk_at "rd1"
      refine ⟨(show 4 ≤ sizeLine by decide), fun p hp => ?_⟩
      repeat walk_at "rd1"
      refine ⟨(show 3 ≤ sizeLine by decide), fun q hq => ?_⟩
      exact k _ (.rect (x - 4) (y - 4) u v) _ ((T5.new hp).new hq) (((g3.trans a4.gr).trans a5.gr).trans ((Gr.new hp).trans (Gr.new hq))) (Drawn.of0 (s := .rect (x - 4) (y - 4) u v) (fun _ _ _ e => by cases e) rfl (show 4 ≤ 1000 by decide) (all4 bx by_ (by omega) (by omega)) (SqT.of upd_same) hq)
    repeat walk_at "rd1"
    refine if_int (fun k2 => ?_) (fun k2 => ?_)
    · repeat walk_at "rd1"
      refine ⟨t, l, _, rfl, T3, (by omega), fun u H4 T4 a4 u1 u2 => ?_⟩
      repeat walk_at "rd1"
      refine ⟨t, l, _, rfl, T4, (by omega), fun v H5 T5 a5 v1 v2 => ?_⟩
      repeat walk_at "rd1"
      refine ⟨(show 4 ≤ sizeLine by decide), fun p hp => ?_⟩
      repeat walk_at "rd1"
      refine ⟨(show 3 ≤ sizeLine by decide), fun q hq => ?_⟩
      exact k _ (.line (x - 4) (y - 4) (u - 4) (v - 4)) _ ((T5.new hp).new hq) (((g3.trans a4.gr).trans a5.gr).trans ((Gr.new hp).trans (Gr.new hq))) (Drawn.of0 (s := .line (x - 4) (y - 4) (u - 4) (v - 4)) (fun _ _ _ e => by cases e) rfl (show 4 ≤ 1000 by decide) (all4 bx by_ (by omega) (by omega)) (SqT.of upd_same) hq)
    repeat walk_at "rd1"
    refine if_int (fun k3 => ?_) (fun k3 => ?_)
    · repeat walk_at "rd1"
      refine ⟨(show 2 ≤ sizeLine by decide), fun p hp => ?_⟩
      repeat walk_at "rd1"
      refine ⟨t, l, _, rfl, T3.new hp, (by omega), fun u H4 T4 a4 u1 u2 => ?_⟩
      repeat walk_at "rd1"
      have np : p ≠ t := T3.ne_t hp
      refine ⟨by omega, by omega, for_range (lo := 0) (n := u.toNat) (fun i σ H' => ∃ (p : Addr) (ps : List (Int × Int)) (v6 : Option V), σ = [some (.ref t), some (.int m), some (.int (x - 4)), some (.int (y - 4)), some (.int kd), some (.ref p), v6] ∧ TapeAt H' t l ∧ Gr t H3 H' ∧ SqT K H' p (iv (flat ((x - 4, y - 4) :: ps))) ∧ ps.length ≤ i ∧ ∀ z ∈ flat ((x - 4, y - 4) :: ps), -1000 ≤ z ∧ z ≤ 1000) ⟨p, [], none, rfl, T4, (Gr.new hp).trans a4.gr, SqT.of (a4.at_ np upd_same), Nat.le_refl _, (all2 (P := fun z => -1000 ≤ z ∧ z ≤ 1000) bx by_ : ∀ z ∈ [x - 4, y - 4], -1000 ≤ z ∧ z ≤ 1000)⟩ ?_ ?_⟩
      · rintro i σ H5 hi ⟨p, ps, v6, rfl, T5, g5, s5, l5, b5⟩
        repeat walk_at "rd1"
        refine ⟨t, l, _, rfl, T5, (by omega), fun u H6 T6 a6 u1 u2 => ?_⟩
        repeat walk_at "rd1"
        refine ⟨t, l, _, rfl, T6, (by omega), fun v H7 T7 a7 v1 v2 => ?_⟩
        repeat walk_at "rd1"
        refine ⟨(show 2 ≤ sizeLine by decide), fun q hq => ?_⟩
        have s7 : SqT K H7 p (iv (flat ((x - 4, y - 4) :: ps))) := ((T5.im (a6.trans a7).gr).sqT s5)
        have f7 : flat ((x - 4, y - 4) :: (ps ++ [(u - 4, v - 4)])) = flat ((x - 4, y - 4) :: ps) ++ [u - 4, v - 4] := by
          rw [← List.cons_append, flat_app]
          rfl
        refine ⟨_, _, _, _, rfl, rfl, (Im.new hq).sqT s7, SqT.of upd_same, (by rw [iv, List.length_map, flat_len, List.length_cons]; show _ + 2 ≤ _; omega), (fun e => by cases e), (fun _ e => by cases e), fun _ _ r hr => ?_⟩
        refine ⟨r, ps ++ [(u - 4, v - 4)], _, rfl, (T7.new hq).new hr, (g5.trans (a6.trans a7).gr).trans ((Gr.new hq).trans (Gr.new hr)), ?_, ?_, ?_⟩
        · have e7 : iv (flat ((x - 4, y - 4) :: ps) ++ [u - 4, v - 4]) = iv (flat ((x - 4, y - 4) :: ps)) ++ [V.int (u - 4), V.int (v - 4)] := by
            rw [iv, List.map_append]
            rfl
          rw [f7, e7]
          exact SqT.of upd_same
        · rw [List.length_append]
          show ps.length + 1 ≤ i + 1
          omega
        · rw [f7]
          intro z hz
          rcases List.mem_append.mp hz with h | h
          · exact b5 z h
          · exact (all2 (P := fun z => -1000 ≤ z ∧ z ≤ 1000) (by omega) (by omega)) z h
      · rintro σ H5 ⟨p, ps, v6, rfl, T5, g5, s5, l5, b5⟩
        repeat walk_at "rd1"
        refine ⟨(show 3 ≤ sizeLine by decide), fun q hq => ?_⟩
        exact k _ (.poly (x - 4, y - 4) ps) _ (T5.new hq) ((g3.trans g5).trans (Gr.new hq)) (Drawn.of0 (s := .poly (x - 4, y - 4) ps) (fun _ _ _ e => by cases e) rfl (by show (flat ((x - 4, y - 4) :: ps)).length ≤ 1000; rw [flat_len, List.length_cons]; omega) b5 s5 hq)
    repeat walk_at "rd1"
    refine if_int (fun k4 => ?_) (fun k4 => ?_)
    · repeat walk_at "rd1"
      refine ⟨t, l, _, rfl, T3, (by omega), fun u H4 T4 a4 u1 u2 => ?_⟩
      repeat walk_at "rd1"
      refine ⟨(show 3 ≤ sizeLine by decide), fun p hp => ?_⟩
      repeat walk_at "rd1"
      refine ⟨(show 3 ≤ sizeLine by decide), fun q hq => ?_⟩
      exact k _ (.circ (x - 4) (y - 4) u) _ ((T4.new hp).new hq) ((g3.trans a4.gr).trans ((Gr.new hp).trans (Gr.new hq))) (Drawn.of0 (s := .circ (x - 4) (y - 4) u) (fun _ _ _ e => by cases e; omega) rfl (show 3 ≤ 1000 by decide) (all3 bx by_ (by omega)) (SqT.of upd_same) hq)
    obtain ⟨f, n, hf, hn⟩ : ∃ (f : List Nat → Sh) (n : Str), (∀ w, (f w).name = n ∧ (f w).pts = [x - 4, y - 4] ∧ (f w).txt = w) ∧ atI [V.str (Str.ofString "text start"), V.str (Str.ofString "text middle"), V.str (Str.ofString "text end")] (kd - 5) = some (.str n) := by
      have : kd = 5 ∨ kd = 6 ∨ kd = 7 := by omega
      rcases this with rfl | rfl | rfl
      · exact ⟨.tS (x - 4) (y - 4), _, fun w => ⟨rfl, rfl, rfl⟩, rfl⟩
      · exact ⟨.tM (x - 4) (y - 4), _, fun w => ⟨rfl, rfl, rfl⟩, rfl⟩
      · exact ⟨.tE (x - 4) (y - 4), _, fun w => ⟨rfl, rfl, rfl⟩, rfl⟩
    repeat walk_at "rd1"
    refine ⟨(show 3 ≤ sizeLine by decide), fun b hb => ?_⟩
    repeat walk_at "rd1"
    refine ⟨b, _, _, _, rfl, rfl, SqL.of upd_same, hn, ?_⟩
    repeat walk_at "rd1"
    refine ⟨(show 2 ≤ sizeLine by decide), fun p hp => ?_⟩
    repeat walk_at "rd1"
    refine ⟨t, l, rfl, (T3.new hb).new hp, fun w H5 T5 g5 ww wl => ?_⟩
    have np : p ≠ t := (T3.new hb).ne_t hp
    repeat walk_at "rd1"
    refine ⟨(show 3 ≤ sizeLine by decide), fun q hq => ?_⟩
    obtain ⟨f1, f2, f3⟩ := hf w
    have D := Drawn.of (K := K) (s := f w) (p := p) (H := H5) (fun _ _ _ e => by rw [e] at f2; cases f2) ⟨by rw [f3]; exact ww, by rw [f3]; omega, by rw [f2]; exact (show 2 ≤ 1000 by decide)⟩ (by rw [f2]; exact all2 (P := fun z => -1000 ≤ z ∧ z ≤ 1000) bx by_) (by rw [f2]; exact SqT.of (g5 _ _ upd_same np)) hq
    rw [f1, f3] at D
    exact k _ (f w) _ (T5.new hq) (((g3.trans ((Gr.new hb).trans (Gr.new hp))).trans g5).trans (Gr.new hq)) D
theorem df_law_shifted (M : Blt mg) (A : At K mg "_law_shifted" s_law_shifted) : Df P w K mg base 1 "_law_shifted" ["shape", "points", "x", "y"] (sp_law_shifted K) := by
  have nd := sc_law_shifted.nd
  refine Df.of A (fun _ _ _ _ _ _ us hl => match us, hl with | [_, _, _, _], _ => rfl) sc_law_shifted (fun vs H Q E h => ?_) (fun cdv A out f s H vs Q E hr hgd h => ?_)
  · obtain ⟨s, v, dx, dy, rfl, _⟩ := h
    rfl
  · obtain ⟨s, v, dx, dy, rfl, ⟨a, rfl, hS⟩, pl, k⟩ := h
    have h16 : sizeLine = 16777216 := by decide
    refine ⟨_, (pss_cons (ps_if (PW.pt (pw_or (pt_cmpR op_eq (pv 0) pe_str (nomark _)) (pw_or (pt_cmpR op_eq (pv 0) pe_str (nomark _)) (pw_or1 (pt_cmpR op_eq (pe_slice sl_str (pv 0) po_none (po_some pe_int)) pe_str (nomark _)))))) (pss_one (ps_ret (pe_op (catT K) (pe_tup (pa_cons (pe_op op_add (pe_ix (ixT K) (pv 1) pe_int (fun _ _ => rfl)) (pv 2)) (pa_cons (pe_op op_add (pe_ix (ixT K) (pv 1) pe_int (fun _ _ => rfl)) (pv 3)) pa_nil))) (pe_slice (slT K) (pv 1) (po_some pe_int) po_none)))) pss_nil)
      (pss_cons (ps_set (i := 4) nd rfl (Or.inl rfl) (pe_tup pa_nil))
      (pss_cons (ps_for PassesOwn.never rfl (pi_range3 rfl M.range (pa_cons pe_int (pa_cons (pe_callB (lenK K) (by rfl) M.len (by decide +kernel) (pa_cons (pv 1) pa_nil)) (pa_cons pe_int pa_nil)))) (pg_name (i := 5) nd rfl (Or.inl rfl)) (pss_one (ps_set (i := 4) nd rfl (Or.inl rfl) (pe_op (catT K) (pv 4) (pe_tup (pa_cons (pe_op op_add (pe_ix (ixT K) (pv 1) (pv 5) (fun _ _ => rfl)) (pv 2)) (pa_cons (pe_op op_add (pe_ix (ixT K) (pv 1) (pe_op op_add (pv 5) pe_int) (fun _ _ => rfl)) (pv 3)) pa_nil)))))))
      (pss_one (ps_ret (pv 4)))))), at_start (st_of (k := 2) rfl (by walk_at "sts")) ?_⟩
    by_cases hc : s.cor = []
    · obtain ⟨x0, y0, r0, e1, e2⟩ := nocor (s := s) (dx := dx) (dy := dy) hc
      rw [e1] at hS pl
      rw [e2] at k
      replace hS : SqT K H a (V.int x0 :: V.int y0 :: iv r0) := hS
      have i0 : atI (V.int x0 :: V.int y0 :: iv r0) 0 = some (V.int x0) := atI_nat (j := 0) rfl
      have i1 : atI (V.int x0 :: V.int y0 :: iv r0) 1 = some (V.int y0) := atI_nat (j := 1) rfl
      have pl' : r0.length ≤ 998 := by simp only [List.length_cons] at pl; omega
      have pl2 : (iv r0).length ≤ 998 := by rw [iv, List.length_map]; exact pl'
      repeat walk_at "rd1"
      refine if_str (fun _ => ?_) (fun n1 => ?_)
      rotate_left 1
      repeat walk_at "rd1"
      refine if_str (fun _ => ?_) (fun n2 => ?_)
      rotate_left 1
      repeat walk_at "rd1"
      refine ⟨(by have := nm_len s; omega), ?_⟩
      repeat walk_at "rd1"
      refine if_str (fun _ => ?_) (fun n3 => absurd (cut4.mpr ⟨hc, (fun e => n1 (nm0.mpr e)), (fun e => n2 (nm3.mpr e))⟩) n3)
      all_goals
        try refine iteT ?_
        repeat walk_at "rd1"
        refine ⟨a, _, _, _, rfl, rfl, hS, i0, ?_⟩
        repeat walk_at "rd1"
        refine ⟨a, _, _, _, rfl, rfl, hS, i1, ?_⟩
        repeat walk_at "rd1"
        refine ⟨(show 2 ≤ sizeLine by decide), fun p hp => ?_⟩
        repeat walk_at "rd1"
        refine ⟨a, _, rfl, (Im.new hp).sqT hS, (fun h => absurd h.1 (by rw [show (V.int x0 :: V.int y0 :: iv r0).length = (iv r0).length + 2 from rfl, six2]; decide)), fun _ q hq => ?_⟩
        rw [cut_2]
        refine ⟨p, q, _, _, rfl, rfl, (Im.new hq).sqT (SqT.of upd_same), SqT.of upd_same, (by show 2 + (iv r0).length ≤ sizeLine; omega), (fun e => by cases e), (fun _ e => ?_), (fun _ _ r hr => ?_)⟩
        · refine k _ _ ((Same.new hp).trans (Same.new hq)) ⟨p, rfl, (Im.new hq).sqT ?_⟩
          have e9 : iv ((x0 + dx) :: (y0 + dy) :: r0) = [V.int (x0 + dx), V.int (y0 + dy)] ++ iv r0 := rfl
          rw [e9, e]
          exact SqT.of upd_same
        · exact k _ _ (((Same.new hp).trans (Same.new hq)).trans (Same.new hr)) ⟨r, rfl, SqT.of upd_same⟩
    · have pp := Sh.pts_cor hc
      rw [pp] at hS pl
      have pl2 := flat_len s.cor
      have hn : ∀ n, n ≠ 1 → n ≠ 2 → ¬ s.tag = n := fun n h1 h2 e => by
        rcases tag_cor.mpr hc with h | h
        · exact h1 (by rw [← e, h])
        · exact h2 (by rw [← e, h])
      repeat walk_at "rd1"
      refine if_str (fun e => absurd (nm0.mp e) (hn 0 (by decide) (by decide))) (fun _ => ?_)
      repeat walk_at "rd1"
      refine if_str (fun e => absurd (nm3.mp e) (hn 3 (by decide) (by decide))) (fun _ => ?_)
      repeat walk_at "rd1"
      refine ⟨(by have := nm_len s; omega), ?_⟩
      repeat walk_at "rd1"
      refine if_str (fun e => absurd (cut4.mp e).1 hc) (fun _ => ?_)
      repeat walk_at "rd1"
      refine ⟨(show 0 ≤ sizeLine by decide), fun p hp => ?_⟩
      have hS0 := (Im.new (o := .tup []) hp).sqT hS
      repeat walk_at "rd1"
      refine ⟨_, _, _, _, rfl, rgf0 pl, for_rangeC (fun i σ H' => ∃ (p : Addr) (v5 : Option V), σ = [some (.str s.name), some (.ref a), some (.int dx), some (.int dy), some (.ref p), v5] ∧ Same H H' ∧ SqT K H' p (iv (flat ((s.cor.take i).map fun q => (q.1 + dx, q.2 + dy))))) ⟨p, none, rfl, Same.new hp, SqT.of upd_same⟩ ?_ ?_⟩
      · rintro i σ H1 hi ⟨p, v5, rfl, s1, hp1⟩
        have hq0 : s.cor[i]? = some s.cor[i] := List.getElem?_eq_getElem hi
        have hS1 := (Im.same s1).sqT hS
        repeat walk_at "rd1"
        refine ⟨a, _, _, _, rfl, rfl, hS1, fx1 hq0, ?_⟩
        repeat walk_at "rd1"
        refine ⟨a, _, _, _, rfl, rfl, hS1, fy1 hq0, ?_⟩
        repeat walk_at "rd1"
        refine ⟨(show 2 ≤ sizeLine by decide), fun b hb => ?_⟩
        have hl : (iv (flat ((s.cor.take i).map fun q => (q.1 + dx, q.2 + dy)))).length + 2 ≤ sizeLine := by
          rw [iv, List.length_map, flat_len, List.length_map, List.length_take]
          omega
        have ft := flat_take (f := fun q => (q.1 + dx, q.2 + dy)) hq0
        refine ⟨p, b, _, _, rfl, rfl, (Im.new hb).sqT hp1, SqT.of upd_same, hl, (fun e => ?_), (fun _ e => by cases e), (fun _ _ r hr => ?_)⟩
        · refine ⟨b, _, rfl, s1.trans (Same.new hb), ?_⟩
          rw [ft, e]
          exact SqT.of upd_same
        · refine ⟨r, _, rfl, (s1.trans (Same.new hb)).trans (Same.new hr), ?_⟩
          rw [ft]
          exact SqT.of upd_same
      · rintro σ H1 ⟨p, v5, rfl, s1, hp1⟩
        refine ⟨_, rfl, k _ _ s1 ⟨p, rfl, ?_⟩⟩
        rw [Sh.pts_cor (by rw [Sh.mv_cor]; intro h; exact hc (List.map_eq_nil_iff.mp h)), Sh.mv_cor]
        rw [List.take_length] at hp1
        exact hp1
end

/-- edges(rectangle); 0 rectangle, 1 left, 2 top, 3 width, 4 height -/
noncomputable def f_edges : List C → M C := fnU 1 4
    (mSeq (mAsg (gVar 0) (aTup 4 (aCons (asgR 1) (aCons (asgR 2) (aCons (asgR 3) (aCons (asgR 4) aNil))))))
      (mRet (gTupE (gaCons (gVar 1) (gaCons (gVar 2) (gaCons (gOp oAdd (gVar 1) (gVar 3)) (gaCons (gOp oAdd (gVar 2) (gVar 4)) gaNil)))))))
/-- common(first, second); 0 first, 1 second, 2 first_left, 3 first_top, 4 first_right, 5 first_bottom, 6 second_left, 7 second_top, 8 second_right, 9 second_bottom, 10 left, 11 top, 12 right, 13 bottom -/
noncomputable def f_common : List C → M C := fnU 2 12
    (mSeq (mAsg (gFn f_edges (gaCons (gVar 0) gaNil)) (aTup 4 (aCons (asgR 2) (aCons (asgR 3) (aCons (asgR 4) (aCons (asgR 5) aNil))))))
      (mSeq (mAsg (gFn f_edges (gaCons (gVar 1) gaNil)) (aTup 4 (aCons (asgR 6) (aCons (asgR 7) (aCons (asgR 8) (aCons (asgR 9) aNil))))))
      (mSeq (mPar 10 11 (gaCons (gCall oMax2 (gaCons (gVar 2) (gaCons (gVar 6) gaNil))) (gaCons (gCall oMax2 (gaCons (gVar 3) (gaCons (gVar 7) gaNil))) gaNil)))
      (mSeq (mPar 12 13 (gaCons (gCall oMin2 (gaCons (gVar 4) (gaCons (gVar 8) gaNil))) (gaCons (gCall oMin2 (gaCons (gVar 5) (gaCons (gVar 9) gaNil))) gaNil)))
      (mSeq (mIf (gOr (gTest (gOp oGe (gVar 10) (gVar 12))) (gTest (gOp oGe (gVar 11) (gVar 13)))) (mRet (gC .none)) mNext)
      (mRet (gTupE (gaCons (gVar 10) (gaCons (gVar 11) (gaCons (gOp oSub (gVar 12) (gVar 10)) (gaCons (gOp oSub (gVar 13) (gVar 11)) gaNil)))))))))))
/-- surrounding(primitive); 0 primitive, 1 _, 2 shape, 3 points, 4 text -/
noncomputable def f_surrounding : List C → M C := fnU 1 4
    (mSeq (mAsg (gVar 0) (aTup 9 (aCons (asgR 1) (aCons (asgR 1) (aCons (asgR 1) (aCons (asgR 2) (aCons (asgR 3) (aCons (asgR 4) (aCons (asgR 1) (aCons (asgR 1) (aCons (asgR 1) aNil)))))))))))
      (mRet (gFn F_around (gaCons (gVar 2) (gaCons (gVar 3) (gaCons (gVar 4) gaNil))))))
/-- reach(primitive); 0 primitive, 1 box, 2 clip -/
noncomputable def f_reach : List C → M C := fnU 1 2
    (mSeq (mPar 1 2 (gaCons (gFn f_surrounding (gaCons (gVar 0) gaNil)) (gaCons (gOp oIx (gVar 0) (gC (.int 8))) gaNil)))
      (mRet (gFn f_common (gaCons (gVar 1) (gaCons (gIfE (gTest (gOp (oIsX false) (gVar 2) (gC .none))) (gVar 1) (gVar 2)) gaNil)))))
/-- visible_part(scene, primitive); 0 scene, 1 primitive, 2 part, 3 width, 4 height, 5 _ -/
noncomputable def f_visible_part : List C → M C := fnU 2 4
    (mSeq (mAsg (gFn f_reach (gaCons (gVar 1) gaNil)) (asgR 2))
      (mSeq (mIf (gTest (gOp (oIsX false) (gVar 2) (gC .none))) (mRet (gC .none)) mNext)
      (mSeq (mAsg (gVar 0) (aTup 3 (aCons (asgR 3) (aCons (asgR 4) (aCons (asgR 5) aNil)))))
      (mRet (gFn f_common (gaCons (gVar 2) (gaCons (gTupE (gaCons (gC (.int 0)) (gaCons (gC (.int 0)) (gaCons (gVar 3) (gaCons (gVar 4) gaNil))))) gaNil)))))))
/-- _law_inside(one, area); 0 one, 1 area -/
noncomputable def f_law_inside : List C → M C := fnU 2 0
    (mSeq (mIf (gOr (gTest (gOp oLt (gOp oIx (gVar 0) (gC (.int 0))) (gOp oIx (gVar 1) (gC (.int 0))))) (gTest (gOp oLt (gOp oIx (gVar 0) (gC (.int 1))) (gOp oIx (gVar 1) (gC (.int 1)))))) (mRet (gC (.bool false))) mNext)
      (mSeq (mIf (gTest (gOp oGt (gOp oAdd (gOp oIx (gVar 0) (gC (.int 0))) (gOp oIx (gVar 0) (gC (.int 2)))) (gOp oAdd (gOp oIx (gVar 1) (gC (.int 0))) (gOp oIx (gVar 1) (gC (.int 2)))))) (mRet (gC (.bool false))) mNext)
      (mRet (gOp oLe (gOp oAdd (gOp oIx (gVar 0) (gC (.int 1))) (gOp oIx (gVar 0) (gC (.int 3)))) (gOp oAdd (gOp oIx (gVar 1) (gC (.int 1))) (gOp oIx (gVar 1) (gC (.int 3))))))))
/-- _law_common(first, second); 0 first, 1 second, 2 left, 3 top, 4 right, 5 low -/
noncomputable def f_law_common : List C → M C := fnU 2 4
    (mSeq (mAsg (gCall oMax2 (gaCons (gOp oIx (gVar 0) (gC (.int 0))) (gaCons (gOp oIx (gVar 1) (gC (.int 0))) gaNil))) (asgR 2))
      (mSeq (mAsg (gCall oMax2 (gaCons (gOp oIx (gVar 0) (gC (.int 1))) (gaCons (gOp oIx (gVar 1) (gC (.int 1))) gaNil))) (asgR 3))
      (mSeq (mAsg (gCall oMin2 (gaCons (gOp oAdd (gOp oIx (gVar 0) (gC (.int 0))) (gOp oIx (gVar 0) (gC (.int 2)))) (gaCons (gOp oAdd (gOp oIx (gVar 1) (gC (.int 0))) (gOp oIx (gVar 1) (gC (.int 2)))) gaNil))) (asgR 4))
      (mSeq (mAsg (gCall oMin2 (gaCons (gOp oAdd (gOp oIx (gVar 0) (gC (.int 1))) (gOp oIx (gVar 0) (gC (.int 3)))) (gaCons (gOp oAdd (gOp oIx (gVar 1) (gC (.int 1))) (gOp oIx (gVar 1) (gC (.int 3)))) gaNil))) (asgR 5))
      (mSeq (mIf (gAnd (gTest (gOp oLt (gVar 2) (gVar 4))) (gTest (gOp oLt (gVar 3) (gVar 5)))) (mRet (gTupE (gaCons (gVar 2) (gaCons (gVar 3) (gaCons (gOp oSub (gVar 4) (gVar 2)) (gaCons (gOp oSub (gVar 5) (gVar 3)) gaNil)))))) mNext)
      (mRet (gC .none)))))))
/-- _law_reach(item); 0 item, 1 rectangle, 2 clip -/
noncomputable def f_law_reach : List C → M C := fnU 1 2
    (mSeq (mAsg (gFn F_around (gaCons (gOp oIx (gVar 0) (gC (.int 3))) (gaCons (gOp oIx (gVar 0) (gC (.int 4))) (gaCons (gOp oIx (gVar 0) (gC (.int 5))) gaNil)))) (asgR 1))
      (mSeq (mAsg (gOp oIx (gVar 0) (gC (.int 8))) (asgR 2))
      (mSeq (mIf (gTest (gOp (oIsX false) (gVar 2) (gC .none))) (mAsg (gVar 1) (asgR 2)) mNext)
      (mRet (gFn f_law_common (gaCons (gVar 1) (gaCons (gVar 2) gaNil)))))))
/-- _law_visible(scene, item); 0 scene, 1 item, 2 part -/
noncomputable def f_law_visible : List C → M C := fnU 2 1
    (mSeq (mAsg (gFn f_law_reach (gaCons (gVar 1) gaNil)) (asgR 2))
      (mSeq (mIf (gTest (gOp (oIsX false) (gVar 2) (gC .none))) (mRet (gC .none)) mNext)
      (mRet (gFn f_law_common (gaCons (gVar 2) (gaCons (gTupE (gaCons (gC (.int 0)) (gaCons (gC (.int 0)) (gaCons (gOp oIx (gVar 0) (gC (.int 0))) (gaCons (gOp oIx (gVar 0) (gC (.int 1))) gaNil))))) gaNil))))))
/-- _law_color(tape); 0 tape, 1 number, 2 digits, 3 k -/
noncomputable def f_law_color : List C → M C := fnU 1 3
    (mSeq (mAsg (gCall drawC (gaCons (gVar 0) (gaCons (gC (.int 16777216)) gaNil))) (asgR 1))
      (mSeq (mAsg (gC (.str "")) (asgR 2))
      (mSeq (mFor (gItR1 (gaCons (gC (.int 6)) gaNil)) (asgR 3) (mSeq (mAsg (gOp oAdd (gOp oIx (gC (.str "0123456789abcdef")) (gOp oMod (gCall oIntC (gaCons (gVar 1) gaNil)) (gC (.int 16)))) (gVar 2)) (asgR 2))
      (mAsg (gOp oFdiv (gVar 1) (gC (.int 16))) (asgR 1))))
      (mRet (gOp oIx (gLst (gaCons (gOp oAdd (gC (.str "#")) (gVar 2)) (gaCons (gC (.str "#ffffff")) (gaCons (gC (.str "#000000")) (gaCons (gC (.str "#3a6ea8")) (gaCons (gC .none) gaNil)))))) (gCall drawC (gaCons (gVar 0) (gaCons (gC (.int 5)) gaNil))))))))
/-- _law_clip(tape, room); 0 tape, 1 room -/
noncomputable def f_law_clip : List C → M C := fnU 2 0
    (mSeq (mIf (gTest (gOp oEq (gCall drawC (gaCons (gVar 0) (gaCons (gC (.int 2)) gaNil))) (gC (.int 0)))) (mRet (gC .none)) mNext)
      (mRet (gTupE (gaCons (gOp oSub (gCall drawC (gaCons (gVar 0) (gaCons (gVar 1) gaNil))) (gC (.int 2))) (gaCons (gOp oSub (gCall drawC (gaCons (gVar 0) (gaCons (gVar 1) gaNil))) (gC (.int 2))) (gaCons (gCall drawC (gaCons (gVar 0) (gaCons (gVar 1) gaNil))) (gaCons (gCall drawC (gaCons (gVar 0) (gaCons (gVar 1) gaNil))) gaNil)))))))
/-- law; 0 script, 1 tape, 2 scene, 3 far, 4 items, 5 k, 6 form, 7 clip, 8 points, 9 item, 10 told -/
noncomputable def m_law : Ro → M Res :=
    (mSeq (mAsg (gTupE (gaCons (gCall drawC (gaCons (gVar 1) (gaCons (gC (.int 21)) gaNil))) (gaCons (gCall drawC (gaCons (gVar 1) (gaCons (gC (.int 21)) gaNil))) (gaCons (gTupE gaNil) gaNil)))) (asgR 2))
      (mSeq (mAsg (gOp oIx (gLst (gaCons (gC (.int 0)) (gaCons (gC (.int 0)) (gaCons (gC (.int 0)) (gaCons (gC (.int 19000)) gaNil))))) (gCall drawC (gaCons (gVar 1) (gaCons (gC (.int 4)) gaNil)))) (asgR 3))
      (mSeq (mAsg (gLst gaNil) (asgR 4))
      (mSeq (mFor (gItR1 (gaCons (gOp oAdd (gC (.int 1)) (gCall drawC (gaCons (gVar 1) (gaCons (gC (.int 6)) gaNil)))) gaNil)) (asgR 5) (mSeq (mAsg (gFn F_law_form (gaCons (gVar 1) (gaCons (gC (.int 16)) gaNil))) (asgR 6))
      (mSeq (mAsg (gFn f_law_clip (gaCons (gVar 1) (gaCons (gC (.int 16)) gaNil))) (asgR 7))
      (mSeq (mIf (gTest (gOp (oIsX true) (gVar 7) (gC .none))) (mAsg (gTupE (gaCons (gOp oAdd (gOp oIx (gVar 7) (gC (.int 0))) (gVar 3)) (gaCons (gOp oAdd (gOp oIx (gVar 7) (gC (.int 1))) (gVar 3)) (gaCons (gOp oIx (gVar 7) (gC (.int 2))) (gaCons (gOp oIx (gVar 7) (gC (.int 3))) gaNil))))) (asgR 7)) mNext)
      (mSeq (mAsg (gFn F_law_shifted (gaCons (gOp oIx (gVar 6) (gC (.int 0))) (gaCons (gOp oIx (gVar 6) (gC (.int 1))) (gaCons (gVar 3) (gaCons (gVar 3) gaNil))))) (asgR 8))
      (mApp 4 (gTupE (gaCons (gVar 5) (gaCons (gC (.str "mark 0")) (gaCons (gC (.str "")) (gaCons (gOp oIx (gVar 6) (gC (.int 0))) (gaCons (gVar 8) (gaCons (gOp oIx (gVar 6) (gC (.int 2))) (gaCons (gFn f_law_color (gaCons (gVar 1) gaNil)) (gaCons (gFn f_law_color (gaCons (gVar 1) gaNil)) (gaCons (gVar 7) gaNil))))))))))))))))
      (mSeq (mAsg (gOp oIx (gLst (gaCons (gVar 2) (gaCons (gTupE (gaCons (gOp oIx (gVar 2) (gC (.int 0))) (gaCons (gOp oIx (gVar 2) (gC (.int 1))) (gaCons (gCall oTupC (gaCons (gVar 4) gaNil)) gaNil)))) gaNil))) (gCall drawC (gaCons (gVar 1) (gaCons (gC (.int 2)) gaNil)))) (asgR 2))
      (mSeq (mForV 4 (asgR 9) (mSeq (mAsg (gTupE (gaCons (gFn f_reach (gaCons (gVar 9) gaNil)) (gaCons (gFn f_visible_part (gaCons (gVar 2) (gaCons (gVar 9) gaNil))) gaNil))) (asgR 10))
      (mSeq (mIf (gTest (gOp oNe (gCall oRepr (gaCons (gVar 10) gaNil)) (gCall oRepr (gaCons (gTupE (gaCons (gFn f_law_reach (gaCons (gVar 9) gaNil)) (gaCons (gFn f_law_visible (gaCons (gVar 2) (gaCons (gVar 9) gaNil))) gaNil))) gaNil)))) (mRet (gC (.bool false))) mNext)
      (mIf (gTest (gOp (oIsX true) (gOp oIx (gVar 10) (gC (.int 1))) (gC .none))) (mIf (gOr (gNot (gTru (gFn f_law_inside (gaCons (gOp oIx (gVar 10) (gC (.int 1))) (gaCons (gOp oIx (gVar 10) (gC (.int 0))) gaNil))))) (gNot (gTru (gFn f_law_inside (gaCons (gOp oIx (gVar 10) (gC (.int 1))) (gaCons (gTupE (gaCons (gC (.int 0)) (gaCons (gC (.int 0)) (gaCons (gOp oIx (gVar 2) (gC (.int 0))) (gaCons (gOp oIx (gVar 2) (gC (.int 1))) gaNil))))) gaNil)))))) (mRet (gC (.bool false))) mNext) mNext))))
      (mRet (gC (.bool true)))))))))

section
variable {P : Program} {w : World} {K : PySem.W.Frag} {mg : Str → Option Value} {base : Heap}
theorem df_edges (M : Blt mg) (A : At K mg "edges" s_edges) : Df P w K mg base 1 "edges" ["rectangle"] (spU K f_edges) := by
  have nd := sc_edges.nd
  exact Df.uni A (fun _ _ _ _ _ _ us hl => match us, hl with | [_], _ => rfl) sc_edges rfl (fun cdv A out f s H E hr hgd => ⟨_, (pss_cons (ps_asg (pv 0) (pg_tup rfl (pgs_cons (pg_name (i := 1) nd rfl (Or.inl rfl)) (pgs_cons (pg_name (i := 2) nd rfl (Or.inl rfl)) (pgs_cons (pg_name (i := 3) nd rfl (Or.inl rfl)) (pgs_cons (pg_name (i := 4) nd rfl (Or.inl rfl)) pgs_nil))))))
      (pss_one (ps_ret (pe_tup (pa_cons (pv 1) (pa_cons (pv 2) (pa_cons (pe_op (opAdd K) (pv 1) (pv 3)) (pa_cons (pe_op (opAdd K) (pv 2) (pv 4)) pa_nil)))))))),
    (rs_seq (rs_asg (re_var (i := 0)) (rg_tup (n := 4) (rgs_cons (rg_name (i := 1)) (rgs_cons (rg_name (i := 2)) (rgs_cons (rg_name (i := 3)) (rgs_cons (rg_name (i := 4)) rgs_nil))))))
      (rs_ret (re_tup (ra_cons (re_var (i := 1)) (ra_cons (re_var (i := 2)) (ra_cons (re_op os_add (re_var (i := 1)) (re_var (i := 3))) (ra_cons (re_op os_add (re_var (i := 2)) (re_var (i := 4))) ra_nil)))))))⟩)
theorem df_common (M : Blt mg) (A : At K mg "common" s_common) (D_edges : Df P w K mg base 1 "edges" ["rectangle"] (spU K f_edges)) : Df P w K mg base 2 "common" ["first", "second"] (spU K f_common) := by
  have nd := sc_common.nd
  exact Df.uni A (fun _ _ _ _ _ _ us hl => match us, hl with | [_, _], _ => rfl) sc_common rfl (fun cdv A out f s H E hr hgd => ⟨_, (pss_cons (ps_asg (pe_df D_edges (hr.mono (by decide)) hgd rfl (pa_cons (pv 0) pa_nil)) (pg_tup rfl (pgs_cons (pg_name (i := 2) nd rfl (Or.inl rfl)) (pgs_cons (pg_name (i := 3) nd rfl (Or.inl rfl)) (pgs_cons (pg_name (i := 4) nd rfl (Or.inl rfl)) (pgs_cons (pg_name (i := 5) nd rfl (Or.inl rfl)) pgs_nil))))))
      (pss_cons (ps_asg (pe_df D_edges (hr.mono (by decide)) hgd rfl (pa_cons (pv 1) pa_nil)) (pg_tup rfl (pgs_cons (pg_name (i := 6) nd rfl (Or.inl rfl)) (pgs_cons (pg_name (i := 7) nd rfl (Or.inl rfl)) (pgs_cons (pg_name (i := 8) nd rfl (Or.inl rfl)) (pgs_cons (pg_name (i := 9) nd rfl (Or.inl rfl)) pgs_nil))))))
      (pss_cons (par2 (ps_par (i := 10) (j := 11) (by rfl) nd rfl rfl (by decide) rfl rfl (pa_cons (pe_callB (call_max2 rfl) (by rfl) M.max (by decide +kernel) (pa_cons (pv 2) (pa_cons (pv 6) pa_nil))) (pa_cons (pe_callB (call_max2 rfl) (by rfl) M.max (by decide +kernel) (pa_cons (pv 3) (pa_cons (pv 7) pa_nil))) pa_nil)) (by rfl)))
      (pss_cons (par2 (ps_par (i := 12) (j := 13) (by rfl) nd rfl rfl (by decide) rfl rfl (pa_cons (pe_callB (call_min2 rfl) (by rfl) M.min (by decide +kernel) (pa_cons (pv 4) (pa_cons (pv 8) pa_nil))) (pa_cons (pe_callB (call_min2 rfl) (by rfl) M.min (by decide +kernel) (pa_cons (pv 5) (pa_cons (pv 9) pa_nil))) pa_nil)) (by rfl)))
      (pss_cons (ps_if (PW.pt (pw_or (pt_cmpR op_ge (pv 10) (pv 12) (nomark _)) (pw_or1 (pt_cmpR op_ge (pv 11) (pv 13) (nomark _))))) (pss_one (ps_ret pe_non)) pss_nil)
      (pss_one (ps_ret (pe_tup (pa_cons (pv 10) (pa_cons (pv 11) (pa_cons (pe_op op_sub (pv 12) (pv 10)) (pa_cons (pe_op op_sub (pv 13) (pv 11)) pa_nil)))))))))))),
    (rs_seq (rs_asg (re_fn (ra_cons (re_var (i := 0)) ra_nil)) (rg_tup (n := 4) (rgs_cons (rg_name (i := 2)) (rgs_cons (rg_name (i := 3)) (rgs_cons (rg_name (i := 4)) (rgs_cons (rg_name (i := 5)) rgs_nil))))))
      (rs_seq (rs_asg (re_fn (ra_cons (re_var (i := 1)) ra_nil)) (rg_tup (n := 4) (rgs_cons (rg_name (i := 6)) (rgs_cons (rg_name (i := 7)) (rgs_cons (rg_name (i := 8)) (rgs_cons (rg_name (i := 9)) rgs_nil))))))
      (rs_seq (rs_par (ra_cons (re_call cs_max2 (ra_cons (re_var (i := 2)) (ra_cons (re_var (i := 6)) ra_nil))) (ra_cons (re_call cs_max2 (ra_cons (re_var (i := 3)) (ra_cons (re_var (i := 7)) ra_nil))) ra_nil)))
      (rs_seq (rs_par (ra_cons (re_call cs_min2 (ra_cons (re_var (i := 4)) (ra_cons (re_var (i := 8)) ra_nil))) (ra_cons (re_call cs_min2 (ra_cons (re_var (i := 5)) (ra_cons (re_var (i := 9)) ra_nil))) ra_nil)))
      (rs_seq (rs_if (rt_or (rt_test (re_op os_cmp0 (re_var (i := 10)) (re_var (i := 12)))) (rt_test (re_op os_cmp0 (re_var (i := 11)) (re_var (i := 13))))) (rs_ret re_non) rs_next)
      (rs_ret (re_tup (ra_cons (re_var (i := 10)) (ra_cons (re_var (i := 11)) (ra_cons (re_op os_sub (re_var (i := 12)) (re_var (i := 10))) (ra_cons (re_op os_sub (re_var (i := 13)) (re_var (i := 11))) ra_nil)))))))))))⟩)
theorem df_surrounding (M : Blt mg) (A : At K mg "surrounding" s_surrounding) (D_around : Df P w K mg base 4 "around" ["shape", "points", "text"] (sp_around K)) : Df P w K mg base 5 "surrounding" ["primitive"] (spU K f_surrounding) := by
  have nd := sc_surrounding.nd
  exact Df.uni A (fun _ _ _ _ _ _ us hl => match us, hl with | [_], _ => rfl) sc_surrounding rfl (fun cdv A out f s H E hr hgd => ⟨_, (pss_cons (ps_asg (pv 0) (pg_tup rfl (pgs_cons (pg_name (i := 1) nd rfl (Or.inl rfl)) (pgs_cons (pg_name (i := 1) nd rfl (Or.inl rfl)) (pgs_cons (pg_name (i := 1) nd rfl (Or.inl rfl)) (pgs_cons (pg_name (i := 2) nd rfl (Or.inl rfl)) (pgs_cons (pg_name (i := 3) nd rfl (Or.inl rfl)) (pgs_cons (pg_name (i := 4) nd rfl (Or.inl rfl)) (pgs_cons (pg_name (i := 1) nd rfl (Or.inl rfl)) (pgs_cons (pg_name (i := 1) nd rfl (Or.inl rfl)) (pgs_cons (pg_name (i := 1) nd rfl (Or.inl rfl)) pgs_nil)))))))))))
      (pss_one (ps_ret (pe_df D_around (hr.mono (by decide)) hgd rfl (pa_cons (pv 2) (pa_cons (pv 3) (pa_cons (pv 4) pa_nil))))))),
    (rs_seq (rs_asg (re_var (i := 0)) (rg_tup (n := 9) (rgs_cons (rg_name (i := 1)) (rgs_cons (rg_name (i := 1)) (rgs_cons (rg_name (i := 1)) (rgs_cons (rg_name (i := 2)) (rgs_cons (rg_name (i := 3)) (rgs_cons (rg_name (i := 4)) (rgs_cons (rg_name (i := 1)) (rgs_cons (rg_name (i := 1)) (rgs_cons (rg_name (i := 1)) rgs_nil)))))))))))
      (rs_ret (re_fnH br_around (ra_cons (re_var (i := 2)) (ra_cons (re_var (i := 3)) (ra_cons (re_var (i := 4)) ra_nil))))))⟩)
theorem df_reach (M : Blt mg) (A : At K mg "reach" s_reach) (D_common : Df P w K mg base 2 "common" ["first", "second"] (spU K f_common)) (D_surrounding : Df P w K mg base 5 "surrounding" ["primitive"] (spU K f_surrounding)) : Df P w K mg base 6 "reach" ["primitive"] (spU K f_reach) := by
  have nd := sc_reach.nd
  exact Df.uni A (fun _ _ _ _ _ _ us hl => match us, hl with | [_], _ => rfl) sc_reach rfl (fun cdv A out f s H E hr hgd => ⟨_, (pss_cons (par2 (ps_par (i := 1) (j := 2) (by rfl) nd rfl rfl (by decide) rfl rfl (pa_cons (pe_df D_surrounding (hr.mono (by decide)) hgd rfl (pa_cons (pv 0) pa_nil)) (pa_cons (pe_ix (ixU K) (pv 0) pe_int (fun _ _ => rfl)) pa_nil)) (by rfl)))
      (pss_one (ps_ret (pe_df D_common (hr.mono (by decide)) hgd rfl (pa_cons (pv 1) (pa_cons (pe_ifExp (pt_cmpR opIs (pv 2) pe_non (nomark _)) (pv 1) (pv 2)) pa_nil)))))),
    (rs_seq (rs_par (ra_cons (re_fn (ra_cons (re_var (i := 0)) ra_nil)) (ra_cons (re_op os_ix (re_var (i := 0)) re_int) ra_nil)))
      (rs_ret (re_fn (ra_cons (re_var (i := 1)) (ra_cons (re_if (rt_test (re_op os_isX (re_var (i := 2)) re_non)) (re_var (i := 1)) (re_var (i := 2))) ra_nil)))))⟩)
end
section
variable {P : Program} {w : World} {K : PySem.W.Frag} {mg : Str → Option Value} {base : Heap}
theorem df_visible_part (M : Blt mg) (A : At K mg "visible_part" s_visible_part) (D_reach : Df P w K mg base 6 "reach" ["primitive"] (spU K f_reach)) (D_common : Df P w K mg base 2 "common" ["first", "second"] (spU K f_common)) : Df P w K mg base 7 "visible_part" ["scene", "primitive"] (spU K f_visible_part) := by
  have nd := sc_visible_part.nd
  exact Df.uni A (fun _ _ _ _ _ _ us hl => match us, hl with | [_, _], _ => rfl) sc_visible_part rfl (fun cdv A out f s H E hr hgd => ⟨_, (pss_cons (ps_set (i := 2) nd rfl (Or.inl rfl) (pe_df D_reach (hr.mono (by decide)) hgd rfl (pa_cons (pv 1) pa_nil)))
      (pss_cons (ps_if (pt_cmpR opIs (pv 2) pe_non (nomark _)) (pss_one (ps_ret pe_non)) pss_nil)
      (pss_cons (ps_asg (pv 0) (pg_tup rfl (pgs_cons (pg_name (i := 3) nd rfl (Or.inl rfl)) (pgs_cons (pg_name (i := 4) nd rfl (Or.inl rfl)) (pgs_cons (pg_name (i := 5) nd rfl (Or.inl rfl)) pgs_nil)))))
      (pss_one (ps_ret (pe_df D_common (hr.mono (by decide)) hgd rfl (pa_cons (pv 2) (pa_cons (pe_tup (pa_cons pe_int (pa_cons pe_int (pa_cons (pv 3) (pa_cons (pv 4) pa_nil))))) pa_nil)))))))),
    (rs_seq (rs_asg (re_fn (ra_cons (re_var (i := 1)) ra_nil)) (rg_name (i := 2)))
      (rs_seq (rs_if (rt_test (re_op os_isX (re_var (i := 2)) re_non)) (rs_ret re_non) rs_next)
      (rs_seq (rs_asg (re_var (i := 0)) (rg_tup (n := 3) (rgs_cons (rg_name (i := 3)) (rgs_cons (rg_name (i := 4)) (rgs_cons (rg_name (i := 5)) rgs_nil)))))
      (rs_ret (re_fn (ra_cons (re_var (i := 2)) (ra_cons (re_tup (ra_cons re_int (ra_cons re_int (ra_cons (re_var (i := 3)) (ra_cons (re_var (i := 4)) ra_nil))))) ra_nil)))))))⟩)
theorem df_law_inside (M : Blt mg) (A : At K mg "_law_inside" s_law_inside) : Df P w K mg base 1 "_law_inside" ["one", "area"] (spU K f_law_inside) := by
  have nd := sc_law_inside.nd
  exact Df.uni A (fun _ _ _ _ _ _ us hl => match us, hl with | [_, _], _ => rfl) sc_law_inside rfl (fun cdv A out f s H E hr hgd => ⟨_, (pss_cons (ps_if (PW.pt (pw_or (pt_cmpR op_lt (pe_ix (ixU K) (pv 0) pe_int (fun _ _ => rfl)) (pe_ix (ixU K) (pv 1) pe_int (fun _ _ => rfl)) (nomark _)) (pw_or1 (pt_cmpR op_lt (pe_ix (ixU K) (pv 0) pe_int (fun _ _ => rfl)) (pe_ix (ixU K) (pv 1) pe_int (fun _ _ => rfl)) (nomark _))))) (pss_one (ps_ret pe_bl)) pss_nil)
      (pss_cons (ps_if (pt_cmpR op_gt (pe_op (opAdd K) (pe_ix (ixU K) (pv 0) pe_int (fun _ _ => rfl)) (pe_ix (ixU K) (pv 0) pe_int (fun _ _ => rfl))) (pe_op (opAdd K) (pe_ix (ixU K) (pv 1) pe_int (fun _ _ => rfl)) (pe_ix (ixU K) (pv 1) pe_int (fun _ _ => rfl))) (nomark _)) (pss_one (ps_ret pe_bl)) pss_nil)
      (pss_one (ps_ret (pe_cmpR op_le (pe_op (opAdd K) (pe_ix (ixU K) (pv 0) pe_int (fun _ _ => rfl)) (pe_ix (ixU K) (pv 0) pe_int (fun _ _ => rfl))) (pe_op (opAdd K) (pe_ix (ixU K) (pv 1) pe_int (fun _ _ => rfl)) (pe_ix (ixU K) (pv 1) pe_int (fun _ _ => rfl))) (nomark _)))))),
    (rs_seq (rs_if (rt_or (rt_test (re_op os_cmp0 (re_op os_ix (re_var (i := 0)) re_int) (re_op os_ix (re_var (i := 1)) re_int))) (rt_test (re_op os_cmp0 (re_op os_ix (re_var (i := 0)) re_int) (re_op os_ix (re_var (i := 1)) re_int)))) (rs_ret re_bl) rs_next)
      (rs_seq (rs_if (rt_test (re_op os_cmp0 (re_op os_add (re_op os_ix (re_var (i := 0)) re_int) (re_op os_ix (re_var (i := 0)) re_int)) (re_op os_add (re_op os_ix (re_var (i := 1)) re_int) (re_op os_ix (re_var (i := 1)) re_int)))) (rs_ret re_bl) rs_next)
      (rs_ret (re_op os_cmp0 (re_op os_add (re_op os_ix (re_var (i := 0)) re_int) (re_op os_ix (re_var (i := 0)) re_int)) (re_op os_add (re_op os_ix (re_var (i := 1)) re_int) (re_op os_ix (re_var (i := 1)) re_int))))))⟩)
theorem df_law_common (M : Blt mg) (A : At K mg "_law_common" s_law_common) : Df P w K mg base 1 "_law_common" ["first", "second"] (spU K f_law_common) := by
  have nd := sc_law_common.nd
  exact Df.uni A (fun _ _ _ _ _ _ us hl => match us, hl with | [_, _], _ => rfl) sc_law_common rfl (fun cdv A out f s H E hr hgd => ⟨_, (pss_cons (ps_set (i := 2) nd rfl (Or.inl rfl) (pe_callB (call_max2 rfl) (by rfl) M.max (by decide +kernel) (pa_cons (pe_ix (ixU K) (pv 0) pe_int (fun _ _ => rfl)) (pa_cons (pe_ix (ixU K) (pv 1) pe_int (fun _ _ => rfl)) pa_nil))))
      (pss_cons (ps_set (i := 3) nd rfl (Or.inl rfl) (pe_callB (call_max2 rfl) (by rfl) M.max (by decide +kernel) (pa_cons (pe_ix (ixU K) (pv 0) pe_int (fun _ _ => rfl)) (pa_cons (pe_ix (ixU K) (pv 1) pe_int (fun _ _ => rfl)) pa_nil))))
      (pss_cons (ps_set (i := 4) nd rfl (Or.inl rfl) (pe_callB (call_min2 rfl) (by rfl) M.min (by decide +kernel) (pa_cons (pe_op (opAdd K) (pe_ix (ixU K) (pv 0) pe_int (fun _ _ => rfl)) (pe_ix (ixU K) (pv 0) pe_int (fun _ _ => rfl))) (pa_cons (pe_op (opAdd K) (pe_ix (ixU K) (pv 1) pe_int (fun _ _ => rfl)) (pe_ix (ixU K) (pv 1) pe_int (fun _ _ => rfl))) pa_nil))))
      (pss_cons (ps_set (i := 5) nd rfl (Or.inl rfl) (pe_callB (call_min2 rfl) (by rfl) M.min (by decide +kernel) (pa_cons (pe_op (opAdd K) (pe_ix (ixU K) (pv 0) pe_int (fun _ _ => rfl)) (pe_ix (ixU K) (pv 0) pe_int (fun _ _ => rfl))) (pa_cons (pe_op (opAdd K) (pe_ix (ixU K) (pv 1) pe_int (fun _ _ => rfl)) (pe_ix (ixU K) (pv 1) pe_int (fun _ _ => rfl))) pa_nil))))
      (pss_cons (ps_if (PW.pt (pw_and (pt_cmpR op_lt (pv 2) (pv 4) (nomark _)) (pw_and1 (pt_cmpR op_lt (pv 3) (pv 5) (nomark _))))) (pss_one (ps_ret (pe_tup (pa_cons (pv 2) (pa_cons (pv 3) (pa_cons (pe_op op_sub (pv 4) (pv 2)) (pa_cons (pe_op op_sub (pv 5) (pv 3)) pa_nil))))))) pss_nil)
      (pss_one (ps_ret pe_non))))))),
    (rs_seq (rs_asg (re_call cs_max2 (ra_cons (re_op os_ix (re_var (i := 0)) re_int) (ra_cons (re_op os_ix (re_var (i := 1)) re_int) ra_nil))) (rg_name (i := 2)))
      (rs_seq (rs_asg (re_call cs_max2 (ra_cons (re_op os_ix (re_var (i := 0)) re_int) (ra_cons (re_op os_ix (re_var (i := 1)) re_int) ra_nil))) (rg_name (i := 3)))
      (rs_seq (rs_asg (re_call cs_min2 (ra_cons (re_op os_add (re_op os_ix (re_var (i := 0)) re_int) (re_op os_ix (re_var (i := 0)) re_int)) (ra_cons (re_op os_add (re_op os_ix (re_var (i := 1)) re_int) (re_op os_ix (re_var (i := 1)) re_int)) ra_nil))) (rg_name (i := 4)))
      (rs_seq (rs_asg (re_call cs_min2 (ra_cons (re_op os_add (re_op os_ix (re_var (i := 0)) re_int) (re_op os_ix (re_var (i := 0)) re_int)) (ra_cons (re_op os_add (re_op os_ix (re_var (i := 1)) re_int) (re_op os_ix (re_var (i := 1)) re_int)) ra_nil))) (rg_name (i := 5)))
      (rs_seq (rs_if (rt_and (rt_test (re_op os_cmp0 (re_var (i := 2)) (re_var (i := 4)))) (rt_test (re_op os_cmp0 (re_var (i := 3)) (re_var (i := 5))))) (rs_ret (re_tup (ra_cons (re_var (i := 2)) (ra_cons (re_var (i := 3)) (ra_cons (re_op os_sub (re_var (i := 4)) (re_var (i := 2))) (ra_cons (re_op os_sub (re_var (i := 5)) (re_var (i := 3))) ra_nil)))))) rs_next)
      (rs_ret re_non))))))⟩)
theorem df_law_reach (M : Blt mg) (A : At K mg "_law_reach" s_law_reach) (D_law_around : Df P w K mg base 3 "_law_around" ["shape", "points", "text"] (sp_law_around K)) (D_law_common : Df P w K mg base 1 "_law_common" ["first", "second"] (spU K f_law_common)) : Df P w K mg base 4 "_law_reach" ["item"] (spU K f_law_reach) := by
  have nd := sc_law_reach.nd
  exact Df.uni A (fun _ _ _ _ _ _ us hl => match us, hl with | [_], _ => rfl) sc_law_reach rfl (fun cdv A out f s H E hr hgd => ⟨_, (pss_cons (ps_set (i := 1) nd rfl (Or.inl rfl) (pe_df D_law_around (hr.mono (by decide)) hgd rfl (pa_cons (pe_ix (ixU K) (pv 0) pe_int (fun _ _ => rfl)) (pa_cons (pe_ix (ixU K) (pv 0) pe_int (fun _ _ => rfl)) (pa_cons (pe_ix (ixU K) (pv 0) pe_int (fun _ _ => rfl)) pa_nil)))))
      (pss_cons (ps_set (i := 2) nd rfl (Or.inl rfl) (pe_ix (ixU K) (pv 0) pe_int (fun _ _ => rfl)))
      (pss_cons (ps_if (pt_cmpR opIs (pv 2) pe_non (nomark _)) (pss_one (ps_set (i := 2) nd rfl (Or.inl rfl) (pv 1))) pss_nil)
      (pss_one (ps_ret (pe_df D_law_common (hr.mono (by decide)) hgd rfl (pa_cons (pv 1) (pa_cons (pv 2) pa_nil)))))))),
    (rs_seq (rs_asg (re_fnH br_around (ra_cons (re_op os_ix (re_var (i := 0)) re_int) (ra_cons (re_op os_ix (re_var (i := 0)) re_int) (ra_cons (re_op os_ix (re_var (i := 0)) re_int) ra_nil)))) (rg_name (i := 1)))
      (rs_seq (rs_asg (re_op os_ix (re_var (i := 0)) re_int) (rg_name (i := 2)))
      (rs_seq (rs_if (rt_test (re_op os_isX (re_var (i := 2)) re_non)) (rs_asg (re_var (i := 1)) (rg_name (i := 2))) rs_next)
      (rs_ret (re_fn (ra_cons (re_var (i := 1)) (ra_cons (re_var (i := 2)) ra_nil)))))))⟩)
end
section
variable {P : Program} {w : World} {K : PySem.W.Frag} {mg : Str → Option Value} {base : Heap}
theorem df_law_visible (M : Blt mg) (A : At K mg "_law_visible" s_law_visible) (D_law_reach : Df P w K mg base 4 "_law_reach" ["item"] (spU K f_law_reach)) (D_law_common : Df P w K mg base 1 "_law_common" ["first", "second"] (spU K f_law_common)) : Df P w K mg base 5 "_law_visible" ["scene", "item"] (spU K f_law_visible) := by
  have nd := sc_law_visible.nd
  exact Df.uni A (fun _ _ _ _ _ _ us hl => match us, hl with | [_, _], _ => rfl) sc_law_visible rfl (fun cdv A out f s H E hr hgd => ⟨_, (pss_cons (ps_set (i := 2) nd rfl (Or.inl rfl) (pe_df D_law_reach (hr.mono (by decide)) hgd rfl (pa_cons (pv 1) pa_nil)))
      (pss_cons (ps_if (pt_cmpR opIs (pv 2) pe_non (nomark _)) (pss_one (ps_ret pe_non)) pss_nil)
      (pss_one (ps_ret (pe_df D_law_common (hr.mono (by decide)) hgd rfl (pa_cons (pv 2) (pa_cons (pe_tup (pa_cons pe_int (pa_cons pe_int (pa_cons (pe_ix (ixU K) (pv 0) pe_int (fun _ _ => rfl)) (pa_cons (pe_ix (ixU K) (pv 0) pe_int (fun _ _ => rfl)) pa_nil))))) pa_nil))))))),
    (rs_seq (rs_asg (re_fn (ra_cons (re_var (i := 1)) ra_nil)) (rg_name (i := 2)))
      (rs_seq (rs_if (rt_test (re_op os_isX (re_var (i := 2)) re_non)) (rs_ret re_non) rs_next)
      (rs_ret (re_fn (ra_cons (re_var (i := 2)) (ra_cons (re_tup (ra_cons re_int (ra_cons re_int (ra_cons (re_op os_ix (re_var (i := 0)) re_int) (ra_cons (re_op os_ix (re_var (i := 0)) re_int) ra_nil))))) ra_nil))))))⟩)
theorem df_law_color (M : Blt mg) (A : At K mg "_law_color" s_law_color) (D_law_draw : Df P w K mg base 1 "_law_draw" ["tape", "many"] (sp_law_draw K)) : Df P w K mg base 2 "_law_color" ["tape"] (spU K f_law_color) := by
  have nd := sc_law_color.nd
  exact Df.uni A (fun _ _ _ _ _ _ us hl => match us, hl with | [_], _ => rfl) sc_law_color rfl (fun cdv A out f s H E hr hgd => ⟨_, (pss_cons (ps_set (i := 1) nd rfl (Or.inl rfl) (pe_df D_law_draw (hr.mono (by decide)) hgd rfl (pa_cons (pv 0) (pa_cons pe_int pa_nil))))
      (pss_cons (ps_set (i := 2) nd rfl (Or.inl rfl) pe_str)
      (pss_cons (ps_for PassesOwn.never rfl (pi_range1 rfl M.range (pa_cons pe_int pa_nil)) (pg_name (i := 3) nd rfl (Or.inl rfl)) (pss_cons (ps_set (i := 2) nd rfl (Or.inl rfl) (pe_op (opAdd K) (pe_ix (ixU K) pe_str (pe_op op_mod (pe_callTy call_int1 (by rfl) M.int (by decide +kernel) (pa_cons (pv 1) pa_nil)) pe_int) (fun _ _ => rfl)) (pv 2)))
      (pss_one (ps_set (i := 1) nd rfl (Or.inl rfl) (pe_op op_fdivW (pv 1) pe_int)))))
      (pss_one (ps_ret (pe_ix (ixU K) (pe_lst (pa_cons (pe_op (opAdd K) pe_str (pv 2)) (pa_cons pe_str (pa_cons pe_str (pa_cons pe_str (pa_cons pe_non pa_nil)))))) (pe_df D_law_draw (hr.mono (by decide)) hgd rfl (pa_cons (pv 0) (pa_cons pe_int pa_nil))) (fun _ _ => rfl))))))),
    (rs_seq (rs_asg (re_draw (ra_cons (re_var (i := 0)) (ra_cons re_int ra_nil))) (rg_name (i := 1)))
      (rs_seq (rs_asg re_str (rg_name (i := 2)))
      (rs_seq (rs_for (ri_rng1 (s := true) (ra_cons re_int ra_nil)) (rg_name (i := 3)) (rs_seq (rs_asg (re_op os_add (re_op os_ix re_str (re_op os_mod (re_call cs_int (ra_cons (re_var (i := 1)) ra_nil)) re_int)) (re_var (i := 2))) (rg_name (i := 2)))
      (rs_asg (re_op os_fdiv (re_var (i := 1)) re_int) (rg_name (i := 1)))))
      (rs_ret (re_op os_ix (re_lst (ra_cons (re_op os_add re_str (re_var (i := 2))) (ra_cons re_str (ra_cons re_str (ra_cons re_str (ra_cons re_non ra_nil)))))) (re_draw (ra_cons (re_var (i := 0)) (ra_cons re_int ra_nil))))))))⟩)
theorem df_law_clip (M : Blt mg) (A : At K mg "_law_clip" s_law_clip) (D_law_draw : Df P w K mg base 1 "_law_draw" ["tape", "many"] (sp_law_draw K)) : Df P w K mg base 2 "_law_clip" ["tape", "room"] (spU K f_law_clip) := by
  have nd := sc_law_clip.nd
  exact Df.uni A (fun _ _ _ _ _ _ us hl => match us, hl with | [_, _], _ => rfl) sc_law_clip rfl (fun cdv A out f s H E hr hgd => ⟨_, (pss_cons (ps_if (pt_cmpR (opEq K hr.units) (pe_df D_law_draw (hr.mono (by decide)) hgd rfl (pa_cons (pv 0) (pa_cons pe_int pa_nil))) pe_int (nomark _)) (pss_one (ps_ret pe_non)) pss_nil)
      (pss_one (ps_ret (pe_tup (pa_cons (pe_op op_sub (pe_df D_law_draw (hr.mono (by decide)) hgd rfl (pa_cons (pv 0) (pa_cons (pv 1) pa_nil))) pe_int) (pa_cons (pe_op op_sub (pe_df D_law_draw (hr.mono (by decide)) hgd rfl (pa_cons (pv 0) (pa_cons (pv 1) pa_nil))) pe_int) (pa_cons (pe_df D_law_draw (hr.mono (by decide)) hgd rfl (pa_cons (pv 0) (pa_cons (pv 1) pa_nil))) (pa_cons (pe_df D_law_draw (hr.mono (by decide)) hgd rfl (pa_cons (pv 0) (pa_cons (pv 1) pa_nil))) pa_nil)))))))),
    (rs_seq (rs_if (rt_test (re_op os_eq (re_draw (ra_cons (re_var (i := 0)) (ra_cons re_int ra_nil))) re_int)) (rs_ret re_non) rs_next)
      (rs_ret (re_tup (ra_cons (re_op os_sub (re_draw (ra_cons (re_var (i := 0)) (ra_cons (re_var (i := 1)) ra_nil))) re_int) (ra_cons (re_op os_sub (re_draw (ra_cons (re_var (i := 0)) (ra_cons (re_var (i := 1)) ra_nil))) re_int) (ra_cons (re_draw (ra_cons (re_var (i := 0)) (ra_cons (re_var (i := 1)) ra_nil))) (ra_cons (re_draw (ra_cons (re_var (i := 0)) (ra_cons (re_var (i := 1)) ra_nil))) ra_nil)))))))⟩)
end

theorem edges_eq (a : R) : f_edges [.val a.d] = .ret (.val (.tuple [.int a.l, .int a.t, .int (a.l + a.w), .int (a.t + a.h)])) := by
  unfold f_edges R.d
  walk_at "wk"
theorem common_eq (a b : R) : f_common [.val a.d, .val b.d] = .ret (.val (odata (com a b))) := by
  unfold f_common
  walk_at "wk"
  rw [edges_eq]
  walk_at "wk"
  rw [edges_eq]
  walk_at "wk"
  by_cases h : max a.l b.l < min (a.l + a.w) (b.l + b.w) ∧ max a.t b.t < min (a.t + a.h) (b.t + b.h)
  · rw [if_neg (by rw [decide_eq_false (by omega), decide_eq_false (by omega)]; decide)]
    unfold com
    rw [if_pos h]
    rfl
  · rw [if_pos (by simp only [Bool.or_eq_true, decide_eq_true_eq]; omega)]
    unfold com
    rw [if_neg h]
    rfl
theorem law_common_eq (a b : R) : f_law_common [.val a.d, .val b.d] = .ret (.val (odata (com a b))) := by
  unfold f_law_common R.d
  walk_at "wk"
  by_cases h : max a.l b.l < min (a.l + a.w) (b.l + b.w) ∧ max a.t b.t < min (a.t + a.h) (b.t + b.h)
  · rw [if_pos (by rw [decide_eq_true h.1, decide_eq_true h.2]; rfl)]
    unfold com
    rw [if_pos h]
    rfl
  · rw [if_neg (by simp only [Bool.and_eq_true, decide_eq_true_eq]; exact h)]
    unfold com
    rw [if_neg h]
    rfl
theorem law_inside_eq (a b : R) : f_law_inside [.val a.d, .val b.d] = .ret (.val (.bool (In a b))) := by
  unfold f_law_inside R.d
  walk_at "wk"
  unfold In
  by_cases h1 : a.l < b.l
  · rw [if_pos (by rw [decide_eq_true h1]; rfl), decide_eq_false (by omega)]; rfl
  · by_cases h2 : a.t < b.t
    · rw [if_pos (by rw [decide_eq_true h2, Bool.or_true]), decide_eq_false (show ¬ b.t ≤ a.t by omega)]
      simp
    · rw [if_neg (by rw [decide_eq_false h1, decide_eq_false h2]; decide), decide_eq_true (show b.l ≤ a.l by omega), decide_eq_true (show b.t ≤ a.t by omega)]
      by_cases h3 : b.l + b.w < a.l + a.w
      · rw [if_pos h3, decide_eq_false (show ¬ a.l + a.w ≤ b.l + b.w by omega)]; rfl
      · rw [if_neg h3, decide_eq_true (show a.l + a.w ≤ b.l + b.w by omega)]; rfl
theorem isN_od (o : Option R) : C.isN (.val (odata o)) = o.isNone := by cases o <;> rfl
/-! texts of signs -/
theorem atS_int {z : Str} {i : Int} (hl : z.length ≤ 16777216) (h0 : 0 ≤ i) {c : Nat} (h : z.cps.toList[i.toNat]? = some c) : atS z i = .ret (.val (.str ⟨#[c]⟩)) := by
  obtain ⟨hb, _⟩ := List.getElem?_eq_some_iff.mp h
  have e : atI z.cps.toList i = some c := by
    unfold atI
    have e : ixN z.cps.toList.length i = some i.toNat := by
      unfold ixN
      first
        | (simp [h0, hb]; done)
        | (rw [Array.length_toList] at *; simp only [h0, if_true]; rw [if_pos (by omega)])
        | (split <;> first | rfl | omega | (simp_all; omega))
    rw [e]
    exact h
  unfold atS
  rw [if_pos (lenOk_ok hl), e]
theorem small_app {a b : Str} (ha : smallStr a = true) (hb : smallStr b = true) : smallStr (a ++ b) = true := by
  unfold smallStr
  rw [show (a ++ b).cps.toList = a.cps.toList ++ b.cps.toList from Array.toList_append, List.all_append]
  exact Bool.and_eq_true_iff.mpr ⟨ha, hb⟩
theorem len_app {a b : Str} : (a ++ b).length = a.length + b.length := by
  show (a.cps ++ b.cps).size = _
  rw [Array.size_append]
  rfl
theorem hex_at {i : Int} (h0 : 0 ≤ i) (h1 : i < 16) : ∃ z : Str, smallStr z = true ∧ z.length = 1 ∧ atS (Str.ofString "0123456789abcdef") i = .ret (.val (.str z)) := by
  have e : (Str.ofString "0123456789abcdef").cps.toList = [48, 49, 50, 51, 52, 53, 54, 55, 56, 57, 97, 98, 99, 100, 101, 102] := by decide +kernel
  have hl : i.toNat < [48, 49, 50, 51, 52, 53, 54, 55, 56, 57, 97, 98, 99, 100, 101, 102].length := by simp only [List.length_cons, List.length_nil]; omega
  have hm := List.getElem_mem hl
  refine ⟨⟨#[_]⟩, ?_, rfl, atS_int (by decide +kernel) h0 (by rw [e]; exact List.getElem?_eq_getElem hl)⟩
  have : ∀ c ∈ [48, 49, 50, 51, 52, 53, 54, 55, 56, 57, 97, 98, 99, 100, 101, 102], c < 16 ^ 8 := by decide
  unfold smallStr
  simp only [List.all_cons, List.all_nil, Bool.and_true]
  exact decide_eq_true (this _ hm)
def ColOk (d : PyData) : Prop := d = .none ∨ ∃ z : Str, d = .str z ∧ smallStr z = true ∧ z.length ≤ 7
theorem ColOk.rep {d : PyData} (h : ColOk d) : RepOk d := by
  rcases h with rfl | ⟨z, rfl, h1, h2⟩
  · exact ⟨rfl, by simp [PyData.depth], by simp only [cost]; decide⟩
  · refine ⟨h1, by simp [PyData.depth], ?_⟩
    simp only [cost]
    have : sizeLine = 16777216 := by decide
    omega
theorem color_wp {α : Type} {k : C → M α} {Q : α → Prop} (q : ∀ d, ColOk d → wp (k (.val d)) Q) : wp ((f_law_color [.tape]).bind k) Q := by
  refine wp_call (fun c => ∃ d, ColOk d ∧ c = .val d) ?_ (by rintro c ⟨d, h1, rfl⟩; exact q d h1)
  refine wp_fn rfl ?_
  walk_at "we"
  refine wp_seqJ (fun ρ => ∃ n : Int, 0 ≤ n ∧ ρ = [some .tape, some (.val (.int n)), none, none]) ?_ ?_
  · walk_at "wk"
    refine wp_drawn (by decide) fun n n0 n1 => ?_
    walk_at "wk"
    exact ⟨n, n0, rfl⟩
  rintro ρ ⟨n, n0, rfl⟩
  refine wp_seqJ (fun ρ => ρ = [some .tape, some (.val (.int n)), some (.val (.str (Str.ofString ""))), none]) ?_ ?_
  · walk_at "wk"
    rfl
  rintro ρ rfl
  refine wp_seqJ (fun ρ => ∃ (n : Int) (z : Str) (y : Option C), smallStr z = true ∧ z.length ≤ 6 ∧ ρ = [some .tape, some (.val (.int n)), some (.val (.str z)), y]) ?_ ?_
  · walk_at "wk"
    rw [if_pos (rngOk_ok (by decide) (by decide))]
    walk_at "wk"
    refine wp_turns (n := 6) (fun i ρ => ∃ (n : Int) (z : Str) (y : Option C), 0 ≤ n ∧ smallStr z = true ∧ z.length ≤ i ∧ ρ = [some .tape, some (.val (.int n)), some (.val (.str z)), y]) ?_ ?_ ⟨n, _, none, n0, by decide +kernel, by decide +kernel, rfl⟩
    · rintro ρ ⟨n, z, y, m0, z1, z2, rfl⟩
      exact ⟨n, z, y, z1, z2, rfl⟩
    · clear n0
      rintro i ds ρ hi ⟨n, z, y, n0, z1, z2, rfl⟩
      walk_at "wk"
      rw [if_pos (cMod_ok (by decide))]
      walk_at "wk"
      obtain ⟨c, c1, c2, e⟩ := hex_at (Int.emod_nonneg n (show (16 : Int) ≠ 0 by decide)) (Int.emod_lt_of_pos n (by decide))
      rw [e]
      walk_at "wk"
      rw [if_pos (by omega)]
      walk_at "wk"
      rw [if_pos (cDiv_ok 5 (by decide) (by decide) (by decide) (by decide))]
      walk_at "wk"
      exact ⟨_, _, _, Int.ediv_nonneg n0 (by decide), small_app c1 z1, by rw [len_app]; omega, rfl⟩
  clear n0
  rintro ρ ⟨n, z, y, z1, z2, rfl⟩
  walk_at "wk"
  rw [if_pos (by rw [show (Str.ofString "#").length = 1 by decide +kernel]; omega)]
  walk_at "wk"
  refine wp_drawn (by decide) fun w w0 w1 => ?_
  walk_at "wk"
  refine wp_pick w0 (by simp only [List.length_cons, List.length_nil]; omega) fun d hd => ?_
  simp only [List.mem_cons, List.not_mem_nil, or_false] at hd
  rcases hd with rfl | rfl | rfl | rfl | rfl
  · walk_at "wk"
    exact ⟨_, .inr ⟨_, rfl, small_app (by decide +kernel) z1, by rw [len_app, show (Str.ofString "#").length = 1 by decide +kernel]; omega⟩, rfl⟩
  · walk_at "wk"
    exact ⟨_, .inr ⟨_, rfl, by decide +kernel, by decide +kernel⟩, rfl⟩
  · walk_at "wk"
    exact ⟨_, .inr ⟨_, rfl, by decide +kernel, by decide +kernel⟩, rfl⟩
  · walk_at "wk"
    exact ⟨_, .inr ⟨_, rfl, by decide +kernel, by decide +kernel⟩, rfl⟩
  · walk_at "wk"
    exact ⟨_, .inl rfl, rfl⟩
theorem clip_wp {m : Int} (m0 : 1 ≤ m) (m1 : m ≤ 100) {α : Type} {k : C → M α} {Q : α → Prop} (q : ∀ o, Small o → wp (k (.val (odata o))) Q) : wp ((f_law_clip [.tape, .val (.int m)]).bind k) Q := by
  unfold f_law_clip
  walk_at "wk"
  refine wp_drawn (by decide) fun n n0 n1 => ?_
  walk_at "wk"
  refine wp_ite (fun h => ?_) (fun h => ?_)
  · walk_at "wk"
    exact q none (fun _ z => by cases z)
  · walk_at "wk"
    refine wp_drawn (by omega) fun a a0 a1 => ?_
    walk_at "wk"
    refine wp_drawn (by omega) fun b b0 b1 => ?_
    walk_at "wk"
    refine wp_drawn (by omega) fun c c0 c1 => ?_
    walk_at "wk"
    refine wp_drawn (by omega) fun d d0 d1 => ?_
    walk_at "wk"
    refine q (some ⟨a - 2, b - 2, c, d⟩) fun r e => ?_
    cases e
    intro z hz
    simp only [List.mem_cons, List.not_mem_nil, or_false] at hz
    rcases hz with rfl | rfl | rfl | rfl <;> omega

/-- a primitive -/
structure Pm where
  a : PyData
  b : Str
  c : Str
  s : Sh
  fi : PyData
  st : PyData
  clip : Option R
def Pm.who (p : Pm) : PyData := .tuple [p.a, .str p.b, .str p.c]
def Pm.d (p : Pm) : PyData := .tuple [p.a, .str p.b, .str p.c, .str p.s.name, p.s.pD, .str (S p.s.txt), p.fi, p.st, odata p.clip]
def IdA (a : PyData) : Prop := a = .none ∨ ∃ i : Int, a = .int i ∧ 0 ≤ i ∧ i ≤ 99
structure IdOk (a : PyData) (b c : Str) : Prop where
  a_ : IdA a
  b1 : PyData.strOk b = true
  b2 : b.length ≤ 40
  c1 : PyData.strOk c = true
  c2 : c.length ≤ 40
structure PmOk (p : Pm) : Prop where
  id_ : IdOk p.a p.b p.c
  s_ : ShS p.s
  fi_ : ColOk p.fi
  st_ : ColOk p.st
  cl_ : Small p.clip
theorem ok_app {a b : Str} (ha : PyData.strOk a = true) (hb : PyData.strOk b = true) : PyData.strOk (a ++ b) = true := by
  unfold PyData.strOk at *
  rw [← Array.all_toList] at *
  rw [show (a ++ b).cps.toList = a.cps.toList ++ b.cps.toList from Array.toList_append, List.all_append]
  exact Bool.and_eq_true_iff.mpr ⟨ha, hb⟩
theorem ok_small {a : Str} (h : PyData.strOk a = true) : smallStr a = true := by
  unfold PyData.strOk at h
  unfold smallStr
  rw [← Array.all_toList] at h
  exact List.all_eq_true.mpr fun c hc => decide_eq_true (by have := of_decide_eq_true (List.all_eq_true.mp h c hc); omega)
theorem word_ok {l : List Nat} (h : Word l) : PyData.strOk (S l) = true := by
  unfold PyData.strOk
  rw [← Array.all_toList, S_codes]
  exact List.all_eq_true.mpr fun c hc => decide_eq_true (by have := alpha_small c (h c hc); omega)
theorem word_small {l : List Nat} (h : Word l) : smallStr (S l) = true := by
  unfold smallStr
  rw [S_codes]
  exact List.all_eq_true.mpr fun c hc => decide_eq_true (by have := alpha_small c (h c hc); omega)
theorem reach_wp {p : Pm} (ok : ShOk p.s) {α : Type} {k : C → M α} {Q : α → Prop} (q : ∀ r, IsBox p.s r → wp (k (.val (odata (rea r p.clip)))) Q) : wp ((f_reach [.val p.d]).bind k) Q := by
  obtain ⟨a, b, c, s, fi, st, o⟩ := p
  unfold f_reach Pm.d
  walk_at "wk"
  unfold f_surrounding
  walk_at "wk"
  refine around_wp ok fun r hr => ?_
  have hq := q r hr
  unfold rea at hq
  walk_at "wk"
  rw [isN_od]
  cases o with
  | none =>
    rw [show (none : Option R).isNone = true from rfl]
    walk_at "wk"
    rw [common_eq]
    walk_at "wk"
    exact hq
  | some c =>
    walk_at "wk"
    rw [show (some c).isNone = false from rfl]
    walk_at "wk"
    rw [show odata (some c) = c.d from rfl, common_eq]
    walk_at "wk"
    exact hq
def Sh.lp : Sh → Bool
  | .line .. => true
  | .poly .. => true
  | _ => false
def paint (p : Pm) (x y : Int) : PyData := if ((p.clip.all fun r => has r x y) && cov p.s x y) = true then (if p.s.lp = true then p.st else p.fi) else .none
def lpB (n : Str) : Bool := decide (n = Str.ofString "line") || decide (n = Str.ofString "polyline")
theorem lpB_name (s : Sh) : lpB s.name = s.lp := by
  cases s
  · show lpB (Str.ofString "rectangle") = false; decide +kernel
  · show lpB (Str.ofString "line") = true; decide +kernel
  · show lpB (Str.ofString "polyline") = true; decide +kernel
  · show lpB (Str.ofString "circle") = false; decide +kernel
  · show lpB (Str.ofString "text start") = false; decide +kernel
  · show lpB (Str.ofString "text middle") = false; decide +kernel
  · show lpB (Str.ofString "text end") = false; decide +kernel
theorem lp_or (s : Sh) : (decide (s.name = Str.ofString "line") || decide (s.name = Str.ofString "polyline")) = s.lp := lpB_name s
theorem eqv_str (a b : Str) : PyData.eqv (.str a) (.str b) = decide (b = a) := by
  simp only [PyData.eqv]
  by_cases h : a = b
  · subst h; simp
  · rw [decide_eq_false (fun z => h z.symm)]; simp [h]
theorem nm_ok (s : Sh) : PyData.strOk s.name = true := by
  cases s
  · show PyData.strOk (Str.ofString "rectangle") = true; decide +kernel
  · show PyData.strOk (Str.ofString "line") = true; decide +kernel
  · show PyData.strOk (Str.ofString "polyline") = true; decide +kernel
  · show PyData.strOk (Str.ofString "circle") = true; decide +kernel
  · show PyData.strOk (Str.ofString "text start") = true; decide +kernel
  · show PyData.strOk (Str.ofString "text middle") = true; decide +kernel
  · show PyData.strOk (Str.ofString "text end") = true; decide +kernel
theorem in_lpD (s : Sh) : oIn (.val (.str s.name)) (.val (.tuple [.str (Str.ofString "line"), .str (Str.ofString "polyline")])) = .ret (.val (.bool s.lp)) := by
  show oInD false (.str s.name) [.str (Str.ofString "line"), .str (Str.ofString "polyline")] = _
  unfold oInD
  have h1 : SeqAt.shaped (.str s.name) = true := by simp only [SeqAt.shaped, PyData.canLay0, PyData.depth, nm_ok s]; rfl
  have h2 : SeqAt.shaped (.list [.str (Str.ofString "line"), .str (Str.ofString "polyline")]) = true := by decide +kernel
  rw [if_pos (by rw [h1, h2]; rfl), ← lp_or s]
  simp only [List.any_cons, List.any_nil, eqv_str, Bool.or_false, Bool.false_xor]

theorem ne_same {x : Str} : oNe (.val (.str x)) (.val (.str x)) = .ret (.val (.bool false)) := by rw [oNe_s, decide_eq_true rfl]; rfl
theorem rd0 {r : R} : oIx (.val r.d) (.val (.int 0)) = .ret (.val (.int r.l)) := by unfold R.d; walk_at "pl"
theorem rd1 {r : R} : oIx (.val r.d) (.val (.int 1)) = .ret (.val (.int r.t)) := by unfold R.d; walk_at "pl"
theorem rd2 {r : R} : oIx (.val r.d) (.val (.int 2)) = .ret (.val (.int r.w)) := by unfold R.d; walk_at "pl"
theorem rd3 {r : R} : oIx (.val r.d) (.val (.int 3)) = .ret (.val (.int r.h)) := by unfold R.d; walk_at "pl"
theorem pmd3 {p : Pm} : oIx (.val p.d) (.val (.int 3)) = .ret (.val (.str p.s.name)) := by unfold Pm.d; walk_at "pl"
theorem pmd4 {p : Pm} : oIx (.val p.d) (.val (.int 4)) = .ret (.val p.s.pD) := by unfold Pm.d; walk_at "pl"
theorem pmd5 {p : Pm} : oIx (.val p.d) (.val (.int 5)) = .ret (.val (.str (S p.s.txt))) := by unfold Pm.d; walk_at "pl"
theorem pmd8 {p : Pm} : oIx (.val p.d) (.val (.int 8)) = .ret (.val (odata p.clip)) := by unfold Pm.d; walk_at "pl"
local macro_rules | `(tactic| walk_at "wa") => `(tactic| ((try walk_at "pl"); repeat (simp only [rd0, rd1, rd2, rd3, pmd3, pmd4, pmd5, pmd8, retB]; try walk_at "pl")))
theorem law_reach_wp {p : Pm} (ok : ShOk p.s) {α : Type} {k : C → M α} {Q : α → Prop} (q : ∀ r, IsBox p.s r → wp (k (.val (odata (rea r p.clip)))) Q) : wp ((f_law_reach [.val p.d]).bind k) Q := by
  unfold f_law_reach
  walk_at "wa"
  refine around_wp ok fun r hr => ?_
  have hq := q r hr
  unfold rea at hq
  walk_at "wa"
  rw [isN_od]
  cases ho : p.clip with
  | none =>
    rw [ho] at hq
    rw [show (none : Option R).isNone = true from rfl]
    walk_at "wk"
    rw [law_common_eq]
    walk_at "wk"
    exact hq
  | some c =>
    rw [ho] at hq
    rw [show (some c).isNone = false from rfl]
    walk_at "wk"
    rw [show odata (some c) = c.d from rfl, law_common_eq]
    walk_at "wk"
    exact hq
/-- a scene of a size -/
def scD (w h : Int) (ps : List PyData) : PyData := .tuple [.int w, .int h, .tuple ps]
theorem visible_wp {p : Pm} (ok : ShOk p.s) {w h : Int} {ps : List PyData} {α : Type} {k : C → M α} {Q : α → Prop} (q : ∀ r, IsBox p.s r → wp (k (.val (odata (vis r p.clip w h)))) Q) : wp ((f_visible_part [.val (scD w h ps), .val p.d]).bind k) Q := by
  unfold f_visible_part scD
  walk_at "wk"
  refine reach_wp ok fun r hr => ?_
  have hq := q r hr
  unfold vis at hq
  walk_at "wk"
  rw [isN_od]
  cases ho : rea r p.clip with
  | none =>
    rw [ho] at hq
    rw [show (none : Option R).isNone = true from rfl]
    walk_at "wk"
    exact hq
  | some c =>
    rw [ho] at hq
    rw [show (some c).isNone = false from rfl]
    walk_at "wk"
    rw [show odata (some c) = c.d from rfl, show PyData.tuple [.int 0, .int 0, .int w, .int h] = R.d ⟨0, 0, w, h⟩ from rfl, common_eq]
    walk_at "wk"
    exact hq
theorem law_visible_wp {p : Pm} (ok : ShOk p.s) {w h : Int} {ps : List PyData} {α : Type} {k : C → M α} {Q : α → Prop} (q : ∀ r, IsBox p.s r → wp (k (.val (odata (vis r p.clip w h)))) Q) : wp ((f_law_visible [.val (scD w h ps), .val p.d]).bind k) Q := by
  unfold f_law_visible scD
  walk_at "wk"
  refine law_reach_wp ok fun r hr => ?_
  have hq := q r hr
  unfold vis at hq
  walk_at "wk"
  rw [isN_od]
  cases ho : rea r p.clip with
  | none =>
    rw [ho] at hq
    rw [show (none : Option R).isNone = true from rfl]
    walk_at "wk"
    exact hq
  | some c =>
    rw [ho] at hq
    rw [show (some c).isNone = false from rfl]
    walk_at "wk"
    rw [show odata (some c) = c.d from rfl, show PyData.tuple [.int 0, .int 0, .int w, .int h] = R.d ⟨0, 0, w, h⟩ from rfl, law_common_eq]
    walk_at "wk"
    exact hq
/-- a primitive of the law's -/
structure PmW (p : Pm) : Prop where
  ok : ShOk p.s
  sm : ∀ z ∈ p.s.pts, -30000 ≤ z ∧ z ≤ 30000
  cl : ∀ q, p.clip = some q → Big q
theorem PmW.box {p : Pm} (h : PmW p) {r : R} (hr : IsBox p.s r) : Big r := fun z hz => by have := wide_box hr h.ok h.sm z hz; omega
theorem map_snoc {δ : Type} (f : δ → PyData) (xs : List δ) (x : δ) : xs.map f ++ [f x] = (xs ++ [x]).map f := by rw [List.map_append]; rfl
theorem law_true : wp (m_law ([none, some .tape] ++ List.replicate 9 none)) (fun r => r = .rt (.val (.bool true))) := by
  unfold m_law
  walk_at "we"
  refine wp_seqJ (fun ρ => ∃ w h : Int, (0 ≤ w ∧ w ≤ 100) ∧ (0 ≤ h ∧ h ≤ 100) ∧ ρ = [none, some .tape, some (.val (scD w h [])), none, none, none, none, none, none, none, none]) ?_ ?_
  · walk_at "wk"
    refine wp_drawn (by decide) fun w w0 w1 => ?_
    walk_at "wk"
    refine wp_drawn (by decide) fun h h0 h1 => ?_
    walk_at "wk"
    exact ⟨w, h, by omega, by omega, rfl⟩
  rintro ρ ⟨w, h, hw, hh, rfl⟩
  refine wp_seqJ (fun ρ => ∃ far : Int, 0 ≤ far ∧ far ≤ 19000 ∧ ρ = [none, some .tape, some (.val (scD w h [])), some (.val (.int far)), none, none, none, none, none, none, none]) ?_ ?_
  · walk_at "wk"
    refine wp_drawn (by decide) fun n n0 n1 => ?_
    walk_at "wk"
    refine wp_pick n0 (by simp only [List.length_cons, List.length_nil]; omega) fun d hd => ?_
    have : ∃ j : Int, d = .int j ∧ 0 ≤ j ∧ j ≤ 19000 := by
      simp only [List.mem_cons, List.not_mem_nil, or_false] at hd
      rcases hd with rfl | rfl | rfl | rfl <;> exact ⟨_, rfl, by decide, by decide⟩
    obtain ⟨j, rfl, j0, j1⟩ := this
    walk_at "wk"
    exact ⟨j, j0, j1, rfl⟩
  rintro ρ ⟨far, f0, f1, rfl⟩
  refine wp_seqJ (fun ρ => ρ = [none, some .tape, some (.val (scD w h [])), some (.val (.int far)), some (.own (.lst (([] : List Pm).map Pm.d))), none, none, none, none, none, none]) ?_ ?_
  · walk_at "wk"
    rfl
  rintro ρ rfl
  refine wp_seqJ (fun ρ => ∃ (ps : List Pm) (z5 z6 z7 z8 z9 z10 : Option C), (∀ p ∈ ps, PmW p) ∧ ps.length ≤ 10 ∧ ρ = [none, some .tape, some (.val (scD w h [])), some (.val (.int far)), some (.own (.lst (ps.map Pm.d))), z5, z6, z7, z8, z9, z10]) ?_ ?_
  · walk_at "wk"
    refine wp_drawn (by decide) fun n n0 n1 => ?_
    walk_at "wk"
    rw [if_pos (rngOk_ok (by omega) (by omega))]
    walk_at "wk"
    refine wp_turns (n := (1 + n).toNat) (fun i ρ => ∃ (ps : List Pm) (z5 z6 z7 z8 z9 z10 : Option C), (∀ p ∈ ps, PmW p) ∧ ps.length ≤ i ∧ ρ = [none, some .tape, some (.val (scD w h [])), some (.val (.int far)), some (.own (.lst (ps.map Pm.d))), z5, z6, z7, z8, z9, z10]) ?_ ?_ ⟨[], none, none, none, none, none, none, by simp, Nat.le_refl _, rfl⟩
    · rintro ρ ⟨ps, z5, z6, z7, z8, z9, z10, hp, hl, rfl⟩
      exact ⟨ps, z5, z6, z7, z8, z9, z10, hp, by omega, rfl⟩
    rintro i ds ρ hi ⟨ps, z5, z6, z7, z8, z9, z10, hp, hl, rfl⟩
    walk_at "we"
    refine wp_seqJ (fun ρ => ∃ s, ShS s ∧ ρ = [none, some .tape, some (.val (scD w h [])), some (.val (.int far)), some (.own (.lst (ps.map Pm.d))), some (.val (.int (0 + (i : Int) * 1))), some (.val s.d), z7, z8, z9, z10]) ?_ ?_
    · walk_at "wk"
      refine form_wp (by decide) (by decide) fun s hs => ?_
      walk_at "wk"
      exact ⟨s, hs, rfl⟩
    rintro ρ ⟨s, hs, rfl⟩
    refine wp_seqJ (fun ρ => ∃ o, Small o ∧ ρ = [none, some .tape, some (.val (scD w h [])), some (.val (.int far)), some (.own (.lst (ps.map Pm.d))), some (.val (.int (0 + (i : Int) * 1))), some (.val s.d), some (.val (odata o)), z8, z9, z10]) ?_ ?_
    · walk_at "wk"
      refine clip_wp (by decide) (by decide) fun o ho => ?_
      walk_at "wk"
      exact ⟨o, ho, rfl⟩
    rintro ρ ⟨o, ho, rfl⟩
    refine wp_seqJ (fun ρ => ∃ o : Option R, (∀ q, o = some q → Big q) ∧ ρ = [none, some .tape, some (.val (scD w h [])), some (.val (.int far)), some (.own (.lst (ps.map Pm.d))), some (.val (.int (0 + (i : Int) * 1))), some (.val s.d), some (.val (odata o)), z8, z9, z10]) ?_ ?_
    · walk_at "wk"
      rw [isN_od]
      cases o with
      | none =>
        rw [show (none : Option R).isNone = true from rfl]
        walk_at "wk"
        exact ⟨none, (fun q e => by cases e), rfl⟩
      | some c =>
        rw [show (some c).isNone = false from rfl]
        walk_at "wk"
        rw [show odata (some c) = c.d from rfl]
        walk_at "wa"
        have hc := ho c rfl
        have c1 := hc c.l (by simp)
        have c2 := hc c.t (by simp)
        have c3 := hc c.w (by simp)
        have c4 := hc c.h (by simp)
        refine ⟨some ⟨c.l + far, c.t + far, c.w, c.h⟩, fun q e => ?_, rfl⟩
        cases e
        intro z hz
        simp only [List.mem_cons, List.not_mem_nil, or_false] at hz
        rcases hz with rfl | rfl | rfl | rfl <;> omega
    clear ho
    rintro ρ ⟨o, ho, rfl⟩
    refine wp_seqJ (fun ρ => ρ = [none, some .tape, some (.val (scD w h [])), some (.val (.int far)), some (.own (.lst (ps.map Pm.d))), some (.val (.int (0 + (i : Int) * 1))), some (.val s.d), some (.val (odata o)), some (.val (s.mv far far).pD), z9, z10]) ?_ ?_
    · unfold Sh.d
      walk_at "wk"
      refine shifted_wp hs.ok.plen ?_
      walk_at "wk"
      rfl
    rintro ρ rfl
    unfold Sh.d
    walk_at "wk"
    refine color_wp fun fi _ => ?_
    walk_at "wk"
    refine color_wp fun st _ => ?_
    walk_at "wk"
    rw [if_pos (by rw [List.length_map]; omega)]
    have e : PyData.tuple [.int (0 + (i : Int) * 1), .str (Str.ofString "mark 0"), .str (Str.ofString ""), .str s.name, (s.mv far far).pD, .str (S s.txt), fi, st, odata o] = Pm.d ⟨.int (0 + (i : Int) * 1), Str.ofString "mark 0", Str.ofString "", s.mv far far, fi, st, o⟩ := by
      unfold Pm.d
      rw [Sh.mv_name, Sh.mv_txt]
    rw [e, map_snoc]
    walk_at "wk"
    refine ⟨_, _, _, _, _, _, _, fun p hq => ?_, ?_, rfl⟩
    · rcases List.mem_append.mp hq with g | g
      · exact hp p g
      · rw [List.mem_singleton.mp g]
        exact ⟨⟨by rw [Sh.mv_txt]; exact hs.ok.word, by rw [Sh.mv_txt]; exact hs.ok.tlen, by rw [Sh.mv_len]; exact hs.ok.plen⟩, mv_sm hs.sm (by omega) (by omega), ho⟩
    · rw [List.length_append]; simp only [List.length_cons, List.length_nil]; omega
  rintro ρ ⟨ps, z5, z6, z7, z8, z9, z10, hp, hl, rfl⟩
  refine wp_seqJ (fun ρ => ∃ qs, ρ = [none, some .tape, some (.val (scD w h qs)), some (.val (.int far)), some (.own (.lst (ps.map Pm.d))), z5, z6, z7, z8, z9, z10]) ?_ ?_
  · unfold scD
    walk_at "wk"
    refine wp_drawn (by decide) fun n n0 n1 => ?_
    walk_at "wk"
    refine wp_pick n0 (by simp only [List.length_cons, List.length_nil]; omega) fun d hd => ?_
    simp only [List.mem_cons, List.not_mem_nil, or_false] at hd
    rcases hd with rfl | rfl
    · walk_at "wk"
      exact ⟨_, rfl⟩
    · walk_at "wk"
      exact ⟨_, rfl⟩
  rintro ρ ⟨qs, rfl⟩
  refine wp_seqJ (fun ρ => True) ?_ (fun ρ _ => by walk_at "wk")
  walk_at "wk"
  refine wp_over Pm.d (fun ps' ρ => (∀ p ∈ ps', PmW p) ∧ ∃ z9 z10, ρ = [none, some .tape, some (.val (scD w h qs)), some (.val (.int far)), some (.bor (.lst (ps.map Pm.d))), z5, z6, z7, z8, z9, z10]) (fun ρ _ => trivial) ?_ ⟨hp, _, _, rfl⟩
  rintro p ps' ρ ⟨hps, z9, z10, rfl⟩
  have hP := hps p List.mem_cons_self
  have htl : ∀ q ∈ ps', PmW q := fun q hq => hps q (List.mem_cons_of_mem _ hq)
  walk_at "wk"
  refine reach_wp hP.ok fun r hr => ?_
  walk_at "wk"
  refine visible_wp hP.ok fun r' hr' => ?_
  have e := hr'.one hr
  subst e
  walk_at "wk"
  have rp := pair_rep (rea_rep (hP.box hr) hP.cl) (vis_rep (hP.box hr) hP.cl hw hh)
  rw [repr_ok rp]
  walk_at "wk"
  refine law_reach_wp hP.ok fun r2 hr2 => ?_
  have e := hr2.one hr
  subst e
  walk_at "wk"
  refine law_visible_wp hP.ok fun r3 hr3 => ?_
  have e := hr3.one hr
  subst e
  walk_at "wk"
  try rw [repr_ok rp]
  walk_at "wk"
  try rw [ne_same]
  walk_at "wk"
  rw [isN_od]
  cases hv : vis r3 p.clip w h with
  | none =>
    rw [show (none : Option R).isNone = true from rfl]
    walk_at "wk"
    exact ⟨htl, _, _, rfl⟩
  | some v =>
    obtain ⟨c, hc⟩ := vis_some hv
    obtain ⟨i1, i2⟩ := vis_in hc hv
    rw [show (some v).isNone = false from rfl, hc]
    walk_at "wk"
    rw [show odata (some v) = v.d from rfl, show odata (some c) = c.d from rfl, law_inside_eq, i1]
    walk_at "wk"
    unfold scD
    walk_at "wk"
    rw [show PyData.tuple [.int 0, .int 0, .int w, .int h] = R.d ⟨0, 0, w, h⟩ from rfl, law_inside_eq, i2]
    walk_at "wk"
    exact ⟨htl, _, _, rfl⟩

section
variable {P : Program} {w : World} {K : PySem.W.Frag} {mg : Str → Option Value} {base : Heap}
theorem fn_law {f : Addr} {fd : FuncData} (M : Blt mg) (F : Fun K "law" "law" s_law f fd) (D_law_tape : Df P w K mg base 1 "_law_tape" ["script"] (sp_law_tape K)) (D_law_draw : Df P w K mg base 1 "_law_draw" ["tape", "many"] (sp_law_draw K)) (D_law_form : Df P w K mg base 3 "_law_form" ["tape", "room"] (sp_law_form K)) (D_law_clip : Df P w K mg base 2 "_law_clip" ["tape", "room"] (spU K f_law_clip)) (D_law_shifted : Df P w K mg base 1 "_law_shifted" ["shape", "points", "x", "y"] (sp_law_shifted K)) (D_reach : Df P w K mg base 6 "reach" ["primitive"] (spU K f_reach)) (D_visible_part : Df P w K mg base 7 "visible_part" ["scene", "primitive"] (spU K f_visible_part)) (D_law_color : Df P w K mg base 2 "_law_color" ["tape"] (spU K f_law_color)) (D_law_reach : Df P w K mg base 4 "_law_reach" ["item"] (spU K f_law_reach)) (D_law_visible : Df P w K mg base 5 "_law_visible" ["scene", "item"] (spU K f_law_visible)) (D_law_inside : Df P w K mg base 1 "_law_inside" ["one", "area"] (spU K f_law_inside)) : FnG P w K mg base 8 f fd ["script"] (spLaw K) := by
  have nd := sc_law.nd
  refine FnG.of F sc_law (fun vs H Q E h => ?_) (fun cdv A out s H vs Q E hr hgd h => ?_)
  · obtain ⟨a, ns, rfl, _⟩ := h
    rfl
  · obtain ⟨a, ns, rfl, hS, hlen, q⟩ := h
    refine ⟨_, pss_cons (ps_set (i := 1) nd rfl (Or.inl rfl) (pe_df D_law_tape (hr.mono (by decide)) hgd rfl (pa_cons (pv 0) pa_nil)))
      (pss_cons (ps_set (i := 2) nd rfl (Or.inl rfl) (pe_tup (pa_cons (pe_df D_law_draw (hr.mono (by decide)) hgd rfl (pa_cons (pv 1) (pa_cons pe_int pa_nil))) (pa_cons (pe_df D_law_draw (hr.mono (by decide)) hgd rfl (pa_cons (pv 1) (pa_cons pe_int pa_nil))) (pa_cons (pe_tup pa_nil) pa_nil)))))
      (pss_cons (ps_set (i := 3) nd rfl (Or.inl rfl) (pe_ix (ixU K) (pe_lst (pa_cons pe_int (pa_cons pe_int (pa_cons pe_int (pa_cons pe_int pa_nil))))) (pe_df D_law_draw (hr.mono (by decide)) hgd rfl (pa_cons (pv 1) (pa_cons pe_int pa_nil))) (fun _ _ => rfl)))
      (pss_cons (ps_set (i := 4) nd rfl (Or.inl rfl) (pe_lst pa_nil))
      (pss_cons (ps_for PassesOwn.never rfl (pi_range1 rfl M.range (pa_cons (pe_op (opAdd K) pe_int (pe_df D_law_draw (hr.mono (by decide)) hgd rfl (pa_cons (pv 1) (pa_cons pe_int pa_nil)))) pa_nil)) (pg_name (i := 5) nd rfl (Or.inl rfl)) (pss_cons (ps_set (i := 6) nd rfl (Or.inl rfl) (pe_df D_law_form (hr.mono (by decide)) hgd rfl (pa_cons (pv 1) (pa_cons pe_int pa_nil))))
      (pss_cons (ps_set (i := 7) nd rfl (Or.inl rfl) (pe_df D_law_clip (hr.mono (by decide)) hgd rfl (pa_cons (pv 1) (pa_cons pe_int pa_nil))))
      (pss_cons (ps_if (pt_cmpR opIsNot (pv 7) pe_non (nomark _)) (pss_one (ps_set (i := 7) nd rfl (Or.inl rfl) (pe_tup (pa_cons (pe_op (opAdd K) (pe_ix (ixU K) (pv 7) pe_int (fun _ _ => rfl)) (pv 3)) (pa_cons (pe_op (opAdd K) (pe_ix (ixU K) (pv 7) pe_int (fun _ _ => rfl)) (pv 3)) (pa_cons (pe_ix (ixU K) (pv 7) pe_int (fun _ _ => rfl)) (pa_cons (pe_ix (ixU K) (pv 7) pe_int (fun _ _ => rfl)) pa_nil))))))) pss_nil)
      (pss_cons (ps_set (i := 8) nd rfl (Or.inl rfl) (pe_df D_law_shifted (hr.mono (by decide)) hgd rfl (pa_cons (pe_ix (ixU K) (pv 6) pe_int (fun _ _ => rfl)) (pa_cons (pe_ix (ixU K) (pv 6) pe_int (fun _ _ => rfl)) (pa_cons (pv 3) (pa_cons (pv 3) pa_nil))))))
      (pss_one (ps_expr (pe_bm PySem.F.plainAttrs_list PySem.F.slot_list_append PySem.F.type_list_append mt_append (pv 4) (pa_cons (pe_tup (pa_cons (pv 5) (pa_cons pe_str (pa_cons pe_str (pa_cons (pe_ix (ixU K) (pv 6) pe_int (fun _ _ => rfl)) (pa_cons (pv 8) (pa_cons (pe_ix (ixU K) (pv 6) pe_int (fun _ _ => rfl)) (pa_cons (pe_df D_law_color (hr.mono (by decide)) hgd rfl (pa_cons (pv 1) pa_nil)) (pa_cons (pe_df D_law_color (hr.mono (by decide)) hgd rfl (pa_cons (pv 1) pa_nil)) (pa_cons (pv 7) pa_nil)))))))))) pa_nil)))))))))
      (pss_cons (ps_set (i := 2) nd rfl (Or.inl rfl) (pe_ix (ixU K) (pe_lst (pa_cons (pv 2) (pa_cons (pe_tup (pa_cons (pe_ix (ixU K) (pv 2) pe_int (fun _ _ => rfl)) (pa_cons (pe_ix (ixU K) (pv 2) pe_int (fun _ _ => rfl)) (pa_cons (pe_callTy (tupK K) (by rfl) M.tuple (by decide +kernel) (pa_cons (pv 4) pa_nil)) pa_nil)))) pa_nil))) (pe_df D_law_draw (hr.mono (by decide)) hgd rfl (pa_cons (pv 1) (pa_cons pe_int pa_nil))) (fun _ _ => rfl)))
      (pss_cons (ps_for PassesOwn.never rfl (pi_seq K (pv 4)) (pg_name (i := 9) nd rfl (Or.inl rfl)) (pss_cons (ps_set (i := 10) nd rfl (Or.inl rfl) (pe_tup (pa_cons (pe_df D_reach (hr.mono (by decide)) hgd rfl (pa_cons (pv 9) pa_nil)) (pa_cons (pe_df D_visible_part (hr.mono (by decide)) hgd rfl (pa_cons (pv 2) (pa_cons (pv 9) pa_nil))) pa_nil))))
      (pss_cons (ps_if (pt_cmpR (opNe K hr.units) (pe_callB (reprK K hr.units hgd) (by rfl) M.repr (by decide +kernel) (pa_cons (pv 10) pa_nil)) (pe_callB (reprK K hr.units hgd) (by rfl) M.repr (by decide +kernel) (pa_cons (pe_tup (pa_cons (pe_df D_law_reach (hr.mono (by decide)) hgd rfl (pa_cons (pv 9) pa_nil)) (pa_cons (pe_df D_law_visible (hr.mono (by decide)) hgd rfl (pa_cons (pv 2) (pa_cons (pv 9) pa_nil))) pa_nil))) pa_nil)) (nomark _)) (pss_one (ps_ret pe_bl)) pss_nil)
      (pss_one (ps_if (pt_cmpR opIsNot (pe_ix (ixU K) (pv 10) pe_int (fun _ _ => rfl)) pe_non (nomark _)) (pss_one (ps_if (PW.pt (pw_or (pt_not (truK K (pe_df D_law_inside (hr.mono (by decide)) hgd rfl (pa_cons (pe_ix (ixU K) (pv 10) pe_int (fun _ _ => rfl)) (pa_cons (pe_ix (ixU K) (pv 10) pe_int (fun _ _ => rfl)) pa_nil))))) (pw_or1 (pt_not (truK K (pe_df D_law_inside (hr.mono (by decide)) hgd rfl (pa_cons (pe_ix (ixU K) (pv 10) pe_int (fun _ _ => rfl)) (pa_cons (pe_tup (pa_cons pe_int (pa_cons pe_int (pa_cons (pe_ix (ixU K) (pv 2) pe_int (fun _ _ => rfl)) (pa_cons (pe_ix (ixU K) (pv 2) pe_int (fun _ _ => rfl)) pa_nil))))) pa_nil)))))))) (pss_one (ps_ret pe_bl)) pss_nil)) pss_nil)))))
      (pss_one (ps_ret pe_bl)))))))), at_start (σ := [some (.ref a), none] ++ List.replicate 9 none) rfl ?_⟩
    exact law_go (k := 9) (m := m_law) (ns := ns)
      (rs_seq (rs_asg (re_tup (ra_cons (re_draw (ra_cons (re_var (i := 1)) (ra_cons re_int ra_nil))) (ra_cons (re_draw (ra_cons (re_var (i := 1)) (ra_cons re_int ra_nil))) (ra_cons (re_tup ra_nil) ra_nil)))) (rg_name (i := 2)))
      (rs_seq (rs_asg (re_op os_ix (re_lst (ra_cons re_int (ra_cons re_int (ra_cons re_int (ra_cons re_int ra_nil))))) (re_draw (ra_cons (re_var (i := 1)) (ra_cons re_int ra_nil)))) (rg_name (i := 3)))
      (rs_seq (rs_asg (re_lst ra_nil) (rg_name (i := 4)))
      (rs_seq (rs_for (ri_rng1 (s := true) (ra_cons (re_op os_add re_int (re_draw (ra_cons (re_var (i := 1)) (ra_cons re_int ra_nil)))) ra_nil)) (rg_name (i := 5)) (rs_seq (rs_asg (re_fnH br_law_form (ra_cons (re_var (i := 1)) (ra_cons re_int ra_nil))) (rg_name (i := 6)))
      (rs_seq (rs_asg (re_fn (ra_cons (re_var (i := 1)) (ra_cons re_int ra_nil))) (rg_name (i := 7)))
      (rs_seq (rs_if (rt_test (re_op os_isX (re_var (i := 7)) re_non)) (rs_asg (re_tup (ra_cons (re_op os_add (re_op os_ix (re_var (i := 7)) re_int) (re_var (i := 3))) (ra_cons (re_op os_add (re_op os_ix (re_var (i := 7)) re_int) (re_var (i := 3))) (ra_cons (re_op os_ix (re_var (i := 7)) re_int) (ra_cons (re_op os_ix (re_var (i := 7)) re_int) ra_nil))))) (rg_name (i := 7))) rs_next)
      (rs_seq (rs_asg (re_fnH br_law_shifted (ra_cons (re_op os_ix (re_var (i := 6)) re_int) (ra_cons (re_op os_ix (re_var (i := 6)) re_int) (ra_cons (re_var (i := 3)) (ra_cons (re_var (i := 3)) ra_nil))))) (rg_name (i := 8)))
      (rs_app (i := 4) (re_tup (ra_cons (re_var (i := 5)) (ra_cons re_str (ra_cons re_str (ra_cons (re_op os_ix (re_var (i := 6)) re_int) (ra_cons (re_var (i := 8)) (ra_cons (re_op os_ix (re_var (i := 6)) re_int) (ra_cons (re_fn (ra_cons (re_var (i := 1)) ra_nil)) (ra_cons (re_fn (ra_cons (re_var (i := 1)) ra_nil)) (ra_cons (re_var (i := 7)) ra_nil))))))))))))))))
      (rs_seq (rs_asg (re_op os_ix (re_lst (ra_cons (re_var (i := 2)) (ra_cons (re_tup (ra_cons (re_op os_ix (re_var (i := 2)) re_int) (ra_cons (re_op os_ix (re_var (i := 2)) re_int) (ra_cons (re_call cs_tuple (ra_cons (re_var (i := 4)) ra_nil)) ra_nil)))) ra_nil))) (re_draw (ra_cons (re_var (i := 1)) (ra_cons re_int ra_nil)))) (rg_name (i := 2)))
      (rs_seq (rs_forV (i := 4) (rg_name (i := 9)) (rs_seq (rs_asg (re_tup (ra_cons (re_fn (ra_cons (re_var (i := 9)) ra_nil)) (ra_cons (re_fn (ra_cons (re_var (i := 2)) (ra_cons (re_var (i := 9)) ra_nil))) ra_nil))) (rg_name (i := 10)))
      (rs_seq (rs_if (rt_test (re_op os_ne (re_call cs_repr (ra_cons (re_var (i := 10)) ra_nil)) (re_call cs_repr (ra_cons (re_tup (ra_cons (re_fn (ra_cons (re_var (i := 9)) ra_nil)) (ra_cons (re_fn (ra_cons (re_var (i := 2)) (ra_cons (re_var (i := 9)) ra_nil))) ra_nil))) ra_nil)))) (rs_ret re_bl) rs_next)
      (rs_if (rt_test (re_op os_isX (re_op os_ix (re_var (i := 10)) re_int) re_non)) (rs_if (rt_or (rt_not (rt_tru (re_fn (ra_cons (re_op os_ix (re_var (i := 10)) re_int) (ra_cons (re_op os_ix (re_var (i := 10)) re_int) ra_nil))))) (rt_not (rt_tru (re_fn (ra_cons (re_op os_ix (re_var (i := 10)) re_int) (ra_cons (re_tup (ra_cons re_int (ra_cons re_int (ra_cons (re_op os_ix (re_var (i := 2)) re_int) (ra_cons (re_op os_ix (re_var (i := 2)) re_int) ra_nil))))) ra_nil)))))) (rs_ret re_bl) rs_next) rs_next))))
      (rs_ret re_bl)))))))
      hS hlen (wp_out law_true) q
end

theorem all_mk {l : PySem.W.OpenLaw} {w : World} {K : PySem.W.Frag} {h : Heap} {mg : Str → Option Value} {fa : Addr} (X : K.In h) (G : h.Ns mainGlobals mg) (hfa : mg "law" = some (.ref fa))
    {f_common f_edges f_glyph_width f_text_width f_around f_around_points f_around_text f_surrounding f_reach f_visible_part f_law_tape f_law_draw f_law_inside f_law_common f_law_sign_width f_law_width f_law_around f_law_reach f_law_visible f_law_word f_law_color f_law_form f_law_clip f_law_shifted f_law : Addr}
    {od_common an_common : Option Addr} {sl_common : Array (Option Value)} {oc_common kV_common dc_common pm_common cd_common ct_common : Value}
    {od_edges an_edges : Option Addr} {sl_edges : Array (Option Value)} {oc_edges kV_edges dc_edges pm_edges cd_edges ct_edges : Value}
    {od_glyph_width an_glyph_width : Option Addr} {sl_glyph_width : Array (Option Value)} {oc_glyph_width kV_glyph_width dc_glyph_width pm_glyph_width cd_glyph_width ct_glyph_width : Value}
    {od_text_width an_text_width : Option Addr} {sl_text_width : Array (Option Value)} {oc_text_width kV_text_width dc_text_width pm_text_width cd_text_width ct_text_width : Value}
    {od_around an_around : Option Addr} {sl_around : Array (Option Value)} {oc_around kV_around dc_around pm_around cd_around ct_around : Value}
    {od_around_points an_around_points : Option Addr} {sl_around_points : Array (Option Value)} {oc_around_points kV_around_points dc_around_points pm_around_points cd_around_points ct_around_points : Value}
    {od_around_text an_around_text : Option Addr} {sl_around_text : Array (Option Value)} {oc_around_text kV_around_text dc_around_text pm_around_text cd_around_text ct_around_text : Value}
    {od_surrounding an_surrounding : Option Addr} {sl_surrounding : Array (Option Value)} {oc_surrounding kV_surrounding dc_surrounding pm_surrounding cd_surrounding ct_surrounding : Value}
    {od_reach an_reach : Option Addr} {sl_reach : Array (Option Value)} {oc_reach kV_reach dc_reach pm_reach cd_reach ct_reach : Value}
    {od_visible_part an_visible_part : Option Addr} {sl_visible_part : Array (Option Value)} {oc_visible_part kV_visible_part dc_visible_part pm_visible_part cd_visible_part ct_visible_part : Value}
    {od_law_tape an_law_tape : Option Addr} {sl_law_tape : Array (Option Value)} {oc_law_tape kV_law_tape dc_law_tape pm_law_tape cd_law_tape ct_law_tape : Value}
    {od_law_draw an_law_draw : Option Addr} {sl_law_draw : Array (Option Value)} {oc_law_draw kV_law_draw dc_law_draw pm_law_draw cd_law_draw ct_law_draw : Value}
    {od_law_inside an_law_inside : Option Addr} {sl_law_inside : Array (Option Value)} {oc_law_inside kV_law_inside dc_law_inside pm_law_inside cd_law_inside ct_law_inside : Value}
    {od_law_common an_law_common : Option Addr} {sl_law_common : Array (Option Value)} {oc_law_common kV_law_common dc_law_common pm_law_common cd_law_common ct_law_common : Value}
    {od_law_sign_width an_law_sign_width : Option Addr} {sl_law_sign_width : Array (Option Value)} {oc_law_sign_width kV_law_sign_width dc_law_sign_width pm_law_sign_width cd_law_sign_width ct_law_sign_width : Value}
    {od_law_width an_law_width : Option Addr} {sl_law_width : Array (Option Value)} {oc_law_width kV_law_width dc_law_width pm_law_width cd_law_width ct_law_width : Value}
    {od_law_around an_law_around : Option Addr} {sl_law_around : Array (Option Value)} {oc_law_around kV_law_around dc_law_around pm_law_around cd_law_around ct_law_around : Value}
    {od_law_reach an_law_reach : Option Addr} {sl_law_reach : Array (Option Value)} {oc_law_reach kV_law_reach dc_law_reach pm_law_reach cd_law_reach ct_law_reach : Value}
    {od_law_visible an_law_visible : Option Addr} {sl_law_visible : Array (Option Value)} {oc_law_visible kV_law_visible dc_law_visible pm_law_visible cd_law_visible ct_law_visible : Value}
    {od_law_word an_law_word : Option Addr} {sl_law_word : Array (Option Value)} {oc_law_word kV_law_word dc_law_word pm_law_word cd_law_word ct_law_word : Value}
    {od_law_color an_law_color : Option Addr} {sl_law_color : Array (Option Value)} {oc_law_color kV_law_color dc_law_color pm_law_color cd_law_color ct_law_color : Value}
    {od_law_form an_law_form : Option Addr} {sl_law_form : Array (Option Value)} {oc_law_form kV_law_form dc_law_form pm_law_form cd_law_form ct_law_form : Value}
    {od_law_clip an_law_clip : Option Addr} {sl_law_clip : Array (Option Value)} {oc_law_clip kV_law_clip dc_law_clip pm_law_clip cd_law_clip ct_law_clip : Value}
    {od_law_shifted an_law_shifted : Option Addr} {sl_law_shifted : Array (Option Value)} {oc_law_shifted kV_law_shifted dc_law_shifted pm_law_shifted cd_law_shifted ct_law_shifted : Value}
    {od_law an_law : Option Addr} {sl_law : Array (Option Value)} {oc_law kV_law dc_law pm_law cd_law ct_law : Value}
    (a_common : PySem.W.nsIn K mainGlobals "common" = some (some (.ref f_common))) (l_common : K.lookup f_common = some ⟨oc_common, od_common, .func (PySem.W.fnOf "common" "common" (defArgs s_common) (defBody s_common) (defScope s_common) .none kV_common dc_common pm_common an_common cd_common ct_common), sl_common⟩) (c_common : PySem.W.codeIn K cd_common "common" = true) (k_common : PySem.W.keepIn K (.ref f_common) = true)
    (a_edges : PySem.W.nsIn K mainGlobals "edges" = some (some (.ref f_edges))) (l_edges : K.lookup f_edges = some ⟨oc_edges, od_edges, .func (PySem.W.fnOf "edges" "edges" (defArgs s_edges) (defBody s_edges) (defScope s_edges) .none kV_edges dc_edges pm_edges an_edges cd_edges ct_edges), sl_edges⟩) (c_edges : PySem.W.codeIn K cd_edges "edges" = true) (k_edges : PySem.W.keepIn K (.ref f_edges) = true)
    (a_glyph_width : PySem.W.nsIn K mainGlobals "glyph_width" = some (some (.ref f_glyph_width))) (l_glyph_width : K.lookup f_glyph_width = some ⟨oc_glyph_width, od_glyph_width, .func (PySem.W.fnOf "glyph_width" "glyph_width" (defArgs s_glyph_width) (defBody s_glyph_width) (defScope s_glyph_width) .none kV_glyph_width dc_glyph_width pm_glyph_width an_glyph_width cd_glyph_width ct_glyph_width), sl_glyph_width⟩) (c_glyph_width : PySem.W.codeIn K cd_glyph_width "glyph_width" = true) (k_glyph_width : PySem.W.keepIn K (.ref f_glyph_width) = true)
    (a_text_width : PySem.W.nsIn K mainGlobals "text_width" = some (some (.ref f_text_width))) (l_text_width : K.lookup f_text_width = some ⟨oc_text_width, od_text_width, .func (PySem.W.fnOf "text_width" "text_width" (defArgs s_text_width) (defBody s_text_width) (defScope s_text_width) .none kV_text_width dc_text_width pm_text_width an_text_width cd_text_width ct_text_width), sl_text_width⟩) (c_text_width : PySem.W.codeIn K cd_text_width "text_width" = true) (k_text_width : PySem.W.keepIn K (.ref f_text_width) = true)
    (a_around : PySem.W.nsIn K mainGlobals "around" = some (some (.ref f_around))) (l_around : K.lookup f_around = some ⟨oc_around, od_around, .func (PySem.W.fnOf "around" "around" (defArgs s_around) (defBody s_around) (defScope s_around) .none kV_around dc_around pm_around an_around cd_around ct_around), sl_around⟩) (c_around : PySem.W.codeIn K cd_around "around" = true) (k_around : PySem.W.keepIn K (.ref f_around) = true)
    (a_around_points : PySem.W.nsIn K mainGlobals "around_points" = some (some (.ref f_around_points))) (l_around_points : K.lookup f_around_points = some ⟨oc_around_points, od_around_points, .func (PySem.W.fnOf "around_points" "around_points" (defArgs s_around_points) (defBody s_around_points) (defScope s_around_points) .none kV_around_points dc_around_points pm_around_points an_around_points cd_around_points ct_around_points), sl_around_points⟩) (c_around_points : PySem.W.codeIn K cd_around_points "around_points" = true) (k_around_points : PySem.W.keepIn K (.ref f_around_points) = true)
    (a_around_text : PySem.W.nsIn K mainGlobals "around_text" = some (some (.ref f_around_text))) (l_around_text : K.lookup f_around_text = some ⟨oc_around_text, od_around_text, .func (PySem.W.fnOf "around_text" "around_text" (defArgs s_around_text) (defBody s_around_text) (defScope s_around_text) .none kV_around_text dc_around_text pm_around_text an_around_text cd_around_text ct_around_text), sl_around_text⟩) (c_around_text : PySem.W.codeIn K cd_around_text "around_text" = true) (k_around_text : PySem.W.keepIn K (.ref f_around_text) = true)
    (a_surrounding : PySem.W.nsIn K mainGlobals "surrounding" = some (some (.ref f_surrounding))) (l_surrounding : K.lookup f_surrounding = some ⟨oc_surrounding, od_surrounding, .func (PySem.W.fnOf "surrounding" "surrounding" (defArgs s_surrounding) (defBody s_surrounding) (defScope s_surrounding) .none kV_surrounding dc_surrounding pm_surrounding an_surrounding cd_surrounding ct_surrounding), sl_surrounding⟩) (c_surrounding : PySem.W.codeIn K cd_surrounding "surrounding" = true) (k_surrounding : PySem.W.keepIn K (.ref f_surrounding) = true)
    (a_reach : PySem.W.nsIn K mainGlobals "reach" = some (some (.ref f_reach))) (l_reach : K.lookup f_reach = some ⟨oc_reach, od_reach, .func (PySem.W.fnOf "reach" "reach" (defArgs s_reach) (defBody s_reach) (defScope s_reach) .none kV_reach dc_reach pm_reach an_reach cd_reach ct_reach), sl_reach⟩) (c_reach : PySem.W.codeIn K cd_reach "reach" = true) (k_reach : PySem.W.keepIn K (.ref f_reach) = true)
    (a_visible_part : PySem.W.nsIn K mainGlobals "visible_part" = some (some (.ref f_visible_part))) (l_visible_part : K.lookup f_visible_part = some ⟨oc_visible_part, od_visible_part, .func (PySem.W.fnOf "visible_part" "visible_part" (defArgs s_visible_part) (defBody s_visible_part) (defScope s_visible_part) .none kV_visible_part dc_visible_part pm_visible_part an_visible_part cd_visible_part ct_visible_part), sl_visible_part⟩) (c_visible_part : PySem.W.codeIn K cd_visible_part "visible_part" = true) (k_visible_part : PySem.W.keepIn K (.ref f_visible_part) = true)
    (a_law_tape : PySem.W.nsIn K mainGlobals "_law_tape" = some (some (.ref f_law_tape))) (l_law_tape : K.lookup f_law_tape = some ⟨oc_law_tape, od_law_tape, .func (PySem.W.fnOf "_law_tape" "_law_tape" (defArgs s_law_tape) (defBody s_law_tape) (defScope s_law_tape) .none kV_law_tape dc_law_tape pm_law_tape an_law_tape cd_law_tape ct_law_tape), sl_law_tape⟩) (c_law_tape : PySem.W.codeIn K cd_law_tape "_law_tape" = true) (k_law_tape : PySem.W.keepIn K (.ref f_law_tape) = true)
    (a_law_draw : PySem.W.nsIn K mainGlobals "_law_draw" = some (some (.ref f_law_draw))) (l_law_draw : K.lookup f_law_draw = some ⟨oc_law_draw, od_law_draw, .func (PySem.W.fnOf "_law_draw" "_law_draw" (defArgs s_law_draw) (defBody s_law_draw) (defScope s_law_draw) .none kV_law_draw dc_law_draw pm_law_draw an_law_draw cd_law_draw ct_law_draw), sl_law_draw⟩) (c_law_draw : PySem.W.codeIn K cd_law_draw "_law_draw" = true) (k_law_draw : PySem.W.keepIn K (.ref f_law_draw) = true)
    (a_law_inside : PySem.W.nsIn K mainGlobals "_law_inside" = some (some (.ref f_law_inside))) (l_law_inside : K.lookup f_law_inside = some ⟨oc_law_inside, od_law_inside, .func (PySem.W.fnOf "_law_inside" "_law_inside" (defArgs s_law_inside) (defBody s_law_inside) (defScope s_law_inside) .none kV_law_inside dc_law_inside pm_law_inside an_law_inside cd_law_inside ct_law_inside), sl_law_inside⟩) (c_law_inside : PySem.W.codeIn K cd_law_inside "_law_inside" = true) (k_law_inside : PySem.W.keepIn K (.ref f_law_inside) = true)
    (a_law_common : PySem.W.nsIn K mainGlobals "_law_common" = some (some (.ref f_law_common))) (l_law_common : K.lookup f_law_common = some ⟨oc_law_common, od_law_common, .func (PySem.W.fnOf "_law_common" "_law_common" (defArgs s_law_common) (defBody s_law_common) (defScope s_law_common) .none kV_law_common dc_law_common pm_law_common an_law_common cd_law_common ct_law_common), sl_law_common⟩) (c_law_common : PySem.W.codeIn K cd_law_common "_law_common" = true) (k_law_common : PySem.W.keepIn K (.ref f_law_common) = true)
    (a_law_sign_width : PySem.W.nsIn K mainGlobals "_law_sign_width" = some (some (.ref f_law_sign_width))) (l_law_sign_width : K.lookup f_law_sign_width = some ⟨oc_law_sign_width, od_law_sign_width, .func (PySem.W.fnOf "_law_sign_width" "_law_sign_width" (defArgs s_law_sign_width) (defBody s_law_sign_width) (defScope s_law_sign_width) .none kV_law_sign_width dc_law_sign_width pm_law_sign_width an_law_sign_width cd_law_sign_width ct_law_sign_width), sl_law_sign_width⟩) (c_law_sign_width : PySem.W.codeIn K cd_law_sign_width "_law_sign_width" = true) (k_law_sign_width : PySem.W.keepIn K (.ref f_law_sign_width) = true)
    (a_law_width : PySem.W.nsIn K mainGlobals "_law_width" = some (some (.ref f_law_width))) (l_law_width : K.lookup f_law_width = some ⟨oc_law_width, od_law_width, .func (PySem.W.fnOf "_law_width" "_law_width" (defArgs s_law_width) (defBody s_law_width) (defScope s_law_width) .none kV_law_width dc_law_width pm_law_width an_law_width cd_law_width ct_law_width), sl_law_width⟩) (c_law_width : PySem.W.codeIn K cd_law_width "_law_width" = true) (k_law_width : PySem.W.keepIn K (.ref f_law_width) = true)
    (a_law_around : PySem.W.nsIn K mainGlobals "_law_around" = some (some (.ref f_law_around))) (l_law_around : K.lookup f_law_around = some ⟨oc_law_around, od_law_around, .func (PySem.W.fnOf "_law_around" "_law_around" (defArgs s_law_around) (defBody s_law_around) (defScope s_law_around) .none kV_law_around dc_law_around pm_law_around an_law_around cd_law_around ct_law_around), sl_law_around⟩) (c_law_around : PySem.W.codeIn K cd_law_around "_law_around" = true) (k_law_around : PySem.W.keepIn K (.ref f_law_around) = true)
    (a_law_reach : PySem.W.nsIn K mainGlobals "_law_reach" = some (some (.ref f_law_reach))) (l_law_reach : K.lookup f_law_reach = some ⟨oc_law_reach, od_law_reach, .func (PySem.W.fnOf "_law_reach" "_law_reach" (defArgs s_law_reach) (defBody s_law_reach) (defScope s_law_reach) .none kV_law_reach dc_law_reach pm_law_reach an_law_reach cd_law_reach ct_law_reach), sl_law_reach⟩) (c_law_reach : PySem.W.codeIn K cd_law_reach "_law_reach" = true) (k_law_reach : PySem.W.keepIn K (.ref f_law_reach) = true)
    (a_law_visible : PySem.W.nsIn K mainGlobals "_law_visible" = some (some (.ref f_law_visible))) (l_law_visible : K.lookup f_law_visible = some ⟨oc_law_visible, od_law_visible, .func (PySem.W.fnOf "_law_visible" "_law_visible" (defArgs s_law_visible) (defBody s_law_visible) (defScope s_law_visible) .none kV_law_visible dc_law_visible pm_law_visible an_law_visible cd_law_visible ct_law_visible), sl_law_visible⟩) (c_law_visible : PySem.W.codeIn K cd_law_visible "_law_visible" = true) (k_law_visible : PySem.W.keepIn K (.ref f_law_visible) = true)
    (a_law_word : PySem.W.nsIn K mainGlobals "_law_word" = some (some (.ref f_law_word))) (l_law_word : K.lookup f_law_word = some ⟨oc_law_word, od_law_word, .func (PySem.W.fnOf "_law_word" "_law_word" (defArgs s_law_word) (defBody s_law_word) (defScope s_law_word) .none kV_law_word dc_law_word pm_law_word an_law_word cd_law_word ct_law_word), sl_law_word⟩) (c_law_word : PySem.W.codeIn K cd_law_word "_law_word" = true) (k_law_word : PySem.W.keepIn K (.ref f_law_word) = true)
    (a_law_color : PySem.W.nsIn K mainGlobals "_law_color" = some (some (.ref f_law_color))) (l_law_color : K.lookup f_law_color = some ⟨oc_law_color, od_law_color, .func (PySem.W.fnOf "_law_color" "_law_color" (defArgs s_law_color) (defBody s_law_color) (defScope s_law_color) .none kV_law_color dc_law_color pm_law_color an_law_color cd_law_color ct_law_color), sl_law_color⟩) (c_law_color : PySem.W.codeIn K cd_law_color "_law_color" = true) (k_law_color : PySem.W.keepIn K (.ref f_law_color) = true)
    (a_law_form : PySem.W.nsIn K mainGlobals "_law_form" = some (some (.ref f_law_form))) (l_law_form : K.lookup f_law_form = some ⟨oc_law_form, od_law_form, .func (PySem.W.fnOf "_law_form" "_law_form" (defArgs s_law_form) (defBody s_law_form) (defScope s_law_form) .none kV_law_form dc_law_form pm_law_form an_law_form cd_law_form ct_law_form), sl_law_form⟩) (c_law_form : PySem.W.codeIn K cd_law_form "_law_form" = true) (k_law_form : PySem.W.keepIn K (.ref f_law_form) = true)
    (a_law_clip : PySem.W.nsIn K mainGlobals "_law_clip" = some (some (.ref f_law_clip))) (l_law_clip : K.lookup f_law_clip = some ⟨oc_law_clip, od_law_clip, .func (PySem.W.fnOf "_law_clip" "_law_clip" (defArgs s_law_clip) (defBody s_law_clip) (defScope s_law_clip) .none kV_law_clip dc_law_clip pm_law_clip an_law_clip cd_law_clip ct_law_clip), sl_law_clip⟩) (c_law_clip : PySem.W.codeIn K cd_law_clip "_law_clip" = true) (k_law_clip : PySem.W.keepIn K (.ref f_law_clip) = true)
    (a_law_shifted : PySem.W.nsIn K mainGlobals "_law_shifted" = some (some (.ref f_law_shifted))) (l_law_shifted : K.lookup f_law_shifted = some ⟨oc_law_shifted, od_law_shifted, .func (PySem.W.fnOf "_law_shifted" "_law_shifted" (defArgs s_law_shifted) (defBody s_law_shifted) (defScope s_law_shifted) .none kV_law_shifted dc_law_shifted pm_law_shifted an_law_shifted cd_law_shifted ct_law_shifted), sl_law_shifted⟩) (c_law_shifted : PySem.W.codeIn K cd_law_shifted "_law_shifted" = true) (k_law_shifted : PySem.W.keepIn K (.ref f_law_shifted) = true)
    (a_law : PySem.W.nsIn K mainGlobals "law" = some (some (.ref f_law))) (l_law : K.lookup f_law = some ⟨oc_law, od_law, .func (PySem.W.fnOf "law" "law" (defArgs s_law) (defBody s_law) (defScope s_law) .none kV_law dc_law pm_law an_law cd_law ct_law), sl_law⟩) (c_law : PySem.W.codeIn K cd_law "law" = true) (k_law : PySem.W.keepIn K (.ref f_law) = true)
    {dT : Addr} {esT : Array DictEntry} {nT : Nat} {tk5 tk7 : Tok} (a_other : PySem.W.nsIn K mainGlobals "OTHER_WIDTH" = some (some (.int 5 tk5))) (a_height : PySem.W.nsIn K mainGlobals "TEXT_HEIGHT" = some (some (.int 7 tk7))) (a_tab : PySem.W.nsIn K mainGlobals "GLYPH_WIDTHS" = some (some (.ref dT))) (l_tab : K.lookup dT = some ⟨.type "dict", none, .dict esT nT, #[]⟩) (k_tab : PySem.W.KeysLit w.params esT.toList) (low_tab : (dT == sysModules) = false) (b_tab : tabB esT = true)
    (z_abs : PySem.W.nsIn K mainGlobals "abs" = some none) (z_int : PySem.W.nsIn K mainGlobals "int" = some none) (z_len : PySem.W.nsIn K mainGlobals "len" = some none) (z_list : PySem.W.nsIn K mainGlobals "list" = some none) (z_max : PySem.W.nsIn K mainGlobals "max" = some none) (z_min : PySem.W.nsIn K mainGlobals "min" = some none) (z_range : PySem.W.nsIn K mainGlobals "range" = some none) (z_repr : PySem.W.nsIn K mainGlobals "repr" = some none) (z_sum : PySem.W.nsIn K mainGlobals "sum" = some none) (z_tuple : PySem.W.nsIn K mainGlobals "tuple" = some none) :
    ∃ fd : FuncData, (∀ (s : Shared) (v : Value), BindsTo s fd ⟨[v], []⟩ [("script", v)]) ∧ ∀ base : Heap, K.In base → base.Ns mainGlobals mg → FnG l.prog w K mg base 8 fa fd ["script"] (spLaw K) := by
  have e := hfa.symm.trans (PySem.W.mg_of X G a_law)
  cases e
  have MB : Blt mg := ⟨PySem.W.mg_none_of X G z_abs, PySem.W.mg_none_of X G z_int, PySem.W.mg_none_of X G z_len, PySem.W.mg_none_of X G z_list, PySem.W.mg_none_of X G z_max, PySem.W.mg_none_of X G z_min, PySem.W.mg_none_of X G z_range, PySem.W.mg_none_of X G z_repr, PySem.W.mg_none_of X G z_sum, PySem.W.mg_none_of X G z_tuple⟩
  have A_common : At K mg "common" s_common := ⟨_, _, PySem.W.mg_of X G a_common, fun_mk (st := s_common) l_common c_common k_common⟩
  have A_edges : At K mg "edges" s_edges := ⟨_, _, PySem.W.mg_of X G a_edges, fun_mk (st := s_edges) l_edges c_edges k_edges⟩
  have A_glyph_width : At K mg "glyph_width" s_glyph_width := ⟨_, _, PySem.W.mg_of X G a_glyph_width, fun_mk (st := s_glyph_width) l_glyph_width c_glyph_width k_glyph_width⟩
  have A_text_width : At K mg "text_width" s_text_width := ⟨_, _, PySem.W.mg_of X G a_text_width, fun_mk (st := s_text_width) l_text_width c_text_width k_text_width⟩
  have A_around : At K mg "around" s_around := ⟨_, _, PySem.W.mg_of X G a_around, fun_mk (st := s_around) l_around c_around k_around⟩
  have A_around_points : At K mg "around_points" s_around_points := ⟨_, _, PySem.W.mg_of X G a_around_points, fun_mk (st := s_around_points) l_around_points c_around_points k_around_points⟩
  have A_around_text : At K mg "around_text" s_around_text := ⟨_, _, PySem.W.mg_of X G a_around_text, fun_mk (st := s_around_text) l_around_text c_around_text k_around_text⟩
  have A_surrounding : At K mg "surrounding" s_surrounding := ⟨_, _, PySem.W.mg_of X G a_surrounding, fun_mk (st := s_surrounding) l_surrounding c_surrounding k_surrounding⟩
  have A_reach : At K mg "reach" s_reach := ⟨_, _, PySem.W.mg_of X G a_reach, fun_mk (st := s_reach) l_reach c_reach k_reach⟩
  have A_visible_part : At K mg "visible_part" s_visible_part := ⟨_, _, PySem.W.mg_of X G a_visible_part, fun_mk (st := s_visible_part) l_visible_part c_visible_part k_visible_part⟩
  have A_law_tape : At K mg "_law_tape" s_law_tape := ⟨_, _, PySem.W.mg_of X G a_law_tape, fun_mk (st := s_law_tape) l_law_tape c_law_tape k_law_tape⟩
  have A_law_draw : At K mg "_law_draw" s_law_draw := ⟨_, _, PySem.W.mg_of X G a_law_draw, fun_mk (st := s_law_draw) l_law_draw c_law_draw k_law_draw⟩
  have A_law_inside : At K mg "_law_inside" s_law_inside := ⟨_, _, PySem.W.mg_of X G a_law_inside, fun_mk (st := s_law_inside) l_law_inside c_law_inside k_law_inside⟩
  have A_law_common : At K mg "_law_common" s_law_common := ⟨_, _, PySem.W.mg_of X G a_law_common, fun_mk (st := s_law_common) l_law_common c_law_common k_law_common⟩
  have A_law_sign_width : At K mg "_law_sign_width" s_law_sign_width := ⟨_, _, PySem.W.mg_of X G a_law_sign_width, fun_mk (st := s_law_sign_width) l_law_sign_width c_law_sign_width k_law_sign_width⟩
  have A_law_width : At K mg "_law_width" s_law_width := ⟨_, _, PySem.W.mg_of X G a_law_width, fun_mk (st := s_law_width) l_law_width c_law_width k_law_width⟩
  have A_law_around : At K mg "_law_around" s_law_around := ⟨_, _, PySem.W.mg_of X G a_law_around, fun_mk (st := s_law_around) l_law_around c_law_around k_law_around⟩
  have A_law_reach : At K mg "_law_reach" s_law_reach := ⟨_, _, PySem.W.mg_of X G a_law_reach, fun_mk (st := s_law_reach) l_law_reach c_law_reach k_law_reach⟩
  have A_law_visible : At K mg "_law_visible" s_law_visible := ⟨_, _, PySem.W.mg_of X G a_law_visible, fun_mk (st := s_law_visible) l_law_visible c_law_visible k_law_visible⟩
  have A_law_word : At K mg "_law_word" s_law_word := ⟨_, _, PySem.W.mg_of X G a_law_word, fun_mk (st := s_law_word) l_law_word c_law_word k_law_word⟩
  have A_law_color : At K mg "_law_color" s_law_color := ⟨_, _, PySem.W.mg_of X G a_law_color, fun_mk (st := s_law_color) l_law_color c_law_color k_law_color⟩
  have A_law_form : At K mg "_law_form" s_law_form := ⟨_, _, PySem.W.mg_of X G a_law_form, fun_mk (st := s_law_form) l_law_form c_law_form k_law_form⟩
  have A_law_clip : At K mg "_law_clip" s_law_clip := ⟨_, _, PySem.W.mg_of X G a_law_clip, fun_mk (st := s_law_clip) l_law_clip c_law_clip k_law_clip⟩
  have A_law_shifted : At K mg "_law_shifted" s_law_shifted := ⟨_, _, PySem.W.mg_of X G a_law_shifted, fun_mk (st := s_law_shifted) l_law_shifted c_law_shifted k_law_shifted⟩
  have A_law : At K mg "law" s_law := ⟨_, _, PySem.W.mg_of X G a_law, fun_mk (st := s_law) l_law c_law k_law⟩
  have GG : Glyphs K w mg := ⟨⟨dT, esT, nT, PySem.W.mg_of X G a_tab, ⟨l_tab, k_tab, low_tab⟩, tab_of b_tab⟩, ⟨_, PySem.W.mg_of X G a_other⟩, ⟨_, PySem.W.mg_of X G a_height⟩⟩
  refine ⟨PySem.W.fnOf "law" "law" (defArgs s_law) (defBody s_law) (defScope s_law) .none kV_law dc_law pm_law an_law cd_law ct_law, fun s v => .of_eq rfl, fun base _ _ => ?_⟩
  have D_edges := df_edges (P := l.prog) (w := w) (base := base) MB A_edges
  have D_common := df_common (P := l.prog) (w := w) (base := base) MB A_common D_edges
  have D_glyph_width := df_glyph_width (P := l.prog) (w := w) (base := base) MB A_glyph_width GG
  have D_text_width := df_text_width (P := l.prog) (w := w) (base := base) MB A_text_width D_glyph_width
  have D_around_points := df_around_points (P := l.prog) (w := w) (base := base) MB A_around_points
  have D_around_text := df_around_text (P := l.prog) (w := w) (base := base) MB A_around_text GG D_text_width
  have D_around := df_around (P := l.prog) (w := w) (base := base) MB A_around GG D_around_text D_around_points
  have D_surrounding := df_surrounding (P := l.prog) (w := w) (base := base) MB A_surrounding D_around
  have D_reach := df_reach (P := l.prog) (w := w) (base := base) MB A_reach D_common D_surrounding
  have D_visible_part := df_visible_part (P := l.prog) (w := w) (base := base) MB A_visible_part D_reach D_common
  have D_law_tape := df_law_tape (P := l.prog) (w := w) (base := base) MB A_law_tape
  have D_law_draw := df_law_draw (P := l.prog) (w := w) (base := base) MB A_law_draw
  have D_law_inside := df_law_inside (P := l.prog) (w := w) (base := base) MB A_law_inside
  have D_law_common := df_law_common (P := l.prog) (w := w) (base := base) MB A_law_common
  have D_law_sign_width := df_law_sign_width (P := l.prog) (w := w) (base := base) MB A_law_sign_width
  have D_law_width := df_law_width (P := l.prog) (w := w) (base := base) MB A_law_width D_law_sign_width
  have D_law_around := df_law_around (P := l.prog) (w := w) (base := base) MB A_law_around D_law_width
  have D_law_reach := df_law_reach (P := l.prog) (w := w) (base := base) MB A_law_reach D_law_around D_law_common
  have D_law_visible := df_law_visible (P := l.prog) (w := w) (base := base) MB A_law_visible D_law_reach D_law_common
  have D_law_word := df_law_word (P := l.prog) (w := w) (base := base) MB A_law_word D_law_draw
  have D_law_color := df_law_color (P := l.prog) (w := w) (base := base) MB A_law_color D_law_draw
  have D_law_form := df_law_form (P := l.prog) (w := w) (base := base) MB A_law_form D_law_draw D_law_word
  have D_law_clip := df_law_clip (P := l.prog) (w := w) (base := base) MB A_law_clip D_law_draw
  have D_law_shifted := df_law_shifted (P := l.prog) (w := w) (base := base) MB A_law_shifted
  exact fn_law MB (fun_mk (st := s_law) l_law c_law k_law) D_law_tape D_law_draw D_law_form D_law_clip D_law_shifted D_reach D_visible_part D_law_color D_law_reach D_law_visible D_law_inside

end Cs
open PySem PySem.W PyProof.Rows
set_option maxRecDepth 100000 in
set_option maxHeartbeats 0 in
theorem PySem.Challenge.cw_chartspec_k44_reach_and_visible_part_holds : PySem.Challenge.rw_chartspec_k44_reach_and_visible_part.Holds := by
  w_on; o_law; k_head; (case hw => w_witness2)
  k_fill
  refine Cs.walkG (k := 8) (x := "script") (sp := Cs.spLaw) (l := PySem.Challenge.rw_chartspec_k44_reach_and_visible_part) rfl (by decide) rfl ⟨rfl, by decide, by decide⟩ (fun w h Y => PySem.W.kIn_of Y) ?F Cs.law_start
  case F =>
    intro w mg fa h KX G hmg
    refine' Cs.all_mk KX G hmg ?a_common ?l_common ?c_common ?k_common ?a_edges ?l_edges ?c_edges ?k_edges ?a_glyph_width ?l_glyph_width ?c_glyph_width ?k_glyph_width ?a_text_width ?l_text_width ?c_text_width ?k_text_width ?a_around ?l_around ?c_around ?k_around ?a_around_points ?l_around_points ?c_around_points ?k_around_points ?a_around_text ?l_around_text ?c_around_text ?k_around_text ?a_surrounding ?l_surrounding ?c_surrounding ?k_surrounding ?a_reach ?l_reach ?c_reach ?k_reach ?a_visible_part ?l_visible_part ?c_visible_part ?k_visible_part ?a_law_tape ?l_law_tape ?c_law_tape ?k_law_tape ?a_law_draw ?l_law_draw ?c_law_draw ?k_law_draw ?a_law_inside ?l_law_inside ?c_law_inside ?k_law_inside ?a_law_common ?l_law_common ?c_law_common ?k_law_common ?a_law_sign_width ?l_law_sign_width ?c_law_sign_width ?k_law_sign_width ?a_law_width ?l_law_width ?c_law_width ?k_law_width ?a_law_around ?l_law_around ?c_law_around ?k_law_around ?a_law_reach ?l_law_reach ?c_law_reach ?k_law_reach ?a_law_visible ?l_law_visible ?c_law_visible ?k_law_visible ?a_law_word ?l_law_word ?c_law_word ?k_law_word ?a_law_color ?l_law_color ?c_law_color ?k_law_color ?a_law_form ?l_law_form ?c_law_form ?k_law_form ?a_law_clip ?l_law_clip ?c_law_clip ?k_law_clip ?a_law_shifted ?l_law_shifted ?c_law_shifted ?k_law_shifted ?a_law ?l_law ?c_law ?k_law ?a_other ?a_height ?a_tab ?l_tab ?k_tab ?low_tab ?b_tab ?z_abs ?z_int ?z_len ?z_list ?z_max ?z_min ?z_range ?z_repr ?z_sum ?z_tuple
    (case a_common => k_is)
    (case l_common => k_is)
    (case c_common => k_is)
    (case k_common => k_is)
    (case a_edges => k_is)
    (case l_edges => k_is)
    (case c_edges => k_is)
    (case k_edges => k_is)
    (case a_glyph_width => k_is)
    (case l_glyph_width => k_is)
    (case c_glyph_width => k_is)
    (case k_glyph_width => k_is)
    (case a_text_width => k_is)
    (case l_text_width => k_is)
    (case c_text_width => k_is)
    (case k_text_width => k_is)
    (case a_around => k_is)
    (case l_around => k_is)
    (case c_around => k_is)
    (case k_around => k_is)
    (case a_around_points => k_is)
    (case l_around_points => k_is)
    (case c_around_points => k_is)
    (case k_around_points => k_is)
    (case a_around_text => k_is)
    (case l_around_text => k_is)
    (case c_around_text => k_is)
    (case k_around_text => k_is)
    (case a_surrounding => k_is)
    (case l_surrounding => k_is)
    (case c_surrounding => k_is)
    (case k_surrounding => k_is)
    (case a_reach => k_is)
    (case l_reach => k_is)
    (case c_reach => k_is)
    (case k_reach => k_is)
    (case a_visible_part => k_is)
    (case l_visible_part => k_is)
    (case c_visible_part => k_is)
    (case k_visible_part => k_is)
    (case a_law_tape => k_is)
    (case l_law_tape => k_is)
    (case c_law_tape => k_is)
    (case k_law_tape => k_is)
    (case a_law_draw => k_is)
    (case l_law_draw => k_is)
    (case c_law_draw => k_is)
    (case k_law_draw => k_is)
    (case a_law_inside => k_is)
    (case l_law_inside => k_is)
    (case c_law_inside => k_is)
    (case k_law_inside => k_is)
    (case a_law_common => k_is)
    (case l_law_common => k_is)
    (case c_law_common => k_is)
    (case k_law_common => k_is)
    (case a_law_sign_width => k_is)
    (case l_law_sign_width => k_is)
    (case c_law_sign_width => k_is)
    (case k_law_sign_width => k_is)
    (case a_law_width => k_is)
    (case l_law_width => k_is)
    (case c_law_width => k_is)
    (case k_law_width => k_is)
    (case a_law_around => k_is)
    (case l_law_around => k_is)
    (case c_law_around => k_is)
    (case k_law_around => k_is)
    (case a_law_reach => k_is)
    (case l_law_reach => k_is)
    (case c_law_reach => k_is)
    (case k_law_reach => k_is)
    (case a_law_visible => k_is)
    (case l_law_visible => k_is)
    (case c_law_visible => k_is)
    (case k_law_visible => k_is)
    (case a_law_word => k_is)
    (case l_law_word => k_is)
    (case c_law_word => k_is)
    (case k_law_word => k_is)
    (case a_law_color => k_is)
    (case l_law_color => k_is)
    (case c_law_color => k_is)
    (case k_law_color => k_is)
    (case a_law_form => k_is)
    (case l_law_form => k_is)
    (case c_law_form => k_is)
    (case k_law_form => k_is)
    (case a_law_clip => k_is)
    (case l_law_clip => k_is)
    (case c_law_clip => k_is)
    (case k_law_clip => k_is)
    (case a_law_shifted => k_is)
    (case l_law_shifted => k_is)
    (case c_law_shifted => k_is)
    (case k_law_shifted => k_is)
    (case a_law => k_is)
    (case l_law => k_is)
    (case c_law => k_is)
    (case k_law => k_is)
    (case z_abs => k_is)
    (case z_int => k_is)
    (case z_len => k_is)
    (case z_list => k_is)
    (case z_max => k_is)
    (case z_min => k_is)
    (case z_range => k_is)
    (case z_repr => k_is)
    (case z_sum => k_is)
    (case z_tuple => k_is)
    (case a_other => k_is)
    (case a_height => k_is)
    (case a_tab => k_is)
    (case l_tab => k_is)
    (case k_tab => k_keys)
    (case low_tab => rfl)
    (case b_tab => kernel_rfl)
#print axioms PySem.Challenge.cw_chartspec_k44_reach_and_visible_part_holds

