import PyProof.Rows.All
import Wide.All
import OpenK.AllK
import Wide.FinOn
import PyProof.ReprRoads
import PyProof.ReprLen
import KE.GoesMore
import HandS.Base
import HandS.Call
import HandS.List
import HandS.Comp
import HandS.Ends
import HandS.Dict
import HandS.Iter
import HandS.Text
import HandS.Words
import HandS.WordsList
import HandS.WordsDict
import HandS.Walk
import HandS.Style
import HandS.Zip
import HandS.TupAny
import HandS.SortInts
import HandS.Wide
import PySem.Challenge.RW_wakedenough_k21_layers_and_gaps
set_option Elab.async false
set_option linter.all false
set_option maxRecDepth 100000
namespace WK
open PySem PySem.Spec PyProof.Rows L2

/-! ### a def that may ask for repr: what is printed around the call is known to be nothing -/
abbrev NoE : XK := fun _ _ _ => False
structure FnG (P : Program) (w : World) (K : PySem.W.Frag) (mg : Str → Option Value) (base : Heap) (k : Nat) (f : Addr) (fd : FuncData) (ps : List Str) (sp : Sp) : Prop where
  go : ∀ (A : Around) (outer : List Env) (s : Shared) (H : Hp) (args : Args) (us : List Value) (vs : List V) (Q : VK),
    A.guards = some [] → Room k A → Env0 P w K mg base A outer s H →
    BindsTo s fd args (ps.zip us) → Vals vs us → vs.length = ps.length → sp vs H Q NoE →
    codeAny (model P w) A (.call (.ref f) args) (CR CX0 outer P w H s Q NoE) s

theorem guards_deeper {A : Around} {env : Env} (h : A.guards = some []) : (A.deeper env).guards = some [] := h

section
variable {P : Program} {w : World} {K : PySem.W.Frag} {mg : Str → Option Value} {base : Heap}
theorem okG {x qual : Str} {st : Stmt} {f : Addr} {fd : FuncData} {N ps : List Str} {k : Nat} {sp : Sp}
    (F : Fun K x qual st f fd) (S : FnScope N ps (defScope st))
    (bd : ∀ (cdv : Value) (A : Around) (outer : List Env) (s : Shared) (H : Hp) (vs : List V) (Q : VK),
      Room k (A.deeper (envOfC qual (defScope st) s.heap.objs.size f cdv)) → A.guards = some [] → sp vs H Q NoE →
      ∃ t, PSs (cxOf CX0 P w K mg base N qual (defScope st) f cdv A outer s H NoE).nox (defBody st) t ∧
        t { nx := fun _ G => Q .non G, rt := Q } (start N vs) H) :
    FnG P w K mg base (k + 1) f fd ps sp := by
  obtain ⟨oc, od, kV, doc, pm, an, cdv, ct, osl, rfl, lk, hcd⟩ := F.ex
  constructor
  intro A outer s H args us vs Q gd room env bind rel hl hsp
  have inK : K.In s.heap := env.mod.kin.keeps (fun b o e => (env.bs b o e).1)
  have noLim : s.heap.NoLimit := env.mod.nolimit.keeps (fun b o e => (env.bs b o e).1)
  have kinds : ∀ y ∈ ps.zip us,
      (defScope st).names.lookup y.1 = some .local ∨
      ((defScope st).names.lookup y.1 = some .cell ∧
        ((cellsFrom (s.heap.objs.size + 1) (defScope st).names []).lookup y.1).isSome = true) := by
    rintro ⟨n, v⟩ hy
    cases S.par n (List.of_mem_zip hy).1 with
    | inl q => exact Or.inl q
    | inr q => exact Or.inr ⟨q, PySem.W.cellsFrom_some _ _ _ (Or.inl q)⟩
  refine codeAny_call_function room.depth
    (inK _ _ lk) rfl S.co S.gen rfl
    (PySem.W.codeRec_of inK hcd) (bind _ _ _ _ ?_)
  refine wpAny_newFunctionEnv_cells S.kind kinds ?_
  intro e1 he s1 ic
  subst he
  refine ⟨noLim.keeps ic.toInCall.keep, ?_⟩
  apply codeAny_func
  obtain ⟨t, ht, hq⟩ := bd cdv A outer s H vs Q (room.deeper _) gd hsp
  have I0 := inv_start (CX := CX0) (P := P) (w := w) (K := K) (mg := mg) (base := base) (E := NoE) S room.hd env hl rel ic
  refine wpAny_mono (ht.nox.run [] s1 (start N vs) H _ I0 hq) ?_ (fun _ _ z => z)
  intro fl s2 hs
  cases fl with
  | brk => obtain ⟨_, _, _, q⟩ := hs; exact q.elim
  | cont => obtain ⟨_, _, _, q⟩ := hs; exact q.elim
  | ret u =>
    obtain ⟨v, σ', H', J, rv, q⟩ := hs
    exact ⟨v, H', J.os, J.bare, J.base, J.hok, rv, q⟩
  | next =>
    obtain ⟨σ', H', J, q⟩ := hs
    exact ⟨V.non, H', J.os, J.bare, J.base, J.hok, rfl, q⟩
end
end WK
set_option Elab.async false
set_option linter.all false
set_option maxRecDepth 100000
namespace WK
open PySem PySem.Spec PyProof.Rows L2

/-! ### repr of data -/
mutual
theorem dp_nodict {K : PySem.W.Frag} {H : Hp} : ∀ (d : PyData) (v : V), Dp K H v d → d.hasDict = false
  | .none, _, _ => rfl
  | .bool _, _, _ => rfl
  | .int _, _, _ => rfl
  | .str _, _, _ => rfl
  | .list ds, _, h => by
    cases h with
    | lst _ q => simpa only [PyData.hasDict] using dp_nodictAll ds _ q
  | .tuple ds, _, h => by
    cases h with
    | tup _ q => simpa only [PyData.hasDict] using dp_nodictAll ds _ q
  | .dict _, _, h => by cases h
theorem dp_nodictAll {K : PySem.W.Frag} {H : Hp} : ∀ (ds : List PyData) (vs : List V), DpAll K H vs ds → PyData.hasDictAll ds = false
  | [], _, _ => rfl
  | d :: ds, _, h => by
    cases h with
    | cons a b => simp only [PyData.hasDictAll, dp_nodict d _ a, dp_nodictAll ds _ b, Bool.or_self]
end

/-- data that repr shows in room -/
structure Shows (d : PyData) : Prop where
  ok : d.showable = true
  dep : d.depth ≤ 20
  len : d.shown.length ≤ sizeLine

def rRepr (K : PySem.W.Frag) : List V → Hp → VK → Prop := fun xs H Q => ∃ (a : Addr) (d : PyData), xs = [.ref a] ∧ Dp K H (.ref a) d ∧ Shows d ∧ Q (.str d.shown) H
theorem call_reprD {X : Cx} (hg : X.A.guards = some []) (hu : X.A.units + 64 < cLine) : CallR X (.builtin "repr") (rRepr X.K) := by
  rintro pins s σ H xs us Q I r ⟨a, d, rfl, hd, sh, q⟩
  obtain ⟨u, rfl, ru⟩ := vals1 r
  cases ru
  obtain ⟨as, r1⟩ := Dp.reads I d _ _ hd rfl
  have hdep := sh.dep
  exact repr_of_reads' r1 sh.ok (PyData.noDict_hsm (dp_nodict d _ hd)) hg (by omega) (fun _ _ e => e)
    (fun h' u tk hk => ⟨.str d.shown, H, I.kept hk, ⟨u, rfl⟩, q⟩) sh.len

/-! ### the law's call, where nothing is printed around it -/
theorem law_callG {P : Program} {w : World} {K : PySem.W.Frag} {mg mb : Str → Option Value} {k : Nat} {fa a : Addr} {fd : FuncData} {x : Str} {sp : Sp} {s₁ : Shared} {vs : List Value} {ns : List Int}
    (KX : K.In s₁.heap) (hns : s₁.heap.Ns mainGlobals mg) (hb : s₁.heap.Ns builtinsNs mb) (hbb : ∀ x : Str, x ≠ "__name__" → mb x = bootBuiltins x) (hlim : s₁.heap.NoLimit) (hg : s₁.gens = #[])
    (ha : s₁.heap.get? a = some { cls := .type "list", data := .seq vs.toArray }) (hi : IntsAre vs ns) (hl : ns.length ≤ sizeLine) (hr : Room k callerA)
    (F : ∀ base : Heap, K.In base → base.Ns mainGlobals mg → FnG P w K mg base k fa fd [x] sp)
    (hbind : ∀ (s : Shared) (u : Value), BindsTo s fd ⟨[u], []⟩ [(x, u)])
    (hsp : ∀ H : Hp, Only H → SqL K H a (ns.map V.int) → sp [.ref a] H (fun v _ => v = .bl true) NoE) :
    codeAny (model P w) callerA (.call (.ref fa) ⟨[.ref a], []⟩)
      (fun r s' => r = .ok (.ret (.bool true)) ∧ OldK s₁.heap s'.heap ∧ s'.os = s₁.os ∧ AllBare s'.gens) s₁ := by
  have main : ∀ H : Hp, Only H → SqL K H a (ns.map V.int) → HOk P w H s₁.heap →
      (∀ b, H b ≠ none → b = a) → (H a ≠ none → K.lookup a = none) →
      codeAny (model P w) callerA (.call (.ref fa) ⟨[.ref a], []⟩)
        (fun r s' => r = .ok (.ret (.bool true)) ∧ OldK s₁.heap s'.heap ∧ s'.os = s₁.os ∧ AllBare s'.gens) s₁ := by
    intro H only seq hok justA notK
    have isA : ∀ {b : Addr} {u : HO}, H b = some u → b = a := by
      intro b u q
      exact justA b (by simp [q])
    have hid : ∀ {b : Addr} {o : Obj}, s₁.heap.get? b = some o → H b = none → (hidT s₁.heap H).get? b = some o :=
      fun e n => hidT_get e n
    have dictFree : ∀ {b : Addr} {o : Obj} {es : Array DictEntry} {ep : Nat}, s₁.heap.get? b = some o → o.data = .dict es ep → H b = none := by
      intro b o es ep e d
      match q : H b with
      | none => rfl
      | some u =>
        have := isA q
        subst this
        rw [ha] at e
        injection e with e
        subst e
        exact nomatch d
    have spaces : ∀ {b : Addr} {m : Str → Option Value}, s₁.heap.Ns b m → (hidT s₁.heap H).Ns b m := by
      rintro b m ⟨o, es, ep, e, d, rest⟩
      exact ⟨o, es, ep, hid e (dictFree e d), d, rest⟩
    have inK : K.In (hidT s₁.heap H) := by
      intro b o e
      refine hid (KX b o e) ?_
      match q : H b with
      | none => rfl
      | some u =>
        have := isA q
        subst this
        have z := notK (by simp [q])
        rw [e] at z
        exact nomatch z
    have md : Mod K mg (hidT s₁.heap H) := by
      obtain ⟨mc, l1, l2⟩ := hlim
      exact ⟨inK, spaces hns, ⟨mb, spaces hb, hbb⟩, ⟨mc, spaces l1, l2⟩⟩
    have none0 : ∀ b : Addr, ¬ b ∈ ([] : List Addr) := fun b z => nomatch z
    have env : Env0 P w K mg (hidT s₁.heap H) callerA [] s₁ H :=
      { frames := rfl, mod := md, bs := fun b o e => of_hidT e, bsz := Nat.le_of_eq (hidT_size _ _), funs := trivial,
        frf := fun b z => absurd z (none0 b), hok := hok, bare := .of_eq hg }
    have run := (F _ inK (spaces hns)).go callerA [] s₁ H ⟨[.ref a], []⟩ [.ref a] [.ref a] (fun v _ => v = .bl true) rfl hr env
      (hbind s₁ (.ref a)) (.cons rfl .nil) rfl (hsp H only seq)
    refine codeAny_mono run ?_
    intro r s' h
    match r, h with
    | .error e, h => exact False.elim h
    | .ok .next, h => exact False.elim h
    | .ok .brk, h => exact False.elim h
    | .ok .cont, h => exact False.elim h
    | .ok (.ret u), h =>
      obtain ⟨v, H', os, bare, un, hok', rel, ev⟩ := h
      have ev : v = .bl true := ev
      subst ev
      have eu : u = Value.bool true := rel
      subst eu
      refine ⟨rfl, OldK.of_keep ?_, os, bare⟩
      intro b o e
      match q : H b with
      | none => exact un.keep b o e q (none0 b) (none0 b)
      | some v =>
        cases only b with
        | inl z => rw [q] at z; exact nomatch z
        | inr z =>
          obtain ⟨ob, xs, z⟩ := z
          have here := (hok b _ z).1
          have there := (hok' b _ (un.frzs b ob _ z)).1
          rw [e] at here
          injection here with here
          subst here
          exact there
  have rel := vals_ints hi
  match hk : K.lookup a with
  | some o =>
    have e := KX a o hk
    rw [ha] at e
    injection e with e
    subst e
    refine main (fun _ => none) (fun _ => Or.inl rfl) (Or.inr ⟨_, vs.toArray, _, hk, rfl, rfl, rfl, ?_, ?_⟩) ?_ (fun b z => absurd rfl z) (fun z => absurd rfl z)
    · rw [List.size_toArray, hi.length]; exact hl
    · simpa using rel
    · intro b u z; exact nomatch z
  | none =>
    let H0 : Hp := fun b => if b = a then some (.frz { cls := .type "list", data := .seq vs.toArray } (.lst (ns.map V.int))) else none
    have atA : H0 a = some (.frz { cls := .type "list", data := .seq vs.toArray } (.lst (ns.map V.int))) := if_pos rfl
    have off : ∀ b, b ≠ a → H0 b = none := fun b n => if_neg n
    refine main H0 ?_ (Or.inl (Or.inr ⟨_, atA⟩)) ?_ ?_ (fun _ => hk)
    · intro b
      by_cases e : b = a
      · subst e; exact Or.inr ⟨_, _, atA⟩
      · exact Or.inl (off b e)
    · intro b u z
      by_cases e : b = a
      · subst e
        rw [atA] at z
        injection z with z
        subst z
        exact ⟨ha, by rw [List.length_map]; exact hl, vs, _, rel, ha⟩
      · rw [off b e] at z; exact nomatch z
    · intro b z
      by_cases e : b = a
      · exact e
      · exact absurd (off b e) z

theorem walk_ofG {l : PySem.W.OpenLaw} {n k : Nat} {q : Program} {loose : List Str} {XP : (Str → Option Value) → Heap → Prop} {YP : World → Heap → Prop} {d : DefRec} {K : Params → PySem.W.Frag} {sp : World → Sp} {x : Str}
    (hn : l.most = some n) (hn2 : n ≤ sizeLine) (hdf : d.params.defaults = []) (hr : Room k callerA)
    (hY : ∀ (w : World) (h : Heap), YP w h → (K w.params).In h)
    (F : ∀ (w : World) (mg : Str → Option Value) (fa : Addr) (h : Heap), (K w.params).In h → h.Ns mainGlobals mg → mg d.name = some (.ref fa) →
      ∃ fd : FuncData, (∀ (s : Shared) (u : Value), BindsTo s fd ⟨[u], []⟩ [(x, u)]) ∧
        ∀ base : Heap, (K w.params).In base → base.Ns mainGlobals mg → FnG l.prog w (K w.params) mg base k fa fd [x] (sp w))
    (hsp : ∀ (w : World) (H : Hp) (a : Addr) (ns : List Int), ns.length ≤ n → Only H → SqL (K w.params) H a (ns.map V.int) → sp w [.ref a] H (fun v _ => v = .bl true) NoE) :
    PySem.W.WalkO q loose XP YP l.row.toRowW d [] (fun f vs => PySem.call f vs) := by
  apply Att.attach_call hn hdf
  intro w s₀ s₁ mg mb fa o pm cd doc a vs ns G Y ho hd hcd hmg hobj hints hlen hg
  obtain ⟨fd, hb, hF⟩ := F w mg fa _ (hY w _ Y) G.T.g hmg
  exact law_callG (hY w _ Y) G.T.g G.T.b G.T.builtins G.T.nolimit hg hobj hints (Nat.le_trans hlen hn2) hr hF hb
    (fun H hO hS => hsp w H a ns hlen hO hS)
end WK
set_option Elab.async false
set_option linter.all false
set_option maxRecDepth 100000
namespace WK
open PySem PySem.Spec PyProof.Rows L2

/-! ### heaps that go on -/
/-- all but p and c stays -/
def Off (p c : Addr) (H H' : Hp) : Prop := ∀ b o, b ≠ p → b ≠ c → H b = some o → H' b = some o
theorem Off.refl (p c : Addr) (H : Hp) : Off p c H H := fun _ _ _ _ h => h
theorem Off.trans {p c : Addr} {H H1 H2 : Hp} (a : Off p c H H1) (b : Off p c H1 H2) : Off p c H H2 := fun x o h1 h2 e => b x o h1 h2 (a x o h1 h2 e)
theorem Same.off {p c : Addr} {H H' : Hp} (a : Same H H') : Off p c H H' := fun b o _ _ e => a b o e
theorem same_new {H : Hp} {p : Addr} {o : HO} (h : H p = none) : Same H (upd H p o) := fun b x e => by
  rw [upd_ne (ne_of_none e h)]
  exact e
/-- a new object stands at p: go on with any heap that holds all that was, and it -/
theorem fresh {H : Hp} {p : Addr} {o : HO} {G : Hp → Prop} (np : H p = none) (k : ∀ H1, Same H H1 → H1 p = some o → G H1) : G (upd H p o) := k _ (same_new np) upd_same
theorem Off.at_p {p c : Addr} {H : Hp} {o : HO} : Off p c H (upd H p o) := fun b x h1 _ e => by
  rw [upd_ne h1]
  exact e
theorem Off.at_c {p c : Addr} {H : Hp} {o : HO} : Off p c H (upd H c o) := fun b x _ h2 e => by
  rw [upd_ne h2]
  exact e

/-! ### the source of draws -/
def srcK (c : Addr) (l m t : Int) : List (Key × V) := [(.inr "cells", .ref c), (.inr "left", .int l), (.inr "mixed", .int m), (.inr "turn", .int t)]
theorem k12 : ¬ (("cells" : Str) = "left") := by decide +kernel
theorem k13 : ¬ (("cells" : Str) = "mixed") := by decide +kernel
theorem k14 : ¬ (("cells" : Str) = "turn") := by decide +kernel
theorem k23 : ¬ (("left" : Str) = "mixed") := by decide +kernel
theorem k24 : ¬ (("left" : Str) = "turn") := by decide +kernel
theorem k34 : ¬ (("mixed" : Str) = "turn") := by decide +kernel
theorem kne {a b : Str} (h : ¬ a = b) : ¬ ((.inr a : Key) = .inr b) := fun e => h (Sum.inr.inj e)
section
variable {c : Addr} {l m t x : Int}
theorem src_cells : valV (srcK c l m t) (.inr "cells") = some (.ref c) := valV_pos rfl
theorem src_left : valV (srcK c l m t) (.inr "left") = some (.int l) := (valV_neg (kne k12)).trans (valV_pos rfl)
theorem src_mixed : valV (srcK c l m t) (.inr "mixed") = some (.int m) := (valV_neg (kne k13)).trans ((valV_neg (kne k23)).trans (valV_pos rfl))
theorem src_turn : valV (srcK c l m t) (.inr "turn") = some (.int t) := (valV_neg (kne k14)).trans ((valV_neg (kne k24)).trans ((valV_neg (kne k34)).trans (valV_pos rfl)))
theorem put_left : putK (srcK c l m t) (.inr "left") (.int x) = srcK c x m t := by
  simp [putK, srcK, k12, k13, k14, k23, k24, k34, Ne.symm k23, Ne.symm k24, Ne.symm k34]
theorem put_mixed : putK (srcK c l m t) (.inr "mixed") (.int x) = srcK c l x t := by
  simp [putK, srcK, k12, k13, k14, k23, k24, k34, Ne.symm k23, Ne.symm k24, Ne.symm k34]
theorem put_turn : putK (srcK c l m t) (.inr "turn") (.int x) = srcK c l m x := by
  simp [putK, srcK, k12, k13, k14, k23, k24, k34, Ne.symm k23, Ne.symm k24, Ne.symm k34]
end
/-- the source at p, its cells at c -/
structure Src (H : Hp) (p c : Addr) : Prop where
  ex : ∃ (cells : List Int) (l m t : Int), H p = some (.dK (srcK c l m t)) ∧ H c = some (.lst (cells.map V.int))
theorem Src.ne {H : Hp} {p c : Addr} (S : Src H p c) : p ≠ c := by
  obtain ⟨_, _, _, _, a, b⟩ := S.ex
  exact ne_of a b (by intro z; cases z)
theorem Src.same {H H' : Hp} {p c : Addr} (S : Src H p c) (s : Same H H') : Src H' p c := by
  obtain ⟨cells, l, m, t, a, b⟩ := S.ex
  exact ⟨cells, l, m, t, s _ _ a, s _ _ b⟩
theorem Src.ne_p {H : Hp} {p c a : Addr} (S : Src H p c) (n : H a = none) : a ≠ p := by
  obtain ⟨_, _, _, _, q, _⟩ := S.ex
  exact (ne_of_none q n).symm
theorem Src.ne_c {H : Hp} {p c a : Addr} (S : Src H p c) (n : H a = none) : a ≠ c := by
  obtain ⟨_, _, _, _, _, q⟩ := S.ex
  exact (ne_of_none q n).symm
theorem Src.tup_ne {H : Hp} {p c a : Addr} {xs : List V} (S : Src H p c) (n : H a = some (.tup xs)) : a ≠ p ∧ a ≠ c := by
  obtain ⟨_, _, _, _, q1, q2⟩ := S.ex
  exact ⟨ne_of n q1 (by intro z; cases z), ne_of n q2 (by intro z; cases z)⟩
theorem Off.tup {H H' : Hp} {p c a : Addr} {xs : List V} (o : Off p c H H') (S : Src H p c) (n : H a = some (.tup xs)) : H' a = some (.tup xs) :=
  o a _ (S.tup_ne n).1 (S.tup_ne n).2 n

/-! ### what the helpers promise -/
def spSource (K : PySem.W.Frag) : Sp := fun vs H Q _ => ∃ (a : Addr) (ns : List Int), vs = [.ref a] ∧ SqL K H a (ns.map V.int) ∧ ns.length ≤ 63 ∧
  ∀ H' p c, Src H' p c → Same H H' → H p = none → H c = none → Q (.ref p) H'
def spPick : Sp := fun vs H Q _ => ∃ (p c : Addr) (many : Int), vs = [.ref p, .int many] ∧ Src H p c ∧ many < 1073741824 ∧
  ∀ H' r, Src H' p c → Off p c H H' → 0 ≤ r → (r < many ∨ r = 0) → Q (.int r) H'
def spOf (K : PySem.W.Frag) : Sp := fun vs H Q _ => ∃ (p c l : Addr) (xs : List V), vs = [.ref p, .ref l] ∧ Src H p c ∧ (∀ H', Off p c H H' → SqL K H' l xs ∨ SqT K H' l xs) ∧ xs ≠ [] ∧ xs.length ≤ 100000 ∧
  ∀ H' x, x ∈ xs → Src H' p c → Off p c H H' → Q x H'

/-! ### data and heaps -/
mutual
theorem dp_same {K : PySem.W.Frag} {H H' : Hp} (s : Same H H') : ∀ (d : PyData) (v : V), Dp K H v d → Dp K H' v d
  | .none, _, h => by cases h; exact .non
  | .bool _, _, h => by cases h; exact .bl _
  | .int _, _, h => by cases h; exact .int _
  | .str _, _, h => by cases h; exact .str _
  | .list ds, _, h => by
    cases h with
    | lst a q => exact .lst (s.seq a) (dp_sameAll s ds _ q)
  | .tuple ds, _, h => by
    cases h with
    | tup a q =>
      refine .tup ?_ (dp_sameAll s ds _ q)
      rcases a with (a | ⟨o, a⟩) | a
      · exact .inl (.inl (s _ _ a))
      · exact .inl (.inr ⟨o, s _ _ a⟩)
      · exact .inr a
  | .dict _, _, h => by cases h
theorem dp_sameAll {K : PySem.W.Frag} {H H' : Hp} (s : Same H H') : ∀ (ds : List PyData) (vs : List V), DpAll K H vs ds → DpAll K H' vs ds
  | [], _, h => by cases h; exact .nil
  | d :: ds, _, h => by
    cases h with
    | cons a b => exact .cons (dp_same s d _ a) (dp_sameAll s ds _ b)
end
theorem dp_ints {K : PySem.W.Frag} {H : Hp} : ∀ ns : List Int, DpAll K H (ns.map V.int) (ns.map PyData.int)
  | [] => .nil
  | n :: ns => .cons (.int n) (dp_ints ns)
theorem dp_snoc {K : PySem.W.Frag} {H : Hp} : ∀ {vs : List V} {ds : List PyData} {v : V} {d : PyData}, DpAll K H vs ds → Dp K H v d → DpAll K H (vs ++ [v]) (ds ++ [d])
  | _, _, _, _, .nil, h => .cons h .nil
  | _, _, _, _, .cons a b, h => .cons a (dp_snoc b h)
theorem dp_len {K : PySem.W.Frag} {H : Hp} : ∀ {vs : List V} {ds : List PyData}, DpAll K H vs ds → vs.length = ds.length
  | _, _, .nil => rfl
  | _, _, .cons _ b => congrArg (· + 1) (dp_len b)
/-! ### small things -/
theorem int_at {ns : List Int} {i : Nat} {x : V} (h : (ns.map V.int)[i]? = some x) : ∃ z, ns[i]? = some z ∧ x = .int z := by
  rw [List.getElem?_map] at h
  obtain ⟨z, e, r⟩ := Option.map_eq_some_iff.mp h
  exact ⟨z, e, r.symm⟩
theorem mulr {i j : Int} (h : -(2 ^ 64) < j ∧ j < 2 ^ 64) : CMul i j := .inr h
theorem mull {i j : Int} (h : -(2 ^ 64) < i ∧ i < 2 ^ 64) : CMul i j := .inl h
theorem new_of {H H2 : Hp} {p : Addr} {o : HO} (e : upd H p o = H2) (np : H p = none) : Same H H2 ∧ H2 p = some o := by
  subst e
  exact ⟨same_new np, upd_same⟩
theorem chg {H H2 : Hp} {p : Addr} {o : HO} (e : upd H p o = H2) : H2 p = some o ∧ ∀ b, b ≠ p → H2 b = H b := by
  subst e
  exact ⟨upd_same, fun b h => upd_ne h⟩
theorem small63 {n : Nat} (h : n ≤ 63) : n < sizeLine := Nat.lt_of_le_of_lt h (by decide)
theorem abs_eq (z : Int) : (if z < 0 then -z else z) = (z.natAbs : Int) := by split <;> omega
theorem take_snoc {α β : Type} {xs : List α} {i : Nat} {z : α} (h : xs[i]? = some z) (f : α → β) : ((xs.take (i + 1)).map f) = (xs.take i).map f ++ [f z] := by
  rw [List.take_add_one, h, List.map_append]
  rfl
theorem yesT {σ : L2.St} {H : Hp} {A B : Bool → Hp → Prop} {s t : L2.St} (e : s = t) (h : A true H) : s = t ∧ tYes σ H fun b G => if b = true then A b G else B b G := ⟨e, h⟩
theorem ifT {A B : Prop} {c : Bool} (e : c = true) (h : A) : if c = true then A else B := by
  subst e
  exact h
theorem while3 {c : TT} {tb : TS} {D : Ends} {σ : L2.St} {H : Hp} (Pv : Nat → L2.St → Hp → Prop) (n : Nat) (h0 : Pv n σ H) (after : ∀ m σ H, Pv m σ H → D.nx σ H)
    (turn : (∀ m σ H, Pv m σ H → D.nx σ H) → ∀ m σ H, Pv m σ H → c σ H fun b H1 => if b = true then
      ∃ N : L2.St → Hp → Prop, (∀ σ' H', N σ' H' → ∃ m', m' < m ∧ Pv m' σ' H') ∧ tb { D with nx := N, ct := N, bk := D.nx } σ H1 else D.nx σ H1) : tWhile c tb D σ H :=
  ⟨Pv, ⟨n, h0⟩, turn after⟩
theorem src_get {H : Hp} {p : Addr} {kvs : List (Key × V)} {x : Str} {v : V} (h : H p = some (.dK kvs)) (e : valV kvs (.inr x) = some v) : DGet H p (.str x) (some v) := .inl ⟨kvs, .inr x, .inl h, rfl, e.symm⟩
theorem src_put {H H' : Hp} {p : Addr} {kvs kvs' : List (Key × V)} {x : Str} {v : V} (h : H p = some (.dK kvs)) (l : kvs.length = 4) (e : putK kvs (.inr x) v = kvs') (hH : H' = upd H p (.dK kvs')) : DPut H p (.str x) v H' :=
  .inl ⟨kvs, .inr x, h, rfl, by rw [l]; decide, by rw [e]; exact hH⟩
theorem fmod_bounds {a b : Int} (h : 0 < b) : 0 ≤ a.fmod b ∧ a.fmod b < b := by
  rw [Int.fmod_eq_emod_of_nonneg a (by omega)]
  exact ⟨Int.emod_nonneg _ (by omega), Int.emod_lt_of_pos _ h⟩
end WK
set_option Elab.async false
set_option linter.all false
set_option maxRecDepth 100000
namespace WK
open PySem PySem.Spec PyProof.Rows L2

/-! ### data that repr shows, and how long that is -/
mutual
def Lil : PyData → Prop
  | .none => True
  | .bool _ => True
  | .int i => i.natAbs < 10 ^ 150
  | .str x => ∀ c ∈ x.cps.toList, c < 16 ^ 8
  | .list xs => LilAll xs
  | .tuple xs => LilAll xs
  | .dict _ => False
def LilAll : List PyData → Prop
  | [] => True
  | x :: xs => Lil x ∧ LilAll xs
end
mutual
def cost : PyData → Nat
  | .none => 5
  | .bool _ => 5
  | .int _ => 151
  | .str x => 10 * x.length + 4
  | .list xs => costAll xs + 3
  | .tuple xs => costAll xs + 3
  | .dict _ => 0
def costAll : List PyData → Nat
  | [] => 0
  | x :: xs => cost x + 2 + costAll xs
end
theorem lil_int {i : Int} (h : i.natAbs < 10 ^ 150) : i.natAbs.log2 < 1920 := by
  by_cases h0 : i.natAbs = 0
  · rw [h0]; decide
  · exact (Nat.log2_lt h0).mpr (Nat.lt_of_lt_of_le h (by decide +kernel))
theorem shown_int {i : Int} (h : i.natAbs < 10 ^ 150) : (PyData.shown (.int i)).length ≤ 151 := by
  have e : PyData.shown (.int i) = Str.ofString (toString i) := rfl
  rw [e, PySem.ofString_length]
  exact int_text_length_le10 (k := 150) (by decide) h
mutual
theorem lil_show : ∀ d : PyData, Lil d → d.showable = true ∧ d.shown.length ≤ cost d
  | .none, _ => ⟨rfl, by decide⟩
  | .bool b, _ => ⟨rfl, by cases b <;> decide⟩
  | .int i, h => ⟨by simpa only [PyData.showable, decide_eq_true_eq] using lil_int (by simpa only [Lil] using h), shown_int (by simpa only [Lil] using h)⟩
  | .str x, h => ⟨rfl, by
      have e := StrLaws.reprText_len x (by simpa only [Lil] using h)
      simp only [PyData.shown, cost]
      omega⟩
  | .list xs, h => by
    obtain ⟨a, b⟩ := lil_showAll xs (by simpa only [Lil] using h)
    have l := listText_len_le (PyData.shownAll xs)
    have n := PyData.shownAll_length xs
    refine ⟨by simpa only [PyData.showable] using a, ?_⟩
    simp only [PyData.shown, cost]
    omega
  | .tuple xs, h => by
    obtain ⟨a, b⟩ := lil_showAll xs (by simpa only [Lil] using h)
    have l := tupleText_len_le (PyData.shownAll xs)
    have n := PyData.shownAll_length xs
    refine ⟨by simpa only [PyData.showable] using a, ?_⟩
    simp only [PyData.shown, cost]
    omega
  | .dict _, h => by simp only [Lil] at h
theorem lil_showAll : ∀ xs : List PyData, LilAll xs → PyData.showableAll xs = true ∧ ((PyData.shownAll xs).map (·.length)).sum + 2 * xs.length ≤ costAll xs
  | [], _ => ⟨rfl, by simp [PyData.shownAll, costAll]⟩
  | x :: xs, h => by
    have h' : Lil x ∧ LilAll xs := by simpa only [LilAll] using h
    obtain ⟨a, b⟩ := lil_show x h'.1
    obtain ⟨c, d⟩ := lil_showAll xs h'.2
    refine ⟨by simp only [PyData.showableAll, a, c, Bool.and_self], ?_⟩
    simp only [PyData.shownAll, costAll, List.map_cons, List.sum_cons, List.length_cons]
    omega
end
theorem shows_of {d : PyData} (h : Lil d) (hd : d.depth ≤ 20) (hc : cost d ≤ sizeLine) : Shows d :=
  ⟨(lil_show d h).1, hd, Nat.le_trans (lil_show d h).2 hc⟩
theorem lilAll_iff : ∀ {xs : List PyData}, LilAll xs ↔ ∀ x ∈ xs, Lil x
  | [] => by simp [LilAll]
  | x :: xs => by simp [LilAll, lilAll_iff (xs := xs)]
theorem costAll_le {c : Nat} : ∀ {xs : List PyData}, (∀ x ∈ xs, cost x ≤ c) → costAll xs ≤ xs.length * (c + 2)
  | [], _ => by simp [costAll]
  | x :: xs, h => by
    have h1 := h x (List.mem_cons_self ..)
    have h2 := costAll_le (xs := xs) fun y hy => h y (List.mem_cons_of_mem _ hy)
    simp only [costAll, List.length_cons, Nat.add_mul]
    omega
theorem depthAll_le {c : Nat} : ∀ {xs : List PyData}, (∀ x ∈ xs, x.depth ≤ c) → PyData.depthAll xs ≤ c
  | [], _ => by simp [PyData.depthAll]
  | x :: xs, h => by
    have h1 := h x (List.mem_cons_self ..)
    have h2 := depthAll_le (xs := xs) fun y hy => h y (List.mem_cons_of_mem _ hy)
    simp only [PyData.depthAll]
    omega
theorem canLayAll_iff : ∀ {xs : List PyData}, PyData.canLayAll0 xs = true ↔ ∀ x ∈ xs, x.canLay0 = true
  | [] => by simp [PyData.canLayAll0]
  | x :: xs => by simp [PyData.canLayAll0, canLayAll_iff (xs := xs)]
/-- a row of ints as data -/
abbrev intsD (ns : List Int) : List PyData := ns.map PyData.int
theorem lil_ints {ns : List Int} (h : ∀ n ∈ ns, n.natAbs < 10 ^ 150) : LilAll (intsD ns) := by
  rw [lilAll_iff]
  intro x hx
  obtain ⟨n, hn, rfl⟩ := List.mem_map.mp hx
  simpa only [Lil] using h n hn
theorem cost_ints {ns : List Int} : costAll (intsD ns) ≤ ns.length * 153 := by
  have := costAll_le (c := 151) (xs := intsD ns) (fun x hx => by
    obtain ⟨n, hn, rfl⟩ := List.mem_map.mp hx
    simp only [cost]
    omega)
  rw [List.length_map] at this
  exact this
theorem depth_ints {ns : List Int} : PyData.depthAll (intsD ns) = 0 := by
  have := depthAll_le (c := 0) (xs := intsD ns) (fun x hx => by
    obtain ⟨n, hn, rfl⟩ := List.mem_map.mp hx
    simp only [PyData.depth]
    omega)
  omega
theorem lay_ints {ns : List Int} : PyData.canLayAll0 (intsD ns) = true := by
  rw [canLayAll_iff]
  intro x hx
  obtain ⟨n, hn, rfl⟩ := List.mem_map.mp hx
  rfl
theorem shaped_list_ints {ns : List Int} : SeqAt.shaped (.list (intsD ns)) = true := by
  simp only [SeqAt.shaped, PyData.canLay0, lay_ints, PyData.depth, depth_ints]
  decide
theorem shaped_tup_ints {ns : List Int} : SeqAt.shaped (.tuple (intsD ns)) = true := by
  simp only [SeqAt.shaped, PyData.canLay0, lay_ints, PyData.depth, depth_ints]
  decide
theorem eqv_nil {ns : List Int} : PyData.eqv (.list (intsD ns)) (.list []) = decide (ns = []) := by
  cases ns with
  | nil => simp [PyData.eqv, PyData.eqvAll]
  | cons n ns => simp [PyData.eqv, PyData.eqvAll]
theorem nul_ints {K : PySem.W.Frag} {H : Hp} {a : Addr} {ns : List Int} (h : H a = some (.lst (ns.map V.int))) : Dp K H (.ref a) (.list (intsD ns)) := .lst (.inl (.inl h)) (dp_ints ns)

/-! ### slices -/
theorem cut_take {xs : List V} {k : Nat} : cutV xs none (some (k : Int)) = xs.take k := by
  unfold cutV
  rw [HT.sIx_nat, HT.sIx_none, List.drop_zero, Nat.sub_zero, List.take_eq_take_iff]
  omega
theorem cut_drop1 {xs : List V} : cutV xs (some 1) none = xs.drop 1 := by
  unfold cutV
  rw [show HT.sIx xs.length 0 (some 1) = min 1 xs.length from HT.sIx_nat xs.length 0 1, HT.sIx_none]
  cases xs with
  | nil => rfl
  | cons x r =>
    have e : min 1 (x :: r).length = 1 := by simp only [List.length_cons]; omega
    rw [e, List.drop_one, List.tail_cons, List.length_cons, Nat.add_sub_cancel, List.take_length]
theorem Off.new {p c a : Addr} {H H1 : Hp} {o : HO} (s : Off p c H H1) (n : H a = none) : Off p c H (upd H1 a o) := fun b x h1 h2 e => by
  rw [upd_ne (ne_of_none e n)]
  exact s b x h1 h2 e
theorem Off.free {p c a : Addr} {H H1 : Hp} (s : Off p c H H1) (n : H1 a = none) (h1 : a ≠ p) (h2 : a ≠ c) : H a = none := by
  match q : H a with
  | none => rfl
  | some o =>
    have := s a o h1 h2 q
    rw [n] at this
    exact nomatch this
theorem Src.free {p c a : Addr} {H H1 : Hp} (s : Off p c H H1) (S : Src H1 p c) (n : H1 a = none) : H a = none := s.free n (S.ne_p n) (S.ne_c n)
theorem Src.upd_new {p c a : Addr} {H : Hp} {o : HO} (S : Src H p c) (h1 : a ≠ p) (h2 : a ≠ c) : Src (upd H a o) p c := by
  obtain ⟨cells, l, m, t, e1, e2⟩ := S.ex
  exact ⟨cells, l, m, t, by rw [upd_ne h1.symm]; exact e1, by rw [upd_ne h2.symm]; exact e2⟩
def spDraw : Sp := fun vs H Q _ => ∃ (p c : Addr) (ticks : Nat) (most : Int), vs = [.ref p, .int ticks, .int most] ∧ Src H p c ∧ ticks ≤ 1000 ∧ 1 ≤ most ∧ most < 1000000000 ∧
  ∀ (H' : Hp) (t : Addr) (ns : List Int), Src H' p c → Off p c H H' → H' t = some (.tup (ns.map V.int)) → H t = none → ns.length = ticks → (∀ z ∈ ns, 0 ≤ z ∧ z ≤ most) → Q (.ref t) H'
theorem while4 {c : TT} {tb : TS} {D : Ends} {σ : L2.St} {H : Hp} (Pv : Nat → L2.St → Hp → Prop) (Pa : L2.St → Hp → Prop) (n : Nat) (h0 : Pv n σ H) (after : ∀ σ H, Pa σ H → D.nx σ H)
    (turn : (∀ σ H, Pa σ H → D.nx σ H) → ∀ m σ H, Pv m σ H → c σ H fun b H1 => if b = true then
      ∃ N : L2.St → Hp → Prop, (∀ σ' H', N σ' H' → ∃ m', m' < m ∧ Pv m' σ' H') ∧ tb { D with nx := N, ct := N, bk := D.nx } σ H1 else D.nx σ H1) : tWhile c tb D σ H :=
  ⟨Pv, ⟨n, h0⟩, turn after⟩
theorem dp_app {K : PySem.W.Frag} {H : Hp} : ∀ {vs : List V} {ds : List PyData} {us : List V} {es : List PyData}, DpAll K H vs ds → DpAll K H us es → DpAll K H (vs ++ us) (ds ++ es)
  | _, _, _, _, .nil, h => h
  | _, _, _, _, .cons a b, h => .cons a (dp_app b h)
theorem rep1 {z : Int} : ∀ {k : Nat}, (List.replicate k [V.int z]).flatten = (List.replicate k z).map V.int
  | 0 => rfl
  | k + 1 => by
    rw [List.replicate_succ, List.flatten_cons, rep1, List.replicate_succ, List.map_cons]
    rfl
theorem many_small {n : Nat} (h : n ≤ 100000) : n < sizeLine := Nat.lt_of_le_of_lt h (by decide)
theorem tif_R {t : TT} {ta tb : TE} {σ : L2.St} {H : Hp} {Q : VK} (R : V → Hp → Prop) (key : ∀ v H, R v H → Q v H) (h : ∀ Q' : VK, (∀ v H, R v H → Q' v H) → tIf t ta tb σ H Q') : tIf t ta tb σ H Q := h Q key
end WK
set_option Elab.async false
set_option linter.all false
set_option maxRecDepth 100000
namespace WK
open PySem PySem.Spec PyProof.Rows L2
open AutoSeq1 (wpAny_loadPart')

/-! ### enumerate of a tuple -/
def it_obj (t : Addr) : Obj := { cls := .type "tuple_iterator", data := .fields #[.ref t, .int 0 0] }
def en_obj (i : Addr) : Obj := { cls := .type "enumerate", data := .fields #[.none, .bool false, .ref i, rawInt 0, .none, .none] }
def enum_heap (h : Heap) (t : Addr) : Heap := (h.push (it_obj t)).push (en_obj h.objs.size)
theorem enum_make (t : Addr) (its : Array Value) (n : Nat) (dct : Option Addr) (sl : Array (Option Value)) :
    Meets (Builtin.«enumerate.__new__» ⟨[.type "enumerate", .ref t], []⟩)
      (fun _ R s => s.heap.get? t = some { cls := .type "tuple", dict := dct, data := .seq its n, slots := sl } ∧
        R (.ok (.ret (.ref (s.heap.push (it_obj t)).objs.size)))
          { s with heap := enum_heap s.heap t }) :=
  .of_wp fun prog w A R s h => by
    obtain ⟨hp, g, d, tk, os⟩ := s
    obtain ⟨ht, h⟩ := h
    have hsub := sub_enumerate
    have tup : Heap.IsTuple (Shared.heap ⟨hp, g, d, tk, os⟩) t its := ⟨_, ht, rfl, n, rfl⟩
    wp_walk using wpAny_loadPart' ht
    refine wpAny_stack_any fun st => wpAny_pure ?_
    split
    · rename_i c _ _ _ _ _
      cases (c == Value.type "enumerate")
      · wp_walk using wpAny_loadPart' ht, wpAny_pyIter_tuple tup
        exact ⟨_, rfl, h⟩
      · wp_walk using wpAny_loadPart' ht, wpAny_pyIter_tuple tup
        exact ⟨_, rfl, h⟩
    · wp_walk using wpAny_loadPart' ht, wpAny_pyIter_tuple tup
      exact ⟨_, rfl, h⟩
section
variable {prog : Program} {w : World} {A : Around} {E : Value → Shared → Prop} {s : Shared}
theorem call_enumT {t : Addr} {its : Array Value} {Q : Value → Shared → Prop} (tup : s.heap.IsTuple t its)
    (h : ∀ h', IsEnum h' (s.heap.objs.size + 1) s.heap.objs.size 0 .none → h'.IsTupleIter s.heap.objs.size t 0 →
      (∀ b o, s.heap.get? b = some o → h'.get? b = some o) → Q (.ref (s.heap.objs.size + 1)) { s with heap := h' }) :
    wpAny (model prog w) A (call (.type "enumerate") [.ref t]) Q E s := by
  obtain ⟨⟨c, dct, dt, sl⟩, ht, hc, n, hd⟩ := tup
  have hc : c = .type "tuple" := hc
  have hd : dt = .seq its n := hd
  subst hc
  subst hd
  have size1 : (s.heap.push (it_obj t)).objs.size = s.heap.objs.size + 1 := Heap.size_push ..
  have en : (enum_heap s.heap t).get? (s.heap.objs.size + 1) = some (en_obj s.heap.objs.size) := by
    have := Heap.get?_push_size (s.heap.push (it_obj t)) (o := en_obj s.heap.objs.size) rfl
    rw [size1] at this
    exact this
  refine callType_new F.called_enumerate (by decide) (F.typeCall_enumerate_1 _) (F.newCall_enumerate_1 _)
    (fun obj => F.args_object_init_2 obj _) F.entry_enumerate_new (enum_make t its n dct sl) ⟨ht, ?_⟩
  show _ ∧ _
  rw [size1]
  refine ⟨⟨_, en, rfl⟩, h _ en ?_ ?_⟩
  · exact ⟨_, Heap.get?_push_of_some _ (Heap.get?_push_size _ rfl), rfl, rfl⟩
  · intro b o x
    exact Heap.get?_push_of_some _ (Heap.get?_push_of_some _ x)
end

/-- the tuple at a as it stands, each item with its number in a new pair -/
def IteT (K : PySem.W.Frag) (a : Addr) : It :=
  ⟨fun i H => ∃ (xs : List V) (x : V), SqT K H a xs ∧ xs[i]? = some x,
   fun i H v H' => ∃ T x, v = .ref T ∧ H T = none ∧ H' = upd H T (.tup [.int (i : Nat), x]) ∧ ∀ xs, SqT K H a xs → xs[i]? = some x,
   fun i H => ∃ xs : List V, SqT K H a xs ∧ xs.length ≤ i⟩
theorem turn_enumT {P : Program} {w : World} {K : PySem.W.Frag} {elts : List Expr} {kk : Nat} {tpos : Pos} (a e it : Addr) :
    Turn P w K (.Tuple elts kk tpos) (IteT K a) [e, it] e
      (fun i h => (∃ old, IsEnum h e it ((i : Nat) : Int) old) ∧ h.IsTupleIter it a i ∧ e ≠ it) where
  mem := by simp
  obj := by
    rintro i h ⟨⟨old, he⟩, ⟨o, ho, hc, hd⟩, _⟩ b hb
    rcases List.mem_cons.mp hb with z | z
    · rw [z]
      exact ⟨_, he, fun v q => nomatch q⟩
    · rw [List.mem_singleton.mp z]
      exact ⟨o, ho, fun v q => by rw [hd] at q; exact nomatch q⟩
  keep := by
    rintro i h h' ⟨⟨old, he⟩, hi, hne⟩ k
    exact ⟨⟨old, k e (by simp) _ he⟩, hi.at (fun o q => k it (by simp) o q), hne⟩
  item := by
    intro X hP hw hK hc i pins s σ H E I hf st hg
    subst hP hw hK
    obtain ⟨⟨old, he⟩, hit, hne⟩ := st
    obtain ⟨xs, x, hq, hx⟩ := hg
    obtain ⟨its, rv, tp, _⟩ := I.tuple hq
    obtain ⟨u, hu, ru⟩ := rv.get hx
    have le : e < s.heap.objs.size := Heap.lt_size he
    have li : it < s.heap.objs.size := by
      obtain ⟨_, q, _⟩ := hit
      exact Heap.lt_size q
    have ait : a ≠ it := by
      rintro rfl
      obtain ⟨o1, q1, c1, _⟩ := tp
      obtain ⟨o2, q2, c2, _⟩ := hit
      rw [q1] at q2
      injection q2 with q2
      subst q2
      rw [c1] at c2
      injection c2 with c2
      exact absurd c2 (by decide)
    have ae : e ≠ a := by
      rintro rfl
      obtain ⟨o1, q1, c1, _⟩ := tp
      have he' : s.heap.get? e = some _ := he
      rw [he'] at q1
      injection q1 with q1
      subst q1
      injection c1 with c1
      exact absurd c1 (by decide)
    have szI : i < its.toArray.size := by
      rw [List.size_toArray]
      exact (List.getElem?_eq_some_iff.mp hu).1
    refine wpAny_pyNext_enum_itemD (Draws.tuple (A := X.A.in1) (I.ok.hd hc) it a ait its.toArray) he ⟨hit, tp⟩ szI hne (by simp [hne, ae]) ?_
    intro x' h' tk px out st' hT hsz hk
    have hxx : its.toArray[i]? = some x' := px
    have exu : x' = u := by
      rw [List.getElem?_toArray, hu] at hxx
      injection hxx with z
      exact z.symm
    subst exu
    refine ⟨_, rfl, wpAny_letOwnedTupleGo_enum (s := { s with heap := h', toks := tk + 1 }) out ?_⟩
    intro h'' he' sb
    have T2 : h''.get? s.heap.objs.size = some { cls := .type "tuple", data := .seq #[.int i tk, x'] } := (sb.2 _ (Nat.ne_of_gt le)).trans hT
    have new : ObjOk X.prog X.w (upd H s.heap.objs.size (.tup [.int (i : Nat), x])) h'' s.heap.objs.size (.tup [.int (i : Nat), x]) := by
      refine ⟨by show 2 ≤ sizeLine; decide, [.int i tk, x'], .cons ⟨_, rfl⟩ (.cons ru .nil), ⟨_, T2, rfl, _, rfl⟩⟩
    have I1 : Inv X pins σ (upd H s.heap.objs.size (.tup [.int (i : Nat), x])) { s with heap := h'', toks := tk + 1 } := by
      refine I.turnedNew (ch := [e, it]) ?_ hf (Nat.le_refl _) new
      intro b o hb q
      have b1 : b ≠ e := fun z => hb (by simp [z])
      have b2 : b ≠ it := fun z => hb (by simp [z])
      exact (sb.2 b b1).trans (hk b o b1 b2 q)
    refine ⟨.ref s.heap.objs.size, _, I1, rfl, ?_, ⟨⟨x', ?_⟩, ?_, hne⟩, ?_⟩
    · refine ⟨_, x, rfl, I.hok.fresh (Nat.le_refl _), rfl, ?_⟩
      intro ys hy
      rw [I.tuple_inj hy hq]
      exact hx
    · have e1 : ((i + 1 : Nat) : Int) = (i : Int) + 1 := by omega
      rw [e1]
      exact he'
    · exact st'.1.at fun o q => (sb.2 it (Ne.symm hne)).trans q
    · intro b hb
      have lb : b < s.heap.objs.size := by
        rcases List.mem_cons.mp hb with z | z
        · rw [z]; exact le
        · rw [List.mem_singleton.mp z]; exact li
      rw [upd_ne (Nat.ne_of_lt lb)]
      exact (hf b hb).1
  done := by
    intro X hP hw hK hc i pins s σ H E I hf st hg
    subst hP hw hK
    obtain ⟨⟨old, he⟩, hit, hne⟩ := st
    obtain ⟨xs, hq, hx⟩ := hg
    obtain ⟨its, rv, tp, _⟩ := I.tuple hq
    have hl := rv.length
    have over : its.toArray[i + 0]? = none := by
      rw [List.getElem?_toArray]
      exact List.getElem?_eq_none_iff.mpr (by omega)
    have D0 : Draws X.prog X.w X.A.in1 it [it, a] 0 (fun _ _ => False) (fun j h => h.IsTupleIter it a (i + j) ∧ h.IsTuple a its.toArray) :=
      { live := fun _ _ z => by
          obtain ⟨o, ho, _⟩ := z.1
          exact ⟨o, ho⟩
        frame := fun _ _ _ z hk => ⟨z.1.at (fun o e => hk it (by simp) o e), z.2.at (fun o e => hk a (by simp) o e)⟩
        item := fun _ _ _ _ z => absurd z (Nat.not_lt_zero _)
        done := fun s Q E z hE => wpAny_nextOf_tuple_end (I.ok.hd hc) z.1 z.2 over hE }
    obtain ⟨f0, f1, f2, f3, f4, f5⟩ := hf it (by simp)
    refine wpAny_pyNext_enum_endD D0 he ⟨hit, tp⟩ ?_
    intro h' eb
    exact ⟨rfl, I.turned (t' := s.toks) (fun b o hb q => eb b o hb q) f0 f1 f3 f4 f5⟩
  self := fun A i s Q E st h => by
    obtain ⟨⟨_, he⟩, _⟩ := st
    exact wpAny_pyIter_enum he h
def iEnumT (K : PySem.W.Frag) (ta : TA) : TI := fun σ H R => ta σ H fun vs H1 => ∃ a xs, vs = [.ref a] ∧ SqT K H1 a xs ∧ R (IteT K a) H1
theorem pi_enumT {X : Cx} {e : Expr} {ta : TA} {p pos tpos : Pos} {elts : List Expr} {kk : Nat} (hg : Gl X "enumerate") (hm : X.mg "enumerate" = none) (ha : PA X [e] ta)
    (hs : starEach [e] X.env = [(false, eval e X.env)] := by rfl) :
    PI X (.Tuple elts kk tpos) (.Call (.Name "enumerate" p) [e] [] pos) (iEnumT X.K ta) := by
  constructor
  intro pins s σ H R I h
  have go := ha.run pos pins s σ H _ I h
  refine Call_ (ld_blt I hg hm boot_enumerate (PyProof.Rows.callWith_type1 (thn go ?_) hs rfl))
  rintro us s1 ⟨vs, H1, I1, r1, a, xs, rfl, hq, q⟩
  obtain ⟨u, rfl, r⟩ := vals1 r1
  cases r
  obtain ⟨its, rv, tp, _⟩ := I1.tuple hq
  refine call_enumT tp ?_
  intro h' en hit hk
  refine wpAny_pyIter_enum en ?_
  have I2 : Inv X pins σ H1 { s1 with heap := h' } := I1.kept (t' := s1.toks) hk
  refine ⟨s1.heap.objs.size + 1, [s1.heap.objs.size + 1, s1.heap.objs.size], _, _, H1, rfl, I2,
    turn_enumT a (s1.heap.objs.size + 1) s1.heap.objs.size, ⟨⟨.none, en⟩, hit, Nat.succ_ne_self _⟩, ?_, q⟩
  intro b hb
  have le : s1.heap.objs.size ≤ b := by
    rcases List.mem_cons.mp hb with z | z
    · rw [z]; exact Nat.le_add_right _ _
    · rw [List.mem_singleton.mp z]; exact Nat.le_refl _
  exact I1.fpOk le (I1.hok.fresh le)
theorem walk_enumT {K : PySem.W.Frag} {a : Addr} {xs : List V} : Walk (IteT K a) xs.length (fun H => SqT K H a xs) (YPair (fun i => some (.int (i : Nat))) (fun i => xs[i]?)) := by
  constructor
  · intro i H hi q
    exact ⟨xs, xs[i], q, by simp [hi]⟩
  · intro H q
    exact ⟨xs, q, Nat.le_refl _⟩
  · rintro i H v H' _ q ⟨T, x, h1, h2, h3, h4⟩
    exact ⟨T, .int (i : Nat), x, h1, h2, h3, rfl, h4 xs q⟩
end WK
set_option Elab.async false
set_option linter.all false
set_option maxRecDepth 100000
namespace WK
open PySem PySem.Spec PyProof.Rows L2
/-! ### layers and gaps -/
def layerL (ns : List Int) (k : Int) : List Int := ns.map fun x => if k ≤ x then 1 else 0
def onL (ns : List Int) (k : Int) (i : Nat) : List Int := ((List.range i).filter fun t => decide (k ≤ ns.getD t 0)).map fun (t : Nat) => (t : Int)
def pairsL (os : List Int) (i : Nat) : List (Int × Int) := ((List.range i).filter fun j => decide (1 < os.getD (j + 1) 0 - os.getD j 0)).map fun j => (os.getD j 0 + 1, os.getD (j + 1) 0 - os.getD j 0 - 1)
def prD (p : Int × Int) : PyData := .tuple [.int p.1, .int p.2]
def gapsL (ns : List Int) (k : Int) : List (Int × Int) := pairsL (onL ns k ns.length) ((onL ns k ns.length).length - 1)
theorem getD_of {ns : List Int} {i : Nat} {x : Int} (h : ns[i]? = some x) : ns.getD i 0 = x := by
  rw [List.getD_eq_getElem?_getD, h]
  rfl
theorem onL_yes {ns : List Int} {k x : Int} {i : Nat} (h : ns[i]? = some x) (hk : k ≤ x) : onL ns k (i + 1) = onL ns k i ++ [(i : Int)] := by
  unfold onL
  rw [List.range_succ, List.filter_append, List.map_append, List.filter_cons, if_pos (by rw [getD_of h]; exact decide_eq_true hk)]
  rfl
theorem onL_no {ns : List Int} {k x : Int} {i : Nat} (h : ns[i]? = some x) (hk : ¬ k ≤ x) : onL ns k (i + 1) = onL ns k i := by
  unfold onL
  rw [List.range_succ, List.filter_append, List.map_append, List.filter_cons, if_neg (by rw [getD_of h]; simpa using hk)]
  simp
theorem onL_len {ns : List Int} {k : Int} {i : Nat} : (onL ns k i).length ≤ i := by
  unfold onL
  rw [List.length_map]
  refine Nat.le_trans (List.length_filter_le _ (List.range i)) ?_
  rw [List.length_range]
  exact Nat.le_refl _
theorem pairsL_yes {os : List Int} {a b : Int} {i : Nat} (h : os[i]? = some a) (h1 : os[i + 1]? = some b) (hk : 1 < b - a) : pairsL os (i + 1) = pairsL os i ++ [(a + 1, b - a - 1)] := by
  unfold pairsL
  rw [List.range_succ, List.filter_append, List.map_append, List.filter_cons, if_pos (by rw [getD_of h, getD_of h1]; exact decide_eq_true hk)]
  simp only [List.filter_nil, List.map_cons, List.map_nil, getD_of h, getD_of h1]
theorem pairsL_no {os : List Int} {a b : Int} {i : Nat} (h : os[i]? = some a) (h1 : os[i + 1]? = some b) (hk : ¬ 1 < b - a) : pairsL os (i + 1) = pairsL os i := by
  unfold pairsL
  rw [List.range_succ, List.filter_append, List.map_append, List.filter_cons, if_neg (by rw [getD_of h, getD_of h1]; simpa using hk)]
  simp
theorem pairsL_len {os : List Int} {i : Nat} : (pairsL os i).length ≤ i := by
  unfold pairsL
  rw [List.length_map]
  refine Nat.le_trans (List.length_filter_le _ (List.range i)) ?_
  rw [List.length_range]
  exact Nat.le_refl _
/-- pairs stand, whatever list is stored -/
theorem dp_pairs_upd {K : PySem.W.Frag} {H : Hp} {a : Addr} {xs ys : List V} : ∀ {ps : List (Int × Int)} {ws : List V}, DpAll K H ws (ps.map prD) → H a = some (.lst xs) → DpAll K (upd H a (.lst ys)) ws (ps.map prD)
  | [], _, h, _ => by
    cases h
    exact .nil
  | p :: ps, _, h, ha => by
    cases h with
    | cons h1 h2 =>
      refine .cons ?_ (dp_pairs_upd h2 ha)
      cases h1 with
      | @tup a' xs' ds' h3 h4 =>
        have h5 : DpAll K (upd H a (.lst ys)) xs' [PyData.int p.1, PyData.int p.2] := by
          cases h4 with
          | cons q1 q2 =>
            cases q1
            cases q2 with
            | cons q3 q4 =>
              cases q3
              cases q4
              exact .cons (.int _) (.cons (.int _) .nil)
        refine .tup ?_ h5
        rcases h3 with (h3 | ⟨o, h3⟩) | h3
        · exact .inl (.inl (by rw [upd_ne (ne_of h3 ha (by intro z; cases z))]; exact h3))
        · exact .inl (.inr ⟨o, by rw [upd_ne (ne_of h3 ha (by intro z; cases z))]; exact h3⟩)
        · exact .inr h3
def spLayer : Sp := fun vs H Q _ => ∃ (t : Addr) (k : Int) (ns : List Int), vs = [.ref t, .int k] ∧ H t = some (.tup (ns.map V.int)) ∧ ns.length ≤ 5000 ∧
  ∀ H' u, Same H H' → H u = none → H' u = some (.tup ((layerL ns k).map V.int)) → Q (.ref u) H'
def spGaps (K : PySem.W.Frag) : Sp := fun vs H Q _ => ∃ (t : Addr) (k : Int) (ns : List Int), vs = [.ref t, .int k] ∧ H t = some (.tup (ns.map V.int)) ∧ ns.length ≤ 5000 ∧
  ∀ H' g ws, Same H H' → H g = none → H' g = some (.lst ws) → DpAll K H' ws ((gapsL ns k).map prD) → Q (.ref g) H'
end WK
namespace WK
open PySem PySem.Spec PyProof.Rows L2
def lgD (ns : List Int) (k : Int) : PyData := .list [.tuple (intsD (layerL ns k)), .list ((gapsL ns k).map prD)]
theorem layerL_len {ns : List Int} {k : Int} : (layerL ns k).length = ns.length := List.length_map ..
theorem layerL_small {ns : List Int} {k : Int} : ∀ z ∈ layerL ns k, z.natAbs < 10 ^ 150 := by
  intro z hz
  obtain ⟨x, _, rfl⟩ := List.mem_map.mp hz
  have e : (1 : Nat) < 10 ^ 150 := by decide +kernel
  split <;> omega
theorem onL_mem {ns : List Int} {k : Int} {i : Nat} : ∀ z ∈ onL ns k i, 0 ≤ z ∧ z < i := by
  intro z hz
  obtain ⟨t, ht, rfl⟩ := List.mem_map.mp hz
  have := List.mem_range.mp (List.mem_filter.mp ht).1
  omega
theorem getD_mem {os : List Int} {j : Nat} {n : Nat} (h : ∀ z ∈ os, 0 ≤ z ∧ z < (n : Int)) : 0 ≤ os.getD j 0 ∧ os.getD j 0 ≤ n := by
  rw [List.getD_eq_getElem?_getD]
  match e : os[j]? with
  | none => exact ⟨Int.le_refl _, Int.natCast_nonneg _⟩
  | some z =>
    have := h z (List.mem_of_getElem? e)
    exact ⟨this.1, Int.le_of_lt this.2⟩
theorem gapsL_small {ns : List Int} {k : Int} (hl : ns.length ≤ 5000) : ∀ p ∈ gapsL ns k, p.1.natAbs < 10 ^ 150 ∧ p.2.natAbs < 10 ^ 150 := by
  intro p hp
  obtain ⟨j, _, rfl⟩ := List.mem_map.mp hp
  have a := getD_mem (j := j) (onL_mem (ns := ns) (k := k) (i := ns.length))
  have b := getD_mem (j := j + 1) (onL_mem (ns := ns) (k := k) (i := ns.length))
  have e : (20000 : Nat) < 10 ^ 150 := by decide +kernel
  constructor <;> (show Int.natAbs _ < _) <;> omega
theorem gapsL_len {ns : List Int} {k : Int} : (gapsL ns k).length ≤ ns.length := by
  refine Nat.le_trans pairsL_len ?_
  have := onL_len (ns := ns) (k := k) (i := ns.length)
  omega
theorem lil_pairs {ps : List (Int × Int)} (h : ∀ p ∈ ps, p.1.natAbs < 10 ^ 150 ∧ p.2.natAbs < 10 ^ 150) : LilAll (ps.map prD) := by
  rw [lilAll_iff]
  intro x hx
  obtain ⟨p, hp, rfl⟩ := List.mem_map.mp hx
  simpa only [prD, Lil, LilAll, and_true] using h p hp
theorem cost_pairs {ps : List (Int × Int)} : costAll (ps.map prD) ≤ ps.length * 311 := by
  have := costAll_le (c := 309) (xs := ps.map prD) (fun x hx => by
    obtain ⟨p, hp, rfl⟩ := List.mem_map.mp hx
    simp only [prD, cost, costAll]
    omega)
  rw [List.length_map] at this
  exact this
theorem depth_pairs {ps : List (Int × Int)} : PyData.depthAll (ps.map prD) ≤ 1 :=
  depthAll_le fun x hx => by
    obtain ⟨p, hp, rfl⟩ := List.mem_map.mp hx
    simp only [prD, PyData.depth, PyData.depthAll]
    omega
theorem lg_shows {ns : List Int} {k : Int} (hl : ns.length ≤ 1000) : Shows (lgD ns k) := by
  have dp := depth_pairs (ps := gapsL ns k)
  have ci := cost_ints (ns := layerL ns k)
  have cp := cost_pairs (ps := gapsL ns k)
  have l1 := layerL_len (ns := ns) (k := k)
  have l2 := gapsL_len (ns := ns) (k := k)
  refine shows_of ?_ ?_ ?_
  · simp only [lgD, Lil, LilAll, and_true]
    exact ⟨lil_ints layerL_small, lil_pairs (gapsL_small (by omega))⟩
  · simp only [lgD, PyData.depth, PyData.depthAll, depth_ints]
    omega
  · simp only [lgD, cost, costAll]
    rw [l1] at ci
    refine Nat.le_trans (show _ ≤ 500000 by omega) (by decide)
theorem lg_dp {K : PySem.W.Frag} {H : Hp} {l u g : Addr} {ns : List Int} {k : Int} {ws : List V} (hl : H l = some (.lst [.ref u, .ref g])) (hu : H u = some (.tup ((layerL ns k).map V.int)))
    (hg : H g = some (.lst ws)) (hw : DpAll K H ws ((gapsL ns k).map prD)) : Dp K H (.ref l) (lgD ns k) :=
  .lst (.inl (.inl hl)) (.cons (.tup (.inl (.inl hu)) (dp_ints _)) (.cons (.lst (.inl (.inl hg)) hw) .nil))
theorem shows_row {ns : List Int} (h : ∀ z ∈ ns, z.natAbs < 10 ^ 150) (hl : ns.length ≤ 5000) : Shows (.tuple (intsD ns)) := by
  have ci := cost_ints (ns := ns)
  refine shows_of (by simpa only [Lil] using lil_ints h) ?_ ?_
  · simp only [PyData.depth, depth_ints]
    omega
  · simp only [cost]
    refine Nat.le_trans (show _ ≤ 1000000 by omega) (by decide)
theorem row_dp {K : PySem.W.Frag} {H : Hp} {t : Addr} {ns : List Int} (h : H t = some (.tup (ns.map V.int))) : Dp K H (.ref t) (.tuple (intsD ns)) := .tup (.inl (.inl h)) (dp_ints _)
end WK
namespace WK
open PySem PySem.Spec PyProof.Rows L2
/-- the heap without what stands at D -/
def era (H : Hp) (D : Addr) : Hp := fun b => if b = D then none else H b
theorem era_ne {H : Hp} {D b : Addr} (h : b ≠ D) : era H D b = H b := if_neg h
theorem era_some {H : Hp} {D b : Addr} {o : HO} (h : era H D b = some o) : H b = some o := by
  by_cases e : b = D
  · have : era H D b = none := if_pos e
    rw [this] at h
    exact nomatch h
  · exact (era_ne (H := H) e).symm.trans h
theorem era_same (H : Hp) (D : Addr) : Same (era H D) H := fun _ _ h => era_some h
theorem era_upd {H : Hp} {D : Addr} {o : HO} : era (upd H D o) D = era H D := by
  funext b
  by_cases e : b = D
  · rw [e]; exact (if_pos rfl).trans (if_pos rfl).symm
  · rw [era_ne e, era_ne e, upd_ne e]
theorem era_mono {H H' : Hp} {D : Addr} (s : Same H H') : Same (era H D) (era H' D) := fun b o h => by
  by_cases e : b = D
  · have : era H D b = none := if_pos e
    rw [this] at h
    exact nomatch h
  · rw [era_ne e] at h ⊢
    exact s _ _ h
theorem dp_pairs_era {K : PySem.W.Frag} {H : Hp} {a : Addr} {xs : List V} : ∀ {ps : List (Int × Int)} {ws : List V}, DpAll K H ws (ps.map prD) → H a = some (.lst xs) → DpAll K (era H a) ws (ps.map prD)
  | [], _, h, _ => by
    cases h
    exact .nil
  | p :: ps, _, h, ha => by
    cases h with
    | cons h1 h2 =>
      refine .cons ?_ (dp_pairs_era h2 ha)
      cases h1 with
      | @tup a' xs' ds' h3 h4 =>
        have h5 : DpAll K (era H a) xs' [PyData.int p.1, PyData.int p.2] := by
          cases h4 with
          | cons q1 q2 =>
            cases q1
            cases q2 with
            | cons q3 q4 =>
              cases q3
              cases q4
              exact .cons (.int _) (.cons (.int _) .nil)
        refine .tup ?_ h5
        rcases h3 with (h3 | ⟨o, h3⟩) | h3
        · exact .inl (.inl ((era_ne (ne_of h3 ha (by intro z; cases z))).trans h3))
        · exact .inl (.inr ⟨o, (era_ne (ne_of h3 ha (by intro z; cases z))).trans h3⟩)
        · exact .inr h3
end WK
set_option Elab.async false
set_option linter.all false
set_option maxRecDepth 100000
namespace K21
open PySem PySem.Spec PyProof.Rows L2 WK
def topS (i : Nat) : Stmt := PySem.Challenge.pw_wakedenough_k21_layers_and_gaps.main.body.getD i (.Pass ⟨0, 0, 0, 0⟩)
abbrev sSource : Stmt := topS 4
abbrev sPick : Stmt := topS 5
abbrev sOf : Stmt := topS 6
theorem scSource : FnScope ["script", "mixed", "cell"] ["script"] (defScope sSource) := ⟨rfl, rfl, rfl, by decide +kernel, rfl, by decide +kernel, by decide +kernel⟩
theorem scPick : FnScope ["source", "many", "left", "mixed"] ["source", "many"] (defScope sPick) := ⟨rfl, rfl, rfl, by decide +kernel, rfl, by decide +kernel, by decide +kernel⟩
theorem scOf : FnScope ["source", "some"] ["source", "some"] (defScope sOf) := ⟨rfl, rfl, rfl, by decide +kernel, rfl, by decide +kernel, by decide +kernel⟩
structure Blt (mg : Str → Option Value) : Prop where
  int : mg "int" = none
  abs : mg "abs" = none
  len : mg "len" = none
  max : mg "max" = none
  min : mg "min" = none
  tuple : mg "tuple" = none
  range : mg "range" = none
  zip : mg "zip" = none
  enumerate : mg "enumerate" = none
  repr : mg "repr" = none
local macro_rules | `(tactic| walk_at "rd") => `(tactic| repeat (first | refine Exists.intro _ (And.intro rfl ?_) | refine Exists.intro _ (Exists.intro _ (And.intro rfl (And.intro rfl ?_))) | refine Exists.intro _ (Exists.intro _ (And.intro rfl ?_))))
section
variable {P : Program} {w : World} {K : PySem.W.Frag} {mg : Str → Option Value} {base : Heap}
theorem ok_source {f : Addr} {fd : FuncData} (F : Fun K "_law_source" "_law_source" sSource f fd) (B : Blt mg) : FnOk P w K mg base CX0 1 f fd ["script"] (spSource K) := by
  refine F.ok scSource (fun vs H Q E h => ?_) (fun cdv A outer s H vs Q E hr h => ?_)
  · obtain ⟨a, ns, rfl, _⟩ := h
    rfl
  · obtain ⟨a, ns, rfl, hS, hlen, q⟩ := h
    refine ⟨_, pss_cons (ps_set (i := 1) scSource.nd rfl (.inl rfl) pe_int)
      (pss_cons (ps_for PassesOwn.never rfl (pi_list (pv 0)) (pg_name (i := 2) scSource.nd rfl (.inl rfl))
        (pss_one (ps_set (i := 1) scSource.nd rfl (.inl rfl)
          (pe_op op_mod (pe_callTy call_int1 (by rfl) B.int (by decide +kernel) (pa_cons (pe_op op_add (pe_op op_add (pe_op op_mul (pv 1) pe_int) (pe_op op_mul (pv 2) pe_int)) pe_int) pa_nil)) pe_int))))
      (pss_one (ps_ret (pe_disp (pps_cons pe_str (pe_revL (pe_lc (own := [("cell", 2)]) (g := gName 2) rfl scSource.nd (pi_list (pv 0))
          (blkOk_by (own := [("cell", 2)]) (N := ["script", "mixed", "cell"]) (sc := defScope sSource) (by decide +kernel))
          (fun _ _ _ _ _ => pg_name (i := 2) scSource.nd rfl (Or.inl rfl)) (fun _ _ _ _ _ => pts_nil) (fun _ _ _ _ _ => pe_callB call_abs (by rfl) B.abs (by decide +kernel) (pa_cons (pv 2) pa_nil))))
        (pps_cons pe_str pe_int (pps_cons pe_str (pv 1) (pps_cons pe_str pe_int pps_nil)))) (by rfl) (by rfl) (fun z => by cases z) (by decide))))), ?_⟩
    walk_at "rd"
    refine ⟨⟨_, hS⟩, for_list (xs := ns.map V.int) (fun i σ H1 => ∃ m c3, σ = [some (.ref a), some (.int m), c3] ∧ H1 = H) ⟨11, none, rfl, rfl⟩ (fun i σ H1 _ h => ?_) (fun i x σ H1 hx h => ?_) (fun σ H1 h => ?_)⟩
    · obtain ⟨m, c3, rfl, rfl⟩ := h
      exact hS
    · obtain ⟨m, c3, rfl, rfl⟩ := h
      obtain ⟨z, hz, rfl⟩ := int_at hx
      walk_at "rd"
      refine ⟨mulr (by decide), ?_⟩
      walk_at "rd"
      refine ⟨mulr (by decide), ?_⟩
      walk_at "rd"
      refine .inl ?_
      walk_at "rd"
      refine ⟨by show (0 : Int) < 2147483629; decide, ?_⟩
      exact ⟨_, _, rfl, rfl⟩
    · obtain ⟨m, c3, rfl, rfl⟩ := h
      intro p np
      generalize eH : upd _ _ _ = H2
      obtain ⟨s2, e2⟩ := new_of eH np
      walk_at "rd"
      refine ⟨⟨_, s2.seq hS⟩, fun D nD => lc_list (K := K) (a := a) (xs := ns.map V.int) (fun i G => Same H2 G ∧ G D = some (.lst ((ns.take i).map fun z => V.int z.natAbs))) ?_ (fun i G _ h => h.1.seq (s2.seq hS)) (fun i x G hx h => ?_) (fun G h => ?_)⟩
      · exact ⟨same_new nD, upd_same⟩
      · obtain ⟨z, hz, rfl⟩ := int_at hx
        refine yesT rfl ?_
        walk_at "rd"
        refine ⟨_, h.2, ?_, fun b o e => ?_, ?_⟩
        · rw [List.length_map, List.length_take]
          exact small63 (by omega)
        · rw [upd_ne (ne_of_none e nD)]
          exact h.1 _ _ e
        · rw [upd_same, take_snoc hz, abs_eq]
      · obtain ⟨s3, e3⟩ := h
        walk_at "rd"
        refine ⟨_, _, rfl, .inl (.inl e3), fun c nc => ?_⟩
        generalize eH : upd _ _ _ = H4
        obtain ⟨s4, e4⟩ := new_of eH nc
        walk_at "rd"
        refine ⟨s4 _ _ (s3 _ _ e2), [(.inr "cells", .ref c), (.inr "left", .int 1), (.inr "mixed", .int m), (.inr "turn", .int 0)], rfl, (by show 4 ≤ 15; decide), ?_⟩
        have npc : c ≠ p := (ne_of_none (s3 _ _ e2) nc).symm
        refine q _ p c ⟨((ns.map fun z => (z.natAbs : Int)).reverse), 1, m, 0, ?_, ?_⟩ ?_ np ?_
        · rw [upd_same]
          refine congrArg (fun l => some (HO.dK l)) ?_
          simp [mergeK, putK, srcK, k12, k13, k14, k23, k24, k34]
        · rw [upd_ne npc, e4, List.length_map, List.take_length, List.map_reverse, List.map_map]
          rfl
        · intro b o e
          rw [upd_ne (ne_of_none e np)]
          exact s4 _ _ (s3 _ _ (s2 _ _ e))
        · exact (s2.trans s3).free nc
end
end K21
set_option Elab.async false
set_option linter.all false
set_option maxRecDepth 100000
namespace K21
open PySem PySem.Spec PyProof.Rows L2 WK
local macro_rules | `(tactic| walk_at "rd") => `(tactic| repeat (first | refine Exists.intro _ (And.intro rfl ?_) | refine Exists.intro _ (Exists.intro _ (And.intro rfl (And.intro rfl ?_))) | refine Exists.intro _ (Exists.intro _ (And.intro rfl ?_))))
section
variable {P : Program} {w : World} {K : PySem.W.Frag} {mg : Str → Option Value} {base : Heap}
theorem ok_pick {f : Addr} {fd : FuncData} (F : Fun K "_law_pick" "_law_pick" sPick f fd) (B : Blt mg) : FnOk P w K mg base CX0 1 f fd ["source", "many"] spPick := by
  refine F.ok scPick (fun vs H Q E h => ?_) (fun cdv A outer s H vs Q E hr h => ?_)
  · obtain ⟨p, c, many, rfl, _⟩ := h
    rfl
  · obtain ⟨p, c, many, rfl, S, hm, q⟩ := h
    have hu := hu_of hr
    refine ⟨_, pss_cons (ps_while PassesOwn.never (PW.pt (pw_and (pt_cmpR op_gt (pv 1) pe_int (nomark _)) (pw_and (pt_cmpR op_lt (pe_dget hu (pv 0) pe_str (fun _ _ => rfl)) pe_int (nomark _))
          (pw_and1 (pt_cmpR op_gt (pe_callB call_len_seq (by rfl) B.len PySem.boot_len (pa_cons (pe_dget hu (pv 0) pe_str (fun _ _ => rfl)) pa_nil)) pe_int (nomark _))))))
        (pss_one (ps_dput hu (pv 0) pe_str (pe_bm0 PySem.F.plainAttrs_list PySem.F.slot_list_pop PySem.F.type_list_pop mt_pop (pe_dget hu (pv 0) pe_str (fun _ _ => rfl))) rfl)))
      (pss_cons (ps_set (i := 2) scPick.nd rfl (.inl rfl) (pe_dget hu (pv 0) pe_str (fun _ _ => rfl)))
      (pss_cons (ps_if (PW.pt (pw_or (pt_cmpR op_lt (pv 1) pe_int (nomark _)) (pw_or1 (pt_cmpR op_gt (pv 2) pe_int (nomark _)))))
        (pss_cons (ps_dput hu (pv 0) pe_str (pe_op op_fdivN (pv 2) (pe_callB (call_max2 rfl) (by rfl) B.max boot_max (pa_cons pe_int (pa_cons (pv 1) pa_nil)))) rfl)
          (pss_one (ps_ret (pe_op op_modN (pe_callTy call_int1 (by rfl) B.int (by decide +kernel) (pa_cons (pv 2) pa_nil)) (pe_callB (call_max2 rfl) (by rfl) B.max boot_max (pa_cons pe_int (pa_cons (pv 1) pa_nil))))))) pss_nil)
      (pss_cons (ps_dput hu (pv 0) pe_str (pe_op op_add (pe_dget hu (pv 0) pe_str (fun _ _ => rfl)) pe_int) rfl)
      (pss_cons (ps_set (i := 3) scPick.nd rfl (.inl rfl) (pe_op op_mod (pe_callTy call_int1 (by rfl) B.int (by decide +kernel) (pa_cons (pe_op op_add (pe_dget hu (pv 0) pe_str (fun _ _ => rfl)) (pe_op op_mul (pe_dget hu (pv 0) pe_str (fun _ _ => rfl)) pe_int)) pa_nil)) pe_int))
      (pss_cons (ps_set (i := 3) scPick.nd rfl (.inl rfl) (pe_op op_mod (pe_callTy call_int1 (by rfl) B.int (by decide +kernel) (pa_cons (pe_op op_add (pe_op op_mul (pv 3) (pv 3)) (pe_op op_mul (pe_dget hu (pv 0) pe_str (fun _ _ => rfl)) pe_int)) pa_nil)) pe_int))
      (pss_cons (ps_dput hu (pv 0) pe_str (pv 3) rfl)
      (pss_one (ps_ret (pe_op op_modN (pe_callTy call_int1 (by rfl) B.int (by decide +kernel) (pa_cons (pe_op op_fdiv (pv 3) pe_int) pa_nil)) (pv 1)))))))))), ?_⟩
    obtain ⟨cells, l, m, t, hp, hc⟩ := S.ex
    have npc := S.ne
    refine while3 (fun n σ H1 => ∃ (cs : List Int) (l : Int), σ = [some (.ref p), some (.int many), none, none] ∧ n = cs.length ∧ H1 p = some (.dK (srcK c l m t)) ∧ H1 c = some (.lst (cs.map V.int)) ∧ Off p c H H1)
      cells.length ⟨cells, l, rfl, rfl, hp, hc, Off.refl p c H⟩ (fun n σ H1 h => ?_) (fun aft n σ H1 h => ?_)
    · -- behind the loop
      obtain ⟨cs, l, rfl, rfl, hp, hc, off⟩ := h
      walk_at "rd"
      refine ⟨_, _, rfl, src_get hp src_left, ?_⟩
      have early : ∀ H2, H2 = upd H1 p (HO.dK (srcK c (l.fdiv (if many > 1 then many else 1)) m t)) → Q (.int (l.fmod (if many > 1 then many else 1))) H2 := by
        rintro H2 rfl
        have hb : 0 < (if many > 1 then many else 1) := by split <;> omega
        refine q _ _ ⟨cs, _, m, t, upd_same, (upd_ne npc.symm).trans hc⟩ (off.trans Off.at_p) (fmod_bounds hb).1 ?_
        have := fmod_bounds (a := l) hb
        by_cases h1 : many > 1
        · rw [if_pos h1] at this ⊢
          exact .inl this.2
        · rw [if_neg h1] at this ⊢
          exact .inr (by omega)
      have hd : CDivN l (if many > 1 then many else 1) := by
        constructor <;> split <;> omega
      walk_at "rd"
      refine ite2 (fun h1 => ?_) (fun h1 => ?_)
      · dsimp only
        refine ifT rfl ?_
        walk_at "rd"
        refine ⟨hd, _, rfl, _, _, rfl, src_put hp rfl put_left rfl, ?_⟩
        walk_at "rd"
        refine .inl ?_
        walk_at "rd"
        exact ⟨hd.1, early _ rfl⟩
      · walk_at "rd"
        refine ite2 (fun h2 => ?_) (fun h2 => ?_)
        · walk_at "rd"
          refine ⟨hd, _, rfl, _, _, rfl, src_put hp rfl put_left rfl, ?_⟩
          walk_at "rd"
          refine .inl ?_
          walk_at "rd"
          exact ⟨hd.1, early _ rfl⟩
        · have hm2 : 2 ≤ many := by
            have := of_decide_eq_false (Bool.eq_false_iff.mpr h1)
            omega
          walk_at "rd"
          refine ⟨_, _, rfl, src_get hp src_turn, ?_⟩
          walk_at "rd"
          refine ⟨_, _, rfl, src_put hp rfl put_turn rfl, ?_⟩
          generalize eH : upd _ _ _ = H2
          obtain ⟨hp2, of2⟩ := chg eH
          have hc2 := (of2 c npc.symm).trans hc
          walk_at "rd"
          refine ⟨_, _, rfl, src_get hp2 src_mixed, ?_⟩
          walk_at "rd"
          refine ⟨_, _, rfl, src_get hp2 src_turn, ?_⟩
          walk_at "rd"
          refine ⟨mulr (by decide), ?_⟩
          walk_at "rd"
          refine .inl ?_
          walk_at "rd"
          refine ⟨by show (0 : Int) < 998244353; decide, ?_⟩
          have mb := Int.emod_lt_of_pos (m + (t + 1) * 104729) (show (0 : Int) < 998244353 by decide)
          have mb0 := Int.emod_nonneg (m + (t + 1) * 104729) (show (998244353 : Int) ≠ 0 by decide)
          walk_at "rd"
          refine ⟨mulr (by omega), ?_⟩
          walk_at "rd"
          refine ⟨_, _, rfl, src_get hp2 src_turn, ?_⟩
          walk_at "rd"
          refine ⟨mulr (by decide), ?_⟩
          walk_at "rd"
          refine .inl ?_
          walk_at "rd"
          refine ⟨by show (0 : Int) < 2147483647; decide, ?_⟩
          walk_at "rd"
          refine ⟨_, _, rfl, src_put hp2 rfl put_mixed rfl, ?_⟩
          generalize eH3 : upd _ _ _ = H3
          obtain ⟨hp3, of3⟩ := chg eH3
          have hc3 := (of3 c npc.symm).trans hc2
          walk_at "rd"
          refine ⟨by constructor <;> decide, ?_⟩
          walk_at "rd"
          refine .inl ?_
          walk_at "rd"
          refine ⟨by omega, ?_⟩
          have fb := fun a : Int => fmod_bounds (a := a) (show 0 < many by omega)
          refine q _ _ ⟨cs, _, _, _, hp3, hc3⟩ (off.trans (fun b o h1 h2 e => ?_)) (fb _).1 (.inl (fb _).2)
          rw [of3 b h1, of2 b h1]
          exact e
    · obtain ⟨cs, l, rfl, rfl, hp, hc, off⟩ := h
      walk_at "rd"
      refine ite2 (fun h1 => ?_) (fun h1 => ?_)
      · walk_at "rd"
        refine ⟨_, _, rfl, src_get hp src_left, ?_⟩
        walk_at "rd"
        refine ite2 (fun h2 => ?_) (fun h2 => ?_)
        · walk_at "rd"
          refine ⟨_, _, rfl, src_get hp src_cells, ?_⟩
          refine ⟨_, _, rfl, .inl (.inl (.inl hc)), ?_⟩
          walk_at "rd"
          refine ite2 (fun h3 => ?_) (fun h3 => ?_)
          · refine ⟨_, fun σ' H' h => ⟨cs.length - 1, ?_, h⟩, ?_⟩
            · have := of_decide_eq_true h3
              rw [List.length_map] at this
              omega
            · walk_at "rd"
              refine ⟨_, _, rfl, src_get hp src_cells, ?_⟩
              have hne : cs ≠ [] := by
                rintro rfl
                exact absurd (of_decide_eq_true h3) (by decide)
              obtain ⟨z, hz⟩ : ∃ z, cs[cs.length - 1]? = some z := by
                refine ⟨cs[cs.length - 1]'(by have := List.length_pos_iff.mpr hne; omega), ?_⟩
                rw [List.getElem?_eq_getElem]
              refine ⟨.inl ⟨rfl, _, .inl (.inl hc)⟩, _, _, .int z, rfl, rfl, hc, ?_, ?_⟩
              · rw [List.length_map, List.getElem?_map, hz]
                rfl
              generalize eH : upd _ _ _ = H2
              obtain ⟨hc2, of2⟩ := chg eH
              have hp2 := (of2 p npc).trans hp
              refine ⟨_, rfl, _, _, rfl, src_put hp2 rfl put_left rfl, cs.dropLast, z, rfl, ?_, upd_same, ?_, off.trans (fun b o h1 h2 e => ?_)⟩
              · rw [List.length_dropLast]
              · rw [upd_ne npc.symm, hc2, List.map_dropLast]
              · rw [upd_ne h1, of2 b h2]
                exact e
          · exact aft _ _ _ ⟨cs, l, rfl, rfl, hp, hc, off⟩
        · exact aft _ _ _ ⟨cs, l, rfl, rfl, hp, hc, off⟩
      · exact aft _ _ _ ⟨cs, l, rfl, rfl, hp, hc, off⟩
end
end K21
set_option Elab.async false
set_option linter.all false
set_option maxRecDepth 100000
namespace K21
open PySem PySem.Spec PyProof.Rows L2 WK
local macro_rules | `(tactic| walk_at "rd") => `(tactic| repeat (first | refine Exists.intro _ (And.intro rfl ?_) | refine Exists.intro _ (Exists.intro _ (And.intro rfl (And.intro rfl ?_))) | refine Exists.intro _ (Exists.intro _ (And.intro rfl ?_))))
abbrev sDraw : Stmt := topS 7
theorem scDraw : FnScope ["source", "ticks", "most", "way", "found", "ahead", "some"] ["source", "ticks", "most"] (defScope sDraw) := ⟨rfl, rfl, rfl, by decide +kernel, rfl, by decide +kernel, by decide +kernel⟩
/-- the draws' defs as they stand -/
structure Drw (K : PySem.W.Frag) (mg : Str → Option Value) (fP fO : Addr) (fdP fdO : FuncData) : Prop where
  FP : Fun K "_law_pick" "_law_pick" sPick fP fdP
  bP : Binds K fdP ["source", "many"] []
  gP : mg "_law_pick" = some (.ref fP)
  FO : Fun K "_law_of" "_law_of" sOf fO fdO
  bO : Binds K fdO ["source", "some"] []
  gO : mg "_law_of" = some (.ref fO)
section
variable {P : Program} {w : World} {K : PySem.W.Frag} {mg : Str → Option Value} {base : Heap}
theorem ok_of {f fP fO : Addr} {fd fdP fdO : FuncData} (F : Fun K "_law_of" "_law_of" sOf f fd) (D : Drw K mg fP fO fdP fdO) (B : Blt mg) : FnOk P w K mg base CX0 2 f fd ["source", "some"] (spOf K) := by
  have GP : FnOk P w K mg base CX0 1 fP fdP ["source", "many"] spPick := ok_pick D.FP B
  refine F.ok scOf (fun vs H Q E h => ?_) (fun cdv A outer s H vs Q E hr h => ?_)
  · obtain ⟨p, c, l, xs, rfl, _⟩ := h
    rfl
  · obtain ⟨p, c, l, xs, rfl, S, hl, hne, hlen, q⟩ := h
    refine ⟨_, pss_one (ps_ret (pe_ix ix_seq (pv 1) (pe_call GP hr (by rfl) D.gP D.FP.kp D.bP .nil pass0 (pa_cons (pv 0) (pa_cons (pe_callB call_len_seq (by rfl) B.len PySem.boot_len (pa_cons (pv 1) pa_nil)) pa_nil))) (fun _ _ => rfl))), ?_⟩
    walk_at "rd"
    refine ⟨_, _, rfl, hl H (Off.refl p c H), p, c, _, rfl, S, by omega, fun H' r S' off r0 r1 => ?_⟩
    have hpos : 0 < xs.length := List.length_pos_iff.mpr hne
    have hr2 : r.toNat < xs.length := by omega
    have hat : atI xs r = some xs[r.toNat] := at_of (j := r.toNat) (by omega) (List.getElem?_eq_getElem hr2)
    rcases hl H' off with a | a
    · exact .inl ⟨_, _, _, _, rfl, rfl, a, hat, q H' _ (List.getElem_mem hr2) S' off⟩
    · exact .inr (.inl ⟨_, _, _, _, rfl, rfl, a, hat, q H' _ (List.getElem_mem hr2) S' off⟩)
theorem ok_draw {f fP fO : Addr} {fd fdP fdO : FuncData} (F : Fun K "_law_draw_needs" "_law_draw_needs" sDraw f fd) (D : Drw K mg fP fO fdP fdO) (B : Blt mg) : FnOk P w K mg base CX0 3 f fd ["source", "ticks", "most"] spDraw := by
  have GP : FnOk P w K mg base CX0 1 fP fdP ["source", "many"] spPick := ok_pick D.FP B
  have GO : FnOk P w K mg base CX0 2 fO fdO ["source", "some"] (spOf K) := ok_of D.FO D B
  refine F.ok scDraw (fun vs H Q E h => ?_) (fun cdv A outer s H vs Q E hr h => ?_)
  · obtain ⟨p, c, ticks, most, rfl, _⟩ := h
    rfl
  · obtain ⟨p, c, ticks, most, rfl, S, ht, hm1, hm2, q⟩ := h
    have hr1 := hr.mono (show 1 ≤ 2 by decide)
    have hu64 := hr.units
    have hrP := hr1
    have hrO := hr
    refine ⟨_, (pss_cons (ps_par (i := 3) (j := 4) rfl scDraw.nd rfl rfl (by decide) rfl rfl (pa_cons (pe_call GP hrP (by rfl) D.gP D.FP.kp D.bP .nil pass0 (pa_cons (pv 0) (pa_cons pe_int pa_nil))) (pa_cons (pe_lst pa_nil) pa_nil)) (by rfl))
      (pss_cons (ps_while PassesOwn.never (pt_cmpR op_lt (pe_callB call_len_seq (by rfl) B.len PySem.boot_len (pa_cons (pv 4) pa_nil)) (pv 1) (nomark _))
        (pss_one (ps_if (pt_cmpR op_eq (pv 3) pe_int (nomark _))
          (pss_one (ps_expr (pe_bm PySem.F.plainAttrs_list PySem.F.slot_list_append PySem.F.type_list_append mt_append (pv 4) (pa_cons (pe_call GP hrP (by rfl) D.gP D.FP.kp D.bP .nil pass0 (pa_cons (pv 0) (pa_cons (pe_op op_add (pv 2) pe_int) pa_nil))) pa_nil))))
          (pss_one (ps_if (pt_cmpR op_eq (pv 3) pe_int (nomark _))
            (pss_one (ps_set (i := 4) scDraw.nd rfl (.inl rfl) (pe_op op_cat (pe_op op_cat (pv 4) (pe_op op_rep (pe_lst (pa_cons (pe_op op_add pe_int (pe_call GP hrP (by rfl) D.gP D.FP.kp D.bP .nil pass0 (pa_cons (pv 0) (pa_cons (pv 2) pa_nil)))) pa_nil)) (pe_op op_add pe_int (pe_call GP hrP (by rfl) D.gP D.FP.kp D.bP .nil pass0 (pa_cons (pv 0) (pa_cons pe_int pa_nil)))))) (pe_op op_rep (pe_lst (pa_cons pe_int pa_nil)) (pe_call GP hrP (by rfl) D.gP D.FP.kp D.bP .nil pass0 (pa_cons (pv 0) (pa_cons pe_int pa_nil)))))))
            (pss_one (ps_if (pt_cmpR op_eq (pv 3) pe_int (nomark _))
              (pss_cons (ps_set (i := 5) scDraw.nd rfl (.inl rfl) (pe_ifExp (pt_cmpR (op_neD hu64) (pv 4) (pe_lst pa_nil) (nomark _)) (pe_ix ix_list (pv 4) (pe_un un_neg pe_int) (fun _ _ => rfl)) (pe_call GP hrP (by rfl) D.gP D.FP.kp D.bP .nil pass0 (pa_cons (pv 0) (pa_cons (pe_op op_add (pv 2) pe_int) pa_nil)))))
              (pss_one (ps_expr (pe_bm PySem.F.plainAttrs_list PySem.F.slot_list_append PySem.F.type_list_append mt_append (pv 4) (pa_cons (pe_callB (call_min2 rfl) (by rfl) B.min boot_min (pa_cons (pv 2) (pa_cons (pe_callB (call_max2 rfl) (by rfl) B.max boot_max (pa_cons pe_int (pa_cons (pe_op op_sub (pe_op op_add (pv 5) (pe_call GP hrP (by rfl) D.gP D.FP.kp D.bP .nil pass0 (pa_cons (pv 0) (pa_cons pe_int pa_nil)))) pe_int) pa_nil))) pa_nil))) pa_nil)))))
              (pss_cons (ps_set (i := 6) scDraw.nd rfl (.inl rfl) (pe_lst (pa_cons pe_int (pa_cons pe_int (pa_cons (pv 2) (pa_cons (pe_call GP hrP (by rfl) D.gP D.FP.kp D.bP .nil pass0 (pa_cons (pv 0) (pa_cons (pe_op op_add (pv 2) pe_int) pa_nil))) pa_nil))))))
              (pss_one (ps_set (i := 4) scDraw.nd rfl (.inl rfl) (pe_op op_cat (pv 4) (pe_op op_rep (pe_lst (pa_cons (pe_call GO hrO (by rfl) D.gO D.FO.kp D.bO .nil pass0 (pa_cons (pv 0) (pa_cons (pv 6) pa_nil))) pa_nil)) (pe_op op_add pe_int (pe_call GP hrP (by rfl) D.gP D.FP.kp D.bP .nil pass0 (pa_cons (pv 0) (pa_cons pe_int pa_nil))))))))))))))))
      (pss_one (ps_ret (pe_callTy call_tuple_of (by rfl) B.tuple (by decide +kernel) (pa_cons (pe_slice sl_list (pv 4) po_none (po_some (pv 1))) pa_nil)))))), ?_⟩
    walk_at "rd"
    refine ⟨p, c, 4, rfl, S, by decide, fun H1 way S1 off1 w0 w1 => ?_⟩
    refine ⟨Nat.zero_le _, fun fa nfa => ?_⟩
    generalize eH : upd _ _ _ = H2
    obtain ⟨s2, e2⟩ := new_of eH nfa
    walk_at "rd"
    refine while4 (fun n σ G => ∃ (fa : Addr) (ns : List Int) (x5 x6 : Option V), σ = [some (.ref p), some (.int ticks), some (.int most), some (.int way), some (.ref fa), x5, x6] ∧ ticks - ns.length ≤ n ∧
        Src G p c ∧ Off p c H G ∧ H fa = none ∧ fa ≠ p ∧ fa ≠ c ∧ G fa = some (.lst (ns.map V.int)) ∧ (∀ z ∈ ns, 0 ≤ z ∧ z ≤ most) ∧ ns.length ≤ ticks + 20)
      (fun σ G => ∃ (fa : Addr) (ns : List Int) (x5 x6 : Option V), σ = [some (.ref p), some (.int ticks), some (.int most), some (.int way), some (.ref fa), x5, x6] ∧ ticks ≤ ns.length ∧
        Src G p c ∧ Off p c H G ∧ G fa = some (.lst (ns.map V.int)) ∧ (∀ z ∈ ns, 0 ≤ z ∧ z ≤ most))
      ticks ⟨fa, [], none, none, rfl, by simp, S1.same s2, off1.trans (Same.off s2), S1.free off1 nfa, S1.ne_p nfa, S1.ne_c nfa, e2, by simp, by simp⟩ (fun σ G h => ?_) (fun aft n σ G h => ?_)
    · obtain ⟨fa, ns, x5, x6, rfl, hn, S2, off2, e2, hns⟩ := h
      walk_at "rd"
      refine ⟨_, _, rfl, .inl (.inl e2), fun l nl => ?_⟩
      generalize eH : upd _ _ _ = H3
      obtain ⟨s3, e3⟩ := new_of eH nl
      walk_at "rd"
      refine ⟨_, _, rfl, .inl ⟨.inl (.inl e3), fun t nt => ?_⟩⟩
      generalize eH : upd _ _ _ = H4
      obtain ⟨s4, e4⟩ := new_of eH nt
      refine q H4 t (ns.take ticks) ((S2.same s3).same s4) (off2.trans (Same.off (s3.trans s4))) ?_ ?_ ?_ (fun z hz => hns z (List.mem_of_mem_take hz))
      · rw [e4, cut_take, List.map_take]
      · exact S2.free off2 (s3.free nt)
      · rw [List.length_take]; omega
    · obtain ⟨fa, ns, x5, x6, rfl, hmn, S2, off2, nfa, fp, fc, e2, hns, hl⟩ := h
      walk_at "rd"
      refine ⟨_, _, rfl, .inl (.inl (.inl e2)), ?_⟩
      walk_at "rd"
      refine ite2 (fun h1 => ?_) (fun h1 => ?_)
      · have hlt : ns.length < ticks := by
          have := of_decide_eq_true h1
          rw [List.length_map] at this
          omega
        have hlen : (ns.map V.int).length < sizeLine := by
          rw [List.length_map]
          exact Nat.lt_of_lt_of_le (show ns.length < 2000 by omega) (by decide)
        refine ⟨_, fun σ' H' h => ⟨n - 1, by omega, h⟩, ?_⟩
        walk_at "rd"
        refine ⟨rfl, ?_⟩
        walk_at "rd"
        refine ite2 (fun h2 => ?_) (fun h2 => ?_)
        · -- way 0
          walk_at "rd"
          refine ⟨.inl ⟨rfl, _, .inl (.inl e2)⟩, ?_⟩
          walk_at "rd"
          refine ⟨p, c, most + 1, rfl, S2, by omega, fun H3 r S3 off3 r0 r1 => ?_⟩
          have e3 := off3 _ _ fp fc e2
          refine ⟨_, _, _, rfl, rfl, e3, hlen, ?_⟩
          refine ⟨fa, ns ++ [r], x5, x6, rfl, ?_, S3.upd_new fp fc, (off2.trans off3).new nfa, nfa, fp, fc, ?_, ?_, ?_⟩
          · rw [List.length_append, List.length_singleton]; omega
          · rw [upd_same, List.map_append]; rfl
          · intro z hz
            rcases List.mem_append.mp hz with hz | hz
            · exact hns z hz
            · rw [List.mem_singleton.mp hz]; omega
          · rw [List.length_append, List.length_singleton]; omega
        · walk_at "rd"
          refine ⟨rfl, ?_⟩
          walk_at "rd"
          refine ite2 (fun h3 => ?_) (fun h3 => ?_)
          · -- way 1
            walk_at "rd"
            refine ⟨p, c, most, rfl, S2, by omega, fun H3 r S3 off3 r0 r1 => ?_⟩
            have e3 := off3 _ _ fp fc e2
            walk_at "rd"
            refine ⟨by show 1 ≤ sizeLine; decide, fun l1 nl1 => ?_⟩
            generalize eH : upd _ _ _ = H4
            obtain ⟨s4, e4⟩ := new_of eH nl1
            walk_at "rd"
            refine ⟨p, c, 3, rfl, S3.same s4, by decide, fun H5 r2 S5 off5 r20 r21 => ?_⟩
            have e5 := off5 _ _ (S3.ne_p nl1) (S3.ne_c nl1) e4
            have f5 := off5 _ _ fp fc (s4 _ _ e3)
            walk_at "rd"
            refine ⟨_, _, _, rfl, rfl, e5, by omega, by omega, ?_, fun l2 nl2 => ?_⟩
            · show 1 * (1 + r2).toNat ≤ sizeLine
              exact Nat.le_trans (show _ ≤ 10 by omega) (by decide)
            generalize eH : upd _ _ _ = H6
            obtain ⟨s6, e6⟩ := new_of eH nl2
            walk_at "rd"
            refine ⟨_, _, _, _, rfl, rfl, s6 _ _ f5, e6, ?_, fun l3 nl3 => ?_⟩
            · rw [rep1, List.length_map, List.length_map, List.length_replicate]
              exact Nat.le_of_lt (many_small (by omega))
            generalize eH : upd _ _ _ = H7
            obtain ⟨s7, e7⟩ := new_of eH nl3
            walk_at "rd"
            refine ⟨by show 1 ≤ sizeLine; decide, fun l4 nl4 => ?_⟩
            generalize eH : upd _ _ _ = H8
            obtain ⟨s8, e8⟩ := new_of eH nl4
            walk_at "rd"
            have S8 := ((S5.same s6).same s7).same s8
            refine ⟨p, c, 9, rfl, S8, by decide, fun H9 r3 S9 off9 r30 r31 => ?_⟩
            have g4 := off9 _ _ (((S5.same s6).same s7).ne_p nl4) (((S5.same s6).same s7).ne_c nl4) e8
            have g3 := off9 _ _ ((S5.same s6).ne_p nl3) ((S5.same s6).ne_c nl3) (s8 _ _ e7)
            walk_at "rd"
            refine ⟨_, _, _, rfl, rfl, g4, by omega, by omega, ?_, fun l5 nl5 => ?_⟩
            · show 1 * r3.toNat ≤ sizeLine
              exact Nat.le_trans (show _ ≤ 10 by omega) (by decide)
            generalize eH : upd _ _ _ = H10
            obtain ⟨s10, e10⟩ := new_of eH nl5
            walk_at "rd"
            refine ⟨_, _, _, _, rfl, rfl, s10 _ _ g3, e10, ?_, fun l6 nl6 => ?_⟩
            · rw [rep1, rep1, List.length_append, List.length_map, List.length_map, List.length_map, List.length_replicate, List.length_replicate]
              exact Nat.le_of_lt (many_small (by omega))
            generalize eH : upd _ _ _ = H11
            obtain ⟨s11, e11⟩ := new_of eH nl6
            have ot : Off p c H H10 := (((off2.trans off3).trans (Same.off s4)).trans off5).trans (((Same.off ((s6.trans s7).trans s8)).trans off9).trans (Same.off s10))
            have S10 := S9.same s10
            refine ⟨l6, ns ++ List.replicate (1 + r2).toNat (1 + r) ++ List.replicate r3.toNat 0, x5, x6, rfl, ?_, S10.same s11, ot.trans (Same.off s11), S10.free ot nl6, S10.ne_p nl6, S10.ne_c nl6, ?_, ?_, ?_⟩
            · rw [List.length_append, List.length_append, List.length_replicate, List.length_replicate]; omega
            · rw [e11, rep1, rep1, List.map_append, List.map_append]
            · intro z hz
              rcases List.mem_append.mp hz with hz | hz
              · rcases List.mem_append.mp hz with hz | hz
                · exact hns z hz
                · rw [List.eq_of_mem_replicate hz]; omega
              · rw [List.eq_of_mem_replicate hz]; omega
            · rw [List.length_append, List.length_append, List.length_replicate, List.length_replicate]; omega
          · walk_at "rd"
            refine ⟨rfl, ?_⟩
            walk_at "rd"
            refine ite2 (fun h4 => ?_) (fun h4 => ?_)
            · -- way 2
              refine tif_R (fun v G' => ∃ ah, v = .int ah ∧ Src G' p c ∧ Off p c H G' ∧ G' fa = some (.lst (ns.map V.int))) (fun v G' h => ?_) (fun Q' hQ => ?_)
              · obtain ⟨ah, rfl, S3, off3, e3⟩ := h
                walk_at "rd"
                refine ⟨.inl ⟨rfl, _, .inl (.inl e3)⟩, ?_⟩
                walk_at "rd"
                refine ⟨p, c, 5, rfl, S3, by decide, fun H5 r S5 off5 r0 r1 => ?_⟩
                have e5 := off5 _ _ fp fc e3
                walk_at "rd"
                refine ⟨_, _, _, rfl, rfl, e5, hlen, ?_⟩
                refine ⟨fa, ns ++ [if (if ah + r - 2 > 0 then ah + r - 2 else 0) < most then (if ah + r - 2 > 0 then ah + r - 2 else 0) else most], some (.int ah), x6, rfl, ?_, S5.upd_new fp fc, (off3.trans off5).new nfa, nfa, fp, fc, ?_, ?_, ?_⟩
                · rw [List.length_append, List.length_singleton]; omega
                · rw [upd_same, List.map_append]
                  rfl
                · intro z hz
                  rcases List.mem_append.mp hz with hz | hz
                  · exact hns z hz
                  · rw [List.mem_singleton.mp hz]
                    split <;> split <;> omega
                · rw [List.length_append, List.length_singleton]; omega
              · walk_at "rd"
                refine ⟨Nat.zero_le _, fun l1 nl1 => ?_⟩
                generalize eH : upd _ _ _ = H3
                obtain ⟨s3, e3⟩ := new_of eH nl1
                refine ⟨_, _, nul_ints (s3 _ _ e2), .lst (.inl (.inl e3)) .nil, shaped_list_ints, shaped_list_ints (ns := []), ?_⟩
                rw [eqv_nil]
                walk_at "rd"
                refine ite2 (fun h5 => ?_) (fun h5 => ?_)
                · have hne : ns ≠ [] := by
                    rintro rfl
                    exact absurd h5 (by decide)
                  have hat : atI (ns.map V.int) (-1) = some (.int (ns.getLast hne)) := by
                    have e : ns.map V.int = ns.dropLast.map V.int ++ [.int (ns.getLast hne)] := by
                      rw [← List.map_singleton, ← List.map_append, List.dropLast_concat_getLast]
                    rw [e]
                    exact atI_last _ _
                  walk_at "rd"
                  exact ⟨_, _, _, _, rfl, rfl, .inl (.inl (s3 _ _ e2)), hat, hQ _ _ ⟨_, rfl, S2.same s3, off2.trans (Same.off s3), s3 _ _ e2⟩⟩
                · walk_at "rd"
                  refine ⟨p, c, _, rfl, S2.same s3, by omega, fun H5 r S5 off5 r0 r1 => ?_⟩
                  exact hQ _ _ ⟨_, rfl, S5, (off2.trans (Same.off s3)).trans off5, off5 _ _ fp fc (s3 _ _ e2)⟩
            · -- way 3
              walk_at "rd"
              refine ⟨p, c, _, rfl, S2, by omega, fun H3 r S3 off3 r0 r1 => ?_⟩
              have e3 := off3 _ _ fp fc e2
              refine ⟨by show 4 ≤ sizeLine; decide, fun l1 nl1 => ?_⟩
              generalize eH : upd _ _ _ = H4
              obtain ⟨s4, e4⟩ := new_of eH nl1
              have S4 := S3.same s4
              walk_at "rd"
              refine ⟨p, c, l1, _, rfl, S4, fun G' o => .inl (.inl (.inl (o _ _ (S3.ne_p nl1) (S3.ne_c nl1) e4))), by simp, by show 4 ≤ 100000; decide, fun H5 x hx S5 off5 => ?_⟩
              obtain ⟨z, rfl, z0, z1⟩ : ∃ z, x = .int z ∧ 0 ≤ z ∧ z ≤ most := by
                simp only [List.mem_cons, List.not_mem_nil, or_false] at hx
                rcases hx with rfl | rfl | rfl | rfl
                · exact ⟨0, rfl, by omega, by omega⟩
                · exact ⟨0, rfl, by omega, by omega⟩
                · exact ⟨most, rfl, by omega, by omega⟩
                · exact ⟨r, rfl, by omega, by omega⟩
              have e5 := off5 _ _ fp fc (s4 _ _ e3)
              refine ⟨by show 1 ≤ sizeLine; decide, fun l2 nl2 => ?_⟩
              generalize eH : upd _ _ _ = H6
              obtain ⟨s6, e6⟩ := new_of eH nl2
              have S6 := S5.same s6
              walk_at "rd"
              refine ⟨p, c, 4, rfl, S6, by decide, fun H7 r2 S7 off7 r20 r21 => ?_⟩
              have e7 := off7 _ _ (S5.ne_p nl2) (S5.ne_c nl2) e6
              have f7 := off7 _ _ fp fc (s6 _ _ e5)
              walk_at "rd"
              refine ⟨_, _, _, rfl, rfl, e7, by omega, by omega, ?_, fun l3 nl3 => ?_⟩
              · show 1 * (1 + r2).toNat ≤ sizeLine
                exact Nat.le_trans (show _ ≤ 10 by omega) (by decide)
              generalize eH : upd _ _ _ = H8
              obtain ⟨s8, e8⟩ := new_of eH nl3
              walk_at "rd"
              refine ⟨_, _, _, _, rfl, rfl, s8 _ _ f7, e8, ?_, fun l4 nl4 => ?_⟩
              · rw [rep1, List.length_map, List.length_map, List.length_replicate]
                exact Nat.le_of_lt (many_small (by omega))
              generalize eH : upd _ _ _ = H9
              obtain ⟨s9, e9⟩ := new_of eH nl4
              have ot : Off p c H H8 := (((off2.trans off3).trans (Same.off s4)).trans off5).trans (((Same.off s6).trans off7).trans (Same.off s8))
              have S8 := S7.same s8
              refine ⟨l4, ns ++ List.replicate (1 + r2).toNat z, x5, _, rfl, ?_, S8.same s9, ot.trans (Same.off s9), S8.free ot nl4, S8.ne_p nl4, S8.ne_c nl4, ?_, ?_, ?_⟩
              · rw [List.length_append, List.length_replicate]; omega
              · rw [e9, rep1, List.map_append]
              · intro y hy
                rcases List.mem_append.mp hy with hy | hy
                · exact hns y hy
                · rw [List.eq_of_mem_replicate hy]; omega
              · rw [List.length_append, List.length_replicate]; omega
      · refine aft _ _ ⟨fa, ns, x5, x6, rfl, ?_, S2, off2, e2, hns⟩
        have := of_decide_eq_false (Bool.eq_false_iff.mpr h1)
        rw [List.length_map] at this
        omega
end
end K21
set_option Elab.async false
set_option linter.all false
set_option maxRecDepth 100000
namespace K21
open PySem PySem.Spec PyProof.Rows L2 WK
local macro_rules | `(tactic| walk_at "rd") => `(tactic| repeat (first | refine Exists.intro _ (And.intro rfl ?_) | refine Exists.intro _ (Exists.intro _ (And.intro rfl (And.intro rfl ?_))) | refine Exists.intro _ (Exists.intro _ (And.intro rfl ?_))))
abbrev sLayer : Stmt := topS 1
abbrev sGaps : Stmt := topS 2
abbrev sLGaps : Stmt := topS 8
theorem scLayer : FnScope ["row", "k", "x"] ["row", "k"] (defScope sLayer) := ⟨rfl, rfl, rfl, by decide +kernel, rfl, by decide +kernel, by decide +kernel⟩
theorem scGaps : FnScope ["row", "k", "on", "tick", "x", "ahead", "behind"] ["row", "k"] (defScope sGaps) := ⟨rfl, rfl, rfl, by decide +kernel, rfl, by decide +kernel, by decide +kernel⟩
theorem scLGaps : FnScope ["needs", "k", "on", "t", "a", "b"] ["needs", "k"] (defScope sLGaps) := ⟨rfl, rfl, rfl, by decide +kernel, rfl, by decide +kernel, by decide +kernel⟩
section
variable {P : Program} {w : World} {K : PySem.W.Frag} {mg : Str → Option Value} {base : Heap}
theorem ok_layer {f : Addr} {fd : FuncData} (F : Fun K "layer" "layer" sLayer f fd) (B : Blt mg) : FnOk P w K mg base CX0 1 f fd ["row", "k"] spLayer := by
  refine F.ok scLayer (fun vs H Q E h => ?_) (fun cdv A outer s H vs Q E hr h => ?_)
  · obtain ⟨t, k, ns, rfl, _⟩ := h
    rfl
  · obtain ⟨t, k, ns, rfl, ht, hlen, q⟩ := h
    refine ⟨_, (pss_one (ps_ret (pe_callTy call_tuple_of (by rfl) B.tuple (by decide +kernel) (pa_cons (pe_lc (own := [("x", 2)]) (g := gName 2) rfl scLayer.nd (pi_tup (pv 0)) (blkOk_by (own := [("x", 2)]) (N := ["row", "k", "x"]) (sc := defScope sLayer) (by decide +kernel)) (fun _ _ _ _ _ => (pg_name (i := 2) scLayer.nd rfl (.inl rfl))) (fun _ _ _ _ _ => pts_nil) (fun _ _ _ _ _ => (pe_ifExp (pt_cmpR op_ge (pv 2) (pv 1) (nomark _)) pe_int pe_int))) pa_nil)))), ?_⟩
    walk_at "rd"
    refine ⟨⟨_, .inl (.inl ht)⟩, fun D nD => lc_tup (K := K) (a := t) (xs := ns.map V.int) (fun i G => Same H G ∧ G D = some (.lst ((layerL (ns.take i) k).map V.int))) ?_ (fun i G _ h => .inl (.inl (h.1 _ _ ht))) (fun i x G hx h => ?_) (fun G h => ?_)⟩
    · exact ⟨same_new nD, upd_same⟩
    · obtain ⟨z, hz, rfl⟩ := int_at hx
      have key : ∀ y : Int, y = (if k ≤ z then 1 else 0) → ∃ acc, G D = some (HO.lst acc) ∧ acc.length < sizeLine ∧ Same H (upd G D (.lst (acc ++ [V.int y]))) ∧ (upd G D (.lst (acc ++ [V.int y]))) D = some (.lst ((layerL (ns.take (i + 1)) k).map V.int)) := by
        rintro y rfl
        refine ⟨_, h.2, ?_, fun b o e => ?_, ?_⟩
        · rw [List.length_map, layerL, List.length_map, List.length_take]
          exact many_small (by omega)
        · rw [upd_ne (ne_of_none e nD)]
          exact h.1 _ _ e
        · rw [upd_same]
          unfold layerL
          rw [take_snoc hz, List.map_append]
          rfl
      refine yesT rfl ?_
      walk_at "rd"
      refine ite2 (fun h1 => ?_) (fun h1 => ?_)
      · exact key _ (by rw [if_pos (of_decide_eq_true h1)])
      · exact key _ (by rw [if_neg (fun q => h1 (decide_eq_true q))])
    · obtain ⟨s3, e3⟩ := h
      refine ⟨_, _, rfl, .inl ⟨.inl (.inl e3), fun u nu => ?_⟩⟩
      generalize eH : upd _ _ _ = H4
      obtain ⟨s4, e4⟩ := new_of eH nu
      refine q H4 u (s3.trans s4) (s3.free nu) ?_
      rw [e4, List.length_map, List.take_length]
theorem ok_gaps {f : Addr} {fd : FuncData} (F : Fun K "gaps" "gaps" sGaps f fd) (B : Blt mg) : FnOk P w K mg base CX0 1 f fd ["row", "k"] (spGaps K) := by
  refine F.ok scGaps (fun vs H Q E h => ?_) (fun cdv A outer s H vs Q E hr h => ?_)
  · obtain ⟨t, k, ns, rfl, _⟩ := h
    rfl
  · obtain ⟨t, k, ns, rfl, ht, hlen, q⟩ := h
    refine ⟨_, (pss_cons (ps_setLc (i := 2) (own := [("tick", 3), ("x", 4)]) (g := gTup K 2 (gCons (gName 3) (gCons (gName 4) gNil))) rfl scGaps.nd rfl rfl (sw_true rfl rfl rfl (by decide +kernel)) (pi_enumT (by rfl) B.enumerate (pa_cons (pv 0) pa_nil)) (blkOk_by (own := [("tick", 3), ("x", 4)]) (N := ["row", "k", "on", "tick", "x", "ahead", "behind"]) (sc := defScope sGaps) (by decide +kernel)) (fun _ _ _ _ _ => (pg_tup rfl (pgs_cons (pg_name (i := 3) scGaps.nd rfl (.inl rfl)) (pgs_cons (pg_name (i := 4) scGaps.nd rfl (.inl rfl)) pgs_nil)))) (fun _ _ _ _ _ => pts_one (pt_cmpR op_ge (pv 4) (pv 1) (nomark _))) (fun _ _ _ _ _ => (pv 3)))
      (pss_one (ps_ret (pe_lc (own := [("ahead", 5), ("behind", 6)]) (g := gTup K 2 (gCons (gName 5) (gCons (gName 6) gNil))) rfl scGaps.nd (pi_zip (by rfl) B.zip (pa_cons (pv 2) (pa_cons (pe_slice (r := rSlL K) sl_list (pv 2) (po_some pe_int) po_none) pa_nil))) (blkOk_by (own := [("ahead", 5), ("behind", 6)]) (N := ["row", "k", "on", "tick", "x", "ahead", "behind"]) (sc := defScope sGaps) (by decide +kernel)) (fun _ _ _ _ _ => (pg_tup rfl (pgs_cons (pg_name (i := 5) scGaps.nd rfl (.inl rfl)) (pgs_cons (pg_name (i := 6) scGaps.nd rfl (.inl rfl)) pgs_nil)))) (fun _ _ _ _ _ => pts_one (pt_cmpR op_gt (pe_op op_sub (pv 6) (pv 5)) pe_int (nomark _))) (fun _ _ _ _ _ => (pe_tup (pa_cons (pe_op op_add (pv 5) pe_int) (pa_cons (pe_op op_sub (pe_op op_sub (pv 6) (pv 5)) pe_int) pa_nil)))))))), ?_⟩
    walk_at "rd"
    refine ⟨_, _, rfl, .inl (.inl ht), fun D nD => lc_it (walk_enumT (K := K) (a := t) (xs := ns.map V.int)) (fun i G => Same H G ∧ G D = some (.lst ((onL ns k i).map V.int))) ?_ (fun i G _ h => .inl (.inl (h.1 _ _ ht))) (fun i x G G' hi h hy => ?_) (fun G h => ?_)⟩
    · exact ⟨same_new nD, upd_same⟩
    · obtain ⟨h1, h2⟩ := h
      obtain ⟨T, x1, x2, rfl, nT, rfl, a1, a2⟩ := hy
      have a1 : some (V.int (i : Nat)) = some x1 := a1
      injection a1 with a1
      subst a1
      obtain ⟨z, hz, rfl⟩ := int_at a2
      generalize eH : upd _ _ _ = G1
      obtain ⟨g1, f1⟩ := new_of eH nT
      refine ⟨T, _, rfl, .inl (.inl f1), rfl, _, _, rfl, _, _, rfl, rfl, rfl, ?_⟩
      walk_at "rd"
      refine ite2 (fun hk => ?_) (fun hk => ?_)
      · walk_at "rd"
        refine ⟨_, g1 _ _ h2, ?_, fun b o e => ?_, ?_⟩
        · rw [List.length_map]
          have := onL_len (ns := ns) (k := k) (i := i)
          rw [List.length_map] at hi
          exact many_small (by omega)
        · rw [upd_ne (ne_of_none e nD)]
          exact g1 _ _ (h1 _ _ e)
        · rw [upd_same, onL_yes hz (of_decide_eq_true hk), List.map_append]
          rfl
      · refine ⟨fun b o e => g1 _ _ (h1 _ _ e), ?_⟩
        rw [onL_no hz (fun q => hk (decide_eq_true q))]
        exact g1 _ _ h2
    · -- the pairs of neighbours
      have hon : onL ns k (ns.map V.int).length = onL ns k ns.length := by rw [List.length_map]
      obtain ⟨s3, e3⟩ := h
      rw [hon] at e3
      generalize eo : onL ns k ns.length = os at e3
      have hos : os.length ≤ 5000 := by
        rw [← eo]
        exact Nat.le_trans onL_len hlen
      walk_at "rd"
      refine ⟨_, _, rfl, .inl (.inl e3), fun c nc => ?_⟩
      generalize eH : upd _ _ _ = H4
      obtain ⟨s4, e4⟩ := new_of eH nc
      rw [cut_drop1, ← List.map_drop] at e4
      have e5 := s4 _ _ e3
      walk_at "rd"
      refine ⟨_, _, _, _, rfl, .inl (.inl e5), .inl (.inl e4), fun D2 nD2 => lc_it (walk_zip (K := K) (a := D) (b := c) (xs := os.map V.int) (ys := (os.drop 1).map V.int) (n := os.length - 1) (by rw [List.length_map, List.length_map, List.length_drop]; omega))
        (fun i G => Same H4 G ∧ ∃ ws, G D2 = some (.lst ws) ∧ DpAll K G ws ((pairsL os i).map prD)) ?_ (fun i G _ h => ⟨.inl (.inl (h.1 _ _ e5)), .inl (.inl (h.1 _ _ e4))⟩) (fun i x G G' hi h hy => ?_) (fun G h => ?_)⟩
      · exact ⟨same_new nD2, [], upd_same, .nil⟩
      · obtain ⟨h1, ws, h2, h3⟩ := h
        obtain ⟨T, x1, x2, rfl, nT, rfl, a1, a2⟩ := hy
        have a1 : (os.map V.int)[i]? = some x1 := a1
        have a2 : ((os.drop 1).map V.int)[i]? = some x2 := a2
        obtain ⟨y1, b1, rfl⟩ := int_at a1
        obtain ⟨y2, b2, rfl⟩ := int_at a2
        have b2 : os[i + 1]? = some y2 := by
          rw [List.getElem?_drop, Nat.add_comm] at b2
          exact b2
        generalize eH : upd _ _ _ = G1
        obtain ⟨g1, f1⟩ := new_of eH nT
        refine ⟨T, _, rfl, .inl (.inl f1), rfl, _, _, rfl, _, _, rfl, rfl, rfl, ?_⟩
        walk_at "rd"
        refine ite2 (fun hk => ?_) (fun hk => ?_)
        · have hk := of_decide_eq_true hk
          walk_at "rd"
          refine ⟨by show 2 ≤ sizeLine; decide, fun u nu => ?_⟩
          generalize eH : upd _ _ _ = G2
          obtain ⟨g2, f2⟩ := new_of eH nu
          have g12 := g1.trans g2
          have hD := g12 _ _ h2
          refine ⟨ws, hD, ?_, ?_⟩
          · rw [dp_len h3, List.length_map]
            exact many_small (Nat.le_trans pairsL_len (by omega))
          · have nsame : Same H4 (upd G2 D2 (.lst (ws ++ [.ref u]))) := fun b o e => by
              rw [upd_ne (ne_of_none e nD2)]
              exact g12 _ _ (h1 _ _ e)
            refine ⟨nsame, _, upd_same, ?_⟩
            rw [pairsL_yes b1 b2 hk, List.map_append]
            have noD2 : ∀ (Gx : Hp), Gx = upd G2 D2 (.lst (ws ++ [.ref u])) → DpAll K Gx ws ((pairsL os i).map prD) := by
              rintro Gx rfl
              exact dp_pairs_upd (dp_sameAll g12 _ _ h3) hD
            refine dp_snoc (noD2 _ rfl) ?_
            have fu : (upd G2 D2 (.lst (ws ++ [.ref u]))) u = some (.tup [.int (y1 + 1), .int (y2 - y1 - 1)]) := by
              rw [upd_ne (ne_of f2 hD (by intro z; cases z)), f2]
            exact .tup (.inl (.inl fu)) (.cons (.int _) (.cons (.int _) .nil))
        · have hk : ¬ 1 < y2 - y1 := fun q => hk (decide_eq_true q)
          refine ⟨fun b o e => g1 _ _ (h1 _ _ e), ws, g1 _ _ h2, ?_⟩
          rw [pairsL_no b1 b2 hk]
          exact dp_sameAll g1 _ _ h3
      · obtain ⟨h1, ws, h2, h3⟩ := h
        refine q G D2 ws ((s3.trans s4).trans h1) ((s3.trans s4).free nD2) h2 ?_
        unfold gapsL
        rw [eo]
        exact h3
theorem ok_lgaps {f : Addr} {fd : FuncData} (F : Fun K "_law_gaps" "_law_gaps" sLGaps f fd) (B : Blt mg) : FnOk P w K mg base CX0 1 f fd ["needs", "k"] (spGaps K) := by
  refine F.ok scLGaps (fun vs H Q E h => ?_) (fun cdv A outer s H vs Q E hr h => ?_)
  · obtain ⟨t, k, ns, rfl, _⟩ := h
    rfl
  · obtain ⟨t, k, ns, rfl, ht, hlen, q⟩ := h
    refine ⟨_, (pss_cons (ps_setLc (i := 2) (own := [("t", 3)]) (g := gName 3) rfl scLGaps.nd rfl rfl (sw_true rfl rfl rfl (by decide +kernel)) (pi_range1 rfl B.range (pa_cons (pe_callB call_len_seq (by rfl) B.len PySem.boot_len (pa_cons (pv 0) pa_nil)) pa_nil)) (blkOk_by (own := [("t", 3)]) (N := ["needs", "k", "on", "t", "a", "b"]) (sc := defScope sLGaps) (by decide +kernel)) (fun _ _ _ _ _ => (pg_name (i := 3) scLGaps.nd rfl (.inl rfl))) (fun _ _ _ _ _ => pts_one (pt_cmpR op_ge (pe_ix (r := rIxT K) ix_tup (pv 0) (pv 3) (fun _ _ => rfl)) (pv 1) (nomark _))) (fun _ _ _ _ _ => (pv 3)))
      (pss_one (ps_ret (pe_lc (own := [("a", 4), ("b", 5)]) (g := gTup K 2 (gCons (gName 4) (gCons (gName 5) gNil))) rfl scLGaps.nd (pi_zip (by rfl) B.zip (pa_cons (pv 2) (pa_cons (pe_slice (r := rSlL K) sl_list (pv 2) (po_some pe_int) po_none) pa_nil))) (blkOk_by (own := [("a", 4), ("b", 5)]) (N := ["needs", "k", "on", "t", "a", "b"]) (sc := defScope sLGaps) (by decide +kernel)) (fun _ _ _ _ _ => (pg_tup rfl (pgs_cons (pg_name (i := 4) scLGaps.nd rfl (.inl rfl)) (pgs_cons (pg_name (i := 5) scLGaps.nd rfl (.inl rfl)) pgs_nil)))) (fun _ _ _ _ _ => pts_one (pt_cmpR op_gt (pv 5) (pe_op op_add (pv 4) pe_int) (nomark _))) (fun _ _ _ _ _ => (pe_tup (pa_cons (pe_op op_add (pv 4) pe_int) (pa_cons (pe_op op_sub (pe_op op_sub (pv 5) (pv 4)) pe_int) pa_nil)))))))), ?_⟩
    walk_at "rd"
    refine ⟨_, _, rfl, .inr (.inl (.inl ht)), ?_⟩
    walk_at "rd"
    refine ⟨by omega, by rw [List.length_map]; omega, fun D nD => lc_range (lo := 0) (n := ((ns.map V.int).length : Int).toNat) (fun i G => Same H G ∧ G D = some (.lst ((onL ns k i).map V.int))) ?_ (fun i G hi h => ?_) (fun G h => ?_)⟩
    · exact ⟨same_new nD, upd_same⟩
    · obtain ⟨h1, h2⟩ := h
      have hi : i < ns.length := by
        rw [List.length_map] at hi
        omega
      have hz : ns[i]? = some ns[i] := List.getElem?_eq_getElem hi
      refine ⟨rfl, ?_⟩
      walk_at "rd"
      refine ⟨_, _, _, _, rfl, rfl, .inl (.inl (h1 _ _ ht)), at_of (j := i) (by omega) (by rw [List.getElem?_map, hz]; rfl), ?_⟩
      walk_at "rd"
      refine ite2 (fun hk => ?_) (fun hk => ?_)
      · walk_at "rd"
        refine ⟨_, h2, ?_, fun b o e => ?_, ?_⟩
        · rw [List.length_map]
          have := onL_len (ns := ns) (k := k) (i := i)
          exact many_small (by omega)
        · rw [upd_ne (ne_of_none e nD)]
          exact h1 _ _ e
        · rw [upd_same, onL_yes hz (of_decide_eq_true hk), List.map_append, Int.zero_add]
          rfl
      · refine ⟨h1, ?_⟩
        rw [onL_no hz (fun q => hk (decide_eq_true q))]
        exact h2
    · -- the pairs of neighbours
      have hon : onL ns k ((ns.map V.int).length : Int).toNat = onL ns k ns.length := by rw [List.length_map, Int.toNat_natCast]
      obtain ⟨s3, e3⟩ := h
      rw [hon] at e3
      generalize eo : onL ns k ns.length = os at e3
      have hos : os.length ≤ 5000 := by
        rw [← eo]
        exact Nat.le_trans onL_len hlen
      walk_at "rd"
      refine ⟨_, _, rfl, .inl (.inl e3), fun c nc => ?_⟩
      generalize eH : upd _ _ _ = H4
      obtain ⟨s4, e4⟩ := new_of eH nc
      rw [cut_drop1, ← List.map_drop] at e4
      have e5 := s4 _ _ e3
      walk_at "rd"
      refine ⟨_, _, _, _, rfl, .inl (.inl e5), .inl (.inl e4), fun D2 nD2 => lc_it (walk_zip (K := K) (a := D) (b := c) (xs := os.map V.int) (ys := (os.drop 1).map V.int) (n := os.length - 1) (by rw [List.length_map, List.length_map, List.length_drop]; omega))
        (fun i G => Same H4 G ∧ ∃ ws, G D2 = some (.lst ws) ∧ DpAll K G ws ((pairsL os i).map prD)) ?_ (fun i G _ h => ⟨.inl (.inl (h.1 _ _ e5)), .inl (.inl (h.1 _ _ e4))⟩) (fun i x G G' hi h hy => ?_) (fun G h => ?_)⟩
      · exact ⟨same_new nD2, [], upd_same, .nil⟩
      · obtain ⟨h1, ws, h2, h3⟩ := h
        obtain ⟨T, x1, x2, rfl, nT, rfl, a1, a2⟩ := hy
        have a1 : (os.map V.int)[i]? = some x1 := a1
        have a2 : ((os.drop 1).map V.int)[i]? = some x2 := a2
        obtain ⟨y1, b1, rfl⟩ := int_at a1
        obtain ⟨y2, b2, rfl⟩ := int_at a2
        have b2 : os[i + 1]? = some y2 := by
          rw [List.getElem?_drop, Nat.add_comm] at b2
          exact b2
        generalize eH : upd _ _ _ = G1
        obtain ⟨g1, f1⟩ := new_of eH nT
        refine ⟨T, _, rfl, .inl (.inl f1), rfl, _, _, rfl, _, _, rfl, rfl, rfl, ?_⟩
        walk_at "rd"
        refine ite2 (fun hk => ?_) (fun hk => ?_)
        · have hk := of_decide_eq_true hk
          walk_at "rd"
          refine ⟨by show 2 ≤ sizeLine; decide, fun u nu => ?_⟩
          generalize eH : upd _ _ _ = G2
          obtain ⟨g2, f2⟩ := new_of eH nu
          have g12 := g1.trans g2
          have hD := g12 _ _ h2
          refine ⟨ws, hD, ?_, ?_⟩
          · rw [dp_len h3, List.length_map]
            exact many_small (Nat.le_trans pairsL_len (by omega))
          · have nsame : Same H4 (upd G2 D2 (.lst (ws ++ [.ref u]))) := fun b o e => by
              rw [upd_ne (ne_of_none e nD2)]
              exact g12 _ _ (h1 _ _ e)
            refine ⟨nsame, _, upd_same, ?_⟩
            rw [pairsL_yes b1 b2 (by omega), List.map_append]
            have noD2 : ∀ (Gx : Hp), Gx = upd G2 D2 (.lst (ws ++ [.ref u])) → DpAll K Gx ws ((pairsL os i).map prD) := by
              rintro Gx rfl
              exact dp_pairs_upd (dp_sameAll g12 _ _ h3) hD
            refine dp_snoc (noD2 _ rfl) ?_
            have fu : (upd G2 D2 (.lst (ws ++ [.ref u]))) u = some (.tup [.int (y1 + 1), .int (y2 - y1 - 1)]) := by
              rw [upd_ne (ne_of f2 hD (by intro z; cases z)), f2]
            exact .tup (.inl (.inl fu)) (.cons (.int _) (.cons (.int _) .nil))
        · have hk : ¬ y2 > y1 + 1 := fun q => hk (decide_eq_true q)
          refine ⟨fun b o e => g1 _ _ (h1 _ _ e), ws, g1 _ _ h2, ?_⟩
          rw [pairsL_no b1 b2 (by omega)]
          exact dp_sameAll g1 _ _ h3
      · obtain ⟨h1, ws, h2, h3⟩ := h
        refine q G D2 ws ((s3.trans s4).trans h1) ((s3.trans s4).free nD2) h2 ?_
        unfold gapsL
        rw [eo]
        exact h3
end
end K21
set_option Elab.async false
set_option linter.all false
set_option maxRecDepth 100000
set_option maxHeartbeats 4000000
namespace K21
open PySem PySem.Spec PyProof.Rows L2 WK
local macro_rules | `(tactic| walk_at "rd") => `(tactic| repeat (first | refine Exists.intro _ (And.intro rfl ?_) | refine Exists.intro _ (Exists.intro _ (And.intro rfl (And.intro rfl ?_))) | refine Exists.intro _ (Exists.intro _ (And.intro rfl ?_))))
abbrev sLaw : Stmt := topS 9
theorem scLaw : FnScope ["script", "source", "lap", "most", "many", "row", "k", "due", "kept", "told", "one"] ["script"] (defScope sLaw) := ⟨rfl, rfl, rfl, by decide +kernel, rfl, by decide +kernel, by decide +kernel⟩
structure Txt (K : PySem.W.Frag) (mg : Str → Option Value) (fS fP fO fD fL fG fLG : Addr) (dS dP dO dD dL dG dLG : FuncData) : Prop extends Drw K mg fP fO dP dO where
  FS : Fun K "_law_source" "_law_source" sSource fS dS
  bS : Binds K dS ["script"] []
  gS : mg "_law_source" = some (.ref fS)
  FDraw : Fun K "_law_draw_needs" "_law_draw_needs" sDraw fD dD
  bDraw : Binds K dD ["source", "ticks", "most"] []
  gDraw : mg "_law_draw_needs" = some (.ref fD)
  FLayer : Fun K "layer" "layer" sLayer fL dL
  bLayer : Binds K dL ["row", "k"] []
  gLayer : mg "layer" = some (.ref fL)
  FGaps : Fun K "gaps" "gaps" sGaps fG dG
  bGaps : Binds K dG ["row", "k"] []
  gGaps : mg "gaps" = some (.ref fG)
  FLGaps : Fun K "_law_gaps" "_law_gaps" sLGaps fLG dLG
  bLGaps : Binds K dLG ["needs", "k"] []
  gLGaps : mg "_law_gaps" = some (.ref fLG)
def spLaw (K : PySem.W.Frag) : Sp := fun vs H Q _ => ∃ (a : Addr) (ns : List Int), vs = [.ref a] ∧ SqL K H a (ns.map V.int) ∧ ns.length ≤ 63 ∧ ∀ H', Q (.bl true) H'
section
variable {P : Program} {w : World} {K : PySem.W.Frag} {mg : Str → Option Value} {base : Heap} {fS fP fO fD fL fG fLG : Addr} {dS dP dO dD dL dG dLG : FuncData}
theorem ok_law {f : Addr} {fd : FuncData} (F : Fun K "law" "law" sLaw f fd) (D : Txt K mg fS fP fO fD fL fG fLG dS dP dO dD dL dG dLG) (B : Blt mg) : FnG P w K mg base 4 f fd ["script"] (spLaw K) := by
  have GS : FnOk P w K mg base CX0 1 fS dS ["script"] (spSource K) := ok_source D.FS B
  have GP : FnOk P w K mg base CX0 1 fP dP ["source", "many"] spPick := ok_pick D.FP B
  have GO : FnOk P w K mg base CX0 2 fO dO ["source", "some"] (spOf K) := ok_of D.FO D.toDrw B
  have GDraw : FnOk P w K mg base CX0 3 fD dD ["source", "ticks", "most"] spDraw := ok_draw D.FDraw D.toDrw B
  have GLayer : FnOk P w K mg base CX0 1 fL dL ["row", "k"] spLayer := ok_layer D.FLayer B
  have GGaps : FnOk P w K mg base CX0 1 fG dG ["row", "k"] (spGaps K) := ok_gaps D.FGaps B
  have GLGaps : FnOk P w K mg base CX0 1 fLG dLG ["needs", "k"] (spGaps K) := ok_lgaps D.FLGaps B
  refine okG F scLaw (fun cdv A outer s H vs Q hr hg h => ?_)
  obtain ⟨a, ns, rfl, hS, hlen, q⟩ := h
  have hu64 := hr.units
  have hrDraw := hr
  have hrO := hr.mono (show 2 ≤ 3 by decide)
  have hrP := hr.mono (show 1 ≤ 3 by decide)
  have hrS := hrP
  have hrLayer := hrP
  have hrGaps := hrP
  have hrLGaps := hrP
  refine ⟨_, (pss_cons (ps_set (i := 1) scLaw.nd rfl (.inl rfl) (pe_call GS hrS (by rfl) D.gS D.FS.kp D.bS .nil pass0 (pa_cons (pv 0) pa_nil)))
      (pss_cons (ps_for PassesOwn.never rfl (pi_range1 rfl B.range (pa_cons pe_int pa_nil)) (pg_name (i := 2) scLaw.nd rfl (.inl rfl))
        (pss_cons (ps_asg (pe_tup (pa_cons (pe_call GO hrO (by rfl) D.gO D.FO.kp D.bO .nil pass0 (pa_cons (pv 1) (pa_cons (pe_lst (pa_cons pe_int (pa_cons pe_int (pa_cons pe_int (pa_cons pe_int pa_nil))))) pa_nil))) (pa_cons (pe_call GO hrO (by rfl) D.gO D.FO.kp D.bO .nil pass0 (pa_cons (pv 1) (pa_cons (pe_lst (pa_cons pe_int (pa_cons pe_int (pa_cons pe_int (pa_cons (pe_op op_pow pe_int pe_int) pa_nil))))) pa_nil))) pa_nil))) (pg_tup rfl (pgs_cons (pg_name (i := 3) scLaw.nd rfl (.inl rfl)) (pgs_cons (pg_name (i := 4) scLaw.nd rfl (.inr rfl)) pgs_nil))))
        (pss_cons (ps_set (i := 5) scLaw.nd rfl (.inr rfl) (pe_callTy call_tuple_of (by rfl) B.tuple (by decide +kernel) (pa_cons (pe_lc (own := [("one", 10)]) (g := gName 10) rfl scLaw.nd (pi_tup (pe_call GDraw hrDraw (by rfl) D.gDraw D.FDraw.kp D.bDraw .nil pass0 (pa_cons (pv 1) (pa_cons (pe_op op_add pe_int (pe_call GP hrP (by rfl) D.gP D.FP.kp D.bP .nil pass0 (pa_cons (pv 1) (pa_cons pe_int pa_nil)))) (pa_cons (pv 3) pa_nil))))) (blkOk_by (own := [("one", 10)]) (N := ["script", "source", "lap", "most", "many", "row", "k", "due", "kept", "told", "one"]) (sc := defScope sLaw) (by decide +kernel)) (fun _ _ _ _ _ => (pg_name (i := 10) scLaw.nd rfl (.inl rfl))) (fun _ _ _ _ _ => pts_nil) (fun _ _ _ _ _ => (pe_op op_mul (pv 4) (pv 10)))) pa_nil)))
        (pss_one (ps_for PassesOwn.never rfl (pi_list (pe_lst (pa_cons pe_int (pa_cons (pv 4) (pa_cons (pe_op op_mul (pv 4) (pe_op op_add pe_int (pe_call GP hrP (by rfl) D.gP D.FP.kp D.bP .nil pass0 (pa_cons (pv 1) (pa_cons (pv 3) pa_nil))))) (pa_cons (pe_op op_add (pe_op op_mul (pv 4) (pv 3)) pe_int) (pa_cons (pe_op op_add pe_int (pe_call GP hrP (by rfl) D.gP D.FP.kp D.bP .nil pass0 (pa_cons (pv 1) (pa_cons (pe_op op_mul (pv 4) (pv 3)) pa_nil)))) pa_nil))))))) (pg_name (i := 6) scLaw.nd rfl (.inr rfl))
          (pss_cons (ps_par (i := 7) (j := 8) rfl scLaw.nd rfl rfl (by decide) rfl rfl (pa_cons (pe_lst (pa_cons (pe_callTy call_tuple_of (by rfl) B.tuple (by decide +kernel) (pa_cons (pe_lc (own := [("one", 10)]) (g := gName 10) rfl scLaw.nd (pi_tup (pv 5)) (blkOk_by (own := [("one", 10)]) (N := ["script", "source", "lap", "most", "many", "row", "k", "due", "kept", "told", "one"]) (sc := defScope sLaw) (by decide +kernel)) (fun _ _ _ _ _ => (pg_name (i := 10) scLaw.nd rfl (.inl rfl))) (fun _ _ _ _ _ => pts_nil) (fun _ _ _ _ _ => (pe_callTy call_int1 (by rfl) B.int (by decide +kernel) (pa_cons (pe_cmpR op_ge (pv 10) (pv 6) (nomark _)) pa_nil)))) pa_nil)) (pa_cons (pe_call GLGaps hrLGaps (by rfl) D.gLGaps D.FLGaps.kp D.bLGaps .nil pass0 (pa_cons (pv 5) (pa_cons (pv 6) pa_nil))) pa_nil))) (pa_cons (pe_callB (call_reprD hg hu64) (by rfl) B.repr (by decide +kernel) (pa_cons (pv 5) pa_nil)) pa_nil)) (by rfl))
          (pss_cons (ps_set (i := 9) scLaw.nd rfl (.inl rfl) (pe_lst (pa_cons (pe_call GLayer hrLayer (by rfl) D.gLayer D.FLayer.kp D.bLayer .nil pass0 (pa_cons (pv 5) (pa_cons (pv 6) pa_nil))) (pa_cons (pe_call GGaps hrGaps (by rfl) D.gGaps D.FGaps.kp D.bGaps .nil pass0 (pa_cons (pv 5) (pa_cons (pv 6) pa_nil))) pa_nil))))
          (pss_cons (ps_if (PW.pt (pw_or (pt_cmpR op_ne (pe_callB (call_reprD hg hu64) (by rfl) B.repr (by decide +kernel) (pa_cons (pv 9) pa_nil)) (pe_callB (call_reprD hg hu64) (by rfl) B.repr (by decide +kernel) (pa_cons (pv 7) pa_nil)) (nomark _)) (pw_or1 (pt_cmpR op_ne (pe_callB (call_reprD hg hu64) (by rfl) B.repr (by decide +kernel) (pa_cons (pv 5) pa_nil)) (pv 8) (nomark _)))))
            (pss_one (ps_ret pe_bl))
            pss_nil)
          (pss_cons (ps_expr (pe_bm PySem.F.plainAttrs_list PySem.F.slot_list_append PySem.F.type_list_append mt_append (pe_ix (r := rIxL K) ix_list (pv 9) pe_int (fun _ _ => rfl)) (pa_cons pe_non pa_nil)))
          (pss_one (ps_if (pt_cmpR op_ne (pe_callB (call_reprD hg hu64) (by rfl) B.repr (by decide +kernel) (pa_cons (pe_lst (pa_cons (pe_call GLayer hrLayer (by rfl) D.gLayer D.FLayer.kp D.bLayer .nil pass0 (pa_cons (pv 5) (pa_cons (pv 6) pa_nil))) (pa_cons (pe_call GGaps hrGaps (by rfl) D.gGaps D.FGaps.kp D.bGaps .nil pass0 (pa_cons (pv 5) (pa_cons (pv 6) pa_nil))) pa_nil))) pa_nil)) (pe_callB (call_reprD hg hu64) (by rfl) B.repr (by decide +kernel) (pa_cons (pv 7) pa_nil)) (nomark _))
            (pss_one (ps_ret pe_bl))
            pss_nil)))))))))))
      (pss_cons (ps_set (i := 5) scLaw.nd rfl (.inr rfl) (pe_tup (pa_cons pe_int (pa_cons pe_int (pa_cons pe_int (pa_cons pe_int (pa_cons pe_int (pa_cons pe_int pa_nil))))))))
      (pss_cons (ps_set (i := 9) scLaw.nd rfl (.inl rfl) (pe_op op_cat (pe_lc (own := [("k", 6)]) (g := gName 6) rfl scLaw.nd (pi_list (pe_lst (pa_cons pe_int (pa_cons pe_int (pa_cons pe_int pa_nil))))) (blkOk_by (own := [("k", 6)]) (N := ["script", "source", "lap", "most", "many", "row", "k", "due", "kept", "told", "one"]) (sc := defScope sLaw) (by decide +kernel)) (fun _ _ _ _ _ => (pg_name (i := 6) scLaw.nd rfl (.inl rfl))) (fun _ _ _ _ _ => pts_nil) (fun _ _ _ _ _ => (pe_call GLayer hrLayer (by rfl) D.gLayer D.FLayer.kp D.bLayer .nil pass0 (pa_cons (pv 5) (pa_cons (pv 6) pa_nil))))) (pe_lc (own := [("k", 6)]) (g := gName 6) rfl scLaw.nd (pi_list (pe_lst (pa_cons pe_int (pa_cons pe_int (pa_cons pe_int (pa_cons pe_int pa_nil)))))) (blkOk_by (own := [("k", 6)]) (N := ["script", "source", "lap", "most", "many", "row", "k", "due", "kept", "told", "one"]) (sc := defScope sLaw) (by decide +kernel)) (fun _ _ _ _ _ => (pg_name (i := 6) scLaw.nd rfl (.inl rfl))) (fun _ _ _ _ _ => pts_nil) (fun _ _ _ _ _ => (pe_call GGaps hrGaps (by rfl) D.gGaps D.FGaps.kp D.bGaps .nil pass0 (pa_cons (pv 5) (pa_cons (pv 6) pa_nil)))))))
      (pss_cons (ps_set (i := 7) scLaw.nd rfl (.inl rfl) (pe_lst (pa_cons (pe_tup (pa_cons pe_int (pa_cons pe_int (pa_cons pe_int (pa_cons pe_int (pa_cons pe_int (pa_cons pe_int pa_nil))))))) (pa_cons (pe_tup (pa_cons pe_int (pa_cons pe_int (pa_cons pe_int (pa_cons pe_int (pa_cons pe_int (pa_cons pe_int pa_nil))))))) (pa_cons (pe_tup (pa_cons pe_int (pa_cons pe_int (pa_cons pe_int (pa_cons pe_int (pa_cons pe_int (pa_cons pe_int pa_nil))))))) (pa_cons (pe_lst (pa_cons (pe_tup (pa_cons pe_int (pa_cons pe_int pa_nil))) pa_nil)) (pa_cons (pe_lst (pa_cons (pe_tup (pa_cons pe_int (pa_cons pe_int pa_nil))) (pa_cons (pe_tup (pa_cons pe_int (pa_cons pe_int pa_nil))) pa_nil))) (pa_cons (pe_lst pa_nil) (pa_cons (pe_lst pa_nil) pa_nil)))))))))
      (pss_one (ps_ret (pe_and (pe_cmpR (op_eqD hu64) (pv 9) (pv 7) (nomark _)) (pe_one (pe_cmpR (op_eqD hu64) (pe_lst (pa_cons (pe_call GGaps hrGaps (by rfl) D.gGaps D.FGaps.kp D.bGaps .nil pass0 (pa_cons (pe_tup (pa_cons pe_int (pa_cons pe_int (pa_cons pe_int (pa_cons pe_int pa_nil))))) (pa_cons pe_int pa_nil))) (pa_cons (pe_call GGaps hrGaps (by rfl) D.gGaps D.FGaps.kp D.bGaps .nil pass0 (pa_cons (pe_tup (pa_cons pe_int (pa_cons pe_int pa_nil))) (pa_cons pe_int pa_nil))) (pa_cons (pe_call GGaps hrGaps (by rfl) D.gGaps D.FGaps.kp D.bGaps .nil pass0 (pa_cons (pe_tup pa_nil) (pa_cons pe_int pa_nil))) (pa_cons (pe_call GLayer hrLayer (by rfl) D.gLayer D.FLayer.kp D.bLayer .nil pass0 (pa_cons (pe_tup pa_nil) (pa_cons pe_int pa_nil))) pa_nil))))) (pe_lst (pa_cons (pe_lst pa_nil) (pa_cons (pe_lst pa_nil) (pa_cons (pe_lst pa_nil) (pa_cons (pe_tup pa_nil) pa_nil))))) (nomark _))))))))))), ?_⟩
  walk_at "rd"
  refine ⟨_, _, rfl, hS, hlen, fun H1 p c S1 s1 np nc => ?_⟩
  walk_at "rd"
  refine ⟨by decide, by decide, for_range (lo := 0) (n := 8) (fun i σ G => ∃ x2 x3 x4 x5 x6 x7 x8 x9 x10, σ = [some (.ref a), some (.ref p), x2, x3, x4, x5, x6, x7, x8, x9, x10] ∧ Src G p c) ⟨none, none, none, none, none, none, none, none, none, rfl, S1⟩ (fun i σ G hi h => ?_) (fun σ G h => ?_)⟩
  · obtain ⟨x2, x3, x4, x5, x6, x7, x8, x9, x10, rfl, S⟩ := h
    walk_at "rd"
    -- most
    refine ⟨by show 4 ≤ sizeLine; decide, fun l1 nl1 => ?_⟩
    generalize eH : upd _ _ _ = G1
    obtain ⟨g1, e1⟩ := new_of eH nl1
    walk_at "rd"
    refine ⟨p, c, l1, _, rfl, S.same g1, fun G' o => .inl (.inl (.inl (o _ _ (S.ne_p nl1) (S.ne_c nl1) e1))), by simp, by show 4 ≤ 100000; decide, fun G2 x hx S2 o2 => ?_⟩
    obtain ⟨most, rfl, m1, m2⟩ : ∃ z, x = .int z ∧ 1 ≤ z ∧ z ≤ 9 := by
      simp only [List.mem_cons, List.not_mem_nil, or_false] at hx
      rcases hx with rfl | rfl | rfl | rfl <;> exact ⟨_, rfl, by omega, by omega⟩
    -- many
    walk_at "rd"
    refine ⟨⟨by decide, by decide, by decide⟩, ?_⟩
    refine ⟨by show 4 ≤ sizeLine; decide, fun l2 nl2 => ?_⟩
    generalize eH : upd _ _ _ = G3
    obtain ⟨g3, e3⟩ := new_of eH nl2
    walk_at "rd"
    refine ⟨p, c, l2, _, rfl, S2.same g3, fun G' o => .inl (.inl (.inl (o _ _ (S2.ne_p nl2) (S2.ne_c nl2) e3))), by simp, by show 4 ≤ 100000; decide, fun G4 x hx S4 o4 => ?_⟩
    obtain ⟨many, rfl, n1, n2⟩ : ∃ z, x = .int z ∧ 1 ≤ z ∧ z ≤ 100000000 := by
      simp only [List.mem_cons, List.not_mem_nil, or_false] at hx
      rcases hx with rfl | rfl | rfl | rfl
      · exact ⟨_, rfl, by omega, by omega⟩
      · exact ⟨_, rfl, by omega, by omega⟩
      · exact ⟨_, rfl, by omega, by omega⟩
      · exact ⟨_, rfl, by decide, by decide⟩
    have nb : many * most ≤ 100000000 * 9 := Int.mul_le_mul n2 m2 (by omega) (by omega)
    have nb0 : 0 ≤ many * most := Int.mul_nonneg (by omega) (by omega)
    refine ⟨by show 2 ≤ sizeLine; decide, fun l3 nl3 => ?_⟩
    generalize eH : upd _ _ _ = G5
    obtain ⟨g5, e5⟩ := new_of eH nl3
    refine ⟨_, _, rfl, .inl (.inl e5), rfl, _, _, rfl, _, _, rfl, rfl, ?_⟩
    have S5 := S4.same g5
    -- row
    walk_at "rd"
    refine ⟨p, c, 30, rfl, S5, by decide, fun G6 r S6 o6 r0 r1 => ?_⟩
    obtain ⟨rn, rfl⟩ := Int.eq_ofNat_of_zero_le r0
    walk_at "rd"
    refine ⟨p, c, 1 + rn, most, by rw [Int.natCast_add]; rfl, S6, by omega, by omega, by omega, fun G7 t ms S7 o7 e7 nt7 hml hmb => ?_⟩
    walk_at "rd"
    refine ⟨⟨_, .inl (.inl e7)⟩, fun D nD => lc_tup (K := K) (a := t) (xs := ms.map V.int) (fun i J => Same G7 J ∧ J D = some (.lst (((ms.take i).map (many * ·)).map V.int))) ?_ (fun i J _ h => .inl (.inl (h.1 _ _ e7))) (fun i x J hx h => ?_) (fun J h => ?_)⟩
    · exact ⟨same_new nD, upd_same⟩
    · obtain ⟨z, hz, rfl⟩ := int_at hx
      refine yesT rfl ?_
      walk_at "rd"
      refine ⟨mull (by omega), _, h.2, ?_, fun b o e => ?_, ?_⟩
      · rw [List.length_map, List.length_map, List.length_take]
        exact many_small (by omega)
      · rw [upd_ne (ne_of_none e nD)]
        exact h.1 _ _ e
      · rw [upd_same, take_snoc hz, List.map_append]
        rfl
    · obtain ⟨s8, e8⟩ := h
      rw [List.length_map, List.take_length] at e8
      refine ⟨_, _, rfl, .inl ⟨.inl (.inl e8), fun rw1 nrw => ?_⟩⟩
      generalize eH : upd _ _ _ = G9
      obtain ⟨s9, e9⟩ := new_of eH nrw
      have S9 := (S7.same s8).same s9
      generalize hrow : ms.map (many * ·) = rs at e9
      have rl : rs.length ≤ 30 := by
        rw [← hrow, List.length_map, hml]
        omega
      have rb : ∀ z ∈ rs, z.natAbs < 10 ^ 150 := by
        rw [← hrow]
        intro z hz
        obtain ⟨y, hy, rfl⟩ := List.mem_map.mp hz
        have yb := hmb y hy
        have zb : many * y ≤ 100000000 * 9 := Int.mul_le_mul n2 (by omega) (by omega) (by omega)
        have zb0 : 0 ≤ many * y := Int.mul_nonneg (by omega) (by omega)
        have e : (100000000 * 9 : Nat) < 10 ^ 150 := by decide +kernel
        show (many * y).natAbs < _
        omega
      clear hrow
      -- the numbers k
      walk_at "rd"
      refine ⟨p, c, most, rfl, S9, by omega, fun G10 r2 S10 o10 r20 r21 => ?_⟩
      walk_at "rd"
      refine ⟨mull (by omega), ?_⟩
      walk_at "rd"
      refine ⟨mull (by omega), ?_⟩
      walk_at "rd"
      refine ⟨mull (by omega), ?_⟩
      refine ⟨p, c, _, rfl, S10, by omega, fun G11 r3 S11 o11 r30 r31 => ?_⟩
      walk_at "rd"
      refine ⟨by show 5 ≤ sizeLine; decide, fun kl nkl => ?_⟩
      generalize eH : upd _ _ _ = G12
      obtain ⟨s12, e12⟩ := new_of eH nkl
      have S12 := S11.same s12
      have e9 := s12 _ _ (o11.tup S10 (o10.tup S9 e9))
      walk_at "rd"
      obtain ⟨L, e12, hL⟩ : ∃ L : List V, G12 kl = some (.lst L) ∧ ∀ x ∈ L, ∃ k, x = .int k := by
        refine ⟨_, e12, fun x hm => ?_⟩
        simp only [List.mem_cons, List.not_mem_nil, or_false] at hm
        rcases hm with rfl | rfl | rfl | rfl | rfl <;> exact ⟨_, rfl⟩
      refine ⟨⟨_, .inl (.inl e12)⟩, for_list (K := K) (a := kl) (xs := L) (Pv := fun i σ J => ∃ y2 y3 y4 y6 y7 y8 y9 y10, σ = [some (.ref a), some (.ref p), y2, y3, y4, some (.ref rw1), y6, y7, y8, y9, y10] ∧ Same G12 J) ⟨_, _, _, _, _, _, _, _, rfl, Same.refl _⟩ (fun i σ J _ h => ?_) (fun i x σ J hx h => ?_) (fun σ J h => ?_)⟩
      · obtain ⟨y2, y3, y4, y6, y7, y8, y9, y10, rfl, sj⟩ := h
        exact .inl (.inl (sj _ _ e12))
      · obtain ⟨y2, y3, y4, y6, y7, y8, y9, y10, rfl, sj⟩ := h
        obtain ⟨k, rfl⟩ := hL x (List.mem_of_getElem? hx)
        have er := sj _ _ e9
        clear hx
        walk_at "rd"
        -- due, kept
        refine ⟨⟨_, .inl (.inl er)⟩, fun D1 nD1 => lc_tup (K := K) (a := rw1) (xs := rs.map V.int) (fun i M => Same J M ∧ M D1 = some (.lst ((layerL (rs.take i) k).map V.int))) ?_ (fun i M _ h => .inl (.inl (h.1 _ _ er))) (fun i x M hx h => ?_) (fun M h => ?_)⟩
        · exact ⟨same_new nD1, upd_same⟩
        · obtain ⟨z, hz, rfl⟩ := int_at hx
          refine yesT rfl ?_
          walk_at "rd"
          refine .inr ⟨_, rfl, _, h.2, ?_, fun b o e => ?_, ?_⟩
          · rw [List.length_map, layerL, List.length_map, List.length_take]
            exact many_small (by omega)
          · rw [upd_ne (ne_of_none e nD1)]
            exact h.1 _ _ e
          · rw [upd_same]
            unfold layerL
            rw [take_snoc hz, List.map_append]
            have e : (if decide (k ≤ z) = true then (1 : Int) else 0) = if k ≤ z then 1 else 0 := by
              by_cases q : k ≤ z
              · rw [if_pos q, decide_eq_true q]; rfl
              · rw [if_neg q, decide_eq_false q]; rfl
            rw [e]
            rfl
        · obtain ⟨j1, f1⟩ := h
          rw [List.length_map, List.take_length] at f1
          refine ⟨_, _, rfl, .inl ⟨.inl (.inl f1), fun u1 nu1 => ?_⟩⟩
          generalize eH : upd _ _ _ = M2
          obtain ⟨j2, f2⟩ := new_of eH nu1
          have j12 := j1.trans j2
          walk_at "rd"
          refine ⟨_, _, _, rfl, j12 _ _ er, by omega, fun M3 q1 w1 j3 nq1 f3 dw1 => ?_⟩
          walk_at "rd"
          refine ⟨by show 2 ≤ sizeLine; decide, fun dl ndl => ?_⟩
          generalize eH : upd _ _ _ = M4
          obtain ⟨j4, f4⟩ := new_of eH ndl
          have dD : Dp K M4 (.ref dl) (lgD rs k) := lg_dp f4 ((j3.trans j4) _ _ f2) (j4 _ _ f3) (dp_sameAll j4 _ _ dw1)
          have j14 := (j12.trans j3).trans j4
          walk_at "rd"
          refine ⟨_, _, rfl, row_dp (j14 _ _ er), shows_row rb (by omega), ?_⟩
          walk_at "rd"
          -- told
          refine ⟨_, _, _, rfl, j14 _ _ er, by omega, fun M5 u2 j5 nu2 f5 => ?_⟩
          walk_at "rd"
          refine ⟨_, _, _, rfl, j5 _ _ (j14 _ _ er), by omega, fun M6 q2 w2 j6 nq2 f6 dw2 => ?_⟩
          walk_at "rd"
          refine ⟨by show 2 ≤ sizeLine; decide, fun tl ntl => ?_⟩
          generalize eH : upd _ _ _ = M7
          obtain ⟨j7, f7⟩ := new_of eH ntl
          have j57 := (j5.trans j6).trans j7
          have tD : Dp K M7 (.ref tl) (lgD rs k) := lg_dp f7 ((j6.trans j7) _ _ f5) (j7 _ _ f6) (dp_sameAll j7 _ _ dw2)
          walk_at "rd"
          refine ⟨_, _, rfl, tD, lg_shows (by omega), ?_⟩
          walk_at "rd"
          refine ⟨_, _, rfl, dp_same j57 _ _ dD, lg_shows (by omega), ?_⟩
          refine ⟨rfl, ?_⟩
          walk_at "rd"
          rw [show (!decide (V.str (lgD rs k).shown = V.str (lgD rs k).shown)) = false by simp]
          refine iteF ?_
          have j17 := j14.trans j57
          walk_at "rd"
          refine ⟨_, _, rfl, row_dp (j17 _ _ er), shows_row rb (by omega), ?_⟩
          walk_at "rd"
          refine ⟨rfl, ?_⟩
          walk_at "rd"
          refine iteNS rfl ?_
          -- told[1].append(None)
          walk_at "rd"
          refine ⟨_, _, _, _, rfl, rfl, .inl (.inl f7), atI_nat (j := 1) rfl, ?_⟩
          have k2 := j7 _ _ f6
          refine ⟨.inl ⟨rfl, _, .inl (.inl k2)⟩, ?_⟩
          refine ⟨_, _, _, rfl, rfl, k2, ?_, ?_⟩
          · rw [dp_len dw2, List.length_map]
            exact many_small (Nat.le_trans gapsL_len (by omega))
          have nq2' : M4 q2 = none := j5.free nq2
          generalize eH : upd _ _ _ = M8
          have j48 : Same M4 M8 := by
            rw [← eH]
            intro b o e
            rw [upd_ne (ne_of_none e nq2')]
            exact j57 _ _ e
          walk_at "rd"
          refine ⟨_, _, _, rfl, j48 _ _ (j14 _ _ er), by omega, fun M9 u3 j9 nu3 f9 => ?_⟩
          walk_at "rd"
          refine ⟨_, _, _, rfl, j9 _ _ (j48 _ _ (j14 _ _ er)), by omega, fun M10 q3 w3 j10 nq3 f10 dw3 => ?_⟩
          walk_at "rd"
          refine ⟨by show 2 ≤ sizeLine; decide, fun vl nvl => ?_⟩
          generalize eH : upd _ _ _ = M11
          obtain ⟨j11, f11⟩ := new_of eH nvl
          have vD : Dp K M11 (.ref vl) (lgD rs k) := lg_dp f11 ((j10.trans j11) _ _ f9) (j11 _ _ f10) (dp_sameAll j11 _ _ dw3)
          have j811 := (j9.trans j10).trans j11
          refine ⟨_, _, rfl, vD, lg_shows (by omega), ?_⟩
          walk_at "rd"
          refine ⟨_, _, rfl, dp_same (j48.trans j811) _ _ dD, lg_shows (by omega), ?_⟩
          refine ⟨rfl, ?_⟩
          walk_at "rd"
          refine iteNS rfl ?_
          exact ⟨_, _, _, _, _, _, _, _, rfl, sj.trans ((j14.trans j48).trans j811)⟩
      · obtain ⟨y2, y3, y4, y6, y7, y8, y9, y10, rfl, sj⟩ := h
        exact ⟨_, _, _, _, _, _, _, _, _, rfl, S12.same sj⟩
  · obtain ⟨x2, x3, x4, x5, x6, x7, x8, x9, x10, rfl, S⟩ := h
    walk_at "rd"
    refine ⟨by show 6 ≤ sizeLine; decide, fun t0 nt0 => ?_⟩
    generalize eH : upd _ _ _ = M1
    obtain ⟨j1, f1⟩ := new_of eH nt0
    walk_at "rd"
    refine ⟨by show 3 ≤ sizeLine; decide, fun l1 nl1 => ?_⟩
    generalize eH : upd _ _ _ = M2
    obtain ⟨j2, f2⟩ := new_of eH nl1
    have er : M2 t0 = some (.tup (([2, 0, 0, 3, 1, 2] : List Int).map V.int)) := j2 _ _ f1
    refine ⟨_, rfl, ⟨_, .inl (.inl f2)⟩, fun D1 nD1 => lc_list (K := K) (a := l1) (xs := ([1, 2, 3] : List Int).map V.int)
      (fun i J => Same M2 J ∧ ∃ ws, J D1 = some (.lst ws) ∧ DpAll K (era J D1) ws ((([1, 2, 3] : List Int).take i).map fun k => .tuple (intsD (layerL [2, 0, 0, 3, 1, 2] k))))
      ?_ (fun i J _ h => .inl (.inl (h.1 _ _ f2))) (fun i x J hx h => ?_) (fun J h => ?_)⟩
    · exact ⟨same_new nD1, [], upd_same, .nil⟩
    · obtain ⟨k, hk, rfl⟩ := int_at hx
      obtain ⟨sj, ws, hw, dw⟩ := h
      refine yesT rfl ?_
      walk_at "rd"
      refine ⟨_, _, _, rfl, sj _ _ er, by decide, fun J2 u j2 nu fu => ?_⟩
      have hw2 := j2 _ _ hw
      refine ⟨_, hw2, ?_, fun b o e => ?_, _, upd_same, ?_⟩
      · rw [dp_len dw, List.length_map, List.length_take]
        exact many_small (by simp only [List.length_cons, List.length_nil]; omega)
      · rw [upd_ne (ne_of_none e nD1)]
        exact j2 _ _ (sj _ _ e)
      · rw [era_upd, take_snoc hk]
        exact dp_snoc (dp_sameAll (era_mono j2) _ _ dw) (row_dp ((era_ne (ne_of_none hw nu).symm).trans fu))
    · obtain ⟨sj, ws, hw, dw⟩ := h
      have dw := dp_sameAll (era_same _ _) _ _ dw
      walk_at "rd"
      refine ⟨by show 4 ≤ sizeLine; decide, fun l2 nl2 => ?_⟩
      generalize eH : upd _ _ _ = M3
      obtain ⟨j3, f3⟩ := new_of eH nl2
      have er := j3 _ _ (sj _ _ er)
      have hw := j3 _ _ hw
      have dw := dp_sameAll j3 _ _ dw
      refine ⟨_, rfl, ⟨_, .inl (.inl f3)⟩, fun D2 nD2 => lc_list (K := K) (a := l2) (xs := ([1, 2, 3, 4] : List Int).map V.int)
        (fun i J => Same M3 J ∧ ∃ vs, J D2 = some (.lst vs) ∧ DpAll K (era J D2) vs ((([1, 2, 3, 4] : List Int).take i).map fun k => .list ((gapsL [2, 0, 0, 3, 1, 2] k).map prD)))
        ?_ (fun i J _ h => .inl (.inl (h.1 _ _ f3))) (fun i x J hx h => ?_) (fun J h => ?_)⟩
      · exact ⟨same_new nD2, [], upd_same, .nil⟩
      · obtain ⟨k, hk, rfl⟩ := int_at hx
        obtain ⟨sj, vs, hv, dv⟩ := h
        refine yesT rfl ?_
        walk_at "rd"
        refine ⟨_, _, _, rfl, sj _ _ er, by decide, fun J2 u qs j2 nu fu du => ?_⟩
        have hv2 := j2 _ _ hv
        refine ⟨_, hv2, ?_, fun b o e => ?_, _, upd_same, ?_⟩
        · rw [dp_len dv, List.length_map, List.length_take]
          exact many_small (by simp only [List.length_cons, List.length_nil]; omega)
        · rw [upd_ne (ne_of_none e nD2)]
          exact j2 _ _ (sj _ _ e)
        · rw [era_upd, take_snoc hk]
          exact dp_snoc (dp_sameAll (era_mono j2) _ _ dv) (.lst (.inl (.inl ((era_ne (ne_of_none hv nu).symm).trans fu))) (dp_pairs_era du hv2))
      · obtain ⟨s4, vs, hv, dv⟩ := h
        have dv := dp_sameAll (era_same _ _) _ _ dv
        have hw := s4 _ _ hw
        have dw := dp_sameAll s4 _ _ dw
        refine ⟨_, _, _, _, rfl, rfl, hw, hv, ?_, fun tl ntl => ?_⟩
        · rw [dp_len dw, dp_len dv]
          show 3 + 4 ≤ sizeLine
          decide
        generalize eH : upd _ _ _ = M5
        obtain ⟨s5, f5⟩ := new_of eH ntl
        have dT : Dp K M5 (.ref tl) (.list (_ ++ _)) := .lst (.inl (.inl f5)) (dp_app (dp_sameAll s5 _ _ dw) (dp_sameAll s5 _ _ dv))
        walk_at "rd"
        refine ⟨by show 6 ≤ sizeLine; decide, fun a1 na1 => ?_⟩
        generalize eH : upd _ _ _ = Ha1
        obtain ⟨sa1, fa1⟩ := new_of eH na1
        walk_at "rd"
        refine ⟨by show 6 ≤ sizeLine; decide, fun a2 na2 => ?_⟩
        generalize eH : upd _ _ _ = Ha2
        obtain ⟨sa2, fa2⟩ := new_of eH na2
        walk_at "rd"
        refine ⟨by show 6 ≤ sizeLine; decide, fun a3 na3 => ?_⟩
        generalize eH : upd _ _ _ = Ha3
        obtain ⟨sa3, fa3⟩ := new_of eH na3
        walk_at "rd"
        refine ⟨by show 2 ≤ sizeLine; decide, fun b1 nb1 => ?_⟩
        generalize eH : upd _ _ _ = Hb1
        obtain ⟨sb1, fb1⟩ := new_of eH nb1
        walk_at "rd"
        refine ⟨by show 1 ≤ sizeLine; decide, fun b2 nb2 => ?_⟩
        generalize eH : upd _ _ _ = Hb2
        obtain ⟨sb2, fb2⟩ := new_of eH nb2
        walk_at "rd"
        refine ⟨by show 2 ≤ sizeLine; decide, fun c1 nc1 => ?_⟩
        generalize eH : upd _ _ _ = Hc1
        obtain ⟨sc1, fc1⟩ := new_of eH nc1
        walk_at "rd"
        refine ⟨by show 2 ≤ sizeLine; decide, fun c2 nc2 => ?_⟩
        generalize eH : upd _ _ _ = Hc2
        obtain ⟨sc2, fc2⟩ := new_of eH nc2
        walk_at "rd"
        refine ⟨by show 2 ≤ sizeLine; decide, fun c3 nc3 => ?_⟩
        generalize eH : upd _ _ _ = Hc3
        obtain ⟨sc3, fc3⟩ := new_of eH nc3
        walk_at "rd"
        refine ⟨by show 0 ≤ sizeLine; decide, fun d1 nd1 => ?_⟩
        generalize eH : upd _ _ _ = Hd1
        obtain ⟨sd1, fd1⟩ := new_of eH nd1
        walk_at "rd"
        refine ⟨by show 0 ≤ sizeLine; decide, fun e1 ne1 => ?_⟩
        generalize eH : upd _ _ _ = He1
        obtain ⟨se1, fe1⟩ := new_of eH ne1
        walk_at "rd"
        refine ⟨by show 7 ≤ sizeLine; decide, fun z1 nz1 => ?_⟩
        generalize eH : upd _ _ _ = Hz1
        obtain ⟨sz1, fz1⟩ := new_of eH nz1
        walk_at "rd"
        have all : Same M5 Hz1 := ((((((((((sa1.trans sa2).trans sa3).trans sb1).trans sb2).trans sc1).trans sc2).trans sc3).trans sd1).trans se1).trans sz1)
        have pa1 := (((((((((sa2.trans sa3).trans sb1).trans sb2).trans sc1).trans sc2).trans sc3).trans sd1).trans se1).trans sz1) _ _ fa1
        have pa2 := ((((((((sa3.trans sb1).trans sb2).trans sc1).trans sc2).trans sc3).trans sd1).trans se1).trans sz1) _ _ fa2
        have pa3 := (((((((sb1.trans sb2).trans sc1).trans sc2).trans sc3).trans sd1).trans se1).trans sz1) _ _ fa3
        have pb1 := ((((((sb2.trans sc1).trans sc2).trans sc3).trans sd1).trans se1).trans sz1) _ _ fb1
        have pb2 := (((((sc1.trans sc2).trans sc3).trans sd1).trans se1).trans sz1) _ _ fb2
        have pc1 := ((((sc2.trans sc3).trans sd1).trans se1).trans sz1) _ _ fc1
        have pc2 := (((sc3.trans sd1).trans se1).trans sz1) _ _ fc2
        have pc3 := ((sd1.trans se1).trans sz1) _ _ fc3
        have pd1 := (se1.trans sz1) _ _ fd1
        have pe1 := sz1 _ _ fe1
        have dU : Dp K Hz1 (.ref z1) (.list [.tuple (intsD [1, 0, 0, 1, 1, 1]), .tuple (intsD [1, 0, 0, 1, 0, 1]), .tuple (intsD [0, 0, 0, 1, 0, 0]), .list [prD (1, 2)], .list [prD (1, 2), prD (4, 1)], .list [], .list []]) :=
          .lst (.inl (.inl fz1)) (.cons (row_dp pa1) (.cons (row_dp pa2) (.cons (row_dp pa3)
            (.cons (.lst (.inl (.inl pb2)) (.cons (.tup (.inl (.inl pb1)) (.cons (.int _) (.cons (.int _) .nil))) .nil))
            (.cons (.lst (.inl (.inl pc3)) (.cons (.tup (.inl (.inl pc1)) (.cons (.int _) (.cons (.int _) .nil))) (.cons (.tup (.inl (.inl pc2)) (.cons (.int _) (.cons (.int _) .nil))) .nil)))
            (.cons (.lst (.inl (.inl pd1)) .nil) (.cons (.lst (.inl (.inl pe1)) .nil) .nil)))))))
        refine ⟨_, _, dp_same all _ _ dT, dU, by decide +kernel, by decide +kernel, _, rfl, ?_⟩
        rw [if_pos (by decide +kernel)]
        walk_at "rd"
        refine ⟨by show 4 ≤ sizeLine; decide, fun t1 nt1 => ?_⟩
        generalize eH : upd _ _ _ = N1
        obtain ⟨n1, g1⟩ := new_of eH nt1
        walk_at "rd"
        refine ⟨_, _, [0, 0, 1, 0], rfl, g1, by decide, fun N2 r1 ws1 n2 nr1 h1 d1 => ?_⟩
        walk_at "rd"
        refine ⟨by show 2 ≤ sizeLine; decide, fun t2 nt2 => ?_⟩
        generalize eH : upd _ _ _ = N3
        obtain ⟨n3, g3⟩ := new_of eH nt2
        walk_at "rd"
        refine ⟨_, _, [1, 1], rfl, g3, by decide, fun N4 r2 ws2 n4 nr2 h2 d2 => ?_⟩
        walk_at "rd"
        refine ⟨by show 0 ≤ sizeLine; decide, fun t3 nt3 => ?_⟩
        generalize eH : upd _ _ _ = N5
        obtain ⟨n5, g5⟩ := new_of eH nt3
        walk_at "rd"
        refine ⟨_, _, [], rfl, g5, by decide, fun N6 r3 ws3 n6 nr3 h3 d3 => ?_⟩
        walk_at "rd"
        refine ⟨by show 0 ≤ sizeLine; decide, fun t4 nt4 => ?_⟩
        generalize eH : upd _ _ _ = N7
        obtain ⟨n7, g7⟩ := new_of eH nt4
        walk_at "rd"
        refine ⟨_, _, [], rfl, g7, by decide, fun N8 r4 n8 nr4 h4 => ?_⟩
        walk_at "rd"
        refine ⟨by show 4 ≤ sizeLine; decide, fun y1 ny1 => ?_⟩
        generalize eH : upd _ _ _ = N9
        obtain ⟨n9, g9⟩ := new_of eH ny1
        have d1 := dp_sameAll (((((((n3.trans n4).trans n5).trans n6).trans n7).trans n8).trans n9)) _ _ d1
        have h1 := (((((((n3.trans n4).trans n5).trans n6).trans n7).trans n8).trans n9)) _ _ h1
        have d2 := dp_sameAll (((((n5.trans n6).trans n7).trans n8).trans n9)) _ _ d2
        have h2 := (((((n5.trans n6).trans n7).trans n8).trans n9)) _ _ h2
        have d3 := dp_sameAll (((n7.trans n8).trans n9)) _ _ d3
        have h3 := (((n7.trans n8).trans n9)) _ _ h3
        have h4 := n9 _ _ h4
        have dL : Dp K N9 (.ref y1) (.list [.list _, .list _, .list _, .tuple _]) := .lst (.inl (.inl g9)) (.cons (.lst (.inl (.inl h1)) d1) (.cons (.lst (.inl (.inl h2)) d2) (.cons (.lst (.inl (.inl h3)) d3) (.cons (row_dp h4) .nil))))
        walk_at "rd"
        refine ⟨by show 0 ≤ sizeLine; decide, fun z2 nz2 => ?_⟩
        generalize eH : upd _ _ _ = O1
        obtain ⟨o1, k1⟩ := new_of eH nz2
        refine ⟨by show 0 ≤ sizeLine; decide, fun z3 nz3 => ?_⟩
        generalize eH : upd _ _ _ = O2
        obtain ⟨o2, k2⟩ := new_of eH nz3
        refine ⟨by show 0 ≤ sizeLine; decide, fun z4 nz4 => ?_⟩
        generalize eH : upd _ _ _ = O3
        obtain ⟨o3, k3⟩ := new_of eH nz4
        refine ⟨by show 0 ≤ sizeLine; decide, fun z5 nz5 => ?_⟩
        generalize eH : upd _ _ _ = O4
        obtain ⟨o4, k4⟩ := new_of eH nz5
        refine ⟨by show 4 ≤ sizeLine; decide, fun z6 nz6 => ?_⟩
        generalize eH : upd _ _ _ = O5
        obtain ⟨o5, k5⟩ := new_of eH nz6
        have oo : Same N9 O5 := (((o1.trans o2).trans o3).trans o4).trans o5
        have k1 := ((((o2.trans o3).trans o4).trans o5)) _ _ k1
        have k2 := (((o3.trans o4).trans o5)) _ _ k2
        have k3 := ((o4.trans o5)) _ _ k3
        have k4 := o5 _ _ k4
        have dR : Dp K O5 (.ref z6) (.list [.list [], .list [], .list [], .tuple []]) := .lst (.inl (.inl k5)) (.cons (.lst (.inl (.inl k1)) .nil) (.cons (.lst (.inl (.inl k2)) .nil) (.cons (.lst (.inl (.inl k3)) .nil) (.cons (.tup (.inl (.inl k4)) .nil) .nil))))
        refine ⟨_, _, dp_same oo _ _ dL, dR, by decide +kernel, by decide +kernel, ?_⟩
        have ev : PyData.eqv (.list [.list ((gapsL [0, 0, 1, 0] 1).map prD), .list ((gapsL [1, 1] 1).map prD), .list ((gapsL [] 1).map prD), .tuple (intsD (layerL [] 1))]) (.list [.list [], .list [], .list [], .tuple []]) = true := by decide +kernel
        rw [ev]
        exact q _
end
end K21
set_option Elab.async false
set_option linter.all false
set_option maxRecDepth 100000
namespace K21
open PySem PySem.Spec PyProof.Rows L2 WK
theorem all_mk {l : PySem.W.OpenLaw} {w : World} {K : PySem.W.Frag} {h : Heap} {mg : Str → Option Value} {fa fS fP fO fDr fLa fGa fLg fLw : Addr} (X : K.In h) (G : h.Ns mainGlobals mg) (hfa : mg "law" = some (.ref fa))
    {odS anS odP anP odO anO odDr anDr odLa anLa odGa anGa odLg anLg odLw anLw : Option Addr} {slS slP slO slDr slLa slGa slLg slLw : Array (Option Value)} {ocS kVS dcS pmS cdS ctS ocP kVP dcP pmP cdP ctP ocO kVO dcO pmO cdO ctO ocDr kVDr dcDr pmDr cdDr ctDr ocLa kVLa dcLa pmLa cdLa ctLa ocGa kVGa dcGa pmGa cdGa ctGa ocLg kVLg dcLg pmLg cdLg ctLg ocLw kVLw dcLw pmLw cdLw ctLw : Value}
    (aS : PySem.W.nsIn K mainGlobals "_law_source" = some (some (.ref fS))) (lS : K.lookup fS = some ⟨ocS, odS, .func (PySem.W.fnOf "_law_source" "_law_source" (defArgs sSource) (defBody sSource) (defScope sSource) .none kVS dcS pmS anS cdS ctS), slS⟩)
      (cS : PySem.W.codeIn K cdS "_law_source" = true) (kS : PySem.W.keepIn K (.ref fS) = true)
    (aP : PySem.W.nsIn K mainGlobals "_law_pick" = some (some (.ref fP))) (lP : K.lookup fP = some ⟨ocP, odP, .func (PySem.W.fnOf "_law_pick" "_law_pick" (defArgs sPick) (defBody sPick) (defScope sPick) .none kVP dcP pmP anP cdP ctP), slP⟩)
      (cP : PySem.W.codeIn K cdP "_law_pick" = true) (kP : PySem.W.keepIn K (.ref fP) = true)
    (aO : PySem.W.nsIn K mainGlobals "_law_of" = some (some (.ref fO))) (lO : K.lookup fO = some ⟨ocO, odO, .func (PySem.W.fnOf "_law_of" "_law_of" (defArgs sOf) (defBody sOf) (defScope sOf) .none kVO dcO pmO anO cdO ctO), slO⟩)
      (cO : PySem.W.codeIn K cdO "_law_of" = true) (kO : PySem.W.keepIn K (.ref fO) = true)
    (aDr : PySem.W.nsIn K mainGlobals "_law_draw_needs" = some (some (.ref fDr))) (lDr : K.lookup fDr = some ⟨ocDr, odDr, .func (PySem.W.fnOf "_law_draw_needs" "_law_draw_needs" (defArgs sDraw) (defBody sDraw) (defScope sDraw) .none kVDr dcDr pmDr anDr cdDr ctDr), slDr⟩)
      (cDr : PySem.W.codeIn K cdDr "_law_draw_needs" = true) (kDr : PySem.W.keepIn K (.ref fDr) = true)
    (aLa : PySem.W.nsIn K mainGlobals "layer" = some (some (.ref fLa))) (lLa : K.lookup fLa = some ⟨ocLa, odLa, .func (PySem.W.fnOf "layer" "layer" (defArgs sLayer) (defBody sLayer) (defScope sLayer) .none kVLa dcLa pmLa anLa cdLa ctLa), slLa⟩)
      (cLa : PySem.W.codeIn K cdLa "layer" = true) (kLa : PySem.W.keepIn K (.ref fLa) = true)
    (aGa : PySem.W.nsIn K mainGlobals "gaps" = some (some (.ref fGa))) (lGa : K.lookup fGa = some ⟨ocGa, odGa, .func (PySem.W.fnOf "gaps" "gaps" (defArgs sGaps) (defBody sGaps) (defScope sGaps) .none kVGa dcGa pmGa anGa cdGa ctGa), slGa⟩)
      (cGa : PySem.W.codeIn K cdGa "gaps" = true) (kGa : PySem.W.keepIn K (.ref fGa) = true)
    (aLg : PySem.W.nsIn K mainGlobals "_law_gaps" = some (some (.ref fLg))) (lLg : K.lookup fLg = some ⟨ocLg, odLg, .func (PySem.W.fnOf "_law_gaps" "_law_gaps" (defArgs sLGaps) (defBody sLGaps) (defScope sLGaps) .none kVLg dcLg pmLg anLg cdLg ctLg), slLg⟩)
      (cLg : PySem.W.codeIn K cdLg "_law_gaps" = true) (kLg : PySem.W.keepIn K (.ref fLg) = true)
    (aLw : PySem.W.nsIn K mainGlobals "law" = some (some (.ref fLw))) (lLw : K.lookup fLw = some ⟨ocLw, odLw, .func (PySem.W.fnOf "law" "law" (defArgs sLaw) (defBody sLaw) (defScope sLaw) .none kVLw dcLw pmLw anLw cdLw ctLw), slLw⟩)
      (cLw : PySem.W.codeIn K cdLw "law" = true) (kLw : PySem.W.keepIn K (.ref fLw) = true)
    (zint : PySem.W.nsIn K mainGlobals "int" = some none)
    (zabs : PySem.W.nsIn K mainGlobals "abs" = some none)
    (zlen : PySem.W.nsIn K mainGlobals "len" = some none)
    (zmax : PySem.W.nsIn K mainGlobals "max" = some none)
    (zmin : PySem.W.nsIn K mainGlobals "min" = some none)
    (ztuple : PySem.W.nsIn K mainGlobals "tuple" = some none)
    (zrange : PySem.W.nsIn K mainGlobals "range" = some none)
    (zzip : PySem.W.nsIn K mainGlobals "zip" = some none)
    (zenumerate : PySem.W.nsIn K mainGlobals "enumerate" = some none)
    (zrepr : PySem.W.nsIn K mainGlobals "repr" = some none)
    : ∃ fd : FuncData, (∀ (s : Shared) (v : Value), BindsTo s fd ⟨[v], []⟩ [("script", v)]) ∧ ∀ base : Heap, K.In base → base.Ns mainGlobals mg → FnG l.prog w K mg base 4 fa fd ["script"] (spLaw K) := by
  have e := hfa.symm.trans (PySem.W.mg_of X G aLw)
  cases e
  have FS := fun_mk (st := sSource) lS cS kS
  have FP := fun_mk (st := sPick) lP cP kP
  have FO := fun_mk (st := sOf) lO cO kO
  have FDr := fun_mk (st := sDraw) lDr cDr kDr
  have FLa := fun_mk (st := sLayer) lLa cLa kLa
  have FGa := fun_mk (st := sGaps) lGa cGa kGa
  have FLg := fun_mk (st := sLGaps) lLg cLg kLg
  have FLw := fun_mk (st := sLaw) lLw cLw kLw
  have bS := FS.binds (ps := ["script"]) fun _ _ _ _ _ _ us hl => match us, hl with | [_], _ => rfl
  have gS := PySem.W.mg_of X G aS
  have bP := FP.binds (ps := ["source", "many"]) fun _ _ _ _ _ _ us hl => match us, hl with | [_, _], _ => rfl
  have gP := PySem.W.mg_of X G aP
  have bO := FO.binds (ps := ["source", "some"]) fun _ _ _ _ _ _ us hl => match us, hl with | [_, _], _ => rfl
  have gO := PySem.W.mg_of X G aO
  have bDr := FDr.binds (ps := ["source", "ticks", "most"]) fun _ _ _ _ _ _ us hl => match us, hl with | [_, _, _], _ => rfl
  have gDr := PySem.W.mg_of X G aDr
  have bLa := FLa.binds (ps := ["row", "k"]) fun _ _ _ _ _ _ us hl => match us, hl with | [_, _], _ => rfl
  have gLa := PySem.W.mg_of X G aLa
  have bGa := FGa.binds (ps := ["row", "k"]) fun _ _ _ _ _ _ us hl => match us, hl with | [_, _], _ => rfl
  have gGa := PySem.W.mg_of X G aGa
  have bLg := FLg.binds (ps := ["needs", "k"]) fun _ _ _ _ _ _ us hl => match us, hl with | [_, _], _ => rfl
  have gLg := PySem.W.mg_of X G aLg
  have B : Blt mg := { int := PySem.W.mg_none_of X G zint, abs := PySem.W.mg_none_of X G zabs, len := PySem.W.mg_none_of X G zlen, max := PySem.W.mg_none_of X G zmax, min := PySem.W.mg_none_of X G zmin, tuple := PySem.W.mg_none_of X G ztuple, range := PySem.W.mg_none_of X G zrange, zip := PySem.W.mg_none_of X G zzip, enumerate := PySem.W.mg_none_of X G zenumerate, repr := PySem.W.mg_none_of X G zrepr }
  have D : Txt K mg fS fP fO fDr fLa fGa fLg _ _ _ _ _ _ _ := { FP := FP, bP := bP, gP := gP, FO := FO, bO := bO, gO := gO, FS := FS, bS := bS, gS := gS, FDraw := FDr, bDraw := bDr, gDraw := gDr, FLayer := FLa, bLayer := bLa, gLayer := gLa, FGaps := FGa, bGaps := bGa, gGaps := gGa, FLGaps := FLg, bLGaps := bLg, gLGaps := gLg }
  exact ⟨PySem.W.fnOf "law" "law" (defArgs sLaw) (defBody sLaw) (defScope sLaw) .none kVLw dcLw pmLw anLw cdLw ctLw, fun s v => .of_eq rfl, fun base _ _ => ok_law FLw D B⟩
end K21
open PySem PySem.W PyProof.Rows
set_option maxRecDepth 100000 in
set_option maxHeartbeats 0 in
theorem PySem.Challenge.cw_wakedenough_k21_layers_and_gaps_holds : PySem.Challenge.rw_wakedenough_k21_layers_and_gaps.Holds := by
  w_on; o_law; k_head; (case hw => w_witness2)
  k_fill
  refine WK.walk_ofG (l := PySem.Challenge.rw_wakedenough_k21_layers_and_gaps) (n := 63) (k := 4) (x := "script") (sp := fun w => K21.spLaw _) rfl (by decide) rfl ⟨rfl, by decide, by decide⟩ (fun w h Y => PySem.W.kIn_of Y) ?F (fun _ _ a ns hl _ hS => ⟨a, ns, rfl, hS, hl, fun _ => rfl⟩)
  case F =>
    intro w mg fa h KX G hmg
    refine' K21.all_mk KX G hmg ?aS ?lS ?cS ?kS ?aP ?lP ?cP ?kP ?aO ?lO ?cO ?kO ?aDr ?lDr ?cDr ?kDr ?aLa ?lLa ?cLa ?kLa ?aGa ?lGa ?cGa ?kGa ?aLg ?lLg ?cLg ?kLg ?aLw ?lLw ?cLw ?kLw ?zint ?zabs ?zlen ?zmax ?zmin ?ztuple ?zrange ?zzip ?zenumerate ?zrepr
    (case aS => k_is); (case lS => k_is); (case cS => k_is); (case kS => k_is); (case aP => k_is); (case lP => k_is); (case cP => k_is); (case kP => k_is); (case aO => k_is); (case lO => k_is); (case cO => k_is); (case kO => k_is); (case aDr => k_is); (case lDr => k_is); (case cDr => k_is); (case kDr => k_is); (case aLa => k_is); (case lLa => k_is); (case cLa => k_is); (case kLa => k_is); (case aGa => k_is); (case lGa => k_is); (case cGa => k_is); (case kGa => k_is); (case aLg => k_is); (case lLg => k_is); (case cLg => k_is); (case kLg => k_is); (case aLw => k_is); (case lLw => k_is); (case cLw => k_is); (case kLw => k_is); (case zint => k_is); (case zabs => k_is); (case zlen => k_is); (case zmax => k_is); (case zmin => k_is); (case ztuple => k_is); (case zrange => k_is); (case zzip => k_is); (case zenumerate => k_is); (case zrepr => k_is)
