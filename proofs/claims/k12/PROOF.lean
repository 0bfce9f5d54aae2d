import PyProof.Rows.All
import Wide.All
import OpenK.AllK
import Wide.FinOn
import PyProof.ReprRoads
import PyProof.ReprLen
import KE.GoesMore
import HandS.Base
import HandS.Call
import HandS.List
import HandS.Comp
import HandS.Ends
import HandS.Dict
import HandS.Iter
import HandS.Text
import HandS.Words
import HandS.WordsList
import HandS.WordsDict
import HandS.Walk
import HandS.Style
import HandS.Zip
import HandS.TupAny
import HandS.SortInts
import HandS.Wide
import HandS.Star
import KE.GoesZip
import HandS.Zip0
import PySem.Challenge.RW_wakedenough_k12_costs_of_rows
set_option Elab.async false
set_option linter.all false
set_option maxRecDepth 100000
namespace WK
open PySem PySem.Spec PyProof.Rows L2

/-! ### a def that may ask for repr: what is printed around the call is known to be nothing -/
abbrev NoE : XK := fun _ _ _ => False
structure FnG (P : Program) (w : World) (K : PySem.W.Frag) (mg : Str → Option Value) (base : Heap) (k : Nat) (f : Addr) (fd : FuncData) (ps : List Str) (sp : Sp) : Prop where
  go : ∀ (A : Around) (outer : List Env) (s : Shared) (H : Hp) (args : Args) (us : List Value) (vs : List V) (Q : VK),
    A.guards = some [] → Room k A → Env0 P w K mg base A outer s H →
    BindsTo s fd args (ps.zip us) → Vals vs us → vs.length = ps.length → sp vs H Q NoE →
    codeAny (model P w) A (.call (.ref f) args) (CR CX0 outer P w H s Q NoE) s

theorem guards_deeper {A : Around} {env : Env} (h : A.guards = some []) : (A.deeper env).guards = some [] := h

section
variable {P : Program} {w : World} {K : PySem.W.Frag} {mg : Str → Option Value} {base : Heap}
theorem okG {x qual : Str} {st : Stmt} {f : Addr} {fd : FuncData} {N ps : List Str} {k : Nat} {sp : Sp}
    (F : Fun K x qual st f fd) (S : FnScope N ps (defScope st))
    (bd : ∀ (cdv : Value) (A : Around) (outer : List Env) (s : Shared) (H : Hp) (vs : List V) (Q : VK),
      Room k (A.deeper (envOfC qual (defScope st) s.heap.objs.size f cdv)) → A.guards = some [] → sp vs H Q NoE →
      ∃ t, PSs (cxOf CX0 P w K mg base N qual (defScope st) f cdv A outer s H NoE).nox (defBody st) t ∧
        t { nx := fun _ G => Q .non G, rt := Q } (start N vs) H) :
    FnG P w K mg base (k + 1) f fd ps sp := by
  obtain ⟨oc, od, kV, doc, pm, an, cdv, ct, osl, rfl, lk, hcd⟩ := F.ex
  constructor
  intro A outer s H args us vs Q gd room env bind rel hl hsp
  have inK : K.In s.heap := env.mod.kin.keeps (fun b o e => (env.bs b o e).1)
  have noLim : s.heap.NoLimit := env.mod.nolimit.keeps (fun b o e => (env.bs b o e).1)
  have kinds : ∀ y ∈ ps.zip us,
      (defScope st).names.lookup y.1 = some .local ∨
      ((defScope st).names.lookup y.1 = some .cell ∧
        ((cellsFrom (s.heap.objs.size + 1) (defScope st).names []).lookup y.1).isSome = true) := by
    rintro ⟨n, v⟩ hy
    cases S.par n (List.of_mem_zip hy).1 with
    | inl q => exact Or.inl q
    | inr q => exact Or.inr ⟨q, PySem.W.cellsFrom_some _ _ _ (Or.inl q)⟩
  refine codeAny_call_function room.depth
    (inK _ _ lk) rfl S.co S.gen rfl
    (PySem.W.codeRec_of inK hcd) (bind _ _ _ _ ?_)
  refine wpAny_newFunctionEnv_cells S.kind kinds ?_
  intro e1 he s1 ic
  subst he
  refine ⟨noLim.keeps ic.toInCall.keep, ?_⟩
  apply codeAny_func
  obtain ⟨t, ht, hq⟩ := bd cdv A outer s H vs Q (room.deeper _) gd hsp
  have I0 := inv_start (CX := CX0) (P := P) (w := w) (K := K) (mg := mg) (base := base) (E := NoE) S room.hd env hl rel ic
  refine wpAny_mono (ht.nox.run [] s1 (start N vs) H _ I0 hq) ?_ (fun _ _ z => z)
  intro fl s2 hs
  cases fl with
  | brk => obtain ⟨_, _, _, q⟩ := hs; exact q.elim
  | cont => obtain ⟨_, _, _, q⟩ := hs; exact q.elim
  | ret u =>
    obtain ⟨v, σ', H', J, rv, q⟩ := hs
    exact ⟨v, H', J.os, J.bare, J.base, J.hok, rv, q⟩
  | next =>
    obtain ⟨σ', H', J, q⟩ := hs
    exact ⟨V.non, H', J.os, J.bare, J.base, J.hok, rfl, q⟩
end
end WK
set_option Elab.async false
set_option linter.all false
set_option maxRecDepth 100000
namespace WK
open PySem PySem.Spec PyProof.Rows L2

/-! ### repr of data -/
mutual
theorem dp_nodict {K : PySem.W.Frag} {H : Hp} : ∀ (d : PyData) (v : V), Dp K H v d → d.hasDict = false
  | .none, _, _ => rfl
  | .bool _, _, _ => rfl
  | .int _, _, _ => rfl
  | .str _, _, _ => rfl
  | .list ds, _, h => by
    cases h with
    | lst _ q => simpa only [PyData.hasDict] using dp_nodictAll ds _ q
  | .tuple ds, _, h => by
    cases h with
    | tup _ q => simpa only [PyData.hasDict] using dp_nodictAll ds _ q
  | .dict _, _, h => by cases h
theorem dp_nodictAll {K : PySem.W.Frag} {H : Hp} : ∀ (ds : List PyData) (vs : List V), DpAll K H vs ds → PyData.hasDictAll ds = false
  | [], _, _ => rfl
  | d :: ds, _, h => by
    cases h with
    | cons a b => simp only [PyData.hasDictAll, dp_nodict d _ a, dp_nodictAll ds _ b, Bool.or_self]
end

/-- data that repr shows in room -/
structure Shows (d : PyData) : Prop where
  ok : d.showable = true
  dep : d.depth ≤ 20
  len : d.shown.length ≤ sizeLine

def rRepr (K : PySem.W.Frag) : List V → Hp → VK → Prop := fun xs H Q => ∃ (a : Addr) (d : PyData), xs = [.ref a] ∧ Dp K H (.ref a) d ∧ Shows d ∧ Q (.str d.shown) H
theorem call_reprD {X : Cx} (hg : X.A.guards = some []) (hu : X.A.units + 64 < cLine) : CallR X (.builtin "repr") (rRepr X.K) := by
  rintro pins s σ H xs us Q I r ⟨a, d, rfl, hd, sh, q⟩
  obtain ⟨u, rfl, ru⟩ := vals1 r
  cases ru
  obtain ⟨as, r1⟩ := Dp.reads I d _ _ hd rfl
  have hdep := sh.dep
  exact repr_of_reads' r1 sh.ok (PyData.noDict_hsm (dp_nodict d _ hd)) hg (by omega) (fun _ _ e => e)
    (fun h' u tk hk => ⟨.str d.shown, H, I.kept hk, ⟨u, rfl⟩, q⟩) sh.len

/-! ### the law's call, where nothing is printed around it -/
theorem law_callG {P : Program} {w : World} {K : PySem.W.Frag} {mg mb : Str → Option Value} {k : Nat} {fa a : Addr} {fd : FuncData} {x : Str} {sp : Sp} {s₁ : Shared} {vs : List Value} {ns : List Int}
    (KX : K.In s₁.heap) (hns : s₁.heap.Ns mainGlobals mg) (hb : s₁.heap.Ns builtinsNs mb) (hbb : ∀ x : Str, x ≠ "__name__" → mb x = bootBuiltins x) (hlim : s₁.heap.NoLimit) (hg : s₁.gens = #[])
    (ha : s₁.heap.get? a = some { cls := .type "list", data := .seq vs.toArray }) (hi : IntsAre vs ns) (hl : ns.length ≤ sizeLine) (hr : Room k callerA)
    (F : ∀ base : Heap, K.In base → base.Ns mainGlobals mg → FnG P w K mg base k fa fd [x] sp)
    (hbind : ∀ (s : Shared) (u : Value), BindsTo s fd ⟨[u], []⟩ [(x, u)])
    (hsp : ∀ H : Hp, Only H → SqL K H a (ns.map V.int) → sp [.ref a] H (fun v _ => v = .bl true) NoE) :
    codeAny (model P w) callerA (.call (.ref fa) ⟨[.ref a], []⟩)
      (fun r s' => r = .ok (.ret (.bool true)) ∧ OldK s₁.heap s'.heap ∧ s'.os = s₁.os ∧ AllBare s'.gens) s₁ := by
  have main : ∀ H : Hp, Only H → SqL K H a (ns.map V.int) → HOk P w H s₁.heap →
      (∀ b, H b ≠ none → b = a) → (H a ≠ none → K.lookup a = none) →
      codeAny (model P w) callerA (.call (.ref fa) ⟨[.ref a], []⟩)
        (fun r s' => r = .ok (.ret (.bool true)) ∧ OldK s₁.heap s'.heap ∧ s'.os = s₁.os ∧ AllBare s'.gens) s₁ := by
    intro H only seq hok justA notK
    have isA : ∀ {b : Addr} {u : HO}, H b = some u → b = a := by
      intro b u q
      exact justA b (by simp [q])
    have hid : ∀ {b : Addr} {o : Obj}, s₁.heap.get? b = some o → H b = none → (hidT s₁.heap H).get? b = some o :=
      fun e n => hidT_get e n
    have dictFree : ∀ {b : Addr} {o : Obj} {es : Array DictEntry} {ep : Nat}, s₁.heap.get? b = some o → o.data = .dict es ep → H b = none := by
      intro b o es ep e d
      match q : H b with
      | none => rfl
      | some u =>
        have := isA q
        subst this
        rw [ha] at e
        injection e with e
        subst e
        exact nomatch d
    have spaces : ∀ {b : Addr} {m : Str → Option Value}, s₁.heap.Ns b m → (hidT s₁.heap H).Ns b m := by
      rintro b m ⟨o, es, ep, e, d, rest⟩
      exact ⟨o, es, ep, hid e (dictFree e d), d, rest⟩
    have inK : K.In (hidT s₁.heap H) := by
      intro b o e
      refine hid (KX b o e) ?_
      match q : H b with
      | none => rfl
      | some u =>
        have := isA q
        subst this
        have z := notK (by simp [q])
        rw [e] at z
        exact nomatch z
    have md : Mod K mg (hidT s₁.heap H) := by
      obtain ⟨mc, l1, l2⟩ := hlim
      exact ⟨inK, spaces hns, ⟨mb, spaces hb, hbb⟩, ⟨mc, spaces l1, l2⟩⟩
    have none0 : ∀ b : Addr, ¬ b ∈ ([] : List Addr) := fun b z => nomatch z
    have env : Env0 P w K mg (hidT s₁.heap H) callerA [] s₁ H :=
      { frames := rfl, mod := md, bs := fun b o e => of_hidT e, bsz := Nat.le_of_eq (hidT_size _ _), funs := trivial,
        frf := fun b z => absurd z (none0 b), hok := hok, bare := .of_eq hg }
    have run := (F _ inK (spaces hns)).go callerA [] s₁ H ⟨[.ref a], []⟩ [.ref a] [.ref a] (fun v _ => v = .bl true) rfl hr env
      (hbind s₁ (.ref a)) (.cons rfl .nil) rfl (hsp H only seq)
    refine codeAny_mono run ?_
    intro r s' h
    match r, h with
    | .error e, h => exact False.elim h
    | .ok .next, h => exact False.elim h
    | .ok .brk, h => exact False.elim h
    | .ok .cont, h => exact False.elim h
    | .ok (.ret u), h =>
      obtain ⟨v, H', os, bare, un, hok', rel, ev⟩ := h
      have ev : v = .bl true := ev
      subst ev
      have eu : u = Value.bool true := rel
      subst eu
      refine ⟨rfl, OldK.of_keep ?_, os, bare⟩
      intro b o e
      match q : H b with
      | none => exact un.keep b o e q (none0 b) (none0 b)
      | some v =>
        cases only b with
        | inl z => rw [q] at z; exact nomatch z
        | inr z =>
          obtain ⟨ob, xs, z⟩ := z
          have here := (hok b _ z).1
          have there := (hok' b _ (un.frzs b ob _ z)).1
          rw [e] at here
          injection here with here
          subst here
          exact there
  have rel := vals_ints hi
  match hk : K.lookup a with
  | some o =>
    have e := KX a o hk
    rw [ha] at e
    injection e with e
    subst e
    refine main (fun _ => none) (fun _ => Or.inl rfl) (Or.inr ⟨_, vs.toArray, _, hk, rfl, rfl, rfl, ?_, ?_⟩) ?_ (fun b z => absurd rfl z) (fun z => absurd rfl z)
    · rw [List.size_toArray, hi.length]; exact hl
    · simpa using rel
    · intro b u z; exact nomatch z
  | none =>
    let H0 : Hp := fun b => if b = a then some (.frz { cls := .type "list", data := .seq vs.toArray } (.lst (ns.map V.int))) else none
    have atA : H0 a = some (.frz { cls := .type "list", data := .seq vs.toArray } (.lst (ns.map V.int))) := if_pos rfl
    have off : ∀ b, b ≠ a → H0 b = none := fun b n => if_neg n
    refine main H0 ?_ (Or.inl (Or.inr ⟨_, atA⟩)) ?_ ?_ (fun _ => hk)
    · intro b
      by_cases e : b = a
      · subst e; exact Or.inr ⟨_, _, atA⟩
      · exact Or.inl (off b e)
    · intro b u z
      by_cases e : b = a
      · subst e
        rw [atA] at z
        injection z with z
        subst z
        exact ⟨ha, by rw [List.length_map]; exact hl, vs, _, rel, ha⟩
      · rw [off b e] at z; exact nomatch z
    · intro b z
      by_cases e : b = a
      · exact e
      · exact absurd (off b e) z

theorem walk_ofG {l : PySem.W.OpenLaw} {n k : Nat} {q : Program} {loose : List Str} {XP : (Str → Option Value) → Heap → Prop} {YP : World → Heap → Prop} {d : DefRec} {K : Params → PySem.W.Frag} {sp : World → Sp} {x : Str}
    (hn : l.most = some n) (hn2 : n ≤ sizeLine) (hdf : d.params.defaults = []) (hr : Room k callerA)
    (hY : ∀ (w : World) (h : Heap), YP w h → (K w.params).In h)
    (F : ∀ (w : World) (mg : Str → Option Value) (fa : Addr) (h : Heap), (K w.params).In h → h.Ns mainGlobals mg → mg d.name = some (.ref fa) →
      ∃ fd : FuncData, (∀ (s : Shared) (u : Value), BindsTo s fd ⟨[u], []⟩ [(x, u)]) ∧
        ∀ base : Heap, (K w.params).In base → base.Ns mainGlobals mg → FnG l.prog w (K w.params) mg base k fa fd [x] (sp w))
    (hsp : ∀ (w : World) (H : Hp) (a : Addr) (ns : List Int), ns.length ≤ n → Only H → SqL (K w.params) H a (ns.map V.int) → sp w [.ref a] H (fun v _ => v = .bl true) NoE) :
    PySem.W.WalkO q loose XP YP l.row.toRowW d [] (fun f vs => PySem.call f vs) := by
  apply Att.attach_call hn hdf
  intro w s₀ s₁ mg mb fa o pm cd doc a vs ns G Y ho hd hcd hmg hobj hints hlen hg
  obtain ⟨fd, hb, hF⟩ := F w mg fa _ (hY w _ Y) G.T.g hmg
  exact law_callG (hY w _ Y) G.T.g G.T.b G.T.builtins G.T.nolimit hg hobj hints (Nat.le_trans hlen hn2) hr hF hb
    (fun H hO hS => hsp w H a ns hlen hO hS)
end WK
set_option Elab.async false
set_option linter.all false
set_option maxRecDepth 100000
namespace WK
open PySem PySem.Spec PyProof.Rows L2

/-! ### heaps that go on -/
/-- all but p and c stays -/
def Off (p c : Addr) (H H' : Hp) : Prop := ∀ b o, b ≠ p → b ≠ c → H b = some o → H' b = some o
theorem Off.refl (p c : Addr) (H : Hp) : Off p c H H := fun _ _ _ _ h => h
theorem Off.trans {p c : Addr} {H H1 H2 : Hp} (a : Off p c H H1) (b : Off p c H1 H2) : Off p c H H2 := fun x o h1 h2 e => b x o h1 h2 (a x o h1 h2 e)
theorem Same.off {p c : Addr} {H H' : Hp} (a : Same H H') : Off p c H H' := fun b o _ _ e => a b o e
theorem same_new {H : Hp} {p : Addr} {o : HO} (h : H p = none) : Same H (upd H p o) := fun b x e => by
  rw [upd_ne (ne_of_none e h)]
  exact e
/-- a new object stands at p: go on with any heap that holds all that was, and it -/
theorem fresh {H : Hp} {p : Addr} {o : HO} {G : Hp → Prop} (np : H p = none) (k : ∀ H1, Same H H1 → H1 p = some o → G H1) : G (upd H p o) := k _ (same_new np) upd_same
theorem Off.at_p {p c : Addr} {H : Hp} {o : HO} : Off p c H (upd H p o) := fun b x h1 _ e => by
  rw [upd_ne h1]
  exact e
theorem Off.at_c {p c : Addr} {H : Hp} {o : HO} : Off p c H (upd H c o) := fun b x _ h2 e => by
  rw [upd_ne h2]
  exact e

/-! ### the source of draws -/
def srcK (c : Addr) (l m t : Int) : List (Key × V) := [(.inr "cells", .ref c), (.inr "left", .int l), (.inr "mixed", .int m), (.inr "turn", .int t)]
theorem k12 : ¬ (("cells" : Str) = "left") := by decide +kernel
theorem k13 : ¬ (("cells" : Str) = "mixed") := by decide +kernel
theorem k14 : ¬ (("cells" : Str) = "turn") := by decide +kernel
theorem k23 : ¬ (("left" : Str) = "mixed") := by decide +kernel
theorem k24 : ¬ (("left" : Str) = "turn") := by decide +kernel
theorem k34 : ¬ (("mixed" : Str) = "turn") := by decide +kernel
theorem kne {a b : Str} (h : ¬ a = b) : ¬ ((.inr a : Key) = .inr b) := fun e => h (Sum.inr.inj e)
section
variable {c : Addr} {l m t x : Int}
theorem src_cells : valV (srcK c l m t) (.inr "cells") = some (.ref c) := valV_pos rfl
theorem src_left : valV (srcK c l m t) (.inr "left") = some (.int l) := (valV_neg (kne k12)).trans (valV_pos rfl)
theorem src_mixed : valV (srcK c l m t) (.inr "mixed") = some (.int m) := (valV_neg (kne k13)).trans ((valV_neg (kne k23)).trans (valV_pos rfl))
theorem src_turn : valV (srcK c l m t) (.inr "turn") = some (.int t) := (valV_neg (kne k14)).trans ((valV_neg (kne k24)).trans ((valV_neg (kne k34)).trans (valV_pos rfl)))
theorem put_left : putK (srcK c l m t) (.inr "left") (.int x) = srcK c x m t := by
  simp [putK, srcK, k12, k13, k14, k23, k24, k34, Ne.symm k23, Ne.symm k24, Ne.symm k34]
theorem put_mixed : putK (srcK c l m t) (.inr "mixed") (.int x) = srcK c l x t := by
  simp [putK, srcK, k12, k13, k14, k23, k24, k34, Ne.symm k23, Ne.symm k24, Ne.symm k34]
theorem put_turn : putK (srcK c l m t) (.inr "turn") (.int x) = srcK c l m x := by
  simp [putK, srcK, k12, k13, k14, k23, k24, k34, Ne.symm k23, Ne.symm k24, Ne.symm k34]
end
/-- the source at p, its cells at c -/
structure Src (H : Hp) (p c : Addr) : Prop where
  ex : ∃ (cells : List Int) (l m t : Int), H p = some (.dK (srcK c l m t)) ∧ H c = some (.lst (cells.map V.int))
theorem Src.ne {H : Hp} {p c : Addr} (S : Src H p c) : p ≠ c := by
  obtain ⟨_, _, _, _, a, b⟩ := S.ex
  exact ne_of a b (by intro z; cases z)
theorem Src.same {H H' : Hp} {p c : Addr} (S : Src H p c) (s : Same H H') : Src H' p c := by
  obtain ⟨cells, l, m, t, a, b⟩ := S.ex
  exact ⟨cells, l, m, t, s _ _ a, s _ _ b⟩
theorem Src.ne_p {H : Hp} {p c a : Addr} (S : Src H p c) (n : H a = none) : a ≠ p := by
  obtain ⟨_, _, _, _, q, _⟩ := S.ex
  exact (ne_of_none q n).symm
theorem Src.ne_c {H : Hp} {p c a : Addr} (S : Src H p c) (n : H a = none) : a ≠ c := by
  obtain ⟨_, _, _, _, _, q⟩ := S.ex
  exact (ne_of_none q n).symm
theorem Src.tup_ne {H : Hp} {p c a : Addr} {xs : List V} (S : Src H p c) (n : H a = some (.tup xs)) : a ≠ p ∧ a ≠ c := by
  obtain ⟨_, _, _, _, q1, q2⟩ := S.ex
  exact ⟨ne_of n q1 (by intro z; cases z), ne_of n q2 (by intro z; cases z)⟩
theorem Off.tup {H H' : Hp} {p c a : Addr} {xs : List V} (o : Off p c H H') (S : Src H p c) (n : H a = some (.tup xs)) : H' a = some (.tup xs) :=
  o a _ (S.tup_ne n).1 (S.tup_ne n).2 n

/-! ### what the helpers promise -/
def spSource (K : PySem.W.Frag) : Sp := fun vs H Q _ => ∃ (a : Addr) (ns : List Int), vs = [.ref a] ∧ SqL K H a (ns.map V.int) ∧ ns.length ≤ 63 ∧
  ∀ H' p c, Src H' p c → Same H H' → H p = none → H c = none → Q (.ref p) H'
def spPick : Sp := fun vs H Q _ => ∃ (p c : Addr) (many : Int), vs = [.ref p, .int many] ∧ Src H p c ∧ many < 1073741824 ∧
  ∀ H' r, Src H' p c → Off p c H H' → 0 ≤ r → (r < many ∨ r = 0) → Q (.int r) H'
def spOf (K : PySem.W.Frag) : Sp := fun vs H Q _ => ∃ (p c l : Addr) (xs : List V), vs = [.ref p, .ref l] ∧ Src H p c ∧ (∀ H', Off p c H H' → SqL K H' l xs ∨ SqT K H' l xs) ∧ xs ≠ [] ∧ xs.length ≤ 100000 ∧
  ∀ H' x, x ∈ xs → Src H' p c → Off p c H H' → Q x H'

/-! ### data and heaps -/
mutual
theorem dp_same {K : PySem.W.Frag} {H H' : Hp} (s : Same H H') : ∀ (d : PyData) (v : V), Dp K H v d → Dp K H' v d
  | .none, _, h => by cases h; exact .non
  | .bool _, _, h => by cases h; exact .bl _
  | .int _, _, h => by cases h; exact .int _
  | .str _, _, h => by cases h; exact .str _
  | .list ds, _, h => by
    cases h with
    | lst a q => exact .lst (s.seq a) (dp_sameAll s ds _ q)
  | .tuple ds, _, h => by
    cases h with
    | tup a q =>
      refine .tup ?_ (dp_sameAll s ds _ q)
      rcases a with (a | ⟨o, a⟩) | a
      · exact .inl (.inl (s _ _ a))
      · exact .inl (.inr ⟨o, s _ _ a⟩)
      · exact .inr a
  | .dict _, _, h => by cases h
theorem dp_sameAll {K : PySem.W.Frag} {H H' : Hp} (s : Same H H') : ∀ (ds : List PyData) (vs : List V), DpAll K H vs ds → DpAll K H' vs ds
  | [], _, h => by cases h; exact .nil
  | d :: ds, _, h => by
    cases h with
    | cons a b => exact .cons (dp_same s d _ a) (dp_sameAll s ds _ b)
end
theorem dp_ints {K : PySem.W.Frag} {H : Hp} : ∀ ns : List Int, DpAll K H (ns.map V.int) (ns.map PyData.int)
  | [] => .nil
  | n :: ns => .cons (.int n) (dp_ints ns)
theorem dp_snoc {K : PySem.W.Frag} {H : Hp} : ∀ {vs : List V} {ds : List PyData} {v : V} {d : PyData}, DpAll K H vs ds → Dp K H v d → DpAll K H (vs ++ [v]) (ds ++ [d])
  | _, _, _, _, .nil, h => .cons h .nil
  | _, _, _, _, .cons a b, h => .cons a (dp_snoc b h)
theorem dp_len {K : PySem.W.Frag} {H : Hp} : ∀ {vs : List V} {ds : List PyData}, DpAll K H vs ds → vs.length = ds.length
  | _, _, .nil => rfl
  | _, _, .cons _ b => congrArg (· + 1) (dp_len b)
/-! ### small things -/
theorem int_at {ns : List Int} {i : Nat} {x : V} (h : (ns.map V.int)[i]? = some x) : ∃ z, ns[i]? = some z ∧ x = .int z := by
  rw [List.getElem?_map] at h
  obtain ⟨z, e, r⟩ := Option.map_eq_some_iff.mp h
  exact ⟨z, e, r.symm⟩
theorem mulr {i j : Int} (h : -(2 ^ 64) < j ∧ j < 2 ^ 64) : CMul i j := .inr h
theorem mull {i j : Int} (h : -(2 ^ 64) < i ∧ i < 2 ^ 64) : CMul i j := .inl h
theorem new_of {H H2 : Hp} {p : Addr} {o : HO} (e : upd H p o = H2) (np : H p = none) : Same H H2 ∧ H2 p = some o := by
  subst e
  exact ⟨same_new np, upd_same⟩
theorem chg {H H2 : Hp} {p : Addr} {o : HO} (e : upd H p o = H2) : H2 p = some o ∧ ∀ b, b ≠ p → H2 b = H b := by
  subst e
  exact ⟨upd_same, fun b h => upd_ne h⟩
theorem small63 {n : Nat} (h : n ≤ 63) : n < sizeLine := Nat.lt_of_le_of_lt h (by decide)
theorem abs_eq (z : Int) : (if z < 0 then -z else z) = (z.natAbs : Int) := by split <;> omega
theorem take_snoc {α β : Type} {xs : List α} {i : Nat} {z : α} (h : xs[i]? = some z) (f : α → β) : ((xs.take (i + 1)).map f) = (xs.take i).map f ++ [f z] := by
  rw [List.take_add_one, h, List.map_append]
  rfl
theorem yesT {σ : L2.St} {H : Hp} {A B : Bool → Hp → Prop} {s t : L2.St} (e : s = t) (h : A true H) : s = t ∧ tYes σ H fun b G => if b = true then A b G else B b G := ⟨e, h⟩
theorem ifT {A B : Prop} {c : Bool} (e : c = true) (h : A) : if c = true then A else B := by
  subst e
  exact h
theorem while3 {c : TT} {tb : TS} {D : Ends} {σ : L2.St} {H : Hp} (Pv : Nat → L2.St → Hp → Prop) (n : Nat) (h0 : Pv n σ H) (after : ∀ m σ H, Pv m σ H → D.nx σ H)
    (turn : (∀ m σ H, Pv m σ H → D.nx σ H) → ∀ m σ H, Pv m σ H → c σ H fun b H1 => if b = true then
      ∃ N : L2.St → Hp → Prop, (∀ σ' H', N σ' H' → ∃ m', m' < m ∧ Pv m' σ' H') ∧ tb { D with nx := N, ct := N, bk := D.nx } σ H1 else D.nx σ H1) : tWhile c tb D σ H :=
  ⟨Pv, ⟨n, h0⟩, turn after⟩
theorem src_get {H : Hp} {p : Addr} {kvs : List (Key × V)} {x : Str} {v : V} (h : H p = some (.dK kvs)) (e : valV kvs (.inr x) = some v) : DGet H p (.str x) (some v) := .inl ⟨kvs, .inr x, .inl h, rfl, e.symm⟩
theorem src_put {H H' : Hp} {p : Addr} {kvs kvs' : List (Key × V)} {x : Str} {v : V} (h : H p = some (.dK kvs)) (l : kvs.length = 4) (e : putK kvs (.inr x) v = kvs') (hH : H' = upd H p (.dK kvs')) : DPut H p (.str x) v H' :=
  .inl ⟨kvs, .inr x, h, rfl, by rw [l]; decide, by rw [e]; exact hH⟩
theorem fmod_bounds {a b : Int} (h : 0 < b) : 0 ≤ a.fmod b ∧ a.fmod b < b := by
  rw [Int.fmod_eq_emod_of_nonneg a (by omega)]
  exact ⟨Int.emod_nonneg _ (by omega), Int.emod_lt_of_pos _ h⟩
end WK
set_option Elab.async false
set_option linter.all false
set_option maxRecDepth 100000
namespace WK
open PySem PySem.Spec PyProof.Rows L2

/-! ### data that repr shows, and how long that is -/
mutual
def Lil : PyData → Prop
  | .none => True
  | .bool _ => True
  | .int i => i.natAbs < 10 ^ 150
  | .str x => ∀ c ∈ x.cps.toList, c < 16 ^ 8
  | .list xs => LilAll xs
  | .tuple xs => LilAll xs
  | .dict _ => False
def LilAll : List PyData → Prop
  | [] => True
  | x :: xs => Lil x ∧ LilAll xs
end
mutual
def cost : PyData → Nat
  | .none => 5
  | .bool _ => 5
  | .int _ => 151
  | .str x => 10 * x.length + 4
  | .list xs => costAll xs + 3
  | .tuple xs => costAll xs + 3
  | .dict _ => 0
def costAll : List PyData → Nat
  | [] => 0
  | x :: xs => cost x + 2 + costAll xs
end
theorem lil_int {i : Int} (h : i.natAbs < 10 ^ 150) : i.natAbs.log2 < 1920 := by
  by_cases h0 : i.natAbs = 0
  · rw [h0]; decide
  · exact (Nat.log2_lt h0).mpr (Nat.lt_of_lt_of_le h (by decide +kernel))
theorem shown_int {i : Int} (h : i.natAbs < 10 ^ 150) : (PyData.shown (.int i)).length ≤ 151 := by
  have e : PyData.shown (.int i) = Str.ofString (toString i) := rfl
  rw [e, PySem.ofString_length]
  exact int_text_length_le10 (k := 150) (by decide) h
mutual
theorem lil_show : ∀ d : PyData, Lil d → d.showable = true ∧ d.shown.length ≤ cost d
  | .none, _ => ⟨rfl, by decide⟩
  | .bool b, _ => ⟨rfl, by cases b <;> decide⟩
  | .int i, h => ⟨by simpa only [PyData.showable, decide_eq_true_eq] using lil_int (by simpa only [Lil] using h), shown_int (by simpa only [Lil] using h)⟩
  | .str x, h => ⟨rfl, by
      have e := StrLaws.reprText_len x (by simpa only [Lil] using h)
      simp only [PyData.shown, cost]
      omega⟩
  | .list xs, h => by
    obtain ⟨a, b⟩ := lil_showAll xs (by simpa only [Lil] using h)
    have l := listText_len_le (PyData.shownAll xs)
    have n := PyData.shownAll_length xs
    refine ⟨by simpa only [PyData.showable] using a, ?_⟩
    simp only [PyData.shown, cost]
    omega
  | .tuple xs, h => by
    obtain ⟨a, b⟩ := lil_showAll xs (by simpa only [Lil] using h)
    have l := tupleText_len_le (PyData.shownAll xs)
    have n := PyData.shownAll_length xs
    refine ⟨by simpa only [PyData.showable] using a, ?_⟩
    simp only [PyData.shown, cost]
    omega
  | .dict _, h => by simp only [Lil] at h
theorem lil_showAll : ∀ xs : List PyData, LilAll xs → PyData.showableAll xs = true ∧ ((PyData.shownAll xs).map (·.length)).sum + 2 * xs.length ≤ costAll xs
  | [], _ => ⟨rfl, by simp [PyData.shownAll, costAll]⟩
  | x :: xs, h => by
    have h' : Lil x ∧ LilAll xs := by simpa only [LilAll] using h
    obtain ⟨a, b⟩ := lil_show x h'.1
    obtain ⟨c, d⟩ := lil_showAll xs h'.2
    refine ⟨by simp only [PyData.showableAll, a, c, Bool.and_self], ?_⟩
    simp only [PyData.shownAll, costAll, List.map_cons, List.sum_cons, List.length_cons]
    omega
end
theorem shows_of {d : PyData} (h : Lil d) (hd : d.depth ≤ 20) (hc : cost d ≤ sizeLine) : Shows d :=
  ⟨(lil_show d h).1, hd, Nat.le_trans (lil_show d h).2 hc⟩
theorem lilAll_iff : ∀ {xs : List PyData}, LilAll xs ↔ ∀ x ∈ xs, Lil x
  | [] => by simp [LilAll]
  | x :: xs => by simp [LilAll, lilAll_iff (xs := xs)]
theorem costAll_le {c : Nat} : ∀ {xs : List PyData}, (∀ x ∈ xs, cost x ≤ c) → costAll xs ≤ xs.length * (c + 2)
  | [], _ => by simp [costAll]
  | x :: xs, h => by
    have h1 := h x (List.mem_cons_self ..)
    have h2 := costAll_le (xs := xs) fun y hy => h y (List.mem_cons_of_mem _ hy)
    simp only [costAll, List.length_cons, Nat.add_mul]
    omega
theorem depthAll_le {c : Nat} : ∀ {xs : List PyData}, (∀ x ∈ xs, x.depth ≤ c) → PyData.depthAll xs ≤ c
  | [], _ => by simp [PyData.depthAll]
  | x :: xs, h => by
    have h1 := h x (List.mem_cons_self ..)
    have h2 := depthAll_le (xs := xs) fun y hy => h y (List.mem_cons_of_mem _ hy)
    simp only [PyData.depthAll]
    omega
theorem canLayAll_iff : ∀ {xs : List PyData}, PyData.canLayAll0 xs = true ↔ ∀ x ∈ xs, x.canLay0 = true
  | [] => by simp [PyData.canLayAll0]
  | x :: xs => by simp [PyData.canLayAll0, canLayAll_iff (xs := xs)]
/-- a row of ints as data -/
abbrev intsD (ns : List Int) : List PyData := ns.map PyData.int
theorem lil_ints {ns : List Int} (h : ∀ n ∈ ns, n.natAbs < 10 ^ 150) : LilAll (intsD ns) := by
  rw [lilAll_iff]
  intro x hx
  obtain ⟨n, hn, rfl⟩ := List.mem_map.mp hx
  simpa only [Lil] using h n hn
theorem cost_ints {ns : List Int} : costAll (intsD ns) ≤ ns.length * 153 := by
  have := costAll_le (c := 151) (xs := intsD ns) (fun x hx => by
    obtain ⟨n, hn, rfl⟩ := List.mem_map.mp hx
    simp only [cost]
    omega)
  rw [List.length_map] at this
  exact this
theorem depth_ints {ns : List Int} : PyData.depthAll (intsD ns) = 0 := by
  have := depthAll_le (c := 0) (xs := intsD ns) (fun x hx => by
    obtain ⟨n, hn, rfl⟩ := List.mem_map.mp hx
    simp only [PyData.depth]
    omega)
  omega
theorem lay_ints {ns : List Int} : PyData.canLayAll0 (intsD ns) = true := by
  rw [canLayAll_iff]
  intro x hx
  obtain ⟨n, hn, rfl⟩ := List.mem_map.mp hx
  rfl
theorem shaped_list_ints {ns : List Int} : SeqAt.shaped (.list (intsD ns)) = true := by
  simp only [SeqAt.shaped, PyData.canLay0, lay_ints, PyData.depth, depth_ints]
  decide
theorem shaped_tup_ints {ns : List Int} : SeqAt.shaped (.tuple (intsD ns)) = true := by
  simp only [SeqAt.shaped, PyData.canLay0, lay_ints, PyData.depth, depth_ints]
  decide
theorem eqv_nil {ns : List Int} : PyData.eqv (.list (intsD ns)) (.list []) = decide (ns = []) := by
  cases ns with
  | nil => simp [PyData.eqv, PyData.eqvAll]
  | cons n ns => simp [PyData.eqv, PyData.eqvAll]
theorem nul_ints {K : PySem.W.Frag} {H : Hp} {a : Addr} {ns : List Int} (h : H a = some (.lst (ns.map V.int))) : Dp K H (.ref a) (.list (intsD ns)) := .lst (.inl (.inl h)) (dp_ints ns)

/-! ### slices -/
theorem cut_take {xs : List V} {k : Nat} : cutV xs none (some (k : Int)) = xs.take k := by
  unfold cutV
  rw [HT.sIx_nat, HT.sIx_none, List.drop_zero, Nat.sub_zero, List.take_eq_take_iff]
  omega
theorem cut_drop1 {xs : List V} : cutV xs (some 1) none = xs.drop 1 := by
  unfold cutV
  rw [show HT.sIx xs.length 0 (some 1) = min 1 xs.length from HT.sIx_nat xs.length 0 1, HT.sIx_none]
  cases xs with
  | nil => rfl
  | cons x r =>
    have e : min 1 (x :: r).length = 1 := by simp only [List.length_cons]; omega
    rw [e, List.drop_one, List.tail_cons, List.length_cons, Nat.add_sub_cancel, List.take_length]
theorem Off.new {p c a : Addr} {H H1 : Hp} {o : HO} (s : Off p c H H1) (n : H a = none) : Off p c H (upd H1 a o) := fun b x h1 h2 e => by
  rw [upd_ne (ne_of_none e n)]
  exact s b x h1 h2 e
theorem Off.free {p c a : Addr} {H H1 : Hp} (s : Off p c H H1) (n : H1 a = none) (h1 : a ≠ p) (h2 : a ≠ c) : H a = none := by
  match q : H a with
  | none => rfl
  | some o =>
    have := s a o h1 h2 q
    rw [n] at this
    exact nomatch this
theorem Src.free {p c a : Addr} {H H1 : Hp} (s : Off p c H H1) (S : Src H1 p c) (n : H1 a = none) : H a = none := s.free n (S.ne_p n) (S.ne_c n)
theorem Src.upd_new {p c a : Addr} {H : Hp} {o : HO} (S : Src H p c) (h1 : a ≠ p) (h2 : a ≠ c) : Src (upd H a o) p c := by
  obtain ⟨cells, l, m, t, e1, e2⟩ := S.ex
  exact ⟨cells, l, m, t, by rw [upd_ne h1.symm]; exact e1, by rw [upd_ne h2.symm]; exact e2⟩
def spDraw : Sp := fun vs H Q _ => ∃ (p c : Addr) (ticks : Nat) (most : Int), vs = [.ref p, .int ticks, .int most] ∧ Src H p c ∧ ticks ≤ 1000 ∧ 1 ≤ most ∧ most < 1000000000 ∧
  ∀ (H' : Hp) (t : Addr) (ns : List Int), Src H' p c → Off p c H H' → H' t = some (.tup (ns.map V.int)) → H t = none → ns.length = ticks → (∀ z ∈ ns, 0 ≤ z ∧ z ≤ most) → Q (.ref t) H'
theorem while4 {c : TT} {tb : TS} {D : Ends} {σ : L2.St} {H : Hp} (Pv : Nat → L2.St → Hp → Prop) (Pa : L2.St → Hp → Prop) (n : Nat) (h0 : Pv n σ H) (after : ∀ σ H, Pa σ H → D.nx σ H)
    (turn : (∀ σ H, Pa σ H → D.nx σ H) → ∀ m σ H, Pv m σ H → c σ H fun b H1 => if b = true then
      ∃ N : L2.St → Hp → Prop, (∀ σ' H', N σ' H' → ∃ m', m' < m ∧ Pv m' σ' H') ∧ tb { D with nx := N, ct := N, bk := D.nx } σ H1 else D.nx σ H1) : tWhile c tb D σ H :=
  ⟨Pv, ⟨n, h0⟩, turn after⟩
theorem dp_app {K : PySem.W.Frag} {H : Hp} : ∀ {vs : List V} {ds : List PyData} {us : List V} {es : List PyData}, DpAll K H vs ds → DpAll K H us es → DpAll K H (vs ++ us) (ds ++ es)
  | _, _, _, _, .nil, h => h
  | _, _, _, _, .cons a b, h => .cons a (dp_app b h)
theorem rep1 {z : Int} : ∀ {k : Nat}, (List.replicate k [V.int z]).flatten = (List.replicate k z).map V.int
  | 0 => rfl
  | k + 1 => by
    rw [List.replicate_succ, List.flatten_cons, rep1, List.replicate_succ, List.map_cons]
    rfl
theorem many_small {n : Nat} (h : n ≤ 100000) : n < sizeLine := Nat.lt_of_le_of_lt h (by decide)
theorem tif_R {t : TT} {ta tb : TE} {σ : L2.St} {H : Hp} {Q : VK} (R : V → Hp → Prop) (key : ∀ v H, R v H → Q v H) (h : ∀ Q' : VK, (∀ v H, R v H → Q' v H) → tIf t ta tb σ H Q') : tIf t ta tb σ H Q := h Q key
end WK
set_option Elab.async false
set_option linter.all false
set_option maxRecDepth 100000
namespace WK
open PySem PySem.Spec PyProof.Rows L2
open AutoSeq1 (wpAny_loadPart')

/-! ### enumerate of a tuple -/
def it_obj (t : Addr) : Obj := { cls := .type "tuple_iterator", data := .fields #[.ref t, .int 0 0] }
def en_obj (i : Addr) : Obj := { cls := .type "enumerate", data := .fields #[.none, .bool false, .ref i, rawInt 0, .none, .none] }
def enum_heap (h : Heap) (t : Addr) : Heap := (h.push (it_obj t)).push (en_obj h.objs.size)
theorem enum_make (t : Addr) (its : Array Value) (n : Nat) (dct : Option Addr) (sl : Array (Option Value)) :
    Meets (Builtin.«enumerate.__new__» ⟨[.type "enumerate", .ref t], []⟩)
      (fun _ R s => s.heap.get? t = some { cls := .type "tuple", dict := dct, data := .seq its n, slots := sl } ∧
        R (.ok (.ret (.ref (s.heap.push (it_obj t)).objs.size)))
          { s with heap := enum_heap s.heap t }) :=
  .of_wp fun prog w A R s h => by
    obtain ⟨hp, g, d, tk, os⟩ := s
    obtain ⟨ht, h⟩ := h
    have hsub := sub_enumerate
    have tup : Heap.IsTuple (Shared.heap ⟨hp, g, d, tk, os⟩) t its := ⟨_, ht, rfl, n, rfl⟩
    wp_walk using wpAny_loadPart' ht
    refine wpAny_stack_any fun st => wpAny_pure ?_
    split
    · rename_i c _ _ _ _ _
      cases (c == Value.type "enumerate")
      · wp_walk using wpAny_loadPart' ht, wpAny_pyIter_tuple tup
        exact ⟨_, rfl, h⟩
      · wp_walk using wpAny_loadPart' ht, wpAny_pyIter_tuple tup
        exact ⟨_, rfl, h⟩
    · wp_walk using wpAny_loadPart' ht, wpAny_pyIter_tuple tup
      exact ⟨_, rfl, h⟩
section
variable {prog : Program} {w : World} {A : Around} {E : Value → Shared → Prop} {s : Shared}
theorem call_enumT {t : Addr} {its : Array Value} {Q : Value → Shared → Prop} (tup : s.heap.IsTuple t its)
    (h : ∀ h', IsEnum h' (s.heap.objs.size + 1) s.heap.objs.size 0 .none → h'.IsTupleIter s.heap.objs.size t 0 →
      (∀ b o, s.heap.get? b = some o → h'.get? b = some o) → Q (.ref (s.heap.objs.size + 1)) { s with heap := h' }) :
    wpAny (model prog w) A (call (.type "enumerate") [.ref t]) Q E s := by
  obtain ⟨⟨c, dct, dt, sl⟩, ht, hc, n, hd⟩ := tup
  have hc : c = .type "tuple" := hc
  have hd : dt = .seq its n := hd
  subst hc
  subst hd
  have size1 : (s.heap.push (it_obj t)).objs.size = s.heap.objs.size + 1 := Heap.size_push ..
  have en : (enum_heap s.heap t).get? (s.heap.objs.size + 1) = some (en_obj s.heap.objs.size) := by
    have := Heap.get?_push_size (s.heap.push (it_obj t)) (o := en_obj s.heap.objs.size) rfl
    rw [size1] at this
    exact this
  refine callType_new F.called_enumerate (by decide) (F.typeCall_enumerate_1 _) (F.newCall_enumerate_1 _)
    (fun obj => F.args_object_init_2 obj _) F.entry_enumerate_new (enum_make t its n dct sl) ⟨ht, ?_⟩
  show _ ∧ _
  rw [size1]
  refine ⟨⟨_, en, rfl⟩, h _ en ?_ ?_⟩
  · exact ⟨_, Heap.get?_push_of_some _ (Heap.get?_push_size _ rfl), rfl, rfl⟩
  · intro b o x
    exact Heap.get?_push_of_some _ (Heap.get?_push_of_some _ x)
end

/-- the tuple at a as it stands, each item with its number in a new pair -/
def IteT (K : PySem.W.Frag) (a : Addr) : It :=
  ⟨fun i H => ∃ (xs : List V) (x : V), SqT K H a xs ∧ xs[i]? = some x,
   fun i H v H' => ∃ T x, v = .ref T ∧ H T = none ∧ H' = upd H T (.tup [.int (i : Nat), x]) ∧ ∀ xs, SqT K H a xs → xs[i]? = some x,
   fun i H => ∃ xs : List V, SqT K H a xs ∧ xs.length ≤ i⟩
theorem turn_enumT {P : Program} {w : World} {K : PySem.W.Frag} {elts : List Expr} {kk : Nat} {tpos : Pos} (a e it : Addr) :
    Turn P w K (.Tuple elts kk tpos) (IteT K a) [e, it] e
      (fun i h => (∃ old, IsEnum h e it ((i : Nat) : Int) old) ∧ h.IsTupleIter it a i ∧ e ≠ it) where
  mem := by simp
  obj := by
    rintro i h ⟨⟨old, he⟩, ⟨o, ho, hc, hd⟩, _⟩ b hb
    rcases List.mem_cons.mp hb with z | z
    · rw [z]
      exact ⟨_, he, fun v q => nomatch q⟩
    · rw [List.mem_singleton.mp z]
      exact ⟨o, ho, fun v q => by rw [hd] at q; exact nomatch q⟩
  keep := by
    rintro i h h' ⟨⟨old, he⟩, hi, hne⟩ k
    exact ⟨⟨old, k e (by simp) _ he⟩, hi.at (fun o q => k it (by simp) o q), hne⟩
  item := by
    intro X hP hw hK hc i pins s σ H E I hf st hg
    subst hP hw hK
    obtain ⟨⟨old, he⟩, hit, hne⟩ := st
    obtain ⟨xs, x, hq, hx⟩ := hg
    obtain ⟨its, rv, tp, _⟩ := I.tuple hq
    obtain ⟨u, hu, ru⟩ := rv.get hx
    have le : e < s.heap.objs.size := Heap.lt_size he
    have li : it < s.heap.objs.size := by
      obtain ⟨_, q, _⟩ := hit
      exact Heap.lt_size q
    have ait : a ≠ it := by
      rintro rfl
      obtain ⟨o1, q1, c1, _⟩ := tp
      obtain ⟨o2, q2, c2, _⟩ := hit
      rw [q1] at q2
      injection q2 with q2
      subst q2
      rw [c1] at c2
      injection c2 with c2
      exact absurd c2 (by decide)
    have ae : e ≠ a := by
      rintro rfl
      obtain ⟨o1, q1, c1, _⟩ := tp
      have he' : s.heap.get? e = some _ := he
      rw [he'] at q1
      injection q1 with q1
      subst q1
      injection c1 with c1
      exact absurd c1 (by decide)
    have szI : i < its.toArray.size := by
      rw [List.size_toArray]
      exact (List.getElem?_eq_some_iff.mp hu).1
    refine wpAny_pyNext_enum_itemD (Draws.tuple (A := X.A.in1) (I.ok.hd hc) it a ait its.toArray) he ⟨hit, tp⟩ szI hne (by simp [hne, ae]) ?_
    intro x' h' tk px out st' hT hsz hk
    have hxx : its.toArray[i]? = some x' := px
    have exu : x' = u := by
      rw [List.getElem?_toArray, hu] at hxx
      injection hxx with z
      exact z.symm
    subst exu
    refine ⟨_, rfl, wpAny_letOwnedTupleGo_enum (s := { s with heap := h', toks := tk + 1 }) out ?_⟩
    intro h'' he' sb
    have T2 : h''.get? s.heap.objs.size = some { cls := .type "tuple", data := .seq #[.int i tk, x'] } := (sb.2 _ (Nat.ne_of_gt le)).trans hT
    have new : ObjOk X.prog X.w (upd H s.heap.objs.size (.tup [.int (i : Nat), x])) h'' s.heap.objs.size (.tup [.int (i : Nat), x]) := by
      refine ⟨by show 2 ≤ sizeLine; decide, [.int i tk, x'], .cons ⟨_, rfl⟩ (.cons ru .nil), ⟨_, T2, rfl, _, rfl⟩⟩
    have I1 : Inv X pins σ (upd H s.heap.objs.size (.tup [.int (i : Nat), x])) { s with heap := h'', toks := tk + 1 } := by
      refine I.turnedNew (ch := [e, it]) ?_ hf (Nat.le_refl _) new
      intro b o hb q
      have b1 : b ≠ e := fun z => hb (by simp [z])
      have b2 : b ≠ it := fun z => hb (by simp [z])
      exact (sb.2 b b1).trans (hk b o b1 b2 q)
    refine ⟨.ref s.heap.objs.size, _, I1, rfl, ?_, ⟨⟨x', ?_⟩, ?_, hne⟩, ?_⟩
    · refine ⟨_, x, rfl, I.hok.fresh (Nat.le_refl _), rfl, ?_⟩
      intro ys hy
      rw [I.tuple_inj hy hq]
      exact hx
    · have e1 : ((i + 1 : Nat) : Int) = (i : Int) + 1 := by omega
      rw [e1]
      exact he'
    · exact st'.1.at fun o q => (sb.2 it (Ne.symm hne)).trans q
    · intro b hb
      have lb : b < s.heap.objs.size := by
        rcases List.mem_cons.mp hb with z | z
        · rw [z]; exact le
        · rw [List.mem_singleton.mp z]; exact li
      rw [upd_ne (Nat.ne_of_lt lb)]
      exact (hf b hb).1
  done := by
    intro X hP hw hK hc i pins s σ H E I hf st hg
    subst hP hw hK
    obtain ⟨⟨old, he⟩, hit, hne⟩ := st
    obtain ⟨xs, hq, hx⟩ := hg
    obtain ⟨its, rv, tp, _⟩ := I.tuple hq
    have hl := rv.length
    have over : its.toArray[i + 0]? = none := by
      rw [List.getElem?_toArray]
      exact List.getElem?_eq_none_iff.mpr (by omega)
    have D0 : Draws X.prog X.w X.A.in1 it [it, a] 0 (fun _ _ => False) (fun j h => h.IsTupleIter it a (i + j) ∧ h.IsTuple a its.toArray) :=
      { live := fun _ _ z => by
          obtain ⟨o, ho, _⟩ := z.1
          exact ⟨o, ho⟩
        frame := fun _ _ _ z hk => ⟨z.1.at (fun o e => hk it (by simp) o e), z.2.at (fun o e => hk a (by simp) o e)⟩
        item := fun _ _ _ _ z => absurd z (Nat.not_lt_zero _)
        done := fun s Q E z hE => wpAny_nextOf_tuple_end (I.ok.hd hc) z.1 z.2 over hE }
    obtain ⟨f0, f1, f2, f3, f4, f5⟩ := hf it (by simp)
    refine wpAny_pyNext_enum_endD D0 he ⟨hit, tp⟩ ?_
    intro h' eb
    exact ⟨rfl, I.turned (t' := s.toks) (fun b o hb q => eb b o hb q) f0 f1 f3 f4 f5⟩
  self := fun A i s Q E st h => by
    obtain ⟨⟨_, he⟩, _⟩ := st
    exact wpAny_pyIter_enum he h
def iEnumT (K : PySem.W.Frag) (ta : TA) : TI := fun σ H R => ta σ H fun vs H1 => ∃ a xs, vs = [.ref a] ∧ SqT K H1 a xs ∧ R (IteT K a) H1
theorem pi_enumT {X : Cx} {e : Expr} {ta : TA} {p pos tpos : Pos} {elts : List Expr} {kk : Nat} (hg : Gl X "enumerate") (hm : X.mg "enumerate" = none) (ha : PA X [e] ta)
    (hs : starEach [e] X.env = [(false, eval e X.env)] := by rfl) :
    PI X (.Tuple elts kk tpos) (.Call (.Name "enumerate" p) [e] [] pos) (iEnumT X.K ta) := by
  constructor
  intro pins s σ H R I h
  have go := ha.run pos pins s σ H _ I h
  refine Call_ (ld_blt I hg hm boot_enumerate (PyProof.Rows.callWith_type1 (thn go ?_) hs rfl))
  rintro us s1 ⟨vs, H1, I1, r1, a, xs, rfl, hq, q⟩
  obtain ⟨u, rfl, r⟩ := vals1 r1
  cases r
  obtain ⟨its, rv, tp, _⟩ := I1.tuple hq
  refine call_enumT tp ?_
  intro h' en hit hk
  refine wpAny_pyIter_enum en ?_
  have I2 : Inv X pins σ H1 { s1 with heap := h' } := I1.kept (t' := s1.toks) hk
  refine ⟨s1.heap.objs.size + 1, [s1.heap.objs.size + 1, s1.heap.objs.size], _, _, H1, rfl, I2,
    turn_enumT a (s1.heap.objs.size + 1) s1.heap.objs.size, ⟨⟨.none, en⟩, hit, Nat.succ_ne_self _⟩, ?_, q⟩
  intro b hb
  have le : s1.heap.objs.size ≤ b := by
    rcases List.mem_cons.mp hb with z | z
    · rw [z]; exact Nat.le_add_right _ _
    · rw [List.mem_singleton.mp z]; exact Nat.le_refl _
  exact I1.fpOk le (I1.hok.fresh le)
theorem walk_enumT {K : PySem.W.Frag} {a : Addr} {xs : List V} : Walk (IteT K a) xs.length (fun H => SqT K H a xs) (YPair (fun i => some (.int (i : Nat))) (fun i => xs[i]?)) := by
  constructor
  · intro i H hi q
    exact ⟨xs, xs[i], q, by simp [hi]⟩
  · intro H q
    exact ⟨xs, q, Nat.le_refl _⟩
  · rintro i H v H' _ q ⟨T, x, h1, h2, h3, h4⟩
    exact ⟨T, .int (i : Nat), x, h1, h2, h3, rfl, h4 xs q⟩
end WK
set_option Elab.async false
set_option linter.all false
set_option maxRecDepth 100000
namespace WK
open PySem PySem.Spec PyProof.Rows L2

/-! ### sum of a tuple -/
def rSumT (K : PySem.W.Frag) : List V → Hp → VK → Prop := fun vs H Q => ∃ (a : Addr) (ns : List Int), vs = [V.ref a] ∧ SqT K H a (ns.map V.int) ∧ Q (.int ns.sum) H
theorem cr_sumT {X : Cx} (hc : X.calm = true) : CallR X (.builtin "sum") (rSumT X.K) := by
  rintro pins s σ H vs us Q I r ⟨a, ns, rfl, hs, q⟩
  obtain ⟨its, rv, tp, _⟩ := I.tuple hs
  rw [Vals.ref1 r]
  have hi := rv.ints
  obtain ⟨xs, e⟩ := hi.allInts.items
  have hn : numsOf (intItems xs).toList = ns := by
    rw [← e]
    exact hi.numsOf
  rw [nums_intItems] at hn
  rw [e] at tp
  have tp' : s.heap.IsTuple a (intItems xs) := tp
  have lt : a < s.heap.objs.size := by
    obtain ⟨_, g, _⟩ := tp
    exact Heap.lt_size g
  refine call_sum_walkG (wpAny_pyIter_tuple tp' ?_)
  refine ⟨s.heap.objs.size, [s.heap.objs.size, a], [s.heap.objs.size], _, _, _, numAt xs, rfl,
    Walks.tuple (A := X.A.in1) (I.ok.hd hc) s.heap.objs.size a (Nat.ne_of_lt lt) (intItems xs),
    ⟨⟨_, Heap.get?_push_size _ rfl, rfl, rfl⟩, tp'.push _⟩, ?_, fun _ _ => intItems_at, ?_⟩
  · intro b hb
    show b < (s.heap.push _).objs.size
    rw [Heap.size_push]
    rcases List.mem_cons.mp hb with z | z
    · rw [z]; exact Nat.lt_succ_self _
    · rw [List.mem_singleton.mp z]; exact Nat.lt_succ_of_lt lt
  · intro h' tk t' hk
    have k : ∀ b o, s.heap.get? b = some o → h'.get? b = some o := by
      intro b o x
      refine hk b o (fun z => ?_) (Heap.get?_push_of_some _ x)
      rw [List.mem_singleton.mp z] at x
      exact absurd (Heap.lt_size x) (Nat.lt_irrefl _)
    have ev : preSum (numAt xs) (intItems xs).size = ns.sum := by
      rw [preSum_eq, List.take_of_length_le (by simp [intItems]), hn]
    rw [ev]
    exact ⟨.int ns.sum, H, I.kept k, ⟨t', rfl⟩, q⟩

/-! ### zip of a list and a tuple -/
def z1 (h : Heap) (l : Addr) : Heap := h.push { cls := .type "list_iterator", data := .fields #[.ref l, .int 0 0] }
def z2 (h : Heap) (l t : Addr) : Heap := (z1 h l).push { cls := .type "tuple_iterator", data := .fields #[.ref t, .int 0 0] }
def z3 (h : Heap) (l t : Addr) : Heap := (z2 h l t).push { cls := .type "tuple", data := .seq #[.ref h.objs.size, .ref (z1 h l).objs.size] }
def z4 (h : Heap) (l t : Addr) : Heap := (z3 h l t).push { cls := .type "tuple", data := .seq #[.none, .none] }
def z5 (h : Heap) (l t : Addr) : Heap := (z4 h l t).push { cls := .type "zip", data := .fields #[.none, .bool false, .bool false, .ref (z2 h l t).objs.size, .ref (z3 h l t).objs.size] }
theorem zipM_make (l t : Addr) (xs ys : Array Value) :
    Meets (Builtin.«zip.__new__» ⟨[.type "zip", .ref l, .ref t], []⟩)
      (fun _ R s => s.heap.IsList l xs ∧ s.heap.IsTuple t ys ∧ R (.ok (.ret (.ref (z4 s.heap l t).objs.size))) { s with heap := z5 s.heap l t }) :=
  .of_wp fun prog w A R s h => by
    obtain ⟨hp, g, d, tk, os⟩ := s
    obtain ⟨hl, ht, h⟩ := h
    have hsub := sub_zip
    have a1 : Heap.IsList (Shared.heap ⟨hp, g, d, tk, os⟩) l xs := hl
    have a2 : Heap.IsTuple (Shared.heap ⟨hp.push { cls := .type "list_iterator", data := .fields #[.ref l, .int 0 0] }, g, d, tk, os⟩) t ys := Heap.IsTuple.push ht _
    wp_walk using wpAny_pyIter_list a1, wpAny_pyIter_tuple a2
    exact ⟨_, rfl, h⟩
section
variable {prog : Program} {w : World} {A : Around} {E : Value → Shared → Prop} {s : Shared}
theorem call_zipM {l t : Addr} {xs ys : Array Value} {Q : Value → Shared → Prop} (hl : s.heap.IsList l xs) (ht : s.heap.IsTuple t ys)
    (h : ∀ h', IsZip h' (s.heap.objs.size + 4) (s.heap.objs.size + 2) (s.heap.objs.size + 3) .none →
      PySem.IsPair h' (s.heap.objs.size + 2) (.ref s.heap.objs.size) (.ref (s.heap.objs.size + 1)) → PySem.IsPair h' (s.heap.objs.size + 3) .none .none →
      h'.IsListIter s.heap.objs.size l 0 → h'.IsTupleIter (s.heap.objs.size + 1) t 0 →
      (∀ c o, s.heap.get? c = some o → h'.get? c = some o) → Q (.ref (s.heap.objs.size + 4)) { s with heap := h' }) :
    wpAny (model prog w) A (call (.type "zip") [.ref l, .ref t]) Q E s := by
  refine callType_new F.called_zip (by decide) (F.typeCall_zip_2 _ _) (F.newCall_zip_2 _ _)
    (fun obj => F.args_object_init_3 obj _ _) F.entry_zip_new (zipM_make l t xs ys) ⟨hl, ht, ?_⟩
  have n1 : (z1 s.heap l).objs.size = s.heap.objs.size + 1 := Heap.size_push ..
  have n2 : (z2 s.heap l t).objs.size = s.heap.objs.size + 2 := (Heap.size_push ..).trans (congrArg (· + 1) n1)
  have n3 : (z3 s.heap l t).objs.size = s.heap.objs.size + 3 := (Heap.size_push ..).trans (congrArg (· + 1) n2)
  have n4 : (z4 s.heap l t).objs.size = s.heap.objs.size + 4 := (Heap.size_push ..).trans (congrArg (· + 1) n3)
  have p5 : (z5 s.heap l t).get? (z4 s.heap l t).objs.size = some _ := Heap.get?_push_size _ rfl
  have p4 : (z5 s.heap l t).get? (z3 s.heap l t).objs.size = some _ := Heap.get?_push_of_some _ (Heap.get?_push_size _ rfl)
  have p3 : (z5 s.heap l t).get? (z2 s.heap l t).objs.size = some _ :=
    Heap.get?_push_of_some _ (Heap.get?_push_of_some _ (Heap.get?_push_size _ rfl))
  have p2 : (z5 s.heap l t).get? (z1 s.heap l).objs.size = some _ :=
    Heap.get?_push_of_some _ (Heap.get?_push_of_some _ (Heap.get?_push_of_some _ (Heap.get?_push_size _ rfl)))
  have p1 : (z5 s.heap l t).get? s.heap.objs.size = some _ :=
    Heap.get?_push_of_some _ (Heap.get?_push_of_some _ (Heap.get?_push_of_some _ (Heap.get?_push_of_some _ (Heap.get?_push_size _ rfl))))
  show _ ∧ _
  rw [n2, n3, n4] at p5
  rw [n1, n2] at p3
  rw [n3] at p4
  rw [n1] at p2
  rw [n4]
  refine ⟨⟨_, p5, rfl⟩, h _ p5 p3 p4 ⟨_, p1, rfl, rfl⟩ ⟨_, p2, rfl, rfl⟩ ?_⟩
  intro c o x
  exact Heap.get?_push_of_some _ (Heap.get?_push_of_some _ (Heap.get?_push_of_some _ (Heap.get?_push_of_some _ (Heap.get?_push_of_some _ x))))
end
/-- the list at a and the tuple at b as they stand, the items in new pairs -/
def ItzM (K : PySem.W.Frag) (a b : Addr) : It :=
  ⟨fun i H => ∃ (xs ys : List V) (x y : V), SqL K H a xs ∧ SqT K H b ys ∧ xs[i]? = some x ∧ ys[i]? = some y,
   fun i H v H' => ∃ T x y, v = .ref T ∧ H T = none ∧ H' = upd H T (.tup [x, y]) ∧ (∀ xs, SqL K H a xs → xs[i]? = some x) ∧ ∀ ys, SqT K H b ys → ys[i]? = some y,
   fun i H => ∃ xs ys : List V, SqL K H a xs ∧ SqT K H b ys ∧ (i = xs.length ∧ i ≤ ys.length ∨ i = ys.length ∧ i ≤ xs.length)⟩
theorem sep_of {z TI TO i1 i2 a b : Addr} (D : ZipApart z TI TO i1 i2 a b) : ZipSep2 z TI TO i1 i2 [i1, a] [i2, b] := by
  refine ⟨D.TIz, D.TOz, D.TITO, D.TIi1, by simp, ?_, ?_, D.TIi2, by simp, ?_, ?_, ?_, ?_⟩
  · simp [D.i1z.symm, D.l1z.symm]
  · simp [D.TOi1, D.l1TO.symm]
  · simp [D.i2z.symm, D.l2z.symm]
  · simp [D.TOi2, D.l2TO.symm]
  · simp [D.i12, D.l2i1.symm]
  · simp [D.i12.symm, D.l1i2.symm]
theorem turn_zipM {P : Program} {w : World} {K : PySem.W.Frag} {elts : List Expr} {kk : Nat} {tpos : Pos} {a b z TI TO i1 i2 : Addr} (D : ZipApart z TI TO i1 i2 a b) :
    Turn P w K (.Tuple elts kk tpos) (ItzM K a b) [z, TI, TO, i1, i2] z
      (fun i h => IsZip h z TI TO .none ∧ PySem.IsPair h TI (.ref i1) (.ref i2) ∧ (∃ x y, PySem.IsPair h TO x y) ∧ h.IsListIter i1 a i ∧ h.IsTupleIter i2 b i) where
  mem := by simp
  obj := by
    rintro i h ⟨hz, hTI, ⟨x, y, hTO⟩, ⟨o1, e1, _, d1⟩, ⟨o2, e2, _, d2⟩⟩ c hc
    have e' : c = z ∨ c = TI ∨ c = TO ∨ c = i1 ∨ c = i2 := by simpa using hc
    rcases e' with rfl | rfl | rfl | rfl | rfl
    · exact ⟨_, hz, fun v q => nomatch q⟩
    · exact ⟨_, hTI, fun v q => nomatch q⟩
    · exact ⟨_, hTO, fun v q => nomatch q⟩
    · exact ⟨o1, e1, fun v q => by rw [d1] at q; exact nomatch q⟩
    · exact ⟨o2, e2, fun v q => by rw [d2] at q; exact nomatch q⟩
  keep := by
    rintro i h h' ⟨hz, hTI, ⟨x, y, hTO⟩, q1, q2⟩ k
    exact ⟨k z (by simp) _ hz, k TI (by simp) _ hTI, ⟨x, y, k TO (by simp) _ hTO⟩, q1.at (fun o q => k i1 (by simp) o q), q2.at (fun o q => k i2 (by simp) o q)⟩
  item := by
    intro X hP hw hK hc i pins s σ H E I hf st hg
    subst hP hw hK
    obtain ⟨hz, hTI, ⟨x0, y0, hTO⟩, q1, q2⟩ := st
    obtain ⟨xs, ys, x, y, hqx, hqy, hx, hy⟩ := hg
    obtain ⟨its, rv, pl, _⟩ := I.list hqx
    obtain ⟨jts, rv2, tp, _⟩ := I.tuple hqy
    obtain ⟨u, hu, ru⟩ := rv.get hx
    obtain ⟨u2, hu2, ru2⟩ := rv2.get hy
    have hzl : z < s.heap.objs.size := Heap.lt_size hz
    have s1 : i < its.toArray.size := by
      rw [List.size_toArray]
      exact (List.getElem?_eq_some_iff.mp hu).1
    have s2 : i < jts.toArray.size := by
      rw [List.size_toArray]
      exact (List.getElem?_eq_some_iff.mp hu2).1
    have tp' : s.heap.IsTuple b jts.toArray := tp
    refine wpAny_pyNext_zipD2_item (sep_of D) (Draws.list (A := X.A.in1) (I.ok.hd hc) i1 a D.l1i1 its.toArray) (Draws.tuple (A := X.A.in1) (I.ok.hd hc) i2 b D.l2i2 jts.toArray)
      hz hTI hTO ⟨q1, pl.isList⟩ ⟨q2, tp'⟩ s1 s2 ?_
    intro v1 v2 h' tk e1 e2 hz' hTO' st1 st2 hT hsz hk
    have e1 : its.toArray[i]? = some v1 := e1
    have e2 : jts.toArray[i]? = some v2 := e2
    rw [List.getElem?_toArray, hu] at e1
    rw [List.getElem?_toArray, hu2] at e2
    injection e1 with e1
    injection e2 with e2
    subst e1
    subst e2
    refine ⟨_, rfl, wpAny_letOwnedTupleGo_zip (s := { s with heap := h', toks := tk }) hz' ?_⟩
    intro h'' hz'' sb
    have T2 : h''.get? s.heap.objs.size = some { cls := .type "tuple", data := .seq #[u, u2] } := (sb.2 _ (Nat.ne_of_gt hzl)).trans hT
    have new : ObjOk X.prog X.w (upd H s.heap.objs.size (.tup [x, y])) h'' s.heap.objs.size (.tup [x, y]) :=
      ⟨by show 2 ≤ sizeLine; decide, [u, u2], .cons ru (.cons ru2 .nil), ⟨_, T2, rfl, _, rfl⟩⟩
    have I1 : Inv X pins σ (upd H s.heap.objs.size (.tup [x, y])) { s with heap := h'', toks := tk } := by
      refine I.turnedNew (ch := [z, TI, TO, i1, i2]) ?_ hf (Nat.le_refl _) new
      intro c o hb q
      have c1 : c ≠ z := fun e => hb (by simp [e])
      have c2 : c ≠ TO := fun e => hb (by simp [e])
      have c3 : c ≠ i1 := fun e => hb (by simp [e])
      have c4 : c ≠ i2 := fun e => hb (by simp [e])
      exact (sb.2 c c1).trans (hk c o c1 c2 c3 c4 q)
    refine ⟨.ref s.heap.objs.size, _, I1, rfl, ⟨_, x, y, rfl, I.hok.fresh (Nat.le_refl _), rfl, ?_, ?_⟩, ⟨hz'', ?_, ⟨u, u2, ?_⟩, ?_, ?_⟩, ?_⟩
    · intro l hl
      rw [I.list_inj hl hqx]
      exact hx
    · intro l hl
      rw [I.tuple_inj hl hqy]
      exact hy
    · exact (sb.2 _ D.TIz).trans (hk _ _ D.TIz D.TITO D.TIi1 D.TIi2 hTI)
    · exact (sb.2 _ D.TOz).trans hTO'
    · exact st1.1.at fun o q => (sb.2 _ D.i1z).trans q
    · exact st2.1.at fun o q => (sb.2 _ D.i2z).trans q
    · intro c hcm
      obtain ⟨o1, g1, _⟩ := q1
      obtain ⟨o2, g2, _⟩ := q2
      have lt : c < s.heap.objs.size := by
        have e' : c = z ∨ c = TI ∨ c = TO ∨ c = i1 ∨ c = i2 := by simpa using hcm
        rcases e' with rfl | rfl | rfl | rfl | rfl
        · exact hzl
        · exact Heap.lt_size hTI
        · exact Heap.lt_size hTO
        · exact Heap.lt_size g1
        · exact Heap.lt_size g2
      rw [upd_ne (Nat.ne_of_lt lt)]
      exact (hf c hcm).1
  done := by
    intro X hP hw hK hc i pins s σ H E I hf st hg
    subst hP hw hK
    obtain ⟨hz, hTI, ⟨x0, y0, hTO⟩, q1, q2⟩ := st
    obtain ⟨xs, ys, hqx, hqy, hend⟩ := hg
    obtain ⟨its, rv, pl, _⟩ := I.list hqx
    obtain ⟨jts, rv2, tp, _⟩ := I.tuple hqy
    have l1 := rv.length
    have l2 := rv2.length
    have tp' : s.heap.IsTuple b jts.toArray := tp
    refine wpAny_pyNext_zipD2_end (i := i) (sep_of D) (Draws.list (A := X.A.in1) (I.ok.hd hc) i1 a D.l1i1 its.toArray) (Draws.tuple (A := X.A.in1) (I.ok.hd hc) i2 b D.l2i2 jts.toArray)
      hz hTI hTO ⟨q1, pl.isList⟩ ⟨q2, tp'⟩ ?_ ?_ ?_ ?_
    · rw [List.size_toArray]; omega
    · rw [List.size_toArray]; omega
    · rw [List.size_toArray, List.size_toArray]; omega
    · intro h' tk hk
      refine ⟨rfl, I.turnedL (t' := tk) (ch := [z, TI, TO, i1, i2]) ?_ hf⟩
      intro c o hb q
      exact hk c o (fun e => hb (by simp [e])) (fun e => hb (by simp [e])) (fun e => hb (by simp [e])) (fun e => hb (by simp [e])) q
  self := fun A i s Q E st h => wpAny_pyIter_zip st.1 h
def iZipM (K : PySem.W.Frag) (ta : TA) : TI := fun σ H R => ta σ H fun vs H1 => ∃ a b xs ys, vs = [.ref a, .ref b] ∧ SqL K H1 a xs ∧ SqT K H1 b ys ∧ R (ItzM K a b) H1
theorem pi_zipM {X : Cx} {e e2 : Expr} {ta : TA} {p pos tpos : Pos} {elts : List Expr} {kk : Nat} (hg : Gl X "zip") (hm : X.mg "zip" = none) (ha : PA X [e, e2] ta)
    (hs : starEach [e, e2] X.env = (false, eval e X.env) :: starEach [e2] X.env := by rfl) (hpl : (backTo pos (starEach [e2] X.env)).any (·.1) = false := by rfl) :
    PI X (.Tuple elts kk tpos) (.Call (.Name "zip" p) [e, e2] [] pos) (iZipM X.K ta) := by
  constructor
  intro pins s σ H R I h
  have go := ha.run pos pins s σ H _ I h
  refine Call_ (ld_blt I hg hm PyProof.Rows.boot_zip (PyProof.Rows.callWith_type1 (thn go ?_) hs hpl))
  rintro us s1 ⟨vs, H1, I1, r1, a, b, xs, ys, rfl, hqx, hqy, q⟩
  obtain ⟨u1, u2, rfl, r, r'⟩ := vals2 r1
  cases r
  cases r'
  obtain ⟨its, rv, pl, _⟩ := I1.list hqx
  obtain ⟨jts, rv2, tp, _⟩ := I1.tuple hqy
  have tp' : s1.heap.IsTuple b jts.toArray := tp
  have la : a < s1.heap.objs.size := pl.lt
  have lb : b < s1.heap.objs.size := by
    obtain ⟨_, g, _⟩ := tp
    exact Heap.lt_size g
  refine call_zipM pl.isList tp' ?_
  intro h' hz hTI hTO q1 q2 hk
  refine wpAny_pyIter_zip hz ?_
  have I2 : Inv X pins σ H1 { s1 with heap := h' } := I1.kept (t' := s1.toks) hk
  refine ⟨s1.heap.objs.size + 4, [s1.heap.objs.size + 4, s1.heap.objs.size + 2, s1.heap.objs.size + 3, s1.heap.objs.size, s1.heap.objs.size + 1], _, _, H1, rfl, I2,
    turn_zipM (PySem.W.ktu_apart s1.heap.objs.size a b la lb), ⟨hz, hTI, ⟨_, _, hTO⟩, q1, q2⟩, ?_, q⟩
  intro c hcm
  have hle : s1.heap.objs.size ≤ c := by
    have e' : c = s1.heap.objs.size + 4 ∨ c = s1.heap.objs.size + 2 ∨ c = s1.heap.objs.size + 3 ∨ c = s1.heap.objs.size ∨ c = s1.heap.objs.size + 1 := by simpa using hcm
    rcases e' with e | e | e | e | e <;> rw [e]
    · exact Nat.le_add_right _ 4
    · exact Nat.le_add_right _ 2
    · exact Nat.le_add_right _ 3
    · exact Nat.le_refl _
    · exact Nat.le_add_right _ 1
  exact I1.fpOk hle (I1.hok.fresh hle)
theorem walk_zipM {K : PySem.W.Frag} {a b : Addr} {xs ys : List V} {n : Nat} (hn : n = min xs.length ys.length) :
    Walk (ItzM K a b) n (fun H => SqL K H a xs ∧ SqT K H b ys) (YPair (fun i => xs[i]?) (fun i => ys[i]?)) := by
  subst hn
  constructor
  · rintro i H hi ⟨q1, q2⟩
    have h1 : i < xs.length := by omega
    have h2 : i < ys.length := by omega
    exact ⟨xs, ys, xs[i], ys[i], q1, q2, by simp [h1], by simp [h2]⟩
  · rintro H ⟨q1, q2⟩
    exact ⟨xs, ys, q1, q2, by omega⟩
  · rintro i H v H' _ ⟨q1, q2⟩ ⟨T, x, y, h1, h2, h3, h4, h5⟩
    exact ⟨T, x, y, h1, h2, h3, h4 xs q1, h5 ys q2⟩
/-- zip of two tuples -/
theorem walk_zipT {K : PySem.W.Frag} {a b : Addr} {xs ys : List V} {n : Nat} (hn : n = min xs.length ys.length) :
    Walk (RZ.ItzT K a b) n (fun H => SqT K H a xs ∧ SqT K H b ys) (YPair (fun i => xs[i]?) (fun i => ys[i]?)) := by
  subst hn
  constructor
  · rintro i H hi ⟨q1, q2⟩
    have h1 : i < xs.length := by omega
    have h2 : i < ys.length := by omega
    exact ⟨xs, ys, xs[i], ys[i], q1, q2, by simp [h1], by simp [h2]⟩
  · rintro H ⟨q1, q2⟩
    exact ⟨xs, ys, q1, q2, by omega⟩
  · rintro i H v H' _ ⟨q1, q2⟩ ⟨T, x, y, h1, h2, h3, h4, h5⟩
    exact ⟨T, x, y, h1, h2, h3, h4 xs q1, h5 ys q2⟩
end WK
set_option Elab.async false
set_option linter.all false
set_option maxRecDepth 100000
namespace WK
open PySem PySem.Spec PyProof.Rows L2
structure Blt (mg : Str → Option Value) : Prop where
  int : mg "int" = none
  abs : mg "abs" = none
  len : mg "len" = none
  max : mg "max" = none
  min : mg "min" = none
  tuple : mg "tuple" = none
  range : mg "range" = none
  zip : mg "zip" = none
  enumerate : mg "enumerate" = none
  repr : mg "repr" = none
  sum : mg "sum" = none
  all : mg "all" = none
  any : mg "any" = none
  sorted : mg "sorted" = none
  list : mg "list" = none
/-! ### tuples stay -/
def Tups (H H' : Hp) : Prop := ∀ b xs, H b = some (.tup xs) → H' b = some (.tup xs)
theorem Tups.refl (H : Hp) : Tups H H := fun _ _ h => h
theorem Tups.trans {H H1 H2 : Hp} (a : Tups H H1) (b : Tups H1 H2) : Tups H H2 := fun x xs h => b x xs (a x xs h)
theorem Same.tups {H H' : Hp} (s : Same H H') : Tups H H' := fun b xs h => s b _ h
theorem Off.tups {H H' : Hp} {p c : Addr} (o : Off p c H H') (S : Src H p c) : Tups H H' := fun b xs h => o.tup S h
theorem tups_upd {H : Hp} {a : Addr} {xs : List V} {o : HO} (h : H a = some (.lst xs)) : Tups H (upd H a o) := fun b ys e => by
  rw [upd_ne (ne_of e h (by intro z; cases z))]
  exact e
/-! ### slots -/
structure Slt where
  need : Int
  most : Int
  first : Int
  slopes : List Int
def SltAt (H : Hp) (v : V) (s : Slt) : Prop := ∃ t u, v = .ref t ∧ H t = some (.tup [.int s.need, .int s.most, .int s.first, .ref u]) ∧ H u = some (.tup (s.slopes.map V.int))
theorem SltAt.mono {H H' : Hp} {v : V} {s : Slt} (k : Tups H H') (h : SltAt H v s) : SltAt H' v s := by
  obtain ⟨t, u, e, a, b⟩ := h
  exact ⟨t, u, e, k _ _ a, k _ _ b⟩
abbrev SltsAt (H : Hp) : List V → List Slt → Prop := Paired (SltAt H)
theorem SltsAt.mono {H H' : Hp} (k : Tups H H') : ∀ {vs : List V} {ss : List Slt}, SltsAt H vs ss → SltsAt H' vs ss
  | _, _, .nil => .nil
  | _, _, .cons a b => .cons (a.mono k) (SltsAt.mono k b)
theorem SltsAt.len {H : Hp} : ∀ {vs : List V} {ss : List Slt}, SltsAt H vs ss → vs.length = ss.length
  | _, _, .nil => rfl
  | _, _, .cons _ b => congrArg (· + 1) (SltsAt.len b)
theorem SltsAt.snoc {H : Hp} : ∀ {vs : List V} {ss : List Slt} {v : V} {s : Slt}, SltsAt H vs ss → SltAt H v s → SltsAt H (vs ++ [v]) (ss ++ [s])
  | _, _, _, _, .nil, h => .cons h .nil
  | _, _, _, _, .cons a b, h => .cons a (SltsAt.snoc b h)
theorem SltsAt.get {H : Hp} : ∀ {vs : List V} {ss : List Slt} {i : Nat} {v : V}, SltsAt H vs ss → vs[i]? = some v → ∃ s, ss[i]? = some s ∧ SltAt H v s
  | _, _, _, _, .nil, e => by simp at e
  | _, _, 0, v, .cons a _, e => by
    have e : _ = v := Option.some.inj e
    subst e
    exact ⟨_, rfl, a⟩
  | _, _, i + 1, v, .cons _ b, e => SltsAt.get (i := i) b e
/-- a slot of the document, within bounds: m its greatest number, b how steep, f its first cost's bound -/
structure Slt.Ok (s : Slt) (m b f : Int) : Prop where
  lo : 0 ≤ s.need
  mid : s.need ≤ s.most
  hi : s.most ≤ m
  len : (s.slopes.length : Int) = s.most - s.need
  steep : ∀ z ∈ s.slopes, -b ≤ z ∧ z ≤ b
  asc : s.slopes.Pairwise (· ≤ ·)
  pos : ∀ k, 0 ≤ s.first + (s.slopes.take k).sum
  fst : s.first ≤ f
def costAt (s : Slt) (x : Int) : Int := s.first + (s.slopes.take (x - s.need).toNat).sum
theorem sum_bounds {b : Int} : ∀ {l : List Int}, (∀ z ∈ l, -b ≤ z ∧ z ≤ b) → -(b * l.length) ≤ l.sum ∧ l.sum ≤ b * l.length
  | [], _ => by simp
  | z :: l, h => by
    have h1 := h z (List.mem_cons_self ..)
    have h2 := sum_bounds (l := l) fun y hy => h y (List.mem_cons_of_mem _ hy)
    rw [List.sum_cons, List.length_cons, Int.natCast_add, Int.mul_add]
    omega
/-- the sums of the first ones -/
def sumsL (l : List Int) (i : Nat) : List Int := (List.range i).map fun k => (l.take (k + 1)).sum
theorem sumsL_succ {l : List Int} {i : Nat} : sumsL l (i + 1) = sumsL l i ++ [(l.take (i + 1)).sum] := by
  unfold sumsL
  rw [List.range_succ, List.map_append]
  rfl
theorem sumsL_len {l : List Int} {i : Nat} : (sumsL l i).length = i := by
  unfold sumsL
  rw [List.length_map, List.length_range]
theorem low_le {l : List Int} {m : Int} (h : ∀ y ∈ (0 :: sumsL l l.length), m ≤ y) (k : Nat) : m ≤ (l.take k).sum := by
  have h0 : m ≤ 0 := h 0 (List.mem_cons_self ..)
  have step : ∀ j, j < l.length → m ≤ (l.take (j + 1)).sum := fun j hj =>
    h _ (List.mem_cons_of_mem _ (List.mem_map.mpr ⟨j, List.mem_range.mpr hj, rfl⟩))
  by_cases hk : k ≤ l.length
  · cases k with
    | zero => simpa using h0
    | succ j => exact step j (by omega)
  · rw [List.take_of_length_le (by omega)]
    by_cases hz : l.length = 0
    · have : l = [] := List.length_eq_zero_iff.mp hz
      subst this
      simpa using h0
    · have := step (l.length - 1) (by omega)
      rw [show l.length - 1 + 1 = l.length by omega, List.take_length] at this
      exact this
theorem low_ge {l : List Int} {m b : Int} (hb : 0 ≤ b) (hl : ∀ z ∈ l, -b ≤ z ∧ z ≤ b) (h : m ∈ (0 :: sumsL l l.length)) : -(b * l.length) ≤ m := by
  rcases List.mem_cons.mp h with e | e
  · subst e
    have : 0 ≤ b * (l.length : Int) := Int.mul_nonneg hb (Int.natCast_nonneg _)
    omega
  · obtain ⟨k, hk, rfl⟩ := List.mem_map.mp e
    have hk := List.mem_range.mp hk
    have s := sum_bounds (l := l.take (k + 1)) (b := b) fun z hz => hl z (List.mem_of_mem_take hz)
    rw [List.length_take, Nat.min_eq_left (by omega)] at s
    have le : b * ((k + 1 : Nat) : Int) ≤ b * (l.length : Int) := Int.mul_le_mul_of_nonneg_left (by omega) hb
    omega
def spSlots : Sp := fun vs H Q _ => ∃ (p c : Addr) (ticks : Nat) (most : Int), vs = [.ref p, .int ticks, .int most] ∧ Src H p c ∧ ticks ≤ 1000 ∧ 0 ≤ most ∧ most ≤ 1000 ∧
  ∀ (H' : Hp) (t : Addr) (ws : List V) (ss : List Slt), Src H' p c → Off p c H H' → H' t = some (.tup ws) → H t = none → SltsAt H' ws ss → ss.length = ticks → (∀ s ∈ ss, s.Ok most 8 (3 + 8 * most)) → Q (.ref t) H'
def spGreat : Sp := fun vs H Q _ => ∃ (p c : Addr) (ticks : Nat) (most : Int), vs = [.ref p, .int ticks, .int most] ∧ Src H p c ∧ ticks ≤ 1000 ∧ 0 ≤ most ∧ most ≤ 1000 ∧
  ∀ (H' : Hp) (t : Addr) (ws : List V) (ss : List Slt), Src H' p c → Off p c H H' → H' t = some (.tup ws) → H t = none → SltsAt H' ws ss → ss.length = ticks →
    (∀ s ∈ ss, s.Ok 1000000 80000000000 (10000000000 * (3 + 8 * most)) ∧ s.most - s.need ≤ most) → Q (.ref t) H'
theorem mul_sum {b : Int} : ∀ {l : List Int}, (l.map (· * b)).sum = l.sum * b
  | [] => by simp
  | z :: l => by
    rw [List.map_cons, List.sum_cons, List.sum_cons, mul_sum, Int.add_mul]
theorem Slt.Ok.great {s : Slt} {m f far by1 : Int} (h : s.Ok m 8 f) (h0 : 0 ≤ far) (hf : far + m ≤ 1000000) (b1 : 1 ≤ by1) (b2 : by1 ≤ 10000000000) (f0 : 0 ≤ f) :
    Slt.Ok ⟨s.need + far, s.most + far, s.first * by1, s.slopes.map (· * by1)⟩ 1000000 80000000000 (10000000000 * f) := by
  constructor
  · show 0 ≤ s.need + far
    have := h.lo
    omega
  · show s.need + far ≤ s.most + far
    have := h.mid
    omega
  · show s.most + far ≤ 1000000
    have := h.hi
    omega
  · show ((s.slopes.map (· * by1)).length : Int) = s.most + far - (s.need + far)
    rw [List.length_map, h.len]
    omega
  · intro z hz
    obtain ⟨y, hy, rfl⟩ := List.mem_map.mp hz
    obtain ⟨a, b⟩ := h.steep y hy
    show -80000000000 ≤ y * by1 ∧ y * by1 ≤ 80000000000
    have u : y * by1 ≤ 8 * by1 := Int.mul_le_mul_of_nonneg_right b (by omega)
    have l : -8 * by1 ≤ y * by1 := Int.mul_le_mul_of_nonneg_right a (by omega)
    omega
  · show (s.slopes.map (· * by1)).Pairwise (· ≤ ·)
    rw [List.pairwise_map]
    exact h.asc.imp fun {a b} z => Int.mul_le_mul_of_nonneg_right z (by omega)
  · intro k
    show 0 ≤ s.first * by1 + ((s.slopes.map (· * by1)).take k).sum
    rw [← List.map_take, mul_sum, ← Int.add_mul]
    exact Int.mul_nonneg (h.pos k) (by omega)
  · show s.first * by1 ≤ 10000000000 * f
    have p0 : 0 ≤ s.first := by simpa using h.pos 0
    have a : s.first * by1 ≤ f * by1 := Int.mul_le_mul_of_nonneg_right h.fst (by omega)
    have b : f * by1 ≤ f * 10000000000 := Int.mul_le_mul_of_nonneg_left b2 f0
    omega
end WK
set_option Elab.async false
set_option linter.all false
set_option maxRecDepth 100000
namespace WK
open PySem PySem.Spec PyProof.Rows L2
theorem slA {K : PySem.W.Frag} {lo hi : Option Int} {H : Hp} {Q : VK} {a : Addr} {xs : List V} (ht : H a = some (.tup xs))
    (k : ∀ p H', Same H H' → H' p = some (.tup (cutV xs lo hi)) → Q (.ref p) H') : rSlA K (.ref a) lo hi H Q := by
  refine ⟨a, xs, rfl, .inl (.inl ht), fun w => k a H (Same.refl _) ?_, fun _ p np => k p _ (same_new np) upd_same⟩
  rw [ht]
  unfold cutV
  rw [w.1, w.2, List.drop_zero, Nat.sub_zero, List.take_length]
theorem cut_int {xs : List V} {z : Int} (h : 0 ≤ z) : cutV xs none (some z) = xs.take z.toNat := by
  obtain ⟨n, rfl⟩ := Int.eq_ofNat_of_zero_le h
  rw [Int.toNat_natCast]
  exact cut_take
theorem cut_drop {xs : List V} {n : Nat} : cutV xs (some (n : Int)) none = xs.drop n := by
  unfold cutV
  rw [HT.sIx_nat, HT.sIx_none]
  by_cases h : n ≤ xs.length
  · rw [Nat.min_eq_left h, List.take_of_length_le (by rw [List.length_drop]; exact Nat.le_refl _)]
  · rw [Nat.min_eq_right (by omega), List.drop_of_length_le (by omega), List.drop_of_length_le (by omega), List.take_nil]
/-! ### rows of slots -/
def fitB (s : Slt) (x : Int) : Bool := decide (s.need ≤ x) && decide (x ≤ s.most)
def costV (s : Slt) (x : Int) : V := if fitB s x = true then .int (costAt s x) else .non
def s0 : Slt := ⟨0, 0, 0, []⟩
def servesB (ss : List Slt) (xs : List Int) (i : Nat) : List Bool := (List.range i).map fun t => fitB (ss.getD t s0) (xs.getD t 0)
def up (d : Int) : Int := if d > 0 then d else 0
def startsT (xs : List Int) (i : Nat) : List Int := (List.range i).map fun t => up (xs.getD t 0 - (0 :: xs).getD t 0)
def stopsT (xs : List Int) (i : Nat) : List Int := (List.range i).map fun t => up ((0 :: xs).getD t 0 - xs.getD t 0)
def runT (ss : List Slt) (xs : List Int) (i : Nat) : List Int := (List.range i).map fun t => costAt (ss.getD t s0) (xs.getD t 0)
def servesL (ss : List Slt) (xs : List Int) : Bool := (servesB ss xs xs.length).all id
def startsL (xs : List Int) : Int := (startsT xs xs.length).sum
def stopsL (xs : List Int) : Int := (stopsT xs xs.length).sum
def runL (ss : List Slt) (xs : List Int) : Int := (runT ss xs xs.length).sum
theorem mapr_succ {α : Type} {f : Nat → α} {i : Nat} : (List.range (i + 1)).map f = (List.range i).map f ++ [f i] := by
  rw [List.range_succ, List.map_append]
  rfl
theorem getD_at {α : Type} {l : List α} {i : Nat} {x d : α} (h : l[i]? = some x) : l.getD i d = x := by
  rw [List.getD_eq_getElem?_getD, h]
  rfl
theorem mapr_len {α : Type} {f : Nat → α} {i : Nat} : ((List.range i).map f).length = i := by
  rw [List.length_map, List.length_range]
def spCost : Sp := fun vs H Q _ => ∃ (t : V) (x : Int) (s : Slt), vs = [t, .int x] ∧ SltAt H t s ∧ ∀ H', Same H H' → Q (costV s x) H'
def spServes : Sp := fun vs H Q _ => ∃ (a b : Addr) (ws : List V) (ss : List Slt) (xs : List Int), vs = [.ref a, .ref b] ∧ H a = some (.tup ws) ∧ SltsAt H ws ss ∧ H b = some (.tup (xs.map V.int)) ∧ xs.length = ss.length ∧ xs.length ≤ 5000 ∧
  ∀ H', Same H H' → Q (.bl (servesL ss xs)) H'
def spStarts : Sp := fun vs H Q _ => ∃ (b : Addr) (xs : List Int), vs = [.ref b] ∧ H b = some (.tup (xs.map V.int)) ∧ xs.length ≤ 5000 ∧ ∀ H', Same H H' → Q (.int (startsL xs)) H'
def spStops : Sp := fun vs H Q _ => ∃ (b : Addr) (xs : List Int), vs = [.ref b] ∧ H b = some (.tup (xs.map V.int)) ∧ xs.length ≤ 5000 ∧ ∀ H', Same H H' → Q (.int (stopsL xs)) H'
def spRunning : Sp := fun vs H Q _ => ∃ (a b : Addr) (ws : List V) (ss : List Slt) (xs : List Int), vs = [.ref a, .ref b] ∧ H a = some (.tup ws) ∧ SltsAt H ws ss ∧ H b = some (.tup (xs.map V.int)) ∧ xs.length = ss.length ∧ xs.length ≤ 5000 ∧
  ∀ H', Same H H' → Q (if servesL ss xs = true then .int (runL ss xs) else .non) H'
def spRowCost : Sp := fun vs H Q _ => ∃ (a b : Addr) (B : Int) (ws : List V) (ss : List Slt) (xs : List Int), vs = [.ref a, .int B, .ref b] ∧ -(2 ^ 64) < B ∧ B < 2 ^ 64 ∧ H a = some (.tup ws) ∧ SltsAt H ws ss ∧ H b = some (.tup (xs.map V.int)) ∧ xs.length = ss.length ∧ xs.length ≤ 5000 ∧
  ∀ H', Same H H' → Q (if servesL ss xs = true then .int (runL ss xs + B * startsL xs) else .non) H'
/-- what is served is served at each tick -/
theorem serves_at {ss : List Slt} {xs : List Int} (h : servesL ss xs = true) {i : Nat} {s : Slt} {x : Int} (hs : ss[i]? = some s) (hx : xs[i]? = some x) : fitB s x = true := by
  have hi : i < xs.length := (List.getElem?_eq_some_iff.mp hx).1
  have hm : fitB s x ∈ servesB ss xs xs.length := by
    refine List.mem_map.mpr ⟨i, List.mem_range.mpr hi, ?_⟩
    rw [getD_at hs, getD_at hx]
  exact List.all_eq_true.mp h _ hm
end WK
set_option Elab.async false
set_option linter.all false
set_option maxRecDepth 100000
namespace WK
open PySem PySem.Spec PyProof.Rows L2
/-! ### the costs of slots, told in dicts -/
def costK (s : Slt) (n : Nat) : List (Key × V) := (List.range n).map fun (k : Nat) => (Sum.inl (s.need + k), V.int (s.first + (s.slopes.take k).sum))
theorem costK_succ {s : Slt} {n : Nat} : costK s (n + 1) = costK s n ++ [(Sum.inl (s.need + n), V.int (s.first + (s.slopes.take n).sum))] := by
  unfold costK
  rw [mapr_succ]
theorem costK_val {s : Slt} : ∀ {n : Nat} {z : Int}, valV (costK s n) (.inl z) = if s.need ≤ z ∧ z < s.need + n then some (.int (s.first + (s.slopes.take (z - s.need).toNat).sum)) else none
  | 0, z => by
    rw [if_neg (by omega)]
    rfl
  | n + 1, z => by
    have h0 : valV (costK s n) (Sum.inl (s.need + n) : Key) = none := by
      rw [costK_val, if_neg (by omega)]
    rw [costK_succ, valV_snoc _ _ _ _ h0, costK_val]
    by_cases e : z = s.need + n
    · subst e
      rw [if_pos rfl, if_pos (by omega), show (s.need + (n : Int) - s.need).toNat = n by omega]
    · rw [if_neg (fun q => e (Sum.inl.inj q))]
      by_cases h : s.need ≤ z ∧ z < s.need + n
      · rw [if_pos h, if_pos (by omega)]
      · rw [if_neg h, if_neg (by omega)]
theorem costK_put {s : Slt} {n : Nat} : putK (costK s n) (.inl (s.need + n)) (.int (s.first + (s.slopes.take n).sum)) = costK s (n + 1) := by
  rw [putK_new _ (by rw [costK_val, if_neg (by omega)]), costK_succ]
theorem costK_len {s : Slt} {n : Nat} : (costK s n).length = n := mapr_len
def CostAt (H : Hp) (v : V) (s : Slt) : Prop := ∃ d, v = .ref d ∧ H d = some (.dK (costK s (s.slopes.length + 1)))
abbrev CostsAt (H : Hp) : List V → List Slt → Prop := Paired (CostAt H)
theorem CostsAt.mono {H H' : Hp} (k : ∀ b kvs, H b = some (.dK kvs) → H' b = some (.dK kvs)) : ∀ {vs : List V} {ss : List Slt}, CostsAt H vs ss → CostsAt H' vs ss
  | _, _, .nil => .nil
  | _, _, .cons a b => by
    obtain ⟨d, e, h⟩ := a
    exact .cons ⟨d, e, k _ _ h⟩ (CostsAt.mono k b)
theorem CostsAt.len {H : Hp} : ∀ {vs : List V} {ss : List Slt}, CostsAt H vs ss → vs.length = ss.length
  | _, _, .nil => rfl
  | _, _, .cons _ b => congrArg (· + 1) (CostsAt.len b)
theorem CostsAt.snoc {H : Hp} : ∀ {vs : List V} {ss : List Slt} {v : V} {s : Slt}, CostsAt H vs ss → CostAt H v s → CostsAt H (vs ++ [v]) (ss ++ [s])
  | _, _, _, _, .nil, h => .cons h .nil
  | _, _, _, _, .cons a b, h => .cons a (CostsAt.snoc b h)
theorem CostsAt.get {H : Hp} : ∀ {vs : List V} {ss : List Slt} {i : Nat} {v : V}, CostsAt H vs ss → vs[i]? = some v → ∃ s, ss[i]? = some s ∧ CostAt H v s
  | _, _, _, _, .nil, e => by simp at e
  | _, _, 0, v, .cons a _, e => by
    have e : _ = v := Option.some.inj e
    subst e
    exact ⟨_, rfl, a⟩
  | _, _, i + 1, v, .cons _ b, e => CostsAt.get (i := i) b e
theorem dks_upd {H : Hp} {a : Addr} {xs : List V} {o : HO} (h : H a = some (.lst xs)) : ∀ b kvs, H b = some (.dK kvs) → upd H a o b = some (.dK kvs) := fun b ys e => by
  rw [upd_ne (ne_of e h (by intro z; cases z))]
  exact e
theorem take_sum {l : List Int} {i : Nat} {z : Int} (h : l[i]? = some z) : (l.take (i + 1)).sum = (l.take i).sum + z := by
  rw [List.take_add_one, h, List.sum_append]
  simp
def spSlotCosts : Sp := fun vs H Q _ => ∃ (a : Addr) (ws : List V) (ss : List Slt), vs = [.ref a] ∧ H a = some (.tup ws) ∧ SltsAt H ws ss ∧ ss.length ≤ 5000 ∧ (∀ s ∈ ss, s.slopes.length ≤ 5000) ∧
  ∀ (H' : Hp) (l : Addr) (vs' : List V), Same H H' → H l = none → H' l = some (.lst vs') → CostsAt H' vs' ss → (∀ v ∈ vs', ∃ d, v = .ref d ∧ H d = none) → Q (.ref l) H'
theorem CostsAt.off {H H' : Hp} {p c : Addr} (o : Off p c H H') : ∀ {vs : List V} {ss : List Slt}, CostsAt H vs ss → (∀ v ∈ vs, ∃ d, v = .ref d ∧ d ≠ p ∧ d ≠ c) → CostsAt H' vs ss
  | _, _, .nil, _ => .nil
  | _, _, .cons a b, h => by
    obtain ⟨d, e, hd⟩ := a
    obtain ⟨d', e', n1, n2⟩ := h _ (List.mem_cons_self ..)
    rw [e] at e'
    injection e' with e'
    subst e'
    exact .cons ⟨d, e, o _ _ n1 n2 hd⟩ (CostsAt.off o b fun v hv => h v (List.mem_cons_of_mem _ hv))
def spSomeRow : Sp := fun vs H Q _ => ∃ (p c a : Addr) (ws : List V) (ss : List Slt), vs = [.ref p, .ref a] ∧ Src H p c ∧ H a = some (.tup ws) ∧ SltsAt H ws ss ∧ ss.length ≤ 5000 ∧ (∀ s ∈ ss, s.need ≤ s.most ∧ s.most - s.need ≤ 1000) ∧
  ∀ (H' : Hp) (t : Addr) (xs : List Int), Src H' p c → Off p c H H' → H t = none → H' t = some (.tup (xs.map V.int)) → xs.length = ss.length → (∀ (i : Nat) (s : Slt) (x : Int), ss[i]? = some s → xs[i]? = some x → s.need ≤ x ∧ x ≤ s.most) → Q (.ref t) H'
/-- what a price is -/
def priceD (ss : List Slt) (xs : List Int) (B : Int) : List Int := if servesL ss xs = true then [runL ss xs + B * startsL xs] else []
def spPrice : Sp := fun vs H Q _ => ∃ (l b : Addr) (B : Int) (us : List V) (ss : List Slt) (xs : List Int), vs = [.ref l, .ref b, .int B] ∧ -(2 ^ 64) < B ∧ B < 2 ^ 64 ∧ H l = some (.lst us) ∧ CostsAt H us ss ∧ (∀ s ∈ ss, (s.slopes.length : Int) = s.most - s.need ∧ s.need ≤ s.most) ∧ H b = some (.tup (xs.map V.int)) ∧ xs.length = ss.length ∧ xs.length ≤ 5000 ∧
  ∀ (H' : Hp) (t : Addr), Same H H' → H t = none → H' t = some (.lst ((priceD ss xs B).map V.int)) → Q (.ref t) H'
end WK
namespace WK
open PySem PySem.Spec PyProof.Rows L2
def badL (ss : List Slt) (xs : List Int) (i : Nat) : List Int := ((List.range i).filter fun t => !fitB (ss.getD t s0) (xs.getD t 0)).map fun (t : Nat) => (t : Int)
theorem badL_yes {ss : List Slt} {xs : List Int} {i : Nat} {s : Slt} {x : Int} (hs : ss[i]? = some s) (hx : xs[i]? = some x) (h : fitB s x = false) : badL ss xs (i + 1) = badL ss xs i ++ [(i : Int)] := by
  unfold badL
  rw [List.range_succ, List.filter_append, List.map_append, List.filter_cons, if_pos (by rw [getD_at hs, getD_at hx, h]; rfl)]
  rfl
theorem badL_no {ss : List Slt} {xs : List Int} {i : Nat} {s : Slt} {x : Int} (hs : ss[i]? = some s) (hx : xs[i]? = some x) (h : fitB s x = true) : badL ss xs (i + 1) = badL ss xs i := by
  unfold badL
  rw [List.range_succ, List.filter_append, List.map_append, List.filter_cons, if_neg (by rw [getD_at hs, getD_at hx, h]; simp)]
  simp
theorem badL_len {ss : List Slt} {xs : List Int} {i : Nat} : (badL ss xs i).length ≤ i := by
  unfold badL
  rw [List.length_map]
  refine Nat.le_trans (List.length_filter_le _ (List.range i)) ?_
  rw [List.length_range]
  exact Nat.le_refl _
theorem badL_iff {ss : List Slt} {xs : List Int} : badL ss xs xs.length = [] ↔ servesL ss xs = true := by
  unfold badL servesL servesB
  rw [List.map_eq_nil_iff, List.filter_eq_nil_iff, List.all_eq_true]
  constructor
  · intro h b hb
    obtain ⟨t, ht, rfl⟩ := List.mem_map.mp hb
    have := h t ht
    simpa using this
  · intro h t ht
    have := h _ (List.mem_map.mpr ⟨t, ht, rfl⟩)
    simpa using this
theorem cost_in {s : Slt} {x : Int} (hl : (s.slopes.length : Int) = s.most - s.need) : (valV (costK s (s.slopes.length + 1)) (.inl x)).isSome = fitB s x := by
  rw [costK_val]
  unfold fitB
  by_cases h : s.need ≤ x ∧ x ≤ s.most
  · rw [if_pos (by omega), decide_eq_true h.1, decide_eq_true h.2]
    rfl
  · rw [if_neg (by omega)]
    by_cases h1 : s.need ≤ x
    · rw [decide_eq_true h1, decide_eq_false (fun z => h ⟨h1, z⟩)]
      rfl
    · rw [decide_eq_false h1]
      rfl
theorem cost_of {s : Slt} {x : Int} (hl : (s.slopes.length : Int) = s.most - s.need) (h : fitB s x = true) : valV (costK s (s.slopes.length + 1)) (.inl x) = some (.int (costAt s x)) := by
  have h' : s.need ≤ x ∧ x ≤ s.most := by simpa [fitB] using h
  rw [costK_val, if_pos (by omega)]
  rfl
end WK
set_option Elab.async false
set_option linter.all false
set_option maxRecDepth 100000
namespace WK
open PySem PySem.Spec PyProof.Rows L2
theorem seq_R {t u : TS} {D : Ends} {σ : L2.St} {H : Hp} (R : L2.St → Hp → Prop) (key : ∀ σ H, R σ H → u D σ H) (h : ∀ D' : Ends, (∀ σ H, R σ H → D'.nx σ H) → t D' σ H) : tSeq t u D σ H := h _ key
theorem catA {K : PySem.W.Frag} {H : Hp} {Q : VK} {a b : Addr} {xs ys : List V} (ha : H a = some (.tup xs)) (hb : H b = some (.tup ys)) (hl : xs.length + ys.length ≤ sizeLine)
    (k : ∀ p H', Same H H' → H' p = some (.tup (xs ++ ys)) → Q (.ref p) H') : rCatA K (.ref a) (.ref b) H Q := by
  refine ⟨a, b, xs, ys, rfl, rfl, .inl (.inl ha), .inl (.inl hb), hl, fun e => ?_, fun _ e => ?_, fun _ _ p np => k p _ (same_new np) upd_same⟩
  · subst e
    exact k b H (Same.refl _) hb
  · subst e
    refine k a H (Same.refl _) ?_
    rw [List.append_nil]
    exact ha
def within (m : Int) (xs : List Int) : Prop := ∀ x ∈ xs, -m ≤ x ∧ x ≤ m
theorem within_getD {m : Int} {xs : List Int} (h : within m xs) (h0 : 0 ≤ m) (i : Nat) : -m ≤ xs.getD i 0 ∧ xs.getD i 0 ≤ m := by
  rw [List.getD_eq_getElem?_getD]
  match e : xs[i]? with
  | none =>
    show -m ≤ 0 ∧ 0 ≤ m
    omega
  | some z => exact h z (List.mem_of_getElem? e)
theorem up_within {d m : Int} (h : -m ≤ d ∧ d ≤ m) : -m ≤ up d ∧ up d ≤ m := by
  unfold up
  split <;> omega
theorem startsL_b {m : Int} {xs : List Int} (h : within m xs) (h0 : 0 ≤ m) : -(2 * m * xs.length) ≤ startsL xs ∧ startsL xs ≤ 2 * m * xs.length := by
  have := sum_bounds (b := 2 * m) (l := startsT xs xs.length) (fun z hz => by
    obtain ⟨t, _, rfl⟩ := List.mem_map.mp hz
    have a := within_getD h h0 t
    have b := within_getD (m := m) (xs := 0 :: xs) (fun x hx => by
      rcases List.mem_cons.mp hx with e | e
      · rw [e]; omega
      · exact h x e) h0 t
    exact up_within (by omega))
  rw [show (startsT xs xs.length).length = xs.length from mapr_len] at this
  exact this
theorem stopsL_b {m : Int} {xs : List Int} (h : within m xs) (h0 : 0 ≤ m) : -(2 * m * xs.length) ≤ stopsL xs ∧ stopsL xs ≤ 2 * m * xs.length := by
  have := sum_bounds (b := 2 * m) (l := stopsT xs xs.length) (fun z hz => by
    obtain ⟨t, _, rfl⟩ := List.mem_map.mp hz
    have a := within_getD h h0 t
    have b := within_getD (m := m) (xs := 0 :: xs) (fun x hx => by
      rcases List.mem_cons.mp hx with e | e
      · rw [e]; omega
      · exact h x e) h0 t
    exact up_within (by omega))
  rw [show (stopsT xs xs.length).length = xs.length from mapr_len] at this
  exact this
theorem runL_b {B : Int} {ss : List Slt} {xs : List Int} (h : ∀ s ∈ ss, ∀ x, -B ≤ costAt s x ∧ costAt s x ≤ B) (hl : xs.length = ss.length) : -(B * xs.length) ≤ runL ss xs ∧ runL ss xs ≤ B * xs.length := by
  have := sum_bounds (b := B) (l := runT ss xs xs.length) (fun z hz => by
    obtain ⟨t, ht, rfl⟩ := List.mem_map.mp hz
    have ht : t < ss.length := by rw [← hl]; exact List.mem_range.mp ht
    rw [getD_at (List.getElem?_eq_getElem ht)]
    exact h _ (List.getElem_mem ht) _)
  rw [show (runT ss xs xs.length).length = xs.length from mapr_len] at this
  exact this
theorem cost_b {s : Slt} {m b f : Int} (h : s.Ok m b f) (hw : s.most - s.need ≤ 1000) (b0 : 0 ≤ b) (x : Int) : -(f + b * 1000) ≤ costAt s x ∧ costAt s x ≤ f + b * 1000 := by
  have p := h.pos (x - s.need).toNat
  have f1 := h.fst
  have sb := sum_bounds (b := b) (l := s.slopes.take (x - s.need).toNat) fun z hz => h.steep z (List.mem_of_mem_take hz)
  have ll : ((s.slopes.take (x - s.need).toNat).length : Int) ≤ 1000 := by
    rw [List.length_take]
    have := h.len
    omega
  have u : b * ((s.slopes.take (x - s.need).toNat).length : Int) ≤ b * 1000 := Int.mul_le_mul_of_nonneg_left ll b0
  have f0 : 0 ≤ f := by
    have := h.pos 0
    simp only [List.take_zero, List.sum_nil] at this
    omega
  have u0 : 0 ≤ b * 1000 := Int.mul_nonneg b0 (by decide)
  show -(f + b * 1000) ≤ s.first + _ ∧ s.first + _ ≤ f + b * 1000
  omega
/-- what is told of a row -/
def rowD (sv : Bool) (st sp run cost : Int) : PyData := .list [.bool sv, .int st, .int sp, if sv = true then .int run else .none, if sv = true then .int cost else .none]
theorem rowD_shows {sv : Bool} {st sp run cst : Int} (h1 : st.natAbs < 10 ^ 150) (h2 : sp.natAbs < 10 ^ 150) (h3 : run.natAbs < 10 ^ 150) (h4 : cst.natAbs < 10 ^ 150) : Shows (rowD sv st sp run cst) := by
  cases sv with
  | true =>
    refine shows_of ?_ ?_ ?_
    · simp only [rowD, Lil, LilAll, and_true, true_and, if_true]
      exact ⟨h1, h2, h3, h4⟩
    · simp [rowD, PyData.depth, PyData.depthAll]
    · simp only [rowD, WK.cost, costAll, if_true]
      decide
  | false =>
    refine shows_of ?_ ?_ ?_
    · simp only [rowD, Lil, LilAll, and_true, true_and, Bool.false_eq_true, if_false]
      exact ⟨h1, h2⟩
    · simp [rowD, PyData.depth, PyData.depthAll]
    · simp only [rowD, WK.cost, costAll, Bool.false_eq_true, if_false]
      decide
theorem cutset {k : Nat} {xs : List Int} {z : Int} (hk : k < xs.length) : (xs.take k ++ [z] ++ xs.drop (k + 1)).length = xs.length := by
  rw [List.length_append, List.length_append, List.length_take, List.length_drop, List.length_singleton]
  omega
theorem cutset_within {k : Nat} {xs : List Int} {z m m' : Int} (h : within m xs) (hm : m ≤ m') (hz : -m' ≤ z ∧ z ≤ m') : within m' (xs.take k ++ [z] ++ xs.drop (k + 1)) := by
  intro x hx
  rcases List.mem_append.mp hx with hx | hx
  · rcases List.mem_append.mp hx with hx | hx
    · have := h x (List.mem_of_mem_take hx)
      omega
    · rw [List.mem_singleton.mp hx]
      exact hz
  · have := h x (List.mem_of_mem_drop hx)
    omega
end WK
set_option Elab.async false
set_option linter.all false
set_option maxRecDepth 100000
namespace K12
open PySem PySem.Spec PyProof.Rows L2 WK
def topS (i : Nat) : Stmt := PySem.Challenge.pw_wakedenough_k12_costs_of_rows.main.body.getD i (.Pass ⟨0, 0, 0, 0⟩)
abbrev sSource : Stmt := topS 9
abbrev sPick : Stmt := topS 10
abbrev sOf : Stmt := topS 11
theorem scSource : FnScope ["script", "mixed", "cell"] ["script"] (defScope sSource) := ⟨rfl, rfl, rfl, by decide +kernel, rfl, by decide +kernel, by decide +kernel⟩
theorem scPick : FnScope ["source", "many", "left", "mixed"] ["source", "many"] (defScope sPick) := ⟨rfl, rfl, rfl, by decide +kernel, rfl, by decide +kernel, by decide +kernel⟩
theorem scOf : FnScope ["source", "some"] ["source", "some"] (defScope sOf) := ⟨rfl, rfl, rfl, by decide +kernel, rfl, by decide +kernel, by decide +kernel⟩
local macro_rules | `(tactic| walk_at "rd") => `(tactic| repeat (first | refine Exists.intro _ (And.intro rfl ?_) | refine Exists.intro _ (Exists.intro _ (And.intro rfl (And.intro rfl ?_))) | refine Exists.intro _ (Exists.intro _ (And.intro rfl ?_))))
section
variable {P : Program} {w : World} {K : PySem.W.Frag} {mg : Str → Option Value} {base : Heap}
theorem ok_source {f : Addr} {fd : FuncData} (F : Fun K "_law_source" "_law_source" sSource f fd) (B : Blt mg) : FnOk P w K mg base CX0 1 f fd ["script"] (spSource K) := by
  refine F.ok scSource (fun vs H Q E h => ?_) (fun cdv A outer s H vs Q E hr h => ?_)
  · obtain ⟨a, ns, rfl, _⟩ := h
    rfl
  · obtain ⟨a, ns, rfl, hS, hlen, q⟩ := h
    refine ⟨_, pss_cons (ps_set (i := 1) scSource.nd rfl (.inl rfl) pe_int)
      (pss_cons (ps_for PassesOwn.never rfl (pi_list (pv 0)) (pg_name (i := 2) scSource.nd rfl (.inl rfl))
        (pss_one (ps_set (i := 1) scSource.nd rfl (.inl rfl)
          (pe_op op_mod (pe_callTy call_int1 (by rfl) B.int (by decide +kernel) (pa_cons (pe_op op_add (pe_op op_add (pe_op op_mul (pv 1) pe_int) (pe_op op_mul (pv 2) pe_int)) pe_int) pa_nil)) pe_int))))
      (pss_one (ps_ret (pe_disp (pps_cons pe_str (pe_revL (pe_lc (own := [("cell", 2)]) (g := gName 2) rfl scSource.nd (pi_list (pv 0))
          (blkOk_by (own := [("cell", 2)]) (N := ["script", "mixed", "cell"]) (sc := defScope sSource) (by decide +kernel))
          (fun _ _ _ _ _ => pg_name (i := 2) scSource.nd rfl (Or.inl rfl)) (fun _ _ _ _ _ => pts_nil) (fun _ _ _ _ _ => pe_callB call_abs (by rfl) B.abs (by decide +kernel) (pa_cons (pv 2) pa_nil))))
        (pps_cons pe_str pe_int (pps_cons pe_str (pv 1) (pps_cons pe_str pe_int pps_nil)))) (by rfl) (by rfl) (fun z => by cases z) (by decide))))), ?_⟩
    walk_at "rd"
    refine ⟨⟨_, hS⟩, for_list (xs := ns.map V.int) (fun i σ H1 => ∃ m c3, σ = [some (.ref a), some (.int m), c3] ∧ H1 = H) ⟨11, none, rfl, rfl⟩ (fun i σ H1 _ h => ?_) (fun i x σ H1 hx h => ?_) (fun σ H1 h => ?_)⟩
    · obtain ⟨m, c3, rfl, rfl⟩ := h
      exact hS
    · obtain ⟨m, c3, rfl, rfl⟩ := h
      obtain ⟨z, hz, rfl⟩ := int_at hx
      walk_at "rd"
      refine ⟨mulr (by decide), ?_⟩
      walk_at "rd"
      refine ⟨mulr (by decide), ?_⟩
      walk_at "rd"
      refine .inl ?_
      walk_at "rd"
      refine ⟨by show (0 : Int) < 2147483629; decide, ?_⟩
      exact ⟨_, _, rfl, rfl⟩
    · obtain ⟨m, c3, rfl, rfl⟩ := h
      intro p np
      generalize eH : upd _ _ _ = H2
      obtain ⟨s2, e2⟩ := new_of eH np
      walk_at "rd"
      refine ⟨⟨_, s2.seq hS⟩, fun D nD => lc_list (K := K) (a := a) (xs := ns.map V.int) (fun i G => Same H2 G ∧ G D = some (.lst ((ns.take i).map fun z => V.int z.natAbs))) ?_ (fun i G _ h => h.1.seq (s2.seq hS)) (fun i x G hx h => ?_) (fun G h => ?_)⟩
      · exact ⟨same_new nD, upd_same⟩
      · obtain ⟨z, hz, rfl⟩ := int_at hx
        refine yesT rfl ?_
        walk_at "rd"
        refine ⟨_, h.2, ?_, fun b o e => ?_, ?_⟩
        · rw [List.length_map, List.length_take]
          exact small63 (by omega)
        · rw [upd_ne (ne_of_none e nD)]
          exact h.1 _ _ e
        · rw [upd_same, take_snoc hz, abs_eq]
      · obtain ⟨s3, e3⟩ := h
        walk_at "rd"
        refine ⟨_, _, rfl, .inl (.inl e3), fun c nc => ?_⟩
        generalize eH : upd _ _ _ = H4
        obtain ⟨s4, e4⟩ := new_of eH nc
        walk_at "rd"
        refine ⟨s4 _ _ (s3 _ _ e2), [(.inr "cells", .ref c), (.inr "left", .int 1), (.inr "mixed", .int m), (.inr "turn", .int 0)], rfl, (by show 4 ≤ 15; decide), ?_⟩
        have npc : c ≠ p := (ne_of_none (s3 _ _ e2) nc).symm
        refine q _ p c ⟨((ns.map fun z => (z.natAbs : Int)).reverse), 1, m, 0, ?_, ?_⟩ ?_ np ?_
        · rw [upd_same]
          refine congrArg (fun l => some (HO.dK l)) ?_
          simp [mergeK, putK, srcK, k12, k13, k14, k23, k24, k34]
        · rw [upd_ne npc, e4, List.length_map, List.take_length, List.map_reverse, List.map_map]
          rfl
        · intro b o e
          rw [upd_ne (ne_of_none e np)]
          exact s4 _ _ (s3 _ _ (s2 _ _ e))
        · exact (s2.trans s3).free nc
end
section
variable {P : Program} {w : World} {K : PySem.W.Frag} {mg : Str → Option Value} {base : Heap}
theorem ok_pick {f : Addr} {fd : FuncData} (F : Fun K "_law_pick" "_law_pick" sPick f fd) (B : Blt mg) : FnOk P w K mg base CX0 1 f fd ["source", "many"] spPick := by
  refine F.ok scPick (fun vs H Q E h => ?_) (fun cdv A outer s H vs Q E hr h => ?_)
  · obtain ⟨p, c, many, rfl, _⟩ := h
    rfl
  · obtain ⟨p, c, many, rfl, S, hm, q⟩ := h
    have hu := hu_of hr
    refine ⟨_, pss_cons (ps_while PassesOwn.never (PW.pt (pw_and (pt_cmpR op_gt (pv 1) pe_int (nomark _)) (pw_and (pt_cmpR op_lt (pe_dget hu (pv 0) pe_str (fun _ _ => rfl)) pe_int (nomark _))
          (pw_and1 (pt_cmpR op_gt (pe_callB call_len_seq (by rfl) B.len PySem.boot_len (pa_cons (pe_dget hu (pv 0) pe_str (fun _ _ => rfl)) pa_nil)) pe_int (nomark _))))))
        (pss_one (ps_dput hu (pv 0) pe_str (pe_bm0 PySem.F.plainAttrs_list PySem.F.slot_list_pop PySem.F.type_list_pop mt_pop (pe_dget hu (pv 0) pe_str (fun _ _ => rfl))) rfl)))
      (pss_cons (ps_set (i := 2) scPick.nd rfl (.inl rfl) (pe_dget hu (pv 0) pe_str (fun _ _ => rfl)))
      (pss_cons (ps_if (PW.pt (pw_or (pt_cmpR op_lt (pv 1) pe_int (nomark _)) (pw_or1 (pt_cmpR op_gt (pv 2) pe_int (nomark _)))))
        (pss_cons (ps_dput hu (pv 0) pe_str (pe_op op_fdivN (pv 2) (pe_callB (call_max2 rfl) (by rfl) B.max boot_max (pa_cons pe_int (pa_cons (pv 1) pa_nil)))) rfl)
          (pss_one (ps_ret (pe_op op_modN (pe_callTy call_int1 (by rfl) B.int (by decide +kernel) (pa_cons (pv 2) pa_nil)) (pe_callB (call_max2 rfl) (by rfl) B.max boot_max (pa_cons pe_int (pa_cons (pv 1) pa_nil))))))) pss_nil)
      (pss_cons (ps_dput hu (pv 0) pe_str (pe_op op_add (pe_dget hu (pv 0) pe_str (fun _ _ => rfl)) pe_int) rfl)
      (pss_cons (ps_set (i := 3) scPick.nd rfl (.inl rfl) (pe_op op_mod (pe_callTy call_int1 (by rfl) B.int (by decide +kernel) (pa_cons (pe_op op_add (pe_dget hu (pv 0) pe_str (fun _ _ => rfl)) (pe_op op_mul (pe_dget hu (pv 0) pe_str (fun _ _ => rfl)) pe_int)) pa_nil)) pe_int))
      (pss_cons (ps_set (i := 3) scPick.nd rfl (.inl rfl) (pe_op op_mod (pe_callTy call_int1 (by rfl) B.int (by decide +kernel) (pa_cons (pe_op op_add (pe_op op_mul (pv 3) (pv 3)) (pe_op op_mul (pe_dget hu (pv 0) pe_str (fun _ _ => rfl)) pe_int)) pa_nil)) pe_int))
      (pss_cons (ps_dput hu (pv 0) pe_str (pv 3) rfl)
      (pss_one (ps_ret (pe_op op_modN (pe_callTy call_int1 (by rfl) B.int (by decide +kernel) (pa_cons (pe_op op_fdiv (pv 3) pe_int) pa_nil)) (pv 1)))))))))), ?_⟩
    obtain ⟨cells, l, m, t, hp, hc⟩ := S.ex
    have npc := S.ne
    refine while3 (fun n σ H1 => ∃ (cs : List Int) (l : Int), σ = [some (.ref p), some (.int many), none, none] ∧ n = cs.length ∧ H1 p = some (.dK (srcK c l m t)) ∧ H1 c = some (.lst (cs.map V.int)) ∧ Off p c H H1)
      cells.length ⟨cells, l, rfl, rfl, hp, hc, Off.refl p c H⟩ (fun n σ H1 h => ?_) (fun aft n σ H1 h => ?_)
    · -- behind the loop
      obtain ⟨cs, l, rfl, rfl, hp, hc, off⟩ := h
      walk_at "rd"
      refine ⟨_, _, rfl, src_get hp src_left, ?_⟩
      have early : ∀ H2, H2 = upd H1 p (HO.dK (srcK c (l.fdiv (if many > 1 then many else 1)) m t)) → Q (.int (l.fmod (if many > 1 then many else 1))) H2 := by
        rintro H2 rfl
        have hb : 0 < (if many > 1 then many else 1) := by split <;> omega
        refine q _ _ ⟨cs, _, m, t, upd_same, (upd_ne npc.symm).trans hc⟩ (off.trans Off.at_p) (fmod_bounds hb).1 ?_
        have := fmod_bounds (a := l) hb
        by_cases h1 : many > 1
        · rw [if_pos h1] at this ⊢
          exact .inl this.2
        · rw [if_neg h1] at this ⊢
          exact .inr (by omega)
      have hd : CDivN l (if many > 1 then many else 1) := by
        constructor <;> split <;> omega
      walk_at "rd"
      refine ite2 (fun h1 => ?_) (fun h1 => ?_)
      · dsimp only
        refine ifT rfl ?_
        walk_at "rd"
        refine ⟨hd, _, rfl, _, _, rfl, src_put hp rfl put_left rfl, ?_⟩
        walk_at "rd"
        refine .inl ?_
        walk_at "rd"
        exact ⟨hd.1, early _ rfl⟩
      · walk_at "rd"
        refine ite2 (fun h2 => ?_) (fun h2 => ?_)
        · walk_at "rd"
          refine ⟨hd, _, rfl, _, _, rfl, src_put hp rfl put_left rfl, ?_⟩
          walk_at "rd"
          refine .inl ?_
          walk_at "rd"
          exact ⟨hd.1, early _ rfl⟩
        · have hm2 : 2 ≤ many := by
            have := of_decide_eq_false (Bool.eq_false_iff.mpr h1)
            omega
          walk_at "rd"
          refine ⟨_, _, rfl, src_get hp src_turn, ?_⟩
          walk_at "rd"
          refine ⟨_, _, rfl, src_put hp rfl put_turn rfl, ?_⟩
          generalize eH : upd _ _ _ = H2
          obtain ⟨hp2, of2⟩ := chg eH
          have hc2 := (of2 c npc.symm).trans hc
          walk_at "rd"
          refine ⟨_, _, rfl, src_get hp2 src_mixed, ?_⟩
          walk_at "rd"
          refine ⟨_, _, rfl, src_get hp2 src_turn, ?_⟩
          walk_at "rd"
          refine ⟨mulr (by decide), ?_⟩
          walk_at "rd"
          refine .inl ?_
          walk_at "rd"
          refine ⟨by show (0 : Int) < 998244353; decide, ?_⟩
          have mb := Int.emod_lt_of_pos (m + (t + 1) * 104729) (show (0 : Int) < 998244353 by decide)
          have mb0 := Int.emod_nonneg (m + (t + 1) * 104729) (show (998244353 : Int) ≠ 0 by decide)
          walk_at "rd"
          refine ⟨mulr (by omega), ?_⟩
          walk_at "rd"
          refine ⟨_, _, rfl, src_get hp2 src_turn, ?_⟩
          walk_at "rd"
          refine ⟨mulr (by decide), ?_⟩
          walk_at "rd"
          refine .inl ?_
          walk_at "rd"
          refine ⟨by show (0 : Int) < 2147483647; decide, ?_⟩
          walk_at "rd"
          refine ⟨_, _, rfl, src_put hp2 rfl put_mixed rfl, ?_⟩
          generalize eH3 : upd _ _ _ = H3
          obtain ⟨hp3, of3⟩ := chg eH3
          have hc3 := (of3 c npc.symm).trans hc2
          walk_at "rd"
          refine ⟨by constructor <;> decide, ?_⟩
          walk_at "rd"
          refine .inl ?_
          walk_at "rd"
          refine ⟨by omega, ?_⟩
          have fb := fun a : Int => fmod_bounds (a := a) (show 0 < many by omega)
          refine q _ _ ⟨cs, _, _, _, hp3, hc3⟩ (off.trans (fun b o h1 h2 e => ?_)) (fb _).1 (.inl (fb _).2)
          rw [of3 b h1, of2 b h1]
          exact e
    · obtain ⟨cs, l, rfl, rfl, hp, hc, off⟩ := h
      walk_at "rd"
      refine ite2 (fun h1 => ?_) (fun h1 => ?_)
      · walk_at "rd"
        refine ⟨_, _, rfl, src_get hp src_left, ?_⟩
        walk_at "rd"
        refine ite2 (fun h2 => ?_) (fun h2 => ?_)
        · walk_at "rd"
          refine ⟨_, _, rfl, src_get hp src_cells, ?_⟩
          refine ⟨_, _, rfl, .inl (.inl (.inl hc)), ?_⟩
          walk_at "rd"
          refine ite2 (fun h3 => ?_) (fun h3 => ?_)
          · refine ⟨_, fun σ' H' h => ⟨cs.length - 1, ?_, h⟩, ?_⟩
            · have := of_decide_eq_true h3
              rw [List.length_map] at this
              omega
            · walk_at "rd"
              refine ⟨_, _, rfl, src_get hp src_cells, ?_⟩
              have hne : cs ≠ [] := by
                rintro rfl
                exact absurd (of_decide_eq_true h3) (by decide)
              obtain ⟨z, hz⟩ : ∃ z, cs[cs.length - 1]? = some z := by
                refine ⟨cs[cs.length - 1]'(by have := List.length_pos_iff.mpr hne; omega), ?_⟩
                rw [List.getElem?_eq_getElem]
              refine ⟨.inl ⟨rfl, _, .inl (.inl hc)⟩, _, _, .int z, rfl, rfl, hc, ?_, ?_⟩
              · rw [List.length_map, List.getElem?_map, hz]
                rfl
              generalize eH : upd _ _ _ = H2
              obtain ⟨hc2, of2⟩ := chg eH
              have hp2 := (of2 p npc).trans hp
              refine ⟨_, rfl, _, _, rfl, src_put hp2 rfl put_left rfl, cs.dropLast, z, rfl, ?_, upd_same, ?_, off.trans (fun b o h1 h2 e => ?_)⟩
              · rw [List.length_dropLast]
              · rw [upd_ne npc.symm, hc2, List.map_dropLast]
              · rw [upd_ne h1, of2 b h2]
                exact e
          · exact aft _ _ _ ⟨cs, l, rfl, rfl, hp, hc, off⟩
        · exact aft _ _ _ ⟨cs, l, rfl, rfl, hp, hc, off⟩
      · exact aft _ _ _ ⟨cs, l, rfl, rfl, hp, hc, off⟩
end
/-- the draws' defs as they stand -/
structure Drw (K : PySem.W.Frag) (mg : Str → Option Value) (fP fO : Addr) (fdP fdO : FuncData) : Prop where
  FP : Fun K "_law_pick" "_law_pick" sPick fP fdP
  bP : Binds K fdP ["source", "many"] []
  gP : mg "_law_pick" = some (.ref fP)
  FO : Fun K "_law_of" "_law_of" sOf fO fdO
  bO : Binds K fdO ["source", "some"] []
  gO : mg "_law_of" = some (.ref fO)
section
variable {P : Program} {w : World} {K : PySem.W.Frag} {mg : Str → Option Value} {base : Heap}
theorem ok_of {f fP fO : Addr} {fd fdP fdO : FuncData} (F : Fun K "_law_of" "_law_of" sOf f fd) (D : Drw K mg fP fO fdP fdO) (B : Blt mg) : FnOk P w K mg base CX0 2 f fd ["source", "some"] (spOf K) := by
  have GP : FnOk P w K mg base CX0 1 fP fdP ["source", "many"] spPick := ok_pick D.FP B
  refine F.ok scOf (fun vs H Q E h => ?_) (fun cdv A outer s H vs Q E hr h => ?_)
  · obtain ⟨p, c, l, xs, rfl, _⟩ := h
    rfl
  · obtain ⟨p, c, l, xs, rfl, S, hl, hne, hlen, q⟩ := h
    refine ⟨_, pss_one (ps_ret (pe_ix ix_seq (pv 1) (pe_call GP hr (by rfl) D.gP D.FP.kp D.bP .nil pass0 (pa_cons (pv 0) (pa_cons (pe_callB call_len_seq (by rfl) B.len PySem.boot_len (pa_cons (pv 1) pa_nil)) pa_nil))) (fun _ _ => rfl))), ?_⟩
    walk_at "rd"
    refine ⟨_, _, rfl, hl H (Off.refl p c H), p, c, _, rfl, S, by omega, fun H' r S' off r0 r1 => ?_⟩
    have hpos : 0 < xs.length := List.length_pos_iff.mpr hne
    have hr2 : r.toNat < xs.length := by omega
    have hat : atI xs r = some xs[r.toNat] := at_of (j := r.toNat) (by omega) (List.getElem?_eq_getElem hr2)
    rcases hl H' off with a | a
    · exact .inl ⟨_, _, _, _, rfl, rfl, a, hat, q H' _ (List.getElem_mem hr2) S' off⟩
    · exact .inr (.inl ⟨_, _, _, _, rfl, rfl, a, hat, q H' _ (List.getElem_mem hr2) S' off⟩)
end
end K12
set_option Elab.async false
set_option linter.all false
set_option maxRecDepth 100000
set_option maxHeartbeats 4000000
namespace K12
open PySem PySem.Spec PyProof.Rows L2 WK
local macro_rules | `(tactic| walk_at "rd") => `(tactic| repeat (first | refine Exists.intro _ (And.intro rfl ?_) | refine Exists.intro _ (Exists.intro _ (And.intro rfl (And.intro rfl ?_))) | refine Exists.intro _ (Exists.intro _ (And.intro rfl ?_))))
abbrev sSlots : Stmt := topS 12
theorem scSlots : FnScope ["source", "ticks", "most", "found", "lap", "need", "many", "steep", "slopes", "low", "k"] ["source", "ticks", "most"] (defScope sSlots) := ⟨rfl, rfl, rfl, by decide +kernel, rfl, by decide +kernel, by decide +kernel⟩
section
variable {P : Program} {w : World} {K : PySem.W.Frag} {mg : Str → Option Value} {base : Heap}
theorem ok_slots {f fP fO : Addr} {fd fdP fdO : FuncData} (F : Fun K "_law_draw_slots" "_law_draw_slots" sSlots f fd) (D : Drw K mg fP fO fdP fdO) (B : Blt mg) : FnOk P w K mg base CX0 3 f fd ["source", "ticks", "most"] spSlots := by
  have GP : FnOk P w K mg base CX0 1 fP fdP ["source", "many"] spPick := ok_pick D.FP B
  have GO : FnOk P w K mg base CX0 2 fO fdO ["source", "some"] (spOf K) := ok_of D.FO D B
  refine F.ok scSlots (fun vs H Q E h => ?_) (fun cdv A outer s H vs Q E hr h => ?_)
  · obtain ⟨p, c, ticks, most, rfl, _⟩ := h
    rfl
  · obtain ⟨p, c, ticks, most, rfl, S, ht, hm0, hm1, q⟩ := h
    have hrO := hr
    have hrP := hr.mono (show 1 ≤ 2 by decide)
    have hu64 := hr.units
    refine ⟨_, (pss_cons (ps_set (i := 3) scSlots.nd rfl (.inl rfl) (pe_lst pa_nil))
      (pss_cons (ps_for PassesOwn.never rfl (pi_range1 rfl B.range (pa_cons (pv 1) pa_nil)) (pg_name (i := 4) scSlots.nd rfl (.inl rfl))
        (pss_cons (ps_set (i := 5) scSlots.nd rfl (.inl rfl) (pe_ifExp (pt_cmpR op_eq (pe_call GP hrP (by rfl) D.gP D.FP.kp D.bP .nil pass0 (pa_cons (pv 0) (pa_cons pe_int pa_nil))) pe_int (nomark _)) (pe_call GP hrP (by rfl) D.gP D.FP.kp D.bP .nil pass0 (pa_cons (pv 0) (pa_cons (pe_op op_add (pv 2) pe_int) pa_nil))) pe_int))
        (pss_cons (ps_set (i := 6) scSlots.nd rfl (.inl rfl) (pe_op op_add (pv 5) (pe_call GP hrP (by rfl) D.gP D.FP.kp D.bP .nil pass0 (pa_cons (pv 0) (pa_cons (pe_op op_add (pe_op op_sub (pv 2) (pv 5)) pe_int) pa_nil)))))
        (pss_cons (ps_set (i := 7) scSlots.nd rfl (.inr rfl) (pe_call GO hrO (by rfl) D.gO D.FO.kp D.bO .nil pass0 (pa_cons (pv 0) (pa_cons (pe_lst (pa_cons pe_int (pa_cons pe_int (pa_cons pe_int pa_nil)))) pa_nil))))
        (pss_cons (ps_set (i := 8) scSlots.nd rfl (.inr rfl) (pe_callB (r := rSortedI K) cr_sortedI (by rfl) B.sorted (by decide +kernel) (pa_cons (pe_lc (own := [("k", 10)]) (g := gName 10) rfl scSlots.nd (pi_range1 rfl B.range (pa_cons (pe_op op_sub (pv 6) (pv 5)) pa_nil)) (blkOk_by (own := [("k", 10)]) (N := ["source", "ticks", "most", "found", "lap", "need", "many", "steep", "slopes", "low", "k"]) (sc := defScope sSlots) (by decide +kernel)) (fun _ _ _ _ _ => (pg_name (i := 10) scSlots.nd rfl (.inl rfl))) (fun _ _ _ _ _ => pts_nil) (fun _ _ _ _ _ => (pe_op op_sub (pe_call GP hrP (by rfl) D.gP D.FP.kp D.bP .nil pass0 (pa_cons (pv 0) (pa_cons (pe_op op_add (pe_op op_mul pe_int (pv 7)) pe_int) pa_nil))) (pv 7)))) pa_nil)))
        (pss_cons (ps_set (i := 9) scSlots.nd rfl (.inl rfl) (pe_callB (r := rMin K) (cr_min rfl) (by rfl) B.min (by decide +kernel) (pa_cons (pe_op op_cat (pe_lst (pa_cons pe_int pa_nil)) (pe_lc (own := [("k", 10)]) (g := gName 10) rfl scSlots.nd (pi_range1 rfl B.range (pa_cons (pe_callB call_len_seq (by rfl) B.len PySem.boot_len (pa_cons (pv 8) pa_nil)) pa_nil)) (blkOk_by (own := [("k", 10)]) (N := ["source", "ticks", "most", "found", "lap", "need", "many", "steep", "slopes", "low", "k"]) (sc := defScope sSlots) (by decide +kernel)) (fun _ _ _ _ _ => (pg_name (i := 10) scSlots.nd rfl (.inl rfl))) (fun _ _ _ _ _ => pts_nil) (fun _ _ _ _ _ => (pe_callB (r := rSum K) (cr_sum rfl) (by rfl) B.sum (by decide +kernel) (pa_cons (pe_slice (r := rSlL K) sl_list (pv 8) po_none (po_some (pe_op op_add (pv 10) pe_int))) pa_nil))))) pa_nil)))
        (pss_one (ps_expr (pe_bm PySem.F.plainAttrs_list PySem.F.slot_list_append PySem.F.type_list_append mt_append (pv 3) (pa_cons (pe_tup (pa_cons (pv 5) (pa_cons (pv 6) (pa_cons (pe_op op_sub (pe_call GP hrP (by rfl) D.gP D.FP.kp D.bP .nil pass0 (pa_cons (pv 0) (pa_cons pe_int pa_nil))) (pv 9)) (pa_cons (pe_callTy call_tuple_of (by rfl) B.tuple (by decide +kernel) (pa_cons (pv 8) pa_nil)) pa_nil))))) pa_nil))))))))))
      (pss_one (ps_ret (pe_callTy call_tuple_of (by rfl) B.tuple (by decide +kernel) (pa_cons (pv 3) pa_nil)))))), ?_⟩
    walk_at "rd"
    refine ⟨Nat.zero_le _, fun fa nfa => ?_⟩
    generalize eH : upd _ _ _ = H1
    obtain ⟨s1, e1⟩ := new_of eH nfa
    walk_at "rd"
    refine ⟨by omega, by omega, for_range (lo := 0) (n := (ticks : Int).toNat) (fun i σ G => ∃ (x4 x5 x6 x7 x8 x9 x10 : Option V) (ws : List V) (ss : List Slt), σ = [some (.ref p), some (.int ticks), some (.int most), some (.ref fa), x4, x5, x6, x7, x8, x9, x10] ∧
      Src G p c ∧ Off p c H G ∧ G fa = some (.lst ws) ∧ SltsAt G ws ss ∧ ss.length = i ∧ (∀ s ∈ ss, s.Ok most 8 (3 + 8 * most))) ⟨none, none, none, none, none, none, none, [], [], rfl, S.same s1, Same.off s1, e1, .nil, rfl, by simp⟩ (fun i σ G hi h => ?_) (fun σ G h => ?_)⟩
    · obtain ⟨x4, x5, x6, x7, x8, x9, x10, ws, ss, rfl, S1, o1, e1, hs, hl, hok⟩ := h
      have fp := S.ne_p nfa
      have fc := S.ne_c nfa
      -- need
      refine tif_R (fun v G' => ∃ z, v = .int z ∧ 0 ≤ z ∧ z ≤ most ∧ Src G' p c ∧ Off p c G G') (fun v G' h => ?_) (fun Q' hQ => ?_)
      · obtain ⟨need, rfl, n0, n1, S2, o2⟩ := h
        walk_at "rd"
        refine ⟨p, c, _, rfl, S2, by omega, fun G3 r S3 o3 r0 r1 => ?_⟩
        have r1 : r ≤ most - need := by omega
        have hi : i < ticks := by omega
        generalize hmany : need + r = many
        walk_at "rd"
        refine ⟨by show 3 ≤ sizeLine; decide, fun l1 nl1 => ?_⟩
        generalize eH : upd _ _ _ = G4
        obtain ⟨g4, e4⟩ := new_of eH nl1
        walk_at "rd"
        refine ⟨p, c, l1, _, rfl, S3.same g4, fun G' o => .inl (.inl (.inl (o _ _ (S3.ne_p nl1) (S3.ne_c nl1) e4))), by simp, by show 3 ≤ 100000; decide, fun G5 x hx S5 o5 => ?_⟩
        obtain ⟨steep, rfl, t0, t1⟩ : ∃ z, x = .int z ∧ 1 ≤ z ∧ z ≤ 8 := by
          simp only [List.mem_cons, List.not_mem_nil, or_false] at hx
          rcases hx with rfl | rfl | rfl <;> exact ⟨_, rfl, by omega, by omega⟩
        have o15 : Off p c G G5 := ((o2.trans o3).trans (Same.off g4)).trans o5
        clear o2 o3 g4 e4 o5 hx eH
        -- slopes
        walk_at "rd"
        refine ⟨by omega, by omega, fun D1 nD1 => lc_range (lo := 0) (n := (need + r - need).toNat) (fun j J => ∃ zs : List Int, J D1 = some (.lst (zs.map V.int)) ∧ zs.length = j ∧ (∀ z ∈ zs, -8 ≤ z ∧ z ≤ 8) ∧ Src J p c ∧ Off p c G5 J) ?_ (fun j J hj h => ?_) (fun J h => ?_)⟩
        · exact ⟨[], upd_same, rfl, by simp, S5.upd_new (S5.ne_p nD1) (S5.ne_c nD1), Same.off (same_new nD1)⟩
        · obtain ⟨zs, k1, k2, k3, S6, o6⟩ := h
          refine yesT rfl ?_
          walk_at "rd"
          refine ⟨mulr (by omega), ?_⟩
          walk_at "rd"
          refine ⟨p, c, _, rfl, S6, by omega, fun J2 r2 S7 o7 u0 u1 => ?_⟩
          have k1 := o7 _ _ (S5.ne_p nD1) (S5.ne_c nD1) k1
          walk_at "rd"
          refine ⟨_, k1, ?_, zs ++ [r2 - steep], ?_, ?_, ?_, S7.upd_new (S5.ne_p nD1) (S5.ne_c nD1), (o6.trans o7).new nD1⟩
          · rw [List.length_map, k2]
            exact many_small (by omega)
          · rw [upd_same, List.map_append]
            rfl
          · rw [List.length_append, k2]
            rfl
          · intro z hz
            rcases List.mem_append.mp hz with hz | hz
            · exact k3 z hz
            · rw [List.mem_singleton.mp hz]
              omega
        · obtain ⟨zs, k1, k2, k3, S6, o6⟩ := h
          walk_at "rd"
          refine ⟨_, _, rfl, .inl (.inl k1), fun zs' sp perm asc nsp => ?_⟩
          have zl : zs'.length = r.toNat := by
            rw [perm.length_eq, k2, show need + r - need = r by omega]
          have z8 : ∀ z ∈ zs', -8 ≤ z ∧ z ≤ 8 := fun z hz => k3 z (perm.mem_iff.mp hz)
          generalize eH : upd _ _ _ = G6
          obtain ⟨g6, e6⟩ := new_of eH nsp
          have spp := S6.ne_p nsp
          have spc := S6.ne_c nsp
          have S6 := S6.same g6
          have o6 := (o15.trans o6).trans (Same.off g6)
          clear k1 k2 k3 perm eH g6
          -- low
          walk_at "rd"
          refine ⟨by show 1 ≤ sizeLine; decide, fun l2 nl2 => ?_⟩
          generalize eH : upd _ _ _ = G7
          obtain ⟨g7, e7⟩ := new_of eH nl2
          have e6 := g7 _ _ e6
          walk_at "rd"
          refine ⟨_, _, rfl, .inl (.inl (.inl e6)), ?_⟩
          walk_at "rd"
          refine ⟨by rw [List.length_map]; omega, by rw [List.length_map]; omega, fun D2 nD2 => lc_range (lo := 0) (n := ((zs'.map V.int).length : Int).toNat) (fun j J => Same G7 J ∧ J D2 = some (.lst ((sumsL zs' j).map V.int))) ?_ (fun j J hj h => ?_) (fun J h => ?_)⟩
          · exact ⟨same_new nD2, upd_same⟩
          · obtain ⟨sj, k1⟩ := h
            refine yesT rfl ?_
            walk_at "rd"
            refine ⟨_, _, rfl, .inl (.inl (sj _ _ e6)), fun l3 nl3 => ?_⟩
            generalize eH : upd _ _ _ = J2
            obtain ⟨j2, k2⟩ := new_of eH nl3
            have ex : ((0 : Int) + (j : Nat) + 1) = ((j + 1 : Nat) : Int) := by omega
            rw [ex, cut_take, ← List.map_take] at k2
            refine ⟨_, _, rfl, .inl (.inl k2), ?_⟩
            refine ⟨_, j2 _ _ k1, ?_, fun b o e => ?_, ?_⟩
            · rw [List.length_map, sumsL_len]
              rw [List.length_map] at hj
              exact many_small (by omega)
            · rw [upd_ne (ne_of_none e nD2)]
              exact j2 _ _ (sj _ _ e)
            · rw [upd_same, sumsL_succ, List.map_append]
              rfl
          · obtain ⟨s8, k1⟩ := h
            rw [List.length_map, Int.toNat_natCast] at k1
            refine ⟨_, _, _, _, rfl, rfl, s8 _ _ e7, k1, ?_, fun l4 nl4 => ?_⟩
            · rw [List.length_map, sumsL_len]
              show 1 + zs'.length ≤ sizeLine
              exact Nat.le_of_lt (many_small (by omega))
            generalize eH : upd _ _ _ = G9
            obtain ⟨g9, e9⟩ := new_of eH nl4
            have e6 := g9 _ _ (s8 _ _ e6)
            have e9 : G9 l4 = some (.lst ((0 :: sumsL zs' zs'.length).map V.int)) := e9
            refine ⟨_, _, rfl, .inl (.inl e9), by simp, fun low hl1 hl2 => ?_⟩
            have lo0 : low ≤ 0 := hl2 0 (List.mem_cons_self ..)
            have lo8 := low_ge (b := 8) (by decide) z8 hl1
            have los := low_le hl2
            have S9 := ((S6.same g7).same s8).same g9
            have o9 := ((o6.trans (Same.off g7)).trans (Same.off s8)).trans (Same.off g9)
            clear hl1 hl2 e9 k1 e7 g7 s8 g9 eH
            -- found.append
            have f9 := o9 _ _ fp fc e1
            walk_at "rd"
            refine ⟨.inl ⟨rfl, _, .inl (.inl f9)⟩, ?_⟩
            walk_at "rd"
            refine ⟨p, c, 4, rfl, S9, by decide, fun G10 r4 S10 o10 v0 v1 => ?_⟩
            have f10 := o10 _ _ fp fc f9
            have e10 := o10 _ _ spp spc e6
            walk_at "rd"
            refine ⟨_, _, rfl, .inl ⟨.inl (.inl e10), fun u nu => ?_⟩⟩
            generalize eH : upd _ _ _ = G11
            obtain ⟨g11, e11⟩ := new_of eH nu
            walk_at "rd"
            refine ⟨by show 4 ≤ sizeLine; decide, fun t nt => ?_⟩
            generalize eH : upd _ _ _ = G12
            obtain ⟨g12, e12⟩ := new_of eH nt
            have f12 := g12 _ _ (g11 _ _ f10)
            have S12 := (S10.same g11).same g12
            have o12 := ((o9.trans o10).trans (Same.off g11)).trans (Same.off g12)
            have hs12 : SltsAt G12 ws ss := hs.mono (o12.tups S1)
            refine ⟨_, _, _, rfl, rfl, f12, ?_, ?_⟩
            · rw [hs.len, hl]
              exact many_small (by omega)
            have tu := tups_upd (o := .lst (ws ++ [.ref t])) f12
            refine ⟨_, _, _, _, _, _, _, _, ss ++ [⟨need, need + r, r4 - low, zs'⟩], rfl, S12.upd_new fp fc, (o1.trans o12).new nfa, upd_same, (hs12.mono tu).snoc ⟨t, u, rfl, tu _ _ e12, tu _ _ (g12 _ _ e11)⟩, ?_, ?_⟩
            · rw [List.length_append, hl]
              rfl
            · intro s hsm
              rcases List.mem_append.mp hsm with hsm | hsm
              · exact hok s hsm
              · rw [List.mem_singleton.mp hsm]
                constructor
                · exact n0
                · show need ≤ need + r
                  omega
                · show need + r ≤ most
                  omega
                · show (zs'.length : Int) = need + r - need
                  omega
                · exact z8
                · exact asc
                · intro k
                  have := los k
                  show 0 ≤ r4 - low + (zs'.take k).sum
                  omega
                · show r4 - low ≤ 3 + 8 * most
                  omega
      · walk_at "rd"
        refine ⟨p, c, 3, rfl, S1, by decide, fun G2 w S2 o2 w0 w1 => ?_⟩
        walk_at "rd"
        refine ⟨rfl, ?_⟩
        walk_at "rd"
        refine ite2 (fun _ => ?_) (fun _ => ?_)
        · walk_at "rd"
          refine ⟨p, c, _, rfl, S2, by omega, fun G3 r S3 o3 r0 r1 => ?_⟩
          exact hQ _ _ ⟨r, rfl, r0, by omega, S3, o2.trans o3⟩
        · exact hQ _ _ ⟨0, rfl, Int.le_refl _, hm0, S2, o2⟩
    · obtain ⟨x4, x5, x6, x7, x8, x9, x10, ws, ss, rfl, S1, o1, e1, hs, hl, hok⟩ := h
      walk_at "rd"
      refine ⟨_, _, rfl, .inl ⟨.inl (.inl e1), fun t nt => ?_⟩⟩
      generalize eH : upd _ _ _ = G2
      obtain ⟨g2, e2⟩ := new_of eH nt
      exact q G2 t ws ss (S1.same g2) (o1.trans (Same.off g2)) e2 (S1.free o1 nt) (hs.mono (Same.tups g2)) (by rw [hl, Int.toNat_natCast]) hok
end
end K12
set_option Elab.async false
set_option linter.all false
set_option maxRecDepth 100000
set_option maxHeartbeats 4000000
namespace K12
open PySem PySem.Spec PyProof.Rows L2 WK
local macro_rules | `(tactic| walk_at "rd") => `(tactic| repeat (first | refine Exists.intro _ (And.intro rfl ?_) | refine Exists.intro _ (Exists.intro _ (And.intro rfl (And.intro rfl ?_))) | refine Exists.intro _ (Exists.intro _ (And.intro rfl ?_))))
abbrev sGreat : Stmt := topS 13
theorem scGreat : FnScope ["source", "ticks", "most", "slots", "far", "by", "found", "need", "high", "first", "slopes", "slope"] ["source", "ticks", "most"] (defScope sGreat) := ⟨rfl, rfl, rfl, by decide +kernel, rfl, by decide +kernel, by decide +kernel⟩
structure Drs (K : PySem.W.Frag) (mg : Str → Option Value) (fP fO fSl : Addr) (fdP fdO fdSl : FuncData) : Prop extends Drw K mg fP fO fdP fdO where
  FSl : Fun K "_law_draw_slots" "_law_draw_slots" sSlots fSl fdSl
  bSl : Binds K fdSl ["source", "ticks", "most"] []
  gSl : mg "_law_draw_slots" = some (.ref fSl)
section
variable {P : Program} {w : World} {K : PySem.W.Frag} {mg : Str → Option Value} {base : Heap}
theorem ok_great {f fP fO fSl : Addr} {fd fdP fdO fdSl : FuncData} (F : Fun K "_law_great_slots" "_law_great_slots" sGreat f fd) (D : Drs K mg fP fO fSl fdP fdO fdSl) (B : Blt mg) : FnOk P w K mg base CX0 4 f fd ["source", "ticks", "most"] spGreat := by
  have GO : FnOk P w K mg base CX0 2 fO fdO ["source", "some"] (spOf K) := ok_of D.FO D.toDrw B
  have GSl : FnOk P w K mg base CX0 3 fSl fdSl ["source", "ticks", "most"] spSlots := ok_slots D.FSl D.toDrw B
  refine F.ok scGreat (fun vs H Q E h => ?_) (fun cdv A outer s H vs Q E hr h => ?_)
  · obtain ⟨p, c, ticks, most, rfl, _⟩ := h
    rfl
  · obtain ⟨p, c, ticks, most, rfl, S, ht, hm0, hm1, q⟩ := h
    have hrO := hr.mono (show 2 ≤ 3 by decide)
    have hrSl := hr
    refine ⟨_, (pss_cons (ps_par (i := 3) (j := 4) rfl scGreat.nd rfl rfl (by decide) rfl rfl (pa_cons (pe_call GSl hrSl (by rfl) D.gSl D.FSl.kp D.bSl .nil pass0 (pa_cons (pv 0) (pa_cons (pv 1) (pa_cons (pv 2) pa_nil)))) (pa_cons (pe_call GO hrO (by rfl) D.gO D.FO.kp D.bO .nil pass0 (pa_cons (pv 0) (pa_cons (pe_lst (pa_cons pe_int (pa_cons pe_int (pa_cons pe_int (pa_cons pe_int (pa_cons (pe_op op_sub (pe_op op_pow pe_int pe_int) (pv 2)) pa_nil)))))) pa_nil))) pa_nil)) (by rfl))
      (pss_cons (ps_set (i := 5) scGreat.nd rfl (.inr rfl) (pe_call GO hrO (by rfl) D.gO D.FO.kp D.bO .nil pass0 (pa_cons (pv 0) (pa_cons (pe_lst (pa_cons pe_int (pa_cons pe_int (pa_cons pe_int (pa_cons (pe_op op_pow pe_int pe_int) (pa_cons (pe_op op_pow pe_int pe_int) pa_nil)))))) pa_nil))))
      (pss_cons (ps_set (i := 6) scGreat.nd rfl (.inl rfl) (pe_lst pa_nil))
      (pss_cons (ps_for PassesOwn.never rfl (pi_tup (pv 3)) (pg_tup rfl (pgs_cons (pg_name (i := 7) scGreat.nd rfl (.inl rfl)) (pgs_cons (pg_name (i := 8) scGreat.nd rfl (.inl rfl)) (pgs_cons (pg_name (i := 9) scGreat.nd rfl (.inl rfl)) (pgs_cons (pg_name (i := 10) scGreat.nd rfl (.inl rfl)) pgs_nil)))))
        (pss_one (ps_expr (pe_bm PySem.F.plainAttrs_list PySem.F.slot_list_append PySem.F.type_list_append mt_append (pv 6) (pa_cons (pe_tup (pa_cons (pe_op op_add (pv 7) (pv 4)) (pa_cons (pe_op op_add (pv 8) (pv 4)) (pa_cons (pe_op op_mul (pv 9) (pv 5)) (pa_cons (pe_callTy call_tuple_of (by rfl) B.tuple (by decide +kernel) (pa_cons (pe_lc (own := [("slope", 11)]) (g := gName 11) rfl scGreat.nd (pi_tup (pv 10)) (blkOk_by (own := [("slope", 11)]) (N := ["source", "ticks", "most", "slots", "far", "by", "found", "need", "high", "first", "slopes", "slope"]) (sc := defScope sGreat) (by decide +kernel)) (fun _ _ _ _ _ => (pg_name (i := 11) scGreat.nd rfl (.inl rfl))) (fun _ _ _ _ _ => pts_nil) (fun _ _ _ _ _ => (pe_op op_mul (pv 11) (pv 5)))) pa_nil)) pa_nil))))) pa_nil)))))
      (pss_one (ps_ret (pe_callTy call_tuple_of (by rfl) B.tuple (by decide +kernel) (pa_cons (pv 6) pa_nil)))))))), ?_⟩
    walk_at "rd"
    refine ⟨p, c, ticks, most, rfl, S, ht, hm0, hm1, fun H1 t ws ss S1 o1 e1 nt hs hl hok => ?_⟩
    walk_at "rd"
    refine ⟨⟨by decide, by decide, by decide⟩, ?_⟩
    walk_at "rd"
    refine ⟨by show 5 ≤ sizeLine; decide, fun l1 nl1 => ?_⟩
    generalize eH : upd _ _ _ = H2
    obtain ⟨g2, e2⟩ := new_of eH nl1
    walk_at "rd"
    refine ⟨p, c, l1, _, rfl, S1.same g2, fun G' o => .inl (.inl (.inl (o _ _ (S1.ne_p nl1) (S1.ne_c nl1) e2))), by simp, by show 5 ≤ 100000; decide, fun H3 x hx S3 o3 => ?_⟩
    obtain ⟨far, rfl, t0, t1⟩ : ∃ z, x = .int z ∧ 0 ≤ z ∧ z + most ≤ 1000000 := by
      simp only [List.mem_cons, List.not_mem_nil, or_false] at hx
      rcases hx with rfl | rfl | rfl | rfl | rfl
      · exact ⟨_, rfl, by omega, by omega⟩
      · exact ⟨_, rfl, by omega, by omega⟩
      · exact ⟨_, rfl, by omega, by omega⟩
      · exact ⟨_, rfl, by omega, by omega⟩
      · refine ⟨_, rfl, ?_, ?_⟩
        · show 0 ≤ (10 : Int) ^ (6 : Int).toNat - most
          have : (10 : Int) ^ (6 : Int).toNat = 1000000 := by decide
          omega
        · show (10 : Int) ^ (6 : Int).toNat - most + most ≤ 1000000
          have : (10 : Int) ^ (6 : Int).toNat = 1000000 := by decide
          omega
    have hs3 := hs.mono ((Same.tups g2).trans (o3.tups (S1.same g2)))
    have e3 := o3.tup (S1.same g2) (g2 _ _ e1)
    have o13 := (o1.trans (Same.off g2)).trans o3
    clear hs o1 g2 o3 hx e2 e1 eH
    walk_at "rd"
    refine ⟨⟨by decide, by decide, by decide⟩, ?_⟩
    walk_at "rd"
    refine ⟨⟨by decide, by decide, by decide⟩, ?_⟩
    refine ⟨by show 5 ≤ sizeLine; decide, fun l2 nl2 => ?_⟩
    generalize eH : upd _ _ _ = H4
    obtain ⟨g4, e4⟩ := new_of eH nl2
    walk_at "rd"
    refine ⟨p, c, l2, _, rfl, S3.same g4, fun G' o => .inl (.inl (.inl (o _ _ (S3.ne_p nl2) (S3.ne_c nl2) e4))), by simp, by show 5 ≤ 100000; decide, fun H5 x hx S5 o5 => ?_⟩
    obtain ⟨by1, rfl, b0, b1⟩ : ∃ z, x = .int z ∧ 1 ≤ z ∧ z ≤ 10000000000 := by
      simp only [List.mem_cons, List.not_mem_nil, or_false] at hx
      rcases hx with rfl | rfl | rfl | rfl | rfl
      · exact ⟨_, rfl, by omega, by omega⟩
      · exact ⟨_, rfl, by omega, by omega⟩
      · exact ⟨_, rfl, by omega, by omega⟩
      · exact ⟨_, rfl, by decide, by decide⟩
      · exact ⟨_, rfl, by decide, by decide⟩
    have hs5 := hs3.mono ((Same.tups g4).trans (o5.tups (S3.same g4)))
    have e5 := o5.tup (S3.same g4) (g4 _ _ e3)
    have o15 := (o13.trans (Same.off g4)).trans o5
    clear hs3 o13 g4 o5 hx e4 e3 eH
    walk_at "rd"
    refine ⟨Nat.zero_le _, fun fa nfa => ?_⟩
    generalize eH : upd _ _ _ = H6
    obtain ⟨g6, e6⟩ := new_of eH nfa
    walk_at "rd"
    have hs6 := hs5.mono (Same.tups g6)
    have e7 := g6 _ _ e5
    refine ⟨⟨_, .inl (.inl e7)⟩, for_tup (K := K) (a := t) (xs := ws) (fun i σ G => ∃ (x7 x8 x9 x10 x11 : Option V) (us : List V), σ = [some (.ref p), some (.int ticks), some (.int most), some (.ref t), some (.int far), some (.int by1), some (.ref fa), x7, x8, x9, x10, x11] ∧
      Same H5 G ∧ Tups H6 G ∧ G fa = some (.lst us) ∧ SltsAt G us ((ss.take i).map fun s => ⟨s.need + far, s.most + far, s.first * by1, s.slopes.map (· * by1)⟩)) ⟨none, none, none, none, none, [], rfl, g6, Tups.refl _, e6, .nil⟩ (fun i σ G _ h => ?_) (fun i x σ G hx h => ?_) (fun σ G h => ?_)⟩
    · obtain ⟨x7, x8, x9, x10, x11, us, rfl, s5, tp, k1, k2⟩ := h
      exact .inl (.inl (tp _ _ e7))
    · obtain ⟨x7, x8, x9, x10, x11, us, rfl, s5, tp, k1, k2⟩ := h
      obtain ⟨sl, hsl, tt, uu, rfl, a1, a2⟩ := hs6.get hx
      have a1 := tp _ _ a1
      have a2 := tp _ _ a2
      have ok := hok sl (List.mem_of_getElem? hsl)
      refine ⟨tt, _, rfl, .inl (.inl a1), rfl, _, _, rfl, _, _, rfl, _, _, rfl, _, _, rfl, rfl, ?_⟩
      walk_at "rd"
      refine ⟨.inl ⟨rfl, _, .inl (.inl k1)⟩, ?_⟩
      walk_at "rd"
      refine ⟨mulr (by omega), ?_⟩
      walk_at "rd"
      refine ⟨⟨_, .inl (.inl a2)⟩, fun D1 nD1 => lc_tup (K := K) (a := uu) (xs := sl.slopes.map V.int) (fun j J => Same G J ∧ J D1 = some (.lst (((sl.slopes.take j).map (· * by1)).map V.int))) ?_ (fun j J _ h => .inl (.inl (h.1 _ _ a2))) (fun j x J hx h => ?_) (fun J h => ?_)⟩
      · exact ⟨same_new nD1, upd_same⟩
      · obtain ⟨z, hz, rfl⟩ := int_at hx
        refine yesT rfl ?_
        walk_at "rd"
        refine ⟨mulr (by omega), _, h.2, ?_, fun b o e => ?_, ?_⟩
        · rw [List.length_map, List.length_map, List.length_take]
          have := ok.len
          have := ok.lo
          have := ok.hi
          exact many_small (by omega)
        · rw [upd_ne (ne_of_none e nD1)]
          exact h.1 _ _ e
        · rw [upd_same, take_snoc hz, List.map_append]
          rfl
      · obtain ⟨j1, f1⟩ := h
        rw [List.length_map, List.take_length] at f1
        refine ⟨_, _, rfl, .inl ⟨.inl (.inl f1), fun u nu => ?_⟩⟩
        generalize eH : upd _ _ _ = J2
        obtain ⟨j2, f2⟩ := new_of eH nu
        walk_at "rd"
        refine ⟨by show 4 ≤ sizeLine; decide, fun t2 nt2 => ?_⟩
        generalize eH : upd _ _ _ = J3
        obtain ⟨j3, f3⟩ := new_of eH nt2
        have j13 := (j1.trans j2).trans j3
        have k3 := j13 _ _ k1
        refine ⟨_, _, _, rfl, rfl, k3, ?_, ?_⟩
        · rw [k2.len, List.length_map, List.length_take]
          exact many_small (by omega)
        have tu := tups_upd (o := .lst (us ++ [.ref t2])) k3
        refine ⟨_, _, _, _, _, _, rfl, fun b o e => ?_, (tp.trans (Same.tups j13)).trans tu, upd_same, ?_⟩
        · rw [upd_ne (ne_of_none e nfa)]
          exact j13 _ _ (s5 _ _ e)
        · rw [take_snoc hsl]
          exact (k2.mono ((Same.tups j13).trans tu)).snoc ⟨t2, u, rfl, tu _ _ f3, tu _ _ (j3 _ _ f2)⟩
    · obtain ⟨x7, x8, x9, x10, x11, us, rfl, s5, tp, k1, k2⟩ := h
      rw [hs6.len, List.take_length] at k2
      walk_at "rd"
      refine ⟨_, _, rfl, .inl ⟨.inl (.inl k1), fun t2 nt2 => ?_⟩⟩
      generalize eH : upd _ _ _ = G2
      obtain ⟨g2, e2⟩ := new_of eH nt2
      have S7 := (S5.same s5).same g2
      have o7 := (o15.trans (Same.off s5)).trans (Same.off g2)
      refine q G2 t2 us _ S7 o7 e2 ((S5.same s5).free (o15.trans (Same.off s5)) nt2) (k2.mono (Same.tups g2)) (by rw [List.length_map, hl]) ?_
      intro s hsm
      obtain ⟨y, hy, rfl⟩ := List.mem_map.mp hsm
      have ok := hok y hy
      refine ⟨ok.great t0 (by omega) b0 b1 (by omega), ?_⟩
      show y.most + far - (y.need + far) ≤ most
      have := ok.lo
      have := ok.hi
      omega
end
end K12
set_option Elab.async false
set_option linter.all false
set_option maxRecDepth 100000
set_option maxHeartbeats 4000000
namespace K12
open PySem PySem.Spec PyProof.Rows L2 WK
local macro_rules | `(tactic| walk_at "rd") => `(tactic| repeat (first | refine Exists.intro _ (And.intro rfl ?_) | refine Exists.intro _ (Exists.intro _ (And.intro rfl (And.intro rfl ?_))) | refine Exists.intro _ (Exists.intro _ (And.intro rfl ?_))))
abbrev sCost : Stmt := topS 1
abbrev sServes : Stmt := topS 3
abbrev sStarts : Stmt := topS 4
abbrev sStops : Stmt := topS 5
abbrev sRunning : Stmt := topS 6
abbrev sRowCost : Stmt := topS 7
theorem scCost : FnScope ["slot", "x", "need", "most", "first", "slopes"] ["slot", "x"] (defScope sCost) := ⟨rfl, rfl, rfl, by decide +kernel, rfl, by decide +kernel, by decide +kernel⟩
theorem scServes : FnScope ["slots", "row", "slot", "x"] ["slots", "row"] (defScope sServes) := ⟨rfl, rfl, rfl, by decide +kernel, rfl, by decide +kernel, by decide +kernel⟩
theorem scStarts : FnScope ["row", "before", "x"] ["row"] (defScope sStarts) := ⟨rfl, rfl, rfl, by decide +kernel, rfl, by decide +kernel, by decide +kernel⟩
theorem scStops : FnScope ["row", "before", "x"] ["row"] (defScope sStops) := ⟨rfl, rfl, rfl, by decide +kernel, rfl, by decide +kernel, by decide +kernel⟩
theorem scRunning : FnScope ["slots", "row", "slot", "x"] ["slots", "row"] (defScope sRunning) := ⟨rfl, rfl, rfl, by decide +kernel, rfl, by decide +kernel, by decide +kernel⟩
theorem scRowCost : FnScope ["slots", "b", "row"] ["slots", "b", "row"] (defScope sRowCost) := ⟨rfl, rfl, rfl, by decide +kernel, rfl, by decide +kernel, by decide +kernel⟩
structure Prg (K : PySem.W.Frag) (mg : Str → Option Value) (fCo fSe fSt fSp fRu : Addr) (dCo dSe dSt dSp dRu : FuncData) : Prop where
  FCo : Fun K "slot_cost" "slot_cost" sCost fCo dCo
  bCo : Binds K dCo ["slot", "x"] []
  gCo : mg "slot_cost" = some (.ref fCo)
  FSe : Fun K "serves" "serves" sServes fSe dSe
  bSe : Binds K dSe ["slots", "row"] []
  gSe : mg "serves" = some (.ref fSe)
  FSt : Fun K "starts" "starts" sStarts fSt dSt
  bSt : Binds K dSt ["row"] []
  gSt : mg "starts" = some (.ref fSt)
  FSp : Fun K "stops" "stops" sStops fSp dSp
  bSp : Binds K dSp ["row"] []
  gSp : mg "stops" = some (.ref fSp)
  FRu : Fun K "running_cost" "running_cost" sRunning fRu dRu
  bRu : Binds K dRu ["slots", "row"] []
  gRu : mg "running_cost" = some (.ref fRu)
section
variable {P : Program} {w : World} {K : PySem.W.Frag} {mg : Str → Option Value} {base : Heap} {fCo fSe fSt fSp fRu : Addr} {dCo dSe dSt dSp dRu : FuncData}
theorem ok_cost {f : Addr} {fd : FuncData} (F : Fun K "slot_cost" "slot_cost" sCost f fd) (B : Blt mg) : FnOk P w K mg base CX0 1 f fd ["slot", "x"] spCost := by
  refine F.ok scCost (fun vs H Q E h => ?_) (fun cdv A outer s H vs Q E hr h => ?_)
  · obtain ⟨t, x, sl, rfl, _⟩ := h
    rfl
  · obtain ⟨t, x, sl, rfl, hs, q⟩ := h
    obtain ⟨t, u, rfl, h1, h2⟩ := hs
    refine ⟨_, (pss_cons (ps_asg (pv 0) (pg_tup rfl (pgs_cons (pg_name (i := 2) scCost.nd rfl (.inl rfl)) (pgs_cons (pg_name (i := 3) scCost.nd rfl (.inl rfl)) (pgs_cons (pg_name (i := 4) scCost.nd rfl (.inl rfl)) (pgs_cons (pg_name (i := 5) scCost.nd rfl (.inl rfl)) pgs_nil))))))
      (pss_cons (ps_if (PW.pt (pw_or (pt_cmpR op_lt (pv 1) (pv 2) (nomark _)) (pw_or1 (pt_cmpR op_gt (pv 1) (pv 3) (nomark _)))))
        (pss_one (ps_ret pe_non))
        pss_nil)
      (pss_one (ps_ret (pe_op op_add (pv 4) (pe_callB (r := rSumT K) (cr_sumT rfl) (by rfl) B.sum (by decide +kernel) (pa_cons (pe_slice (r := rSlA K) sl_tupA (pv 5) po_none (po_some (pe_op op_sub (pv 1) (pv 2)))) pa_nil))))))), ?_⟩
    walk_at "rd"
    refine ⟨_, _, rfl, .inl (.inl h1), rfl, _, _, rfl, _, _, rfl, _, _, rfl, _, _, rfl, rfl, ?_⟩
    walk_at "rd"
    refine ite2 (fun a1 => ?_) (fun a1 => ?_)
    · dsimp only
      refine ifT rfl ?_
      have e : costV sl x = .non := by
        unfold costV fitB
        rw [decide_eq_false (by have := of_decide_eq_true a1; omega)]
        rfl
      rw [← e]
      exact q H (Same.refl _)
    · walk_at "rd"
      refine ite2 (fun a2 => ?_) (fun a2 => ?_)
      · have e : costV sl x = .non := by
          unfold costV fitB
          rw [decide_eq_false (p := x ≤ sl.most) (by have := of_decide_eq_true a2; omega), Bool.and_false]
          rfl
        have := q H (Same.refl _)
        rw [e] at this
        exact this
      · have b1 : sl.need ≤ x := by
          have := of_decide_eq_false (Bool.eq_false_iff.mpr a1)
          omega
        have b2 : x ≤ sl.most := by
          have := of_decide_eq_false (Bool.eq_false_iff.mpr a2)
          omega
        have e : costV sl x = .int (costAt sl x) := by
          unfold costV fitB
          rw [decide_eq_true b1, decide_eq_true b2]
          rfl
        walk_at "rd"
        refine slA h2 fun p G sG eG => ?_
        rw [cut_int (by omega), ← List.map_take] at eG
        refine ⟨_, _, rfl, .inl (.inl eG), ?_⟩
        walk_at "rd"
        have := q G sG
        rw [e] at this
        exact this
theorem ok_serves {f : Addr} {fd : FuncData} (F : Fun K "serves" "serves" sServes f fd) (B : Blt mg) : FnOk P w K mg base CX0 1 f fd ["slots", "row"] spServes := by
  refine F.ok scServes (fun vs H Q E h => ?_) (fun cdv A outer s H vs Q E hr h => ?_)
  · obtain ⟨a, b, ws, ss, xs, rfl, _⟩ := h
    rfl
  · obtain ⟨a, b, ws, ss, xs, rfl, ha, hs, hb, hl, hlen, q⟩ := h
    refine ⟨_, (pss_one (ps_ret (pe_callB (r := rAll K) (cr_all rfl) (by rfl) B.all (by decide +kernel) (pa_cons (pe_lc (own := [("slot", 2), ("x", 3)]) (g := gTup K 2 (gCons (gName 2) (gCons (gName 3) gNil))) rfl scServes.nd (RZ.pi_zipA (by rfl) B.zip (pa_cons (pv 0) (pa_cons (pv 1) pa_nil))) (blkOk_by (own := [("slot", 2), ("x", 3)]) (N := ["slots", "row", "slot", "x"]) (sc := defScope sServes) (by decide +kernel)) (fun _ _ _ _ _ => (pg_tup rfl (pgs_cons (pg_name (i := 2) scServes.nd rfl (.inl rfl)) (pgs_cons (pg_name (i := 3) scServes.nd rfl (.inl rfl)) pgs_nil)))) (fun _ _ _ _ _ => pts_nil) (fun _ _ _ _ _ => (pe_chain op_le op_le (pe_ix (r := rIxT K) ix_tup (pv 2) pe_int (fun _ _ => rfl)) (pv 3) (pe_ix (r := rIxT K) ix_tup (pv 2) pe_int (fun _ _ => rfl))))) pa_nil)))), ?_⟩
    walk_at "rd"
    refine ⟨_, _, _, _, rfl, .inr ⟨.inl (.inl ha), .inl (.inl hb), fun D1 nD1 => lc_it (walk_zipT (K := K) (a := a) (b := b) (xs := ws) (ys := xs.map V.int) (n := xs.length) (by rw [List.length_map, hs.len]; omega))
      (fun i G => Same H G ∧ G D1 = some (.lst ((servesB ss xs i).map V.bl))) ?_ (fun i G _ h => ⟨.inl (.inl (h.1 _ _ ha)), .inl (.inl (h.1 _ _ hb))⟩) (fun i x G G' hi h hy => ?_) (fun G h => ?_)⟩⟩
    · exact ⟨same_new nD1, upd_same⟩
    · obtain ⟨h1, h2⟩ := h
      obtain ⟨T, x1, x2, rfl, nT, rfl, a1, a2⟩ := hy
      have a1 : ws[i]? = some x1 := a1
      have a2 : (xs.map V.int)[i]? = some x2 := a2
      obtain ⟨sl, hsl, tt, uu, rfl, b1, b2⟩ := hs.get a1
      obtain ⟨y2, c2, rfl⟩ := int_at a2
      generalize eH : upd _ _ _ = G1
      obtain ⟨g1, f1⟩ := new_of eH nT
      have b1 := g1 _ _ (h1 _ _ b1)
      refine ⟨T, _, rfl, .inl (.inl f1), rfl, _, _, rfl, _, _, rfl, rfl, ?_⟩
      have key : ∀ (c : Bool), c = fitB sl y2 → ∃ acc, G1 D1 = some (HO.lst acc) ∧ acc.length < sizeLine ∧ Same H (upd G1 D1 (.lst (acc ++ [V.bl c]))) ∧ (upd G1 D1 (.lst (acc ++ [V.bl c]))) D1 = some (.lst ((servesB ss xs (i + 1)).map V.bl)) := by
        rintro c rfl
        refine ⟨_, g1 _ _ h2, ?_, fun b o e => ?_, ?_⟩
        · rw [List.length_map]
          unfold servesB
          rw [mapr_len]
          exact many_small (by omega)
        · rw [upd_ne (ne_of_none e nD1)]
          exact g1 _ _ (h1 _ _ e)
        · rw [upd_same]
          unfold servesB
          rw [mapr_succ, List.map_append, getD_at hsl, getD_at c2]
          rfl
      refine yesT rfl ?_
      walk_at "rd"
      refine ⟨_, _, _, _, rfl, rfl, .inl (.inl b1), atI_nat (j := 0) rfl, ?_⟩
      walk_at "rd"
      refine ite2 (fun q1 => ?_) (fun q1 => ?_)
      · walk_at "rd"
        refine ⟨_, _, _, _, rfl, rfl, .inl (.inl b1), atI_nat (j := 1) rfl, ?_⟩
        walk_at "rd"
        refine key _ ?_
        unfold fitB
        rw [show decide (sl.need ≤ y2) = true from q1, Bool.true_and]
      · refine key _ ?_
        unfold fitB
        rw [Bool.eq_false_iff.mpr q1, Bool.false_and]
    · obtain ⟨h1, h2⟩ := h
      refine ⟨_, _, rfl, .inl (.inl h2), ?_⟩
      exact q G h1
theorem ok_starts {f : Addr} {fd : FuncData} (F : Fun K "starts" "starts" sStarts f fd) (B : Blt mg) : FnOk P w K mg base CX0 1 f fd ["row"] spStarts := by
  refine F.ok scStarts (fun vs H Q E h => ?_) (fun cdv A outer s H vs Q E hr h => ?_)
  · obtain ⟨b, xs, rfl, _⟩ := h
    rfl
  · obtain ⟨b, xs, rfl, hb, hlen, q⟩ := h
    refine ⟨_, (pss_one (ps_ret (pe_callB (r := rSum K) (cr_sum rfl) (by rfl) B.sum (by decide +kernel) (pa_cons (pe_lc (own := [("before", 1), ("x", 2)]) (g := gTup K 2 (gCons (gName 1) (gCons (gName 2) gNil))) rfl scStarts.nd (pi_zipM (by rfl) B.zip (pa_cons (pe_lst (pa_cons pe_int (StX.pa_star (pv 0) pa_nil))) (pa_cons (pv 0) pa_nil))) (blkOk_by (own := [("before", 1), ("x", 2)]) (N := ["row", "before", "x"]) (sc := defScope sStarts) (by decide +kernel)) (fun _ _ _ _ _ => (pg_tup rfl (pgs_cons (pg_name (i := 1) scStarts.nd rfl (.inl rfl)) (pgs_cons (pg_name (i := 2) scStarts.nd rfl (.inl rfl)) pgs_nil)))) (fun _ _ _ _ _ => pts_nil) (fun _ _ _ _ _ => (pe_callB (call_max2 rfl) (by rfl) B.max boot_max (pa_cons pe_int (pa_cons (pe_op op_sub (pv 2) (pv 1)) pa_nil))))) pa_nil)))), ?_⟩
    walk_at "rd"
    refine ⟨_, _, rfl, .inl (.inl (.inl hb)), by rw [List.append_nil, List.length_cons, List.length_map]; exact Nat.le_of_lt (many_small (by omega)), fun l1 nl1 => ?_⟩
    generalize eH : upd _ _ _ = H1
    obtain ⟨g1, e1⟩ := new_of eH nl1
    rw [List.append_nil] at e1
    have e1 : H1 l1 = some (.lst ((0 :: xs).map V.int)) := e1
    have hb := g1 _ _ hb
    walk_at "rd"
    refine ⟨_, _, _, _, rfl, .inl (.inl e1), .inl (.inl hb), fun D1 nD1 => lc_it (walk_zipM (K := K) (a := l1) (b := b) (xs := (0 :: xs).map V.int) (ys := xs.map V.int) (n := xs.length) (by rw [List.length_map, List.length_map, List.length_cons]; omega))
      (fun i G => Same H1 G ∧ G D1 = some (.lst ((startsT xs i).map V.int))) ?_ (fun i G _ h => ⟨.inl (.inl (h.1 _ _ e1)), .inl (.inl (h.1 _ _ hb))⟩) (fun i x G G' hi h hy => ?_) (fun G h => ?_)⟩
    · exact ⟨same_new nD1, upd_same⟩
    · obtain ⟨h1, h2⟩ := h
      obtain ⟨T, x1, x2, rfl, nT, rfl, a1, a2⟩ := hy
      have a1 : ((0 :: xs).map V.int)[i]? = some x1 := a1
      have a2 : (xs.map V.int)[i]? = some x2 := a2
      obtain ⟨y1, c1, rfl⟩ := int_at a1
      obtain ⟨y2, c2, rfl⟩ := int_at a2
      generalize eH : upd _ _ _ = G1
      obtain ⟨k1, f1⟩ := new_of eH nT
      refine ⟨T, _, rfl, .inl (.inl f1), rfl, _, _, rfl, _, _, rfl, rfl, ?_⟩
      refine yesT rfl ?_
      walk_at "rd"
      refine ⟨_, k1 _ _ h2, ?_, fun b o e => ?_, ?_⟩
      · rw [List.length_map]
        unfold startsT
        rw [mapr_len]
        exact many_small (by omega)
      · rw [upd_ne (ne_of_none e nD1)]
        exact k1 _ _ (h1 _ _ e)
      · rw [upd_same]
        unfold startsT
        rw [mapr_succ, List.map_append, getD_at c1, getD_at c2]
        rfl
    · obtain ⟨h1, h2⟩ := h
      refine ⟨_, _, rfl, .inl (.inl h2), ?_⟩
      exact q G (g1.trans h1)
theorem ok_stops {f : Addr} {fd : FuncData} (F : Fun K "stops" "stops" sStops f fd) (B : Blt mg) : FnOk P w K mg base CX0 1 f fd ["row"] spStops := by
  refine F.ok scStops (fun vs H Q E h => ?_) (fun cdv A outer s H vs Q E hr h => ?_)
  · obtain ⟨b, xs, rfl, _⟩ := h
    rfl
  · obtain ⟨b, xs, rfl, hb, hlen, q⟩ := h
    refine ⟨_, (pss_one (ps_ret (pe_callB (r := rSum K) (cr_sum rfl) (by rfl) B.sum (by decide +kernel) (pa_cons (pe_lc (own := [("before", 1), ("x", 2)]) (g := gTup K 2 (gCons (gName 1) (gCons (gName 2) gNil))) rfl scStops.nd (pi_zipM (by rfl) B.zip (pa_cons (pe_lst (pa_cons pe_int (StX.pa_star (pv 0) pa_nil))) (pa_cons (pv 0) pa_nil))) (blkOk_by (own := [("before", 1), ("x", 2)]) (N := ["row", "before", "x"]) (sc := defScope sStops) (by decide +kernel)) (fun _ _ _ _ _ => (pg_tup rfl (pgs_cons (pg_name (i := 1) scStops.nd rfl (.inl rfl)) (pgs_cons (pg_name (i := 2) scStops.nd rfl (.inl rfl)) pgs_nil)))) (fun _ _ _ _ _ => pts_nil) (fun _ _ _ _ _ => (pe_callB (call_max2 rfl) (by rfl) B.max boot_max (pa_cons pe_int (pa_cons (pe_op op_sub (pv 1) (pv 2)) pa_nil))))) pa_nil)))), ?_⟩
    walk_at "rd"
    refine ⟨_, _, rfl, .inl (.inl (.inl hb)), by rw [List.append_nil, List.length_cons, List.length_map]; exact Nat.le_of_lt (many_small (by omega)), fun l1 nl1 => ?_⟩
    generalize eH : upd _ _ _ = H1
    obtain ⟨g1, e1⟩ := new_of eH nl1
    rw [List.append_nil] at e1
    have e1 : H1 l1 = some (.lst ((0 :: xs).map V.int)) := e1
    have hb := g1 _ _ hb
    walk_at "rd"
    refine ⟨_, _, _, _, rfl, .inl (.inl e1), .inl (.inl hb), fun D1 nD1 => lc_it (walk_zipM (K := K) (a := l1) (b := b) (xs := (0 :: xs).map V.int) (ys := xs.map V.int) (n := xs.length) (by rw [List.length_map, List.length_map, List.length_cons]; omega))
      (fun i G => Same H1 G ∧ G D1 = some (.lst ((stopsT xs i).map V.int))) ?_ (fun i G _ h => ⟨.inl (.inl (h.1 _ _ e1)), .inl (.inl (h.1 _ _ hb))⟩) (fun i x G G' hi h hy => ?_) (fun G h => ?_)⟩
    · exact ⟨same_new nD1, upd_same⟩
    · obtain ⟨h1, h2⟩ := h
      obtain ⟨T, x1, x2, rfl, nT, rfl, a1, a2⟩ := hy
      have a1 : ((0 :: xs).map V.int)[i]? = some x1 := a1
      have a2 : (xs.map V.int)[i]? = some x2 := a2
      obtain ⟨y1, c1, rfl⟩ := int_at a1
      obtain ⟨y2, c2, rfl⟩ := int_at a2
      generalize eH : upd _ _ _ = G1
      obtain ⟨k1, f1⟩ := new_of eH nT
      refine ⟨T, _, rfl, .inl (.inl f1), rfl, _, _, rfl, _, _, rfl, rfl, ?_⟩
      refine yesT rfl ?_
      walk_at "rd"
      refine ⟨_, k1 _ _ h2, ?_, fun b o e => ?_, ?_⟩
      · rw [List.length_map]
        unfold stopsT
        rw [mapr_len]
        exact many_small (by omega)
      · rw [upd_ne (ne_of_none e nD1)]
        exact k1 _ _ (h1 _ _ e)
      · rw [upd_same]
        unfold stopsT
        rw [mapr_succ, List.map_append, getD_at c1, getD_at c2]
        rfl
    · obtain ⟨h1, h2⟩ := h
      refine ⟨_, _, rfl, .inl (.inl h2), ?_⟩
      exact q G (g1.trans h1)
theorem ok_running {f : Addr} {fd : FuncData} (F : Fun K "running_cost" "running_cost" sRunning f fd) (D : Prg K mg fCo fSe fSt fSp fRu dCo dSe dSt dSp dRu) (B : Blt mg) : FnOk P w K mg base CX0 2 f fd ["slots", "row"] spRunning := by
  have GCo : FnOk P w K mg base CX0 1 fCo dCo ["slot", "x"] spCost := ok_cost D.FCo B
  have GSe : FnOk P w K mg base CX0 1 fSe dSe ["slots", "row"] spServes := ok_serves D.FSe B
  refine F.ok scRunning (fun vs H Q E h => ?_) (fun cdv A outer s H vs Q E hr h => ?_)
  · obtain ⟨a, b, ws, ss, xs, rfl, _⟩ := h
    rfl
  · obtain ⟨a, b, ws, ss, xs, rfl, ha, hs, hb, hl, hlen, q⟩ := h
    have hrCo := hr
    have hrSe := hr
    refine ⟨_, (pss_cons (ps_if (pt_not (pt_val (pe_call GSe hrSe (by rfl) D.gSe D.FSe.kp D.bSe .nil pass0 (pa_cons (pv 0) (pa_cons (pv 1) pa_nil)))))
        (pss_one (ps_ret pe_non))
        pss_nil)
      (pss_one (ps_ret (pe_callB (r := rSum K) (cr_sum rfl) (by rfl) B.sum (by decide +kernel) (pa_cons (pe_lc (own := [("slot", 2), ("x", 3)]) (g := gTup K 2 (gCons (gName 2) (gCons (gName 3) gNil))) rfl scRunning.nd (RZ.pi_zipA (by rfl) B.zip (pa_cons (pv 0) (pa_cons (pv 1) pa_nil))) (blkOk_by (own := [("slot", 2), ("x", 3)]) (N := ["slots", "row", "slot", "x"]) (sc := defScope sRunning) (by decide +kernel)) (fun _ _ _ _ _ => (pg_tup rfl (pgs_cons (pg_name (i := 2) scRunning.nd rfl (.inl rfl)) (pgs_cons (pg_name (i := 3) scRunning.nd rfl (.inl rfl)) pgs_nil)))) (fun _ _ _ _ _ => pts_nil) (fun _ _ _ _ _ => (pe_call GCo hrCo (by rfl) D.gCo D.FCo.kp D.bCo .nil pass0 (pa_cons (pv 2) (pa_cons (pv 3) pa_nil))))) pa_nil))))), ?_⟩
    walk_at "rd"
    refine ⟨_, _, _, _, _, rfl, ha, hs, hb, hl, hlen, fun H1 g1 => ?_⟩
    walk_at "rd"
    refine ite2 (fun q1 => ?_) (fun q1 => ?_)
    · have := q H1 g1
      rw [if_neg (by intro z; rw [z] at q1; exact absurd q1 (by decide))] at this
      exact this
    · have hsv : servesL ss xs = true := by
        cases z : servesL ss xs with
        | true => rfl
        | false => rw [z] at q1; exact absurd rfl q1
      have ha := g1 _ _ ha
      have hb := g1 _ _ hb
      have hs := hs.mono (Same.tups g1)
      walk_at "rd"
      refine ⟨_, _, _, _, rfl, .inr ⟨.inl (.inl ha), .inl (.inl hb), fun D1 nD1 => lc_it (walk_zipT (K := K) (a := a) (b := b) (xs := ws) (ys := xs.map V.int) (n := xs.length) (by rw [List.length_map, hs.len]; omega))
        (fun i G => Same H1 G ∧ G D1 = some (.lst ((runT ss xs i).map V.int))) ?_ (fun i G _ h => ⟨.inl (.inl (h.1 _ _ ha)), .inl (.inl (h.1 _ _ hb))⟩) (fun i x G G' hi h hy => ?_) (fun G h => ?_)⟩⟩
      · exact ⟨same_new nD1, upd_same⟩
      · obtain ⟨h1, h2⟩ := h
        obtain ⟨T, x1, x2, rfl, nT, rfl, a1, a2⟩ := hy
        have a1 : ws[i]? = some x1 := a1
        have a2 : (xs.map V.int)[i]? = some x2 := a2
        obtain ⟨sl, hsl, hat⟩ := hs.get a1
        obtain ⟨y2, c2, rfl⟩ := int_at a2
        generalize eH : upd _ _ _ = G1
        obtain ⟨k1, f1⟩ := new_of eH nT
        have hat := hat.mono (Same.tups (Same.trans h1 k1))
        refine ⟨T, _, rfl, .inl (.inl f1), rfl, _, _, rfl, _, _, rfl, rfl, ?_⟩
        refine yesT rfl ?_
        walk_at "rd"
        refine ⟨_, _, sl, rfl, hat, fun G2 k2 => ?_⟩
        have ec : costV sl y2 = .int (costAt sl y2) := by
          unfold costV
          rw [if_pos (serves_at hsv hsl c2)]
        rw [ec]
        have k12 := Same.trans k1 k2
        refine ⟨_, k12 _ _ h2, ?_, fun b o e => ?_, ?_⟩
        · rw [List.length_map]
          unfold runT
          rw [mapr_len]
          exact many_small (by omega)
        · rw [upd_ne (ne_of_none e nD1)]
          exact k12 _ _ (h1 _ _ e)
        · rw [upd_same]
          unfold runT
          rw [mapr_succ, List.map_append, getD_at hsl, getD_at c2]
          rfl
      · obtain ⟨h1, h2⟩ := h
        refine ⟨_, _, rfl, .inl (.inl h2), ?_⟩
        have := q G (Same.trans g1 h1)
        rw [if_pos hsv] at this
        exact this
theorem ok_rowcost {f : Addr} {fd : FuncData} (F : Fun K "row_cost" "row_cost" sRowCost f fd) (D : Prg K mg fCo fSe fSt fSp fRu dCo dSe dSt dSp dRu) (B : Blt mg) : FnOk P w K mg base CX0 3 f fd ["slots", "b", "row"] spRowCost := by
  have GSe : FnOk P w K mg base CX0 1 fSe dSe ["slots", "row"] spServes := ok_serves D.FSe B
  have GSt : FnOk P w K mg base CX0 1 fSt dSt ["row"] spStarts := ok_starts D.FSt B
  have GRu : FnOk P w K mg base CX0 2 fRu dRu ["slots", "row"] spRunning := ok_running D.FRu D B
  refine F.ok scRowCost (fun vs H Q E h => ?_) (fun cdv A outer s H vs Q E hr h => ?_)
  · obtain ⟨a, b, BB, ws, ss, xs, rfl, _⟩ := h
    rfl
  · obtain ⟨a, b, BB, ws, ss, xs, rfl, b1, b2, ha, hs, hb, hl, hlen, q⟩ := h
    have hrRu := hr
    have hrSe := hr.mono (show 1 ≤ 2 by decide)
    have hrSt := hrSe
    refine ⟨_, (pss_cons (ps_if (pt_not (pt_val (pe_call GSe hrSe (by rfl) D.gSe D.FSe.kp D.bSe .nil pass0 (pa_cons (pv 0) (pa_cons (pv 2) pa_nil)))))
        (pss_one (ps_ret pe_non))
        pss_nil)
      (pss_one (ps_ret (pe_op op_add (pe_call GRu hrRu (by rfl) D.gRu D.FRu.kp D.bRu .nil pass0 (pa_cons (pv 0) (pa_cons (pv 2) pa_nil))) (pe_op op_mul (pv 1) (pe_call GSt hrSt (by rfl) D.gSt D.FSt.kp D.bSt .nil pass0 (pa_cons (pv 2) pa_nil))))))), ?_⟩
    walk_at "rd"
    refine ⟨_, _, _, _, _, rfl, ha, hs, hb, hl, hlen, fun H1 g1 => ?_⟩
    walk_at "rd"
    refine ite2 (fun q1 => ?_) (fun q1 => ?_)
    · have := q H1 g1
      rw [if_neg (by intro z; rw [z] at q1; exact absurd q1 (by decide))] at this
      exact this
    · have hsv : servesL ss xs = true := by
        cases z : servesL ss xs with
        | true => rfl
        | false => rw [z] at q1; exact absurd rfl q1
      have ha := g1 _ _ ha
      have hb := g1 _ _ hb
      have hs := hs.mono (Same.tups g1)
      walk_at "rd"
      refine ⟨_, _, _, _, _, rfl, ha, hs, hb, hl, hlen, fun H2 g2 => ?_⟩
      rw [if_pos hsv]
      have hb := g2 _ _ hb
      walk_at "rd"
      refine ⟨_, _, rfl, hb, hlen, fun H3 g3 => ?_⟩
      walk_at "rd"
      refine ⟨mull ⟨b1, b2⟩, ?_⟩
      walk_at "rd"
      have := q H3 ((Same.trans g1 g2).trans g3)
      rw [if_pos hsv] at this
      exact this
end
end K12
set_option Elab.async false
set_option linter.all false
set_option maxRecDepth 100000
set_option maxHeartbeats 4000000
namespace K12
open PySem PySem.Spec PyProof.Rows L2 WK
local macro_rules | `(tactic| walk_at "rd") => `(tactic| repeat (first | refine Exists.intro _ (And.intro rfl ?_) | refine Exists.intro _ (Exists.intro _ (And.intro rfl (And.intro rfl ?_))) | refine Exists.intro _ (Exists.intro _ (And.intro rfl ?_))))
abbrev sSC : Stmt := topS 14
abbrev sSR : Stmt := topS 15
abbrev sLSt : Stmt := topS 16
abbrev sPr : Stmt := topS 17
theorem scSC : FnScope ["slots", "found", "need", "most", "first", "slopes", "some", "k", "slope"] ["slots"] (defScope sSC) := ⟨rfl, rfl, rfl, by decide +kernel, rfl, by decide +kernel, by decide +kernel⟩
theorem scSR : FnScope ["source", "slots", "found", "need", "most", "first", "slopes", "x"] ["source", "slots"] (defScope sSR) := ⟨rfl, rfl, rfl, by decide +kernel, rfl, by decide +kernel, by decide +kernel⟩
theorem scLSt : FnScope ["row", "t"] ["row"] (defScope sLSt) := ⟨rfl, rfl, rfl, by decide +kernel, rfl, by decide +kernel, by decide +kernel⟩
theorem scPr : FnScope ["costs", "row", "b", "t"] ["costs", "row", "b"] (defScope sPr) := ⟨rfl, rfl, rfl, by decide +kernel, rfl, by decide +kernel, by decide +kernel⟩
structure Dls (K : PySem.W.Frag) (mg : Str → Option Value) (fLs : Addr) (dLs : FuncData) : Prop where
  FLs : Fun K "_law_starts" "_law_starts" sLSt fLs dLs
  bLs : Binds K dLs ["row"] []
  gLs : mg "_law_starts" = some (.ref fLs)
section
variable {P : Program} {w : World} {K : PySem.W.Frag} {mg : Str → Option Value} {base : Heap}
theorem ok_slotcosts {f : Addr} {fd : FuncData} (F : Fun K "_law_slot_costs" "_law_slot_costs" sSC f fd) (B : Blt mg) : FnOk P w K mg base CX0 1 f fd ["slots"] spSlotCosts := by
  refine F.ok scSC (fun vs H Q E h => ?_) (fun cdv A outer s H vs Q E hr h => ?_)
  · obtain ⟨a, ws, ss, rfl, _⟩ := h
    rfl
  · obtain ⟨a, ws, ss, rfl, ha, hs, hl, hl2, q⟩ := h
    have hu := hu_of hr
    refine ⟨_, (pss_cons (ps_set (i := 1) scSC.nd rfl (.inl rfl) (pe_lst pa_nil))
      (pss_cons (ps_for PassesOwn.never rfl (pi_tup (pv 0)) (pg_tup rfl (pgs_cons (pg_name (i := 2) scSC.nd rfl (.inl rfl)) (pgs_cons (pg_name (i := 3) scSC.nd rfl (.inl rfl)) (pgs_cons (pg_name (i := 4) scSC.nd rfl (.inl rfl)) (pgs_cons (pg_name (i := 5) scSC.nd rfl (.inl rfl)) pgs_nil)))))
        (pss_cons (ps_set (i := 6) scSC.nd rfl (.inl rfl) (pe_disp (pps_cons (pv 2) (pv 4) pps_nil) (by rfl) (by rfl) (fun z => by cases z) (by decide)))
        (pss_cons (ps_for PassesOwn.never rfl (pi_enumT (by rfl) B.enumerate (pa_cons (pv 5) pa_nil)) (pg_tup rfl (pgs_cons (pg_name (i := 7) scSC.nd rfl (.inl rfl)) (pgs_cons (pg_name (i := 8) scSC.nd rfl (.inl rfl)) pgs_nil)))
          (pss_one (ps_dput hu (pv 6) (pe_op op_add (pe_op op_add (pv 2) pe_int) (pv 7)) (pe_op op_add (pe_dget hu (pv 6) (pe_op op_add (pv 2) (pv 7)) (fun _ _ => rfl)) (pv 8)) rfl)))
        (pss_one (ps_expr (pe_bm PySem.F.plainAttrs_list PySem.F.slot_list_append PySem.F.type_list_append mt_append (pv 1) (pa_cons (pv 6) pa_nil)))))))
      (pss_one (ps_ret (pv 1))))), ?_⟩
    walk_at "rd"
    refine ⟨Nat.zero_le _, fun fa nfa => ?_⟩
    generalize eH : upd _ _ _ = H1
    obtain ⟨g1, e1⟩ := new_of eH nfa
    have ha := g1 _ _ ha
    have hs := hs.mono (Same.tups g1)
    walk_at "rd"
    refine ⟨⟨_, .inl (.inl ha)⟩, for_tup (K := K) (a := a) (xs := ws) (fun i σ G => ∃ (x2 x3 x4 x5 x6 x7 x8 : Option V) (us : List V), σ = [some (.ref a), some (.ref fa), x2, x3, x4, x5, x6, x7, x8] ∧
      Same H G ∧ Tups H1 G ∧ G fa = some (.lst us) ∧ CostsAt G us (ss.take i) ∧ (∀ v ∈ us, ∃ d, v = .ref d ∧ H d = none)) ⟨none, none, none, none, none, none, none, [], rfl, g1, Tups.refl _, e1, .nil, by simp⟩ (fun i σ G _ h => ?_) (fun i x σ G hx h => ?_) (fun σ G h => ?_)⟩
    · obtain ⟨x2, x3, x4, x5, x6, x7, x8, us, rfl, sm, tp, k1, k2, kf⟩ := h
      exact .inl (.inl (tp _ _ ha))
    · obtain ⟨x2, x3, x4, x5, x6, x7, x8, us, rfl, sm, tp, k1, k2, kf⟩ := h
      obtain ⟨sl, hsl, tt, uu, rfl, a1, a2⟩ := hs.get hx
      have a1 := tp _ _ a1
      have a2 := tp _ _ a2
      refine ⟨tt, _, rfl, .inl (.inl a1), rfl, _, _, rfl, _, _, rfl, _, _, rfl, _, _, rfl, rfl, ?_⟩
      walk_at "rd"
      intro d nd
      walk_at "rd"
      refine ⟨upd_same, [(.inl sl.need, .int sl.first)], rfl, by show 1 ≤ 15; decide, ?_⟩
      rw [upd_upd]
      generalize eH : upd _ _ _ = G2
      obtain ⟨g2, e2⟩ := new_of eH nd
      have e2 : G2 d = some (.dK (costK sl 1)) := by
        rw [e2]
        simp [costK, mergeK, putK]
      have a3 := g2 _ _ a2
      walk_at "rd"
      refine ⟨_, _, rfl, .inl (.inl a3), for_it (walk_enumT (K := K) (a := uu) (xs := sl.slopes.map V.int)) (fun j σ J => ∃ (y7 y8 : Option V), σ = [some (.ref a), some (.ref fa), some (.int sl.need), some (.int sl.most), some (.int sl.first), some (.ref uu), some (.ref d), y7, y8] ∧ Same G J ∧ J d = some (.dK (costK sl (j + 1)))) ⟨_, _, rfl, g2, e2⟩ (fun j σ J _ h => ?_) (fun j x σ J J' hj h hy => ?_) (fun σ J h => ?_)⟩
      · obtain ⟨y7, y8, rfl, sj, k3⟩ := h
        exact .inl (.inl (sj _ _ a2))
      · obtain ⟨y7, y8, rfl, sj, k3⟩ := h
        obtain ⟨T, x1, x2, rfl, nT, rfl, b1, b2⟩ := hy
        have b1 : some (V.int (j : Nat)) = some x1 := b1
        injection b1 with b1
        subst b1
        obtain ⟨z, hz, rfl⟩ := int_at b2
        have hj : j < sl.slopes.length := (List.getElem?_eq_some_iff.mp hz).1
        generalize eH : upd _ _ _ = J1
        obtain ⟨j1, f1⟩ := new_of eH nT
        have k4 := j1 _ _ k3
        refine ⟨T, _, rfl, .inl (.inl f1), rfl, _, _, rfl, _, _, rfl, rfl, ?_⟩
        walk_at "rd"
        have vj : valV (costK sl (j + 1)) (.inl (sl.need + j)) = some (V.int (sl.first + (sl.slopes.take j).sum)) := by
          rw [costK_val, if_pos (by omega), show (sl.need + (j : Int) - sl.need).toNat = j by omega]
        refine ⟨_, _, rfl, .inl ⟨_, .inl (sl.need + j), .inl k4, rfl, vj.symm⟩, ?_⟩
        walk_at "rd"
        refine ⟨_, _, rfl, .inl ⟨_, .inl (sl.need + 1 + j), k4, rfl, ?_, rfl⟩, ?_⟩
        · rw [costK_len]
          have := hl2 sl (List.mem_of_getElem? hsl)
          exact many_small (by omega)
        refine ⟨_, _, rfl, fun b o e => ?_, ?_⟩
        · rw [upd_ne (ne_of_none e nd)]
          exact j1 _ _ (sj _ _ e)
        · rw [upd_same]
          have e1 : sl.need + 1 + (j : Int) = sl.need + ((j + 1 : Nat) : Int) := by omega
          have e2 : sl.first + (sl.slopes.take j).sum + z = sl.first + (sl.slopes.take (j + 1)).sum := by
            rw [take_sum hz]
            omega
          rw [e1]
          show some (HO.dK (putK (costK sl (j + 1)) (Sum.inl (sl.need + ((j + 1 : Nat) : Int))) (V.int (sl.first + (sl.slopes.take j).sum + z)))) = _
          rw [e2, costK_put]
      · obtain ⟨y7, y8, rfl, sj, k3⟩ := h
        rw [List.length_map] at k3
        have k1 := sj _ _ k1
        walk_at "rd"
        refine ⟨.inl ⟨rfl, _, .inl (.inl k1)⟩, ?_⟩
        walk_at "rd"
        refine ⟨_, _, _, rfl, rfl, k1, ?_, ?_⟩
        · rw [k2.len, List.length_take]
          exact many_small (by omega)
        have dk := dks_upd (o := .lst (us ++ [.ref d])) k1
        refine ⟨_, _, _, _, _, _, _, us ++ [.ref d], rfl, fun b o e => ?_, (tp.trans (Same.tups sj)).trans (tups_upd k1), upd_same, ?_, ?_⟩
        · rw [upd_ne (ne_of_none e nfa)]
          exact sj _ _ (sm _ _ e)
        · rw [List.take_add_one, hsl]
          exact (k2.mono fun b kvs e => dk _ _ (sj _ _ e)).snoc ⟨d, rfl, dk _ _ k3⟩
        · intro v hv
          rcases List.mem_append.mp hv with hv | hv
          · exact kf v hv
          · exact ⟨d, List.mem_singleton.mp hv, Same.free sm nd⟩
    · obtain ⟨x2, x3, x4, x5, x6, x7, x8, us, rfl, sm, tp, k1, k2, kf⟩ := h
      rw [hs.len, List.take_length] at k2
      walk_at "rd"
      exact q G fa us sm nfa k1 k2 kf
theorem ok_lstarts {f : Addr} {fd : FuncData} (F : Fun K "_law_starts" "_law_starts" sLSt f fd) (B : Blt mg) : FnOk P w K mg base CX0 1 f fd ["row"] spStarts := by
  refine F.ok scLSt (fun vs H Q E h => ?_) (fun cdv A outer s H vs Q E hr h => ?_)
  · obtain ⟨b, xs, rfl, _⟩ := h
    rfl
  · obtain ⟨b, xs, rfl, hb, hlen, q⟩ := h
    refine ⟨_, (pss_one (ps_ret (pe_callB (r := rSum K) (cr_sum rfl) (by rfl) B.sum (by decide +kernel) (pa_cons (pe_lc (own := [("t", 1)]) (g := gName 1) rfl scLSt.nd (pi_range1 rfl B.range (pa_cons (pe_callB call_len_seq (by rfl) B.len PySem.boot_len (pa_cons (pv 0) pa_nil)) pa_nil)) (blkOk_by (own := [("t", 1)]) (N := ["row", "t"]) (sc := defScope sLSt) (by decide +kernel)) (fun _ _ _ _ _ => (pg_name (i := 1) scLSt.nd rfl (.inl rfl))) (fun _ _ _ _ _ => pts_nil) (fun _ _ _ _ _ => (pe_callB (call_max2 rfl) (by rfl) B.max boot_max (pa_cons pe_int (pa_cons (pe_op op_sub (pe_ix (r := rIxT K) ix_tup (pv 0) (pv 1) (fun _ _ => rfl)) (pe_ifExp (pt_cmpR op_gt (pv 1) pe_int (nomark _)) (pe_ix (r := rIxT K) ix_tup (pv 0) (pe_op op_sub (pv 1) pe_int) (fun _ _ => rfl)) pe_int)) pa_nil))))) pa_nil)))), ?_⟩
    walk_at "rd"
    refine ⟨_, _, rfl, .inr (.inl (.inl hb)), ?_⟩
    walk_at "rd"
    refine ⟨by omega, by rw [List.length_map]; omega, fun D nD => lc_range (lo := 0) (n := ((xs.map V.int).length : Int).toNat) (fun i G => Same H G ∧ G D = some (.lst ((startsT xs i).map V.int))) ?_ (fun i G hi h => ?_) (fun G h => ?_)⟩
    · exact ⟨same_new nD, upd_same⟩
    · obtain ⟨h1, h2⟩ := h
      have hi : i < xs.length := by
        rw [List.length_map] at hi
        omega
      have hz : xs[i]? = some xs[i] := List.getElem?_eq_getElem hi
      have hb := h1 _ _ hb
      refine yesT rfl ?_
      have key : ∀ pr : Int, pr = (0 :: xs).getD i 0 → ∃ acc, G D = some (HO.lst acc) ∧ acc.length < sizeLine ∧ Same H (upd G D (.lst (acc ++ [V.int (up (xs[i] - pr))]))) ∧ (upd G D (.lst (acc ++ [V.int (up (xs[i] - pr))]))) D = some (.lst ((startsT xs (i + 1)).map V.int)) := by
        rintro pr rfl
        refine ⟨_, h2, ?_, fun b o e => ?_, ?_⟩
        · rw [List.length_map]
          unfold startsT
          rw [mapr_len]
          exact many_small (by omega)
        · rw [upd_ne (ne_of_none e nD)]
          exact h1 _ _ e
        · rw [upd_same]
          unfold startsT
          rw [mapr_succ, List.map_append, getD_at hz]
          rfl
      walk_at "rd"
      refine ⟨_, _, _, _, rfl, rfl, .inl (.inl hb), at_of (j := i) (by omega) (by rw [List.getElem?_map, hz]; rfl), ?_⟩
      walk_at "rd"
      refine ite2 (fun c1 => ?_) (fun c1 => ?_)
      · have c1 := of_decide_eq_true c1
        walk_at "rd"
        refine ⟨_, _, _, _, rfl, rfl, .inl (.inl hb), at_of (j := i - 1) (by omega) (by rw [List.getElem?_map, List.getElem?_eq_getElem (show i - 1 < xs.length by omega)]; rfl), ?_⟩
        walk_at "rd"
        refine key _ ?_
        obtain ⟨j, rfl⟩ : ∃ j, i = j + 1 := ⟨i - 1, by omega⟩
        rw [List.getD_cons_succ, getD_at (List.getElem?_eq_getElem (show j < xs.length by omega))]
        rfl
      · have c1 : ¬ (0 < (0 : Int) + (i : Nat)) := fun z => c1 (decide_eq_true z)
        walk_at "rd"
        refine key _ ?_
        obtain rfl : i = 0 := by omega
        rfl
    · obtain ⟨s3, e3⟩ := h
      rw [List.length_map, Int.toNat_natCast] at e3
      exact ⟨_, _, rfl, .inl (.inl e3), q G s3⟩
theorem ok_somerow {f fP fO : Addr} {fd fdP fdO : FuncData} (F : Fun K "_law_some_row" "_law_some_row" sSR f fd) (D : Drw K mg fP fO fdP fdO) (B : Blt mg) : FnOk P w K mg base CX0 2 f fd ["source", "slots"] spSomeRow := by
  have GP : FnOk P w K mg base CX0 1 fP fdP ["source", "many"] spPick := ok_pick D.FP B
  refine F.ok scSR (fun vs H Q E h => ?_) (fun cdv A outer s H vs Q E hr h => ?_)
  · obtain ⟨p, c, a, ws, ss, rfl, _⟩ := h
    rfl
  · obtain ⟨p, c, a, ws, ss, rfl, S, ha, hs, hl, hok, q⟩ := h
    have hrP := hr
    have hu64 := hr.units
    refine ⟨_, (pss_cons (ps_set (i := 2) scSR.nd rfl (.inl rfl) (pe_lst pa_nil))
      (pss_cons (ps_for PassesOwn.never rfl (pi_tup (pv 1)) (pg_tup rfl (pgs_cons (pg_name (i := 3) scSR.nd rfl (.inl rfl)) (pgs_cons (pg_name (i := 4) scSR.nd rfl (.inl rfl)) (pgs_cons (pg_name (i := 5) scSR.nd rfl (.inl rfl)) (pgs_cons (pg_name (i := 6) scSR.nd rfl (.inl rfl)) pgs_nil)))))
        (pss_cons (ps_set (i := 7) scSR.nd rfl (.inl rfl) (pe_op op_add (pv 3) (pe_call GP hrP (by rfl) D.gP D.FP.kp D.bP .nil pass0 (pa_cons (pv 0) (pa_cons (pe_op op_add (pe_op op_sub (pv 4) (pv 3)) pe_int) pa_nil)))))
        (pss_cons (ps_if (PW.pt (pw_and (pt_cmpR (op_neD hu64) (pv 2) (pe_lst pa_nil) (nomark _)) (pw_and1 (pt_cmpR op_eq (pe_call GP hrP (by rfl) D.gP D.FP.kp D.bP .nil pass0 (pa_cons (pv 0) (pa_cons pe_int pa_nil))) pe_int (nomark _)))))
          (pss_one (ps_set (i := 7) scSR.nd rfl (.inl rfl) (pe_callB (call_min2 rfl) (by rfl) B.min boot_min (pa_cons (pe_callB (call_max2 rfl) (by rfl) B.max boot_max (pa_cons (pe_ix (r := rIxL K) ix_list (pv 2) (pe_un un_neg pe_int) (fun _ _ => rfl)) (pa_cons (pv 3) pa_nil))) (pa_cons (pv 4) pa_nil)))))
          pss_nil)
        (pss_one (ps_expr (pe_bm PySem.F.plainAttrs_list PySem.F.slot_list_append PySem.F.type_list_append mt_append (pv 2) (pa_cons (pv 7) pa_nil)))))))
      (pss_one (ps_ret (pe_callTy call_tuple_of (by rfl) B.tuple (by decide +kernel) (pa_cons (pv 2) pa_nil)))))), ?_⟩
    walk_at "rd"
    refine ⟨Nat.zero_le _, fun fa nfa => ?_⟩
    generalize eH : upd _ _ _ = H1
    obtain ⟨g1, e1⟩ := new_of eH nfa
    have fp := S.ne_p nfa
    have fc := S.ne_c nfa
    have ha := g1 _ _ ha
    have hs := hs.mono (Same.tups g1)
    walk_at "rd"
    refine ⟨⟨_, .inl (.inl ha)⟩, for_tup (K := K) (a := a) (xs := ws) (fun i σ G => ∃ (x3 x4 x5 x6 x7 : Option V) (xs : List Int), σ = [some (.ref p), some (.ref a), some (.ref fa), x3, x4, x5, x6, x7] ∧
      Src G p c ∧ Off p c H G ∧ Tups H1 G ∧ G fa = some (.lst (xs.map V.int)) ∧ xs.length = i ∧ (∀ (j : Nat) (s : Slt) (x : Int), ss[j]? = some s → xs[j]? = some x → s.need ≤ x ∧ x ≤ s.most)) ⟨none, none, none, none, none, [], rfl, S.same g1, Same.off g1, Tups.refl _, e1, rfl, fun j s x _ z => by simp at z⟩ (fun i σ G _ h => ?_) (fun i x σ G hx h => ?_) (fun σ G h => ?_)⟩
    · obtain ⟨x3, x4, x5, x6, x7, xs, rfl, S1, o1, tp, k1, k2, k3⟩ := h
      exact .inl (.inl (tp _ _ ha))
    · obtain ⟨x3, x4, x5, x6, x7, xs, rfl, S1, o1, tp, k1, k2, k3⟩ := h
      obtain ⟨sl, hsl, tt, uu, rfl, a1, a2⟩ := hs.get hx
      have a1 := tp _ _ a1
      obtain ⟨ok1, ok2⟩ := hok sl (List.mem_of_getElem? hsl)
      have hi : i < ss.length := (List.getElem?_eq_some_iff.mp hsl).1
      refine ⟨tt, _, rfl, .inl (.inl a1), rfl, _, _, rfl, _, _, rfl, _, _, rfl, _, _, rfl, rfl, ?_⟩
      walk_at "rd"
      refine ⟨p, c, _, rfl, S1, by omega, fun G2 r S2 o2 r0 r1 => ?_⟩
      have k1 := o2 _ _ fp fc k1
      have o12 := o1.trans o2
      have tp2 := tp.trans (o2.tups S1)
      clear o2 eH
      have fin : ∀ (G3 : Hp) (x : Int), Src G3 p c → Off p c H G3 → Tups H1 G3 → G3 fa = some (.lst (xs.map V.int)) → sl.need ≤ x → x ≤ sl.most →
          (xs.map V.int).length < sizeLine ∧ (Src (upd G3 fa (.lst (xs.map V.int ++ [V.int x]))) p c ∧ Off p c H (upd G3 fa (.lst (xs.map V.int ++ [V.int x]))) ∧ Tups H1 (upd G3 fa (.lst (xs.map V.int ++ [V.int x]))) ∧
            (upd G3 fa (.lst (xs.map V.int ++ [V.int x]))) fa = some (.lst ((xs ++ [x]).map V.int)) ∧ (xs ++ [x]).length = i + 1 ∧
            (∀ (j : Nat) (s : Slt) (y : Int), ss[j]? = some s → (xs ++ [x])[j]? = some y → s.need ≤ y ∧ y ≤ s.most)) := by
        intro G3 x S3 o3 t3 k4 l1 l2
        refine ⟨by rw [List.length_map, k2]; exact many_small (by omega), S3.upd_new fp fc, o3.new nfa, t3.trans (tups_upd k4), ?_, ?_, ?_⟩
        · rw [upd_same, List.map_append]
          rfl
        · rw [List.length_append, k2]
          rfl
        · intro j s y h1 h2
          by_cases hj : j < xs.length
          · rw [List.getElem?_append_left hj] at h2
            exact k3 j s y h1 h2
          · rw [List.getElem?_append_right (by omega)] at h2
            have hj0 : j - xs.length = 0 := by
              have := (List.getElem?_eq_some_iff.mp h2).1
              simp only [List.length_cons, List.length_nil] at this
              omega
            rw [hj0] at h2
            have h2 : x = y := Option.some.inj h2
            have e : j = i := by omega
            rw [e, hsl] at h1
            have h1 : sl = s := Option.some.inj h1
            rw [← h1, ← h2]
            exact ⟨l1, l2⟩
      have xb1 : sl.need ≤ sl.need + r := by omega
      have xb2 : sl.need + r ≤ sl.most := by omega
      walk_at "rd"
      refine ⟨Nat.zero_le _, fun l1 nl1 => ?_⟩
      generalize eH : upd _ _ _ = G3
      obtain ⟨g3, e3⟩ := new_of eH nl1
      have k4 := g3 _ _ k1
      have S3 := S2.same g3
      have o3 := o12.trans (Same.off g3)
      have t3 := tp2.trans (Same.tups g3)
      refine ⟨_, _, nul_ints k4, .lst (.inl (.inl e3)) .nil, shaped_list_ints, shaped_list_ints (ns := []), ?_⟩
      rw [eqv_nil]
      walk_at "rd"
      refine ite2 (fun c1 => ?_) (fun c1 => ?_)
      · have hne : xs ≠ [] := by
          rintro rfl
          exact absurd c1 (by decide)
        walk_at "rd"
        refine ⟨p, c, 2, rfl, S3, by decide, fun G4 r2 S4 o4 u0 u1 => ?_⟩
        have k5 := o4 _ _ fp fc k4
        have t4 := t3.trans (o4.tups S3)
        have o14 := o3.trans o4
        walk_at "rd"
        refine ⟨rfl, ?_⟩
        walk_at "rd"
        refine ite2 (fun c2 => ?_) (fun c2 => ?_)
        · have hat : atI (xs.map V.int) (-1) = some (.int (xs.getLast hne)) := by
            have e : xs.map V.int = xs.dropLast.map V.int ++ [.int (xs.getLast hne)] := by
              rw [← List.map_singleton, ← List.map_append, List.dropLast_concat_getLast]
            rw [e]
            exact atI_last _ _
          walk_at "rd"
          refine ⟨_, _, _, _, rfl, rfl, .inl (.inl k5), hat, ?_⟩
          generalize xs.getLast hne = y
          walk_at "rd"
          refine ⟨.inl ⟨rfl, _, .inl (.inl k5)⟩, ?_⟩
          walk_at "rd"
          have ff := fin G4 (if sl.most < (if sl.need > y then sl.need else y) then sl.most else (if sl.need > y then sl.need else y)) S4 o14 t4 k5 (by split <;> split <;> omega) (by split <;> split <;> omega)
          refine ⟨_, _, _, rfl, rfl, k5, ff.1, ?_⟩
          exact ⟨_, _, _, _, _, _, rfl, ff.2⟩
        · walk_at "rd"
          refine ⟨.inl ⟨rfl, _, .inl (.inl k5)⟩, ?_⟩
          walk_at "rd"
          have ff := fin G4 _ S4 o14 t4 k5 xb1 xb2
          refine ⟨_, _, _, rfl, rfl, k5, ff.1, ?_⟩
          exact ⟨_, _, _, _, _, _, rfl, ff.2⟩
      · walk_at "rd"
        refine ⟨.inl ⟨rfl, _, .inl (.inl k4)⟩, ?_⟩
        walk_at "rd"
        have ff := fin G3 _ S3 o3 t3 k4 xb1 xb2
        refine ⟨_, _, _, rfl, rfl, k4, ff.1, ?_⟩
        exact ⟨_, _, _, _, _, _, rfl, ff.2⟩
    · obtain ⟨x3, x4, x5, x6, x7, xs, rfl, S1, o1, tp, k1, k2, k3⟩ := h
      walk_at "rd"
      refine ⟨_, _, rfl, .inl ⟨.inl (.inl k1), fun t nt => ?_⟩⟩
      generalize eH : upd _ _ _ = G2
      obtain ⟨g2, e2⟩ := new_of eH nt
      exact q G2 t xs (S1.same g2) (o1.trans (Same.off g2)) (S1.free o1 nt) e2 (by rw [k2, hs.len]) k3
theorem ok_price {f fLs : Addr} {fd dLs : FuncData} (F : Fun K "_law_price" "_law_price" sPr f fd) (D : Dls K mg fLs dLs) (B : Blt mg) : FnOk P w K mg base CX0 2 f fd ["costs", "row", "b"] spPrice := by
  have GLs : FnOk P w K mg base CX0 1 fLs dLs ["row"] spStarts := ok_lstarts D.FLs B
  refine F.ok scPr (fun vs H Q E h => ?_) (fun cdv A outer s H vs Q E hr h => ?_)
  · obtain ⟨l, b, BB, us, ss, xs, rfl, _⟩ := h
    rfl
  · obtain ⟨l, b, BB, us, ss, xs, rfl, b1, b2, hl, hc, hok, hb, hle, hlen, q⟩ := h
    have hu := hu_of hr
    have hu64 := hr.units
    have hrLs := hr
    refine ⟨_, (pss_cons (ps_if (PW.pt (pw_or (pt_cmpR op_ne (pe_callB call_len_seq (by rfl) B.len PySem.boot_len (pa_cons (pv 1) pa_nil)) (pe_callB call_len_seq (by rfl) B.len PySem.boot_len (pa_cons (pv 0) pa_nil)) (nomark _)) (pw_or1 (pt_cmpR (op_neD hu64) (pe_lc (own := [("t", 3)]) (g := gName 3) rfl scPr.nd (pi_range1 rfl B.range (pa_cons (pe_callB call_len_seq (by rfl) B.len PySem.boot_len (pa_cons (pv 1) pa_nil)) pa_nil)) (blkOk_by (own := [("t", 3)]) (N := ["costs", "row", "b", "t"]) (sc := defScope sPr) (by decide +kernel)) (fun _ _ _ _ _ => (pg_name (i := 3) scPr.nd rfl (.inl rfl))) (fun _ _ _ _ _ => pts_one (pt_cmp (pc_dnotin hu (pe_ix (r := rIxT K) ix_tup (pv 1) (pv 3) (fun _ _ => rfl)) (pe_ix (r := rIxL K) ix_list (pv 0) (pv 3) (fun _ _ => rfl))))) (fun _ _ _ _ _ => (pv 3))) (pe_lst pa_nil) (nomark _)))))
        (pss_one (ps_ret (pe_lst pa_nil)))
        pss_nil)
      (pss_one (ps_ret (pe_lst (pa_cons (pe_op op_add (pe_callB (r := rSum K) (cr_sum rfl) (by rfl) B.sum (by decide +kernel) (pa_cons (pe_lc (own := [("t", 3)]) (g := gName 3) rfl scPr.nd (pi_range1 rfl B.range (pa_cons (pe_callB call_len_seq (by rfl) B.len PySem.boot_len (pa_cons (pv 1) pa_nil)) pa_nil)) (blkOk_by (own := [("t", 3)]) (N := ["costs", "row", "b", "t"]) (sc := defScope sPr) (by decide +kernel)) (fun _ _ _ _ _ => (pg_name (i := 3) scPr.nd rfl (.inl rfl))) (fun _ _ _ _ _ => pts_nil) (fun _ _ _ _ _ => (pe_dget hu (pe_ix (r := rIxL K) ix_list (pv 0) (pv 3) (fun _ _ => rfl)) (pe_ix (r := rIxT K) ix_tup (pv 1) (pv 3) (fun _ _ => rfl)) (fun _ _ => rfl)))) pa_nil)) (pe_op op_mul (pv 2) (pe_call GLs hrLs (by rfl) D.gLs D.FLs.kp D.bLs .nil pass0 (pa_cons (pv 1) pa_nil)))) pa_nil))))), ?_⟩
    walk_at "rd"
    refine ⟨_, _, rfl, .inr (.inl (.inl hb)), ?_⟩
    walk_at "rd"
    refine ⟨_, _, rfl, .inl (.inl (.inl hl)), ?_⟩
    refine ⟨rfl, ?_⟩
    walk_at "rd"
    rw [show (!decide (V.int ((xs.map V.int).length : Nat) = V.int (us.length : Nat))) = false by rw [List.length_map, hc.len, hle]; simp]
    refine iteF ?_
    walk_at "rd"
    refine ⟨_, _, rfl, .inr (.inl (.inl hb)), ?_⟩
    walk_at "rd"
    refine ⟨by omega, by rw [List.length_map]; omega, fun D nD => lc_range (lo := 0) (n := ((xs.map V.int).length : Int).toNat) (fun i G => Same H G ∧ G D = some (.lst ((badL ss xs i).map V.int))) ?_ (fun i G hi h => ?_) (fun G h => ?_)⟩
    · exact ⟨same_new nD, upd_same⟩
    · obtain ⟨h1, h2⟩ := h
      have hi : i < xs.length := by
        rw [List.length_map] at hi
        omega
      have hz : xs[i]? = some xs[i] := List.getElem?_eq_getElem hi
      obtain ⟨v, hv⟩ : ∃ v, us[i]? = some v := ⟨_, List.getElem?_eq_getElem (show i < us.length by rw [hc.len]; omega)⟩
      obtain ⟨sl, hsl, d, rfl, hd⟩ := hc.get hv
      have hb := h1 _ _ hb
      have hl := h1 _ _ hl
      have hd := h1 _ _ hd
      have ok := hok sl (List.mem_of_getElem? hsl)
      refine ⟨rfl, ?_⟩
      walk_at "rd"
      refine ⟨_, _, _, _, rfl, rfl, .inl (.inl hb), at_of (j := i) (by omega) (by rw [List.getElem?_map, hz]; rfl), ?_⟩
      walk_at "rd"
      refine ⟨_, _, _, _, rfl, rfl, .inl (.inl hl), at_of (j := i) (by omega) hv, ?_⟩
      refine ⟨_, _, rfl, .inl ⟨_, .inl xs[i], .inl hd, rfl, rfl⟩, ?_⟩
      rw [cost_in ok.1]
      walk_at "rd"
      refine ite2 (fun c1 => ?_) (fun c1 => ?_)
      · have c1 : fitB sl xs[i] = false := by simpa using c1
        walk_at "rd"
        refine ⟨_, h2, ?_, fun b o e => ?_, ?_⟩
        · rw [List.length_map]
          have := badL_len (ss := ss) (xs := xs) (i := i)
          exact many_small (by omega)
        · rw [upd_ne (ne_of_none e nD)]
          exact h1 _ _ e
        · rw [upd_same, badL_yes hsl hz c1, List.map_append, Int.zero_add]
          rfl
      · have c1 : fitB sl xs[i] = true := by simpa using c1
        refine ⟨h1, ?_⟩
        rw [badL_no hsl hz c1]
        exact h2
    · obtain ⟨h1, h2⟩ := h
      rw [List.length_map, Int.toNat_natCast] at h2
      refine ⟨Nat.zero_le _, fun l2 nl2 => ?_⟩
      generalize eH : upd _ _ _ = G2
      obtain ⟨g2, e2⟩ := new_of eH nl2
      refine ⟨_, _, nul_ints (g2 _ _ h2), .lst (.inl (.inl e2)) .nil, shaped_list_ints, shaped_list_ints (ns := []), ?_⟩
      rw [eqv_nil]
      have g12 := Same.trans h1 g2
      walk_at "rd"
      refine ite2 (fun c1 => ?_) (fun c1 => ?_)
      · have hsv : ¬ servesL ss xs = true := by
          rw [← badL_iff]
          simpa using c1
        walk_at "rd"
        refine ⟨Nat.zero_le _, fun l3 nl3 => ?_⟩
        generalize eH : upd _ _ _ = G3
        obtain ⟨g3, e3⟩ := new_of eH nl3
        refine q G3 l3 (g12.trans g3) (g12.free nl3) ?_
        unfold priceD
        rw [if_neg hsv]
        exact e3
      · have hsv : servesL ss xs = true := by
          rw [← badL_iff]
          simpa using c1
        have hb := g12 _ _ hb
        walk_at "rd"
        refine ⟨_, _, rfl, .inr (.inl (.inl hb)), ?_⟩
        walk_at "rd"
        refine ⟨by omega, by rw [List.length_map]; omega, fun D2 nD2 => lc_range (lo := 0) (n := ((xs.map V.int).length : Int).toNat) (fun i G => Same G2 G ∧ G D2 = some (.lst ((runT ss xs i).map V.int))) ?_ (fun i G hi h => ?_) (fun G h => ?_)⟩
        · exact ⟨same_new nD2, upd_same⟩
        · obtain ⟨k1, k2⟩ := h
          have hi : i < xs.length := by
            rw [List.length_map] at hi
            omega
          have hz : xs[i]? = some xs[i] := List.getElem?_eq_getElem hi
          obtain ⟨v, hv⟩ : ∃ v, us[i]? = some v := ⟨_, List.getElem?_eq_getElem (show i < us.length by rw [hc.len]; omega)⟩
          obtain ⟨sl, hsl, d, rfl, hd⟩ := hc.get hv
          have hb := k1 _ _ hb
          have hl := k1 _ _ (g12 _ _ hl)
          have hd := k1 _ _ (g12 _ _ hd)
          have ok := hok sl (List.mem_of_getElem? hsl)
          have fit := serves_at hsv hsl hz
          refine yesT rfl ?_
          walk_at "rd"
          refine ⟨_, _, _, _, rfl, rfl, .inl (.inl hl), at_of (j := i) (by omega) hv, ?_⟩
          walk_at "rd"
          refine ⟨_, _, _, _, rfl, rfl, .inl (.inl hb), at_of (j := i) (by omega) (by rw [List.getElem?_map, hz]; rfl), ?_⟩
          refine ⟨_, _, rfl, .inl ⟨_, .inl xs[i], .inl hd, rfl, (cost_of ok.1 fit).symm⟩, ?_⟩
          refine ⟨_, k2, ?_, fun b o e => ?_, ?_⟩
          · rw [List.length_map]
            unfold runT
            rw [mapr_len]
            exact many_small (by omega)
          · rw [upd_ne (ne_of_none e nD2)]
            exact k1 _ _ e
          · rw [upd_same]
            unfold runT
            rw [mapr_succ, List.map_append, getD_at hsl, getD_at hz]
            rfl
        · obtain ⟨k1, k2⟩ := h
          rw [List.length_map, Int.toNat_natCast] at k2
          have hb := k1 _ _ hb
          refine ⟨_, _, rfl, .inl (.inl k2), ?_⟩
          walk_at "rd"
          refine ⟨_, _, rfl, hb, hlen, fun G4 g4 => ?_⟩
          walk_at "rd"
          refine ⟨mull ⟨b1, b2⟩, ?_⟩
          walk_at "rd"
          refine ⟨by show 1 ≤ sizeLine; decide, fun l3 nl3 => ?_⟩
          generalize eH : upd _ _ _ = G5
          obtain ⟨g5, e5⟩ := new_of eH nl3
          refine q G5 l3 (((g12.trans k1).trans g4).trans g5) (((g12.trans k1).trans g4).free nl3) ?_
          unfold priceD
          rw [if_pos hsv]
          exact e5
end
end K12
set_option Elab.async false
set_option linter.all false
set_option maxRecDepth 100000
set_option maxHeartbeats 1000000
namespace K12
open PySem PySem.Spec PyProof.Rows L2 WK
local macro_rules | `(tactic| walk_at "rd") => `(tactic| repeat (first | refine Exists.intro _ (And.intro rfl ?_) | refine Exists.intro _ (Exists.intro _ (And.intro rfl (And.intro rfl ?_))) | refine Exists.intro _ (Exists.intro _ (And.intro rfl ?_))))
abbrev sLaw : Stmt := topS 18
theorem scLaw : FnScope ["script", "source", "lap", "slots", "costs", "b", "row", "k", "price", "ahead", "down", "told", "due", "t"] ["script"] (defScope sLaw) := ⟨rfl, rfl, rfl, by decide +kernel, rfl, by decide +kernel, by decide +kernel⟩
structure Txt (K : PySem.W.Frag) (mg : Str → Option Value) (fS fP fO fSl fG fC fR fLs fPr fCo fSe fSt fSp fRu fRc : Addr) (dS dP dO dSl dG dC dR dLs dPr dCo dSe dSt dSp dRu dRc : FuncData) : Prop extends
    Drs K mg fP fO fSl dP dO dSl, Prg K mg fCo fSe fSt fSp fRu dCo dSe dSt dSp dRu, Dls K mg fLs dLs where
  FS : Fun K "_law_source" "_law_source" sSource fS dS
  bS : Binds K dS ["script"] []
  gS : mg "_law_source" = some (.ref fS)
  FG : Fun K "_law_great_slots" "_law_great_slots" sGreat fG dG
  bG : Binds K dG ["source", "ticks", "most"] []
  gG : mg "_law_great_slots" = some (.ref fG)
  FC : Fun K "_law_slot_costs" "_law_slot_costs" sSC fC dC
  bC : Binds K dC ["slots"] []
  gC : mg "_law_slot_costs" = some (.ref fC)
  FR : Fun K "_law_some_row" "_law_some_row" sSR fR dR
  bR : Binds K dR ["source", "slots"] []
  gR : mg "_law_some_row" = some (.ref fR)
  FPr : Fun K "_law_price" "_law_price" sPr fPr dPr
  bPr : Binds K dPr ["costs", "row", "b"] []
  gPr : mg "_law_price" = some (.ref fPr)
  FRc : Fun K "row_cost" "row_cost" sRowCost fRc dRc
  bRc : Binds K dRc ["slots", "b", "row"] []
  gRc : mg "row_cost" = some (.ref fRc)
def era (H : Hp) (D : Addr) : Hp := fun b => if b = D then none else H b
theorem era_ne {H : Hp} {D b : Addr} (h : b ≠ D) : era H D b = H b := if_neg h
theorem era_some {H : Hp} {D b : Addr} {o : HO} (h : era H D b = some o) : H b = some o := by
  by_cases e : b = D
  · have : era H D b = none := if_pos e
    rw [this] at h
    exact nomatch h
  · exact (era_ne (H := H) e).symm.trans h
theorem era_same (H : Hp) (D : Addr) : Same (era H D) H := fun _ _ h => era_some h
theorem era_upd {H : Hp} {D : Addr} {o : HO} : era (upd H D o) D = era H D := by
  funext b
  by_cases e : b = D
  · rw [e]; exact (if_pos rfl).trans (if_pos rfl).symm
  · rw [era_ne e, era_ne e, upd_ne e]
theorem era_mono {H H' : Hp} {D : Addr} (s : Same H H') : Same (era H D) (era H' D) := fun b o h => by
  by_cases e : b = D
  · have : era H D b = none := if_pos e
    rw [this] at h
    exact nomatch h
  · rw [era_ne e] at h ⊢
    exact s _ _ h
theorem dp_opt {K : PySem.W.Frag} {H : Hp} (c : Bool) (r : Int) : Dp K H (if c = true then .int r else .non) (if c = true then .int r else .none) := by
  cases c
  · exact .non
  · exact .int r
def sE : List Slt := [⟨1, 2, 1, [1]⟩, ⟨0, 2, 0, [1, 1]⟩, ⟨0, 2, 0, [1, 1]⟩, ⟨1, 2, 1, [1]⟩]
def TE : List PyData := [.list [.int 7, .int 1, .int 0], .list [.int 12, .int 3, .int 1], .list [.int 13, .int 3, .int 2]]
def spLaw (K : PySem.W.Frag) : Sp := fun vs H Q _ => ∃ (a : Addr) (ns : List Int), vs = [.ref a] ∧ SqL K H a (ns.map V.int) ∧ ns.length ≤ 63 ∧ ∀ H', Q (.bl true) H'
section
variable {P : Program} {w : World} {K : PySem.W.Frag} {mg : Str → Option Value} {base : Heap} {fS fP fO fSl fG fC fR fLs fPr fCo fSe fSt fSp fRu fRc : Addr} {dS dP dO dSl dG dC dR dLs dPr dCo dSe dSt dSp dRu dRc : FuncData}
theorem ok_law {f : Addr} {fd : FuncData} (F : Fun K "law" "law" sLaw f fd) (D : Txt K mg fS fP fO fSl fG fC fR fLs fPr fCo fSe fSt fSp fRu fRc dS dP dO dSl dG dC dR dLs dPr dCo dSe dSt dSp dRu dRc) (B : Blt mg) : FnG P w K mg base 5 f fd ["script"] (spLaw K) := by
  have GS : FnOk P w K mg base CX0 1 fS dS ["script"] (spSource K) := ok_source D.FS B
  have GP : FnOk P w K mg base CX0 1 fP dP ["source", "many"] spPick := ok_pick D.FP B
  have GO : FnOk P w K mg base CX0 2 fO dO ["source", "some"] (spOf K) := ok_of D.FO D.toDrw B
  have GG : FnOk P w K mg base CX0 4 fG dG ["source", "ticks", "most"] spGreat := ok_great D.FG D.toDrs B
  have GC : FnOk P w K mg base CX0 1 fC dC ["slots"] spSlotCosts := ok_slotcosts D.FC B
  have GR : FnOk P w K mg base CX0 2 fR dR ["source", "slots"] spSomeRow := ok_somerow D.FR D.toDrw B
  have GLs : FnOk P w K mg base CX0 1 fLs dLs ["row"] spStarts := ok_lstarts D.FLs B
  have GPr : FnOk P w K mg base CX0 2 fPr dPr ["costs", "row", "b"] spPrice := ok_price D.FPr D.toDls B
  have GSe : FnOk P w K mg base CX0 1 fSe dSe ["slots", "row"] spServes := ok_serves D.FSe B
  have GSt : FnOk P w K mg base CX0 1 fSt dSt ["row"] spStarts := ok_starts D.FSt B
  have GSp : FnOk P w K mg base CX0 1 fSp dSp ["row"] spStops := ok_stops D.FSp B
  have GRu : FnOk P w K mg base CX0 2 fRu dRu ["slots", "row"] spRunning := ok_running D.FRu D.toPrg B
  have GRc : FnOk P w K mg base CX0 3 fRc dRc ["slots", "b", "row"] spRowCost := ok_rowcost D.FRc D.toPrg B
  refine okG F scLaw (fun cdv A outer s H vs Q hr hg h => ?_)
  obtain ⟨a, ns, rfl, hS, hlen, q⟩ := h
  have hu64 := hr.units
  have hrG := hr
  have hrRc := hr.mono (show 3 ≤ 4 by decide)
  have hrO := hr.mono (show 2 ≤ 4 by decide)
  have hrR := hrO
  have hrPr := hrO
  have hrRu := hrO
  have hrP := hr.mono (show 1 ≤ 4 by decide)
  have hrS := hrP
  have hrC := hrP
  have hrLs := hrP
  have hrSe := hrP
  have hrSt := hrP
  have hrSp := hrP
  refine ⟨_, (pss_cons (ps_set (i := 1) scLaw.nd rfl (.inl rfl) (pe_call GS hrS (by rfl) D.gS D.FS.kp D.bS .nil pass0 (pa_cons (pv 0) pa_nil)))
      (pss_cons (ps_for PassesOwn.never rfl (pi_range1 rfl B.range (pa_cons pe_int pa_nil)) (pg_name (i := 2) scLaw.nd rfl (.inl rfl))
        (pss_cons (ps_set (i := 3) scLaw.nd rfl (.inr rfl) (pe_call GG hrG (by rfl) D.gG D.FG.kp D.bG .nil pass0 (pa_cons (pv 1) (pa_cons (pe_call GP hrP (by rfl) D.gP D.FP.kp D.bP .nil pass0 (pa_cons (pv 1) (pa_cons pe_int pa_nil))) (pa_cons pe_int pa_nil)))))
        (pss_cons (ps_par (i := 4) (j := 5) rfl scLaw.nd rfl rfl (by decide) rfl rfl (pa_cons (pe_call GC hrC (by rfl) D.gC D.FC.kp D.bC .nil pass0 (pa_cons (pv 3) pa_nil)) (pa_cons (pe_op op_add pe_int (pe_op op_mul (pe_call GP hrP (by rfl) D.gP D.FP.kp D.bP .nil pass0 (pa_cons (pv 1) (pa_cons pe_int pa_nil))) (pe_call GO hrO (by rfl) D.gO D.FO.kp D.bO .nil pass0 (pa_cons (pv 1) (pa_cons (pe_lst (pa_cons pe_int (pa_cons (pe_op op_pow pe_int pe_int) pa_nil))) pa_nil))))) pa_nil)) (by rfl))
        (pss_cons (ps_set (i := 6) scLaw.nd rfl (.inr rfl) (pe_call GR hrR (by rfl) D.gR D.FR.kp D.bR .nil pass0 (pa_cons (pv 1) (pa_cons (pv 3) pa_nil))))
        (pss_cons (ps_if (PW.pt (pw_and (pt_cmpR (op_neD hu64) (pv 6) (pe_tup pa_nil) (nomark _)) (pw_and1 (pt_cmpR op_eq (pe_call GP hrP (by rfl) D.gP D.FP.kp D.bP .nil pass0 (pa_cons (pv 1) (pa_cons pe_int pa_nil))) pe_int (nomark _)))))
          (pss_cons (ps_set (i := 7) scLaw.nd rfl (.inl rfl) (pe_call GP hrP (by rfl) D.gP D.FP.kp D.bP .nil pass0 (pa_cons (pv 1) (pa_cons (pe_callB call_len_seq (by rfl) B.len PySem.boot_len (pa_cons (pv 6) pa_nil)) pa_nil))))
          (pss_cons (ps_set (i := 6) scLaw.nd rfl (.inr rfl) (pe_op op_catA (pe_op op_catA (pe_slice (r := rSlA K) sl_tupA (pv 6) po_none (po_some (pv 7))) (pe_tup (pa_cons (pe_op op_add (pe_ix (r := rIxT K) ix_tup (pv 6) (pv 7) (fun _ _ => rfl)) (pe_call GO hrO (by rfl) D.gO D.FO.kp D.bO .nil pass0 (pa_cons (pv 1) (pa_cons (pe_lst (pa_cons pe_int (pa_cons (pe_un un_neg pe_int) (pa_cons pe_int (pa_cons (pe_un un_neg (pe_op op_pow pe_int pe_int)) pa_nil))))) pa_nil)))) pa_nil))) (pe_slice (r := rSlA K) sl_tupA (pv 6) (po_some (pe_op op_add (pv 7) pe_int)) po_none)))
          (pss_cons (ps_set (i := 7) scLaw.nd rfl (.inl rfl) (pe_callB (call_min2 rfl) (by rfl) B.min boot_min (pa_cons (pe_op op_add (pv 7) pe_int) (pa_cons (pe_op op_sub (pe_callB call_len_seq (by rfl) B.len PySem.boot_len (pa_cons (pv 6) pa_nil)) pe_int) pa_nil))))
          (pss_one (ps_set (i := 6) scLaw.nd rfl (.inr rfl) (pe_op op_catA (pe_op op_catA (pe_slice (r := rSlA K) sl_tupA (pv 6) po_none (po_some (pv 7))) (pe_tup (pa_cons (pe_op op_add (pe_ix (r := rIxT K) ix_tup (pv 6) (pv 7) (fun _ _ => rfl)) (pe_call GO hrO (by rfl) D.gO D.FO.kp D.bO .nil pass0 (pa_cons (pv 1) (pa_cons (pe_lst (pa_cons pe_int (pa_cons (pe_un un_neg pe_int) (pa_cons (pe_un un_neg (pe_op op_pow pe_int pe_int)) (pa_cons (pe_op op_sub pe_int (pe_op op_pow pe_int pe_int)) pa_nil))))) pa_nil)))) pa_nil))) (pe_slice (r := rSlA K) sl_tupA (pv 6) (po_some (pe_op op_add (pv 7) pe_int)) po_none)))))))
          pss_nil)
        (pss_cons (ps_asg (pe_tup (pa_cons (pe_call GPr hrPr (by rfl) D.gPr D.FPr.kp D.bPr .nil pass0 (pa_cons (pv 4) (pa_cons (pv 6) (pa_cons (pv 5) pa_nil)))) (pa_cons (pe_op op_cat (pe_lst (pa_cons pe_int pa_nil)) (pe_callTy call_list_of (by rfl) B.list (by decide +kernel) (pa_cons (pv 6) pa_nil))) pa_nil))) (pg_tup rfl (pgs_cons (pg_name (i := 8) scLaw.nd rfl (.inl rfl)) (pgs_cons (pg_name (i := 9) scLaw.nd rfl (.inr rfl)) pgs_nil))))
        (pss_cons (ps_set (i := 10) scLaw.nd rfl (.inl rfl) (pe_callB (r := rSum K) (cr_sum rfl) (by rfl) B.sum (by decide +kernel) (pa_cons (pe_lc (own := [("t", 13)]) (g := gName 13) rfl scLaw.nd (pi_range1 rfl B.range (pa_cons (pe_callB call_len_seq (by rfl) B.len PySem.boot_len (pa_cons (pv 6) pa_nil)) pa_nil)) (blkOk_by (own := [("t", 13)]) (N := ["script", "source", "lap", "slots", "costs", "b", "row", "k", "price", "ahead", "down", "told", "due", "t"]) (sc := defScope sLaw) (by decide +kernel)) (fun _ _ _ _ _ => (pg_name (i := 13) scLaw.nd rfl (.inl rfl))) (fun _ _ _ _ _ => pts_nil) (fun _ _ _ _ _ => (pe_callB (call_max2 rfl) (by rfl) B.max boot_max (pa_cons pe_int (pa_cons (pe_op op_sub (pe_ix (r := rIxL K) ix_list (pv 9) (pv 13) (fun _ _ => rfl)) (pe_ix (r := rIxT K) ix_tup (pv 6) (pv 13) (fun _ _ => rfl))) pa_nil))))) pa_nil)))
        (pss_cons (ps_set (i := 11) scLaw.nd rfl (.inl rfl) (pe_lst (pa_cons (pe_call GSe hrSe (by rfl) D.gSe D.FSe.kp D.bSe .nil pass0 (pa_cons (pv 3) (pa_cons (pv 6) pa_nil))) (pa_cons (pe_call GSt hrSt (by rfl) D.gSt D.FSt.kp D.bSt .nil pass0 (pa_cons (pv 6) pa_nil)) (pa_cons (pe_call GSp hrSp (by rfl) D.gSp D.FSp.kp D.bSp .nil pass0 (pa_cons (pv 6) pa_nil)) (pa_cons (pe_call GRu hrRu (by rfl) D.gRu D.FRu.kp D.bRu .nil pass0 (pa_cons (pv 3) (pa_cons (pv 6) pa_nil))) (pa_cons (pe_call GRc hrRc (by rfl) D.gRc D.FRc.kp D.bRc .nil pass0 (pa_cons (pv 3) (pa_cons (pv 5) (pa_cons (pv 6) pa_nil)))) pa_nil)))))))
        (pss_cons (ps_set (i := 12) scLaw.nd rfl (.inl rfl) (pe_lst (pa_cons (pe_cmpR (op_neD hu64) (pv 8) (pe_lst pa_nil) (nomark _)) (pa_cons (pe_call GLs hrLs (by rfl) D.gLs D.FLs.kp D.bLs .nil pass0 (pa_cons (pv 6) pa_nil)) (pa_cons (pv 10) (pa_cons pe_non (pa_cons pe_non pa_nil)))))))
        (pss_cons (ps_if (pt_cmpR (op_neD hu64) (pv 8) (pe_lst pa_nil) (nomark _))
          (pss_one (ps_set (i := 12) scLaw.nd rfl (.inl rfl) (pe_op op_cat (pe_slice (r := rSlL K) sl_list (pv 12) po_none (po_some pe_int)) (pe_lst (pa_cons (pe_op op_sub (pe_ix (r := rIxL K) ix_list (pv 8) pe_int (fun _ _ => rfl)) (pe_op op_mul (pv 5) (pe_call GLs hrLs (by rfl) D.gLs D.FLs.kp D.bLs .nil pass0 (pa_cons (pv 6) pa_nil)))) (pa_cons (pe_ix (r := rIxL K) ix_list (pv 8) pe_int (fun _ _ => rfl)) pa_nil))))))
          pss_nil)
        (pss_one (ps_if (pt_cmpR op_ne (pe_callB (call_reprD hg hu64) (by rfl) B.repr (by decide +kernel) (pa_cons (pv 11) pa_nil)) (pe_callB (call_reprD hg hu64) (by rfl) B.repr (by decide +kernel) (pa_cons (pv 12) pa_nil)) (nomark _))
          (pss_one (ps_ret pe_bl))
          pss_nil))))))))))))
      (pss_cons (ps_set (i := 3) scLaw.nd rfl (.inr rfl) (pe_tup (pa_cons (pe_tup (pa_cons pe_int (pa_cons pe_int (pa_cons pe_int (pa_cons (pe_tup (pa_cons pe_int pa_nil)) pa_nil))))) (pa_cons (pe_tup (pa_cons pe_int (pa_cons pe_int (pa_cons pe_int (pa_cons (pe_tup (pa_cons pe_int (pa_cons pe_int pa_nil))) pa_nil))))) (pa_cons (pe_tup (pa_cons pe_int (pa_cons pe_int (pa_cons pe_int (pa_cons (pe_tup (pa_cons pe_int (pa_cons pe_int pa_nil))) pa_nil))))) (pa_cons (pe_tup (pa_cons pe_int (pa_cons pe_int (pa_cons pe_int (pa_cons (pe_tup (pa_cons pe_int pa_nil)) pa_nil))))) pa_nil))))))
      (pss_cons (ps_setLc (i := 11) (own := [("row", 6)]) (g := gName 6) rfl scLaw.nd rfl rfl (sw_true rfl rfl rfl (by decide +kernel)) (pi_list (pe_lst (pa_cons (pe_tup (pa_cons pe_int (pa_cons pe_int (pa_cons pe_int (pa_cons pe_int pa_nil))))) (pa_cons (pe_tup (pa_cons pe_int (pa_cons pe_int (pa_cons pe_int (pa_cons pe_int pa_nil))))) (pa_cons (pe_tup (pa_cons pe_int (pa_cons pe_int (pa_cons pe_int (pa_cons pe_int pa_nil))))) pa_nil))))) (blkOk_by (own := [("row", 6)]) (N := ["script", "source", "lap", "slots", "costs", "b", "row", "k", "price", "ahead", "down", "told", "due", "t"]) (sc := defScope sLaw) (by decide +kernel)) (fun _ _ _ _ _ => (pg_name (i := 6) scLaw.nd rfl (.inl rfl))) (fun _ _ _ _ _ => pts_nil) (fun _ _ _ _ _ => (pe_lst (pa_cons (pe_call GRc hrRc (by rfl) D.gRc D.FRc.kp D.bRc .nil pass0 (pa_cons (pv 3) (pa_cons pe_int (pa_cons (pv 6) pa_nil)))) (pa_cons (pe_call GSt hrSt (by rfl) D.gSt D.FSt.kp D.bSt .nil pass0 (pa_cons (pv 6) pa_nil)) (pa_cons (pe_call GSp hrSp (by rfl) D.gSp D.FSp.kp D.bSp .nil pass0 (pa_cons (pv 6) pa_nil)) pa_nil))))))
      (pss_cons (ps_set (i := 11) scLaw.nd rfl (.inl rfl) (pe_op op_cat (pv 11) (pe_lst (pa_cons (pe_call GRc hrRc (by rfl) D.gRc D.FRc.kp D.bRc .nil pass0 (pa_cons (pv 3) (pa_cons pe_int (pa_cons (pe_tup (pa_cons pe_int (pa_cons pe_int (pa_cons pe_int (pa_cons pe_int pa_nil))))) pa_nil)))) (pa_cons (pe_call GSt hrSt (by rfl) D.gSt D.FSt.kp D.bSt .nil pass0 (pa_cons (pe_tup pa_nil) pa_nil)) (pa_cons (pe_call GSp hrSp (by rfl) D.gSp D.FSp.kp D.bSp .nil pass0 (pa_cons (pe_tup pa_nil) pa_nil)) (pa_cons (pe_call GRc hrRc (by rfl) D.gRc D.FRc.kp D.bRc .nil pass0 (pa_cons (pe_tup pa_nil) (pa_cons pe_int (pa_cons (pe_tup pa_nil) pa_nil)))) (pa_cons (pe_call GSe hrSe (by rfl) D.gSe D.FSe.kp D.bSe .nil pass0 (pa_cons (pe_tup pa_nil) (pa_cons (pe_tup pa_nil) pa_nil))) pa_nil))))))))
      (pss_one (ps_ret (pe_cmpR op_eq (pe_callB (call_reprD hg hu64) (by rfl) B.repr (by decide +kernel) (pa_cons (pv 11) pa_nil)) (pe_callB (call_reprD hg hu64) (by rfl) B.repr (by decide +kernel) (pa_cons (pe_lst (pa_cons (pe_lst (pa_cons pe_int (pa_cons pe_int (pa_cons pe_int pa_nil)))) (pa_cons (pe_lst (pa_cons pe_int (pa_cons pe_int (pa_cons pe_int pa_nil)))) (pa_cons (pe_lst (pa_cons pe_int (pa_cons pe_int (pa_cons pe_int pa_nil)))) (pa_cons pe_non (pa_cons pe_int (pa_cons pe_int (pa_cons pe_int (pa_cons pe_bl pa_nil))))))))) pa_nil)) (nomark _))))))))), ?_⟩
  walk_at "rd"
  refine ⟨_, _, rfl, hS, hlen, fun H1 p c S1 s1 np nc => ?_⟩
  walk_at "rd"
  refine ⟨by decide, by decide, for_range (lo := 0) (n := 8) (fun i σ G => ∃ x2 x3 x4 x5 x6 x7 x8 x9 x10 x11 x12 x13, σ = [some (.ref a), some (.ref p), x2, x3, x4, x5, x6, x7, x8, x9, x10, x11, x12, x13] ∧ Src G p c) ⟨none, none, none, none, none, none, none, none, none, none, none, none, rfl, S1⟩ (fun i σ G hi h => ?_) (fun σ G h => ?_)⟩
  · obtain ⟨x2, x3, x4, x5, x6, x7, x8, x9, x10, x11, x12, x13, rfl, S⟩ := h
    -- slots
    walk_at "rd"
    refine ⟨p, c, 12, rfl, S, by decide, fun G1 r S1 o1 r0 r1 => ?_⟩
    obtain ⟨rn, rfl⟩ := Int.eq_ofNat_of_zero_le r0
    walk_at "rd"
    refine ⟨p, c, rn, 8, rfl, S1, by omega, by decide, by decide, fun G2 ts ws ss S2 o2 e2 nts hs hl hok => ?_⟩
    have hn : ss.length ≤ 12 := by omega
    have hlenS : ∀ s ∈ ss, (s.slopes.length : Int) = s.most - s.need ∧ s.need ≤ s.most := fun s hsm => ⟨(hok s hsm).1.len, (hok s hsm).1.mid⟩
    -- costs, b
    walk_at "rd"
    refine ⟨_, _, _, rfl, e2, hs, by omega, fun s hsm => ?_, fun G3 cl us g3 ncl e3 hc hcf => ?_⟩
    · have h1 := hlenS s hsm
      have h2 := (hok s hsm).2
      omega
    have S3 := S2.same g3
    have hs3 := hs.mono (Same.tups g3)
    have e2 := g3 _ _ e2
    have hcf : ∀ v ∈ us, ∃ d, v = .ref d ∧ d ≠ p ∧ d ≠ c := fun v hv => by
      obtain ⟨d, e, nd⟩ := hcf v hv
      exact ⟨d, e, S2.ne_p nd, S2.ne_c nd⟩
    have clp := S2.ne_p ncl
    have clc := S2.ne_c ncl
    walk_at "rd"
    refine ⟨p, c, 10, rfl, S3, by decide, fun G4 r4 S4 o4 r40 r41 => ?_⟩
    walk_at "rd"
    refine ⟨⟨by decide, by decide, by decide⟩, ?_⟩
    walk_at "rd"
    refine ⟨by show 2 ≤ sizeLine; decide, fun l1 nl1 => ?_⟩
    generalize eH : upd _ _ _ = G5
    obtain ⟨g5, e5⟩ := new_of eH nl1
    walk_at "rd"
    refine ⟨p, c, l1, _, rfl, S4.same g5, fun G' o => .inl (.inl (.inl (o _ _ (S4.ne_p nl1) (S4.ne_c nl1) e5))), by simp, by show 2 ≤ 100000; decide, fun G6 x hx S6 o6 => ?_⟩
    obtain ⟨bm, rfl, bm0, bm1⟩ : ∃ z, x = .int z ∧ 1 ≤ z ∧ z ≤ 100000000 := by
      simp only [List.mem_cons, List.not_mem_nil, or_false] at hx
      rcases hx with rfl | rfl
      · exact ⟨_, rfl, by omega, by omega⟩
      · exact ⟨_, rfl, by decide, by decide⟩
    have o36 : Off p c G3 G6 := (o4.trans (Same.off g5)).trans o6
    have hs6 := hs3.mono (o36.tups S3)
    have e26 := o36.tup S3 e2
    have e36 := o36 _ _ clp clc e3
    have hc6 := hc.off o36 hcf
    clear hs3 e2 e3 hc g3 o4 g5 e5 o6 o36 eH hx S3 S4
    walk_at "rd"
    refine ⟨mull (by omega), ?_⟩
    have bb : 1 ≤ 1 + r4 * bm ∧ 1 + r4 * bm ≤ 1 + 10 * 100000000 := by
      have h1 : r4 * bm ≤ 10 * 100000000 := Int.mul_le_mul (by omega) bm1 (by omega) (by omega)
      have h2 : 0 ≤ r4 * bm := Int.mul_nonneg r40 (by omega)
      omega
    walk_at "rd"
    refine ⟨p, c, ts, ws, ss, rfl, S6, e26, hs6, by omega, fun s hsm => ⟨(hlenS s hsm).2, by have := (hok s hsm).2; omega⟩, fun G7 t xs S7 o7 ntx e7 hxl hxb => ?_⟩
    have hs7 := hs6.mono (o7.tups S6)
    have e27 := o7.tup S6 e26
    have e37 := o7 _ _ clp clc e36
    have hc7 := hc6.off o7 hcf
    have w1 : within 1000000 xs := by
      intro x hx
      obtain ⟨j, hj⟩ := List.mem_iff_getElem?.mp hx
      have hj2 : j < ss.length := by
        rw [← hxl]
        exact (List.getElem?_eq_some_iff.mp hj).1
      have hsj := List.getElem?_eq_getElem hj2
      have h1 := hxb j _ x hsj hj
      have ok := (hok _ (List.getElem_mem hj2)).1
      have h2 := ok.lo
      have h3 := ok.hi
      omega
    clear hs6 e26 e36 hc6 hxb S6 o7 ntx
    -- the row otherwise
    dsimp only [gName]
    refine seq_R (fun σ J => ∃ (x7 : Option V) (tr : Addr) (ys : List Int), σ = [some (.ref a), some (.ref p), some (.int (0 + (i : Nat))), some (.ref ts), some (.ref cl), some (.int (1 + r4 * bm)), some (.ref tr), x7, x8, x9, x10, x11, x12, x13] ∧
      Src J p c ∧ J ts = some (.tup ws) ∧ SltsAt J ws ss ∧ J cl = some (.lst us) ∧ CostsAt J us ss ∧ J tr = some (.tup (ys.map V.int)) ∧ ys.length = ss.length ∧ within 4000000 ys) (fun σ J h => ?_) (fun D' hD => ?_)
    · obtain ⟨x7, tr, ys, rfl, S, et, hs, el, hc, er, yl, w4⟩ := h

      walk_at "rd"
      refine ⟨cl, tr, _, us, ss, ys, rfl, by omega, by omega, el, hc, hlenS, er, yl, by omega, fun J1 pr j1 npr epr => ?_⟩
      walk_at "rd"
      refine ⟨by show 1 ≤ sizeLine; decide, fun l0 nl0 => ?_⟩
      generalize eH : upd _ _ _ = J2
      obtain ⟨j2, e2⟩ := new_of eH nl0
      have j12 := Same.trans j1 j2
      walk_at "rd"
      refine ⟨_, _, rfl, .inr (.inl (.inl (j12 _ _ er))), fun l00 nl00 => ?_⟩
      generalize eH : upd _ _ _ = J3
      obtain ⟨j3, e3⟩ := new_of eH nl00
      have j13 := j12.trans j3
      refine ⟨_, _, _, _, rfl, rfl, j3 _ _ e2, e3, by rw [List.length_map]; exact Nat.le_of_lt (many_small (by show 1 + _ ≤ _; omega)), fun ah nah => ?_⟩
      generalize eH : upd _ _ _ = J4
      obtain ⟨j4, e4⟩ := new_of eH nah
      have j14 := j13.trans j4
      have e4 : J4 ah = some (.lst ((0 :: ys).map V.int)) := e4
      have epr := j4 _ _ (j3 _ _ (j2 _ _ epr))
      clear j1 j2 j3 j4 j12 j13 e2 e3 nl0 nl00
      walk_at "rd"
      refine ⟨by show 2 ≤ sizeLine; decide, fun tp ntp => ?_⟩
      generalize eH : upd _ _ _ = J5
      obtain ⟨j5, e5⟩ := new_of eH ntp
      refine ⟨tp, _, rfl, .inl (.inl e5), rfl, _, _, rfl, _, _, rfl, rfl, ?_⟩
      have j15 := Same.trans j14 j5
      have epr := j5 _ _ epr
      have e4 := j5 _ _ e4
      clear j14 j5 e5 ntp eH
      walk_at "rd"
      have e5r := j15 _ _ er
      refine ⟨_, _, rfl, .inr (.inl (.inl e5r)), ?_⟩
      walk_at "rd"
      refine ⟨by omega, by rw [List.length_map]; omega, fun D nD => lc_range (lo := 0) (n := ((ys.map V.int).length : Int).toNat) (fun i G => Same J5 G ∧ G D = some (.lst ((stopsT ys i).map V.int))) ?_ (fun i2 G hi h => ?_) (fun G h => ?_)⟩
      · exact ⟨same_new nD, upd_same⟩
      · obtain ⟨h1, h2⟩ := h
        have hi2 : i2 < ys.length := by
          rw [List.length_map] at hi
          omega
        have hz : ys[i2]? = some ys[i2] := List.getElem?_eq_getElem hi2
        have hz2 : (0 :: ys)[i2]? = some ((0 :: ys)[i2]'(Nat.lt_succ_of_lt hi2)) := List.getElem?_eq_getElem _
        refine yesT rfl ?_
        walk_at "rd"
        refine ⟨_, _, _, _, rfl, rfl, .inl (.inl (h1 _ _ e4)), at_of (j := i2) (by omega) (by rw [List.getElem?_map, hz2]; rfl), ?_⟩
        walk_at "rd"
        refine ⟨_, _, _, _, rfl, rfl, .inl (.inl (h1 _ _ e5r)), at_of (j := i2) (by omega) (by rw [List.getElem?_map, hz]; rfl), ?_⟩
        walk_at "rd"
        refine ⟨_, h2, ?_, fun b o e => ?_, ?_⟩
        · rw [List.length_map]
          unfold stopsT
          rw [mapr_len]
          exact many_small (by omega)
        · rw [upd_ne (ne_of_none e nD)]
          exact h1 _ _ e
        · rw [upd_same]
          unfold stopsT
          rw [mapr_succ, List.map_append, getD_at hz, getD_at hz2]
          rfl
      · obtain ⟨h1, h2⟩ := h
        rw [List.length_map, Int.toNat_natCast] at h2
        refine ⟨_, _, rfl, .inl (.inl h2), ?_⟩
        have j1G := j15.trans h1
        have epr := h1 _ _ epr
        clear h2 nD D e5r e4 h1 j15
        have S := S.same j1G
        have et := j1G _ _ et
        have hs := hs.mono (Same.tups j1G)
        have er := j1G _ _ er
        have yb : ys.length ≤ 12 := by omega
        have sb := startsL_b w4 (by decide)
        have pb := stopsL_b w4 (by decide)
        have rb := runL_b (B := 10000000000 * (3 + 8 * 8) + 80000000000 * 1000) (fun s hsm x => cost_b (hok s hsm).1 (by have := (hok s hsm).2; omega) (by decide) x) yl
        clear j1G
        generalize eB : 1 + r4 * bm = B at bb epr ⊢
        generalize eST : startsL ys = st at sb epr ⊢
        have cb : -(10 ^ 40) ≤ B * st ∧ B * st ≤ 10 ^ 40 := by
          have h1 : B * st ≤ B * (2 * 4000000 * 12) := Int.mul_le_mul_of_nonneg_left (by omega) (by omega)
          have h2 : B * (-(2 * 4000000 * 12)) ≤ B * st := Int.mul_le_mul_of_nonneg_left (by omega) (by omega)
          omega
        have z1 : st.natAbs < 10 ^ 150 := Nat.lt_of_le_of_lt (show st.natAbs ≤ 10 ^ 40 by omega) (by decide)
        have z2 : (stopsL ys).natAbs < 10 ^ 150 := Nat.lt_of_le_of_lt (show _ ≤ 10 ^ 40 by omega) (by decide)
        have z3 : (runL ss ys).natAbs < 10 ^ 150 := Nat.lt_of_le_of_lt (show _ ≤ 10 ^ 40 by omega) (by decide)
        have z4 : (runL ss ys + B * st).natAbs < 10 ^ 150 := Nat.lt_of_le_of_lt (show _ ≤ 10 ^ 41 by omega) (by decide)
        walk_at "rd"
        refine ⟨ts, tr, ws, ss, ys, rfl, et, hs, er, yl, by omega, fun K1 k1 => ?_⟩
        walk_at "rd"
        refine ⟨tr, ys, rfl, k1 _ _ er, by omega, fun K2 k2 => ?_⟩
        have k12 := Same.trans k1 k2
        walk_at "rd"
        refine ⟨tr, ys, rfl, k12 _ _ er, by omega, fun K3 k3 => ?_⟩
        have k13 := k12.trans k3
        walk_at "rd"
        refine ⟨ts, tr, ws, ss, ys, rfl, k13 _ _ et, hs.mono (Same.tups k13), k13 _ _ er, yl, by omega, fun K4 k4 => ?_⟩
        have k14 := k13.trans k4
        walk_at "rd"
        refine ⟨ts, tr, _, ws, ss, ys, rfl, by omega, by omega, k14 _ _ et, hs.mono (Same.tups k14), k14 _ _ er, yl, by omega, fun K5 k5 => ?_⟩
        have k15 := k14.trans k5
        walk_at "rd"
        refine ⟨by show 5 ≤ sizeLine; decide, fun tl ntl => ?_⟩
        generalize eH : upd _ _ _ = K6
        obtain ⟨k6, e6⟩ := new_of eH ntl
        have k16 := k15.trans k6
        have S := S.same k16
        have er := k16 _ _ er
        have epr := k16 _ _ epr
        clear et hs k1 k2 k3 k4 k5 k6 k12 k13 k14 k15 k16 ntl eH
        rw [eST] at e6
        have tD : Dp K K6 (.ref tl) (rowD (servesL ss ys) st (stopsL ys) (runL ss ys) (runL ss ys + B * st)) :=
          .lst (.inl (.inl e6)) (.cons (.bl _) (.cons (.int _) (.cons (.int _) (.cons (dp_opt _ _) (.cons (dp_opt _ _) .nil)))))
        walk_at "rd"
        refine ⟨Nat.zero_le _, fun l3 nl3 => ?_⟩
        generalize eH : upd _ _ _ = K7
        obtain ⟨k7, e7⟩ := new_of eH nl3
        refine ⟨_, _, nul_ints (k7 _ _ epr), .lst (.inl (.inl e7)) .nil, shaped_list_ints, shaped_list_ints (ns := []), ?_⟩
        rw [eqv_nil]
        walk_at "rd"
        refine ⟨tr, ys, rfl, k7 _ _ er, by omega, fun K8 k8 => ?_⟩
        rw [eST]
        walk_at "rd"
        refine ⟨by show 5 ≤ sizeLine; decide, fun dl ndl => ?_⟩
        generalize eH : upd _ _ _ = K9
        obtain ⟨k9, e9⟩ := new_of eH ndl
        have k79 := (Same.trans k7 k8).trans k9
        have tD := dp_same k79 _ _ tD
        have S := S.same k79
        have er := k79 _ _ er
        have epr := k79 _ _ epr
        clear e6 e7 k7 k8 k9 k79 ndl nl3 eH
        walk_at "rd"
        refine ⟨Nat.zero_le _, fun l4 nl4 => ?_⟩
        generalize eH : upd _ _ _ = L1
        obtain ⟨m1, f1⟩ := new_of eH nl4
        have epr := m1 _ _ epr
        refine ⟨_, _, nul_ints epr, .lst (.inl (.inl f1)) .nil, shaped_list_ints, shaped_list_ints (ns := []), ?_⟩
        rw [eqv_nil]
        have tD := dp_same m1 _ _ tD
        have S := S.same m1
        have er := m1 _ _ er
        have e9 := m1 _ _ e9
        clear f1 m1 nl4 eH
        walk_at "rd"
        cases hsv : servesL ss ys with
        | true =>
          rw [hsv] at tD
          have pe : priceD ss ys B = [runL ss ys + B * st] := by
            unfold priceD
            rw [if_pos hsv, eST]
          rw [pe] at epr e9 ⊢
          refine ite2 (fun _ => ?_) (fun c => absurd c (by simp))
          walk_at "rd"
          dsimp only [tNoPart]
          refine ⟨_, _, rfl, .inl (.inl e9), fun sl nsl => ?_⟩
          generalize eH : upd _ _ _ = L2
          obtain ⟨m2, f2⟩ := new_of eH nsl
          have f2 : L2 sl = some (.lst [.bl true, .int st, .int (stopsL ys)]) := f2
          have epr := m2 _ _ epr
          have er := m2 _ _ er
          have tD := dp_same m2 _ _ tD
          have S := S.same m2
          clear m2 eH nsl e9
          walk_at "rd"
          refine ⟨_, _, _, _, rfl, rfl, .inl (.inl epr), atI_nat (j := 0) rfl, ?_⟩
          walk_at "rd"
          refine ⟨tr, ys, rfl, er, by omega, fun L3 m3 => ?_⟩
          rw [eST]
          refine ⟨B, st, rfl, rfl, mull (by omega), ?_⟩
          walk_at "rd"
          refine ⟨_, _, _, _, rfl, rfl, .inl (.inl (m3 _ _ epr)), atI_nat (j := 0) rfl, ?_⟩
          walk_at "rd"
          refine ⟨by show 2 ≤ sizeLine; decide, fun wl nwl => ?_⟩
          generalize eH : upd _ _ _ = L4
          obtain ⟨m4, f4⟩ := new_of eH nwl
          have f4 : L4 wl = some (.lst [.int (runL ss ys + B * st - B * st), .int (runL ss ys + B * st)]) := f4
          rw [Int.add_sub_cancel] at f4
          have m34 := Same.trans m3 m4
          refine ⟨_, _, _, _, rfl, rfl, m34 _ _ f2, f4, by show 5 ≤ sizeLine; decide, fun d2 nd2 => ?_⟩
          generalize eH : upd _ _ _ = L5
          obtain ⟨m5, f5⟩ := new_of eH nd2
          have m35 := m34.trans m5
          have tD := dp_same m35 _ _ tD
          have S := S.same m35
          have dD : Dp K L5 (.ref d2) (rowD true st (stopsL ys) (runL ss ys) (runL ss ys + B * st)) :=
            .lst (.inl (.inl f5)) (.cons (.bl _) (.cons (.int _) (.cons (.int _) (.cons (.int _) (.cons (.int _) .nil)))))
          walk_at "rd"
          refine ⟨_, _, rfl, tD, rowD_shows z1 z2 z3 z4, ?_⟩
          generalize eQ : (rowD true st (stopsL ys) (runL ss ys) (runL ss ys + B * st)).shown = sh
          walk_at "rd"
          refine ⟨_, _, rfl, dD, rowD_shows z1 z2 z3 z4, ?_⟩
          rw [eQ]
          clear eQ
          refine ⟨rfl, ?_⟩
          walk_at "rd"
          refine ite2 (fun c => absurd c (by simp)) (fun _ => ?_)
          exact ⟨_, _, _, _, _, _, _, _, _, _, _, _, rfl, S⟩
        | false =>
          rw [hsv] at tD
          have pe : priceD ss ys B = [] := by
            unfold priceD
            rw [if_neg (by rw [hsv]; decide)]
          rw [pe] at epr e9 ⊢
          refine ite2 (fun c => absurd c (by simp)) (fun _ => ?_)
          walk_at "rd"
          have dD : Dp K L1 (.ref dl) (rowD false st (stopsL ys) (runL ss ys) (runL ss ys + B * st)) :=
            .lst (.inl (.inl e9)) (.cons (.bl _) (.cons (.int _) (.cons (.int _) (.cons .non (.cons .non .nil)))))
          refine ⟨_, _, rfl, tD, rowD_shows z1 z2 z3 z4, ?_⟩
          generalize eQ : (rowD false st (stopsL ys) (runL ss ys) (runL ss ys + B * st)).shown = sh
          walk_at "rd"
          refine ⟨_, _, rfl, dD, rowD_shows z1 z2 z3 z4, ?_⟩
          rw [eQ]
          clear eQ
          refine ⟨rfl, ?_⟩
          walk_at "rd"
          refine ite2 (fun c => absurd c (by simp)) (fun _ => ?_)
          exact ⟨_, _, _, _, _, _, _, _, _, _, _, _, rfl, S⟩
    · walk_at "rd"
      refine ⟨Nat.zero_le _, fun t0 nt0 => ?_⟩
      generalize eH : upd _ _ _ = G8
      obtain ⟨g8, e8⟩ := new_of eH nt0
      have e78 := g8 _ _ e7
      refine ⟨_, _, .tup (.inl (.inl e78)) (dp_ints xs), .tup (.inl (.inl e8)) .nil, shaped_tup_ints, shaped_tup_ints (ns := []), ?_⟩
      have evt : PyData.eqv (.tuple (intsD xs)) (.tuple []) = decide (xs = []) := by
        cases xs with
        | nil => simp [PyData.eqv, PyData.eqvAll]
        | cons n ns => simp [PyData.eqv, PyData.eqvAll]
      rw [evt]
      have S8 := S7.same g8
      have hs8 := hs7.mono (Same.tups g8)
      have e28 := g8 _ _ e27
      have e38 := g8 _ _ e37
      have hc8 := hc7.mono (fun b kvs e => g8 _ _ e)
      walk_at "rd"
      refine ite2 (fun c1 => ?_) (fun c1 => ?_)
      · have hne : xs ≠ [] := by
          rintro rfl
          exact absurd c1 (by decide)
        have hpos : 0 < xs.length := List.length_pos_iff.mpr hne
        walk_at "rd"
        refine ⟨p, c, 3, rfl, S8, by decide, fun G9 r2 S9 o9 u0 u1 => ?_⟩
        have e79 := o9.tup S8 e78
        have hs9 := hs8.mono (o9.tups S8)
        have e29 := o9.tup S8 e28
        have e39 := o9 _ _ clp clc e38
        have hc9 := hc8.off o9 hcf
        walk_at "rd"
        refine ⟨rfl, ?_⟩
        walk_at "rd"
        refine ite2 (fun c2 => ?_) (fun c2 => ?_)
        · -- k
          walk_at "rd"
          refine ⟨_, _, rfl, .inr (.inl (.inl e79)), p, c, _, rfl, S9, by rw [List.length_map]; omega, fun G10 k S10 o10 k0 k1 => ?_⟩
          rw [List.length_map] at k1
          obtain ⟨kn, rfl⟩ := Int.eq_ofNat_of_zero_le k0
          have hkn : kn < xs.length := by omega
          have e710 := o10.tup S9 e79
          walk_at "rd"
          refine slA e710 fun q1 G11 g11 f11 => ?_
          rw [cut_take, ← List.map_take] at f11
          have e711 := g11 _ _ e710
          walk_at "rd"
          refine ⟨_, _, _, _, rfl, rfl, .inl (.inl e711), atI_nat (j := kn) (by rw [List.getElem?_map, List.getElem?_eq_getElem hkn]; rfl), ?_⟩
          walk_at "rd"
          refine ⟨⟨by decide, by decide, by decide⟩, ?_⟩
          walk_at "rd"
          refine ⟨by show 4 ≤ sizeLine; decide, fun l2 nl2 => ?_⟩
          generalize eH : upd _ _ _ = G12
          obtain ⟨g12, e12⟩ := new_of eH nl2
          have S11 := S10.same g11
          have S12 := S11.same g12
          walk_at "rd"
          refine ⟨p, c, l2, _, rfl, S12, fun G' o => .inl (.inl (.inl (o _ _ (S11.ne_p nl2) (S11.ne_c nl2) e12))), by simp, by show 4 ≤ 100000; decide, fun G13 x hx S13 o13 => ?_⟩
          obtain ⟨dz, rfl, dz0, dz1⟩ : ∃ z, x = .int z ∧ -1000000 ≤ z ∧ z ≤ 5 := by
            simp only [List.mem_cons, List.not_mem_nil, or_false] at hx
            rcases hx with rfl | rfl | rfl | rfl
            · exact ⟨_, rfl, by omega, by omega⟩
            · exact ⟨_, rfl, by omega, by omega⟩
            · exact ⟨_, rfl, by omega, by omega⟩
            · exact ⟨_, rfl, by decide, by decide⟩
          have f13 := o13.tup S12 (g12 _ _ f11)
          have e713 := o13.tup S12 (g12 _ _ e711)
          have ot1 : Off p c G9 G13 := ((o10.trans (Same.off g11)).trans (Same.off g12)).trans o13
          clear o10 g11 g12 o13 e12 hx eH e710 e711 f11 S10 S11 S12
          walk_at "rd"
          refine ⟨by show 1 ≤ sizeLine; decide, fun q2 nq2 => ?_⟩
          generalize eH : upd _ _ _ = G14
          obtain ⟨g14, e14⟩ := new_of eH nq2
          have hx1 := w1 _ (List.getElem_mem hkn)
          refine catA (g14 _ _ f13) e14 (by rw [List.length_map, List.length_take]; exact Nat.le_of_lt (many_small (by show min kn xs.length + 1 ≤ _; omega))) fun q3 G15 g15 e15 => ?_
          have e715 := g15 _ _ (g14 _ _ e713)
          walk_at "rd"
          dsimp only [tNoPart]
          refine slA e715 fun q4 G16 g16 e16 => ?_
          rw [show ((kn : Nat) : Int) + 1 = ((kn + 1 : Nat) : Int) from rfl, cut_drop, ← List.map_drop] at e16
          refine catA (g16 _ _ e15) e16 (by
            rw [List.length_append, List.length_map, List.length_take, List.length_map, List.length_drop]
            exact Nat.le_of_lt (many_small (by show min kn xs.length + 1 + _ ≤ _; omega))) fun q5 G17 g17 e17 => ?_
          have e17 : G17 q5 = some (.tup ((xs.take kn ++ [xs[kn] + dz] ++ xs.drop (kn + 1)).map V.int)) := by
            rw [e17, List.map_append, List.map_append]
            rfl
          have yl := cutset (k := kn) (z := xs[kn] + dz) hkn
          have w2 : within 2000000 (xs.take kn ++ [xs[kn] + dz] ++ xs.drop (kn + 1)) := cutset_within w1 (by decide) (by omega)
          generalize xs.take kn ++ [xs[kn] + dz] ++ xs.drop (kn + 1) = ys at e17 yl w2
          have g37 : Same G13 G17 := ((Same.trans g14 g15).trans g16).trans g17
          have S17 := S13.same g37
          have ot2 := ot1.trans (Same.off g37)
          clear e713 e715 e14 e15 e16 f13 g14 g15 g16 g17 g37 ot1 eH hx1
          -- the next tick
          have hkn2 : kn < ys.length := by omega
          have hs17 := hs9.mono (ot2.tups S9)
          have e217 := ot2.tup S9 e29
          have e317 := ot2 _ _ clp clc e39
          have hc17 := hc9.off ot2 hcf
          clear hs9 e29 e39 hc9 e79 o9 S9
          walk_at "rd"
          refine ⟨_, _, rfl, .inr (.inl (.inl e17)), ?_⟩
          rw [List.length_map]
          walk_at "rd"
          obtain ⟨k2, hk2, hk2e⟩ : ∃ k2 : Nat, k2 < ys.length ∧ (if ((ys.length : Nat) : Int) - 1 < (kn : Int) + 1 then ((ys.length : Nat) : Int) - 1 else (kn : Int) + 1) = (k2 : Int) := by
            by_cases h : kn + 1 < ys.length
            · exact ⟨kn + 1, h, by rw [if_neg (by omega)]; omega⟩
            · exact ⟨ys.length - 1, by omega, by rw [if_pos (by omega)]; omega⟩
          have hk2e : (if (kn : Int) + 1 > ((ys.length : Nat) : Int) - 1 then ((ys.length : Nat) : Int) - 1 else (kn : Int) + 1) = (k2 : Int) := hk2e
          rw [hk2e]
          refine slA e17 fun q6 G18 g18 f18 => ?_
          rw [cut_take, ← List.map_take] at f18
          have e718 := g18 _ _ e17
          walk_at "rd"
          refine ⟨_, _, _, _, rfl, rfl, .inl (.inl e718), atI_nat (j := k2) (by rw [List.getElem?_map, List.getElem?_eq_getElem hk2]; rfl), ?_⟩
          walk_at "rd"
          refine ⟨⟨by decide, by decide, by decide⟩, ?_⟩
          walk_at "rd"
          refine ⟨⟨by decide, by decide, by decide⟩, ?_⟩
          walk_at "rd"
          refine ⟨by show 4 ≤ sizeLine; decide, fun l3 nl3 => ?_⟩
          generalize eH : upd _ _ _ = G19
          obtain ⟨g19, e19⟩ := new_of eH nl3
          have S18 := S17.same g18
          have S19 := S18.same g19
          walk_at "rd"
          refine ⟨p, c, l3, _, rfl, S19, fun G' o => .inl (.inl (.inl (o _ _ (S18.ne_p nl3) (S18.ne_c nl3) e19))), by simp, by show 4 ≤ 100000; decide, fun G20 x hx S20 o20 => ?_⟩
          obtain ⟨dy, rfl, dy0, dy1⟩ : ∃ z, x = .int z ∧ -1000000 ≤ z ∧ z ≤ 5 := by
            simp only [List.mem_cons, List.not_mem_nil, or_false] at hx
            rcases hx with rfl | rfl | rfl | rfl
            · exact ⟨_, rfl, by omega, by omega⟩
            · exact ⟨_, rfl, by omega, by omega⟩
            · exact ⟨_, rfl, by decide, by decide⟩
            · exact ⟨_, rfl, by decide, by decide⟩
          have f20 := o20.tup S19 (g19 _ _ f18)
          have e720 := o20.tup S19 (g19 _ _ e718)
          have ot3 : Off p c G17 G20 := ((Same.off g18).trans (Same.off g19)).trans o20
          clear g18 g19 o20 e19 hx eH e718 f18 S18 S19
          walk_at "rd"
          refine ⟨by show 1 ≤ sizeLine; decide, fun q7 nq7 => ?_⟩
          generalize eH : upd _ _ _ = G21
          obtain ⟨g21, e21⟩ := new_of eH nq7
          have hy1 := w2 _ (List.getElem_mem hk2)
          refine catA (g21 _ _ f20) e21 (by rw [List.length_map, List.length_take]; exact Nat.le_of_lt (many_small (by show min k2 ys.length + 1 ≤ _; omega))) fun q8 G22 g22 e22 => ?_
          have e722 := g22 _ _ (g21 _ _ e720)
          walk_at "rd"
          dsimp only [tNoPart]
          refine slA e722 fun q9 G23 g23 e23 => ?_
          rw [show ((k2 : Nat) : Int) + 1 = ((k2 + 1 : Nat) : Int) from rfl, cut_drop, ← List.map_drop] at e23
          refine catA (g23 _ _ e22) e23 (by
            rw [List.length_append, List.length_map, List.length_take, List.length_map, List.length_drop]
            exact Nat.le_of_lt (many_small (by show min k2 ys.length + 1 + _ ≤ _; omega))) fun q10 G24 g24 e24 => ?_
          have e24 : G24 q10 = some (.tup ((ys.take k2 ++ [ys[k2] + dy] ++ ys.drop (k2 + 1)).map V.int)) := by
            rw [e24, List.map_append, List.map_append]
            rfl
          have g324 : Same G20 G24 := ((Same.trans g21 g22).trans g23).trans g24
          have ot4 := ot3.trans (Same.off g324)
          exact hD _ _ ⟨_, q10, _, rfl, S20.same g324, ot4.tup S17 e217, hs17.mono (ot4.tups S17), ot4 _ _ clp clc e317, hc17.off ot4 hcf, e24, (cutset hk2).trans (yl.trans hxl), cutset_within w2 (by decide) (by omega)⟩
        · refine hD _ _ ⟨x7, t, xs, rfl, S9, e29, hs9, e39, hc9, e79, hxl, fun x hx => ?_⟩
          have := w1 x hx
          omega
      · refine hD _ _ ⟨x7, t, xs, rfl, S8, e28, hs8, e38, hc8, e78, hxl, fun x hx => ?_⟩
        have := w1 x hx
        omega
  · obtain ⟨x2, x3, x4, x5, x6, x7, x8, x9, x10, x11, x12, x13, rfl, S⟩ := h
    clear S
    walk_at "rd"
    refine ⟨by show 1 ≤ sizeLine; decide, fun u0 nu0 => ?_⟩
    generalize eH : upd _ _ _ = N1
    obtain ⟨h1, eu0⟩ := new_of eH nu0
    walk_at "rd"
    refine ⟨by show 4 ≤ sizeLine; decide, fun t0 nt0 => ?_⟩
    generalize eH : upd _ _ _ = N2
    obtain ⟨h2, et0⟩ := new_of eH nt0
    walk_at "rd"
    refine ⟨by show 2 ≤ sizeLine; decide, fun u1 nu1 => ?_⟩
    generalize eH : upd _ _ _ = N3
    obtain ⟨h3, eu1⟩ := new_of eH nu1
    walk_at "rd"
    refine ⟨by show 4 ≤ sizeLine; decide, fun t1 nt1 => ?_⟩
    generalize eH : upd _ _ _ = N4
    obtain ⟨h4, et1⟩ := new_of eH nt1
    walk_at "rd"
    refine ⟨by show 2 ≤ sizeLine; decide, fun u2 nu2 => ?_⟩
    generalize eH : upd _ _ _ = N5
    obtain ⟨h5, eu2⟩ := new_of eH nu2
    walk_at "rd"
    refine ⟨by show 4 ≤ sizeLine; decide, fun t2 nt2 => ?_⟩
    generalize eH : upd _ _ _ = N6
    obtain ⟨h6, et2⟩ := new_of eH nt2
    walk_at "rd"
    refine ⟨by show 1 ≤ sizeLine; decide, fun u3 nu3 => ?_⟩
    generalize eH : upd _ _ _ = N7
    obtain ⟨h7, eu3⟩ := new_of eH nu3
    walk_at "rd"
    refine ⟨by show 4 ≤ sizeLine; decide, fun t3 nt3 => ?_⟩
    generalize eH : upd _ _ _ = N8
    obtain ⟨h8, et3⟩ := new_of eH nt3
    walk_at "rd"
    refine ⟨by show 4 ≤ sizeLine; decide, fun ts nts => ?_⟩
    generalize eH : upd _ _ _ = N9
    obtain ⟨h9, ets⟩ := new_of eH nts
    walk_at "rd"
    have eu0 := (((((((Same.trans h2 h3).trans h4).trans h5).trans h6).trans h7).trans h8).trans h9) _ _ eu0
    have et0 := ((((((Same.trans h3 h4).trans h5).trans h6).trans h7).trans h8).trans h9) _ _ et0
    have eu1 := (((((Same.trans h4 h5).trans h6).trans h7).trans h8).trans h9) _ _ eu1
    have et1 := ((((Same.trans h5 h6).trans h7).trans h8).trans h9) _ _ et1
    have eu2 := (((Same.trans h6 h7).trans h8).trans h9) _ _ eu2
    have et2 := ((Same.trans h7 h8).trans h9) _ _ et2
    have eu3 := (Same.trans h8 h9) _ _ eu3
    have et3 := h9 _ _ et3
    have hs : SltsAt N9 [.ref t0, .ref t1, .ref t2, .ref t3] sE := .cons ⟨_, _, rfl, et0, eu0⟩ (.cons ⟨_, _, rfl, et1, eu1⟩ (.cons ⟨_, _, rfl, et2, eu2⟩ (.cons ⟨_, _, rfl, et3, eu3⟩ .nil)))
    clear h1 h2 h3 h4 h5 h6 h7 h8 h9 eu0 eu1 eu2 eu3 et0 et1 et2 et3
    refine ⟨by show 4 ≤ sizeLine; decide, fun r0 nr0 => ?_⟩
    generalize eH : upd _ _ _ = N10
    obtain ⟨h10, er0⟩ := new_of eH nr0
    walk_at "rd"
    refine ⟨by show 4 ≤ sizeLine; decide, fun r1 nr1 => ?_⟩
    generalize eH : upd _ _ _ = N11
    obtain ⟨h11, er1⟩ := new_of eH nr1
    walk_at "rd"
    refine ⟨by show 4 ≤ sizeLine; decide, fun r2 nr2 => ?_⟩
    generalize eH : upd _ _ _ = N12
    obtain ⟨h12, er2⟩ := new_of eH nr2
    walk_at "rd"
    refine ⟨by show 3 ≤ sizeLine; decide, fun l1 nl1 => ?_⟩
    generalize eH : upd _ _ _ = N13
    obtain ⟨h13, el⟩ := new_of eH nl1
    walk_at "rd"
    have er0 : N13 r0 = some (.tup (([1, 1, 1, 1] : List Int).map V.int)) := ((Same.trans h11 h12).trans h13) _ _ er0
    have er1 : N13 r1 = some (.tup (([1, 0, 0, 2] : List Int).map V.int)) := (Same.trans h12 h13) _ _ er1
    have er2 : N13 r2 = some (.tup (([2, 0, 1, 1] : List Int).map V.int)) := h13 _ _ er2
    have g913 := ((Same.trans h10 h11).trans h12).trans h13
    have hs := hs.mono (Same.tups g913)
    have ets := g913 _ _ ets
    refine ⟨⟨_, .inl (.inl el)⟩, fun D nD => lc_list (K := K) (a := l1) (xs := [.ref r0, .ref r1, .ref r2]) (fun i G => Same N13 G ∧ ∃ vs, G D = some (.lst vs) ∧ DpAll K (era G D) vs (TE.take i))
      ?_ (fun i G _ h => .inl (.inl (h.1 _ _ el))) (fun i x G hx h => ?_) (fun G h => ?_)⟩
    · exact ⟨same_new nD, [], upd_same, .nil⟩
    · obtain ⟨sj, vs, hv, dv⟩ := h
      obtain ⟨r, ys, rfl, er, yl, sv, hd⟩ : ∃ (r : Addr) (ys : List Int), x = .ref r ∧ N13 r = some (.tup (ys.map V.int)) ∧ ys.length = sE.length ∧ servesL sE ys = true ∧
          TE[i]? = some (.list [.int (runL sE ys + 3 * startsL ys), .int (startsL ys), .int (stopsL ys)]) := by
        match i, hx with
        | 0, hx =>
          have hx := Option.some.inj hx
          exact ⟨r0, _, hx.symm, er0, by decide +kernel, by decide +kernel, rfl⟩
        | 1, hx =>
          have hx := Option.some.inj hx
          exact ⟨r1, _, hx.symm, er1, by decide +kernel, by decide +kernel, rfl⟩
        | 2, hx =>
          have hx := Option.some.inj hx
          exact ⟨r2, _, hx.symm, er2, by decide +kernel, by decide +kernel, rfl⟩
        | n + 3, hx => simp at hx
      have er := sj _ _ er
      refine yesT rfl ?_
      walk_at "rd"
      refine ⟨ts, r, 3, _, sE, ys, rfl, by decide, by decide, sj _ _ ets, hs.mono (Same.tups sj), er, yl, by rw [yl]; decide, fun J1 j1 => ?_⟩
      rw [if_pos sv]
      walk_at "rd"
      refine ⟨r, ys, rfl, j1 _ _ er, by rw [yl]; decide, fun J2 j2 => ?_⟩
      walk_at "rd"
      have j12 := Same.trans j1 j2
      refine ⟨r, ys, rfl, j12 _ _ er, by rw [yl]; decide, fun J3 j3 => ?_⟩
      walk_at "rd"
      have j13 := j12.trans j3
      refine ⟨by show 3 ≤ sizeLine; decide, fun q nq => ?_⟩
      generalize eH : upd _ _ _ = J4
      obtain ⟨j4, e4⟩ := new_of eH nq
      have j14 := j13.trans j4
      have hv3 := j13 _ _ hv
      refine ⟨_, j14 _ _ hv, ?_, fun b o e => ?_, _, upd_same, ?_⟩
      · rw [dp_len dv, List.length_take]
        exact many_small (by show min i 3 ≤ _; omega)
      · rw [upd_ne (ne_of_none e nD)]
        exact j14 _ _ (sj _ _ e)
      · rw [era_upd, List.take_succ_eq_append_getElem (List.getElem?_eq_some_iff.mp hd).1, (List.getElem?_eq_some_iff.mp hd).2]
        exact dp_snoc (dp_sameAll (era_mono j14) _ _ dv) (.lst (.inl (.inl ((era_ne (ne_of_none hv3 nq).symm).trans e4))) (.cons (.int _) (.cons (.int _) (.cons (.int _) .nil))))
    · obtain ⟨sj, vs, hv, dv⟩ := h
      have dv := dp_sameAll (era_same _ _) _ _ dv
      have hs := hs.mono (Same.tups sj)
      have ets := sj _ _ ets
      walk_at "rd"
      refine ⟨by show 4 ≤ sizeLine; decide, fun b1 nb1 => ?_⟩
      generalize eH : upd _ _ _ = M1
      obtain ⟨m1, f1⟩ := new_of eH nb1
      walk_at "rd"
      have f1 : M1 b1 = some (.tup (([1, 0, 0, 0] : List Int).map V.int)) := f1
      refine ⟨ts, b1, 3, _, sE, _, rfl, by decide, by decide, m1 _ _ ets, hs.mono (Same.tups m1), f1, by decide, by decide, fun M2 m2 => ?_⟩
      rw [if_neg (by decide +kernel)]
      have v2 := m1.trans m2
      clear f1 m1 m2
      walk_at "rd"
      refine ⟨by show 0 ≤ sizeLine; decide, fun b2 nb2 => ?_⟩
      generalize eH : upd _ _ _ = M3
      obtain ⟨m3, f3⟩ := new_of eH nb2
      walk_at "rd"
      refine ⟨b2, [], rfl, f3, by decide, fun M4 m4 => ?_⟩
      have v4 := (v2.trans m3).trans m4
      clear f3 m3 m4 v2
      walk_at "rd"
      refine ⟨by show 0 ≤ sizeLine; decide, fun b3 nb3 => ?_⟩
      generalize eH : upd _ _ _ = M5
      obtain ⟨m5, f5⟩ := new_of eH nb3
      walk_at "rd"
      refine ⟨b3, [], rfl, f5, by decide, fun M6 m6 => ?_⟩
      have v6 := (v4.trans m5).trans m6
      clear f5 m5 m6 v4
      walk_at "rd"
      refine ⟨by show 0 ≤ sizeLine; decide, fun b4 nb4 => ?_⟩
      generalize eH : upd _ _ _ = M7
      obtain ⟨m7, f7⟩ := new_of eH nb4
      walk_at "rd"
      refine ⟨by show 0 ≤ sizeLine; decide, fun b5 nb5 => ?_⟩
      generalize eH : upd _ _ _ = M8
      obtain ⟨m8, f8⟩ := new_of eH nb5
      walk_at "rd"
      refine ⟨b4, b5, 3, _, [], [], rfl, by decide, by decide, m8 _ _ f7, .nil, f8, by decide, by decide, fun M9 m9 => ?_⟩
      rw [if_pos (by decide +kernel)]
      have v9 := ((v6.trans m7).trans m8).trans m9
      clear f7 f8 m7 m8 m9 v6
      walk_at "rd"
      refine ⟨by show 0 ≤ sizeLine; decide, fun b6 nb6 => ?_⟩
      generalize eH : upd _ _ _ = M10
      obtain ⟨m10, f10⟩ := new_of eH nb6
      walk_at "rd"
      refine ⟨by show 0 ≤ sizeLine; decide, fun b7 nb7 => ?_⟩
      generalize eH : upd _ _ _ = M11
      obtain ⟨m11, f11⟩ := new_of eH nb7
      walk_at "rd"
      refine ⟨b6, b7, _, [], [], rfl, m11 _ _ f10, .nil, f11, by decide, by decide, fun M12 m12 => ?_⟩
      have v12 := ((v9.trans m10).trans m11).trans m12
      clear f10 f11 m10 m11 m12 v9
      walk_at "rd"
      refine ⟨by show 5 ≤ sizeLine; decide, fun b8 nb8 => ?_⟩
      generalize eH : upd _ _ _ = M13
      obtain ⟨m13, f13⟩ := new_of eH nb8
      walk_at "rd"
      have v13 := v12.trans m13
      refine ⟨_, _, _, _, rfl, rfl, v13 _ _ hv, f13, by rw [dp_len dv]; show 3 + 5 ≤ sizeLine; decide, fun tl ntl => ?_⟩
      generalize eH : upd _ _ _ = M14
      obtain ⟨m14, f14⟩ := new_of eH ntl
      have v14 := v13.trans m14
      have tD : Dp K M14 (.ref tl) (.list (TE ++ [.none, .int 0, .int 0, .int 0, .bool true])) :=
        .lst (.inl (.inl f14)) (dp_app (dp_sameAll v14 _ _ dv) (.cons .non (.cons (.int _) (.cons (.int _) (.cons (.int _) (.cons (.bl _) .nil))))))
      clear v12 v13 v14 m13 m14 f13 f14 ntl eH
      walk_at "rd"
      refine ⟨_, _, rfl, tD, ⟨by decide +kernel, by decide +kernel, by decide +kernel⟩, ?_⟩
      generalize eQ : PyData.shown _ = sh
      walk_at "rd"
      refine ⟨by show 3 ≤ sizeLine; decide, fun c1 nc1 => ?_⟩
      generalize eH : upd _ _ _ = O1
      obtain ⟨o1, k1⟩ := new_of eH nc1
      walk_at "rd"
      refine ⟨by show 3 ≤ sizeLine; decide, fun c2 nc2 => ?_⟩
      generalize eH : upd _ _ _ = O2
      obtain ⟨o2, k2⟩ := new_of eH nc2
      walk_at "rd"
      refine ⟨by show 3 ≤ sizeLine; decide, fun c3 nc3 => ?_⟩
      generalize eH : upd _ _ _ = O3
      obtain ⟨o3, k3⟩ := new_of eH nc3
      walk_at "rd"
      refine ⟨by show 8 ≤ sizeLine; decide, fun c4 nc4 => ?_⟩
      generalize eH : upd _ _ _ = O4
      obtain ⟨o4, k4⟩ := new_of eH nc4
      walk_at "rd"
      have k1 := ((Same.trans o2 o3).trans o4) _ _ k1
      have k2 := (Same.trans o3 o4) _ _ k2
      have k3 := o4 _ _ k3
      have dD : Dp K O4 (.ref c4) (.list (TE ++ [.none, .int 0, .int 0, .int 0, .bool true])) :=
        .lst (.inl (.inl k4)) (.cons (.lst (.inl (.inl k1)) (.cons (.int _) (.cons (.int _) (.cons (.int _) .nil)))) (.cons (.lst (.inl (.inl k2)) (.cons (.int _) (.cons (.int _) (.cons (.int _) .nil))))
          (.cons (.lst (.inl (.inl k3)) (.cons (.int _) (.cons (.int _) (.cons (.int _) .nil)))) (.cons .non (.cons (.int _) (.cons (.int _) (.cons (.int _) (.cons (.bl _) .nil))))))))
      refine ⟨_, _, rfl, dD, ⟨by decide +kernel, by decide +kernel, by decide +kernel⟩, ?_⟩
      rw [eQ]
      clear eQ
      refine ⟨rfl, ?_⟩
      show Q (.bl (decide (V.str sh = V.str sh))) O4
      have e : decide (V.str sh = V.str sh) = true := by simp
      rw [e]
      exact q _
end
end K12
set_option Elab.async false
set_option linter.all false
set_option maxRecDepth 100000
namespace K12
open PySem PySem.Spec PyProof.Rows L2 WK
theorem all_mk {l : PySem.W.OpenLaw} {w : World} {K : PySem.W.Frag} {h : Heap} {mg : Str → Option Value} {fa fS fP fO fSl fG fC fR fLs fPr fCo fSe fSt fSp fRu fRc fLw : Addr} (X : K.In h) (G : h.Ns mainGlobals mg) (hfa : mg "law" = some (.ref fa))
    {odS anS odP anP odO anO odSl anSl odG anG odC anC odR anR odLs anLs odPr anPr odCo anCo odSe anSe odSt anSt odSp anSp odRu anRu odRc anRc odLw anLw : Option Addr} {slS slP slO slSl slG slC slR slLs slPr slCo slSe slSt slSp slRu slRc slLw : Array (Option Value)} {ocS kVS dcS pmS cdS ctS ocP kVP dcP pmP cdP ctP ocO kVO dcO pmO cdO ctO ocSl kVSl dcSl pmSl cdSl ctSl ocG kVG dcG pmG cdG ctG ocC kVC dcC pmC cdC ctC ocR kVR dcR pmR cdR ctR ocLs kVLs dcLs pmLs cdLs ctLs ocPr kVPr dcPr pmPr cdPr ctPr ocCo kVCo dcCo pmCo cdCo ctCo ocSe kVSe dcSe pmSe cdSe ctSe ocSt kVSt dcSt pmSt cdSt ctSt ocSp kVSp dcSp pmSp cdSp ctSp ocRu kVRu dcRu pmRu cdRu ctRu ocRc kVRc dcRc pmRc cdRc ctRc ocLw kVLw dcLw pmLw cdLw ctLw : Value}
    (aS : PySem.W.nsIn K mainGlobals "_law_source" = some (some (.ref fS))) (lS : K.lookup fS = some ⟨ocS, odS, .func (PySem.W.fnOf "_law_source" "_law_source" (defArgs sSource) (defBody sSource) (defScope sSource) .none kVS dcS pmS anS cdS ctS), slS⟩)
      (cS : PySem.W.codeIn K cdS "_law_source" = true) (kS : PySem.W.keepIn K (.ref fS) = true)
    (aP : PySem.W.nsIn K mainGlobals "_law_pick" = some (some (.ref fP))) (lP : K.lookup fP = some ⟨ocP, odP, .func (PySem.W.fnOf "_law_pick" "_law_pick" (defArgs sPick) (defBody sPick) (defScope sPick) .none kVP dcP pmP anP cdP ctP), slP⟩)
      (cP : PySem.W.codeIn K cdP "_law_pick" = true) (kP : PySem.W.keepIn K (.ref fP) = true)
    (aO : PySem.W.nsIn K mainGlobals "_law_of" = some (some (.ref fO))) (lO : K.lookup fO = some ⟨ocO, odO, .func (PySem.W.fnOf "_law_of" "_law_of" (defArgs sOf) (defBody sOf) (defScope sOf) .none kVO dcO pmO anO cdO ctO), slO⟩)
      (cO : PySem.W.codeIn K cdO "_law_of" = true) (kO : PySem.W.keepIn K (.ref fO) = true)
    (aSl : PySem.W.nsIn K mainGlobals "_law_draw_slots" = some (some (.ref fSl))) (lSl : K.lookup fSl = some ⟨ocSl, odSl, .func (PySem.W.fnOf "_law_draw_slots" "_law_draw_slots" (defArgs sSlots) (defBody sSlots) (defScope sSlots) .none kVSl dcSl pmSl anSl cdSl ctSl), slSl⟩)
      (cSl : PySem.W.codeIn K cdSl "_law_draw_slots" = true) (kSl : PySem.W.keepIn K (.ref fSl) = true)
    (aG : PySem.W.nsIn K mainGlobals "_law_great_slots" = some (some (.ref fG))) (lG : K.lookup fG = some ⟨ocG, odG, .func (PySem.W.fnOf "_law_great_slots" "_law_great_slots" (defArgs sGreat) (defBody sGreat) (defScope sGreat) .none kVG dcG pmG anG cdG ctG), slG⟩)
      (cG : PySem.W.codeIn K cdG "_law_great_slots" = true) (kG : PySem.W.keepIn K (.ref fG) = true)
    (aC : PySem.W.nsIn K mainGlobals "_law_slot_costs" = some (some (.ref fC))) (lC : K.lookup fC = some ⟨ocC, odC, .func (PySem.W.fnOf "_law_slot_costs" "_law_slot_costs" (defArgs sSC) (defBody sSC) (defScope sSC) .none kVC dcC pmC anC cdC ctC), slC⟩)
      (cC : PySem.W.codeIn K cdC "_law_slot_costs" = true) (kC : PySem.W.keepIn K (.ref fC) = true)
    (aR : PySem.W.nsIn K mainGlobals "_law_some_row" = some (some (.ref fR))) (lR : K.lookup fR = some ⟨ocR, odR, .func (PySem.W.fnOf "_law_some_row" "_law_some_row" (defArgs sSR) (defBody sSR) (defScope sSR) .none kVR dcR pmR anR cdR ctR), slR⟩)
      (cR : PySem.W.codeIn K cdR "_law_some_row" = true) (kR : PySem.W.keepIn K (.ref fR) = true)
    (aLs : PySem.W.nsIn K mainGlobals "_law_starts" = some (some (.ref fLs))) (lLs : K.lookup fLs = some ⟨ocLs, odLs, .func (PySem.W.fnOf "_law_starts" "_law_starts" (defArgs sLSt) (defBody sLSt) (defScope sLSt) .none kVLs dcLs pmLs anLs cdLs ctLs), slLs⟩)
      (cLs : PySem.W.codeIn K cdLs "_law_starts" = true) (kLs : PySem.W.keepIn K (.ref fLs) = true)
    (aPr : PySem.W.nsIn K mainGlobals "_law_price" = some (some (.ref fPr))) (lPr : K.lookup fPr = some ⟨ocPr, odPr, .func (PySem.W.fnOf "_law_price" "_law_price" (defArgs sPr) (defBody sPr) (defScope sPr) .none kVPr dcPr pmPr anPr cdPr ctPr), slPr⟩)
      (cPr : PySem.W.codeIn K cdPr "_law_price" = true) (kPr : PySem.W.keepIn K (.ref fPr) = true)
    (aCo : PySem.W.nsIn K mainGlobals "slot_cost" = some (some (.ref fCo))) (lCo : K.lookup fCo = some ⟨ocCo, odCo, .func (PySem.W.fnOf "slot_cost" "slot_cost" (defArgs sCost) (defBody sCost) (defScope sCost) .none kVCo dcCo pmCo anCo cdCo ctCo), slCo⟩)
      (cCo : PySem.W.codeIn K cdCo "slot_cost" = true) (kCo : PySem.W.keepIn K (.ref fCo) = true)
    (aSe : PySem.W.nsIn K mainGlobals "serves" = some (some (.ref fSe))) (lSe : K.lookup fSe = some ⟨ocSe, odSe, .func (PySem.W.fnOf "serves" "serves" (defArgs sServes) (defBody sServes) (defScope sServes) .none kVSe dcSe pmSe anSe cdSe ctSe), slSe⟩)
      (cSe : PySem.W.codeIn K cdSe "serves" = true) (kSe : PySem.W.keepIn K (.ref fSe) = true)
    (aSt : PySem.W.nsIn K mainGlobals "starts" = some (some (.ref fSt))) (lSt : K.lookup fSt = some ⟨ocSt, odSt, .func (PySem.W.fnOf "starts" "starts" (defArgs sStarts) (defBody sStarts) (defScope sStarts) .none kVSt dcSt pmSt anSt cdSt ctSt), slSt⟩)
      (cSt : PySem.W.codeIn K cdSt "starts" = true) (kSt : PySem.W.keepIn K (.ref fSt) = true)
    (aSp : PySem.W.nsIn K mainGlobals "stops" = some (some (.ref fSp))) (lSp : K.lookup fSp = some ⟨ocSp, odSp, .func (PySem.W.fnOf "stops" "stops" (defArgs sStops) (defBody sStops) (defScope sStops) .none kVSp dcSp pmSp anSp cdSp ctSp), slSp⟩)
      (cSp : PySem.W.codeIn K cdSp "stops" = true) (kSp : PySem.W.keepIn K (.ref fSp) = true)
    (aRu : PySem.W.nsIn K mainGlobals "running_cost" = some (some (.ref fRu))) (lRu : K.lookup fRu = some ⟨ocRu, odRu, .func (PySem.W.fnOf "running_cost" "running_cost" (defArgs sRunning) (defBody sRunning) (defScope sRunning) .none kVRu dcRu pmRu anRu cdRu ctRu), slRu⟩)
      (cRu : PySem.W.codeIn K cdRu "running_cost" = true) (kRu : PySem.W.keepIn K (.ref fRu) = true)
    (aRc : PySem.W.nsIn K mainGlobals "row_cost" = some (some (.ref fRc))) (lRc : K.lookup fRc = some ⟨ocRc, odRc, .func (PySem.W.fnOf "row_cost" "row_cost" (defArgs sRowCost) (defBody sRowCost) (defScope sRowCost) .none kVRc dcRc pmRc anRc cdRc ctRc), slRc⟩)
      (cRc : PySem.W.codeIn K cdRc "row_cost" = true) (kRc : PySem.W.keepIn K (.ref fRc) = true)
    (aLw : PySem.W.nsIn K mainGlobals "law" = some (some (.ref fLw))) (lLw : K.lookup fLw = some ⟨ocLw, odLw, .func (PySem.W.fnOf "law" "law" (defArgs sLaw) (defBody sLaw) (defScope sLaw) .none kVLw dcLw pmLw anLw cdLw ctLw), slLw⟩)
      (cLw : PySem.W.codeIn K cdLw "law" = true) (kLw : PySem.W.keepIn K (.ref fLw) = true)
    (zint : PySem.W.nsIn K mainGlobals "int" = some none)
    (zabs : PySem.W.nsIn K mainGlobals "abs" = some none)
    (zlen : PySem.W.nsIn K mainGlobals "len" = some none)
    (zmax : PySem.W.nsIn K mainGlobals "max" = some none)
    (zmin : PySem.W.nsIn K mainGlobals "min" = some none)
    (ztuple : PySem.W.nsIn K mainGlobals "tuple" = some none)
    (zrange : PySem.W.nsIn K mainGlobals "range" = some none)
    (zzip : PySem.W.nsIn K mainGlobals "zip" = some none)
    (zenumerate : PySem.W.nsIn K mainGlobals "enumerate" = some none)
    (zrepr : PySem.W.nsIn K mainGlobals "repr" = some none)
    (zsum : PySem.W.nsIn K mainGlobals "sum" = some none)
    (zall : PySem.W.nsIn K mainGlobals "all" = some none)
    (zany : PySem.W.nsIn K mainGlobals "any" = some none)
    (zsorted : PySem.W.nsIn K mainGlobals "sorted" = some none)
    (zlist : PySem.W.nsIn K mainGlobals "list" = some none)
    : ∃ fd : FuncData, (∀ (s : Shared) (v : Value), BindsTo s fd ⟨[v], []⟩ [("script", v)]) ∧ ∀ base : Heap, K.In base → base.Ns mainGlobals mg → FnG l.prog w K mg base 5 fa fd ["script"] (spLaw K) := by
  have e := hfa.symm.trans (PySem.W.mg_of X G aLw)
  cases e
  have FS := fun_mk (st := sSource) lS cS kS
  have FP := fun_mk (st := sPick) lP cP kP
  have FO := fun_mk (st := sOf) lO cO kO
  have FSl := fun_mk (st := sSlots) lSl cSl kSl
  have FG := fun_mk (st := sGreat) lG cG kG
  have FC := fun_mk (st := sSC) lC cC kC
  have FR := fun_mk (st := sSR) lR cR kR
  have FLs := fun_mk (st := sLSt) lLs cLs kLs
  have FPr := fun_mk (st := sPr) lPr cPr kPr
  have FCo := fun_mk (st := sCost) lCo cCo kCo
  have FSe := fun_mk (st := sServes) lSe cSe kSe
  have FSt := fun_mk (st := sStarts) lSt cSt kSt
  have FSp := fun_mk (st := sStops) lSp cSp kSp
  have FRu := fun_mk (st := sRunning) lRu cRu kRu
  have FRc := fun_mk (st := sRowCost) lRc cRc kRc
  have FLw := fun_mk (st := sLaw) lLw cLw kLw
  have bS := FS.binds (ps := ["script"]) fun _ _ _ _ _ _ us hl => match us, hl with | [_], _ => rfl
  have gS := PySem.W.mg_of X G aS
  have bP := FP.binds (ps := ["source", "many"]) fun _ _ _ _ _ _ us hl => match us, hl with | [_, _], _ => rfl
  have gP := PySem.W.mg_of X G aP
  have bO := FO.binds (ps := ["source", "some"]) fun _ _ _ _ _ _ us hl => match us, hl with | [_, _], _ => rfl
  have gO := PySem.W.mg_of X G aO
  have bSl := FSl.binds (ps := ["source", "ticks", "most"]) fun _ _ _ _ _ _ us hl => match us, hl with | [_, _, _], _ => rfl
  have gSl := PySem.W.mg_of X G aSl
  have bG := FG.binds (ps := ["source", "ticks", "most"]) fun _ _ _ _ _ _ us hl => match us, hl with | [_, _, _], _ => rfl
  have gG := PySem.W.mg_of X G aG
  have bC := FC.binds (ps := ["slots"]) fun _ _ _ _ _ _ us hl => match us, hl with | [_], _ => rfl
  have gC := PySem.W.mg_of X G aC
  have bR := FR.binds (ps := ["source", "slots"]) fun _ _ _ _ _ _ us hl => match us, hl with | [_, _], _ => rfl
  have gR := PySem.W.mg_of X G aR
  have bLs := FLs.binds (ps := ["row"]) fun _ _ _ _ _ _ us hl => match us, hl with | [_], _ => rfl
  have gLs := PySem.W.mg_of X G aLs
  have bPr := FPr.binds (ps := ["costs", "row", "b"]) fun _ _ _ _ _ _ us hl => match us, hl with | [_, _, _], _ => rfl
  have gPr := PySem.W.mg_of X G aPr
  have bCo := FCo.binds (ps := ["slot", "x"]) fun _ _ _ _ _ _ us hl => match us, hl with | [_, _], _ => rfl
  have gCo := PySem.W.mg_of X G aCo
  have bSe := FSe.binds (ps := ["slots", "row"]) fun _ _ _ _ _ _ us hl => match us, hl with | [_, _], _ => rfl
  have gSe := PySem.W.mg_of X G aSe
  have bSt := FSt.binds (ps := ["row"]) fun _ _ _ _ _ _ us hl => match us, hl with | [_], _ => rfl
  have gSt := PySem.W.mg_of X G aSt
  have bSp := FSp.binds (ps := ["row"]) fun _ _ _ _ _ _ us hl => match us, hl with | [_], _ => rfl
  have gSp := PySem.W.mg_of X G aSp
  have bRu := FRu.binds (ps := ["slots", "row"]) fun _ _ _ _ _ _ us hl => match us, hl with | [_, _], _ => rfl
  have gRu := PySem.W.mg_of X G aRu
  have bRc := FRc.binds (ps := ["slots", "b", "row"]) fun _ _ _ _ _ _ us hl => match us, hl with | [_, _, _], _ => rfl
  have gRc := PySem.W.mg_of X G aRc
  have B : Blt mg := { int := PySem.W.mg_none_of X G zint, abs := PySem.W.mg_none_of X G zabs, len := PySem.W.mg_none_of X G zlen, max := PySem.W.mg_none_of X G zmax, min := PySem.W.mg_none_of X G zmin, tuple := PySem.W.mg_none_of X G ztuple, range := PySem.W.mg_none_of X G zrange, zip := PySem.W.mg_none_of X G zzip, enumerate := PySem.W.mg_none_of X G zenumerate, repr := PySem.W.mg_none_of X G zrepr, sum := PySem.W.mg_none_of X G zsum, all := PySem.W.mg_none_of X G zall, any := PySem.W.mg_none_of X G zany, sorted := PySem.W.mg_none_of X G zsorted, list := PySem.W.mg_none_of X G zlist }
  have D : Txt K mg fS fP fO fSl fG fC fR fLs fPr fCo fSe fSt fSp fRu fRc _ _ _ _ _ _ _ _ _ _ _ _ _ _ _ := { FS := FS, bS := bS, gS := gS, FP := FP, bP := bP, gP := gP, FO := FO, bO := bO, gO := gO, FSl := FSl, bSl := bSl, gSl := gSl, FG := FG, bG := bG, gG := gG, FC := FC, bC := bC, gC := gC, FR := FR, bR := bR, gR := gR, FLs := FLs, bLs := bLs, gLs := gLs, FPr := FPr, bPr := bPr, gPr := gPr, FCo := FCo, bCo := bCo, gCo := gCo, FSe := FSe, bSe := bSe, gSe := gSe, FSt := FSt, bSt := bSt, gSt := gSt, FSp := FSp, bSp := bSp, gSp := gSp, FRu := FRu, bRu := bRu, gRu := gRu, FRc := FRc, bRc := bRc, gRc := gRc }
  exact ⟨PySem.W.fnOf "law" "law" (defArgs sLaw) (defBody sLaw) (defScope sLaw) .none kVLw dcLw pmLw anLw cdLw ctLw, fun s v => .of_eq rfl, fun base _ _ => ok_law FLw D B⟩
end K12
open PySem PySem.W PyProof.Rows
set_option maxRecDepth 100000 in
set_option maxHeartbeats 0 in
theorem PySem.Challenge.cw_wakedenough_k12_costs_of_rows_holds : PySem.Challenge.rw_wakedenough_k12_costs_of_rows.Holds := by
  w_on; o_law; k_head; (case hw => w_witness2)
  k_fill
  refine WK.walk_ofG (l := PySem.Challenge.rw_wakedenough_k12_costs_of_rows) (n := 63) (k := 5) (x := "script") (sp := fun w => K12.spLaw _) rfl (by decide) rfl ⟨rfl, by decide, by decide⟩ (fun w h Y => PySem.W.kIn_of Y) ?F (fun _ _ a ns hl _ hS => ⟨a, ns, rfl, hS, hl, fun _ => rfl⟩)
  case F =>
    intro w mg fa h KX G hmg
    refine' K12.all_mk KX G hmg ?aS ?lS ?cS ?kS ?aP ?lP ?cP ?kP ?aO ?lO ?cO ?kO ?aSl ?lSl ?cSl ?kSl ?aG ?lG ?cG ?kG ?aC ?lC ?cC ?kC ?aR ?lR ?cR ?kR ?aLs ?lLs ?cLs ?kLs ?aPr ?lPr ?cPr ?kPr ?aCo ?lCo ?cCo ?kCo ?aSe ?lSe ?cSe ?kSe ?aSt ?lSt ?cSt ?kSt ?aSp ?lSp ?cSp ?kSp ?aRu ?lRu ?cRu ?kRu ?aRc ?lRc ?cRc ?kRc ?aLw ?lLw ?cLw ?kLw ?zint ?zabs ?zlen ?zmax ?zmin ?ztuple ?zrange ?zzip ?zenumerate ?zrepr ?zsum ?zall ?zany ?zsorted ?zlist
    (case aS => k_is); (case lS => k_is); (case cS => k_is); (case kS => k_is); (case aP => k_is); (case lP => k_is); (case cP => k_is); (case kP => k_is); (case aO => k_is); (case lO => k_is); (case cO => k_is); (case kO => k_is); (case aSl => k_is); (case lSl => k_is); (case cSl => k_is); (case kSl => k_is); (case aG => k_is); (case lG => k_is); (case cG => k_is); (case kG => k_is); (case aC => k_is); (case lC => k_is); (case cC => k_is); (case kC => k_is); (case aR => k_is); (case lR => k_is); (case cR => k_is); (case kR => k_is); (case aLs => k_is); (case lLs => k_is); (case cLs => k_is); (case kLs => k_is); (case aPr => k_is); (case lPr => k_is); (case cPr => k_is); (case kPr => k_is); (case aCo => k_is); (case lCo => k_is); (case cCo => k_is); (case kCo => k_is); (case aSe => k_is); (case lSe => k_is); (case cSe => k_is); (case kSe => k_is); (case aSt => k_is); (case lSt => k_is); (case cSt => k_is); (case kSt => k_is); (case aSp => k_is); (case lSp => k_is); (case cSp => k_is); (case kSp => k_is); (case aRu => k_is); (case lRu => k_is); (case cRu => k_is); (case kRu => k_is); (case aRc => k_is); (case lRc => k_is); (case cRc => k_is); (case kRc => k_is); (case aLw => k_is); (case lLw => k_is); (case cLw => k_is); (case kLw => k_is); (case zint => k_is); (case zabs => k_is); (case zlen => k_is); (case zmax => k_is); (case zmin => k_is); (case ztuple => k_is); (case zrange => k_is); (case zzip => k_is); (case zenumerate => k_is); (case zrepr => k_is); (case zsum => k_is); (case zall => k_is); (case zany => k_is); (case zsorted => k_is); (case zlist => k_is)
