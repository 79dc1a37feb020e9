import PyProof.Rows.All
import Wide.All
import OpenK.AllK
import Wide.FinOn
import PySem.Challenge.RW_rowsback_k52_patterns_judged
import HandS.ForMost
import HandS.IsInst
import HandS.TupAny
import HandS.TupMul
import HandS.Wide
import PyProof.ReprRoads
import HandS.Style
import PyProof.ReprLen
import PyProof.StrLawsRepr
import KE.GoesEnum
import HandS.Iter
import HandS.More
import HandS.Zip
import HandS.Walk
import HandS.WordsExc
import HandS.TryOnly
import HandS.Strs
import HandS.SetFor
import PyProof.Rows.SetFrom
import HandS.ExcIs
set_option Elab.async false
set_option linter.all false
set_option maxRecDepth 100000
namespace Jg
open PySem PySem.Spec PyProof.Rows L2
def topS (i : Nat) : Stmt := PySem.Challenge.pw_rowsback_k52_patterns_judged.main.body.getD i (.Pass ⟨0, 0, 0, 0⟩)
end Jg
namespace Jg
open PySem PySem.Spec PyProof.Rows L2
mutual
/-- a value as data: lists (none of them D or B), tuples, empty dicts -/
inductive Dq (D B : Addr) (H : Hp) : V → PyData → Prop
  | non : Dq D B H .non .none
  | bl (b : Bool) : Dq D B H (.bl b) (.bool b)
  | int (i : Int) : Dq D B H (.int i) (.int i)
  | str (x : Str) : Dq D B H (.str x) (.str x)
  | lst {a : Addr} {xs : List V} {ds : List PyData} : a ≠ D → a ≠ B → H a = some (.lst xs) → DqAll D B H xs ds → Dq D B H (.ref a) (.list ds)
  | tup {a : Addr} {xs : List V} {ds : List PyData} : H a = some (.tup xs) → DqAll D B H xs ds → Dq D B H (.ref a) (.tuple ds)
  | dct {a : Addr} : H a = some (.dK []) → Dq D B H (.ref a) (.dict [])
inductive DqAll (D B : Addr) (H : Hp) : List V → List PyData → Prop
  | nil : DqAll D B H [] []
  | cons {v : V} {vs : List V} {d : PyData} {ds : List PyData} : Dq D B H v d → DqAll D B H vs ds → DqAll D B H (v :: vs) (d :: ds)
end
theorem DqAll.len {D B : Addr} {H : Hp} : ∀ {vs : List V} {ds : List PyData}, DqAll D B H vs ds → vs.length = ds.length
  | _, _, .nil => rfl
  | _, _, .cons _ h => congrArg Nat.succ h.len
/-- what lies stays, where all that is neither D nor B stays -/
def Fr (D B : Addr) (H H' : Hp) : Prop := ∀ b o, b ≠ D → b ≠ B → H b = some o → H' b = some o
mutual
theorem Dq.keep {D B : Addr} {H H' : Hp} (hD : ∃ xs, H D = some (.lst xs)) (hB : ∃ xs, H B = some (.lst xs)) (f : Fr D B H H') : ∀ (d : PyData) (v : V), Dq D B H v d → Dq D B H' v d
  | .none, _, h => by
    cases h
    exact .non
  | .bool _, _, h => by
    cases h
    exact .bl _
  | .int _, _, h => by
    cases h
    exact .int _
  | .str _, _, h => by
    cases h
    exact .str _
  | .list ds, _, h => by
    cases h with
    | lst h1 h2 h3 h4 => exact .lst h1 h2 (f _ _ h1 h2 h3) (DqAll.keep hD hB f ds _ h4)
  | .tuple ds, _, h => by
    obtain ⟨xD, eD⟩ := hD
    obtain ⟨xB, eB⟩ := hB
    cases h with
    | tup h3 h4 =>
      refine .tup (f _ _ (fun z => ?_) (fun z => ?_) h3) (DqAll.keep ⟨xD, eD⟩ ⟨xB, eB⟩ f ds _ h4)
      · rw [z, eD] at h3
        cases h3
      · rw [z, eB] at h3
        cases h3
  | .dict ds, _, h => by
    obtain ⟨xD, eD⟩ := hD
    obtain ⟨xB, eB⟩ := hB
    cases h with
    | dct h3 =>
      refine .dct (f _ _ (fun z => ?_) (fun z => ?_) h3)
      · rw [z, eD] at h3
        cases h3
      · rw [z, eB] at h3
        cases h3
theorem DqAll.keep {D B : Addr} {H H' : Hp} (hD : ∃ xs, H D = some (.lst xs)) (hB : ∃ xs, H B = some (.lst xs)) (f : Fr D B H H') : ∀ (ds : List PyData) (vs : List V), DqAll D B H vs ds → DqAll D B H' vs ds
  | [], _, h => by
    cases h
    exact .nil
  | d :: ds, _, h => by
    cases h with
    | cons h1 h2 => exact .cons (Dq.keep hD hB f d _ h1) (DqAll.keep hD hB f ds _ h2)
end
section
variable {X : Cx} {pins : List (Addr × Obj)} {σ : L2.St} {H : Hp} {s : Shared} {D B : Addr}
mutual
theorem Dq.rep (I : Inv X pins σ H s) : ∀ (d : PyData) (v : V) (u : Value), Dq D B H v d → RelV v u → d.showable = true → d.shown.length ≤ sizeLine →
    ∃ bs as, ReadAtMost s.heap d.depth bs ∧ Reads s.heap u d as ∧ ReprK X.prog X.w bs s.heap d.depth u d.shown
  | .none, _, _, h, r, _, _ => by
    cases h
    cases r
    exact ⟨[], [], (fun _ h => nomatch h), .none, by simp only [PyData.shown]; exact .of_is ReprIs.none _ _ _⟩
  | .bool b, _, _, h, r, _, _ => by
    cases h
    cases r
    exact ⟨[], [], (fun _ h => nomatch h), .bool b, by simp only [PyData.shown]; exact .of_is (ReprIs.bool b) _ _ _⟩
  | .int i, _, _, h, r, hs, _ => by
    cases h
    obtain ⟨t, rfl⟩ := r
    exact ⟨[], [], (fun _ h => nomatch h), .int i t, by simp only [PyData.shown]; exact .of_is (ReprIs.int t (by simpa [PyData.showable] using hs)) _ _ _⟩
  | .str x, _, _, h, r, _, hz => by
    cases h
    obtain ⟨t, rfl⟩ := r
    exact ⟨[], [], (fun _ h => nomatch h), .str x t, by simp only [PyData.shown]; exact .of_is (ReprIs.str x t (by simpa only [PyData.shown] using hz)) _ _ _⟩
  | .list ds, _, _, h, r, hs, hz => by
    cases h with
    | lst _ _ e ha =>
      cases r
      have hz2 : (listText (PyData.shownAll ds)).length ≤ sizeLine := by simpa only [PyData.shown] using hz
      obtain ⟨_, its, n, rv, ho⟩ := I.hok _ _ e
      obtain ⟨bs, as, hb, hr, hk⟩ := DqAll.rep I ds _ its ha rv (by simpa [PyData.showable] using hs) (fun t ht => Nat.le_trans (listText_mem_le ht) hz2)
      have hr2 : ReadsAll s.heap its.toArray.toList ds as := hr
      have rd := Reads.list ho rfl rfl hr2
      have hna := not_mem_of_deeper (n := PyData.depthAll ds) rd (by simp only [PyData.depth]; omega) hb
      refine ⟨_ :: bs, _, ReadAtMost.cons rd (by simp only [PyData.depth]; omega) hb, rd, ?_⟩
      simp only [PyData.depth, PyData.shown]
      cases its with
      | nil =>
        cases hr
        simp only [PyData.shownAll, listText_nil]
        exact ReprK.listEmpty ho rfl rfl
      | cons x l => exact ReprK.list ho rfl rfl hna (by simpa using hk.length_eq) (fun i y e => hk.item i y (by simpa using e))
  | .tuple ds, _, _, h, r, hs, hz => by
    cases h with
    | tup e ha =>
      cases r
      have hz2 : (tupleText (PyData.shownAll ds)).length ≤ sizeLine := by simpa only [PyData.shown] using hz
      obtain ⟨_, its, rv, o, ho, hc, n, hd⟩ := I.hok _ _ e
      obtain ⟨bs, as, hb, hr, hk⟩ := DqAll.rep I ds _ its ha rv (by simpa [PyData.showable] using hs) (fun t ht => Nat.le_trans (tupleText_mem_le ht) hz2)
      have hr2 : ReadsAll s.heap its.toArray.toList ds as := hr
      have rd := Reads.tuple ho hc hd hr2
      have hna := not_mem_of_deeper (n := PyData.depthAll ds) rd (by simp only [PyData.depth]; omega) hb
      refine ⟨_ :: bs, _, ReadAtMost.cons rd (by simp only [PyData.depth]; omega) hb, rd, ?_⟩
      simp only [PyData.depth, PyData.shown]
      exact ReprK.tuple ho hc hd hna hk
  | .dict kvs, _, _, h, r, hs, hz => by
    cases h with
    | dct e =>
      cases r
      obtain ⟨_, hsys, vs, hv, o, es, ep, ho, hx, hd, hes⟩ := I.hok _ _ e
      have hv0 : vs = [] := by
        cases hv
        rfl
      subst hv0
      have he : es = #[] := by
        have h2 := hes.2.1
        cases hq : es.toList with
        | nil => simpa using hq
        | cons e r =>
          rw [hq] at h2
          cases h2
      subst he
      have rd := Reads.dict (kvs := []) ho hx.1 hd ReadsAll.nil ReadsAll.nil
      refine ⟨_ :: [], _, ReadAtMost.cons (n := 0) rd (Nat.zero_le _) (fun _ h => nomatch h), rd, ?_⟩
      simp only [PyData.depth, PyData.depthKv, PyData.shown, PyData.shownKv]
      exact ReprK.dict ho hx.1 hd hsys (fun z => nomatch z) .nil
theorem DqAll.rep (I : Inv X pins σ H s) : ∀ (ds : List PyData) (vs : List V) (us : List Value), DqAll D B H vs ds → Vals vs us → PyData.showableAll ds = true → (∀ t ∈ PyData.shownAll ds, t.length ≤ sizeLine) →
    ∃ bs as, ReadAtMost s.heap (PyData.depthAll ds) bs ∧ ReadsAll s.heap us ds as ∧ ReprAllK X.prog X.w bs s.heap (PyData.depthAll ds) us (PyData.shownAll ds)
  | [], _, _, h, r, _, _ => by
    cases h
    cases r
    exact ⟨[], [], (fun _ h => nomatch h), .nil, by simp only [PyData.shownAll]; exact .nil⟩
  | d :: ds, _, _, h, r, hs, hz => by
    have hs2 : d.showable = true ∧ PyData.showableAll ds = true := by simpa [PyData.showableAll] using hs
    cases h with
    | cons h1 h2 =>
      cases r with
      | cons r1 r2 =>
        obtain ⟨b1, a1, hb1, q1, k1⟩ := Dq.rep I d _ _ h1 r1 hs2.1 (hz _ (by simp [PyData.shownAll]))
        obtain ⟨b2, a2, hb2, q2, k2⟩ := DqAll.rep I ds _ _ h2 r2 hs2.2 (fun t ht => hz t (by simp [PyData.shownAll, ht]))
        refine ⟨b1 ++ b2, a1 ++ a2, ?_, .cons q1 q2, ?_⟩
        · simp only [PyData.depthAll]
          exact (hb1.mono (Nat.le_max_left _ _)).append (hb2.mono (Nat.le_max_right _ _))
        · simp only [PyData.depthAll, PyData.shownAll]
          exact .cons ((k1.more fun b hb => List.mem_append_left _ hb).level_le (Nat.le_max_left _ _)) (k2.more_le (fun b hb => List.mem_append_right _ hb) (Nat.le_max_right _ _))
end
/-- repr(x), x data: what is shown of it -/
def rRepr : List V → Hp → VK → Prop := fun xs H Q => ∃ (D B : Addr) (v : V) (d : PyData), xs = [v] ∧ Dq D B H v d ∧ d.showable = true ∧ d.shown.length ≤ sizeLine ∧ d.depth ≤ 60 ∧ Q (.str d.shown) H
theorem call_reprD {X : Cx} (hg : X.A.guards = some []) (hu : X.A.units + 64 < cLine) : CallR X (.builtin "repr") rRepr := by
  intro pins s σ H xs us Q I r h
  obtain ⟨D, B, v, d, rfl, hd, hs, hz, hdp, q⟩ := h
  obtain ⟨u, rfl, ru⟩ := vals1 r
  have fin : ∀ (x : Str), x = d.shown → ∀ (h' : Heap) (t : Tok) (tk : Nat), (∀ b o, s.heap.get? b = some o → h'.get? b = some o) → EP X pins σ Q (.str x t) { s with heap := h', toks := tk } := fun x e h' t tk k => by
    subst e
    exact ⟨.str d.shown, H, I.kept (t' := tk) k, ⟨_, rfl⟩, q⟩
  cases hd with
  | non =>
    cases ru
    exact PySem.P.repr_of_none (fin _ (by simp only [PyData.shown]) _ _ _ fun _ _ z => z)
  | bl b =>
    cases ru
    exact PySem.P.repr_of_bool (fin _ (by simp only [PyData.shown]) _ _ _ fun _ _ z => z)
  | int i =>
    obtain ⟨t, rfl⟩ := ru
    exact PySem.P.repr_of_int (by simpa [PyData.showable] using hs) (fin _ (by simp only [PyData.shown]) _ _ _ fun _ _ z => z)
  | str x =>
    obtain ⟨t, rfl⟩ := ru
    exact PySem.P.repr_of_str (fin _ (by simp only [PyData.shown]) _ _ _ fun _ _ z => z) (by simpa only [PyData.shown] using hz)
  | @lst a xs ds _ _ e ha =>
    cases ru
    simp only [PyData.depth] at hdp
    have hz2 : (listText (PyData.shownAll ds)).length ≤ sizeLine := by simpa only [PyData.shown] using hz
    obtain ⟨_, its, n, rv, ho⟩ := I.hok _ _ e
    obtain ⟨bs, as, hb, hr, hk⟩ := DqAll.rep I ds _ its ha rv (by simpa [PyData.showable] using hs) (fun t ht => Nat.le_trans (listText_mem_le ht) hz2)
    have hr2 : ReadsAll s.heap its.toArray.toList ds as := hr
    have hna := not_mem_of_deeper (n := PyData.depthAll ds) (Reads.list ho rfl rfl hr2) (by simp only [PyData.depth]; omega) hb
    refine call_repr_slot (by omega) ⟨_, ho, rfl⟩ F.slot_list_repr.toG ?_
    cases its with
    | nil =>
      cases hr
      exact call_list_repr_empty ⟨_, ho, rfl⟩ ho rfl ⟨_, _, rfl, fin _ (by simp only [PyData.shown, PyData.shownAll, listText_nil]) _ _ _ fun _ _ z => z⟩
    | cons x l =>
      exact call_list_reprK ho rfl rfl hna (by simpa using hk.length_eq) (fun i y e => hk.item i y (by simpa using e)) hg (fun b _ => Clear.nil b) (by show X.A.units + 1 + _ < _; omega) (fun _ _ z => z)
        (fun h' t tk k => ⟨_, _, rfl, fin _ (by simp only [PyData.shown]) _ _ _ k⟩) hz2
  | @tup a xs ds e ha =>
    cases ru
    simp only [PyData.depth] at hdp
    have hz2 : (tupleText (PyData.shownAll ds)).length ≤ sizeLine := by simpa only [PyData.shown] using hz
    obtain ⟨_, its, rv, o, ho, hc, n, hd⟩ := I.hok _ _ e
    obtain ⟨bs, as, hb, hr, hk⟩ := DqAll.rep I ds _ its ha rv (by simpa [PyData.showable] using hs) (fun t ht => Nat.le_trans (tupleText_mem_le ht) hz2)
    have hr2 : ReadsAll s.heap its.toArray.toList ds as := hr
    have hna := not_mem_of_deeper (n := PyData.depthAll ds) (Reads.tuple ho hc hd hr2) (by simp only [PyData.depth]; omega) hb
    refine call_repr_slot (by omega) ⟨_, ho, hc⟩ F.slot_tuple_repr ?_
    exact call_tuple_reprK ho hc hd hna hk hg (fun b _ => Clear.nil b) (by show X.A.units + 1 + _ < _; omega) (fun _ _ z => z)
      (fun h' t tk k => ⟨_, _, rfl, fin _ (by simp only [PyData.shown]) _ _ _ k⟩) hz2
  | dct e =>
    cases ru
    have ho0 := Dq.rep (D := D) (B := B) I _ _ _ (.dct e) rfl hs hz
    obtain ⟨_, hsys, vs, hv, o, es, ep, ho, hx, hd, hes⟩ := I.hok _ _ e
    have he : es = #[] := by
      have h2 := hes.2.1
      cases hv
      cases hq : es.toList with
      | nil => simpa using hq
      | cons e r =>
        rw [hq] at h2
        cases h2
    subst he
    refine call_repr_slot (by omega) ⟨_, ho, hx.1⟩ F.slot_dict_repr ?_
    exact call_dict_reprK (d := 0) (as := []) ho hx.1 hd hsys (fun z => nomatch z) .nil hg (fun b _ => Clear.nil b) (by show X.A.units + 1 + _ < _; omega) (fun _ _ z => z)
      (fun h' t tk k => ⟨_, _, rfl, fin _ (by simp only [PyData.shown, PyData.shownKv]) _ _ _ k⟩) (by simpa only [PyData.shown, PyData.shownKv] using hz)
end
end Jg
namespace Jg
open PySem PySem.Spec PyProof.Rows L2
/-- a def's promise where no repr is under way around its call -/
def RunG (P : Program) (w : World) (K : PySem.W.Frag) (mg : Str → Option Value) (base : Heap) (k : Nat) (f : Addr) (fd : FuncData) (ps : List Str) (sp : Sp) : Prop :=
  ∀ (Ar : Around) (out : List Env) (s0 : Shared) (H : Hp) (ar : Args) (us : List Value) (vs : List V) (Q : VK) (E : XK), Ar.guards = some [] → Room k Ar → Env0 P w K mg base Ar out s0 H → BindsTo s0 fd ar (ps.zip us) → Vals vs us → sp vs H Q E →
    codeAny (model P w) Ar (.call (.ref f) ar) (CR CX0 out P w H s0 Q E) s0
theorem runG_of {P : Program} {w : World} {K : PySem.W.Frag} {mg : Str → Option Value} {base : Heap} {k : Nat} {x qual : Str} {st : Stmt} {f : Addr} {fd : FuncData} {N ps : List Str} {sp : Sp} (F : Fun K x qual st f fd) (S : FnScope N ps (defScope st)) (len : ∀ vs H Q E, sp vs H Q E → vs.length = ps.length)
    (hb : ∀ (cdv : Value) (Ar : Around) (out : List Env) (s0 : Shared) (H : Hp) (vs : List V) (Q : VK) (E : XK), (Ar.deeper (envOfC qual (defScope st) s0.heap.objs.size f cdv)).guards = some [] → Room k (Ar.deeper (envOfC qual (defScope st) s0.heap.objs.size f cdv)) → sp vs H Q E →
      ∃ t, PSs (cxOf CX0 P w K mg base N qual (defScope st) f cdv Ar out s0 H E).nox (defBody st) t ∧ t { nx := fun _ H1 => Q .non H1, rt := Q } (start N vs) H) : RunG P w K mg base (k + 1) f fd ps sp := by
  obtain ⟨oc, od, kV, doc, pm, an, cdv, ct, osl, rfl, lk, hcd⟩ := F.ex
  intro Ar out s0 H ar us vs Q E hg hr e0 bd rv hsp
  have KX : K.In s0.heap := e0.mod.kin.keeps fun b o z => (e0.bs b o z).1
  have NL : s0.heap.NoLimit := e0.mod.nolimit.keeps fun b o z => (e0.bs b o z).1
  have kinds : ∀ y ∈ ps.zip us, (defScope st).names.lookup y.1 = some .local ∨ ((defScope st).names.lookup y.1 = some .cell ∧ ((cellsFrom (s0.heap.objs.size + 1) (defScope st).names []).lookup y.1).isSome = true) := by
    rintro ⟨n, v⟩ hy
    cases S.par n (List.of_mem_zip hy).1 with
    | inl q => exact .inl q
    | inr q => exact .inr ⟨q, PySem.W.cellsFrom_some _ _ _ (.inl q)⟩
  refine codeAny_call_function hr.depth (KX _ _ lk) rfl S.co S.gen rfl (PySem.W.codeRec_of KX hcd) (bd _ _ _ _ (wpAny_newFunctionEnv_cells S.kind kinds fun env he s1 ic => ?_))
  subst he
  refine ⟨NL.keeps ic.toInCall.keep, codeAny_func ?_⟩
  obtain ⟨t, ht, hq⟩ := hb cdv Ar out s0 H vs Q E hg (hr.deeper _) hsp
  have I0 : Inv (cxOf CX0 P w K mg base N qual (defScope st) f cdv Ar out s0 H E) [] (start N vs) H s1 := inv_start S hr.hd e0 (len _ _ _ _ hsp) rv ic
  refine wpAny_mono (ht.nox.run [] s1 (start N vs) H _ I0 hq) (fun fl s2 hs => ?_) fun e s2 hs => hs
  cases fl with
  | ret u =>
    obtain ⟨v, σ2, H2, J, ru, q⟩ := hs
    exact ⟨v, H2, J.os, J.bare, J.base, J.hok, ru, q⟩
  | next =>
    obtain ⟨σ2, H2, J, q⟩ := hs
    exact ⟨V.non, H2, J.os, J.bare, J.base, J.hok, rfl, q⟩
  | brk =>
    obtain ⟨_, _, _, q⟩ := hs
    exact False.elim q
  | cont =>
    obtain ⟨_, _, _, q⟩ := hs
    exact False.elim q
end Jg
namespace Jg
open PySem PySem.Spec PyProof.Rows L2
/-- the heap in which at most the script at a is told: a list of ns -/
def onlyAt (a : Addr) (o : Obj) (ns : List Int) : Hp := fun b => if b = a then some (.frz o (.lst (ns.map V.int))) else none
theorem law_runG {P : Program} {w : World} {K : PySem.W.Frag} {mg mb : Str → Option Value} {k : Nat} {fa a : Addr} {fd : FuncData} {x : Str} {sp : Sp} {s1 : Shared} {vs : List Value} {ns : List Int}
    (KX : K.In s1.heap) (hns : s1.heap.Ns mainGlobals mg) (hb : s1.heap.Ns builtinsNs mb) (hbb : ∀ x : Str, x ≠ "__name__" → mb x = bootBuiltins x) (hlim : s1.heap.NoLimit) (hg : s1.gens = #[])
    (ha : s1.heap.get? a = some { cls := .type "list", data := .seq vs.toArray }) (hi : IntsAre vs ns) (hl : ns.length ≤ sizeLine) (hr : Room k callerA)
    (F : ∀ base : Heap, K.In base → base.Ns mainGlobals mg → RunG P w K mg base k fa fd [x] sp) (hbind : ∀ (s : Shared) (u : Value), BindsTo s fd ⟨[u], []⟩ [(x, u)])
    (hsp : ∀ H : Hp, Only H → SqL K H a (ns.map V.int) → sp [.ref a] H (fun v _ => v = .bl true) fun _ _ _ => False) :
    codeAny (model P w) callerA (.call (.ref fa) ⟨[.ref a], []⟩) (fun r s' => r = .ok (.ret (.bool true)) ∧ OldK s1.heap s'.heap ∧ s'.os = s1.os ∧ AllBare s'.gens) s1 := by
  have rv := vals_ints hi
  have nV := hi.length
  have main : ∀ H : Hp, Only H → SqL K H a (ns.map V.int) → HOk P w H s1.heap → (∀ b, H b ≠ none → b = a) → (H a ≠ none → K.lookup a = none) →
      codeAny (model P w) callerA (.call (.ref fa) ⟨[.ref a], []⟩) (fun r s' => r = .ok (.ret (.bool true)) ∧ OldK s1.heap s'.heap ∧ s'.os = s1.os ∧ AllBare s'.gens) s1 := by
    intro H hO hS hok hA hK
    have here : ∀ {b : Addr} {o : Obj}, s1.heap.get? b = some o → H b = none → (hidT s1.heap H).get? b = some o := fun e n => hidT_get e n
    have free_of : ∀ {b : Addr}, (b = a → False) → H b = none := fun {b} nb => by
      cases q : H b with
      | none => rfl
      | some u => exact (nb (hA b (by rw [q]; simp))).elim
    have nsK : ∀ {b : Addr} {m : Str → Option Value}, s1.heap.Ns b m → (hidT s1.heap H).Ns b m := by
      rintro b m ⟨o, es, ep, e, d, r⟩
      refine ⟨o, es, ep, here e (free_of fun z => ?_), d, r⟩
      subst z
      rw [ha] at e
      cases e
      cases d
    have hKb : K.In (hidT s1.heap H) := by
      intro b o e
      refine here (KX b o e) ?_
      cases q : H b with
      | none => rfl
      | some u =>
        have z := hA b (by rw [q]; simp)
        subst z
        rw [hK (by rw [q]; simp)] at e
        cases e
    obtain ⟨mc, l1, l2⟩ := hlim
    have e0 : Env0 P w K mg (hidT s1.heap H) callerA [] s1 H :=
      ⟨rfl, ⟨hKb, nsK hns, ⟨mb, nsK hb, hbb⟩, ⟨mc, nsK l1, l2⟩⟩, fun b o e => of_hidT e, Nat.le_of_eq (hidT_size _ _), trivial, fun b hb => absurd (show b ∈ ([] : List Addr) from hb) (by simp), hok, .of_eq hg⟩
    refine codeAny_mono (F _ hKb (nsK hns) callerA [] s1 H ⟨[.ref a], []⟩ [.ref a] [.ref a] _ _ rfl hr e0 (hbind s1 (.ref a)) (.cons rfl .nil) (hsp H hO hS)) fun r s2 h => ?_
    cases r with
    | error e => exact False.elim h
    | ok fl =>
      cases fl with
      | next => exact False.elim h
      | brk => exact False.elim h
      | cont => exact False.elim h
      | ret u =>
        obtain ⟨v, H2, os, bare, un, hok2, ru, q⟩ := h
        have qv : v = .bl true := q
        subst qv
        have ru2 : u = Value.bool true := ru
        subst ru2
        refine ⟨rfl, OldK.of_keep fun b o e => ?_, os, bare⟩
        cases q : H b with
        | none => exact un.keep b o e q (fun z => absurd (show b ∈ ([] : List Addr) from z) (by simp)) (by simp)
        | some u =>
          cases hO b with
          | inl z =>
            rw [q] at z
            cases z
          | inr z =>
            obtain ⟨ob, xs, z⟩ := z
            obtain ⟨e1, _⟩ := hok b _ z
            obtain ⟨e2, _⟩ := hok2 b _ (un.frzs b ob _ z)
            rw [e] at e1
            cases e1
            exact e2
  cases hk : K.lookup a with
  | some o =>
    have e := KX a o hk
    rw [ha] at e
    cases e
    exact main (fun _ => none) (fun _ => .inl rfl) (.inr ⟨_, vs.toArray, _, hk, rfl, rfl, rfl, by rw [List.size_toArray, nV]; exact hl, by simpa using rv⟩) (fun b u z => absurd (show (none : Option HO) = some u from z) (by simp)) (fun b z => absurd rfl z) fun z => absurd rfl z
  | none =>
    refine main (onlyAt a { cls := .type "list", data := .seq vs.toArray } ns) (fun b => ?_) (.inl (.inr ⟨_, if_pos rfl⟩)) (fun b u z => ?_) (fun b z => ?_) fun _ => hk
    · by_cases hb : b = a
      · exact .inr ⟨_, _, if_pos hb⟩
      · exact .inl (if_neg hb)
    · by_cases hb : b = a
      · have z2 := (show some _ = some u from (if_pos hb).symm.trans z)
        cases z2
        subst hb
        exact ⟨ha, by rw [List.length_map]; exact hl, vs, _, rv, ha⟩
      · exact absurd ((if_neg hb).symm.trans z) (by simp)
    · by_cases hb : b = a
      · exact hb
      · exact absurd (if_neg hb) z
theorem walk_ofG {l : PySem.W.OpenLaw} {n k : Nat} {q : Program} {loose : List Str} {XP : (Str → Option Value) → Heap → Prop} {YP : World → Heap → Prop} {d : DefRec} {K : Params → PySem.W.Frag} {sp : World → Sp} {x : Str}
    (hn : l.most = some n) (hn2 : n ≤ sizeLine) (hdf : d.params.defaults = []) (hr : Room k callerA) (hY : ∀ (w : World) (h : Heap), YP w h → (K w.params).In h)
    (F : ∀ (w : World) (mg : Str → Option Value) (fa : Addr) (h : Heap), (K w.params).In h → h.Ns mainGlobals mg → mg d.name = some (.ref fa) →
      ∃ fd : FuncData, (∀ (s : Shared) (u : Value), BindsTo s fd ⟨[u], []⟩ [(x, u)]) ∧ ∀ base : Heap, (K w.params).In base → base.Ns mainGlobals mg → RunG l.prog w (K w.params) mg base k fa fd [x] (sp w))
    (hsp : ∀ (w : World) (H : Hp) (a : Addr) (ns : List Int), ns.length ≤ n → Only H → SqL (K w.params) H a (ns.map V.int) → sp w [.ref a] H (fun v _ => v = .bl true) fun _ _ _ => False) :
    PySem.W.WalkO q loose XP YP l.row.toRowW d [] (fun f vs => PySem.call f vs) := by
  refine Att.attach_call hn hdf fun w s0 s1 mg mb fa o pm cd doc a vs ns G Y ho hd hcd hmg hobj hints hlen hg => ?_
  obtain ⟨fd, hb, hF⟩ := F w mg fa _ (hY w _ Y) G.T.g hmg
  exact law_runG (hY w _ Y) G.T.g G.T.b G.T.builtins G.T.nolimit hg hobj hints (Nat.le_trans hlen hn2) hr hF hb fun H hO hS => hsp w H a ns hlen hO hS
end Jg
namespace Jg
open PySem PySem.Spec PyProof.Rows L2
/-! ### t[::-1], t a tuple -/
theorem adjust_back (n : Nat) : Builtin.Slice.sliceAdjust none none (-1) (n : Int) = ((n : Int) - 1, -1) := by
  unfold Builtin.Slice.sliceAdjust
  simp
theorem places_back (n : Nat) : Builtin.Slice.slicePlaces ((n : Int) - 1) (-1) (-1) = n := by
  unfold Builtin.Slice.slicePlaces
  have h1 : ¬ ((-1 : Int) > 0) := by decide
  simp only [h1, if_false]
  split
  · rw [show (- -1 : Int) = 1 by decide, Int.ediv_one]
    omega
  · omega
theorem fm_congr {α β : Type} {f g : α → Option β} : ∀ l : List α, (∀ m ∈ l, f m = g m) → l.filterMap f = l.filterMap g
  | [], _ => rfl
  | a :: l, h => by
    have e := fm_congr l fun m hm => h m (List.mem_cons_of_mem _ hm)
    simp only [List.filterMap_cons, h a List.mem_cons_self, e]
theorem pick_back {α : Type} (xs : Array α) : ((List.range xs.size).filterMap fun (m : Nat) => xs[(((xs.size : Nat) : Int) - 1 + (m : Int) * (-1)).toNat]?).toArray = xs.toList.reverse.toArray := by
  have e : (List.range xs.size).filterMap (fun (m : Nat) => xs[(((xs.size : Nat) : Int) - 1 + (m : Int) * (-1)).toNat]?) = ((List.range xs.size).map fun k => xs.size - 1 - k).filterMap (xs[·]?) := by
    rw [List.filterMap_map]
    refine fm_congr _ fun m hm => ?_
    have hl := List.mem_range.mp hm
    show xs[(((xs.size : Nat) : Int) - 1 + (m : Int) * (-1)).toNat]? = xs[xs.size - 1 - m]?
    rw [show (((xs.size : Nat) : Int) - 1 + (m : Int) * (-1)).toNat = xs.size - 1 - m by omega]
  rw [e, PySem.W.krv_range, List.filterMap_reverse, PySem.W.krv_all]
section
variable {prog : Program} {w : World} {A : Around} {E : Value → Shared → Prop} {s : Shared}
theorem applied_back {sl : Addr} {va vb vc : Value} {n : Nat} {Q : Int × Int × Nat → Shared → Prop} (hs : s.heap.IsSliceOf sl va vb vc) (pa : IsPart va none) (pb : IsPart vb none) (pc : IsPart vc (some (-1)))
    (h : Q ((n : Int) - 1, -1, n) s) : wpAny (model prog w) A (Builtin.Slice.sliceApplied (.ref sl) (pure (n : Int))) Q E s := by
  obtain ⟨os, hos, hcs, hds⟩ := id hs
  unfold Builtin.Slice.sliceApplied Builtin.Slice.sliceFields
  refine wpAny_bind (wpAny_bind (wpAny_field hos hds (x := va) rfl (wpAny_bind (wpAny_field hos hds (x := vb) rfl (wpAny_bind (wpAny_field hos hds (x := vc) rfl (wpAny_pure ?_)))))))
  refine wpAny_bind (HT.slicePart_ pc ?_)
  show wpAny _ _ (if ((-1 : Int) == 0) = true then _ else _) _ _ s
  rw [if_neg (by decide)]
  refine wpAny_bind (HT.slicePart_ pa (wpAny_bind (HT.slicePart_ pb (wpAny_bind (wpAny_pure ?_)))))
  show wpAny _ _ (match Builtin.Slice.sliceAdjust none none (-1) (n : Int) with | (lo, hi) => pure (lo, (-1 : Int), Builtin.Slice.slicePlaces lo hi (-1))) _ _ s
  rw [adjust_back n]
  show wpAny _ _ (pure ((n : Int) - 1, (-1 : Int), Builtin.Slice.slicePlaces ((n : Int) - 1) (-1) (-1))) _ _ s
  rw [places_back]
  exact wpAny_pure h
theorem getItem_back {t sl : Addr} {its : Array Value} {va vb vc : Value} {Q : Value → Shared → Prop} (ht : IsTup s.heap t its) (hs : s.heap.IsSliceOf sl va vb vc) (pa : IsPart va none) (pb : IsPart vb none) (pc : IsPart vc (some (-1)))
    (h : Q (.ref s.heap.objs.size) { s with heap := s.heap.push { cls := .type "tuple", data := .seq its.toList.reverse.toArray } }) (hz : its.size ≤ sizeLine) : wpAny (model prog w) A (getItem (.ref t) (.ref sl)) Q E s := by
  have ok : sizeOk (.seq its.toList.reverse.toArray) := by
    show its.toList.reverse.toArray.size ≤ sizeLine
    rw [List.size_toArray, List.length_reverse, Array.length_toList]
    exact hz
  obtain ⟨os, hos, hcs, hds⟩ := id hs
  have hTs : s.TypeIs (.ref sl) "slice" := ⟨os, hos, hcs⟩
  unfold getItem
  first | (with_reducible refine wpAny_holding ?_) | skip
  first | refine wpAny_bind (wpAny_pure ?_) | skip
  refine wpAny_bind (wpAny_sequenceKey ht.typeIs (by decide) (wpAny_bind (wpAny_callSpecial?_slot (name := Str.ofString "__getitem__") ht.typeIs PyProof.Rows.slot_tuple_getitem (wpAny_call_entry PyProof.Rows.slot_tuple_getitem ht.typeIs entry_tuple_getitem ?_ (args_tuple_getitem _ _)))))
  show wpAny _ _ (Builtin.Tuple.tupleItemsOf (.ref t) >>= _) _ _ s
  refine wpAny_bind (tupleItemsOf_ ht (wpAny_bind (wpAny_typeOf hTs ?_)))
  rw [if_pos (by decide)]
  refine wpAny_bind (applied_back hs pa pb pc ?_)
  have no : ¬ ((((its.size : Nat) : Int) - 1 == 0 && (-1 : Int) == 1 && its.size == its.size) = true) := by
    intro q
    rw [Bool.and_eq_true, Bool.and_eq_true] at q
    exact absurd q.1.2 (by decide)
  show wpAny _ _ (if (((its.size : Nat) : Int) - 1 == 0 && (-1 : Int) == 1 && its.size == its.size) = true then _ else _) _ _ s
  rw [if_neg no, pick_back]
  first
    | exact wpAny_bind (m := Builtin.Tuple.tupleExact _) (wpAny_newObj_type (wpAny_pure ⟨_, rfl, wpAny_pure h⟩) ok)
    | exact wpAny_bind (wpAny_bind (m := Builtin.Tuple.tupleExact _) (wpAny_newObj_type (wpAny_pure (wpAny_pure ⟨_, rfl, wpAny_pure h⟩)) ok))
    | exact wpAny_bind (m := Builtin.Tuple.tupleExact _) (wpAny_newObj_type (wpAny_bind (wpAny_pure (wpAny_pure ⟨_, rfl, wpAny_pure h⟩))) ok)
end
section
variable {X : Cx}
def tRevT (K : PySem.W.Frag) (te : TE) : TE := fun σ H Q => te σ H fun x H1 => ∃ a xs, x = .ref a ∧ SqT K H1 a xs ∧ ∀ p, H1 p = none → Q (.ref p) (upd H1 p (.tup xs.reverse))
theorem pe_revT {e : Expr} {te : TE} {k : Nat} {p1 p2 p3 pos : Pos} (he : PE X e te) : PE X (.Subscript e (.Slice none none (some (.UnaryOp .USub (.Constant (.int 1) k p1) p2)) p3) pos) (tRevT X.K te) := by
  refine ⟨fun pins s σ H Q I h => Subscript_ (thn (he.run pins s σ H _ I h) fun v s1 ⟨x, H1, I1, r1, a, xs, ex, hx, q⟩ => ?_)⟩
  subst ex
  cases r1
  have hst : PO X (some (.UnaryOp .USub (.Constant (.int 1) k p1) p2)) (tPart (tUn (rU fun i => .int (-i)) (tC (.int 1)))) := po_some (pe_un un_neg pe_int)
  refine wpAny_Slice (thn (po_none.run pins s1 σ H1 (fun o G => o = none ∧ G = H1) I1 ⟨rfl, rfl⟩) fun va s2 ⟨l, H2, I2, pa, el, e2⟩ => ?_)
  subst el e2
  refine thn (po_none.run pins s2 σ H2 (fun o G => o = none ∧ G = H2) I2 ⟨rfl, rfl⟩) fun vb s3 ⟨u, H3, I3, pb, eu, e3⟩ => ?_
  subst eu e3
  refine thn (hst.run pins s3 σ H3 (fun o G => o = some (-1) ∧ G = H3) I3 ⟨1, rfl, -1, rfl, rfl, rfl⟩) fun vc s4 ⟨o, H4, I4, pc, eo, e4⟩ => ?_
  subst eo e4
  have I5 : Inv X pins σ H4 { s4 with heap := s4.heap.push { cls := .type "slice", data := .fields #[va, vb, vc] } } := I4.kept (t' := s4.toks) fun b ob z => Heap.get?_push_of_some _ z
  obtain ⟨its, r, ht, hz⟩ := I5.tuple hx
  have hl := r.length
  show wpAny (model X.prog X.w) X.A (subscriptTail e (.Slice none none (some (.UnaryOp .USub (.Constant (.int 1) k p1) p2)) p3) (.ref a) (.ref s4.heap.objs.size)) (EP X pins σ Q) X.xe { s4 with heap := s4.heap.push { cls := .type "slice", data := .fields #[va, vb, vc] } }
  refine tail_any (ops := [.ref a, .ref s4.heap.objs.size]) ht.typeIs (PyProof.Rows.slot_tuple_getitem.lookup) ?_ (by with_unfolding_all rfl)
  refine getItem_back ht (Heap.IsSliceOf.new _ va vb vc) pa pb pc ?_ (by rw [List.size_toArray]; omega)
  refine ⟨.ref _, _, I5.laid (t' := s4.toks) (o := .tup xs.reverse) (fun b ob z => Heap.get?_push_of_some _ z) (Nat.le_refl _) ?_, rfl, q _ (I5.hok.fresh (Nat.le_refl _))⟩
  exact ⟨by rw [List.length_reverse]; exact hz, _, r.reverse, IsTup.new _ _⟩
end
end Jg
namespace Jg
open PySem PySem.Spec PyProof.Rows L2
abbrev sDeck : Stmt := topS 15
abbrev sDraw : Stmt := topS 16
abbrev sOne : Stmt := topS 17
abbrev nDeck : List Str := ["_law_script", "_law_cells", "_law_cell"]
abbrev nDraw : List Str := ["_law_deck_here", "_law_many", "_law_rest", "_law_cell", "_law_mixed"]
abbrev nOne : List Str := ["_law_deck_here", "_law_items"]
theorem scDeck : FnScope nDeck ["_law_script"] (defScope sDeck) := ⟨rfl, rfl, rfl, by decide +kernel, rfl, by decide +kernel, by decide +kernel⟩
theorem scDraw : FnScope nDraw ["_law_deck_here", "_law_many"] (defScope sDraw) := ⟨rfl, rfl, rfl, by decide +kernel, rfl, by decide +kernel, by decide +kernel⟩
theorem scOne : FnScope nOne ["_law_deck_here", "_law_items"] (defScope sOne) := ⟨rfl, rfl, rfl, by decide +kernel, rfl, by decide +kernel, by decide +kernel⟩
/-! ### data of ints -/
theorem lay_ints : ∀ ns : List Int, PyData.canLayAll0 (ns.map PyData.int) = true
  | [] => by simp [PyData.canLayAll0]
  | n :: ns => by simp [PyData.canLayAll0, PyData.canLay0, lay_ints ns]
theorem dep_ints : ∀ ns : List Int, PyData.depthAll (ns.map PyData.int) ≤ 1
  | [] => by simp [PyData.depthAll]
  | n :: ns => by
    have h := dep_ints ns
    simp only [List.map_cons, PyData.depthAll, PyData.depth]
    omega
theorem shaped_ints (ns : List Int) : SeqAt.shaped (.list (ns.map PyData.int)) = true := by
  have h1 := dep_ints ns
  have h2 : PyData.depth (.list (ns.map PyData.int)) ≤ 64 := by
    simp only [PyData.depth]
    omega
  show (PyData.canLay0 (.list (ns.map PyData.int)) && decide (PyData.depth (.list (ns.map PyData.int)) ≤ 64)) = true
  rw [Bool.and_eq_true]
  exact ⟨by simp only [PyData.canLay0]; exact lay_ints ns, decide_eq_true h2⟩
theorem dp_ints {K : PySem.W.Frag} {H : Hp} : ∀ ns : List Int, DpAll K H (ns.map V.int) (ns.map PyData.int)
  | [] => .nil
  | n :: ns => .cons (.int n) (dp_ints ns)
/-! ### the deck -/
/-- the deck at D: its great cells at B, its cells at C, a count -/
structure DeckAt (D B C : Addr) (cells : List Int) (H : Hp) : Prop where
  db : D ≠ B
  dc : D ≠ C
  bc : B ≠ C
  ne : cells ≠ []
  len : cells.length ≤ 64
  top : ∃ n : Int, H D = some (.lst [.ref B, .ref C, .int n])
  big : ∃ bigs : List Int, bigs.length ≤ 63 ∧ H B = some (.lst (bigs.map V.int))
  cel : H C = some (.lst (cells.map V.int))
theorem Fr.refl (D B : Addr) (H : Hp) : Fr D B H H := fun _ _ _ _ h => h
theorem Fr.trans {D B : Addr} {H H1 H2 : Hp} (a : Fr D B H H1) (b : Fr D B H1 H2) : Fr D B H H2 := fun c o h1 h2 h => b c o h1 h2 (a c o h1 h2 h)
theorem Fr.of_same {D B : Addr} {H H' : Hp} (s : Same H H') : Fr D B H H' := fun b o _ _ h => s b o h
theorem same_upd {H : Hp} {p : Addr} {o : HO} (h : H p = none) : Same H (upd H p o) := fun b x e => by
  rw [upd_ne (ne_of_none e h)]
  exact e
theorem DeckAt.same {D B C : Addr} {cells : List Int} {H H' : Hp} (d : DeckAt D B C cells H) (s : Same H H') : DeckAt D B C cells H' := by
  obtain ⟨n, hn⟩ := d.top
  obtain ⟨bs, hl, hb⟩ := d.big
  exact ⟨d.db, d.dc, d.bc, d.ne, d.len, ⟨n, s _ _ hn⟩, ⟨bs, hl, s _ _ hb⟩, s _ _ d.cel⟩
def spDraw : Sp := fun vs H Q _ => ∃ (D B C : Addr) (cells : List Int) (m : Int), vs = [.ref D, .int m] ∧ DeckAt D B C cells H ∧ 0 < m ∧ m < 1073741824 ∧
  ∀ (i : Int) (H' : Hp), 0 ≤ i → i < m → DeckAt D B C cells H' → Fr D B H H' → Q (.int i) H'
section
variable {P : Program} {w : World} {K : PySem.W.Frag} {mg : Str → Option Value} {base : Heap}
theorem ok_draw {f : Addr} {fd : FuncData} (F : Fun K "_law_draw" "_law_draw" sDraw f fd) (mi : mg "int" = none) (ml : mg "len" = none) : FnOk P w K mg base CX0 1 f fd ["_law_deck_here", "_law_many"] spDraw := by
  refine F.ok scDraw (fun vs H Q E h => ?_) (fun cdv A outer s H vs Q E hr h => ?_)
  · obtain ⟨D, B, C, cells, m, rfl, _⟩ := h
    rfl
  · obtain ⟨D, B, C, cells, m, rfl, dk, hm0, hm1, q⟩ := h
    have hu := hr.units
    refine ⟨_, pss_cons (ps_if (pt_cmpR (op_neD hu) (pe_ix ix_list (pv 0) pe_int (fun _ _ => rfl)) (pe_lst pa_nil) (nomark _))
        (pss_cons (ps_set (i := 2) scDraw.nd rfl (.inl rfl) (pe_ix ix_list (pe_ix ix_list (pv 0) pe_int (fun _ _ => rfl)) pe_int (fun _ _ => rfl)))
        (pss_cons (ps_asg (pe_op op_fdiv (pv 2) (pv 1)) (pg_sub (pe_ix ix_list (pv 0) pe_int (fun _ _ => rfl)) pe_int set_list))
        (pss_cons (ps_if (pt_cmpR op_eq (pe_ix ix_list (pe_ix ix_list (pv 0) pe_int (fun _ _ => rfl)) pe_int (fun _ _ => rfl)) pe_int (nomark _))
          (pss_one (ps_expr (pe_bm PySem.F.plainAttrs_list PySem.F.slot_list_pop PySem.F.type_list_pop mt_popAt (pe_ix ix_list (pv 0) pe_int (fun _ _ => rfl)) (pa_cons pe_int pa_nil)))) pss_nil)
        (pss_one (ps_ret (pe_op op_mod (pe_callTy call_int1 (by rfl) mi PyProof.Rows.boot_int (pa_cons (pv 2) pa_nil)) (pv 1))))))) pss_nil)
      (pss_cons (ps_asg (pe_op op_add (pe_ix ix_list (pv 0) pe_int (fun _ _ => rfl)) pe_int) (pg_sub (pv 0) pe_int set_list))
      (pss_cons (ps_set (i := 3) scDraw.nd rfl (.inl rfl) (pe_ix ix_list (pe_ix ix_list (pv 0) pe_int (fun _ _ => rfl)) (pe_op op_mod (pe_callTy call_int1 (by rfl) mi PyProof.Rows.boot_int (pa_cons (pe_ix ix_list (pv 0) pe_int (fun _ _ => rfl)) pa_nil)) (pe_callB call_len_seq (by rfl) ml PySem.boot_len (pa_cons (pe_ix ix_list (pv 0) pe_int (fun _ _ => rfl)) pa_nil))) (fun _ _ => rfl)))
      (pss_cons (ps_set (i := 4) scDraw.nd rfl (.inl rfl) (pe_op op_mod (pe_callTy call_int1 (by rfl) mi PyProof.Rows.boot_int (pa_cons (pe_op op_add (pe_op op_mod (pe_callTy call_int1 (by rfl) mi PyProof.Rows.boot_int (pa_cons (pv 3) pa_nil)) pe_int) (pe_op op_mul pe_int (pe_ix ix_list (pv 0) pe_int (fun _ _ => rfl)))) pa_nil)) pe_int))
      (pss_cons (ps_set (i := 4) scDraw.nd rfl (.inl rfl) (pe_op op_mod (pe_callTy call_int1 (by rfl) mi PyProof.Rows.boot_int (pa_cons (pe_op op_add (pe_op op_mul (pv 4) (pv 4)) (pe_op op_mul pe_int (pe_ix ix_list (pv 0) pe_int (fun _ _ => rfl)))) pa_nil)) pe_int))
      (pss_one (ps_ret (pe_op op_mod (pe_op op_fdiv (pe_op op_mod (pe_callTy call_int1 (by rfl) mi PyProof.Rows.boot_int (pa_cons (pe_op op_mul (pv 4) (pv 4)) pa_nil)) pe_int) pe_int) (pv 1)))))))), ?_⟩
    obtain ⟨n, hD⟩ := dk.top
    obtain ⟨bigs, hbl, hB⟩ := dk.big
    have hC := dk.cel
    -- if deck[0] != []
    refine ⟨.ref D, rfl, D, _, 0, .ref B, rfl, rfl, SqL.of hD, atI_nat (j := 0) rfl, Nat.zero_le _, fun e ne => ?_⟩
    have s1 : Same H (upd H e (.lst [])) := same_upd ne
    have hD1 := s1 _ _ hD
    have hB1 := s1 _ _ hB
    have hC1 := s1 _ _ hC
    refine ⟨.list (bigs.map PyData.int), .list [], .lst (SqL.of hB1) (dp_ints bigs), .lst (SqL.of upd_same) .nil, shaped_ints bigs, shaped_ints [], _, rfl, ?_⟩
    cases bigs with
    | cons b0 bs =>
      refine iteT ?_
      -- rest = deck[0][0]
      refine ⟨.ref D, rfl, D, _, 0, .ref B, rfl, rfl, SqL.of hD1, atI_nat (j := 0) rfl, B, _, 0, .int b0, rfl, rfl, SqL.of hB1, atI_nat (j := 0) rfl, ?_⟩
      -- deck[0][0] = rest // many
      refine ⟨.int b0, rfl, .int m, rfl, _, _, rfl, rfl, ⟨hm0, hm1⟩, .ref D, rfl, D, _, 0, .ref B, rfl, rfl, SqL.of hD1, atI_nat (j := 0) rfl, B, _, 0, 0, rfl, rfl, hB1, by simp [ixN], ?_⟩
      have hB2 : (upd (upd H e (.lst [])) B (.lst (List.set ((b0 :: bs).map V.int) 0 (.int (b0 / m))))) B = some (.lst ((b0 / m :: bs).map V.int)) := upd_same
      have hD2 : (upd (upd H e (.lst [])) B (.lst (List.set ((b0 :: bs).map V.int) 0 (.int (b0 / m))))) D = some (.lst [.ref B, .ref C, .int n]) := by
        rw [upd_ne dk.db]
        exact hD1
      have hC2 : (upd (upd H e (.lst [])) B (.lst (List.set ((b0 :: bs).map V.int) 0 (.int (b0 / m))))) C = some (.lst (cells.map V.int)) := by
        rw [upd_ne dk.bc.symm]
        exact hC1
      have f2 : Fr D B H (upd (upd H e (.lst [])) B (.lst (List.set ((b0 :: bs).map V.int) 0 (.int (b0 / m))))) := fun b o h1 h2 h => by
        rw [upd_ne h2]
        exact s1 _ _ h
      have q0 : (0 : Int) ≤ b0 % m := Int.emod_nonneg _ (by omega)
      have q1 : b0 % m < m := Int.emod_lt_of_pos _ hm0
      generalize (upd (upd H e (.lst [])) B (.lst (List.set ((b0 :: bs).map V.int) 0 (.int (b0 / m))))) = H2 at hB2 hD2 hC2 f2 ⊢
      -- if deck[0][0] == 0
      refine ⟨.ref D, rfl, D, _, 0, .ref B, rfl, rfl, SqL.of hD2, atI_nat (j := 0) rfl, B, _, 0, .int (b0 / m), rfl, rfl, SqL.of hB2, atI_nat (j := 0) rfl, rfl, _, rfl, ite2 (fun _ => ?_) (fun _ => ?_)⟩
      · refine ⟨.ref D, rfl, D, _, 0, .ref B, rfl, rfl, SqL.of hD2, atI_nat (j := 0) rfl, .inl ⟨rfl, _, SqL.of hB2⟩, B, _, 0, 0, .int (b0 / m), rfl, rfl, hB2, by decide, by decide, by simp [seqIndex?], rfl, ?_⟩
        refine ⟨.int b0, rfl, .inl ⟨b0, rfl, .int m, rfl, _, _, rfl, rfl, hm0, q _ _ q0 q1 ⟨dk.db, dk.dc, dk.bc, dk.ne, dk.len, ⟨n, ?_⟩, ⟨bs, ?_, upd_same⟩, ?_⟩ fun b o h1 h2 h => ?_⟩⟩
        · rw [upd_ne dk.db]
          exact hD2
        · simp only [List.length_cons] at hbl
          omega
        · rw [upd_ne dk.bc.symm]
          exact hC2
        · rw [upd_ne h2]
          exact f2 b o h1 h2 h
      · exact ⟨.int b0, rfl, .inl ⟨b0, rfl, .int m, rfl, _, _, rfl, rfl, hm0, q _ _ q0 q1 ⟨dk.db, dk.dc, dk.bc, dk.ne, dk.len, ⟨n, hD2⟩, ⟨b0 / m :: bs, hbl, hB2⟩, hC2⟩ f2⟩⟩
    | nil =>
      refine iteF ?_
      -- deck[2] = deck[2] + 1
      refine ⟨.ref D, rfl, D, _, 2, .int n, rfl, rfl, SqL.of hD1, atI_nat (j := 2) rfl, _, _, rfl, rfl, .ref D, rfl, D, _, 2, 2, rfl, rfl, hD1, rfl, ?_⟩
      have hD2 : (upd (upd H e (.lst [])) D (.lst (List.set [.ref B, .ref C, .int n] 2 (.int (n + 1))))) D = some (.lst [.ref B, .ref C, .int (n + 1)]) := upd_same
      have hB2 : (upd (upd H e (.lst [])) D (.lst (List.set [.ref B, .ref C, .int n] 2 (.int (n + 1))))) B = some (.lst []) := by
        rw [upd_ne dk.db.symm]
        exact hB1
      have hC2 : (upd (upd H e (.lst [])) D (.lst (List.set [.ref B, .ref C, .int n] 2 (.int (n + 1))))) C = some (.lst (cells.map V.int)) := by
        rw [upd_ne dk.dc.symm]
        exact hC1
      have f2 : Fr D B H (upd (upd H e (.lst [])) D (.lst (List.set [.ref B, .ref C, .int n] 2 (.int (n + 1))))) := fun b o h1 h2 h => by
        rw [upd_ne h1]
        exact s1 _ _ h
      generalize (upd (upd H e (.lst [])) D (.lst (List.set [.ref B, .ref C, .int n] 2 (.int (n + 1))))) = H2 at hB2 hD2 hC2 f2 ⊢
      have dk2 : DeckAt D B C cells H2 := ⟨dk.db, dk.dc, dk.bc, dk.ne, dk.len, ⟨_, hD2⟩, ⟨[], by decide, hB2⟩, hC2⟩
      -- cell = deck[1][deck[2] % len(deck[1])]
      have hl0 : 0 < cells.length := List.length_pos_iff.mpr dk.ne
      have hlm : (((cells.map V.int).length : Nat) : Int) = (cells.length : Int) := by rw [List.length_map]
      have i0 : 0 ≤ (n + 1) % (cells.length : Int) := Int.emod_nonneg _ (by omega)
      have i1 : (n + 1) % (cells.length : Int) < (cells.length : Int) := Int.emod_lt_of_pos _ (by omega)
      obtain ⟨j, hj⟩ : ∃ j : Nat, (n + 1) % (cells.length : Int) = (j : Int) := ⟨((n + 1) % (cells.length : Int)).toNat, by omega⟩
      have hjl : j < cells.length := by omega
      have hget : (cells.map V.int)[j]? = some (.int cells[j]) := by
        rw [List.getElem?_map, List.getElem?_eq_getElem hjl]
        rfl
      have hix : atI (cells.map V.int) ((n + 1) % (((cells.map V.int).length : Nat) : Int)) = some (.int cells[j]) := by
        rw [hlm, hj]
        exact atI_nat hget
      refine ⟨.ref D, rfl, D, _, 1, .ref C, rfl, rfl, SqL.of hD2, atI_nat (j := 1) rfl, .ref D, rfl, D, _, 2, .int (n + 1), rfl, rfl, SqL.of hD2, atI_nat (j := 2) rfl, .inl ⟨n + 1, rfl, .ref D, rfl, D, _, 1, .ref C, rfl, rfl, SqL.of hD2, atI_nat (j := 1) rfl, C, _, rfl, .inl (SqL.of hC2), _, _, rfl, rfl, by rw [hlm]; omega, C, _, _, .int cells[j], rfl, rfl, SqL.of hC2, hix, ?_⟩⟩
      -- mixed
      refine ⟨.int cells[j], rfl, .inl ⟨cells[j], rfl, _, _, rfl, rfl, (by show (0 : Int) < 4294966297; decide), .ref D, rfl, D, _, 2, .int (n + 1), rfl, rfl, SqL.of hD2, atI_nat (j := 2) rfl, _, _, rfl, rfl, .inl ⟨by decide, by decide⟩, _, _, rfl, rfl, .inl ⟨_, rfl, _, _, rfl, rfl, (by show (0 : Int) < 4294966297; decide), ?_⟩⟩⟩
      have x0 : 0 ≤ (cells[j] % 4294966297 + 1640531527 * (n + 1)) % 4294966297 := Int.emod_nonneg _ (by decide)
      have x1 : (cells[j] % 4294966297 + 1640531527 * (n + 1)) % 4294966297 < 4294966297 := Int.emod_lt_of_pos _ (by decide)
      refine ⟨_, rfl, _, rfl, _, _, rfl, rfl, .inl ⟨Int.lt_of_lt_of_le (by decide) x0, Int.lt_trans x1 (by decide)⟩, .ref D, rfl, D, _, 2, .int (n + 1), rfl, rfl, SqL.of hD2, atI_nat (j := 2) rfl, _, _, rfl, rfl, .inl ⟨by decide, by decide⟩, _, _, rfl, rfl, .inl ⟨_, rfl, _, _, rfl, rfl, (by show (0 : Int) < 4294966237; decide), ?_⟩⟩
      have y0 : 0 ≤ ((cells[j] % 4294966297 + 1640531527 * (n + 1)) % 4294966297 * ((cells[j] % 4294966297 + 1640531527 * (n + 1)) % 4294966297) + 122949823 * (n + 1)) % 4294966237 := Int.emod_nonneg _ (by decide)
      have y1 : ((cells[j] % 4294966297 + 1640531527 * (n + 1)) % 4294966297 * ((cells[j] % 4294966297 + 1640531527 * (n + 1)) % 4294966297) + 122949823 * (n + 1)) % 4294966237 < 4294966237 := Int.emod_lt_of_pos _ (by decide)
      refine ⟨_, rfl, _, rfl, _, _, rfl, rfl, .inl ⟨Int.lt_of_lt_of_le (by decide) y0, Int.lt_trans y1 (by decide)⟩, .inl ⟨_, rfl, _, _, rfl, rfl, (by show (0 : Int) < 4294966187; decide), _, _, rfl, rfl, ⟨by decide, by decide⟩, .int m, rfl, _, _, rfl, rfl, hm0, q _ _ (Int.emod_nonneg _ (by omega)) (Int.emod_lt_of_pos _ hm0) dk2 f2⟩⟩
theorem sz1 {α : Type} {l : List α} (h : Nat.ble l.length 1000 = true) : l.length ≤ sizeLine := Nat.le_of_lt (small1000 (Nat.le_of_ble_eq_true h))
theorem tYes_if {σ : L2.St} {H : Hp} {T E : Hp → Prop} (h : T H) : tYes σ H (fun b H1 => if b = true then T H1 else E H1) := by
  show (if true = true then T H else E H)
  rw [if_pos rfl]
  exact h
def absI (i : Int) : Int := if i < 0 then -i else i
/-- law: the deck is made -/
def spDeck (K : PySem.W.Frag) : Sp := fun vs H Q _ => ∃ (a : Addr) (ns : List Int), vs = [.ref a] ∧ SqL K H a (ns.map V.int) ∧ ns.length ≤ 63 ∧
  ∀ (H' : Hp) (D B C : Addr) (cells : List Int), Same H H' → H D = none → H B = none → H C = none → DeckAt D B C cells H' → Q (.ref D) H'
theorem cut_ints (ns : List Int) (lo hi : Option Int) : ∃ ms : List Int, cutV (ns.map V.int) lo hi = ms.map V.int ∧ ms.length ≤ ns.length := by
  unfold cutV
  refine ⟨(ns.drop _).take _, by rw [List.map_take, List.map_drop], ?_⟩
  rw [List.length_take, List.length_drop]
  omega
theorem ok_deck {f : Addr} {fd : FuncData} (F : Fun K "_law_deck" "_law_deck" sDeck f fd) (ma : mg "abs" = none) (ml : mg "len" = none) : FnOk P w K mg base CX0 1 f fd ["_law_script"] (spDeck K) := by
  refine F.ok scDeck (fun vs H Q E h => ?_) (fun cdv A outer s H vs Q E hr h => ?_)
  · obtain ⟨a, ns, rfl, _⟩ := h
    rfl
  · obtain ⟨a, ns, rfl, hS, hn, q⟩ := h
    refine ⟨_, pss_cons (ps_setLc (i := 1) (own := [("_law_cell", 2)]) (g := gName 2) (tt := tYes) rfl scDeck.nd rfl rfl (sw_true rfl rfl rfl (by decide +kernel)) (pi_list (pe_slice sl_list (pv 0) po_none (po_some pe_int))) (blkOk_by (N := nDeck) (sc := defScope sDeck) (by decide +kernel))
        (fun _ _ _ _ _ => pg_name (i := 2) scDeck.nd rfl (.inl rfl)) (fun _ _ _ _ _ => pts_nil) (fun _ _ _ _ _ => pe_callB call_abs (by rfl) ma PyProof.Rows.boot_abs (pa_cons (pv 2) pa_nil)))
      (pss_one (ps_ret (pe_lst (pa_cons (pe_lc (own := [("_law_cell", 2)]) (g := gName 2) rfl scDeck.nd (pi_list (pv 1)) (blkOk_by (N := nDeck) (sc := defScope sDeck) (by decide +kernel))
          (fun _ _ _ _ _ => pg_name (i := 2) scDeck.nd rfl (.inl rfl)) (fun _ _ _ _ _ => pts_one (pt_cmpR op_ge (pv 2) (pe_op op_pow pe_int pe_int) (nomark _))) (fun _ _ _ _ _ => pv 2))
        (pa_cons (pe_op op_cat (pv 1) (pe_lst (pa_cons (pe_op op_add pe_int (pe_callB call_len_seq (by rfl) ml PySem.boot_len (pa_cons (pv 1) pa_nil))) pa_nil)))
        (pa_cons pe_int pa_nil)))))), ?_⟩
    obtain ⟨ms, hms, hml⟩ := cut_ints ns none (some 63)
    refine ⟨.ref a, rfl, 63, rfl, a, ns.map V.int, rfl, hS, fun c nc => ⟨c, rfl, ⟨_, SqL.of upd_same⟩, fun D1 nD1 => ?_⟩⟩
    rw [hms] at nD1 ⊢
    have s1 : Same H (upd H c (.lst (ms.map V.int))) := same_upd nc
    have s2 : Same (upd H c (.lst (ms.map V.int))) (upd (upd H c (.lst (ms.map V.int))) D1 (.lst [])) := same_upd nD1
    have nD1' : H D1 = none := s1.free nD1
    have nDc : D1 ≠ c := fun e => by
      rw [e, upd_same] at nD1
      cases nD1
    refine lc_list (K := K) (a := c) (xs := ms.map V.int) (fun i H3 => H3 D1 = some (.lst (((ms.take i).map absI).map V.int)) ∧ H3 c = some (.lst (ms.map V.int)) ∧ Same H H3) ⟨upd_same, ?_, s1.trans s2⟩ (fun i H3 _ h => SqL.of h.2.1) ?_ ?_
    · rw [upd_ne nDc.symm]
      exact upd_same
    · rintro i x H3 hi ⟨e1, e2, e3⟩
      have hil : i < ms.length := by
        have := (List.getElem?_eq_some_iff.mp hi).1
        rw [List.length_map] at this
        exact this
      have ex : x = .int ms[i] := by
        rw [List.getElem?_map, List.getElem?_eq_getElem hil] at hi
        exact (Option.some.inj hi).symm
      subst ex
      refine ⟨rfl, tYes_if ?_⟩
      refine ⟨_, rfl, ms[i], rfl, _, e1, ?_, ?_, ?_, ?_⟩
      · simp only [List.length_map, List.length_take]
        exact Nat.lt_of_le_of_lt (Nat.min_le_left _ _) (small1000 (by omega))
      · rw [upd_same, List.take_add_one, List.getElem?_eq_getElem hil, List.map_append, List.map_append]
        rfl
      · rw [upd_ne nDc.symm]
        exact e2
      · intro b o hb
        rw [upd_ne (ne_of_none hb nD1')]
        exact e3 b o hb
    · rintro H3 ⟨e1, e2, e3⟩
      rw [List.length_map, List.take_length] at e1
      refine ⟨_, rfl, D1, rfl, ⟨_, SqL.of e1⟩, fun D2 nD2 => ?_⟩
      have nDD : D2 ≠ D1 := fun e => by
        rw [e, e1] at nD2
        cases nD2
      have sB : Same H3 (upd H3 D2 (.lst [])) := same_upd nD2
      refine lc_list (K := K) (a := D1) (xs := (ms.map absI).map V.int) (fun i H4 => ∃ bs : List Int, bs.length ≤ i ∧ H4 D2 = some (.lst (bs.map V.int)) ∧ H4 D1 = some (.lst ((ms.map absI).map V.int)) ∧ Same H3 H4) ⟨[], Nat.le_refl _, upd_same, ?_, sB⟩ (fun i H3 _ ⟨_, _, _, h, _⟩ => SqL.of h) ?_ ?_
      · rw [upd_ne nDD.symm]
        exact e1
      · rintro i x H4 hi ⟨bs, hb, g1, g2, g3⟩
        obtain ⟨z, rfl⟩ : ∃ z, x = V.int z := by
          rw [List.getElem?_map] at hi
          cases e : (ms.map absI)[i]? with
          | none =>
            rw [e] at hi
            cases hi
          | some z =>
            rw [e] at hi
            exact ⟨z, (Option.some.inj hi).symm⟩
        have hil : i < (ms.map absI).length := by
          have := (List.getElem?_eq_some_iff.mp hi).1
          rw [List.length_map] at this
          exact this
        rw [List.length_map] at hil
        refine ⟨rfl, .int z, rfl, _, _, rfl, rfl, ⟨by decide, by decide, by decide⟩, _, _, rfl, rfl, _, rfl, ite2 (fun _ => ?_) (fun _ => ?_)⟩
        · refine ⟨_, rfl, _, g1, ?_, bs ++ [z], ?_, ?_, ?_, ?_⟩
          · rw [List.length_map]
            exact small1000 (by omega)
          · rw [List.length_append]
            show bs.length + 1 ≤ i + 1
            omega
          · rw [upd_same, List.map_append]
            rfl
          · rw [upd_ne nDD.symm]
            exact g2
          · intro b o hb
            rw [upd_ne (ne_of_none hb nD2)]
            exact g3 b o hb
        · exact ⟨bs, by omega, g1, g2, g3⟩
      · rintro H4 ⟨bs, hb, g1, g2, g3⟩
        rw [List.length_map, List.length_map] at hb
        refine ⟨_, rfl, _, rfl, D1, _, rfl, .inl (SqL.of g2), _, _, rfl, rfl, sz1 rfl, fun e ne => ?_⟩
        have s4 : Same H4 (upd H4 e (.lst [.int (11246 + (((ms.map absI).map V.int).length : Nat))])) := same_upd ne
        refine ⟨D1, e, _, _, rfl, rfl, s4 _ _ g2, upd_same, ?_, fun C nC => ?_⟩
        · rw [List.length_map, List.length_map]
          exact Nat.le_of_lt (small1000 (by simp only [List.length_singleton]; omega))
        refine ⟨sz1 rfl, fun D nD => ?_⟩
        have s5 := same_upd (o := .lst ((ms.map absI).map V.int ++ [.int (11246 + (((ms.map absI).map V.int).length : Nat))])) nC
        have s6 := same_upd (o := .lst [.ref D2, .ref C, .int 0]) nD
        have sE : Same H _ := e3.trans (g3.trans (s4.trans (s5.trans s6)))
        have n4 : H4 D = none := s4.free (s5.free nD)
        have n4C : H4 C = none := s4.free nC
        have hD2 : D2 ≠ D := ne_of_none g1 n4
        have hD2C : D2 ≠ C := ne_of_none g1 n4C
        have hDC : D ≠ C := fun z => by
          rw [z, upd_same] at nD
          cases nD
        refine q _ D D2 C ((ms.map absI) ++ [(11246 : Int) + ((((ms.map absI).map V.int).length : Nat) : Int)]) sE (e3.free (g3.free n4)) (e3.free nD2) (e3.free (g3.free n4C)) ⟨hD2.symm, hDC, hD2C, by simp, ?_, ⟨0, upd_same⟩, ⟨bs, by omega, s6 _ _ (s5 _ _ (s4 _ _ g1))⟩, ?_⟩
        · rw [List.length_append, List.length_map]
          show ms.length + 1 ≤ 64
          omega
        · rw [upd_ne hDC.symm, upd_same, List.map_append]
          rfl

theorem DeckAt.isD {D B C : Addr} {cells : List Int} {H : Hp} (d : DeckAt D B C cells H) : ∃ xs, H D = some (.lst xs) := by
  obtain ⟨n, hn⟩ := d.top
  exact ⟨_, hn⟩
theorem DeckAt.isB {D B C : Addr} {cells : List Int} {H : Hp} (d : DeckAt D B C cells H) : ∃ xs, H B = some (.lst xs) := by
  obtain ⟨bs, _, hb⟩ := d.big
  exact ⟨_, hb⟩
theorem DeckAt.data {D B C : Addr} {cells : List Int} {H H' : Hp} {v : V} {d : PyData} (k : DeckAt D B C cells H) (f : Fr D B H H') (h : Dq D B H v d) : Dq D B H' v d := Dq.keep k.isD k.isB f d v h
theorem DeckAt.dataAll {D B C : Addr} {cells : List Int} {H H' : Hp} {v : List V} {d : List PyData} (k : DeckAt D B C cells H) (f : Fr D B H H') (h : DqAll D B H v d) : DqAll D B H' v d := DqAll.keep k.isD k.isB f d v h
/-- one of the items of a list that is not the deck's -/
def spOne : Sp := fun vs H Q _ => ∃ (D B C : Addr) (cells : List Int) (L : Addr) (xs : List V), vs = [.ref D, .ref L] ∧ DeckAt D B C cells H ∧ H L = some (.lst xs) ∧ L ≠ D ∧ L ≠ B ∧ 0 < xs.length ∧ xs.length < 1073741824 ∧
  ∀ (i : Nat) (v : V) (H' : Hp), xs[i]? = some v → DeckAt D B C cells H' → Fr D B H H' → Q v H'
theorem ok_one {f fd' : Addr} {fd fdD : FuncData} (F : Fun K "_law_one" "_law_one" sOne f fd) (FD : Fun K "_law_draw" "_law_draw" sDraw fd' fdD) (bD : Binds K fdD ["_law_deck_here", "_law_many"] []) (gD : mg "_law_draw" = some (.ref fd')) (mi : mg "int" = none) (ml : mg "len" = none) :
    FnOk P w K mg base CX0 2 f fd ["_law_deck_here", "_law_items"] spOne := by
  have GD : FnOk P w K mg base CX0 1 fd' fdD ["_law_deck_here", "_law_many"] spDraw := ok_draw FD mi ml
  refine F.ok scOne (fun vs H Q E h => ?_) (fun cdv A outer s H vs Q E hr h => ?_)
  · obtain ⟨D, B, C, cells, L, xs, rfl, _⟩ := h
    rfl
  · obtain ⟨D, B, C, cells, L, xs, rfl, dk, hL, nD, nB, h0, h1, q⟩ := h
    refine ⟨_, pss_one (ps_ret (pe_ix ix_list (pv 1) (pe_call GD hr (by rfl) gD FD.kp bD .nil pass0 (pa_cons (pv 0) (pa_cons (pe_callB call_len_seq (by rfl) ml PySem.boot_len (pa_cons (pv 1) pa_nil)) pa_nil))) (fun _ _ => rfl))), ?_⟩
    refine ⟨_, rfl, _, rfl, _, rfl, L, xs, rfl, .inl (SqL.of hL), D, B, C, cells, _, rfl, dk, by omega, by omega, fun i H' i0 i1 dk' f' => ?_⟩
    have hL' := f' _ _ nD nB hL
    obtain ⟨j, rfl⟩ : ∃ j : Nat, i = (j : Int) := ⟨i.toNat, by omega⟩
    have hj : j < xs.length := by omega
    have hg : xs[j]? = some xs[j] := List.getElem?_eq_getElem hj
    exact ⟨L, xs, _, _, rfl, rfl, SqL.of hL', atI_nat hg, q j _ H' hg dk' f'⟩
end
end Jg
namespace Jg
open PySem PySem.Spec PyProof.Rows L2
/-! ### looks at data -/
def tyN : PyData → String
  | .none => "NoneType" | .bool _ => "bool" | .int _ => "int" | .str _ => "str" | .list _ => "list" | .tuple _ => "tuple" | .dict _ => "dict"
def isIB : PyData → Bool
  | .int _ => true | .bool _ => true | _ => false
def isBo : PyData → Bool
  | .bool _ => true | _ => false
def isIn : PyData → Bool
  | .int _ => true | _ => false
def isTu : PyData → Bool
  | .tuple _ => true | _ => false
def within (lo hi : Int) : PyData → Bool
  | .int i => decide (lo ≤ i) && decide (i ≤ hi) | _ => false
def tupOf (n : Int) : PyData → Bool
  | .tuple ds => decide ((ds.length : Int) = n) | _ => false
abbrev M20 : Int := 10 ^ 20
theorem Dq.ty {K : PySem.W.Frag} {D B : Addr} {H : Hp} {v : V} {d : PyData} (h : Dq D B H v d) : TyX K H v (.type (tyN d)) := by
  cases h with
  | non => exact .base .non
  | bl b => exact .base (.bl b)
  | int i => exact .base (.int i)
  | str x => exact .base (.str x)
  | lst _ _ e _ => exact .base (.lst e)
  | tup e _ => exact .base (.tup e)
  | dct e => exact .base (.dK e)
theorem kInt {K : PySem.W.Frag} : ∀ d : PyData, PySem.W.kitOne K (.type (tyN d)) (.type "int") = some (isIB d)
  | .none => kit_ty (a := "NoneType") (by show kitB "NoneType" "int" = some false; decide +kernel)
  | .bool _ => kit_ty (a := "bool") (by show kitB "bool" "int" = some true; decide +kernel)
  | .int _ => kit_ty (a := "int") (by show kitB "int" "int" = some true; decide +kernel)
  | .str _ => kit_ty (a := "str") (by show kitB "str" "int" = some false; decide +kernel)
  | .list _ => kit_ty (a := "list") (by show kitB "list" "int" = some false; decide +kernel)
  | .tuple _ => kit_ty (a := "tuple") (by show kitB "tuple" "int" = some false; decide +kernel)
  | .dict _ => kit_ty (a := "dict") (by show kitB "dict" "int" = some false; decide +kernel)
theorem kBool {K : PySem.W.Frag} : ∀ d : PyData, PySem.W.kitOne K (.type (tyN d)) (.type "bool") = some (isBo d)
  | .none => kit_ty (a := "NoneType") (by show kitB "NoneType" "bool" = some false; decide +kernel)
  | .bool _ => kit_ty (a := "bool") (by show kitB "bool" "bool" = some true; decide +kernel)
  | .int _ => kit_ty (a := "int") (by show kitB "int" "bool" = some false; decide +kernel)
  | .str _ => kit_ty (a := "str") (by show kitB "str" "bool" = some false; decide +kernel)
  | .list _ => kit_ty (a := "list") (by show kitB "list" "bool" = some false; decide +kernel)
  | .tuple _ => kit_ty (a := "tuple") (by show kitB "tuple" "bool" = some false; decide +kernel)
  | .dict _ => kit_ty (a := "dict") (by show kitB "dict" "bool" = some false; decide +kernel)
theorem kTup {K : PySem.W.Frag} : ∀ d : PyData, PySem.W.kitOne K (.type (tyN d)) (.type "tuple") = some (isTu d)
  | .none => kit_ty (a := "NoneType") (by show kitB "NoneType" "tuple" = some false; decide +kernel)
  | .bool _ => kit_ty (a := "bool") (by show kitB "bool" "tuple" = some false; decide +kernel)
  | .int _ => kit_ty (a := "int") (by show kitB "int" "tuple" = some false; decide +kernel)
  | .str _ => kit_ty (a := "str") (by show kitB "str" "tuple" = some false; decide +kernel)
  | .list _ => kit_ty (a := "list") (by show kitB "list" "tuple" = some false; decide +kernel)
  | .tuple _ => kit_ty (a := "tuple") (by show kitB "tuple" "tuple" = some true; decide +kernel)
  | .dict _ => kit_ty (a := "dict") (by show kitB "dict" "tuple" = some false; decide +kernel)
/-- a look: a bool comes, nothing is changed -/
def spLook (n : Nat) (ok : PyData → List V → Prop) (b : PyData → List V → Bool) : Sp := fun vs H Q _ => ∃ (D B : Addr) (v : V) (d : PyData) (ws : List V), vs = v :: ws ∧ ws.length = n ∧ Dq D B H v d ∧ ok d ws ∧ Q (.bl (b d ws)) H
/-! ### the texts -/
abbrev sInt : Stmt := topS 6
abbrev sWith : Stmt := topS 7
abbrev sTupO : Stmt := topS 8
abbrev sWhole : Stmt := topS 20
theorem scInt : FnScope ["value"] ["value"] (defScope sInt) := ⟨rfl, rfl, rfl, by decide +kernel, rfl, by decide +kernel, by decide +kernel⟩
theorem scWith : FnScope ["value", "low", "high"] ["value", "low", "high"] (defScope sWith) := ⟨rfl, rfl, rfl, by decide +kernel, rfl, by decide +kernel, by decide +kernel⟩
theorem scTupO : FnScope ["value", "many"] ["value", "many"] (defScope sTupO) := ⟨rfl, rfl, rfl, by decide +kernel, rfl, by decide +kernel, by decide +kernel⟩
theorem scWhole : FnScope ["_law_value", "_law_least", "_law_most"] ["_law_value", "_law_least", "_law_most"] (defScope sWhole) := ⟨rfl, rfl, rfl, by decide +kernel, rfl, by decide +kernel, by decide +kernel⟩
/-- the built-in names that no def of the text takes -/
structure Bn (mg : Str → Option Value) : Prop where
  isi : mg "isinstance" = none
  int : mg "int" = none
  bool : mg "bool" = none
  tup : mg "tuple" = none
  len : mg "len" = none
  all : mg "all" = none
  rng : mg "range" = none
  lst : mg "list" = none
  str : mg "str" = none
  min : mg "min" = none
  rep : mg "repr" = none
  abs : mg "abs" = none
  max : mg "max" = none
  sum : mg "sum" = none
  enu : mg "enumerate" = none
theorem dec_int2 {i j : Int} : decide (V.int i = V.int j) = decide (i = j) := by
  rw [dec_int]
  rfl
theorem boot_bool' : bootBuiltins "bool" = some (.type "bool") := by decide +kernel
theorem boot_tuple' : bootBuiltins "tuple" = some (.type "tuple") := by decide +kernel
theorem boot_all' : bootBuiltins "all" = some (.builtin "all") := by decide +kernel
section
variable {P : Program} {w : World} {K : PySem.W.Frag} {mg : Str → Option Value} {base : Heap}
def spInt : Sp := fun vs H Q _ => ∃ (D B : Addr) (v : V) (d : PyData), vs = [v] ∧ Dq D B H v d ∧ Q (.bl (isIn d)) H
theorem ok_int {f : Addr} {fd : FuncData} (F : Fun K "is_integer" "is_integer" sInt f fd) (T : Bn mg) : FnOk P w K mg base CX0 1 f fd ["value"] spInt := by
  refine F.ok scInt (fun vs H Q E h => ?_) (fun cdv A outer s H vs Q E hr h => ?_)
  · obtain ⟨D, B, v, d, rfl, _⟩ := h
    rfl
  · obtain ⟨D, B, v, d, rfl, hd, q⟩ := h
    refine ⟨_, pss_one (ps_ret (pe_and (pe_callB call_isi (by rfl) T.isi PyProof.Rows.boot_isinstance (pa_cons (pv 0) (pa_cons (pe_bltn (by rfl) T.int PyProof.Rows.boot_int (v := .ty "int") rfl) pa_nil)))
      (pe_one (pe_not (pe_callB call_isi (by rfl) T.isi PyProof.Rows.boot_isinstance (pa_cons (pv 0) (pa_cons (pe_bltn (by rfl) T.bool boot_bool' (v := .ty "bool") rfl) pa_nil))))))), ?_⟩
    refine ⟨v, rfl, v, .ty "int", _, _, _, rfl, .ty "int", hd.ty, kInt d, _, rfl, ?_⟩
    cases hb : isIB d with
    | false =>
      refine iteF ?_
      have e : isIn d = false := by
        cases d <;> first | rfl | cases hb
      rw [e] at q
      exact q
    | true =>
      refine iteT ⟨v, rfl, v, .ty "bool", _, _, _, rfl, .ty "bool", hd.ty, kBool d, _, rfl, ?_⟩
      have e : isIn d = !isBo d := by
        cases d <;> first | rfl | cases hb
      rw [e] at q
      exact q
def spWith : Sp := fun vs H Q _ => ∃ (D B : Addr) (v : V) (d : PyData) (lo hi : Int), vs = [v, .int lo, .int hi] ∧ Dq D B H v d ∧ Q (.bl (within lo hi d)) H
theorem within_no {lo hi : Int} {d : PyData} (h : isIn d = false) : within lo hi d = false := by
  cases d <;> first | rfl | cases h
theorem isIn_of {D B : Addr} {H : Hp} {v : V} {d : PyData} (hd : Dq D B H v d) (h : isIn d = true) : ∃ i, d = .int i ∧ v = .int i := by
  cases hd <;> first | exact ⟨_, rfl, rfl⟩ | cases h
theorem ok_with {f f1 : Addr} {fd fd1 : FuncData} (F : Fun K "is_within" "is_within" sWith f fd) (F1 : Fun K "is_integer" "is_integer" sInt f1 fd1) (b1 : Binds K fd1 ["value"] []) (g1 : mg "is_integer" = some (.ref f1)) (T : Bn mg) : FnOk P w K mg base CX0 2 f fd ["value", "low", "high"] spWith := by
  have G1 : FnOk P w K mg base CX0 1 f1 fd1 ["value"] spInt := ok_int F1 T
  refine F.ok scWith (fun vs H Q E h => ?_) (fun cdv A outer s H vs Q E hr h => ?_)
  · obtain ⟨D, B, v, d, lo, hi, rfl, _⟩ := h
    rfl
  · obtain ⟨D, B, v, d, lo, hi, rfl, hd, q⟩ := h
    refine ⟨_, pss_one (ps_ret (pe_and (pe_call G1 hr (by rfl) g1 F1.kp b1 .nil pass0 (pa_cons (pv 0) pa_nil)) (pe_one (pe_chain op_le op_le (pv 1) (pv 0) (pv 2))))), ?_⟩
    refine ⟨v, rfl, D, B, v, d, rfl, hd, _, rfl, ?_⟩
    cases hb : isIn d with
    | false =>
      refine iteF ?_
      rw [within_no hb] at q
      exact q
    | true =>
      obtain ⟨i, rfl, rfl⟩ := isIn_of hd hb
      refine iteT ⟨_, rfl, _, rfl, _, _, rfl, rfl, _, rfl, ?_⟩
      have q2 : Q (.bl (decide (lo ≤ i) && decide (i ≤ hi))) H := q
      cases h1 : decide (lo ≤ i) with
      | false =>
        refine iteF ?_
        rw [h1] at q2
        exact q2
      | true =>
        refine iteT ⟨_, rfl, _, _, rfl, rfl, ?_⟩
        rw [h1] at q2
        exact q2
def spTupO : Sp := fun vs H Q _ => ∃ (D B : Addr) (v : V) (d : PyData) (n : Int), vs = [v, .int n] ∧ Dq D B H v d ∧ Q (.bl (tupOf n d)) H
theorem isTu_of {D B : Addr} {H : Hp} {v : V} {d : PyData} (hd : Dq D B H v d) (h : isTu d = true) : ∃ a xs ds, d = .tuple ds ∧ v = .ref a ∧ H a = some (.tup xs) ∧ DqAll D B H xs ds := by
  cases hd with
  | tup e ha => exact ⟨_, _, _, rfl, rfl, e, ha⟩
  | _ => cases h
theorem tupOf_no {n : Int} {d : PyData} (h : isTu d = false) : tupOf n d = false := by
  cases d <;> first | rfl | cases h
theorem ok_tupO {f : Addr} {fd : FuncData} (F : Fun K "is_tuple_of" "is_tuple_of" sTupO f fd) (T : Bn mg) : FnOk P w K mg base CX0 1 f fd ["value", "many"] spTupO := by
  refine F.ok scTupO (fun vs H Q E h => ?_) (fun cdv A outer s H vs Q E hr h => ?_)
  · obtain ⟨D, B, v, d, n, rfl, _⟩ := h
    rfl
  · obtain ⟨D, B, v, d, n, rfl, hd, q⟩ := h
    refine ⟨_, pss_one (ps_ret (pe_and (pe_callB call_isi (by rfl) T.isi PyProof.Rows.boot_isinstance (pa_cons (pv 0) (pa_cons (pe_bltn (by rfl) T.tup boot_tuple' (v := .ty "tuple") rfl) pa_nil)))
      (pe_one (pe_cmpR op_eq (pe_callB call_len_seq (by rfl) T.len PySem.boot_len (pa_cons (pv 0) pa_nil)) (pv 1) (nomark _))))), ?_⟩
    refine ⟨v, rfl, v, .ty "tuple", _, _, _, rfl, .ty "tuple", hd.ty, kTup d, _, rfl, ?_⟩
    cases hb : isTu d with
    | false =>
      refine iteF ?_
      rw [tupOf_no hb] at q
      exact q
    | true =>
      obtain ⟨a, xs, ds, rfl, rfl, e, ha⟩ := isTu_of hd hb
      refine iteT ⟨_, rfl, a, xs, rfl, .inr (SqT.of e), _, rfl, rfl, ?_⟩
      have q2 : Q (.bl (decide ((ds.length : Int) = n))) H := q
      rw [← ha.len, ← dec_int2] at q2
      exact q2
end
end Jg
namespace Jg
open PySem PySem.Spec PyProof.Rows L2
theorem smallM {n : Nat} (h : n ≤ 1000000) : n < sizeLine := Nat.lt_of_le_of_lt h (by rw [sizeLine_eq]; decide)
theorem DqAll.at_ {D B : Addr} {H : Hp} : ∀ {xs : List V} {ds : List PyData}, DqAll D B H xs ds → ∀ (i : Nat) (x : V), xs[i]? = some x → ∃ d, ds[i]? = some d ∧ Dq D B H x d
  | _, _, .nil, _, _, e => by simp at e
  | _, _, .cons h _, 0, _, e => by
    simp at e
    subst e
    exact ⟨_, rfl, h⟩
  | _, _, .cons _ h, i + 1, x, e => by
    obtain ⟨d, e2, q⟩ := h.at_ i x (by simpa using e)
    exact ⟨d, by simpa using e2, q⟩
/-- data stays where all that was stays -/
theorem Dq.same {D B : Addr} {H H' : Hp} {v : V} {d : PyData} (s : Same H H') (h : Dq D B H v d) : Dq D B H' v d := by
  refine Dq.rec (D := D) (B := B) (H := H) (motive_1 := fun v d _ => Dq D B H' v d) (motive_2 := fun vs ds _ => DqAll D B H' vs ds) .non .bl .int .str ?_ ?_ ?_ .nil ?_ h
  · exact fun h1 h2 e _ k => .lst h1 h2 (s _ _ e) k
  · exact fun e _ k => .tup (s _ _ e) k
  · exact fun e => .dct (s _ _ e)
  · exact fun _ _ k1 k2 => .cons k1 k2
theorem DqAll.same {D B : Addr} {H H' : Hp} (s : Same H H') : ∀ {vs : List V} {ds : List PyData}, DqAll D B H vs ds → DqAll D B H' vs ds
  | _, _, .nil => .nil
  | _, _, .cons a b => .cons (a.same s) (b.same s)
theorem take_map_next {α β : Type} {f : α → β} {xs : List α} {i : Nat} {x : α} (h : xs[i]? = some x) : (xs.take (i + 1)).map f = (xs.take i).map f ++ [f x] := by
  rw [List.take_add_one, h, List.map_append]
  rfl
/-! ### tuples made of tuples, whatever is shared -/
theorem cut_whole {xs : List V} {lo hi : Option Int} (h : HT.sIx xs.length 0 lo = 0 ∧ HT.sIx xs.length xs.length hi = xs.length) : cutV xs lo hi = xs := by
  unfold cutV
  rw [h.1, h.2, List.drop_zero, Nat.sub_zero, List.take_length]
theorem sl_read {K : PySem.W.Frag} {H : Hp} {a : Addr} {xs : List V} {lo hi : Option Int} {Q : VK} (e : H a = some (.tup xs)) (q : ∀ b H', Same H H' → H' b = some (.tup (cutV xs lo hi)) → Q (.ref b) H') : rSlA K (.ref a) lo hi H Q :=
  ⟨a, xs, rfl, SqT.of e, fun z => q a H (Same.refl H) (by rw [cut_whole z]; exact e), fun _ p np => q p _ (same_upd np) upd_same⟩
theorem cat_read {K : PySem.W.Frag} {H : Hp} {a b : Addr} {xs ys : List V} {Q : VK} (e : H a = some (.tup xs)) (e2 : H b = some (.tup ys)) (hz : xs.length + ys.length ≤ 1000) (q : ∀ c H', Same H H' → H' c = some (.tup (xs ++ ys)) → Q (.ref c) H') : rCatA K (.ref a) (.ref b) H Q := by
  refine ⟨a, b, xs, ys, rfl, rfl, SqT.of e, SqT.of e2, Nat.le_of_lt (small1000 hz), fun z => q b H (Same.refl H) ?_, fun _ z => q a H (Same.refl H) ?_, fun _ _ p np => q p _ (same_upd np) upd_same⟩
  · rw [z, List.nil_append]
    exact e2
  · rw [z, List.append_nil]
    exact e
theorem cutV_from (xs : List V) (k : Nat) : cutV xs (some (k : Int)) none = xs.drop k := by
  unfold cutV
  rw [HT.sIx_nat, HT.sIx_none]
  by_cases h : k ≤ xs.length
  · rw [Nat.min_eq_left h, List.take_of_length_le (by rw [List.length_drop]; omega)]
  · rw [Nat.min_eq_right (by omega), List.drop_eq_nil_of_le (Nat.le_refl _), List.drop_eq_nil_of_le (by omega), List.take_nil]
theorem cutV_to (xs : List V) (k : Nat) : cutV xs none (some (k : Int)) = xs.take k := by
  unfold cutV
  rw [HT.sIx_nat, HT.sIx_none, List.drop_zero, Nat.sub_zero]
  by_cases h : k ≤ xs.length
  · rw [Nat.min_eq_left h]
  · rw [Nat.min_eq_right (by omega), List.take_length, List.take_of_length_le (by omega)]
theorem Dq.tupE {D B : Addr} {H : Hp} {v : V} {ds : List PyData} (h : Dq D B H v (.tuple ds)) : ∃ a xs, v = .ref a ∧ H a = some (.tup xs) ∧ DqAll D B H xs ds := by
  cases h with
  | tup e ha => exact ⟨_, _, rfl, e, ha⟩
theorem Dq.intE {D B : Addr} {H : Hp} {v : V} {i : Int} (h : Dq D B H v (.int i)) : v = .int i := by
  cases h
  rfl
theorem DqAll.take {D B : Addr} {H : Hp} : ∀ {xs : List V} {ds : List PyData} (k : Nat), DqAll D B H xs ds → DqAll D B H (xs.take k) (ds.take k)
  | _, _, 0, _ => by
    rw [List.take_zero, List.take_zero]
    exact .nil
  | _, _, _ + 1, .nil => .nil
  | _, _, k + 1, .cons a b => .cons a (b.take k)
theorem DqAll.drop {D B : Addr} {H : Hp} : ∀ {xs : List V} {ds : List PyData} (k : Nat), DqAll D B H xs ds → DqAll D B H (xs.drop k) (ds.drop k)
  | _, _, 0, h => h
  | _, _, _ + 1, .nil => .nil
  | _, _, k + 1, .cons _ b => b.drop k
theorem DqAll.append {D B : Addr} {H : Hp} {ys : List V} {es : List PyData} (h2 : DqAll D B H ys es) : ∀ {xs : List V} {ds : List PyData}, DqAll D B H xs ds → DqAll D B H (xs ++ ys) (ds ++ es)
  | _, _, .nil => h2
  | _, _, .cons a b => .cons a (DqAll.append h2 b)
/-- the defs that draw -/
structure Dr (K : PySem.W.Frag) (mg : Str → Option Value) (fD : Addr) (fdD : FuncData) : Prop where
  F : Fun K "_law_draw" "_law_draw" sDraw fD fdD
  b : Binds K fdD ["_law_deck_here", "_law_many"] []
  g : mg "_law_draw" = some (.ref fD)
structure On (K : PySem.W.Frag) (mg : Str → Option Value) (fO : Addr) (fdO : FuncData) : Prop where
  F : Fun K "_law_one" "_law_one" sOne fO fdO
  b : Binds K fdO ["_law_deck_here", "_law_items"] []
  g : mg "_law_one" = some (.ref fO)
theorem tupOf_yes {D B : Addr} {H : Hp} {v : V} {d : PyData} {n : Int} (hd : Dq D B H v d) (h : tupOf n d = true) : ∃ a xs ds, d = .tuple ds ∧ v = .ref a ∧ H a = some (.tup xs) ∧ DqAll D B H xs ds ∧ (ds.length : Int) = n := by
  cases hd with
  | tup e ha => exact ⟨_, _, _, rfl, rfl, e, ha, of_decide_eq_true h⟩
  | _ => cases h
section
variable {P : Program} {w : World} {K : PySem.W.Frag} {mg : Str → Option Value} {base : Heap}
theorem ok_whole {f : Addr} {fd : FuncData} (F : Fun K "_law_whole" "_law_whole" sWhole f fd) (T : Bn mg) : FnOk P w K mg base CX0 1 f fd ["_law_value", "_law_least", "_law_most"] spWith := by
  refine F.ok scWhole (fun vs H Q E h => ?_) (fun cdv A outer s H vs Q E hr h => ?_)
  · obtain ⟨D, B, v, d, lo, hi, rfl, _⟩ := h
    rfl
  · obtain ⟨D, B, v, d, lo, hi, rfl, hd, q⟩ := h
    refine ⟨_, pss_one (ps_ret (pe_and (pe_callB call_isi (by rfl) T.isi PyProof.Rows.boot_isinstance (pa_cons (pv 0) (pa_cons (pe_bltn (by rfl) T.int PyProof.Rows.boot_int (v := .ty "int") rfl) pa_nil)))
      (pe_and (pe_not (pe_callB call_isi (by rfl) T.isi PyProof.Rows.boot_isinstance (pa_cons (pv 0) (pa_cons (pe_bltn (by rfl) T.bool boot_bool' (v := .ty "bool") rfl) pa_nil))))
        (pe_one (pe_chain op_le op_le (pv 1) (pv 0) (pv 2)))))), ?_⟩
    refine ⟨v, rfl, v, .ty "int", _, _, _, rfl, .ty "int", hd.ty, kInt d, _, rfl, ?_⟩
    cases hb : isIB d with
    | false =>
      have e : isIn d = false := by
        cases d <;> first | rfl | cases hb
      rw [within_no e] at q
      exact iteF q
    | true =>
      refine iteT ⟨v, rfl, v, .ty "bool", _, _, _, rfl, .ty "bool", hd.ty, kBool d, _, rfl, ?_⟩
      cases hb2 : isBo d with
      | true =>
        have e : isIn d = false := by
          cases d <;> first | rfl | cases hb2
        rw [within_no e] at q
        exact ⟨_, rfl, iteF q⟩
      | false =>
        have hi2 : isIn d = true := by
          cases d <;> first | rfl | exact Bool.noConfusion (show false = true from hb) | exact Bool.noConfusion (show true = false from hb2)
        obtain ⟨i, rfl, rfl⟩ := isIn_of hd hi2
        refine ⟨_, rfl, iteT ⟨_, rfl, _, rfl, _, _, rfl, rfl, _, rfl, ?_⟩⟩
        have q2 : Q (.bl (decide (lo ≤ i) && decide (i ≤ hi))) H := q
        cases h1 : decide (lo ≤ i) with
        | false =>
          rw [h1] at q2
          exact iteF q2
        | true =>
          rw [h1] at q2
          exact iteT ⟨_, rfl, _, _, rfl, rfl, q2⟩

end
end Jg
namespace Jg
open PySem PySem.Spec PyProof.Rows L2
/-! ### t * 1 is t, t * 0 is () -/
theorem tmul_one (l : Addr) (its : Array Value) (n : Nat) (dd : Option Addr) (sl : Array (Option Value)) (u : Tok) :
    Meets (Builtin.«tuple.__mul__» ⟨[.ref l, .int 1 u], []⟩) (fun _ R s => s.heap.get? l = some { cls := .type "tuple", dict := dd, data := .seq its n, slots := sl } ∧ R (.ok (.ret (Value.ref l))) s) := by
  refine .of_wp fun prog w A R s h => ?_
  obtain ⟨hp, g, d, tk, os⟩ := s
  obtain ⟨hl, h⟩ := h
  have f1 := AutoSeq1.idx_int
  have c1 : (its.isEmpty || (1 : Int) == 1) = true := by simp
  wp_walk using AutoSeq1.wpAny_loadPart' hl
  exact ⟨_, rfl, h⟩
theorem tmul_nought (l : Addr) (its : Array Value) (n : Nat) (dd : Option Addr) (sl : Array (Option Value)) (u : Tok) (hi : its.isEmpty = false) :
    Meets (Builtin.«tuple.__mul__» ⟨[.ref l, .int 0 u], []⟩) (fun _ R s => s.heap.get? l = some { cls := .type "tuple", dict := dd, data := .seq its n, slots := sl } ∧
      R (.ok (.ret (Value.ref s.heap.objs.size))) { s with heap := s.heap.push { cls := Value.type "tuple", data := Data.seq #[] }, toks := s.toks }) := by
  refine .of_wp fun prog w A R s h => ?_
  obtain ⟨hp, g, d, tk, os⟩ := s
  obtain ⟨hl, h⟩ := h
  have f1 := AutoSeq1.idx_int
  have c1 : (its.isEmpty || (0 : Int) == 1) = false := by rw [hi]; rfl
  wp_walk using AutoSeq1.wpAny_loadPart' hl
  first
    | exact ⟨_, rfl, h⟩
    | (refine wpAny_ite_false (decide_eq_false (by rw [c1]; exact Bool.false_ne_true)) ?_
       wp_walk using AutoSeq1.wpAny_loadPart' hl
       exact ⟨_, rfl, h⟩)
section
variable {X : Cx}
/-- t * k, k from 0 to 8 -/
def rRepA : R2 := fun x y H Q => ∃ (l : Addr) (k : Nat) (xs : List V), x = .ref l ∧ y = .int (k : Int) ∧ H l = some (.tup xs) ∧ xs ≠ [] ∧ k ≤ 8 ∧ xs.length ≤ 100 ∧ ∀ p H', Same H H' → H' p = some (.tup (List.replicate k xs).flatten) → Q (.ref p) H'
theorem op_repA : OpR X (binaryOp .Mult) rRepA := by
  intro pins s σ H x y v u Q I rx ry h
  obtain ⟨l, k, xs, rfl, rfl, hT, hne, hk, hz, q⟩ := h
  by_cases h2 : 2 ≤ k
  · refine op_repT pins s σ H _ _ v u Q I rx ry ⟨l, (k : Int), xs, rfl, rfl, SqT.of hT, hne, by omega, by omega, by omega, fun p np => q p _ (same_upd np) ?_⟩
    rw [upd_same]
    rfl
  · cases rx
    obtain ⟨t, rfl⟩ := ry
    obtain ⟨its, r, ⟨⟨cls, dd, data, sl⟩, ho, hc, n, hd⟩, hs⟩ := I.tuple (SqT.of hT)
    simp only at hc hd
    subst hc hd
    have hi : its.toArray.isEmpty = false := by
      cases its with
      | nil =>
        cases r
        exact absurd rfl hne
      | cons a b => rfl
    have two : k = 0 ∨ k = 1 := by omega
    rcases two with rfl | rfl
    · refine wpAny_binaryOp_repeat_ref (T := "tuple") (U := "int") (by decide) ⟨_, ho, rfl⟩ (fun s' => typeIs_int s' _ t) noFill_tuple_mul F.fills_int_mul F.slot_int_rmul repeat_tuple F.slot_int_index.lookup
        (call_meets F.slot_int_rmul (typeIs_int s _ t) F.entry_int_rmul (F.args_int_rmul_2 _ _) (int_rmul_tuple _ t l its.toArray n dd sl) ⟨ho, rfl, ⟨_, ho, rfl⟩, call_meets F.slot_tuple_mul ⟨_, ho, rfl⟩ F.entry_tuple_mul (F.args_tuple_mul_2 _ _) (tmul_nought l its.toArray n dd sl t hi) ⟨ho, ?_⟩⟩)
      have nf : H s.heap.objs.size = none := I.hok.fresh (Nat.le_refl _)
      refine ⟨.ref s.heap.objs.size, _, I.laid (t' := s.toks) (o := .tup []) (fun b ob z => Heap.get?_push_of_some _ z) (Nat.le_refl _) ?_, rfl, q _ _ (same_upd nf) upd_same⟩
      exact ⟨Nat.zero_le _, [], .nil, IsTup.new _ _⟩
    · refine wpAny_binaryOp_repeat_ref (T := "tuple") (U := "int") (by decide) ⟨_, ho, rfl⟩ (fun s' => typeIs_int s' _ t) noFill_tuple_mul F.fills_int_mul F.slot_int_rmul repeat_tuple F.slot_int_index.lookup
        (call_meets F.slot_int_rmul (typeIs_int s _ t) F.entry_int_rmul (F.args_int_rmul_2 _ _) (int_rmul_tuple _ t l its.toArray n dd sl) ⟨ho, rfl, ⟨_, ho, rfl⟩, call_meets F.slot_tuple_mul ⟨_, ho, rfl⟩ F.entry_tuple_mul (F.args_tuple_mul_2 _ _) (tmul_one l its.toArray n dd sl t) ⟨ho, ?_⟩⟩)
      exact ⟨.ref l, H, I, rfl, q l H (Same.refl H) (by rw [hT, List.replicate_one, List.flatten_cons, List.flatten_nil, List.append_nil])⟩
end
end Jg
namespace Jg
open PySem PySem.Spec PyProof.Rows L2
/-! ### written data -/
theorem pe_imp {X : Cx} {e : Expr} {t t' : TE} (h : PE X e t) (k : ∀ σ H Q, t' σ H Q → t σ H Q) : PE X e t' := ⟨fun pins s σ H Q I q => h.run pins s σ H Q I (k σ H Q q)⟩
theorem pa_imp {X : Cx} {es : List Expr} {t t' : TA} (h : PA X es t) (k : ∀ σ H Q, t' σ H Q → t σ H Q) : PA X es t' := ⟨fun pos pins s σ H Q I q => h.run pos pins s σ H Q I (k σ H Q q)⟩
def tLit (d : PyData) : TE := fun σ H Q => ∀ v H', Same H H' → (∀ D B, H D ≠ none → H B ≠ none → Dq D B H' v d) → Q v H'
def tLits (ds : List PyData) : TA := fun σ H Q => ∀ vs H', Same H H' → vs.length = ds.length → (∀ D B, H D ≠ none → H B ≠ none → DqAll D B H' vs ds) → Q vs H'
theorem Same.some {H H' : Hp} (s : Same H H') {a : Addr} (h : H a ≠ none) : H' a ≠ none := by
  cases e : H a with
  | none => exact absurd e h
  | some o =>
    rw [s a o e]
    exact fun z => nomatch z
section
variable {X : Cx} {pos : Pos}
theorem lit_int {i : Int} {j} : PE X (.Constant (.int i) j pos) (tLit (.int i)) := pe_imp pe_int fun σ H Q q => q (.int i) H (Same.refl H) fun _ _ _ _ => .int i
theorem lit_bl {b : Bool} {j} : PE X (.Constant (.bool b) j pos) (tLit (.bool b)) := pe_imp pe_bl fun σ H Q q => q (.bl b) H (Same.refl H) fun _ _ _ _ => .bl b
theorem lit_non {j} : PE X (.Constant .none j pos) (tLit .none) := pe_imp pe_non fun σ H Q q => q .non H (Same.refl H) fun _ _ _ _ => .non
theorem lit_str {x : Str} {j} : PE X (.Constant (.str x) j pos) (tLit (.str x)) := pe_imp pe_str fun σ H Q q => q (.str x) H (Same.refl H) fun _ _ _ _ => .str x
theorem lit_neg {i : Int} {j} {p : Pos} : PE X (.UnaryOp .USub (.Constant (.int i) j p) pos) (tLit (.int (-i))) := pe_imp (pe_un un_neg pe_int) fun σ H Q q => ⟨i, rfl, q (.int (-i)) H (Same.refl H) fun _ _ _ _ => .int (-i)⟩
theorem lit_pow {i j : Int} {a b} {p1 p2 : Pos} (h : CPow i j) : PE X (.BinOp (.Constant (.int i) a p1) .Pow (.Constant (.int j) b p2) pos) (tLit (.int (i ^ j.toNat))) := pe_imp (pe_op op_pow pe_int pe_int) fun σ H Q q => ⟨i, j, rfl, rfl, h, q _ H (Same.refl H) fun _ _ _ _ => .int _⟩
theorem lits_nil : PA X [] (tLits []) := pa_imp pa_nil fun σ H Q q => q [] H (Same.refl H) rfl fun _ _ _ _ => .nil
theorem lits_cons {e : Expr} {es : List Expr} {d : PyData} {ds : List PyData} (h : PE X e (tLit d)) (hr : PA X es (tLits ds)) (hs : starEach (e :: es) X.env = (false, eval e X.env) :: starEach es X.env := by rfl) : PA X (e :: es) (tLits (d :: ds)) :=
  pa_imp (pa_cons h hr hs) fun σ H Q q v H1 s1 h1 vs H2 s2 l2 h2 => q (v :: vs) H2 (s1.trans s2) (congrArg Nat.succ l2) fun D B nD nB => .cons ((h1 D B nD nB).same s2) (h2 D B (Same.some s1 nD) (Same.some s1 nB))
theorem lit_tup {es : List Expr} {ds : List PyData} {k} (h : PA X es (tLits ds)) (hz : Nat.ble ds.length 1000 = true := by rfl) : PE X (.Tuple es k pos) (tLit (.tuple ds)) :=
  pe_imp (pe_tup h) fun σ H Q q vs H1 s1 l1 h1 => ⟨by rw [l1]; exact sz1 hz, fun p np => q (.ref p) _ (s1.trans (same_upd np)) fun D B nD nB => .tup upd_same ((h1 D B nD nB).same (same_upd np))⟩
theorem lit_lst {es : List Expr} {ds : List PyData} (h : PA X es (tLits ds)) (hz : Nat.ble ds.length 1000 = true := by rfl) : PE X (.List es pos) (tLit (.list ds)) :=
  pe_imp (pe_lst h) fun σ H Q q vs H1 s1 l1 h1 => ⟨by rw [l1]; exact sz1 hz, fun p np => q (.ref p) _ (s1.trans (same_upd np)) fun D B nD nB =>
    .lst (fun z => Same.some s1 nD (by rw [← z]; exact np)) (fun z => Same.some s1 nB (by rw [← z]; exact np)) upd_same ((h1 D B nD nB).same (same_upd np))⟩
theorem lit_dct : PE X (.Dict [] [] pos) (tLit (.dict [])) := pe_imp pe_dnewK fun σ H Q q p np => q (.ref p) _ (same_upd np) fun _ _ _ _ => .dct upd_same
/-- a list display of written data, as a list -/
theorem lit_list {es : List Expr} {ds : List PyData} (h : PA X es (tLits ds)) (hz : Nat.ble ds.length 1000 = true := by rfl) :
    PE X (.List es pos) (fun σ H Q => ∀ p vs H', Same H H' → H p = none → H' p = some (.lst vs) → vs.length = ds.length → (∀ D B, H D ≠ none → H B ≠ none → DqAll D B H' vs ds) → Q (.ref p) H') :=
  pe_imp (pe_lst h) fun σ H Q q vs H1 s1 l1 h1 => ⟨by rw [l1]; exact sz1 hz, fun p np => q p vs _ (s1.trans (same_upd np)) (s1.free np) upd_same l1 fun D B nD nB => (h1 D B nD nB).same (same_upd np)⟩
end
def S (x : String) : Str := Str.ofString x
def odd1 : List PyData := [.none, .bool true, .bool false, .int 0, .int 1, .int 2, .int (-1), .int (10 ^ (30 : Int).toNat), .str (S ""), .str (S "0"), .str (S "in"), .tuple [], .list [], .dict [], .tuple [.int 0], .tuple [.int 1], .tuple [.int 0, .int 1], .tuple [.bool true, .int 0], .list [.int 0]]
def odd2 : List PyData := [.tuple [.str (S "in"), .int 0], .tuple [.str (S "set"), .int 1], .tuple [.str (S "neg"), .int 0], .tuple [.str (S "+"), .int 0, .int 0], .tuple [.str (S "*"), .int 0], .tuple [.str (S "in"), .bool true], .tuple [.str (S "+"), .int 0, .int (-1)], .tuple [.str (S "/"), .int 0, .int 0]]
def odd3 : List PyData := [.tuple [.none], .tuple [.int (-1)], .tuple [.int 1, .tuple [.tuple [.str (S "in"), .int 0]], .tuple [.int 0]], .tuple [.int 0, .tuple [], .tuple []], .tuple [.tuple [.int 0], .int 1], .tuple [.str (S "in")], .int 64, .int 65]
def oddD : List PyData := (odd1 ++ odd2) ++ odd3
abbrev sOdd : Stmt := topS 18
theorem scOdd : FnScope ["_law_deck_here", "_law_some"] ["_law_deck_here"] (defScope sOdd) := ⟨rfl, rfl, rfl, by decide +kernel, rfl, by decide +kernel, by decide +kernel⟩
theorem DeckAt.nD {D B C : Addr} {cells : List Int} {H : Hp} (d : DeckAt D B C cells H) : H D ≠ none := by
  obtain ⟨xs, h⟩ := d.isD
  rw [h]
  exact fun z => nomatch z
theorem DeckAt.nB {D B C : Addr} {cells : List Int} {H : Hp} (d : DeckAt D B C cells H) : H B ≠ none := by
  obtain ⟨xs, h⟩ := d.isB
  rw [h]
  exact fun z => nomatch z
theorem DeckAt.neD {D B C : Addr} {cells : List Int} {H : Hp} (d : DeckAt D B C cells H) {p : Addr} (h : H p = none) : p ≠ D := fun z => d.nD (by rw [← z]; exact h)
theorem DeckAt.neB {D B C : Addr} {cells : List Int} {H : Hp} (d : DeckAt D B C cells H) {p : Addr} (h : H p = none) : p ≠ B := fun z => d.nB (by rw [← z]; exact h)
mutual
/-- what lies at neither D nor B stays, said of any two others -/
theorem Dq.two {D B Z Y : Addr} {H H' : Hp} (hD : ∃ xs, H D = some (.lst xs)) (hB : ∃ xs, H B = some (.lst xs)) (f : Fr D B H H') : ∀ (d : PyData) (v : V), Dq D B H v d → Dq Z Y H v d → Dq Z Y H' v d
  | .none, _, _, h => by
    cases h
    exact .non
  | .bool _, _, _, h => by
    cases h
    exact .bl _
  | .int _, _, _, h => by
    cases h
    exact .int _
  | .str _, _, _, h => by
    cases h
    exact .str _
  | .list ds, _, k, h => by
    cases k with
    | lst k1 k2 k3 k4 =>
      cases h with
      | lst h1 h2 h3 h4 =>
        rw [k3] at h3
        cases h3
        exact .lst h1 h2 (f _ _ k1 k2 k3) (DqAll.two hD hB f ds _ k4 h4)
  | .tuple ds, _, k, h => by
    obtain ⟨xD, eD⟩ := hD
    obtain ⟨xB, eB⟩ := hB
    cases k with
    | tup k3 k4 =>
      cases h with
      | tup h3 h4 =>
        rw [k3] at h3
        cases h3
        refine .tup (f _ _ (fun z => ?_) (fun z => ?_) k3) (DqAll.two ⟨xD, eD⟩ ⟨xB, eB⟩ f ds _ k4 h4)
        · rw [z, eD] at k3
          cases k3
        · rw [z, eB] at k3
          cases k3
  | .dict ds, _, k, h => by
    obtain ⟨xD, eD⟩ := hD
    obtain ⟨xB, eB⟩ := hB
    cases h with
    | dct h3 =>
      refine .dct (f _ _ (fun z => ?_) (fun z => ?_) h3)
      · rw [z, eD] at h3
        cases h3
      · rw [z, eB] at h3
        cases h3
theorem DqAll.two {D B Z Y : Addr} {H H' : Hp} (hD : ∃ xs, H D = some (.lst xs)) (hB : ∃ xs, H B = some (.lst xs)) (f : Fr D B H H') : ∀ (ds : List PyData) (vs : List V), DqAll D B H vs ds → DqAll Z Y H vs ds → DqAll Z Y H' vs ds
  | [], _, _, h => by
    cases h
    exact .nil
  | d :: ds, _, k, h => by
    cases k with
    | cons k1 k2 =>
      cases h with
      | cons h1 h2 => exact .cons (Dq.two hD hB f d _ k1 h1) (DqAll.two hD hB f ds _ k2 h2)
end
theorem DeckAt.two {D B C Z Y : Addr} {cells : List Int} {H H' : Hp} {v : V} {d : PyData} (k : DeckAt D B C cells H) (f : Fr D B H H') (h : Dq D B H v d) (z : Dq Z Y H v d) : Dq Z Y H' v d := Dq.two k.isD k.isB f d v h z
theorem DeckAt.alive {D B C Z : Addr} {cells : List Int} {H H' : Hp} (k : DeckAt D B C cells H') (f : Fr D B H H') (h : H Z ≠ none) : H' Z ≠ none := by
  by_cases hD : Z = D
  · rw [hD]
    exact k.nD
  · by_cases hB : Z = B
    · rw [hB]
      exact k.nB
    · cases e : H Z with
      | none => exact absurd e h
      | some o =>
        rw [f Z o hD hB e]
        exact fun z => nomatch z
def spOdd : Sp := fun vs H Q _ => ∃ (D B C : Addr) (cells : List Int), vs = [.ref D] ∧ DeckAt D B C cells H ∧ ∀ (v : V) (d : PyData) (H' : Hp), d ∈ oddD → Dq D B H' v d → (∀ Z, H Z ≠ none → Dq Z Z H' v d) → DeckAt D B C cells H' → Fr D B H H' → Q v H'
section
variable {P : Program} {w : World} {K : PySem.W.Frag} {mg : Str → Option Value} {base : Heap}
theorem ok_odd {f fO fD : Addr} {fd fdO fdD : FuncData} (F : Fun K "_law_odd" "_law_odd" sOdd f fd) (FO : Fun K "_law_one" "_law_one" sOne fO fdO) (bO : Binds K fdO ["_law_deck_here", "_law_items"] []) (gO : mg "_law_one" = some (.ref fO))
    (FD : Fun K "_law_draw" "_law_draw" sDraw fD fdD) (bD : Binds K fdD ["_law_deck_here", "_law_many"] []) (gD : mg "_law_draw" = some (.ref fD)) (T : Bn mg) : FnOk P w K mg base CX0 3 f fd ["_law_deck_here"] spOdd := by
  have GO : FnOk P w K mg base CX0 2 fO fdO ["_law_deck_here", "_law_items"] spOne := ok_one FO FD bD gD T.int T.len
  refine F.ok scOdd (fun vs H Q E h => ?_) (fun cdv A outer s H vs Q E hr h => ?_)
  · obtain ⟨D, B, C, cells, rfl, _⟩ := h
    rfl
  · obtain ⟨D, B, C, cells, rfl, dk, q⟩ := h
    refine ⟨_, pss_cons (ps_set (i := 1) scOdd.nd rfl (.inl rfl) (lit_list (ds := odd1) (lits_cons lit_non (lits_cons lit_bl (lits_cons lit_bl (lits_cons lit_int (lits_cons lit_int (lits_cons lit_int (lits_cons lit_neg (lits_cons (lit_pow ⟨by decide, by decide, by decide⟩)
        (lits_cons lit_str (lits_cons lit_str (lits_cons lit_str (lits_cons (lit_tup lits_nil) (lits_cons (lit_lst lits_nil) (lits_cons lit_dct (lits_cons (lit_tup (lits_cons lit_int lits_nil)) (lits_cons (lit_tup (lits_cons lit_int lits_nil))
        (lits_cons (lit_tup (lits_cons lit_int (lits_cons lit_int lits_nil))) (lits_cons (lit_tup (lits_cons lit_bl (lits_cons lit_int lits_nil))) (lits_cons (lit_lst (lits_cons lit_int lits_nil)) lits_nil)))))))))))))))))))))
      (pss_cons (ps_set (i := 1) scOdd.nd rfl (.inl rfl) (pe_op op_cat (pv 1) (lit_list (ds := odd2) (lits_cons (lit_tup (lits_cons lit_str (lits_cons lit_int lits_nil))) (lits_cons (lit_tup (lits_cons lit_str (lits_cons lit_int lits_nil))) (lits_cons (lit_tup (lits_cons lit_str (lits_cons lit_int lits_nil)))
        (lits_cons (lit_tup (lits_cons lit_str (lits_cons lit_int (lits_cons lit_int lits_nil)))) (lits_cons (lit_tup (lits_cons lit_str (lits_cons lit_int lits_nil))) (lits_cons (lit_tup (lits_cons lit_str (lits_cons lit_bl lits_nil)))
        (lits_cons (lit_tup (lits_cons lit_str (lits_cons lit_int (lits_cons lit_neg lits_nil)))) (lits_cons (lit_tup (lits_cons lit_str (lits_cons lit_int (lits_cons lit_int lits_nil)))) lits_nil)))))))))))
      (pss_one (ps_ret (pe_call GO hr (by rfl) gO FO.kp bO .nil pass0 (pa_cons (pv 0) (pa_cons (pe_op op_cat (pv 1) (lit_list (ds := odd3) (lits_cons (lit_tup (lits_cons lit_non lits_nil)) (lits_cons (lit_tup (lits_cons lit_neg lits_nil))
        (lits_cons (lit_tup (lits_cons lit_int (lits_cons (lit_tup (lits_cons (lit_tup (lits_cons lit_str (lits_cons lit_int lits_nil))) lits_nil)) (lits_cons (lit_tup (lits_cons lit_int lits_nil)) lits_nil))))
        (lits_cons (lit_tup (lits_cons lit_int (lits_cons (lit_tup lits_nil) (lits_cons (lit_tup lits_nil) lits_nil)))) (lits_cons (lit_tup (lits_cons (lit_tup (lits_cons lit_int lits_nil)) (lits_cons lit_int lits_nil)))
        (lits_cons (lit_tup (lits_cons lit_str lits_nil)) (lits_cons lit_int (lits_cons lit_int lits_nil)))))))))) pa_nil)))))), ?_⟩
    intro p1 v1 H1 s1 n1 e1 l1 a1
    have A1 := a1 D B dk.nD dk.nB
    have dk1 := dk.same s1
    refine ⟨_, rfl, fun p2 v2 H2 s2 n2 e2 l2 a2 => ⟨p1, p2, v1, v2, rfl, rfl, s2 _ _ e1, e2, by rw [l1, l2]; exact sz1 (l := odd1 ++ odd2) rfl, fun p3 n3 => ?_⟩⟩
    have A2 := a2 D B dk1.nD dk1.nB
    have s3 := same_upd (o := .lst (v1 ++ v2)) n3
    have dk3 := (dk1.same s2).same s3
    refine ⟨_, rfl, _, rfl, fun p4 v4 H4 s4 n4 e4 l4 a4 => ⟨p3, p4, v1 ++ v2, v4, rfl, rfl, s4 _ _ upd_same, e4, by rw [List.length_append, l1, l2, l4]; exact sz1 (l := oddD) rfl, fun p5 n5 => ?_⟩⟩
    have A4 := a4 D B dk3.nD dk3.nB
    have s5 := same_upd (o := .lst ((v1 ++ v2) ++ v4)) n5
    have dk5 := (dk3.same s4).same s5
    have A5 : DqAll D B _ ((v1 ++ v2) ++ v4) oddD := DqAll.append (A4.same s5) (DqAll.append (((A2.same s3).same s4).same s5) ((((A1.same s2).same s3).same s4).same s5))
    have hl5 : ((v1 ++ v2) ++ v4).length = 35 := by rw [A5.len]; rfl
    refine ⟨D, B, C, cells, p5, _, rfl, dk5, upd_same, (dk3.same s4).neD n5, (dk3.same s4).neB n5, by rw [hl5]; decide, by rw [hl5]; decide, fun i v H' hv dk' f' => ?_⟩
    obtain ⟨d, hd, hq⟩ := A5.at_ i v hv
    refine q v d H' (List.mem_of_getElem? hd) (dk5.data f' hq) (fun Z nZ => ?_) dk' ((Fr.of_same (s1.trans (s2.trans (s3.trans (s4.trans s5))))).trans f')
    have z1 := Same.some s1 nZ
    have z3 := Same.some s3 (Same.some s2 z1)
    have A5Z : DqAll Z Z _ ((v1 ++ v2) ++ v4) oddD := DqAll.append ((a4 Z Z z3 z3).same s5) (DqAll.append ((((a2 Z Z z1 z1).same s3).same s4).same s5) (((((a1 Z Z nZ nZ).same s2).same s3).same s4).same s5))
    obtain ⟨d2, hd2, hq2⟩ := A5Z.at_ i v hv
    rw [hd] at hd2
    cases hd2
    exact dk5.two f' hq hq2
end
end Jg
namespace Jg
open PySem PySem.Spec PyProof.Rows L2
/-! ### how long what is shown may be -/
structure Ok (k c : Nat) (d : PyData) : Prop where
  sh : d.showable = true
  dp : d.depth ≤ k
  ln : d.shown.length ≤ c
theorem Ok.mono {k c k' c' : Nat} {d : PyData} (h : Ok k c d) (hk : k ≤ k') (hc : c ≤ c') : Ok k' c' d := ⟨h.sh, Nat.le_trans h.dp hk, Nat.le_trans h.ln hc⟩
theorem ok_all {k c : Nat} : ∀ {ds : List PyData}, (∀ d ∈ ds, Ok k c d) → PyData.showableAll ds = true ∧ PyData.depthAll ds ≤ k ∧ ((PyData.shownAll ds).map (·.length)).sum ≤ c * ds.length ∧ (PyData.shownAll ds).length = ds.length
  | [], _ => by simp [PyData.showableAll, PyData.depthAll, PyData.shownAll]
  | d :: ds, h => by
    have h1 := h d List.mem_cons_self
    obtain ⟨a, b, e, f⟩ := ok_all (ds := ds) fun x hx => h x (List.mem_cons_of_mem _ hx)
    refine ⟨?_, ?_, ?_, ?_⟩
    · simp only [PyData.showableAll, h1.sh, a, Bool.and_self]
    · simp only [PyData.depthAll]
      exact Nat.max_le.mpr ⟨h1.dp, b⟩
    · simp only [PyData.shownAll, List.map_cons, List.sum_cons, List.length_cons, Nat.mul_succ]
      have := h1.ln
      omega
    · simp only [PyData.shownAll, List.length_cons, f]
theorem ok_bound {k c n : Nat} {ds : List PyData} (h : ∀ d ∈ ds, Ok k c d) (hn : ds.length ≤ n) : ((PyData.shownAll ds).map (·.length)).sum + 2 * (PyData.shownAll ds).length + 3 ≤ n * (c + 2) + 3 := by
  obtain ⟨_, _, e, f⟩ := ok_all h
  rw [f]
  have h1 : c * ds.length ≤ c * n := Nat.mul_le_mul_left c hn
  have h2 : n * (c + 2) = c * n + 2 * n := by rw [Nat.mul_add, Nat.mul_comm n c, Nat.mul_comm n 2]
  omega
theorem ok_tup {k c n : Nat} {ds : List PyData} (h : ∀ d ∈ ds, Ok k c d) (hn : ds.length ≤ n) : Ok (k + 1) (n * (c + 2) + 3) (.tuple ds) := by
  obtain ⟨a, b, _, _⟩ := ok_all h
  refine ⟨by simpa only [PyData.showable] using a, by simp only [PyData.depth]; omega, ?_⟩
  simp only [PyData.shown]
  exact Nat.le_trans (tupleText_len_le _) (ok_bound h hn)
theorem ok_lst {k c n : Nat} {ds : List PyData} (h : ∀ d ∈ ds, Ok k c d) (hn : ds.length ≤ n) : Ok (k + 1) (n * (c + 2) + 3) (.list ds) := by
  obtain ⟨a, b, _, _⟩ := ok_all h
  refine ⟨by simpa only [PyData.showable] using a, by simp only [PyData.depth]; omega, ?_⟩
  simp only [PyData.shown]
  exact Nat.le_trans (listText_len_le _) (ok_bound h hn)
theorem ok_intW {i : Int} {k : Nat} (hk : 0 < k) (hk2 : k ≤ 1920) (h : i.natAbs < 2 ^ k) : Ok 0 (k + 1) (.int i) := by
  have hl : i.natAbs.log2 < k := PySem.Flt.log2_lt_of hk h
  refine ⟨?_, Nat.le_of_eq (by simp only [PyData.depth]), ?_⟩
  · simp only [PyData.showable]
    exact decide_eq_true (by omega)
  · simp only [PyData.shown]
    rw [PySem.ofString_length]
    exact int_text_length_le hk hl
theorem ok_int25 {i : Int} (h : i.natAbs < 10 ^ 25) : Ok 0 26 (.int i) := by
  have h2 : i.natAbs < 2 ^ 90 := Nat.lt_trans h (by decide)
  refine ⟨(ok_intW (k := 90) (by decide) (by decide) h2).sh, (ok_intW (k := 90) (by decide) (by decide) h2).dp, ?_⟩
  simp only [PyData.shown]
  rw [PySem.ofString_length]
  exact int_text_length_le10 (by decide) h
theorem ok_bl (b : Bool) : Ok 0 26 (.bool b) := by
  refine ⟨by simp only [PyData.showable], Nat.le_of_eq (by simp only [PyData.depth]), ?_⟩
  simp only [PyData.shown]
  cases b <;> decide
theorem ok_non : Ok 0 26 .none := by
  refine ⟨by simp only [PyData.showable], Nat.le_of_eq (by simp only [PyData.depth]), ?_⟩
  simp only [PyData.shown]
  decide
theorem ok_str {x : Str} (h : (reprText x).length ≤ 40) : Ok 0 40 (.str x) := by
  refine ⟨by simp only [PyData.showable], Nat.le_of_eq (by simp only [PyData.depth]), ?_⟩
  simp only [PyData.shown]
  exact h
theorem ok_dct : Ok 1 26 (.dict []) := by
  refine ⟨by simp only [PyData.showable, PyData.showableKv], by simp only [PyData.depth, PyData.depthKv]; decide, ?_⟩
  simp only [PyData.shown, PyData.shownKv]
  decide
/-- what a data is made of: its length, at most -/
def lens : PyData → Nat
  | .str x => (reprText x).length | .int _ => 40 | _ => 26
theorem odd_ok : ∀ d ∈ oddD, Ok 3 1197 d := by
  have i40 : ∀ i : Int, i.natAbs < 10 ^ 31 → Ok 0 40 (.int i) := fun i h => by
    have h2 : i.natAbs < 2 ^ 120 := Nat.lt_trans h (by decide)
    refine ⟨(ok_intW (k := 120) (by decide) (by decide) h2).sh, (ok_intW (k := 120) (by decide) (by decide) h2).dp, ?_⟩
    simp only [PyData.shown]
    rw [PySem.ofString_length]
    exact Nat.le_trans (int_text_length_le10 (k := 31) (by decide) h) (by decide)
  have b40 : ∀ b, Ok 0 40 (.bool b) := fun b => (ok_bl b).mono (Nat.le_refl _) (by decide)
  have n40 : Ok 0 40 .none := ok_non.mono (Nat.le_refl _) (by decide)
  have s40 : ∀ x : Str, (reprText x).length ≤ 40 → Ok 0 40 (.str x) := fun x h => ok_str h
  have t1 : ∀ ds : List PyData, (∀ d ∈ ds, Ok 0 40 d) → ds.length ≤ 3 → Ok 1 129 (.tuple ds) := fun ds h hl => ok_tup h hl
  have l1 : ∀ ds : List PyData, (∀ d ∈ ds, Ok 0 40 d) → ds.length ≤ 3 → Ok 1 129 (.list ds) := fun ds h hl => ok_lst h hl
  have t2 : ∀ ds : List PyData, (∀ d ∈ ds, Ok 1 129 d) → ds.length ≤ 3 → Ok 2 396 (.tuple ds) := fun ds h hl => ok_tup h hl
  have t3 : ∀ ds : List PyData, (∀ d ∈ ds, Ok 2 396 d) → ds.length ≤ 3 → Ok 3 1197 (.tuple ds) := fun ds h hl => ok_tup h hl
  have m1 : ∀ {d : PyData}, Ok 0 40 d → Ok 1 129 d := fun h => h.mono (by decide) (by decide)
  have m2 : ∀ {d : PyData}, Ok 1 129 d → Ok 2 396 d := fun h => h.mono (by decide) (by decide)
  have fin : ∀ {d : PyData} {k c : Nat}, Ok k c d → k ≤ 3 → c ≤ 1197 → Ok 3 1197 d := fun h a b => h.mono a b
  have all0 : ∀ {k c : Nat}, ∀ d ∈ ([] : List PyData), Ok k c d := fun _ h => nomatch h
  have cons : ∀ {k c : Nat} {d : PyData} {ds : List PyData}, Ok k c d → (∀ x ∈ ds, Ok k c x) → ∀ x ∈ d :: ds, Ok k c x := fun h1 h2 x hx => by
    rcases List.mem_cons.mp hx with rfl | hx
    · exact h1
    · exact h2 x hx
  have sOk : ∀ y : String, y ∈ ["", "0", "in", "set", "neg", "+", "*", "/"] → Ok 0 40 (.str (S y)) := fun y hy => by
    refine s40 _ ?_
    revert y
    decide +kernel
  have up : ∀ {ds : List PyData} {k c : Nat}, k ≤ 3 → c ≤ 1197 → (∀ d ∈ ds, Ok k c d) → ∀ d ∈ ds, Ok 3 1197 d := fun a b h d hd => (h d hd).mono a b
  have A1 : ∀ d ∈ odd1, Ok 2 396 d := by
    unfold odd1
    refine cons (m2 (m1 n40)) (cons (m2 (m1 (b40 _))) (cons (m2 (m1 (b40 _))) (cons (m2 (m1 (i40 _ (by decide)))) (cons (m2 (m1 (i40 _ (by decide)))) (cons (m2 (m1 (i40 _ (by decide)))) (cons (m2 (m1 (i40 _ (by decide)))) (cons (m2 (m1 (i40 _ (by decide)))) ?_)))))))
    refine cons (m2 (m1 (sOk _ (by decide)))) (cons (m2 (m1 (sOk _ (by decide)))) (cons (m2 (m1 (sOk _ (by decide)))) (cons (m2 (t1 _ all0 (by decide))) (cons (m2 (l1 _ all0 (by decide))) (cons (m2 (ok_dct.mono (by decide) (by decide))) ?_)))))
    exact cons (m2 (t1 _ (cons (i40 _ (by decide)) all0) (by decide))) (cons (m2 (t1 _ (cons (i40 _ (by decide)) all0) (by decide))) (cons (m2 (t1 _ (cons (i40 _ (by decide)) (cons (i40 _ (by decide)) all0)) (by decide))) (cons (m2 (t1 _ (cons (b40 _) (cons (i40 _ (by decide)) all0)) (by decide))) (cons (m2 (l1 _ (cons (i40 _ (by decide)) all0) (by decide))) all0))))
  have A2 : ∀ d ∈ odd2, Ok 1 129 d := by
    unfold odd2
    have I : ∀ i : Int, i.natAbs < 10 ^ 31 → Ok 0 40 (.int i) := i40
    exact cons (t1 _ (cons (sOk _ (by decide)) (cons (I _ (by decide)) all0)) (by decide)) (cons (t1 _ (cons (sOk _ (by decide)) (cons (I _ (by decide)) all0)) (by decide)) (cons (t1 _ (cons (sOk _ (by decide)) (cons (I _ (by decide)) all0)) (by decide)) (cons (t1 _ (cons (sOk _ (by decide)) (cons (I _ (by decide)) (cons (I _ (by decide)) all0))) (by decide))
      (cons (t1 _ (cons (sOk _ (by decide)) (cons (I _ (by decide)) all0)) (by decide)) (cons (t1 _ (cons (sOk _ (by decide)) (cons (b40 _) all0)) (by decide)) (cons (t1 _ (cons (sOk _ (by decide)) (cons (I _ (by decide)) (cons (I _ (by decide)) all0))) (by decide)) (cons (t1 _ (cons (sOk _ (by decide)) (cons (I _ (by decide)) (cons (I _ (by decide)) all0))) (by decide)) all0)))))))
  have A3 : ∀ d ∈ odd3, Ok 3 1197 d := by
    unfold odd3
    have I : ∀ i : Int, i.natAbs < 10 ^ 31 → Ok 0 40 (.int i) := i40
    have m3 : ∀ {d : PyData}, Ok 1 129 d → Ok 3 1197 d := fun h => h.mono (by decide) (by decide)
    refine cons (m3 (t1 _ (cons n40 all0) (by decide))) (cons (m3 (t1 _ (cons (I _ (by decide)) all0) (by decide))) (cons (t3 _ (cons (m2 (m1 (I _ (by decide)))) (cons (t2 _ (cons (t1 _ (cons (sOk _ (by decide)) (cons (I _ (by decide)) all0)) (by decide)) all0) (by decide)) (cons (m2 (t1 _ (cons (I _ (by decide)) all0) (by decide))) all0))) (by decide)) ?_))
    refine cons ((t2 _ (cons (m1 (I _ (by decide))) (cons (t1 _ all0 (by decide)) (cons (t1 _ all0 (by decide)) all0))) (by decide)).mono (by decide) (by decide)) (cons ((t2 _ (cons (t1 _ (cons (I _ (by decide)) all0) (by decide)) (cons (m1 (I _ (by decide))) all0)) (by decide)).mono (by decide) (by decide)) ?_)
    exact cons (m3 (t1 _ (cons (sOk _ (by decide)) all0) (by decide))) (cons (m3 (m1 (I _ (by decide)))) (cons (m3 (m1 (I _ (by decide)))) all0))
  intro d hd
  unfold oddD at hd
  rcases List.mem_append.mp hd with hd | hd
  · rcases List.mem_append.mp hd with hd | hd
    · exact up (by decide) (by decide) A1 d hd
    · exact up (by decide) (by decide) A2 d hd
  · exact up (by decide) (by decide) A3 d hd
end Jg
namespace Jg
open PySem PySem.Spec PyProof.Rows L2
/-! ### bent values -/
theorem cps_lt (s : String) : ∀ c ∈ (Str.ofString s).cps.toList, c < 16 ^ 8 := by
  intro c hc
  rw [Str.ofString_eq_toList] at hc
  simp at hc
  obtain ⟨a, _, rfl⟩ := hc
  exact a.val.toNat_lt
theorem ok_text {i : Int} (h : i.natAbs < 10 ^ 25) : Ok 3 1200 (.str (toString i)) := by
  refine ⟨by simp only [PyData.showable], by simp only [PyData.depth]; omega, ?_⟩
  simp only [PyData.shown]
  refine Nat.le_trans (PySem.StrLaws.reprText_len _ (cps_lt _)) ?_
  rw [PySem.ofString_length]
  have := int_text_length_le10 (k := 25) (by decide) h
  omega
/-- how wide a tuple may be, so many levels above the last -/
def wd : Nat → Nat
  | 1 => 8 | 2 => 8 | 3 => 2 | _ => 0
theorem wd_le : ∀ n, wd n ≤ 61
  | 0 => by decide | 1 => by decide | 2 => by decide | 3 => by decide | 4 => by decide | _ + 5 => Nat.zero_le _
def Leaf (d : PyData) : Prop := (∃ i : Int, d = .int i ∧ i.natAbs ≤ 10 ^ 20) ∨ (∃ x : Str, d = .str x ∧ (reprText x).length ≤ 40 ∧ PyData.strOk x = true)
def Plain : Nat → PyData → Prop
  | 0, d => Leaf d
  | n + 1, d => Leaf d ∨ ∃ ds, d = .tuple ds ∧ ds.length ≤ wd (n + 1) ∧ ∀ x ∈ ds, Plain n x
theorem Leaf.plain {d : PyData} (h : Leaf d) : ∀ n, Plain n d
  | 0 => h
  | _ + 1 => .inl h
theorem Leaf.no {d : PyData} (h : Leaf d) : isTu d = false := by
  rcases h with ⟨i, rfl, _⟩ | ⟨x, rfl, _⟩ <;> rfl
theorem plain_leaf : ∀ {n : Nat} {d : PyData}, Plain n d → isTu d = false → Leaf d
  | 0, _, h, _ => h
  | _ + 1, _, .inl h, _ => h
  | _ + 1, _, .inr ⟨_, e, _⟩, hb => by
    rw [e] at hb
    cases hb
theorem plain_no {d : PyData} (h : Plain 0 d) (hb : isTu d = true) : False := by
  rw [Leaf.no h] at hb
  cases hb
theorem plain_tup {n : Nat} {d : PyData} (h : Plain (n + 1) d) (hb : isTu d = true) : ∃ ds, d = .tuple ds ∧ ds.length ≤ wd (n + 1) ∧ ∀ x ∈ ds, Plain n x := by
  rcases h with h | h
  · rw [h.no] at hb
    cases hb
  · exact h
def cB : Nat → Nat
  | 0 => 1200 | n + 1 => (2 * wd (n + 1) + 1) * (cB n + 2) + 3
theorem cB_up (n : Nat) : cB n ≤ cB (n + 1) := by
  show cB n ≤ (2 * wd (n + 1) + 1) * (cB n + 2) + 3
  have h : 1 * (cB n + 2) ≤ (2 * wd (n + 1) + 1) * (cB n + 2) := Nat.mul_le_mul_right _ (by omega)
  omega
theorem cB_le : ∀ n, 1200 ≤ cB n
  | 0 => Nat.le_refl _
  | n + 1 => Nat.le_trans (cB_le n) (cB_up n)
theorem leaf_ok {d : PyData} (h : Leaf d) : Ok 3 1200 d := by
  rcases h with ⟨i, rfl, hi⟩ | ⟨x, rfl, hx⟩
  · exact (ok_int25 (Nat.lt_of_le_of_lt hi (by decide))).mono (by decide) (by decide)
  · exact (ok_str hx.1).mono (by decide) (by decide)
theorem plain_ok : ∀ (n : Nat) (d : PyData), Plain n d → Ok (3 + n) (cB n) d
  | 0, d, h => leaf_ok h
  | n + 1, d, h => by
    rcases h with h | ⟨ds, rfl, hl, hx⟩
    · exact (leaf_ok h).mono (by omega) (cB_le _)
    · exact ok_tup (fun x hm => plain_ok n x (hx x hm)) (Nat.le_trans hl (by omega))
theorem leaf_lay {d : PyData} (h : Leaf d) : d.canLay0 = true ∧ d.depth ≤ 0 := by
  rcases h with ⟨i, rfl, _⟩ | ⟨x, rfl, _, hs⟩
  · exact ⟨by simp only [PyData.canLay0], by simp only [PyData.depth]; exact Nat.le_refl _⟩
  · exact ⟨by simp only [PyData.canLay0]; exact hs, by simp only [PyData.depth]; exact Nat.le_refl _⟩
theorem plain_lay : ∀ (n : Nat) (d : PyData), Plain n d → d.canLay0 = true ∧ d.depth ≤ n
  | 0, d, h => leaf_lay h
  | n + 1, d, h => by
    rcases h with h | ⟨ds, rfl, hl, hx⟩
    · exact ⟨(leaf_lay h).1, Nat.le_trans (leaf_lay h).2 (Nat.zero_le _)⟩
    · have key : ∀ l : List PyData, (∀ x ∈ l, Plain n x) → PyData.canLayAll0 l = true ∧ PyData.depthAll l ≤ n := by
        intro l
        induction l with
        | nil => intro _; exact ⟨by simp only [PyData.canLayAll0], by simp only [PyData.depthAll]; omega⟩
        | cons y r ih =>
          intro hy
          obtain ⟨a, b⟩ := plain_lay n y (hy y List.mem_cons_self)
          obtain ⟨c, e⟩ := ih fun x hm => hy x (List.mem_cons_of_mem _ hm)
          exact ⟨by simp only [PyData.canLayAll0, a, c, Bool.and_self], by simp only [PyData.depthAll]; exact Nat.max_le.mpr ⟨b, e⟩⟩
      obtain ⟨a, b⟩ := key ds hx
      exact ⟨by simpa only [PyData.canLay0] using a, by simp only [PyData.depth]; omega⟩
theorem leaf_dp {K : PySem.W.Frag} {D B : Addr} {H : Hp} {d : PyData} {v : V} (h : Leaf d) (hd : Dq D B H v d) : Dp K H v d := by
  rcases h with ⟨i, rfl, _⟩ | ⟨x, rfl, _⟩
  · cases hd
    exact .int i
  · cases hd
    exact .str x
theorem leaf_any {D B Z Y : Addr} {H : Hp} {d : PyData} {v : V} (h : Leaf d) (hd : Dq D B H v d) : Dq Z Y H v d := by
  rcases h with ⟨i, rfl, _⟩ | ⟨x, rfl, _⟩
  · cases hd
    exact .int i
  · cases hd
    exact .str x
theorem plain_dp {K : PySem.W.Frag} {D B : Addr} {H : Hp} : ∀ (n : Nat) (d : PyData) (v : V), Plain n d → Dq D B H v d → Dp K H v d
  | 0, d, v, h, hd => leaf_dp h hd
  | n + 1, d, v, h, hd => by
    rcases h with h | ⟨ds, rfl, hl, hx⟩
    · exact leaf_dp h hd
    · obtain ⟨a, xs, rfl, e, ha⟩ := hd.tupE
      refine .tup (SqT.of e) ?_
      clear e hl hd
      induction ha using DqAll.rec (motive_1 := fun _ _ _ => True) with
      | nil => exact .nil
      | cons h1 h2 _ ih => exact .cons (plain_dp n _ _ (hx _ List.mem_cons_self) h1) (ih fun x hm => hx x (List.mem_cons_of_mem _ hm))
      | _ => trivial
theorem plain_any {D B Z Y : Addr} {H : Hp} : ∀ (n : Nat) (d : PyData) (v : V), Plain n d → Dq D B H v d → Dq Z Y H v d
  | 0, d, v, h, hd => leaf_any h hd
  | n + 1, d, v, h, hd => by
    rcases h with h | ⟨ds, rfl, hl, hx⟩
    · exact leaf_any h hd
    · obtain ⟨a, xs, rfl, e, ha⟩ := hd.tupE
      refine .tup e ?_
      clear e hl hd
      induction ha using DqAll.rec (motive_1 := fun _ _ _ => True) with
      | nil => exact .nil
      | cons h1 h2 _ ih => exact .cons (plain_any n _ _ (hx _ List.mem_cons_self) h1) (ih fun x hm => hx x (List.mem_cons_of_mem _ hm))
      | _ => trivial
theorem plain_anyAll {D B Z Y : Addr} {H : Hp} {n : Nat} : ∀ {xs : List V} {ds : List PyData}, (∀ x ∈ ds, Plain n x) → DqAll D B H xs ds → DqAll Z Y H xs ds
  | _, _, _, .nil => .nil
  | _, _, hx, .cons a b => .cons (plain_any n _ _ (hx _ List.mem_cons_self) a) (plain_anyAll (fun x hm => hx x (List.mem_cons_of_mem _ hm)) b)
theorem plain_shaped {n : Nat} {d : PyData} (h : Plain n d) (hn : n ≤ 64) : SeqAt.shaped d = true := by
  obtain ⟨a, b⟩ := plain_lay n d h
  show (d.canLay0 && decide (d.depth ≤ 64)) = true
  rw [a, decide_eq_true (Nat.le_trans b hn)]
  rfl
theorem eqv_empty (ds : List PyData) : PyData.eqv (.tuple ds) (.tuple []) = ds.isEmpty := by
  cases ds with
  | nil => simp [PyData.eqv, PyData.eqvAll]
  | cons d ds => simp [PyData.eqv, PyData.eqvAll]
theorem pt_imp {X : Cx} {e : Expr} {t t' : TT} (h : PT X e t) (k : ∀ σ H Q, t' σ H Q → t σ H Q) : PT X e t' := ⟨fun pins s σ H Q I q => h.run pins s σ H Q I (k σ H Q q)⟩
/-- the first test of a bent tuple -/
def tBent : TT := fun σ H Q => ∃ (D B C : Addr) (cells : List Int) (v : V) (d : PyData) (n : Nat), σ[0]? = some (some (.ref D)) ∧ σ[1]? = some (some v) ∧ σ[2]? = some (some (.int (n : Int))) ∧ DeckAt D B C cells H ∧ Dq D B H v d ∧ Plain n d ∧ n ≤ 60 ∧
  (∀ H2, DeckAt D B C cells H2 → Fr D B H H2 → isTu d = true → 0 < n → d ≠ .tuple [] → Q true H2) ∧ (∀ H2, DeckAt D B C cells H2 → Fr D B H H2 → Q false H2)
abbrev sBent : Stmt := topS 19
abbrev nBent : List Str := ["_law_deck_here", "_law_value", "_law_deep", "_law_at", "_law_near", "_law_some"]
theorem scBent : FnScope nBent ["_law_deck_here", "_law_value", "_law_deep"] (defScope sBent) := ⟨rfl, rfl, rfl, by decide +kernel, rfl, by decide +kernel, by decide +kernel⟩
theorem boot_list' : bootBuiltins "list" = some (.type "list") := by decide +kernel
theorem boot_str' : bootBuiltins "str" = some (.type "str") := by decide +kernel
structure Od (K : PySem.W.Frag) (mg : Str → Option Value) (f : Addr) (fd : FuncData) : Prop where
  F : Fun K "_law_odd" "_law_odd" sOdd f fd
  b : Binds K fd ["_law_deck_here"] []
  g : mg "_law_odd" = some (.ref f)
def spB : Nat → Sp
  | 0 => fun _ _ _ _ => False
  | n + 1 => fun vs H Q _ => ∃ (D B C : Addr) (cells : List Int) (v : V) (d : PyData), vs = [.ref D, v, .int (n : Int)] ∧ DeckAt D B C cells H ∧ Dq D B H v d ∧ Plain n d ∧
    ∀ (v' : V) (d' : PyData) (H' : Hp), Ok (3 + n) (cB n) d' → Dq D B H' v' d' → (∀ Z, H Z ≠ none → Dq Z Z H' v' d') → DeckAt D B C cells H' → Fr D B H H' → Q v' H'
theorem cut_data {D B : Addr} {H : Hp} {xs : List V} {ds : List PyData} (h : DqAll D B H xs ds) (lo hi : Option Int) : ∃ es, DqAll D B H (cutV xs lo hi) es ∧ (∀ e ∈ es, e ∈ ds) ∧ es.length ≤ ds.length := by
  unfold cutV
  refine ⟨(ds.drop _).take _, (h.drop _).take _, fun e he => List.mem_of_mem_drop (List.mem_of_mem_take he), ?_⟩
  rw [List.length_take, List.length_drop]
  omega
theorem DqAll.rev {D B : Addr} {H : Hp} : ∀ {xs : List V} {ds : List PyData}, DqAll D B H xs ds → DqAll D B H xs.reverse ds.reverse
  | _, _, .nil => .nil
  | _, _, .cons a b => by
    rw [List.reverse_cons, List.reverse_cons]
    exact DqAll.append (.cons a .nil) b.rev
section
variable {P : Program} {w : World} {K : PySem.W.Frag} {mg : Str → Option Value} {base : Heap}
theorem ok_bent {f fO fD fd' : Addr} {k n : Nat} {fd fdO fdD fdd : FuncData} (hk : 3 ≤ k) (hn : n ≤ 60) (F : Fun K "_law_bent" "_law_bent" sBent f fd) (bB : Binds K fd ["_law_deck_here", "_law_value", "_law_deep"] []) (gB : mg "_law_bent" = some (.ref f))
    (GB : FnOk P w K mg base CX0 k f fd ["_law_deck_here", "_law_value", "_law_deep"] (spB n)) (FX : Od K mg fd' fdd) (FO : On K mg fO fdO) (FD : Dr K mg fD fdD) (T : Bn mg) :
    FnOk P w K mg base CX0 (k + 1) f fd ["_law_deck_here", "_law_value", "_law_deep"] (spB (n + 1)) := by
  have GD : FnOk P w K mg base CX0 1 fD fdD ["_law_deck_here", "_law_many"] spDraw := ok_draw FD.F T.int T.len
  have GO : FnOk P w K mg base CX0 2 fO fdO ["_law_deck_here", "_law_items"] spOne := ok_one FO.F FD.F FD.b FD.g T.int T.len
  have GX : FnOk P w K mg base CX0 3 fd' fdd ["_law_deck_here"] spOdd := ok_odd FX.F FO.F FO.b FO.g FD.F FD.b FD.g T
  refine F.ok scBent (fun vs H Q E h => ?_) (fun cdv A outer s H vs Q E hr h => ?_)
  · obtain ⟨D, B, C, cells, v, d, rfl, _⟩ := h
    rfl
  · obtain ⟨D, B, C, cells, v, d, rfl, dk, hd, hp, q⟩ := h
    have hr1 : Room 1 _ := hr.mono (by omega)
    have hr2 : Room 2 _ := hr.mono (by omega)
    have hr3 : Room 3 _ := hr.mono hk
    have hu := hr.units
    refine ⟨_, pss_cons (ps_if (pt_imp (t' := tBent) (PW.pt (pw_and (pt_val (pe_callB call_isi (by rfl) T.isi PyProof.Rows.boot_isinstance (pa_cons (pv 1) (pa_cons (pe_bltn (by rfl) T.tup boot_tuple' (v := .ty "tuple") rfl) pa_nil))))
          (pw_and (pt_cmpR (op_neD hu) (pv 1) (pe_tup pa_nil) (nomark _)) (pw_and (pt_cmpR op_gt (pv 2) pe_int (nomark _))
            (pw_and1 (pt_cmpR op_gt (pe_call GD hr1 (by rfl) FD.g FD.F.kp FD.b .nil pass0 (pa_cons (pv 0) (pa_cons pe_int pa_nil))) pe_int (nomark _))))))) ?_)
        (pss_cons (ps_set (i := 3) scBent.nd rfl (.inl rfl) (pe_call GD hr1 (by rfl) FD.g FD.F.kp FD.b .nil pass0 (pa_cons (pv 0) (pa_cons (pe_callB call_len_seq (by rfl) T.len PySem.boot_len (pa_cons (pv 1) pa_nil)) pa_nil))))
        (pss_one (ps_ret (pe_op op_catA (pe_op op_catA (pe_slice sl_tupA (pv 1) po_none (po_some (pv 3)))
          (pe_tup (pa_cons (pe_call GB hr (by rfl) gB F.kp bB .nil pass0 (pa_cons (pv 0) (pa_cons (pe_ix ix_tup (pv 1) (pv 3) (fun _ _ => rfl)) (pa_cons (pe_op op_sub (pv 2) pe_int) pa_nil)))) pa_nil)))
          (pe_slice sl_tupA (pv 1) (po_some (pe_op op_add (pv 3) pe_int)) po_none))))) pss_nil)
      (pss_cons (ps_if (pt_not (pt_val (pe_callB call_isi (by rfl) T.isi PyProof.Rows.boot_isinstance (pa_cons (pv 1) (pa_cons (pe_bltn (by rfl) T.tup boot_tuple' (v := .ty "tuple") rfl) pa_nil)))))
        (pss_cons (ps_set (i := 4) scBent.nd rfl (.inl rfl) (pe_ifExp (pt_val (pe_callB call_isi (by rfl) T.isi PyProof.Rows.boot_isinstance (pa_cons (pv 1) (pa_cons (pe_bltn (by rfl) T.int PyProof.Rows.boot_int (v := .ty "int") rfl) pa_nil))))
          (pe_lst (pa_cons (pe_op op_add (pv 1) pe_int) (pa_cons (pe_op op_sub (pv 1) pe_int) (pa_cons (pe_op op_sub pe_int (pv 1)) (pa_cons (pe_callTy call_bool1 (by rfl) T.bool boot_bool' (pa_cons (pv 1) pa_nil))
            (pa_cons (pe_callTy call_str_int (by rfl) T.str boot_str' (pa_cons (pv 1) pa_nil)) pa_nil)))))) (pe_lst pa_nil)))
        (pss_one (ps_ret (pe_call GO hr2 (by rfl) FO.g FO.F.kp FO.b .nil pass0 (pa_cons (pv 0) (pa_cons (pe_op op_cat (pv 4) (pe_lst (pa_cons (pe_call GX hr3 (by rfl) FX.g FX.F.kp FX.b .nil pass0 (pa_cons (pv 0) pa_nil))
          (pa_cons (pe_call GX hr3 (by rfl) FX.g FX.F.kp FX.b .nil pass0 (pa_cons (pv 0) pa_nil)) pa_nil)))) pa_nil)))))) pss_nil)
      (pss_cons (ps_set (i := 3) scBent.nd rfl (.inl rfl) (pe_call GD hr1 (by rfl) FD.g FD.F.kp FD.b .nil pass0 (pa_cons (pv 0) (pa_cons (pe_op op_add (pe_callB call_len_seq (by rfl) T.len PySem.boot_len (pa_cons (pv 1) pa_nil)) pe_int) pa_nil))))
      (pss_cons (ps_set (i := 5) scBent.nd rfl (.inl rfl) (pe_lst (pa_cons (pe_call GX hr3 (by rfl) FX.g FX.F.kp FX.b .nil pass0 (pa_cons (pv 0) pa_nil))
        (pa_cons (pe_slice sl_tupA (pv 1) (po_some pe_int) po_none) (pa_cons (pe_slice sl_tupA (pv 1) po_none (po_some (pe_un un_neg pe_int))) (pa_cons (pe_revT (pv 1)) (pa_cons (pe_callTy call_list_of (by rfl) T.lst boot_list' (pa_cons (pv 1) pa_nil))
        (pa_cons (pe_op op_catA (pv 1) (pe_slice sl_tupA (pv 1) (po_some (pe_un un_neg pe_int)) po_none)) pa_nil))))))))
      (pss_one (ps_ret (pe_call GO hr2 (by rfl) FO.g FO.F.kp FO.b .nil pass0 (pa_cons (pv 0) (pa_cons (pe_op op_cat (pv 5) (pe_lst (pa_cons (pe_op op_catA (pe_op op_catA (pe_slice sl_tupA (pv 1) po_none (po_some (pv 3)))
          (pe_tup (pa_cons (pe_call GX hr3 (by rfl) FX.g FX.F.kp FX.b .nil pass0 (pa_cons (pv 0) pa_nil)) pa_nil))) (pe_slice sl_tupA (pv 1) (po_some (pv 3)) po_none))
        (pa_cons (pe_op op_catA (pe_slice sl_tupA (pv 1) po_none (po_some (pv 3))) (pe_slice sl_tupA (pv 1) (po_some (pe_op op_add (pv 3) pe_int)) po_none)) pa_nil)))) pa_nil)))))))), ?_⟩
    case refine_2.refine_1 =>
      intro σ H0 R ht
      obtain ⟨D, B, C, cells, v, d, m, g0, g1, g2, dk, hd, hp, hm, qt, qf⟩ := ht
      refine ⟨v, g1, v, .ty "tuple", _, _, _, rfl, .ty "tuple", hd.ty, kTup d, _, rfl, ?_⟩
      cases hb : isTu d with
      | false => exact iteF (qf H0 dk (Fr.refl D B H0))
      | true =>
        cases m with
        | zero => exact (plain_no hp hb).elim
        | succ m =>
          obtain ⟨ds, rfl, hl, hx⟩ := plain_tup hp hb
          refine iteT ⟨v, g1, Nat.zero_le _, fun e ne => ?_⟩
          have s1 := same_upd (o := .tup []) ne
          refine ⟨.tuple ds, .tuple [], plain_dp (m + 1) _ _ hp (hd.same s1), .tup (SqT.of upd_same) .nil, plain_shaped hp (by omega), by decide, _, rfl, ?_⟩
          rw [eqv_empty]
          cases ds with
          | nil => exact iteF (qf _ (dk.same s1) (Fr.of_same s1))
          | cons d0 dr =>
            refine iteT ⟨_, g2, _, _, rfl, rfl, _, rfl, ?_⟩
            rw [decide_eq_true (show (0 : Int) < ((m + 1 : Nat) : Int) by omega)]
            refine iteT ⟨_, g0, D, B, C, cells, 4, rfl, dk.same s1, by decide, by decide, fun j H3 j0 j1 dk3 f3 => ⟨_, _, rfl, rfl, _, rfl, ?_⟩⟩
            have f13 := (Fr.of_same (D := D) (B := B) s1).trans f3
            by_cases hj : (0 : Int) < j
            · rw [decide_eq_true hj]
              exact qt H3 dk3 f13 rfl (by omega) (fun z => by cases z)
            · rw [decide_eq_false hj]
              exact qf H3 dk3 f13
    refine ⟨D, B, C, cells, v, d, n, rfl, rfl, rfl, dk, hd, hp, hn, fun H2 dk2 f2 hb h0 hne => iteT ?_, fun H2 dk2 f2 => iteF ?_⟩
    · -- one item bent
      cases n with
      | zero => exact absurd h0 (Nat.lt_irrefl 0)
      | succ m =>
        obtain ⟨ds, rfl, hl, hx⟩ := plain_tup hp hb
        have hw := wd_le (m + 1)
        obtain ⟨a, xs, rfl, e2, ha2⟩ := (dk.data f2 hd).tupE
        have hlx : xs.length = ds.length := ha2.len
        have hl0 : 0 < ds.length := by
          cases ds with
          | nil => exact absurd rfl hne
          | cons _ _ => exact Nat.succ_pos _
        have tD : ∀ {G : Hp} {zs : List V} {b : Addr}, DeckAt D B C cells G → G b = some (.tup zs) → b ≠ D ∧ b ≠ B := fun {G zs b} k e => by
          obtain ⟨x1, g1⟩ := k.isD
          obtain ⟨x2, g2⟩ := k.isB
          exact ⟨(fun z => by rw [z, g1] at e; cases e), (fun z => by rw [z, g2] at e; cases e)⟩
        refine ⟨_, rfl, _, rfl, a, xs, rfl, .inr (SqT.of e2), D, B, C, cells, _, rfl, dk2, by omega, by omega, fun at_ H3 at0 at1 dk3 f3 => ?_⟩
        obtain ⟨j, rfl⟩ : ∃ j : Nat, at_ = (j : Int) := ⟨at_.toNat, by omega⟩
        have hj : j < xs.length := by omega
        have e3 := f3 _ _ (tD dk2 e2).1 (tD dk2 e2).2 e2
        have ha3 := dk2.dataAll f3 ha2
        refine ⟨_, rfl, _, rfl, _, rfl, sl_read e3 fun c1 H4 s4 g4 => ?_⟩
        have dk4 := dk3.same s4
        have e4 := s4 _ _ e3
        have ha4 := ha3.same s4
        obtain ⟨dj, hdj, qj⟩ := ha4.at_ j xs[j] (List.getElem?_eq_getElem hj)
        refine ⟨_, rfl, _, rfl, _, rfl, a, xs, _, _, rfl, rfl, SqT.of e4, atI_nat (List.getElem?_eq_getElem hj), _, rfl, _, _, rfl, rfl, D, B, C, cells, xs[j], dj, ?_, dk4, qj, hx _ (List.mem_of_getElem? hdj), fun v5 d5 H5 o5 q5 z5 dk5 f5 => ?_⟩
        · show [V.ref D, xs[j], V.int (((m + 1 : Nat) : Int) - 1)] = [V.ref D, xs[j], V.int (m : Int)]
          rw [show (((m + 1 : Nat) : Int) - 1) = (m : Int) by omega]
        have e5 := f5 _ _ (tD dk4 e4).1 (tD dk4 e4).2 e4
        have g5 := f5 _ _ (tD dk4 g4).1 (tD dk4 g4).2 g4
        have ha5 := dk4.dataAll f5 ha4
        obtain ⟨es1, hes1, mem1, len1⟩ := cut_data ha5 none (some (j : Int))
        refine ⟨sz1 rfl, fun t nt => ?_⟩
        have s6 := same_upd (o := .tup [v5]) nt
        refine cat_read (s6 _ _ g5) upd_same (by rw [hes1.len]; show _ + 1 ≤ 1000; omega) fun c7 H7 s7 g7 => ?_
        have s57 := s6.trans s7
        refine ⟨_, rfl, _, rfl, _, _, rfl, rfl, _, rfl, ?_⟩
        dsimp only [tNoPart]
        refine sl_read (s57 _ _ e5) fun c8 H8 s8 g8 => ?_
        have s58 := s57.trans s8
        obtain ⟨es2, hes2, mem2, len2⟩ := cut_data (ha5.same s58) (some ((j : Int) + 1)) none
        refine cat_read (s8 _ _ g7) g8 (by rw [List.length_append, hes1.len, hes2.len]; show _ + 1 + _ ≤ 1000; omega) fun c9 H9 s9 g9 => ?_
        have s59 := s58.trans s9
        refine q (.ref c9) (.tuple ((es1 ++ [d5]) ++ es2)) H9 ?_ (.tup g9 (DqAll.append (hes2.same s9) (DqAll.append (.cons (q5.same s59) .nil) (hes1.same s59)))) (fun Z nZ => .tup g9 (DqAll.append ((plain_anyAll (fun x hm => hx x (mem2 x hm)) hes2).same s9) (DqAll.append (.cons ((z5 Z (Same.some s4 (dk3.alive f3 (dk2.alive f2 nZ)))).same s59) .nil) ((plain_anyAll (fun x hm => hx x (mem1 x hm)) hes1).same s59)))) (dk5.same s59) ((f2.trans (f3.trans (Fr.of_same s4))).trans (f5.trans (Fr.of_same s59)))
        refine ok_tup (n := 2 * wd (m + 1) + 1) (fun x hm => ?_) (by rw [List.length_append, List.length_append]; show es1.length + 1 + es2.length ≤ 2 * wd (m + 1) + 1; omega)
        rcases List.mem_append.mp hm with hm | hm
        · rcases List.mem_append.mp hm with hm | hm
          · exact plain_ok m x (hx x (mem1 x hm))
          · rw [List.mem_singleton.mp hm]
            exact o5
        · exact plain_ok m x (hx x (mem2 x hm))
    · have hd2 := dk.data f2 hd
      refine ⟨v, rfl, v, .ty "tuple", _, _, _, rfl, .ty "tuple", hd2.ty, kTup d, _, rfl, ?_⟩
      cases hb : isTu d with
      | false =>
        rcases plain_leaf hp hb with ⟨i, rfl, hi⟩ | ⟨x, rfl, hxl⟩
        · cases hd2.intE
          have oki := ok_int25 (i := i) (Nat.lt_of_le_of_lt hi (by decide))
          have hlog : i.natAbs.log2 < 1920 := by
            have h1 := oki.sh
            simp only [PyData.showable] at h1
            exact of_decide_eq_true h1
          refine iteT ⟨_, rfl, _, .ty "int", _, _, _, rfl, .ty "int", hd2.ty, kInt (.int i), _, rfl, iteT ⟨_, rfl, _, _, rfl, rfl, _, rfl, _, _, rfl, rfl, _, rfl, _, _, rfl, rfl, _, rfl, .inl ⟨i, rfl, _, rfl, i, rfl, hlog, sz1 rfl, fun L nL => ?_⟩⟩⟩
          have s3 := same_upd (o := .lst [.int (i + 1), .int (i - 1), .int (0 - i), .bl (i != 0), .str (toString i)]) nL
          have dk3 := dk2.same s3
          have nLD := dk2.neD nL
          have nLB := dk2.neB nL
          refine ⟨_, rfl, _, rfl, _, rfl, D, B, C, cells, rfl, dk3, fun v1 d1 H4 m1 q1 z1 dk4 f4 => ⟨_, rfl, D, B, C, cells, rfl, dk4, fun v2 d2 H5 m2 q2 z2 dk5 f5 => ⟨sz1 rfl, fun L2 nL2 => ?_⟩⟩⟩
          have s6 := same_upd (o := .lst [v1, v2]) nL2
          have eL := s6 _ _ (f5 _ _ nLD nLB (f4 _ _ nLD nLB upd_same))
          refine ⟨L, L2, _, _, rfl, rfl, eL, upd_same, sz1 (l := [(0 : Nat), 0, 0, 0, 0, 0, 0]) rfl, fun p np => ?_⟩
          have s7 := same_upd (o := .lst ([.int (i + 1), .int (i - 1), .int (0 - i), .bl (i != 0), .str (toString i)] ++ [v1, v2])) np
          have dk6 := dk5.same s6
          have all : DqAll D B _ ([.int (i + 1), .int (i - 1), .int (0 - i), .bl (i != 0), .str (toString i)] ++ [v1, v2]) ([.int (i + 1), .int (i - 1), .int (0 - i), .bool (i != 0), .str (toString i), d1, d2]) :=
            .cons (.int _) (.cons (.int _) (.cons (.int _) (.cons (.bl _) (.cons (.str _) (.cons (((dk4.data f5 q1).same s6).same s7) (.cons ((q2.same s6).same s7) .nil))))))
          refine ⟨D, B, C, cells, p, _, rfl, dk6.same s7, upd_same, dk6.neD np, dk6.neB np, by show 0 < 7; decide, by show 7 < 1073741824; decide, fun j v8 H8 hv dk8 f8 => ?_⟩
          obtain ⟨d8, hd8, q8⟩ := all.at_ j v8 hv
          refine q v8 d8 H8 ?_ ((dk6.same s7).data f8 q8) (fun Z nZ => ?_) dk8 (f2.trans ((Fr.of_same s3).trans (f4.trans (f5.trans ((Fr.of_same s6).trans ((Fr.of_same s7).trans f8))))))
          rotate_left
          · have nZ3 := Same.some s3 (dk2.alive f2 nZ)
            have allZ : DqAll Z Z (upd (upd H5 L2 (.lst [v1, v2])) p (.lst ([.int (i + 1), .int (i - 1), .int (0 - i), .bl (i != 0), .str (toString i)] ++ [v1, v2]))) ([.int (i + 1), .int (i - 1), .int (0 - i), .bl (i != 0), .str (toString i)] ++ [v1, v2]) ([.int (i + 1), .int (i - 1), .int (0 - i), .bool (i != 0), .str (toString i), d1, d2]) :=
              .cons (.int _) (.cons (.int _) (.cons (.int _) (.cons (.bl _) (.cons (.str _) (.cons (((dk4.two f5 q1 (z1 Z nZ3)).same s6).same s7) (.cons (((z2 Z (dk4.alive f4 nZ3)).same s6).same s7) .nil))))))
            obtain ⟨d9, hd9, q9⟩ := allZ.at_ j v8 hv
            rw [hd8] at hd9
            cases hd9
            exact (dk6.same s7).two f8 q8 q9
          have up : ∀ {x : PyData}, Ok 3 1200 x → Ok (3 + n) (cB n) x := fun h => h.mono (by omega) (cB_le n)
          have hint : ∀ z : Int, z.natAbs ≤ 10 ^ 20 + 1 → Ok 3 1200 (.int z) := fun z hz => (ok_int25 (Nat.lt_of_le_of_lt hz (by decide))).mono (by decide) (by decide)
          have hodd : ∀ x ∈ oddD, Ok 3 1200 x := fun x hx => (odd_ok x hx).mono (Nat.le_refl _) (by decide)
          match j, hd8 with
          | 0, h => exact by obtain rfl := Option.some.inj h; exact up (hint _ (by omega))
          | 1, h => exact by obtain rfl := Option.some.inj h; exact up (hint _ (by omega))
          | 2, h => exact by obtain rfl := Option.some.inj h; exact up (hint _ (by omega))
          | 3, h => exact by obtain rfl := Option.some.inj h; exact up ((ok_bl _).mono (by decide) (by decide))
          | 4, h => exact by obtain rfl := Option.some.inj h; exact up (ok_text (Nat.lt_of_le_of_lt hi (by decide)))
          | 5, h => exact by obtain rfl := Option.some.inj h; exact up (hodd _ m1)
          | 6, h => exact by obtain rfl := Option.some.inj h; exact up (hodd _ m2)
          | j + 7, h => cases h
        · refine iteT ⟨_, rfl, _, .ty "int", _, _, _, rfl, .ty "int", hd2.ty, kInt (.str x), _, rfl, iteF ⟨sz1 rfl, fun L nL => ?_⟩⟩
          have s3 := same_upd (o := .lst []) nL
          have dk3 := dk2.same s3
          have nLD := dk2.neD nL
          have nLB := dk2.neB nL
          refine ⟨_, rfl, _, rfl, _, rfl, D, B, C, cells, rfl, dk3, fun v1 d1 H4 m1 q1 z1 dk4 f4 => ⟨_, rfl, D, B, C, cells, rfl, dk4, fun v2 d2 H5 m2 q2 z2 dk5 f5 => ⟨sz1 rfl, fun L2 nL2 => ?_⟩⟩⟩
          have s6 := same_upd (o := .lst [v1, v2]) nL2
          have eL := s6 _ _ (f5 _ _ nLD nLB (f4 _ _ nLD nLB upd_same))
          refine ⟨L, L2, _, _, rfl, rfl, eL, upd_same, sz1 (l := [(0 : Nat), 0]) rfl, fun p np => ?_⟩
          have s7 := same_upd (o := .lst ([] ++ [v1, v2])) np
          have dk6 := dk5.same s6
          have all : DqAll D B _ ([] ++ [v1, v2]) ([d1, d2]) := .cons (((dk4.data f5 q1).same s6).same s7) (.cons ((q2.same s6).same s7) .nil)
          refine ⟨D, B, C, cells, p, _, rfl, dk6.same s7, upd_same, dk6.neD np, dk6.neB np, by show 0 < 2; decide, by show 2 < 1073741824; decide, fun j v8 H8 hv dk8 f8 => ?_⟩
          obtain ⟨d8, hd8, q8⟩ := all.at_ j v8 hv
          refine q v8 d8 H8 ?_ ((dk6.same s7).data f8 q8) (fun Z nZ => ?_) dk8 (f2.trans ((Fr.of_same s3).trans (f4.trans (f5.trans ((Fr.of_same s6).trans ((Fr.of_same s7).trans f8))))))
          rotate_left
          · have nZ3 := Same.some s3 (dk2.alive f2 nZ)
            have allZ : DqAll Z Z (upd (upd H5 L2 (.lst [v1, v2])) p (.lst ([] ++ [v1, v2]))) ([] ++ [v1, v2]) ([d1, d2]) :=
              .cons (((dk4.two f5 q1 (z1 Z nZ3)).same s6).same s7) (.cons (((z2 Z (dk4.alive f4 nZ3)).same s6).same s7) .nil)
            obtain ⟨d9, hd9, q9⟩ := allZ.at_ j v8 hv
            rw [hd8] at hd9
            cases hd9
            exact (dk6.same s7).two f8 q8 q9
          have hodd : ∀ x ∈ oddD, Ok (3 + n) (cB n) x := fun x hx => (odd_ok x hx).mono (by omega) (Nat.le_trans (by decide) (cB_le n))
          match j, hd8 with
          | 0, h => exact Option.some.inj h ▸ hodd _ m1
          | 1, h => exact Option.some.inj h ▸ hodd _ m2
          | j + 2, h => cases h
      | true =>
        cases n with
        | zero => exact (plain_no hp hb).elim
        | succ m =>
          obtain ⟨ds, rfl, hl, hx⟩ := plain_tup hp hb
          have hw := wd_le (m + 1)
          obtain ⟨a, xs, rfl, e2, ha2⟩ := hd2.tupE
          have hlx : xs.length = ds.length := ha2.len
          have tD : ∀ {G : Hp} {zs : List V} {b : Addr}, DeckAt D B C cells G → G b = some (.tup zs) → b ≠ D ∧ b ≠ B := fun {G zs b} k e => by
            obtain ⟨x1, g1⟩ := k.isD
            obtain ⟨x2, g2⟩ := k.isB
            exact ⟨(fun z => by rw [z, g1] at e; cases e), (fun z => by rw [z, g2] at e; cases e)⟩
          have itemOk : ∀ x, x ∈ ds ∨ x ∈ oddD → Ok (3 + m) (cB m) x := fun x hm => by
            rcases hm with hm | hm
            · exact plain_ok m x (hx x hm)
            · exact (odd_ok x hm).mono (by omega) (Nat.le_trans (by decide) (cB_le m))
          have oddOk : ∀ x ∈ oddD, Ok (3 + (m + 1)) (cB (m + 1)) x := fun x hm => (odd_ok x hm).mono (by omega) (Nat.le_trans (by decide) (cB_le (m + 1)))
          have tupOk : ∀ es : List PyData, (∀ x ∈ es, x ∈ ds ∨ x ∈ oddD) → es.length ≤ 2 * wd (m + 1) + 1 → Ok (3 + (m + 1)) (cB (m + 1)) (.tuple es) := fun es h hn => ok_tup (fun x hm => itemOk x (h x hm)) hn
          have lstOk : ∀ es : List PyData, (∀ x ∈ es, x ∈ ds ∨ x ∈ oddD) → es.length ≤ 2 * wd (m + 1) + 1 → Ok (3 + (m + 1)) (cB (m + 1)) (.list es) := fun es h hn => ok_lst (fun x hm => itemOk x (h x hm)) hn
          refine iteF ⟨_, rfl, _, rfl, a, xs, rfl, .inr (SqT.of e2), _, _, rfl, rfl, D, B, C, cells, _, rfl, dk2, by omega, by omega, fun at_ H3 at0 at1 dk3 f3 => ?_⟩
          obtain ⟨j, rfl⟩ : ∃ j : Nat, at_ = (j : Int) := ⟨at_.toNat, by omega⟩
          have e3 := f3 _ _ (tD dk2 e2).1 (tD dk2 e2).2 e2
          have ha3 := dk2.dataAll f3 ha2
          -- the list of six
          refine ⟨_, rfl, D, B, C, cells, rfl, dk3, fun v1 d1 H4 m1 q1 z1 dk4 f4 => ?_⟩
          have e4 := f4 _ _ (tD dk3 e3).1 (tD dk3 e3).2 e3
          have ha4 := dk3.dataAll f4 ha3
          refine ⟨_, rfl, _, rfl, ?_⟩
          dsimp only [tNoPart]
          refine sl_read e4 fun c1 H5 s5 g5 => ?_
          obtain ⟨es1, hes1, mem1, len1⟩ := cut_data (ha4.same s5) (some 1) none
          refine ⟨_, rfl, _, rfl, _, rfl, sl_read (s5 _ _ e4) fun c2 H6 s6 g6 => ?_⟩
          have e6 := s6 _ _ (s5 _ _ e4)
          have ha6 := (ha4.same s5).same s6
          obtain ⟨es2, hes2, mem2, len2⟩ := cut_data ha6 none (some (-1))
          refine ⟨_, rfl, a, xs, rfl, SqT.of e6, fun c3 n3 => ?_⟩
          have s7 := same_upd (o := .tup xs.reverse) n3
          have dk7 := ((dk4.same s5).same s6).same s7
          refine ⟨_, rfl, a, xs, rfl, .inr (SqT.of (s7 _ _ e6)), fun c4 n4 => ?_⟩
          have s8 := same_upd (o := .lst xs) n4
          have dk8 := dk7.same s8
          have e8 := s8 _ _ (s7 _ _ e6)
          have ha8 := (ha6.same s7).same s8
          refine ⟨_, rfl, _, rfl, _, rfl, _, rfl, ?_⟩
          dsimp only [tNoPart]
          refine sl_read e8 fun c5 H9 s9 g9 => ?_
          obtain ⟨es5, hes5, mem5, len5⟩ := cut_data (ha8.same s9) (some (-1)) none
          refine cat_read (s9 _ _ e8) g9 (by rw [hes5.len]; omega) fun c6 H10 s10 g10 => ⟨sz1 rfl, fun L nL => ?_⟩
          have dk10 := (dk8.same s9).same s10
          have s11 := same_upd (o := .lst [v1, .ref c1, .ref c2, .ref c3, .ref c4, .ref c6]) nL
          have dk11 := dk10.same s11
          have nLD := dk10.neD nL
          have nLB := dk10.neB nL
          have e11 := s11 _ _ (s10 _ _ (s9 _ _ e8))
          have ha11 := ((ha8.same s9).same s10).same s11
          -- the two behind
          refine ⟨_, rfl, _, rfl, _, rfl, _, rfl, _, rfl, sl_read e11 fun x1 H12 s12 g12 => ?_⟩
          have dk12 := dk11.same s12
          refine ⟨_, rfl, D, B, C, cells, rfl, dk12, fun v2 d2 H13 m2 q2 z2 dk13 f13 => ?_⟩
          have e13 := f13 _ _ (tD dk12 (s12 _ _ e11)).1 (tD dk12 (s12 _ _ e11)).2 (s12 _ _ e11)
          have g13 := f13 _ _ (tD dk12 g12).1 (tD dk12 g12).2 g12
          have ha13 := dk12.dataAll f13 (ha11.same s12)
          obtain ⟨ex1, hex1, memx1, lenx1⟩ := cut_data ha13 none (some (j : Int))
          refine ⟨sz1 rfl, fun t nt => ?_⟩
          have s14 := same_upd (o := .tup [v2]) nt
          refine cat_read (s14 _ _ g13) upd_same (by rw [hex1.len]; show _ + 1 ≤ 1000; omega) fun x2 H15 s15 g15 => ?_
          have s1315 := s14.trans s15
          refine ⟨_, rfl, _, rfl, _, rfl, ?_⟩
          dsimp only [tNoPart]
          refine sl_read (s1315 _ _ e13) fun x3 H16 s16 g16 => ?_
          have s1316 := s1315.trans s16
          obtain ⟨ex3, hex3, memx3, lenx3⟩ := cut_data (ha13.same s1316) (some (j : Int)) none
          refine cat_read (s16 _ _ g15) g16 (by rw [List.length_append, hex1.len, hex3.len]; show _ + 1 + _ ≤ 1000; omega) fun x4 H17 s17 g17 => ?_
          have s1317 := s1316.trans s17
          refine ⟨_, rfl, _, rfl, _, rfl, sl_read (s1317 _ _ e13) fun y1 H18 s18 g18 => ?_⟩
          have s1318 := s1317.trans s18
          obtain ⟨ey1, hey1, memy1, leny1⟩ := cut_data (ha13.same s1318) none (some (j : Int))
          refine ⟨_, rfl, _, rfl, _, _, rfl, rfl, _, rfl, ?_⟩
          dsimp only [tNoPart]
          refine sl_read (s1318 _ _ e13) fun y2 H19 s19 g19 => ?_
          have s1319 := s1318.trans s19
          obtain ⟨ey2, hey2, memy2, leny2⟩ := cut_data (ha13.same s1319) (some ((j : Int) + 1)) none
          refine cat_read (s19 _ _ g18) g19 (by rw [hey1.len, hey2.len]; omega) fun y3 H20 s20 g20 => ⟨sz1 rfl, fun M nM => ?_⟩
          have s21 := same_upd (o := .lst [.ref x4, .ref y3]) nM
          have s1321 := (s1319.trans s20).trans s21
          have f1121 := ((Fr.of_same s12).trans f13).trans (Fr.of_same s1321)
          refine ⟨L, M, _, _, rfl, rfl, f1121 _ _ nLD nLB upd_same, upd_same, sz1 (l := [(0 : Nat), 0, 0, 0, 0, 0, 0, 0]) rfl, fun p np => ?_⟩
          have s22 := same_upd (o := .lst ([v1, .ref c1, .ref c2, .ref c3, .ref c4, .ref c6] ++ [.ref x4, .ref y3])) np
          have dk21 := dk13.same s1321
          have dk22 := dk21.same s22
          have f1122 := f1121.trans (Fr.of_same s22)
          have s1322 := s1321.trans s22
          have s1011 : Same H10 _ := s11
          have s911 := s10.trans s11
          have s811 := s9.trans s911
          have s711 := s8.trans s811
          have s611 := s7.trans s711
          have s511 := s6.trans s611
          have s411 := s5.trans s511
          have all : DqAll D B (upd (upd H20 M (.lst [.ref x4, .ref y3])) p (.lst ([v1, .ref c1, .ref c2, .ref c3, .ref c4, .ref c6] ++ [.ref x4, .ref y3]))) ([v1, .ref c1, .ref c2, .ref c3, .ref c4, .ref c6] ++ [.ref x4, .ref y3]) ([d1, .tuple es1, .tuple es2, .tuple ds.reverse, .list ds, .tuple (ds ++ es5)] ++ [.tuple ((ex1 ++ [d2]) ++ ex3), .tuple (ey1 ++ ey2)]) := by
            refine DqAll.append (.cons (.tup ((s18.trans (s19.trans (s20.trans (s21.trans s22)))) _ _ g17) ?_) (.cons (.tup ((s21.trans s22) _ _ g20) ?_) .nil)) (dk11.dataAll f1122 (.cons (q1.same s411) (.cons (.tup (s511 _ _ g5) (hes1.same s511)) (.cons (.tup (s611 _ _ g6) (hes2.same s611)) (.cons (.tup (s711 _ _ upd_same) ((ha6.rev.same s7).same s711))
              (.cons (.lst (dk7.neD n4) (dk7.neB n4) (s811 _ _ upd_same) (ha8.same s811)) (.cons (.tup (s1011 _ _ g10) (DqAll.append ((hes5.same s10).same s1011) (ha8.same s811))) .nil)))))))
            · exact DqAll.append (hex3.same ((s17.trans (s18.trans (s19.trans s20))).trans (s21.trans s22))) (DqAll.append (.cons (q2.same s1322) .nil) (hex1.same s1322))
            · exact DqAll.append (hey2.same (s20.trans (s21.trans s22))) (hey1.same ((s19.trans s20).trans (s21.trans s22)))
          refine ⟨D, B, C, cells, p, _, rfl, dk22, upd_same, dk21.neD np, dk21.neB np, by show 0 < 8; decide, by show 8 < 1073741824; decide, fun i8 v8 H23 hv dk23 f23 => ?_⟩
          obtain ⟨d8, hd8, q8⟩ := all.at_ i8 v8 hv
          have fH4 : Fr D B H H4 := f2.trans (f3.trans f4)
          refine q v8 d8 H23 ?_ (dk22.data f23 q8) (fun Z nZ => ?_) dk23 ((fH4.trans (Fr.of_same s411)).trans (f1122.trans f23))
          rotate_left
          · have nZ3 := dk3.alive f3 (dk2.alive f2 nZ)
            have nZ4 := dk4.alive f4 nZ3
            have nZ7 := Same.some s7 (Same.some s6 (Same.some s5 nZ4))
            have nZ12 := Same.some s12 (Same.some (s8.trans s811) nZ7)
            have cZ : c4 ≠ Z := fun z => nZ7 (by rw [← z]; exact n4)
            have P1 : ∀ {es : List PyData}, (∀ e ∈ es, e ∈ ds) → ∀ x ∈ es, Plain m x := fun h x hm => hx x (h x hm)
            have aZ : ∀ {G : Hp}, DqAll D B G xs ds → DqAll Z Z G xs ds := fun h => plain_anyAll hx h
            have q1Z := (dk11.two f1122 (q1.same s411) ((z1 Z nZ3).same s411))
            have allZ : DqAll Z Z (upd (upd H20 M (.lst [.ref x4, .ref y3])) p (.lst ([v1, .ref c1, .ref c2, .ref c3, .ref c4, .ref c6] ++ [.ref x4, .ref y3]))) ([v1, .ref c1, .ref c2, .ref c3, .ref c4, .ref c6] ++ [.ref x4, .ref y3]) ([d1, .tuple es1, .tuple es2, .tuple ds.reverse, .list ds, .tuple (ds ++ es5)] ++ [.tuple ((ex1 ++ [d2]) ++ ex3), .tuple (ey1 ++ ey2)]) := by
              have tup1 : ∀ {c : Addr} {zs : List V} {es : List PyData}, (∀ x ∈ es, Plain m x) → Dq D B (upd H10 L (.lst [v1, .ref c1, .ref c2, .ref c3, .ref c4, .ref c6])) (.ref c) (.tuple es) → (upd H10 L (.lst [v1, .ref c1, .ref c2, .ref c3, .ref c4, .ref c6])) c = some (.tup zs) → Dq Z Z (upd (upd H20 M (.lst [.ref x4, .ref y3])) p (.lst ([v1, .ref c1, .ref c2, .ref c3, .ref c4, .ref c6] ++ [.ref x4, .ref y3]))) (.ref c) (.tuple es) := fun h k e => by
                refine dk11.two f1122 k ?_
                cases k with
                | tup e2 ha => exact .tup e2 (plain_anyAll h ha)
              refine DqAll.append (.cons (.tup ((s18.trans (s19.trans (s20.trans (s21.trans s22)))) _ _ g17) ?_) (.cons (.tup ((s21.trans s22) _ _ g20) ?_) .nil)) (.cons q1Z (.cons (tup1 (P1 mem1) (.tup (s511 _ _ g5) (hes1.same s511)) (s511 _ _ g5)) (.cons (tup1 (P1 mem2) (.tup (s611 _ _ g6) (hes2.same s611)) (s611 _ _ g6))
                (.cons (tup1 (fun x hm => hx x (List.mem_reverse.mp hm)) (.tup (s711 _ _ upd_same) ((ha6.rev.same s7).same s711)) (s711 _ _ upd_same)) (.cons ?_ (.cons (tup1 (fun x hm => (List.mem_append.mp hm).elim (hx x) (fun hm => hx x (mem5 x hm))) (.tup (s1011 _ _ g10) (DqAll.append ((hes5.same s10).same s1011) (ha8.same s811))) (s1011 _ _ g10)) .nil))))))
              · exact DqAll.append ((plain_anyAll (P1 memx3) hex3).same ((s17.trans (s18.trans (s19.trans s20))).trans (s21.trans s22))) (DqAll.append (.cons ((z2 Z nZ12).same s1322) .nil) ((plain_anyAll (P1 memx1) hex1).same s1322))
              · exact DqAll.append ((plain_anyAll (P1 memy2) hey2).same (s20.trans (s21.trans s22))) ((plain_anyAll (P1 memy1) hey1).same ((s19.trans s20).trans (s21.trans s22)))
              · exact dk11.two f1122 (.lst (dk7.neD n4) (dk7.neB n4) (s811 _ _ upd_same) (ha8.same s811)) (.lst cZ cZ (s811 _ _ upd_same) (aZ (ha8.same s811)))
            obtain ⟨d9, hd9, q9⟩ := allZ.at_ i8 v8 hv
            rw [hd8] at hd9
            cases hd9
            exact dk22.two f23 q8 q9
          have inl : ∀ {es : List PyData}, (∀ e ∈ es, e ∈ ds) → ∀ x ∈ es, x ∈ ds ∨ x ∈ oddD := fun h x hm => .inl (h x hm)
          have app : ∀ {es fs : List PyData}, (∀ x ∈ es, x ∈ ds ∨ x ∈ oddD) → (∀ x ∈ fs, x ∈ ds ∨ x ∈ oddD) → ∀ x ∈ es ++ fs, x ∈ ds ∨ x ∈ oddD := fun h1 h2 x hm => (List.mem_append.mp hm).elim (h1 x) (h2 x)
          have self : ∀ x ∈ ds, x ∈ ds ∨ x ∈ oddD := fun x hm => .inl hm
          match i8, hd8 with
          | 0, h => exact Option.some.inj h ▸ oddOk _ m1
          | 1, h => exact Option.some.inj h ▸ tupOk _ (inl mem1) (by omega)
          | 2, h => exact Option.some.inj h ▸ tupOk _ (inl mem2) (by omega)
          | 3, h => exact Option.some.inj h ▸ tupOk _ (fun x hm => .inl (List.mem_reverse.mp hm)) (by rw [List.length_reverse]; omega)
          | 4, h => exact Option.some.inj h ▸ lstOk _ self (by omega)
          | 5, h => exact Option.some.inj h ▸ tupOk _ (app self (inl mem5)) (by rw [List.length_append]; omega)
          | 6, h => exact Option.some.inj h ▸ tupOk _ (app (app (inl memx1) (fun x hm => .inr (List.mem_singleton.mp hm ▸ m2))) (inl memx3)) (by rw [List.length_append, List.length_append]; show ex1.length + 1 + ex3.length ≤ 2 * wd (m + 1) + 1; omega)
          | 7, h => exact Option.some.inj h ▸ tupOk _ (app (inl memy1) (inl memy2)) (by rw [List.length_append]; omega)
          | i8 + 8, h => cases h
end
end Jg
namespace Jg
open PySem PySem.Spec PyProof.Rows L2
open Sem (wp)
/-! ### enumerate of a tuple -/
def enumObj (i : Addr) : Obj := { cls := .type "enumerate", data := .fields #[.none, .bool false, .ref i, rawInt 0, .none, .none] }
set_option maxHeartbeats 1000000 in
theorem enumBorn {v : Value} {ob : Obj} {Z : Heap → Prop} (bg : Begins v ob Z) :
    Meets (Builtin.«enumerate.__new__» ⟨[.type "enumerate", v], []⟩) (fun _ R z => Z z.heap ∧
      R (.ok (.ret (.ref (z.heap.push ob).objs.size))) { z with heap := (z.heap.push ob).push (enumObj z.heap.objs.size) }) :=
  .of_wp fun prog w A R z hz => by
    obtain ⟨hp, g, d, tk, os⟩ := z
    obtain ⟨hz1, hz2⟩ := hz
    have hsub := sub_enumerate
    have goB : ∀ {A' : Around} {E : Value → Shared → Prop} {Q : Value → Shared → Prop}, Q (.ref hp.objs.size) ⟨hp.push ob, g, d, tk, os⟩ → wpAny (model prog w) A' (pyIter v) Q E ⟨hp, g, d, tk, os⟩ := fun q => bg.iter prog w _ _ ⟨hp, g, d, tk, os⟩ _ hz1 q
    wp_walk using goB
    refine wpAny_stack_any fun st => wpAny_pure ?_
    split
    · rename_i c _ _ _ _ _
      cases (c == Value.type "enumerate") <;> (wp_walk using goB) <;> exact ⟨_, rfl, hz2⟩
    · wp_walk using goB
      exact ⟨_, rfl, hz2⟩
theorem enumMade {prog : Program} {w : World} {A : Around} {E : Value → Shared → Prop} {z : Shared} {v : Value} {ob : Obj} {Z : Heap → Prop} {Q : Value → Shared → Prop} (bg : Begins v ob Z) (hz : Z z.heap)
    (h : ∀ h', IsEnum h' (z.heap.objs.size + 1) z.heap.objs.size 0 .none → h'.get? z.heap.objs.size = some ob → (∀ b o, z.heap.get? b = some o → h'.get? b = some o) → Q (.ref (z.heap.objs.size + 1)) { z with heap := h' }) :
    wpAny (model prog w) A (call (.type "enumerate") [v]) Q E z := by
  refine callType_new F.called_enumerate (by decide) (F.typeCall_enumerate_1 _) (F.newCall_enumerate_1 _) (fun obj => F.args_object_init_2 obj _) F.entry_enumerate_new (enumBorn bg) ⟨hz, ?_⟩
  have sz1 : (z.heap.push ob).objs.size = z.heap.objs.size + 1 := Heap.size_push ..
  have born : IsEnum ((z.heap.push ob).push (enumObj z.heap.objs.size)) (z.heap.objs.size + 1) z.heap.objs.size 0 .none := sz1 ▸ Heap.get?_push_size (z.heap.push ob) (o := enumObj z.heap.objs.size) rfl
  show _ ∧ _
  rw [sz1]
  exact ⟨⟨_, born, rfl⟩, h _ born (Heap.get?_push_of_some _ (Heap.get?_push_size _ bg.free)) fun b o x => Heap.get?_push_of_some _ (Heap.get?_push_of_some _ x)⟩
/-- the tuple at a, each item in a new pair with its number -/
def IteT (K : PySem.W.Frag) (a : Addr) : It where
  go := fun i H => ∃ (xs : List V) (x : V), SqT K H a xs ∧ xs[i]? = some x
  yld := fun i H v H' => ∃ T x, v = .ref T ∧ H T = none ∧ H' = upd H T (.tup [.int (i : Nat), x]) ∧ ∀ xs, SqT K H a xs → xs[i]? = some x
  stop := fun i H => ∃ xs : List V, SqT K H a xs ∧ xs.length ≤ i
theorem turn_enumT {P : Program} {w : World} {K : PySem.W.Frag} {elts : List Expr} {kk : Nat} {tpos : Pos} (a e it : Addr) :
    Turn P w K (.Tuple elts kk tpos) (IteT K a) [e, it] e (fun i h => (∃ old, IsEnum h e it ((i : Nat) : Int) old) ∧ h.IsTupleIter it a i ∧ e ≠ it) where
  mem := List.mem_cons_self ..
  obj := fun i h ⟨⟨old, he⟩, ⟨o, ho, _, hd⟩, _⟩ b hb => by
    rcases List.mem_cons.mp hb with z | z
    · subst z
      exact ⟨_, he, fun v q => nomatch q⟩
    · exact ⟨o, List.mem_singleton.mp z ▸ ho, fun v q => by rw [hd] at q; cases q⟩
  keep := fun i h h' ⟨⟨old, he⟩, hi, hne⟩ k => ⟨⟨old, k e (by simp) _ he⟩, hi.at fun o q => k it (by simp) o q, hne⟩
  item := by
    intro X hP hw hK hc i pins s σ H E I hf st hg
    subst hP hw hK
    obtain ⟨⟨old, he⟩, hit, hne⟩ := st
    obtain ⟨xs, x, hq, hx⟩ := hg
    obtain ⟨its, rv, p, hz⟩ := I.tuple hq
    have pT : s.heap.IsTuple a its.toArray := p
    have e_a : e ≠ a := fun z => by
      obtain ⟨o, ho, hcl, _⟩ := pT
      rw [← z, he] at ho
      cases ho
      exact absurd (Value.type.inj hcl) (by decide)
    have it_a : a ≠ it := fun z => by
      obtain ⟨o, ho, hcl, _⟩ := pT
      obtain ⟨o2, ho2, hcl2, _⟩ := hit
      rw [z, ho2] at ho
      cases ho
      rw [hcl] at hcl2
      exact absurd (Value.type.inj hcl2) (by decide)
    obtain ⟨u, hu, ru⟩ := rv.get hx
    have hel : e < s.heap.objs.size := Heap.lt_size he
    have hil : it < s.heap.objs.size := by
      obtain ⟨_, q, _⟩ := hit
      exact Heap.lt_size q
    have hlt : i < its.toArray.size := by
      obtain ⟨hh, _⟩ := List.getElem?_eq_some_iff.mp hu
      simpa using hh
    refine wpAny_pyNext_enum_itemD (Draws.tuple (A := X.A.in1) (I.ok.hd hc) it a it_a its.toArray) he ⟨hit, pT⟩ hlt hne (by simp [hne, e_a]) fun x' h1 tk hx' ho hs' hT hsz hk => ?_
    have hxu : x' = u := by
      have q1 : its.toArray[i]? = some x' := hx'
      have q2 : its.toArray[i]? = some u := by simpa using hu
      exact Option.some.inj (q1.symm.trans q2)
    subst hxu
    refine ⟨_, rfl, wpAny_letOwnedTupleGo_enum (s := { s with heap := h1, toks := tk + 1 }) ho fun h2 he2 sb => ?_⟩
    have hT2 : h2.get? s.heap.objs.size = some { cls := .type "tuple", data := .seq #[.int i tk, x'] } := (sb.2 _ (Nat.ne_of_gt hel)).trans hT
    have fresh : ObjOk X.prog X.w (upd H s.heap.objs.size (.tup [.int (i : Nat), x])) h2 s.heap.objs.size (.tup [.int (i : Nat), x]) := ⟨by show 2 ≤ sizeLine; decide, [.int i tk, x'], .cons ⟨_, rfl⟩ (.cons ru .nil), ⟨_, hT2, rfl, _, rfl⟩⟩
    have I1 : Inv X pins σ (upd H s.heap.objs.size (.tup [.int (i : Nat), x])) { s with heap := h2, toks := tk + 1 } := I.turnedNew (ch := [e, it]) (fun b ob hb q => (sb.2 b (fun z => hb (by simp [z]))).trans (hk b ob (fun z => hb (by simp [z])) (fun z => hb (by simp [z])) q)) hf (Nat.le_refl _) fresh
    have e1 : ((i + 1 : Nat) : Int) = (i : Int) + 1 := by omega
    refine ⟨.ref s.heap.objs.size, _, I1, rfl, ⟨_, x, rfl, I.hok.fresh (Nat.le_refl _), rfl, fun ys hy => I.tuple_inj hy hq ▸ hx⟩, ⟨⟨x', e1 ▸ he2⟩, hs'.1.at fun o q => (sb.2 it (Ne.symm hne)).trans q, hne⟩, fun b hb => ?_⟩
    have hb2 : b < s.heap.objs.size := by
      rcases List.mem_cons.mp hb with z | z
      · exact z ▸ hel
      · exact List.mem_singleton.mp z ▸ hil
    rw [upd_ne (Nat.ne_of_lt hb2)]
    exact (hf b hb).1
  done := by
    intro X hP hw hK hc i pins s σ H E I hf st hg
    subst hP hw hK
    obtain ⟨⟨old, he⟩, hit, hne⟩ := st
    obtain ⟨xs, hq, hx⟩ := hg
    obtain ⟨its, rv, p, hz⟩ := I.tuple hq
    have pT : s.heap.IsTuple a its.toArray := p
    obtain ⟨f0, f1, f2, f3, f4, f5⟩ := hf it (by simp)
    have hl := rv.length
    have hT : s.TypeIs (.ref e) "enumerate" := ⟨_, he, rfl⟩
    unfold pyNext
    refine wpAny_bind (wpAny_attempt (wpAny_callSpecial?_slot (name := Str.ofString "__next__") hT F.slot_enumerate_next (wpAny_call_entry F.slot_enumerate_next hT F.entry_enumerate_next ?_ (F.args_enumerate_next_1 _))))
    show wpAny _ _ (field (.ref e) 2 >>= _) _ _ _
    refine wpAny_bind (wpAny_field he rfl (x := .ref it) rfl (wpAny_bind (wpAny_nextOf_tuple_end (I.ok.hd hc) hit pT (by simp; omega) fun h2 y he2 ⟨o, ho, hcl⟩ => ?_)))
    refine wpAny_bind (wpAny_isInstance (T := "StopIteration") (b := true) ⟨o, ho, hcl⟩ isSubtype_stop (wpAny_pure ⟨rfl, ?_⟩))
    exact I.turned (t' := s.toks) (fun b ob hb q => he2 b ob hb q) f0 f1 f3 f4 f5
  self := fun A i s Q E ⟨⟨_, he⟩, _⟩ h => wpAny_pyIter_enum he h
def iEnumT (K : PySem.W.Frag) (ta : TA) : TI := fun σ H R => ta σ H fun vs H1 => ∃ a xs, vs = [.ref a] ∧ SqT K H1 a xs ∧ R (IteT K a) H1
theorem pi_enumT {X : Cx} {e : Expr} {ta : TA} {p pos tpos : Pos} {elts : List Expr} {kk : Nat} (gl : Gl X "enumerate") (no : X.mg "enumerate" = none) (pa : PA X [e] ta) (hs : starEach [e] X.env = [(false, eval e X.env)] := by rfl) :
    PI X (.Tuple elts kk tpos) (.Call (.Name "enumerate" p) [e] [] pos) (iEnumT X.K ta) := by
  refine ⟨fun pins s σ H R I h => Call_ (ld_blt I gl no boot_enumerate (PyProof.Rows.callWith_type1 (thn (pa.run pos pins s σ H _ I h) fun us s1 ⟨vs, H1, I1, r1, a, xs, ex, hq, q⟩ => ?_) hs rfl))⟩
  subst ex
  cases r1 with
  | cons r rr =>
    cases rr
    cases r
    obtain ⟨its, rv, pp, hz⟩ := I1.tuple hq
    have pT : s1.heap.IsTuple a its.toArray := pp
    refine enumMade (begins_tuple a its.toArray) pT fun h1 he hi hk => wpAny_pyIter_enum he ?_
    have I2 : Inv X pins σ H1 { s1 with heap := h1 } := I1.kept (t' := s1.toks) hk
    refine ⟨s1.heap.objs.size + 1, [s1.heap.objs.size + 1, s1.heap.objs.size], _, _, H1, rfl, I2, turn_enumT a (s1.heap.objs.size + 1) s1.heap.objs.size, ⟨⟨.none, he⟩, ⟨_, hi, rfl, rfl⟩, Nat.succ_ne_self _⟩, fun b hb => ?_, q⟩
    have hle : s1.heap.objs.size ≤ b := by
      rcases List.mem_cons.mp hb with z | z
      · exact z ▸ Nat.le_add_right _ _
      · exact List.mem_singleton.mp z ▸ Nat.le_refl _
    exact I1.fpOk hle (I1.hok.fresh hle)
end Jg
namespace Jg
open PySem PySem.Spec PyProof.Rows L2
def isSt : PyData → Bool
  | .str _ => true | _ => false
theorem kStr {K : PySem.W.Frag} : ∀ d : PyData, PySem.W.kitOne K (.type (tyN d)) (.type "str") = some (isSt d)
  | .none => kit_ty (a := "NoneType") (by show kitB "NoneType" "str" = some false; decide +kernel)
  | .bool _ => kit_ty (a := "bool") (by show kitB "bool" "str" = some false; decide +kernel)
  | .int _ => kit_ty (a := "int") (by show kitB "int" "str" = some false; decide +kernel)
  | .str _ => kit_ty (a := "str") (by show kitB "str" "str" = some true; decide +kernel)
  | .list _ => kit_ty (a := "list") (by show kitB "list" "str" = some false; decide +kernel)
  | .tuple _ => kit_ty (a := "tuple") (by show kitB "tuple" "str" = some false; decide +kernel)
  | .dict _ => kit_ty (a := "dict") (by show kitB "dict" "str" = some false; decide +kernel)
theorem isSt_of {D B : Addr} {H : Hp} {v : V} {d : PyData} (hd : Dq D B H v d) (h : isSt d = true) : ∃ x, d = .str x ∧ v = .str x := by
  cases hd <;> first | exact ⟨_, rfl, rfl⟩ | cases h
theorem inV3 (x a b c : Str) : inV (.str x) [.str a, .str b, .str c] = (decide (x = a) || decide (x = b) || decide (x = c)) := by
  have h : ∀ k : Str, eqV (.str k) (.str x) = decide (x = k) := fun k => by
    show decide (k = x) = decide (x = k)
    by_cases e : x = k
    · rw [decide_eq_true e, decide_eq_true e.symm]
    · rw [decide_eq_false e, decide_eq_false fun z => e z.symm]
  show (eqV (.str a) (.str x) || (eqV (.str b) (.str x) || (eqV (.str c) (.str x) || false))) = _
  rw [h, h, h, Bool.or_false, Bool.or_assoc]
theorem ones_eqv (m : Nat) : PyData.eqv (.list ((List.replicate m (1 : Int)).map PyData.int)) (.list []) = decide (m = 0) := by
  cases m with
  | zero => simp [PyData.eqv, PyData.eqvAll]
  | succ m => simp [PyData.eqv, PyData.eqvAll, List.replicate_succ]
theorem dq_one {D B : Addr} {H : Hp} {xs : List V} {d : PyData} (h : DqAll D B H xs [d]) : ∃ x, xs = [x] ∧ Dq D B H x d := by
  cases h with
  | cons a h =>
    cases h
    exact ⟨_, rfl, a⟩
theorem dq_two {D B : Addr} {H : Hp} {xs : List V} {d e : PyData} (h : DqAll D B H xs [d, e]) : ∃ x y, xs = [x, y] ∧ Dq D B H x d ∧ Dq D B H y e := by
  cases h with
  | cons a h =>
    cases h with
    | cons b h =>
      cases h
      exact ⟨_, _, rfl, a, b⟩
theorem within_is {lo hi : Int} {d : PyData} (h : within lo hi d = true) : ∃ i, d = .int i ∧ lo ≤ i ∧ i ≤ hi := by
  cases d <;> first | cases h | skip
  rename_i i
  have h2 : (decide (lo ≤ i) && decide (i ≤ hi)) = true := h
  rw [Bool.and_eq_true] at h2
  exact ⟨i, rfl, of_decide_eq_true h2.1, of_decide_eq_true h2.2⟩
theorem inV2 (x a b : Str) : inV (.str x) [.str a, .str b] = (decide (x = a) || decide (x = b)) := by
  have h : ∀ k : Str, eqV (.str k) (.str x) = decide (x = k) := fun k => by
    show decide (k = x) = decide (x = k)
    by_cases e : x = k
    · rw [decide_eq_true e, decide_eq_true e.symm]
    · rw [decide_eq_false e, decide_eq_false fun z => e z.symm]
  show (eqV (.str a) (.str x) || (eqV (.str b) (.str x) || false)) = _
  rw [h, h, Bool.or_false]
theorem boot_max' : bootBuiltins "max" = some (.builtin "max") := by decide +kernel
theorem boot_sum' : bootBuiltins "sum" = some (.builtin "sum") := by decide +kernel
def wr (x : Str) : PyData := .tuple [.none, .str x]
theorem dq_three {D B : Addr} {H : Hp} {xs : List V} {d e f : PyData} (h : DqAll D B H xs [d, e, f]) : ∃ x y z, xs = [x, y, z] ∧ Dq D B H x d ∧ Dq D B H y e ∧ Dq D B H z f := by
  cases h with
  | cons a h =>
    obtain ⟨y, z, rfl, h1, h2⟩ := dq_two h
    exact ⟨_, _, _, rfl, a, h1, h2⟩
theorem three_of {ds : List PyData} (h : ds.length = 3) : ∃ a b c, ds = [a, b, c] := by
  match ds, h with
  | [a, b, c], _ => exact ⟨a, b, c, rfl⟩
theorem dq_wr {D B p : Addr} {H : Hp} {x : Str} (e : H p = some (.tup [.non, .str x])) : Dq D B H (.ref p) (wr x) := .tup e (.cons .non (.cons (.str _) .nil))
theorem dq_nr {D B p : Addr} {H : Hp} {i : Int} {x : Str} (e : H p = some (.tup [.int i, .str x])) : Dq D B H (.ref p) (.tuple [.int i, .str x]) := .tup e (.cons (.int _) (.cons (.str _) .nil))
theorem ix_tupK {X : Cx} {K : PySem.W.Frag} (h : X.K = K) : IxR X (rIxT K) := h ▸ ix_tup
def rLenQ (K : PySem.W.Frag) : List V → Hp → VK → Prop := fun zs H Q => ∃ p ys, zs = [.ref p] ∧ (SqL K H p ys ∨ SqT K H p ys) ∧ Q (.int ys.length) H
theorem call_lenK {X : Cx} {K : PySem.W.Frag} (h : X.K = K) : CallR X (.builtin "len") (rLenQ K) := h ▸ call_len_seq
theorem for_enumT {K : PySem.W.Frag} {a : Addr} {xs : List V} {g : TG} {tb : TS} {D : Ends} {σ : L2.St} {H : Hp} (Pv : Nat → L2.St → Hp → Prop) (h0 : Pv 0 σ H) (hl : ∀ i σ H, i ≤ xs.length → Pv i σ H → SqT K H a xs)
    (hs : ∀ i x T σ H, xs[i]? = some x → Pv i σ H → H T = none → g (.ref T) σ (upd H T (.tup [.int (i : Nat), x])) fun σ2 H2 => tb { D with nx := Pv (i + 1), ct := Pv (i + 1), bk := D.nx } σ2 H2) (hd : ∀ σ H, Pv xs.length σ H → D.nx σ H) :
    ∃ W : Nat → Nat → L2.St → Hp → Prop, (∃ m, W 0 m σ H) ∧ ∀ i m σ H, W i m σ H →
      ((IteT K a).stop i H ∧ D.nx σ H) ∨ ((IteT K a).go i H ∧ ∃ N : L2.St → Hp → Prop, (∀ σ' H', N σ' H' → ∃ m', m' < m ∧ W (i + 1) m' σ' H') ∧ ∀ x H', (IteT K a).yld i H x H' → g x σ H' fun σ2 H2 => tb { D with nx := N, ct := N, bk := D.nx } σ2 H2) := by
  refine ⟨fun i m σ H => m = xs.length - i ∧ i ≤ xs.length ∧ Pv i σ H, ⟨xs.length, rfl, Nat.zero_le _, h0⟩, ?_⟩
  rintro i m σ H ⟨rfl, hi, p⟩
  have q := hl i σ H hi p
  by_cases lt : i < xs.length
  · refine .inr ⟨⟨xs, xs[i], q, List.getElem?_eq_getElem lt⟩, Pv (i + 1), fun σ' H' p' => ⟨xs.length - (i + 1), by omega, rfl, lt, p'⟩, fun x H' y => ?_⟩
    obtain ⟨T, z, rfl, hT, rfl, hz⟩ := y
    exact hs i z T σ H (hz xs q) p hT
  · obtain rfl : i = xs.length := by omega
    exact .inl ⟨⟨xs, q, Nat.le_refl _⟩, hd σ H p⟩
structure Nm (K : PySem.W.Frag) (mg : Str → Option Value) (x : Str) (st : Stmt) (ps : List Str) (f : Addr) (fd : FuncData) : Prop where
  F : Fun K x x st f fd
  b : Binds K fd ps []
  g : mg x = some (.ref f)
def isNo : PyData → Bool
  | .none => true | _ => false
theorem dq_isN {D B : Addr} {H : Hp} {v : V} {d : PyData} (h : Dq D B H v d) : decide (v = .non) = isNo d := by
  cases h <;> rfl
section
variable {X : Cx} {CX : CXT} {k : Nat} {f : Addr} {fd : FuncData} {ps ks : List Str} {sp : Sp} {E : XK} {x : Str} {p pos : Pos} {kws : List Keyword} {tk : TA} {g : List Value → List Value → List Value} {gV : List V → List V → List V}
/-- f(k = v, ..), keywords alone -/
theorem pe_callKO (F : FnOk X.prog X.w X.K X.mg X.base CX k f fd ps sp) (hr : Room k X.A) (hg : Gl X x) (hm : X.mg x = some (.ref f)) (hk : PySem.W.keepIn X.K (.ref f) = true) (hb : KBinds X.K fd ps ks g gV) (hx : Passes CX X E) (hkw : PK X kws tk)
    (hall : (backToKw pos (keywordEach kws X.env)).all (·.1.isSome) = true := by rfl) (hks : (backToKw pos (keywordEach kws X.env)).filterMap (·.1) = ks := by rfl) (hdb : (x == ("__debug__" : Str)) = false := by decide)
    (hpl : ((backTo pos (starEach [] X.env)).any (·.1) || (backToKw pos (keywordEach kws X.env)).any (·.1.isNone)) = false := by rfl) : PE X (.Call (.Name x p) [] kws pos) (tCallK sp gV E tNil tk) := by
  refine ⟨fun pins s σ H Q I h => wpAny_Call_Name_kw (ld_glob I hg hm (PySem.W.callWith_KW0 (h₀ := X.base) I.ok.mod.kin hk hall ?_ hpl) hdb)⟩
  refine thn (hkw.run pos pins s σ H _ I h) fun ws s2 ⟨zs, H2, I2, rz, q2⟩ => ⟨I2.kIn, ?_⟩
  rw [hks]
  exact run_fnk (us := []) (vs := []) F hr hb hx I2 .nil rz q2
end
theorem ps_imp {X : Cx} {st : Stmt} {t t' : TS} (h : PS X st t) (k : ∀ D σ H, t' D σ H → t D σ H) : PS X st t' := ⟨fun pins s σ H D I q => h.run pins s σ H D I (k D σ H q)⟩
def fnd (ns : List Int) (i : Int) : Int := ns.getD i.toNat 0
theorem fnd_at {ns : List Int} {i : Int} (h0 : 0 ≤ i) (h1 : i < (ns.length : Int)) : atI (ns.map V.int) i = some (.int (fnd ns i)) := by
  obtain ⟨j, rfl⟩ : ∃ j : Nat, i = (j : Int) := ⟨i.toNat, by omega⟩
  have hj : j < ns.length := by omega
  refine atI_nat ?_
  rw [List.getElem?_map, List.getElem?_eq_getElem hj]
  show some (V.int ns[j]) = some (V.int (ns.getD j 0))
  rw [List.getD_eq_getElem?_getD, List.getElem?_eq_getElem hj]
  rfl
/-- a def that is called -/
structure Cal (P : Program) (w : World) (K : PySem.W.Frag) (mg : Str → Option Value) (base : Heap) (x : Str) (k : Nat) (ps : List Str) (sp : Sp) (f : Addr) (fd : FuncData) : Prop where
  F : FnOk P w K mg base CX0 k f fd ps sp
  g : mg x = some (.ref f)
  kp : PySem.W.keepIn K (.ref f) = true
  b : Binds K fd ps []
def kwOne : List Value → List Value → List Value
  | [], [v] => [v] | _, _ => []
def kwOneV : List V → List V → List V
  | [], [v] => [v] | _, _ => []
def forBody : Stmt → List Stmt
  | .For _ _ b _ _ => b | _ => []
theorem tup_ne {D B C : Addr} {cells : List Int} {H : Hp} {xs : List V} {b : Addr} (k : DeckAt D B C cells H) (e : H b = some (.tup xs)) : b ≠ D ∧ b ≠ B := by
  obtain ⟨x1, g1⟩ := k.isD
  obtain ⟨x2, g2⟩ := k.isB
  exact ⟨(fun z => by rw [z, g1] at e; cases e), (fun z => by rw [z, g2] at e; cases e)⟩
section
variable {σ : L2.St} {v : Option V}
theorem get_set_ne {i j : Nat} (h : i ≠ j) : (σ.set i v)[j]? = σ[j]? := List.getElem?_set_ne h
theorem get_set_eq {i : Nat} (h : i < σ.length) : (σ.set i v)[i]? = some v := by
  rw [List.getElem?_set_self h]
end
section
variable {σ : L2.St} {i j k : Nat} {x y : Option V}
theorem wipe1 : wipe ((wipe σ [i]).set i x) [i] = wipe σ [i] := by
  show ((σ.set i none).set i x).set i none = σ.set i none
  rw [List.set_set, List.set_set]
theorem wipe2 (h : i ≠ j) : wipe (((wipe σ [i, j]).set i x).set j y) [i, j] = wipe σ [i, j] := by
  show (((((σ.set j none).set i none).set i x).set j y).set j none).set i none = (σ.set j none).set i none
  rw [List.set_set, List.set_set, List.set_comm _ _ h, List.set_set, List.set_set]
theorem w1_own (h : i < σ.length) : ((wipe σ [i]).set i x)[i]? = some x := get_set_eq (by rw [wipe_length]; exact h)
theorem w1_out (h : i ≠ k) : ((wipe σ [i]).set i x)[k]? = σ[k]? := by
  rw [get_set_ne h]
  exact get_set_ne h
theorem w2_one (h : i < σ.length) (hij : i ≠ j) : (((wipe σ [i, j]).set i x).set j y)[i]? = some x := by
  rw [get_set_ne hij.symm]
  exact get_set_eq (by rw [wipe_length]; exact h)
theorem w2_two (h : j < σ.length) : (((wipe σ [i, j]).set i x).set j y)[j]? = some y := get_set_eq (by rw [List.length_set, wipe_length]; exact h)
theorem w2_out (h1 : i ≠ k) (h2 : j ≠ k) : (((wipe σ [i, j]).set i x).set j y)[k]? = σ[k]? := by
  rw [get_set_ne h2, get_set_ne h1]
  show ((σ.set j none).set i none)[k]? = σ[k]?
  rw [get_set_ne h1, get_set_ne h2]
end
theorem DeckAt.but {D B C L : Addr} {cells : List Int} {H H' : Hp} (d : DeckAt D B C cells H) (f : ∀ b o, b ≠ L → H b = some o → H' b = some o) (hD : D ≠ L) (hB : B ≠ L) (hC : C ≠ L) : DeckAt D B C cells H' := by
  obtain ⟨n, hn⟩ := d.top
  obtain ⟨bs, hl, hb⟩ := d.big
  exact ⟨d.db, d.dc, d.bc, d.ne, d.len, ⟨n, f _ _ hD hn⟩, ⟨bs, hl, f _ _ hB hb⟩, f _ _ hC d.cel⟩
/-- plain data stays where all but one list stays -/
theorem plain_keep {D B L : Addr} {H H' : Hp} {ys : List V} (eL : H L = some (.lst ys)) (f : ∀ b o, b ≠ L → H b = some o → H' b = some o) : ∀ (n : Nat) (d : PyData) (v : V), Plain n d → Dq D B H v d → Dq D B H' v d
  | 0, d, v, h, hd => by
    rcases h with ⟨i, rfl, _⟩ | ⟨x, rfl, _⟩
    · cases hd
      exact .int i
    · cases hd
      exact .str x
  | n + 1, d, v, h, hd => by
    rcases h with h | ⟨ds, rfl, hl, hx⟩
    · rcases h with ⟨i, rfl, _⟩ | ⟨x, rfl, _⟩
      · cases hd
        exact .int i
      · cases hd
        exact .str x
    · obtain ⟨a, xs, rfl, e, ha⟩ := hd.tupE
      refine .tup (f _ _ (fun z => by rw [z, eL] at e; cases e) e) ?_
      clear e hl hd
      induction ha using DqAll.rec (motive_1 := fun _ _ _ => True) with
      | nil => exact .nil
      | cons h1 h2 _ ih => exact .cons (plain_keep eL f n _ _ (hx _ List.mem_cons_self) h1) (ih fun x hm => hx x (List.mem_cons_of_mem _ hm))
      | _ => trivial
theorem plain_keepAll {D B L : Addr} {H H' : Hp} {ys : List V} (eL : H L = some (.lst ys)) (f : ∀ b o, b ≠ L → H b = some o → H' b = some o) {n : Nat} : ∀ {xs : List V} {ds : List PyData}, (∀ x ∈ ds, Plain n x) → DqAll D B H xs ds → DqAll D B H' xs ds
  | _, _, _, .nil => .nil
  | _, _, hx, .cons a b => .cons (plain_keep eL f n _ _ (hx _ List.mem_cons_self) a) (plain_keepAll eL f (fun x hm => hx x (List.mem_cons_of_mem _ hm)) b)
end Jg
namespace Jg
open PySem PySem.Spec PyProof.Rows L2
theorem smallN {n : Nat} (h : n ≤ 3000000) : n < sizeLine := Nat.lt_of_le_of_lt h (by rw [sizeLine_eq]; decide)
/-! ### lots and patterns -/
structure Bn2 (mg : Str → Option Value) : Prop where
  zip : mg "zip" = none
  any : mg "any" = none
  srt : mg "sorted" = none
  set : mg "set" = none
def upB (ns : List Int) : List Bool := (ns.zip ns.tail).map fun p => decide (p.1 < p.2)
def ascN (ns : List Int) : Bool := (upB ns).all id
def intD : PyData → Int
  | .int i => i | _ => 0
def isLot (m : Int) : PyData → Bool
  | .tuple ds => ds.all (within 0 (m - 1)) && ascN (ds.map intD)
  | _ => false
def lotGo (m : Int) : List PyData → Nat → PyData
  | [], _ => .none
  | d :: ds, k => if isLot m d = true then lotGo m ds (k + 1) else .tuple [.int (k : Int), .str (Str.ofString "lot")]
def lotsErr (m : Int) : PyData → PyData
  | .tuple ds => if (ds.length : Int) ≤ 8 then lotGo m ds 0 else wr (Str.ofString "ends")
  | _ => wr (Str.ofString "ends")
def patErr : PyData → PyData
  | .tuple [a, b] => match a with
    | .int i => if within 0 8 (.int i) = true then lotsErr i b else wr (Str.ofString "inputs")
    | _ => wr (Str.ofString "inputs")
  | _ => wr (Str.ofString "pattern")
theorem two_of {ds : List PyData} (h : ds.length = 2) : ∃ a b, ds = [a, b] := by
  match ds, h with
  | [a, b], _ => exact ⟨a, b, rfl⟩
section
variable {m : Int} {a b d : PyData} {ds : List PyData}
theorem patErr_tu (h : isTu d = false) : patErr d = wr (Str.ofString "pattern") := by
  cases d <;> first | rfl | cases h
theorem patErr_len (h : ¬ ds.length = 2) : patErr (.tuple ds) = wr (Str.ofString "pattern") := by
  match ds, h with
  | [], _ => rfl
  | [_], _ => rfl
  | [_, _], h => exact absurd rfl h
  | _ :: _ :: _ :: _, _ => rfl
theorem patErr_in (h : within 0 8 a = false) : patErr (.tuple [a, b]) = wr (Str.ofString "inputs") := by
  cases a with
  | int i => exact if_neg (by rw [h]; exact Bool.false_ne_true)
  | _ => rfl
theorem patErr_go {i : Int} (h : within 0 8 (.int i) = true) : patErr (.tuple [.int i, b]) = lotsErr i b := if_pos h
theorem lotsErr_tu (h : isTu b = false) : lotsErr m b = wr (Str.ofString "ends") := by
  cases b <;> first | rfl | cases h
theorem lotsErr_len (h : ¬ (ds.length : Int) ≤ 8) : lotsErr m (.tuple ds) = wr (Str.ofString "ends") := if_neg h
theorem lotsErr_go (h : (ds.length : Int) ≤ 8) : lotsErr m (.tuple ds) = lotGo m ds 0 := if_pos h
theorem lotGo_at {i k : Nat} {dx : PyData} (h : ds[i]? = some dx) : lotGo m (ds.drop i) k = if isLot m dx = true then lotGo m (ds.drop (i + 1)) (k + 1) else .tuple [.int (k : Int), .str (Str.ofString "lot")] := by
  obtain ⟨hl, e⟩ := List.getElem?_eq_some_iff.mp h
  rw [List.drop_eq_getElem_cons hl, e]
  rfl
theorem isLot_tu (h : isTu d = false) : isLot m d = false := by
  cases d <;> first | rfl | cases h
theorem isLot_go : isLot m (.tuple ds) = (ds.all (within 0 (m - 1)) && ascN (ds.map intD)) := rfl
end
theorem intD_map (ns : List Int) : (ns.map PyData.int).map intD = ns := by
  rw [List.map_map]
  exact List.map_id' ns
/-! the parts of data are shown within it -/
theorem piled_ge : ∀ ts : List Str, ts.length ≤ piled ts
  | [] => Nat.le_refl _
  | t :: ts => by
    have h := piled_ge ts
    rw [piled_cons]
    simp only [List.length_cons]
    omega
theorem shownAll_len : ∀ ds : List PyData, (PyData.shownAll ds).length = ds.length
  | [] => rfl
  | d :: ds => by
    simp only [PyData.shownAll, List.length_cons, shownAll_len ds]
theorem piled_mem : ∀ {ts : List Str} {t : Str}, t ∈ ts → t.length ≤ piled ts
  | t' :: ts, t, h => by
    rw [piled_cons]
    rcases List.mem_cons.mp h with rfl | h
    · omega
    · have := piled_mem h
      omega
theorem shownAll_mem : ∀ {ds : List PyData} {d : PyData}, d ∈ ds → d.shown ∈ PyData.shownAll ds
  | d' :: ds, d, h => by
    simp only [PyData.shownAll]
    rcases List.mem_cons.mp h with rfl | h
    · exact List.mem_cons_self
    · exact List.mem_cons_of_mem _ (shownAll_mem h)
theorem tup_long {ds : List PyData} : piled (PyData.shownAll ds) ≤ (PyData.tuple ds).shown.length + 2 := by
  simp only [PyData.shown]
  cases hq : PyData.shownAll ds with
  | nil => exact Nat.zero_le _
  | cons t r =>
    have h1 := join_length_add (t :: r) (by simp)
    unfold tupleText
    rw [strLen_append, strLen_append]
    omega
theorem tup_len {ds : List PyData} : ds.length ≤ (PyData.tuple ds).shown.length + 2 := by
  have h1 := tup_long (ds := ds)
  have h2 := piled_ge (PyData.shownAll ds)
  rw [shownAll_len] at h2
  omega
theorem tup_mem {ds : List PyData} {d : PyData} (h : d ∈ ds) : d.shown.length ≤ (PyData.tuple ds).shown.length + 2 := by
  have h1 := tup_long (ds := ds)
  have h2 := piled_mem (shownAll_mem h)
  omega
theorem ints_of {pl : Int} : ∀ {ds : List PyData}, ds.all (within 0 (pl - 1)) = true → ∃ ns : List Int, ds = ns.map PyData.int
  | [], _ => ⟨[], rfl⟩
  | d :: ds, h => by
    rw [List.all_cons, Bool.and_eq_true] at h
    obtain ⟨i, rfl, _, _⟩ := within_is h.1
    obtain ⟨ns, rfl⟩ := ints_of h.2
    exact ⟨i :: ns, rfl⟩
theorem dqI {D B : Addr} {H : Hp} : ∀ {xs : List V} {ms : List Int}, DqAll D B H xs (ms.map PyData.int) → xs = ms.map V.int
  | _, [], h => by
    cases h
    rfl
  | _, m :: ms, h => by
    cases h with
    | cons a r =>
      cases a
      rw [dqI r]
      rfl
section
variable {K : PySem.W.Frag} {a b : Addr} {xs ys : List V}
theorem walk_zipT : Walk (RZ.ItzT K a b) (min xs.length ys.length) (fun H => SqT K H a xs ∧ SqT K H b ys) (YPair (fun i => xs[i]?) (fun i => ys[i]?)) :=
  ⟨fun i H hi q => ⟨xs, ys, xs[i]'(by omega), ys[i]'(by omega), q.1, q.2, List.getElem?_eq_getElem (by omega), List.getElem?_eq_getElem (by omega)⟩,
   fun H q => ⟨xs, ys, q.1, q.2, by omega⟩,
   fun i H v H' hi q y => by
    obtain ⟨T, x, z, rfl, hT, rfl, hx, hz⟩ := y
    exact ⟨T, x, z, rfl, hT, rfl, hx xs q.1, hz ys q.2⟩⟩
theorem walk_enumT : Walk (IteT K a) xs.length (fun H => SqT K H a xs) (YPair (fun i => some (.int (i : Nat))) (fun i => xs[i]?)) :=
  ⟨fun i H hi q => ⟨xs, xs[i], q, List.getElem?_eq_getElem hi⟩, fun H q => ⟨xs, q, Nat.le_refl _⟩,
   fun i H v H' hi q y => by
    obtain ⟨T, x, rfl, hT, rfl, hx⟩ := y
    exact ⟨T, _, x, rfl, hT, rfl, rfl, hx xs q⟩⟩
end
end Jg
namespace Jg
open PySem PySem.Spec PyProof.Rows L2
abbrev sIsLot : Stmt := topS 11
abbrev nIsLot : List Str := ["value", "many", "number", "low", "high"]
theorem scIsLot : FnScope nIsLot ["value", "many"] (defScope sIsLot) := ⟨rfl, rfl, rfl, by decide +kernel, rfl, by decide +kernel, by decide +kernel⟩
theorem upB_next {ns : List Int} {i : Nat} {x y : Int} (hx : ns[i]? = some x) (hy : ns.tail[i]? = some y) : (upB ns).take (i + 1) = (upB ns).take i ++ [decide (x < y)] := by
  have e : (upB ns)[i]? = some (decide (x < y)) := by
    unfold upB
    rw [List.getElem?_map, List.getElem?_zip_eq_some.mpr (show ns[i]? = some (x, y).1 ∧ ns.tail[i]? = some (x, y).2 from ⟨hx, hy⟩)]
    rfl
  rw [List.take_add_one, e]
  rfl
theorem upB_len (ns : List Int) : (upB ns).length = min ns.length ns.tail.length := by
  unfold upB
  rw [List.length_map, List.length_zip]
section
variable {P : Program} {w : World} {K : PySem.W.Frag} {mg : Str → Option Value} {base : Heap}
def spLot : Sp := fun vs H Q _ => ∃ (D B : Addr) (v : V) (d : PyData) (m : Int), vs = [v, .int m] ∧ Dq D B H v d ∧ d.shown.length ≤ 2900000 ∧ ∀ H', Same H H' → Q (.bl (isLot m d)) H'
set_option maxHeartbeats 4000000 in
theorem ok_isLot {f f1 f2 : Addr} {fd fd1 fd2 : FuncData} (F : Nm K mg "is_lot" sIsLot ["value", "many"] f fd) (N1 : Nm K mg "is_integer" sInt ["value"] f1 fd1) (N2 : Nm K mg "is_within" sWith ["value", "low", "high"] f2 fd2) (T : Bn mg) (T2 : Bn2 mg) :
    FnOk P w K mg base CX0 3 f fd ["value", "many"] spLot := by
  have G2 : FnOk P w K mg base CX0 2 f2 fd2 ["value", "low", "high"] spWith := ok_with N2.F N1.F N1.b N1.g T
  refine F.F.ok scIsLot (fun vs H Q E h => ?_) (fun cdv A outer s H vs Q E hr h => ?_)
  · obtain ⟨D, B, v, d, m, rfl, _⟩ := h
    rfl
  · obtain ⟨D, B, v, d, m, rfl, hd, hz, q⟩ := h
    refine ⟨_, pss_cons (ps_if (PW.pt (pw_or (pt_not (pt_val (pe_callB call_isi (by rfl) T.isi PyProof.Rows.boot_isinstance (pa_cons (pv 0) (pa_cons (pe_bltn (by rfl) T.tup boot_tuple' (v := .ty "tuple") rfl) pa_nil)))))
        (pw_or1 (pt_not (pt_val (pe_callB (cr_all rfl) (by rfl) T.all boot_all' (pa_cons (pe_lc (own := [("number", 2)]) (g := gName 2) (tt := tYes) rfl scIsLot.nd (pi_tup (pv 0)) (blkOk_by (N := nIsLot) (sc := defScope sIsLot) (by decide +kernel))
        (fun _ _ _ _ _ => pg_name (i := 2) scIsLot.nd rfl (.inl rfl)) (fun _ _ _ _ _ => pts_nil) (fun _ _ _ _ _ => pe_call G2 (hr.mono (by decide)) (by rfl) N2.g N2.F.kp N2.b .nil pass0 (pa_cons (pv 2) (pa_cons pe_int (pa_cons (pe_op op_sub (pv 1) pe_int) pa_nil))))) pa_nil))))))) (pss_one (ps_ret pe_bl)) pss_nil)
      (pss_one (ps_ret (pe_callB (cr_all rfl) (by rfl) T.all boot_all' (pa_cons (pe_lc (own := [("low", 3), ("high", 4)]) (g := gTup K 2 (gCons (gName 3) (gCons (gName 4) gNil))) (tt := tYes) rfl scIsLot.nd (RZ.pi_zipA (by rfl) T2.zip (pa_cons (pv 0) (pa_cons (pe_slice sl_tupA (pv 0) (po_some pe_int) po_none) pa_nil))) (blkOk_by (N := nIsLot) (sc := defScope sIsLot) (by decide +kernel))
        (fun _ _ _ _ _ => pg_tup rfl (pgs_cons (pg_name (i := 3) scIsLot.nd rfl (.inl rfl)) (pgs_cons (pg_name (i := 4) scIsLot.nd rfl (.inl rfl)) pgs_nil))) (fun _ _ _ _ _ => pts_nil) (fun _ _ _ _ _ => pe_cmpR op_lt (pv 3) (pv 4) (nomark _))) pa_nil)))), ?_⟩
    refine ⟨v, rfl, v, .ty "tuple", _, _, _, rfl, .ty "tuple", hd.ty, kTup d, _, rfl, ?_⟩
    cases hb : isTu d with
    | false =>
      have q2 := q H (Same.refl H)
      rw [isLot_tu hb] at q2
      exact iteT (iteT q2)
    | true =>
      obtain ⟨a, xs, ds, rfl, rfl, e, ha⟩ := isTu_of hd hb
      have hl := ha.len
      have hn := tup_len (ds := ds)
      rw [isLot_go] at q
      refine iteF ⟨_, rfl, a, rfl, ⟨_, SqT.of e⟩, fun D1 nD1 => ?_⟩
      refine lc_tup (K := K) (a := a) (xs := xs) (fun i H3 => H3 D1 = some (.lst (((ds.take i).map (within 0 (m - 1))).map V.bl)) ∧ Same H H3) ⟨upd_same, same_upd nD1⟩ (fun i H3 _ h => SqT.of (h.2 _ _ e)) ?_ ?_
      · rintro i y H3 hi ⟨k5, s5⟩
        obtain ⟨dx, hdx, hx⟩ := ha.at_ i y hi
        have hil : i < xs.length := (List.getElem?_eq_some_iff.mp hi).1
        refine ⟨rfl, tYes_if ⟨y, rfl, _, rfl, _, _, rfl, rfl, D, B, y, dx, 0, m - 1, rfl, hx.same s5, _, k5, ?_, ?_, ?_⟩⟩
        · simp only [List.length_map, List.length_take]
          exact Nat.lt_of_le_of_lt (Nat.min_le_right _ _) (smallN (by omega))
        · rw [upd_same, take_map_next hdx, List.map_append]
          rfl
        · intro z o hz
          rw [upd_ne (ne_of_none hz nD1)]
          exact s5 z o hz
      · rintro H3 ⟨k5, s5⟩
        refine ⟨D1, _, rfl, SqL.of k5, _, rfl, ?_⟩
        have eall : ((ds.take xs.length).map (within 0 (m - 1))).all id = ds.all (within 0 (m - 1)) := by
          rw [hl, List.take_length, List.all_map]
          rfl
        rw [eall]
        cases hw : ds.all (within 0 (m - 1)) with
        | false =>
          have q2 := q _ s5
          rw [hw] at q2
          exact iteT q2
        | true =>
          obtain ⟨ns, rfl⟩ := ints_of hw
          rw [hw, Bool.true_and, intD_map] at q
          obtain rfl : xs = ns.map V.int := dqI ha
          rw [List.length_map] at hl hn
          refine iteF ⟨_, rfl, _, rfl, _, rfl, ?_⟩
          dsimp only [tNoPart]
          refine sl_read (s5 _ _ e) fun c6 H6 s6 g6 => ?_
          have g6' : H6 c6 = some (.tup (ns.tail.map V.int)) := g6.trans (congrArg (fun z => some (HO.tup z)) ((cutV_from (ns.map V.int) 1).trans (by rw [List.drop_one, List.map_tail])))
          have s56 := s5.trans s6
          have e6 := s56 _ _ e
          refine ⟨a, c6, _, _, rfl, .inr ⟨SqT.of e6, SqT.of g6', fun D2 nD2 => ?_⟩⟩
          refine lc_it (walk_zipT (K := K) (a := a) (b := c6) (xs := ns.map V.int) (ys := ns.tail.map V.int)) (fun i H3 => H3 D2 = some (.lst (((upB ns).take i).map V.bl)) ∧ Same H6 H3) ⟨upd_same, same_upd nD2⟩ (fun i H3 _ h => ⟨SqT.of (h.2 _ _ e6), SqT.of (h.2 _ _ g6')⟩) ?_ ?_
          · rintro i y H7 H8 hi ⟨k7, s7⟩ ⟨Tt, x, z, rfl, hT, rfl, hx, hy⟩
            have hx : (ns.map V.int)[i]? = some x := hx
            have hy : (ns.tail.map V.int)[i]? = some z := hy
            rw [List.getElem?_map] at hx hy
            obtain ⟨nx, hnx, rfl⟩ := Option.map_eq_some_iff.mp hx
            obtain ⟨ny, hny, rfl⟩ := Option.map_eq_some_iff.mp hy
            have sT := same_upd (o := .tup [.int nx, .int ny]) hT
            refine ⟨Tt, _, rfl, SqT.of upd_same, rfl, .int nx, [.int ny], rfl, .int ny, [], rfl, rfl, wipe2 (by decide), tYes_if ⟨_, rfl, _, rfl, _, _, rfl, rfl, _, sT _ _ k7, ?_, ?_, ?_⟩⟩
            · rw [List.length_map]
              refine Nat.lt_of_le_of_lt (List.length_take_le' _ _) (smallN ?_)
              rw [upB_len]
              omega
            · rw [upd_same, upB_next hnx hny, List.map_append]
              rfl
            · intro b o hb
              have hb2 := s7 _ _ hb
              rw [upd_ne (ne_of_none hb nD2)]
              exact sT _ _ hb2
          · rintro H7 ⟨k7, s7⟩
            refine ⟨D2, _, rfl, SqL.of k7, ?_⟩
            have q2 := q _ (s56.trans s7)
            have ea : (upB ns).take (min (ns.map V.int).length (ns.tail.map V.int).length) = upB ns := List.take_of_length_le (by rw [upB_len, List.length_map, List.length_map]; exact Nat.le_refl _)
            rw [ea]
            exact q2
end
end Jg
namespace Jg
open PySem PySem.Spec PyProof.Rows L2
theorem dq_patN {d : PyData} (h : tupOf 2 d = false) : patErr d = wr (Str.ofString "pattern") := by
  cases hb : isTu d with
  | false => exact patErr_tu hb
  | true =>
    cases d with
    | tuple ds => exact patErr_len (fun z => of_decide_eq_false (show decide ((ds.length : Int) = 2) = false from h) (by rw [z]; rfl))
    | _ => cases hb
abbrev sPErr : Stmt := topS 10
abbrev nPErr : List Str := ["value", "many", "lots", "index", "lot"]
theorem scPErr : FnScope nPErr ["value"] (defScope sPErr) := ⟨rfl, rfl, rfl, by decide +kernel, rfl, by decide +kernel, by decide +kernel⟩
section
variable {P : Program} {w : World} {K : PySem.W.Frag} {mg : Str → Option Value} {base : Heap}
structure Pg (K : PySem.W.Frag) (mg : Str → Option Value) : Prop where
  int : ∃ f fd, Nm K mg "is_integer" sInt ["value"] f fd
  wit : ∃ f fd, Nm K mg "is_within" sWith ["value", "low", "high"] f fd
  tup : ∃ f fd, Nm K mg "is_tuple_of" sTupO ["value", "many"] f fd
  lot : ∃ f fd, Nm K mg "is_lot" sIsLot ["value", "many"] f fd
  mxI : ∃ t, mg "MAX_INPUTS" = some (.int 8 t)
  mxE : ∃ t, mg "MAX_ENDS" = some (.int 8 t)
def spPErr : Sp := fun vs H Q _ => ∃ (D B : Addr) (v : V) (d : PyData), vs = [v] ∧ Dq D B H v d ∧ d.shown.length ≤ 2800000 ∧ ∀ u H', Same H H' → Dq D B H' u (patErr d) → Q u H'
set_option maxHeartbeats 4000000 in
theorem ok_pErr {f : Addr} {fd : FuncData} (F : Nm K mg "pattern_error" sPErr ["value"] f fd) (G : Pg K mg) (T : Bn mg) (T2 : Bn2 mg) : FnOk P w K mg base CX0 4 f fd ["value"] spPErr := by
  obtain ⟨f1, fd1, N1⟩ := G.int
  obtain ⟨f2, fd2, N2⟩ := G.wit
  obtain ⟨f3, fd3, N3⟩ := G.tup
  obtain ⟨f4, fd4, N4⟩ := G.lot
  obtain ⟨tI, gI⟩ := G.mxI
  obtain ⟨tE, gE⟩ := G.mxE
  have G2 : FnOk P w K mg base CX0 2 f2 fd2 ["value", "low", "high"] spWith := ok_with N2.F N1.F N1.b N1.g T
  have G3 : FnOk P w K mg base CX0 1 f3 fd3 ["value", "many"] spTupO := ok_tupO N3.F T
  have G4 : FnOk P w K mg base CX0 3 f4 fd4 ["value", "many"] spLot := ok_isLot N4 N1 N2 T T2
  refine F.F.ok scPErr (fun vs H Q E h => ?_) (fun cdv A outer s H vs Q E hr h => ?_)
  · obtain ⟨D, B, v, d, rfl, _⟩ := h
    rfl
  · obtain ⟨D, B, v, d, rfl, hd, hz, q⟩ := h
    have hr1 : Room 1 _ := hr.mono (by decide)
    refine ⟨_, pss_cons (ps_if (pt_not (pt_val (pe_call G3 hr1 (by rfl) N3.g N3.F.kp N3.b .nil pass0 (pa_cons (pv 0) (pa_cons pe_int pa_nil))))) (pss_one (ps_ret (pe_tup (pa_cons pe_non (pa_cons pe_str pa_nil))))) pss_nil)
      (pss_cons (ps_asg (pv 0) (pg_tup rfl (pgs_cons (pg_name (i := 1) scPErr.nd rfl (.inl rfl)) (pgs_cons (pg_name (i := 2) scPErr.nd rfl (.inl rfl)) pgs_nil))))
      (pss_cons (ps_if (pt_not (pt_val (pe_call G2 (hr.mono (by decide)) (by rfl) N2.g N2.F.kp N2.b .nil pass0 (pa_cons (pv 1) (pa_cons pe_int (pa_cons (pe_glob (v := .int 8) rfl gI ⟨_, rfl⟩) pa_nil)))))) (pss_one (ps_ret (pe_tup (pa_cons pe_non (pa_cons pe_str pa_nil))))) pss_nil)
      (pss_cons (ps_if (PW.pt (pw_or (pt_not (pt_val (pe_callB call_isi (by rfl) T.isi PyProof.Rows.boot_isinstance (pa_cons (pv 2) (pa_cons (pe_bltn (by rfl) T.tup boot_tuple' (v := .ty "tuple") rfl) pa_nil)))))
        (pw_or1 (pt_cmpR op_gt (pe_callB call_len_seq (by rfl) T.len PySem.boot_len (pa_cons (pv 2) pa_nil)) (pe_glob (v := .int 8) rfl gE ⟨_, rfl⟩) (nomark _))))) (pss_one (ps_ret (pe_tup (pa_cons pe_non (pa_cons pe_str pa_nil))))) pss_nil)
      (pss_cons (ps_for PassesOwn.never rfl (pi_enumT (by rfl) T.enu (pa_cons (pv 2) pa_nil)) (pg_tup rfl (pgs_cons (pg_name (i := 3) scPErr.nd rfl (.inl rfl)) (pgs_cons (pg_name (i := 4) scPErr.nd rfl (.inl rfl)) pgs_nil)))
        (pss_one (ps_if (pt_not (pt_val (pe_call G4 (hr.mono (by decide)) (by rfl) N4.g N4.F.kp N4.b .nil pass0 (pa_cons (pv 4) (pa_cons (pv 1) pa_nil))))) (pss_one (ps_ret (pe_tup (pa_cons (pv 3) (pa_cons pe_str pa_nil))))) pss_nil)))
      (pss_one (ps_ret pe_non)))))), ?_⟩
    refine ⟨_, rfl, D, B, v, d, 2, rfl, hd, _, rfl, ?_⟩
    cases hb : tupOf 2 d with
    | false =>
      rw [dq_patN hb] at q
      exact iteT ⟨sz1 rfl, fun p np => q _ _ (same_upd np) (dq_wr upd_same)⟩
    | true =>
      obtain ⟨a, xs, ds, rfl, rfl, e, ha, hl⟩ := tupOf_yes hd hb
      obtain ⟨da, db, rfl⟩ := two_of (ds := ds) (by omega)
      obtain ⟨x1, x2, rfl, h1, h2⟩ := dq_two ha
      refine iteF ⟨_, rfl, a, _, rfl, SqT.of e, rfl, x1, [x2], rfl, x2, [], rfl, rfl, ?_⟩
      refine ⟨_, rfl, D, B, x1, da, 0, 8, rfl, h1, _, rfl, ?_⟩
      cases hw : within 0 8 da with
      | false =>
        rw [patErr_in hw] at q
        exact iteT ⟨sz1 rfl, fun p np => q _ _ (same_upd np) (dq_wr upd_same)⟩
      | true =>
        obtain ⟨pl, rfl, i0, i1⟩ := within_is hw
        cases h1.intE
        rw [patErr_go hw] at q
        refine iteF ⟨_, rfl, x2, .ty "tuple", _, _, _, rfl, .ty "tuple", h2.ty, kTup db, _, rfl, ?_⟩
        cases hb3 : isTu db with
        | false =>
          rw [lotsErr_tu hb3] at q
          exact iteT (iteT ⟨sz1 rfl, fun p np => q _ _ (same_upd np) (dq_wr upd_same)⟩)
        | true =>
          obtain ⟨a2, ys, dys, rfl, rfl, e2, ha2⟩ := isTu_of h2 hb3
          have hly := ha2.len
          have hz2 : (PyData.tuple dys).shown.length ≤ 2800002 := Nat.le_trans (tup_mem (ds := [.int pl, .tuple dys]) (List.mem_cons_of_mem _ List.mem_cons_self)) (by omega)
          refine iteF ⟨_, rfl, a2, ys, rfl, .inr (SqT.of e2), _, _, rfl, rfl, _, rfl, ite2 (fun c => ?_) (fun c => ?_)⟩
          · have c2 := of_decide_eq_true c
            rw [lotsErr_len (by rw [← hly]; omega)] at q
            exact ⟨sz1 rfl, fun p np => q _ _ (same_upd np) (dq_wr upd_same)⟩
          · have c2 : ((ys.length : Nat) : Int) ≤ 8 := Int.not_lt.mp fun z => c (decide_eq_true z)
            rw [lotsErr_go (by rw [← hly]; exact c2)] at q
            refine ⟨_, rfl, a2, ys, rfl, SqT.of e2, for_enumT (K := K) (a := a2) (xs := ys) (fun i σ H3 => ∃ (y4 y5 : Option V), σ = [some (.ref a), some (.int pl), some (.ref a2), y4, y5] ∧ lotGo pl dys 0 = lotGo pl (dys.drop i) i ∧ Same H H3)
              ⟨none, none, rfl, rfl, Same.refl H⟩ (fun i σ H3 _ ⟨_, _, _, _, s⟩ => SqT.of (s _ _ e2)) ?_ ?_⟩
            · rintro i y Tt σ H3 hy ⟨y4, y5, rfl, heq, s3⟩ hT
              have hi : i < ys.length := (List.getElem?_eq_some_iff.mp hy).1
              have sT := same_upd (o := .tup [.int ((i : Nat) : Int), y]) hT
              have s3T := s3.trans sT
              obtain ⟨dx, hdx, hxx⟩ := ha2.at_ i _ hy
              have hx3 := hxx.same s3T
              have hzx : dx.shown.length ≤ 2900000 := Nat.le_trans (tup_mem (ds := dys) (List.mem_of_getElem? hdx)) (by omega)
              rw [lotGo_at hdx] at heq
              refine ⟨Tt, _, rfl, SqT.of upd_same, rfl, .int ((i : Nat) : Int), [y], rfl, y, [], rfl, rfl, ?_⟩
              refine ⟨_, rfl, _, rfl, D, B, y, dx, pl, rfl, hx3, hzx, fun H4 s4 => ⟨_, rfl, ?_⟩⟩
              have s34 := s3T.trans s4
              cases kM : isLot pl dx with
              | false =>
                rw [heq, if_neg (by rw [kM]; exact Bool.false_ne_true)] at q
                exact iteT ⟨_, rfl, sz1 rfl, fun p np => q _ _ (s34.trans (same_upd np)) (dq_nr upd_same)⟩
              | true =>
                rw [if_pos kM] at heq
                exact iteF ⟨_, _, rfl, heq, s34⟩
            · rintro σ H3 ⟨y4, y5, rfl, heq, s3⟩
              rw [heq, List.drop_eq_nil_of_le (by omega)] at q
              exact q _ _ s3 .non
end
end Jg
namespace Jg
open PySem PySem.Spec PyProof.Rows L2
/-! ### the law's look at patterns -/
theorem ints_eqv (ks : List Int) : PyData.eqv (.list (ks.map PyData.int)) (.list []) = decide (ks.length = 0) := by
  cases ks with
  | nil => simp [PyData.eqv, PyData.eqvAll]
  | cons k ks => simp [PyData.eqv, PyData.eqvAll]
abbrev sLLot : Stmt := topS 21
abbrev nLLot : List Str := ["_law_value", "_law_many", "_law_own", "_law_k"]
theorem scLLot : FnScope nLLot ["_law_value", "_law_many"] (defScope sLLot) := ⟨rfl, rfl, rfl, by decide +kernel, rfl, by decide +kernel, by decide +kernel⟩
section
variable {P : Program} {w : World} {K : PySem.W.Frag} {mg : Str → Option Value} {base : Heap}
set_option maxHeartbeats 4000000 in
theorem ok_lLot {f fW : Addr} {fd fdW : FuncData} (F : Nm K mg "_law_is_lot" sLLot ["_law_value", "_law_many"] f fd) (FW : Nm K mg "_law_whole" sWhole ["_law_value", "_law_least", "_law_most"] fW fdW) (T : Bn mg) : FnOk P w K mg base CX0 2 f fd ["_law_value", "_law_many"] spLot := by
  have GW : FnOk P w K mg base CX0 1 fW fdW ["_law_value", "_law_least", "_law_most"] spWith := ok_whole FW.F T
  refine F.F.ok scLLot (fun vs H Q E h => ?_) (fun cdv A outer s H vs Q E hr h => ?_)
  · obtain ⟨D, B, v, d, m, rfl, _⟩ := h
    rfl
  · obtain ⟨D, B, v, d, m, rfl, hd, hz, q⟩ := h
    have hu := hr.units
    refine ⟨_, pss_cons (ps_if (PW.pt (pw_or (pt_not (pt_val (pe_callB call_isi (by rfl) T.isi PyProof.Rows.boot_isinstance (pa_cons (pv 0) (pa_cons (pe_bltn (by rfl) T.tup boot_tuple' (v := .ty "tuple") rfl) pa_nil)))))
        (pw_or1 (pt_cmpR (op_neD hu) (pe_lc (own := [("_law_own", 2)]) (g := gName 2) rfl scLLot.nd (pi_tup (pv 0)) (blkOk_by (N := nLLot) (sc := defScope sLLot) (by decide +kernel))
            (fun _ _ _ _ _ => pg_name (i := 2) scLLot.nd rfl (.inl rfl)) (fun _ _ _ _ _ => pts_one (pt_not (pt_val (pe_call GW (hr.mono (by decide)) (by rfl) FW.g FW.F.kp FW.b .nil pass0 (pa_cons (pv 2) (pa_cons pe_int (pa_cons (pe_op op_sub (pv 1) pe_int) pa_nil))))))) (fun _ _ _ _ _ => pe_int)) (pe_lst pa_nil) (nomark _))))) (pss_one (ps_ret pe_bl)) pss_nil)
      (pss_one (ps_ret (pe_cmpR (op_eqD hu) (pe_lc (own := [("_law_k", 3)]) (g := gName 3) rfl scLLot.nd (pi_range2 (by rfl) T.rng (pa_cons pe_int (pa_cons (pe_callB call_len_seq (by rfl) T.len PySem.boot_len (pa_cons (pv 0) pa_nil)) pa_nil))) (blkOk_by (N := nLLot) (sc := defScope sLLot) (by decide +kernel))
            (fun _ _ _ _ _ => pg_name (i := 3) scLLot.nd rfl (.inl rfl)) (fun _ _ _ _ _ => pts_one (pt_cmpR op_ge (pe_ix (ix_tupK (K := K) rfl) (pv 0) (pe_op op_sub (pv 3) pe_int) (fun _ _ => rfl)) (pe_ix (ix_tupK (K := K) rfl) (pv 0) (pv 3) (fun _ _ => rfl)) (nomark _))) (fun _ _ _ _ _ => pv 3)) (pe_lst pa_nil) (nomark _)))), ?_⟩
    refine ⟨v, rfl, v, .ty "tuple", _, _, _, rfl, .ty "tuple", hd.ty, kTup d, _, rfl, ?_⟩
    cases hb : isTu d with
    | false =>
      have q2 := q H (Same.refl H)
      rw [isLot_tu hb] at q2
      exact iteT (iteT q2)
    | true =>
      obtain ⟨a, xs, ds, rfl, rfl, e, ha⟩ := isTu_of hd hb
      have hl := ha.len
      have hn := tup_len (ds := ds)
      rw [isLot_go] at q
      refine iteF ⟨_, rfl, a, rfl, ⟨_, SqT.of e⟩, fun D1 nD1 => ?_⟩
      refine lc_tup (K := K) (a := a) (xs := xs) (fun i H5 => ∃ n : Nat, n ≤ i ∧ H5 D1 = some (.lst ((List.replicate n (1 : Int)).map V.int)) ∧ decide (n = 0) = (ds.take i).all (within 0 (m - 1)) ∧ Same H H5) ⟨0, Nat.le_refl _, upd_same, rfl, same_upd nD1⟩ (fun i H5 _ ⟨_, _, _, _, h⟩ => SqT.of (h _ _ e)) ?_ ?_
      · rintro i y H5 hi ⟨n, hm, k5, k6, s5⟩
        obtain ⟨dx, hdx, hx⟩ := ha.at_ i y hi
        have hil : i < xs.length := (List.getElem?_eq_some_iff.mp hi).1
        have hal : (ds.take (i + 1)).all (within 0 (m - 1)) = ((ds.take i).all (within 0 (m - 1)) && within 0 (m - 1) dx) := by
          rw [List.take_add_one, hdx, List.all_append]
          simp
        refine ⟨rfl, y, rfl, _, rfl, _, _, rfl, rfl, D, B, y, dx, 0, m - 1, rfl, hx.same s5, _, rfl, ?_⟩
        cases hk : within 0 (m - 1) dx with
        | true =>
          refine iteF ⟨n, by omega, k5, ?_, s5⟩
          rw [hal, hk, Bool.and_true]
          exact k6
        | false =>
          refine iteT ⟨_, k5, ?_, n + 1, by omega, ?_, ?_, ?_⟩
          · rw [List.length_map, List.length_replicate]
            exact smallN (by omega)
          · rw [upd_same, List.replicate_succ', List.map_append]
            rfl
          · rw [hal, hk, Bool.and_false]
            rfl
          · intro z o hz
            rw [upd_ne (ne_of_none hz nD1)]
            exact s5 z o hz
      · rintro H5 ⟨n, hm, k5, k6, s5⟩
        refine ⟨Nat.zero_le _, fun p6 np6 => ?_⟩
        have s6 : Same H5 (upd H5 p6 (.lst [])) := same_upd np6
        have s06 := s5.trans s6
        refine ⟨.list ((List.replicate n (1 : Int)).map PyData.int), .list [], .lst (SqL.of (s6 _ _ k5)) (dp_ints _), .lst (SqL.of upd_same) .nil, shaped_ints _, shaped_ints [], _, rfl, ?_⟩
        rw [ones_eqv n, k6, hl, List.take_length]
        cases hw : ds.all (within 0 (m - 1)) with
        | false =>
          have q2 := q _ s06
          rw [hw] at q2
          exact iteT q2
        | true =>
          obtain ⟨ns, rfl⟩ := ints_of hw
          rw [hw, Bool.true_and, intD_map] at q
          obtain rfl : xs = ns.map V.int := dqI ha
          rw [List.length_map] at hl hn
          have e6 := s06 _ _ e
          have hnl : (ns.map V.int).length = ns.length := List.length_map _
          refine iteF ⟨_, rfl, a, _, rfl, .inr (SqT.of e6), 1, _, rfl, ?_, fun D2 nD2 => ?_⟩
          · refine ⟨by decide, by decide, ?_, ?_⟩ <;> omega
          have e0 : (upd H5 p6 (.lst [])) a = some (.tup (ns.map V.int)) := e6
          have cnt : (((ns.map V.int).length : Int) - 1).toNat = ns.tail.length := by
            rw [hnl, List.length_tail]
            omega
          rw [cnt]
          refine lc_range (lo := 1) (n := ns.tail.length) (fun i H7 => ∃ ks : List Int, ks.length ≤ i ∧ H7 D2 = some (.lst (ks.map V.int)) ∧ decide (ks.length = 0) = ((upB ns).take i).all id ∧ Same (upd H5 p6 (.lst [])) H7) ⟨[], Nat.le_refl _, upd_same, rfl, same_upd nD2⟩ ?_ ?_
          · rintro i H7 hi ⟨ks, hkl, k7, k8, s7⟩
            have htl : ns.tail.length = ns.length - 1 := List.length_tail
            have h1 : ns[i]? = some ns[i] := List.getElem?_eq_getElem (by omega)
            have h2 : ns.tail[i]? = some ns[i + 1] := by
              rw [List.getElem?_tail]
              exact List.getElem?_eq_getElem (by omega)
            have e7 := s7 _ _ e6
            have hal : ((upB ns).take (i + 1)).all id = (((upB ns).take i).all id && decide (ns[i] < ns[i + 1])) := by
              rw [upB_next h1 h2, List.all_append]
              simp
            have i0 : (1 : Int) + (i : Int) - 1 = ((i : Nat) : Int) := by omega
            have i1 : (1 : Int) + (i : Int) = ((i + 1 : Nat) : Int) := by omega
            refine ⟨wipe1, _, rfl, _, rfl, _, _, rfl, rfl, a, _, (1 : Int) + (i : Int) - 1, .int ns[i], rfl, rfl, SqT.of e7, ?_, _, rfl, _, rfl, a, _, (1 : Int) + (i : Int), .int ns[i + 1], rfl, rfl, SqT.of e7, ?_, _, _, rfl, rfl, _, rfl, ?_⟩
            · rw [i0]
              exact atI_nat (by rw [List.getElem?_map, h1]; rfl)
            · rw [i1]
              exact atI_nat (by rw [List.getElem?_map, List.getElem?_eq_getElem (by omega)]; rfl)
            by_cases c : ns[i] < ns[i + 1]
            · rw [decide_eq_false (by omega)]
              refine iteF ⟨ks, by omega, k7, ?_, s7⟩
              rw [hal, decide_eq_true c, Bool.and_true]
              exact k8
            · rw [decide_eq_true (by omega)]
              refine iteT ⟨_, rfl, _, k7, ?_, ks ++ [(1 : Int) + (i : Int)], ?_, ?_, ?_, ?_⟩
              · rw [List.length_map]
                exact smallN (by omega)
              · rw [List.length_append]
                exact Nat.succ_le_succ hkl
              · rw [upd_same, List.map_append]
                rfl
              · rw [hal, decide_eq_false c, Bool.and_false, List.length_append]
                exact decide_eq_false (by show ¬ ks.length + 1 = 0; omega)
              · intro z o hz
                rw [upd_ne (ne_of_none hz nD2)]
                exact s7 z o hz
          · rintro H7 ⟨ks, hkl, k7, k8, s7⟩
            refine ⟨Nat.zero_le _, fun p8 np8 => ?_⟩
            have s8 : Same H7 (upd H7 p8 (.lst [])) := same_upd np8
            have ea : (upB ns).take ns.tail.length = upB ns := List.take_of_length_le (by rw [upB_len]; omega)
            rw [ea] at k8
            refine ⟨.list (ks.map PyData.int), .list [], .lst (SqL.of (s8 _ _ k7)) (dp_ints _), .lst (SqL.of upd_same) .nil, shaped_ints _, shaped_ints [], ?_⟩
            rw [ints_eqv, k8]
            exact q _ (s06.trans (s7.trans s8))
end
end Jg
namespace Jg
open PySem PySem.Spec PyProof.Rows L2
def badIx (m : Int) : List PyData → Nat → List Int
  | [], _ => []
  | d :: ds, k => if isLot m d = true then badIx m ds (k + 1) else (k : Int) :: badIx m ds (k + 1)
theorem badIx_app (m : Int) (d : PyData) : ∀ (ds : List PyData) (k : Nat), badIx m (ds ++ [d]) k = badIx m ds k ++ (if isLot m d = true then [] else [((k + ds.length : Nat) : Int)])
  | [], k => by
    show (if isLot m d = true then [] else [(k : Int)]) = _
    split <;> rfl
  | e :: ds, k => by
    have ih := badIx_app m d ds (k + 1)
    have hk : k + 1 + ds.length = k + (e :: ds).length := by
      rw [List.length_cons]
      omega
    rw [hk] at ih
    show (if isLot m e = true then badIx m (ds ++ [d]) (k + 1) else (k : Int) :: badIx m (ds ++ [d]) (k + 1)) = (if isLot m e = true then badIx m ds (k + 1) else (k : Int) :: badIx m ds (k + 1)) ++ _
    rw [ih]
    split <;> rfl
theorem badIx_len (m : Int) : ∀ (ds : List PyData) (k : Nat), (badIx m ds k).length ≤ ds.length
  | [], _ => Nat.le_refl _
  | d :: ds, k => by
    have := badIx_len m ds (k + 1)
    unfold badIx
    split
    · exact Nat.le_succ_of_le this
    · exact Nat.succ_le_succ this
theorem lotGo_bad (m : Int) : ∀ (ds : List PyData) (k : Nat), lotGo m ds k = match badIx m ds k with | [] => .none | j :: _ => .tuple [.int j, .str (Str.ofString "lot")]
  | [], _ => rfl
  | d :: ds, k => by
    unfold badIx lotGo
    split
    · exact lotGo_bad m ds (k + 1)
    · rfl
abbrev sLPErr : Stmt := topS 23
abbrev nLPErr : List Str := ["_law_value", "_law_wrong", "_law_k"]
theorem scLPErr : FnScope nLPErr ["_law_value"] (defScope sLPErr) := ⟨rfl, rfl, rfl, by decide +kernel, rfl, by decide +kernel, by decide +kernel⟩
section
variable {P : Program} {w : World} {K : PySem.W.Frag} {mg : Str → Option Value} {base : Heap}
set_option maxHeartbeats 4000000 in
theorem ok_lPErr {f fW fM : Addr} {fd fdW fdM : FuncData} (F : Nm K mg "_law_pattern_error" sLPErr ["_law_value"] f fd) (FW : Nm K mg "_law_whole" sWhole ["_law_value", "_law_least", "_law_most"] fW fdW) (FM : Nm K mg "_law_is_lot" sLLot ["_law_value", "_law_many"] fM fdM) (T : Bn mg) : FnOk P w K mg base CX0 3 f fd ["_law_value"] spPErr := by
  have GW : FnOk P w K mg base CX0 1 fW fdW ["_law_value", "_law_least", "_law_most"] spWith := ok_whole FW.F T
  have GM : FnOk P w K mg base CX0 2 fM fdM ["_law_value", "_law_many"] spLot := ok_lLot FM FW T
  refine F.F.ok scLPErr (fun vs H Q E h => ?_) (fun cdv A outer s H vs Q E hr h => ?_)
  · obtain ⟨D, B, v, d, rfl, _⟩ := h
    rfl
  · obtain ⟨D, B, v, d, rfl, hd, hz, q⟩ := h
    have hu := hr.units
    have hr1 : Room 1 _ := hr.mono (by decide)
    refine ⟨_, pss_cons (ps_if (PW.pt (pw_or (pt_not (pt_val (pe_callB call_isi (by rfl) T.isi PyProof.Rows.boot_isinstance (pa_cons (pv 0) (pa_cons (pe_bltn (by rfl) T.tup boot_tuple' (v := .ty "tuple") rfl) pa_nil)))))
        (pw_or1 (pt_cmpR op_ne (pe_callB call_len_seq (by rfl) T.len PySem.boot_len (pa_cons (pv 0) pa_nil)) pe_int (nomark _))))) (pss_one (ps_ret (pe_tup (pa_cons pe_non (pa_cons pe_str pa_nil))))) pss_nil)
      (pss_cons (ps_if (pt_not (pt_val (pe_call GW hr1 (by rfl) FW.g FW.F.kp FW.b .nil pass0 (pa_cons (pe_ix ix_tup (pv 0) pe_int (fun _ _ => rfl)) (pa_cons pe_int (pa_cons pe_int pa_nil)))))) (pss_one (ps_ret (pe_tup (pa_cons pe_non (pa_cons pe_str pa_nil))))) pss_nil)
      (pss_cons (ps_if (PW.pt (pw_or (pt_not (pt_val (pe_callB call_isi (by rfl) T.isi PyProof.Rows.boot_isinstance (pa_cons (pe_ix ix_tup (pv 0) pe_int (fun _ _ => rfl)) (pa_cons (pe_bltn (by rfl) T.tup boot_tuple' (v := .ty "tuple") rfl) pa_nil)))))
        (pw_or1 (pt_cmpR op_gt (pe_callB call_len_seq (by rfl) T.len PySem.boot_len (pa_cons (pe_ix ix_tup (pv 0) pe_int (fun _ _ => rfl)) pa_nil)) pe_int (nomark _))))) (pss_one (ps_ret (pe_tup (pa_cons pe_non (pa_cons pe_str pa_nil))))) pss_nil)
      (pss_cons (ps_setLc (i := 1) (own := [("_law_k", 2)]) (g := gName 2) rfl scLPErr.nd rfl rfl (sw_true rfl rfl rfl rfl) (pi_range1 (by rfl) T.rng (pa_cons (pe_callB call_len_seq (by rfl) T.len PySem.boot_len (pa_cons (pe_ix ix_tup (pv 0) pe_int (fun _ _ => rfl)) pa_nil)) pa_nil)) (blkOk_by (N := nLPErr) (sc := defScope sLPErr) (by decide +kernel))
            (fun _ _ _ _ _ => pg_name (i := 2) scLPErr.nd rfl (.inl rfl)) (fun _ _ _ _ _ => pts_one (pt_not (pt_val (pe_call GM (hr.mono (by decide)) (by rfl) FM.g FM.F.kp FM.b .nil pass0 (pa_cons (pe_ix (ix_tupK (K := K) rfl) (pe_ix (ix_tupK (K := K) rfl) (pv 0) pe_int (fun _ _ => rfl)) (pv 2) (fun _ _ => rfl)) (pa_cons (pe_ix (ix_tupK (K := K) rfl) (pv 0) pe_int (fun _ _ => rfl)) pa_nil)))))) (fun _ _ _ _ _ => pv 2))
      (pss_one (ps_ret (pe_ifExp (pt_cmpR (op_neD hu) (pv 1) (pe_lst pa_nil) (nomark _)) (pe_tup (pa_cons (pe_ix ix_list (pv 1) pe_int (fun _ _ => rfl)) (pa_cons pe_str pa_nil))) pe_non)))))), ?_⟩
    refine ⟨v, rfl, v, .ty "tuple", _, _, _, rfl, .ty "tuple", hd.ty, kTup d, _, rfl, ?_⟩
    cases hb : isTu d with
    | false =>
      rw [patErr_tu hb] at q
      exact iteT (iteT ⟨sz1 rfl, fun p np => q _ _ (same_upd np) (dq_wr upd_same)⟩)
    | true =>
      obtain ⟨a, xs, ds, rfl, rfl, e, ha⟩ := isTu_of hd hb
      refine iteF ⟨_, rfl, a, xs, rfl, .inr (SqT.of e), rfl, _, rfl, ?_⟩
      by_cases hl : ds.length = 2
      · rw [dec_int2, decide_eq_true (by rw [ha.len, hl]; rfl)]
        refine iteF ?_
        obtain ⟨da, db, rfl⟩ := two_of hl
        obtain ⟨x1, x2, rfl, h1, h2⟩ := dq_two ha
        refine ⟨_, rfl, a, _, 0, x1, rfl, rfl, SqT.of e, atI_nat (j := 0) rfl, D, B, x1, da, 0, 8, rfl, h1, _, rfl, ?_⟩
        cases hw : within 0 8 da with
        | false =>
          rw [patErr_in hw] at q
          exact iteT ⟨sz1 rfl, fun p np => q _ _ (same_upd np) (dq_wr upd_same)⟩
        | true =>
          obtain ⟨pl, rfl, i0, i1⟩ := within_is hw
          cases h1.intE
          rw [patErr_go hw] at q
          refine iteF ⟨_, rfl, a, _, 1, x2, rfl, rfl, SqT.of e, atI_nat (j := 1) rfl, x2, .ty "tuple", _, _, _, rfl, .ty "tuple", h2.ty, kTup db, _, rfl, ?_⟩
          cases hb3 : isTu db with
          | false =>
            rw [lotsErr_tu hb3] at q
            exact iteT (iteT ⟨sz1 rfl, fun p np => q _ _ (same_upd np) (dq_wr upd_same)⟩)
          | true =>
            obtain ⟨a2, ys, dys, rfl, rfl, e2, ha2⟩ := isTu_of h2 hb3
            have hly := ha2.len
            have hz2 : (PyData.tuple dys).shown.length ≤ 2800002 := Nat.le_trans (tup_mem (ds := [.int pl, .tuple dys]) (List.mem_cons_of_mem _ List.mem_cons_self)) (by omega)
            refine iteF ⟨_, rfl, a, _, 1, .ref a2, rfl, rfl, SqT.of e, atI_nat (j := 1) rfl, a2, ys, rfl, .inr (SqT.of e2), _, _, rfl, rfl, _, rfl, ite2 (fun c => ?_) (fun c => ?_)⟩
            · have c2 := of_decide_eq_true c
              rw [lotsErr_len (by rw [← hly]; omega)] at q
              exact ⟨sz1 rfl, fun p np => q _ _ (same_upd np) (dq_wr upd_same)⟩
            · have c2 : ((ys.length : Nat) : Int) ≤ 8 := Int.not_lt.mp fun z => c (decide_eq_true z)
              rw [lotsErr_go (by rw [← hly]; exact c2), lotGo_bad] at q
              refine ⟨_, rfl, a, _, 1, .ref a2, rfl, rfl, SqT.of e, atI_nat (j := 1) rfl, a2, ys, rfl, .inr (SqT.of e2), (ys.length : Int), rfl, by omega, by omega, fun D1 nD1 => ?_⟩
              refine lc_range (lo := 0) (n := ys.length) (fun i H5 => H5 D1 = some (.lst ((badIx pl (dys.take i) 0).map V.int)) ∧ Same H H5) ⟨upd_same, same_upd nD1⟩ ?_ ?_
              · rintro i H5 hi ⟨k5, s5⟩
                have hyi : ys[i]? = some ys[i] := List.getElem?_eq_getElem hi
                obtain ⟨dx, hdx, hx⟩ := ha2.at_ i _ hyi
                have hzx : dx.shown.length ≤ 2900000 := Nat.le_trans (tup_mem (ds := dys) (List.mem_of_getElem? hdx)) (by omega)
                have i0 : (0 : Int) + (i : Int) = ((i : Nat) : Int) := by omega
                have hnext : badIx pl (dys.take (i + 1)) 0 = badIx pl (dys.take i) 0 ++ (if isLot pl dx = true then [] else [(0 : Int) + (i : Int)]) := by
                  rw [List.take_add_one, hdx]
                  show badIx pl (dys.take i ++ [dx]) 0 = _
                  rw [badIx_app, List.length_take, Nat.min_eq_left (by omega), Nat.zero_add, i0]
                refine ⟨wipe1, _, rfl, a, _, 1, .ref a2, rfl, rfl, SqT.of (s5 _ _ e), atI_nat (j := 1) rfl, _, rfl, a2, _, (0 : Int) + (i : Int), ys[i], rfl, rfl, SqT.of (s5 _ _ e2), by rw [i0]; exact atI_nat hyi, _, rfl, a, _, 0, .int pl, rfl, rfl, SqT.of (s5 _ _ e), atI_nat (j := 0) rfl, D, B, ys[i], dx, pl, rfl, hx.same s5, hzx, fun H6 s6 => ⟨_, rfl, ?_⟩⟩
                have s56 := s5.trans s6
                cases kM : isLot pl dx with
                | true =>
                  rw [if_pos kM, List.append_nil] at hnext
                  refine iteF ⟨?_, s56⟩
                  rw [hnext]
                  exact s6 _ _ k5
                | false =>
                  rw [if_neg (by rw [kM]; exact Bool.false_ne_true)] at hnext
                  have bl := badIx_len pl (dys.take i) 0
                  rw [List.length_take] at bl
                  refine iteT ⟨_, rfl, _, s6 _ _ k5, ?_, ?_, ?_⟩
                  · rw [List.length_map]
                    exact smallN (by omega)
                  · rw [upd_same, hnext, List.map_append]
                    rfl
                  · intro z o hz
                    rw [upd_ne (ne_of_none hz nD1)]
                    exact s56 z o hz
              · rintro H5 ⟨k5, s5⟩
                rw [hly, List.take_length] at k5
                refine ⟨_, rfl, Nat.zero_le _, fun p6 np6 => ?_⟩
                have s6 : Same H5 (upd H5 p6 (.lst [])) := same_upd np6
                have s06 := s5.trans s6
                refine ⟨.list ((badIx pl dys 0).map PyData.int), .list [], .lst (SqL.of (s6 _ _ k5)) (dp_ints _), .lst (SqL.of upd_same) .nil, shaped_ints _, shaped_ints [], _, rfl, ?_⟩
                rw [ints_eqv]
                cases hbad : badIx pl dys 0 with
                | nil =>
                  rw [hbad] at q
                  exact iteF (q _ _ s06 .non)
                | cons j js =>
                  rw [hbad] at q k5
                  refine iteT ⟨_, rfl, D1, _, 0, .int j, rfl, rfl, SqL.of (s6 _ _ k5), atI_nat (j := 0) rfl, sz1 rfl, fun p np => ?_⟩
                  exact q _ _ (s06.trans (same_upd np)) (dq_nr upd_same)
      · rw [dec_int2, decide_eq_false (by rw [ha.len]; omega), patErr_len hl] at *
        exact iteT ⟨sz1 rfl, fun p np => q _ _ (same_upd np) (dq_wr upd_same)⟩
end
end Jg
namespace Jg
open PySem PySem.Spec PyProof.Rows L2
/-! ### patterns as lots of what is chosen of a range -/
def rngF (n : Nat) (f : Nat → Bool) : List Int := ((List.range n).filter f).map Int.ofNat
theorem rngF_succ (n : Nat) (f : Nat → Bool) : rngF (n + 1) f = rngF n f ++ (if f n = true then [(n : Int)] else []) := by
  unfold rngF
  rw [List.range_succ, List.filter_append, List.map_append]
  congr 1
  cases h : f n <;> simp [h]
theorem rngF_congr {n : Nat} {f g : Nat → Bool} (h : ∀ k, k < n → f k = g k) : rngF n f = rngF n g := by
  unfold rngF
  congr 1
  exact List.filter_congr fun k hk => h k (List.mem_range.mp hk)
theorem rngF_mem {n : Nat} {f : Nat → Bool} {x : Int} : x ∈ rngF n f ↔ ∃ k : Nat, k < n ∧ f k = true ∧ x = (k : Int) := by
  unfold rngF
  rw [List.mem_map]
  constructor
  · rintro ⟨k, hk, rfl⟩
    rw [List.mem_filter, List.mem_range] at hk
    exact ⟨k, hk.1, hk.2, rfl⟩
  · rintro ⟨k, h1, h2, rfl⟩
    exact ⟨k, List.mem_filter.mpr ⟨List.mem_range.mpr h1, h2⟩, rfl⟩
theorem rngF_len (n : Nat) (f : Nat → Bool) : (rngF n f).length ≤ n := by
  unfold rngF
  rw [List.length_map]
  exact Nat.le_trans (List.length_filter_le _ _) (Nat.le_of_eq List.length_range)
theorem rngF_has {n : Nat} {f : Nat → Bool} {k : Nat} (h : k < n) : decide ((k : Int) ∈ rngF n f) = f k := by
  cases hf : f k with
  | true => exact decide_eq_true (rngF_mem.mpr ⟨k, h, hf, rfl⟩)
  | false =>
    refine decide_eq_false fun z => ?_
    obtain ⟨j, _, h2, h3⟩ := rngF_mem.mp z
    have : j = k := by omega
    rw [this, hf] at h2
    cases h2
def lotD (ns : List Int) : PyData := .tuple (ns.map PyData.int)
def patD (m : Nat) (ls : List (List Int)) : PyData := .tuple [.int (m : Int), .tuple (ls.map lotD)]
structure Pat (m : Nat) (ls : List (List Int)) : Prop where
  m8 : m ≤ 8
  l8 : ls.length ≤ 8
  lot : ∀ ns ∈ ls, ∃ f, ns = rngF m f
abbrev sLPat : Stmt := topS 22
abbrev nLPat : List Str := ["_law_deck_here", "_law_most", "_law_many", "_law_wide", "_law_lots", "_law_end", "_law_unknown"]
theorem scLPat : FnScope nLPat ["_law_deck_here", "_law_most"] (defScope sLPat) := ⟨rfl, rfl, rfl, by decide +kernel, rfl, by decide +kernel, by decide +kernel⟩
theorem lot_plain {m : Nat} {f : Nat → Bool} (h : m ≤ 8) : Plain 1 (lotD (rngF m f)) := by
  refine .inr ⟨_, rfl, ?_, fun d hd => ?_⟩
  · rw [List.length_map]
    have := rngF_len m f
    show (rngF m f).length ≤ 8
    omega
  · obtain ⟨x, hx, rfl⟩ := List.mem_map.mp hd
    obtain ⟨k, hk, _, rfl⟩ := rngF_mem.mp hx
    exact .inl ⟨(k : Int), rfl, by omega⟩
end Jg
namespace Jg
open PySem PySem.Spec PyProof.Rows L2
theorem a_nil {P : PyData → Prop} : ∀ d ∈ ([] : List PyData), P d := fun _ h => nomatch h
theorem a_cons {P : PyData → Prop} {d : PyData} {ds : List PyData} (h1 : P d) (h2 : ∀ x ∈ ds, P x) : ∀ x ∈ d :: ds, P x := fun x hx => by
  rcases List.mem_cons.mp hx with rfl | hx
  · exact h1
  · exact h2 x hx
theorem a_app {P : PyData → Prop} {ds es : List PyData} (h1 : ∀ x ∈ ds, P x) (h2 : ∀ x ∈ es, P x) : ∀ x ∈ ds ++ es, P x := fun x hx => by
  rcases List.mem_append.mp hx with hx | hx
  · exact h1 x hx
  · exact h2 x hx
theorem patD_plain {m : Nat} {ls : List (List Int)} (h : Pat m ls) : Plain 3 (patD m ls) := by
  refine .inr ⟨_, rfl, by show 2 ≤ 2; decide, a_cons (Leaf.plain (.inl ⟨(m : Int), rfl, ?_⟩) 2) (a_cons (.inr ⟨_, rfl, ?_, fun d hd => ?_⟩) a_nil)⟩
  · have := h.m8
    omega
  · rw [List.length_map]
    exact h.l8
  · obtain ⟨ns, hns, rfl⟩ := List.mem_map.mp hd
    obtain ⟨f, rfl⟩ := h.lot ns hns
    exact lot_plain h.m8
theorem lotD_dq {D B a : Addr} {H : Hp} {ns : List Int} (e : H a = some (.tup (ns.map V.int))) : Dq D B H (.ref a) (lotD ns) := by
  refine .tup e ?_
  induction ns with
  | nil => exact .nil
  | cons n ns ih => exact .cons (.int n) (by
      clear ih e
      induction ns with
      | nil => exact .nil
      | cons k ks ih => exact .cons (.int k) ih)
section
variable {P : Program} {w : World} {K : PySem.W.Frag} {mg : Str → Option Value} {base : Heap}
def spLPat : Sp := fun vs H Q _ => ∃ (D B C : Addr) (cells : List Int), vs = [.ref D, .int 8] ∧ DeckAt D B C cells H ∧
  ∀ v (m : Nat) (ls : List (List Int)) H', Pat m ls → Dq D B H' v (patD m ls) → DeckAt D B C cells H' → Fr D B H H' → Q v H'
set_option maxHeartbeats 4000000 in
theorem ok_lPat {f fD fO : Addr} {fd fdD fdO : FuncData} (F : Nm K mg "_law_pattern" sLPat ["_law_deck_here", "_law_most"] f fd) (FO : On K mg fO fdO) (FD : Dr K mg fD fdD) (T : Bn mg) : FnOk P w K mg base CX0 3 f fd ["_law_deck_here", "_law_most"] spLPat := by
  have GD : FnOk P w K mg base CX0 1 fD fdD ["_law_deck_here", "_law_many"] spDraw := ok_draw FD.F T.int T.len
  have GO : FnOk P w K mg base CX0 2 fO fdO ["_law_deck_here", "_law_items"] spOne := ok_one FO.F FD.F FD.b FD.g T.int T.len
  refine F.F.ok scLPat (fun vs H Q E h => ?_) (fun cdv A outer s H vs Q E hr h => ?_)
  · obtain ⟨D, B, C, cells, rfl, _⟩ := h
    rfl
  · obtain ⟨D, B, C, cells, rfl, dk, q⟩ := h
    have hr1 : Room 1 _ := hr.mono (by decide)
    refine ⟨_, pss_cons (ps_asg (pe_tup (pa_cons (pe_call GD hr1 (by rfl) FD.g FD.F.kp FD.b .nil pass0 (pa_cons (pv 0) (pa_cons (pe_op op_add (pv 1) pe_int) pa_nil)))
        (pa_cons (pe_call GO (hr.mono (by decide)) (by rfl) FO.g FO.F.kp FO.b .nil pass0 (pa_cons (pv 0) (pa_cons (pe_lst (pa_cons pe_int (pa_cons pe_int (pa_cons pe_int (pa_cons pe_int pa_nil))))) pa_nil))) pa_nil))) (pg_tup rfl (pgs_cons (pg_name (i := 2) scLPat.nd rfl (.inl rfl)) (pgs_cons (pg_name (i := 3) scLPat.nd rfl (.inr rfl)) pgs_nil))))
      (pss_cons (ps_set (i := 4) scLPat.nd rfl (.inl rfl) (pe_lst pa_nil))
      (pss_cons (ps_for PassesOwn.never rfl (pi_range1 rfl T.rng (pa_cons (pe_call GD hr1 (by rfl) FD.g FD.F.kp FD.b .nil pass0 (pa_cons (pv 0) (pa_cons (pe_op op_add (pv 1) pe_int) pa_nil))) pa_nil)) (pg_name (i := 5) scLPat.nd rfl (.inl rfl))
        (pss_one (ps_expr (pe_bm PySem.F.plainAttrs_list PySem.F.slot_list_append PySem.F.type_list_append mt_append (pv 4) (pa_cons (pe_callTy call_tuple_of (by rfl) T.tup boot_tuple' (pa_cons
          (pe_lc (own := [("_law_unknown", 6)]) (g := gName 6) rfl scLPat.nd (pi_range1 (by rfl) T.rng (pa_cons (pv 2) pa_nil)) (blkOk_by (N := nLPat) (sc := defScope sLPat) (by decide +kernel))
            (fun _ _ _ _ _ => pg_name (i := 6) scLPat.nd rfl (.inl rfl)) (fun _ _ _ _ _ => pts_one (pt_cmpR op_eq (pe_call GD hr1 (by rfl) FD.g FD.F.kp FD.b .nil pass0 (pa_cons (pv 0) (pa_cons (pv 3) pa_nil))) pe_int (nomark _))) (fun _ _ _ _ _ => pv 6)) pa_nil)) pa_nil)))))
      (pss_one (ps_ret (pe_tup (pa_cons (pv 2) (pa_cons (pe_callTy call_tuple_of (by rfl) T.tup boot_tuple' (pa_cons (pv 4) pa_nil)) pa_nil))))))), ?_⟩
    refine ⟨_, rfl, _, rfl, _, _, rfl, rfl, D, B, C, cells, _, rfl, dk, by decide, by decide, fun i1 H1 m0 m1 dk1 f1 => ?_⟩
    obtain ⟨m, rfl⟩ : ∃ m : Nat, i1 = (m : Int) := ⟨i1.toNat, by omega⟩
    refine ⟨_, rfl, sz1 rfl, fun L nL => ?_⟩
    have sL := same_upd (o := .lst [.int 2, .int 2, .int 3, .int 5]) nL
    refine ⟨D, B, C, cells, L, _, rfl, dk1.same sL, upd_same, dk1.neD nL, dk1.neB nL, by show 0 < 4; decide, by show 4 < 1073741824; decide, fun i v H2a hv dk2a f2a => ⟨sz1 rfl, fun tp ntp => ⟨tp, _, rfl, SqT.of upd_same, rfl, .int (m : Int), [v], rfl, v, [], rfl, rfl, ?_⟩⟩⟩
    have sTp := same_upd (o := .tup [.int (m : Int), v]) ntp
    have dk2 := dk2a.same sTp
    have f2 := f2a.trans (Fr.of_same sTp)
    generalize upd H2a tp (.tup [.int (m : Int), v]) = H2 at *
    obtain ⟨wd, rfl, w0, w1⟩ : ∃ wd : Int, v = .int wd ∧ 0 < wd ∧ wd < 10 := by
      match i, hv with
      | 0, hv => exact ⟨2, (Option.some.inj hv).symm, by decide, by decide⟩
      | 1, hv => exact ⟨2, (Option.some.inj hv).symm, by decide, by decide⟩
      | 2, hv => exact ⟨3, (Option.some.inj hv).symm, by decide, by decide⟩
      | 3, hv => exact ⟨5, (Option.some.inj hv).symm, by decide, by decide⟩
      | n + 4, hv => cases hv
    have f02 := f1.trans ((Fr.of_same sL).trans f2)
    refine ⟨Nat.zero_le _, fun Mv nMv => ⟨_, rfl, _, rfl, _, _, rfl, rfl, ?_⟩⟩
    have sM := same_upd (o := .lst []) nMv
    have AD := dk2.neD nMv
    have AB := dk2.neB nMv
    have AC := ne_of_none dk2.cel nMv
    refine ⟨D, B, C, cells, _, rfl, dk2.same sM, by decide, by decide, fun j H4 j0 j1 dk4 f4 => ⟨_, rfl, by omega, by omega, ?_⟩⟩
    refine for_range (n := j.toNat) (fun i σ H3 => ∃ (xs : List V) (ls : List (List Int)) (y5 y6 : Option V), σ = [some (.ref D), some (.int 8), some (.int (m : Int)), some (.int wd), some (.ref Mv), y5, y6] ∧ H3 Mv = some (.lst xs) ∧ DqAll D B H3 xs (ls.map lotD) ∧ ls.length = i ∧ (∀ ns ∈ ls, ∃ f, ns = rngF m f) ∧ DeckAt D B C cells H3 ∧ Fr D B H2 H3)
      ⟨[], [], none, none, rfl, f4 _ _ AD AB upd_same, .nil, rfl, (fun _ h => nomatch h), dk4, (Fr.of_same sM).trans f4⟩ ?_ ?_
    · rintro i σ H3 hi ⟨xs, ls, y5, y6, rfl, eA, hq, hl, hp, dk3, f3⟩
      have hxl := hq.len
      rw [List.length_map] at hxl
      refine ⟨_, rfl, .inl ⟨rfl, _, SqL.of eA⟩, _, rfl, (m : Int), rfl, by omega, by omega, fun D1 nD1 => ?_⟩
      have nD := dk3.neD nD1
      have nB := dk3.neB nD1
      have nC := ne_of_none dk3.cel nD1
      have nMD : Mv ≠ D1 := ne_of_none eA nD1
      refine lc_range (lo := 0) (n := m) (fun i H5 => ∃ f, H5 D1 = some (.lst ((rngF i f).map V.int)) ∧ DeckAt D B C cells H5 ∧ Fr D B H3 H5) ⟨fun _ => false, upd_same, dk3.same (same_upd nD1), Fr.of_same (same_upd nD1)⟩ ?_ ?_
      · rintro k H5 hk ⟨f, k5, dk5, f5⟩
        refine ⟨wipe1, _, rfl, _, rfl, D, B, C, cells, wd, rfl, dk5, by omega, by omega, fun c H6 c0 c1 dk6 f6 => ⟨rfl, _, rfl, ?_⟩⟩
        have k6 := f6 _ _ nD nB k5
        have nx : ∀ b : Bool, rngF (k + 1) (fun z => if z = k then b else f z) = rngF k f ++ (if b = true then [(k : Int)] else []) := fun b => by
          rw [rngF_succ, if_pos rfl]
          congr 1
          exact rngF_congr fun z hz => if_neg (by omega)
        refine ite2 (fun c => ?_) (fun c => ?_)
        · have hfl := rngF_len k f
          refine ⟨_, rfl, _, k6, ?_, fun z => if z = k then true else f z, ?_, ?_, ?_⟩
          · rw [List.length_map]
            exact smallN (by omega)
          · rw [upd_same, nx true, if_pos rfl, List.map_append, show (0 : Int) + (k : Int) = (k : Int) by omega]
            rfl
          · exact dk6.but (fun b o h h2 => (upd_ne h).trans h2) nD.symm nB.symm nC
          · intro b o h1 h2 h3
            rw [upd_ne (ne_of_none h3 nD1)]
            exact f6 _ _ h1 h2 (f5 _ _ h1 h2 h3)
        · refine ⟨fun z => if z = k then false else f z, ?_, dk6, f5.trans f6⟩
          rw [k6, nx false, if_neg Bool.false_ne_true, List.append_nil]
      · rintro H5 ⟨f, k5, dk5, f5⟩
        refine ⟨D1, _, rfl, .inl ⟨SqL.of k5, fun a na => ?_⟩⟩
        have s6 := same_upd (o := .tup ((rngF m f).map V.int)) na
        have eA5 := f5 _ _ AD AB eA
        have eA6 := s6 _ _ eA5
        refine ⟨Mv, _, _, rfl, rfl, eA6, small1000 (by omega), ?_⟩
        have dk6 := dk5.same s6
        have q6 := (dk3.dataAll f5 hq).same s6
        have fA : ∀ b o, b ≠ Mv → (upd H5 a (.tup ((rngF m f).map V.int))) b = some o → (upd (upd H5 a (.tup ((rngF m f).map V.int))) Mv (.lst (xs ++ [.ref a]))) b = some o := fun b o hb h => by
          rw [upd_ne hb]
          exact h
        have pl : ∀ d ∈ (ls ++ [rngF m f]).map lotD, Plain 1 d := fun d hd => by
          obtain ⟨ns, hns, rfl⟩ := List.mem_map.mp hd
          rcases List.mem_append.mp hns with h | h
          · obtain ⟨g, rfl⟩ := hp ns h
            exact lot_plain (by omega)
          · rw [List.mem_singleton.mp h]
            exact lot_plain (by omega)
        refine ⟨xs ++ [.ref a], ls ++ [rngF m f], _, _, rfl, upd_same, plain_keepAll eA6 fA pl ?_, by rw [List.length_append, hl]; rfl, (fun ns h => (List.mem_append.mp h).elim (hp ns) fun h => ⟨f, List.mem_singleton.mp h⟩), dk6.but fA AD.symm AB.symm AC, fun b o h1 h2 h3 => ?_⟩
        · rw [List.map_append]
          exact DqAll.append (.cons (lotD_dq upd_same) .nil) q6
        · have h4 := f5 _ _ h1 h2 (f3 _ _ h1 h2 h3)
          exact fA _ _ (ne_of_none h3 nMv) (s6 _ _ h4)
    · rintro σ H3 ⟨xs, ls, y5, y6, rfl, eA, hq, hl, hp, dk3, f3⟩
      refine ⟨_, rfl, _, rfl, Mv, xs, rfl, .inl ⟨SqL.of eA, fun a na => ⟨sz1 rfl, fun u nu => ?_⟩⟩⟩
      have s8 := same_upd (o := .tup xs) na
      have s9 := same_upd (o := .tup [.int (m : Int), .ref a]) nu
      exact q (.ref u) m ls _ ⟨by omega, by omega, hp⟩ (.tup upd_same (.cons (.int _) (.cons (.tup (s9 _ _ upd_same) ((hq.same s8).same s9)) .nil))) ((dk3.same s8).same s9) ((f02.trans f3).trans (Fr.of_same (s8.trans s9)))
end
end Jg
namespace Jg
open PySem PySem.Spec PyProof.Rows L2
def asgVal : Stmt → Expr
  | .Assign _ v _ => v
  | _ => .Constant .none 0 ⟨0, 0, 0, 0⟩
def compScope (d : Scope) : Expr → Scope
  | .ListComp _ _ s _ => s
  | _ => d
/-- the scope of a comprehension as it is seen within it -/
def relab (s out : Scope) : Scope := { s with names := s.names.map fun (n, k) => if (k == NameKind.free && out.kind == .function && out.names.lookup n == some .cell) then (n, NameKind.cell) else (n, k) }
theorem inV_mem (i : Int) (ns : List Int) : inV (.int i) (ns.map V.int) = decide (i ∈ ns) := by
  unfold inV
  rw [List.any_map]
  induction ns with
  | nil => simp
  | cons n ns ih =>
    rw [List.any_cons, ih]
    have h : ((fun x => eqV x (V.int i)) ∘ V.int) n = decide (i = n) := by
      show decide (n = i) = decide (i = n)
      by_cases e : i = n
      · rw [decide_eq_true e, decide_eq_true e.symm]
      · rw [decide_eq_false e, decide_eq_false fun z => e z.symm]
    rw [h]
    by_cases e : i = n
    · simp [e]
    · simp [e]
theorem flat_ints (ms : List Int) : (ms.map V.int).all flatV = true := by
  rw [List.all_map, List.all_eq_true]
  intro _ _
  rfl
def turnL (m : Nat) (ls : List (List Int)) : List (List Int) := (List.range m).map fun j : Nat => rngF ls.length fun e => decide ((j : Int) ∈ ls.getD e [])
theorem turnL_pat {m : Nat} {ls : List (List Int)} (h : Pat m ls) : Pat ls.length (turnL m ls) := by
  refine ⟨h.l8, ?_, fun ns hns => ?_⟩
  · unfold turnL
    rw [List.length_map, List.length_range]
    exact h.m8
  · unfold turnL at hns
    obtain ⟨j, _, rfl⟩ := List.mem_map.mp hns
    exact ⟨_, rfl⟩
theorem dq_lot {D B : Addr} {H : Hp} {v : V} {ns : List Int} (h : Dq D B H v (lotD ns)) : ∃ a, v = .ref a ∧ H a = some (.tup (ns.map V.int)) := by
  obtain ⟨a, xs, rfl, e, ha⟩ := h.tupE
  rw [dqI ha] at e
  exact ⟨a, rfl, e⟩
def rTupOf (K : PySem.W.Frag) : List V → Hp → VK → Prop := fun xs H Q => ∃ p ys, xs = [.ref p] ∧ ((SqL K H p ys ∧ ∀ l, H l = none → Q (.ref l) (upd H l (.tup ys))) ∨ (SqT K H p ys ∧ Q (.ref p) H))
theorem call_tupK {X : Cx} {K : PySem.W.Frag} (h : X.K = K) : CallR X (.type "tuple") (rTupOf K) := h ▸ call_tuple_of
theorem op_inK {X : Cx} {K : PySem.W.Frag} (h : X.K = K) : OpR X (compareOp .In) (rIn K false) := h ▸ op_in_seq
theorem pi_enumTK {X : Cx} {K : PySem.W.Frag} {e : Expr} {ta : TA} {p pos tpos : Pos} {elts : List Expr} {kk : Nat} (h : X.K = K) (gl : Gl X "enumerate") (no : X.mg "enumerate" = none) (pa : PA X [e] ta) (hs : starEach [e] X.env = [(false, eval e X.env)] := by rfl) :
    PI X (.Tuple elts kk tpos) (.Call (.Name "enumerate" p) [e] [] pos) (iEnumT K ta) := h ▸ pi_enumT gl no pa hs
abbrev sTurn : Stmt := topS 12
abbrev nTurn : List Str := ["pattern", "many", "lots", "turned", "number", "end", "lot"]
theorem scTurn : FnScope nTurn ["pattern"] (defScope sTurn) := ⟨rfl, rfl, rfl, by decide +kernel, rfl, by decide +kernel, by decide +kernel⟩
def scTurn2 : Scope := relab (compScope (defScope sTurn) (asgVal ((defBody sTurn).getD 1 (.Pass ⟨0, 0, 0, 0⟩)))) (defScope sTurn)
section
variable {P : Program} {w : World} {K : PySem.W.Frag} {mg : Str → Option Value} {base : Heap}
def spTurn : Sp := fun vs H Q _ => ∃ (D B : Addr) (v : V) (m : Nat) (ls : List (List Int)), vs = [v] ∧ Dq D B H v (patD m ls) ∧ Pat m ls ∧ ∀ u H', Same H H' → (∀ D B, Dq D B H' u (patD ls.length (turnL m ls))) → Q u H'
set_option maxHeartbeats 4000000 in
theorem ok_turn {f : Addr} {fd : FuncData} (F : Nm K mg "turned_pattern" sTurn ["pattern"] f fd) (T : Bn mg) : FnOk P w K mg base CX0 1 f fd ["pattern"] spTurn := by
  refine F.F.ok scTurn (fun vs H Q E h => ?_) (fun cdv A outer s H vs Q E hr h => ?_)
  · obtain ⟨D, B, v, m, ls, rfl, _⟩ := h
    rfl
  · obtain ⟨D, B, v, m, ls, rfl, hd, hp, q⟩ := h
    refine ⟨_, pss_cons (ps_asg (pv 0) (pg_tup rfl (pgs_cons (pg_name (i := 1) scTurn.nd rfl (.inl rfl)) (pgs_cons (pg_name (i := 2) scTurn.nd rfl (.inr rfl)) pgs_nil))))
      (pss_cons (ps_setLc (i := 3) (own := [("number", 4)]) (g := gName 4) (tt := tYes) rfl scTurn.nd rfl rfl (sw_true rfl rfl rfl rfl) (pi_range1 (by rfl) T.rng (pa_cons (pv 1) pa_nil)) (blkOk_by (N := nTurn) (sc := defScope sTurn) (by decide +kernel))
          (fun _ _ _ _ _ => pg_name (i := 4) scTurn.nd rfl (.inr rfl)) (fun _ _ _ _ _ => pts_nil)
          (fun _ _ _ _ _ => pe_callTy (call_tupK (K := K) rfl) (by rfl) T.tup boot_tuple' (pa_cons (pe_lc (own := [("end", 5), ("lot", 6)]) (g := gTup K 2 (gCons (gName 5) (gCons (gName 6) gNil))) rfl scTurn.nd (pi_enumTK (K := K) rfl (by rfl) T.enu (pa_cons (pv 2) pa_nil)) (blkOk_by (N := nTurn) (sc := scTurn2) (by decide +kernel))
              (fun _ _ _ _ _ => pg_tup rfl (pgs_cons (pg_name (i := 5) scTurn.nd rfl (.inl rfl)) (pgs_cons (pg_name (i := 6) scTurn.nd rfl (.inl rfl)) pgs_nil))) (fun _ _ _ _ _ => pts_one (pt_cmpR (op_inK (K := K) rfl) (pv 4) (pv 6) (by rfl))) (fun _ _ _ _ _ => pv 5)) pa_nil)))
      (pss_one (ps_ret (pe_tup (pa_cons (pe_callB call_len_seq (by rfl) T.len PySem.boot_len (pa_cons (pv 2) pa_nil)) (pa_cons (pe_callTy call_tuple_of (by rfl) T.tup boot_tuple' (pa_cons (pv 3) pa_nil)) pa_nil)))))), ?_⟩
    obtain ⟨a, xs, rfl, e, ha⟩ := hd.tupE
    obtain ⟨x1, x2, rfl, h1, h2⟩ := dq_two ha
    cases h1.intE
    obtain ⟨b, ys, rfl, eb, hb⟩ := h2.tupE
    have hyl := hb.len
    rw [List.length_map] at hyl
    have m8 := hp.m8
    have l8 := hp.l8
    refine ⟨_, rfl, a, _, rfl, SqT.of e, rfl, .int (m : Int), [.ref b], rfl, .ref b, [], rfl, rfl, ?_⟩
    refine ⟨_, rfl, (m : Int), rfl, by omega, by omega, fun D1 nD1 => ?_⟩
    refine lc_range (lo := 0) (n := m) (fun i H3 => ∃ ts : List V, H3 D1 = some (.lst ts) ∧ ts.length = i ∧ (∀ D B, DqAll D B H3 ts (((List.range i).map fun j : Nat => rngF ls.length fun e => decide ((j : Int) ∈ ls.getD e [])).map lotD)) ∧ Same H H3) ⟨[], upd_same, rfl, fun _ _ => .nil, same_upd nD1⟩ ?_ ?_
    · rintro i H3 hi ⟨ts, k3, tl, hts, s3⟩
      have eb3 := s3 _ _ eb
      refine ⟨wipe1, tYes_if ⟨_, rfl, b, ys, rfl, SqT.of eb3, fun D2 nD2 => ?_⟩⟩
      refine lc_it (walk_enumT (K := K) (a := b) (xs := ys)) (fun k H5 => H5 D2 = some (.lst ((rngF k fun e => decide ((i : Int) ∈ ls.getD e [])).map V.int)) ∧ Same H3 H5) ⟨upd_same, same_upd nD2⟩ (fun k H5 _ h => SqT.of (h.2 _ _ eb3)) ?_ ?_
      · rintro k y H5 H6 hk ⟨k5, s5⟩ ⟨Tt, x, z, rfl, hT, rfl, hx, hy⟩
        have hy : ys[k]? = some z := hy
        cases Option.some.inj hx
        have sT := same_upd (o := .tup [.int ((k : Nat) : Int), z]) hT
        obtain ⟨dx, hdx, hxx⟩ := hb.at_ k _ hy
        rw [List.getElem?_map] at hdx
        obtain ⟨ns, hns, rfl⟩ := Option.map_eq_some_iff.mp hdx
        obtain ⟨c, rfl, ec⟩ := dq_lot hxx
        have s3T := s5.trans sT
        have ec6 := s3T _ _ (s3 _ _ ec)
        have hget : ls.getD k [] = ns := by
          rw [List.getD_eq_getElem?_getD, hns]
          rfl
        refine ⟨Tt, _, rfl, SqT.of upd_same, rfl, .int ((k : Nat) : Int), [.ref c], rfl, .ref c, [], rfl, rfl, wipe2 (by decide), _, rfl, _, rfl, c, _, rfl, .inr (SqT.of ec6), rfl, flat_ints ns, _, rfl, ?_⟩
        have i0 : (0 : Int) + (i : Int) = (i : Int) := by omega
        rw [if_neg Bool.false_ne_true, i0, inV_mem]
        refine ite2 (fun c => ?_) (fun c => ?_)
        · have hfl := rngF_len k fun e => decide ((i : Int) ∈ ls.getD e [])
          refine ⟨_, rfl, _, sT _ _ k5, ?_, ?_, ?_⟩
          · rw [List.length_map]
            exact smallN (by omega)
          · rw [upd_same, rngF_succ, hget, if_pos c, List.map_append]
            rfl
          · intro z o hz
            have hz2 := s3T _ _ hz
            rw [upd_ne (ne_of_none hz nD2)]
            exact hz2
        · refine ⟨?_, s3T⟩
          rw [rngF_succ, hget, if_neg c, List.append_nil]
          exact sT _ _ k5
      · rintro H5 ⟨k5, s5⟩
        refine ⟨D2, _, rfl, .inl ⟨SqL.of k5, fun t nt => ?_⟩⟩
        have s6 := same_upd (o := .tup ((rngF ys.length fun e => decide ((i : Int) ∈ ls.getD e [])).map V.int)) nt
        have s56 := s5.trans s6
        have k6 := s56 _ _ k3
        have eqn : ((List.range (i + 1)).map fun j : Nat => rngF ls.length fun e => decide ((j : Int) ∈ ls.getD e [])) = ((List.range i).map fun j : Nat => rngF ls.length fun e => decide ((j : Int) ∈ ls.getD e [])) ++ [rngF ys.length fun e => decide ((i : Int) ∈ ls.getD e [])] := by
          rw [List.range_succ, List.map_append, hyl]
          rfl
        refine ⟨ts, k6, smallN (by omega), ts ++ [.ref t], upd_same, by rw [List.length_append, tl]; rfl, fun D B => ?_, fun z o hz => ?_⟩
        · refine plain_keepAll (n := 1) k6 (fun z o hz h => (upd_ne hz).trans h) (fun d hd => ?_) ?_
          · obtain ⟨ns, hns, rfl⟩ := List.mem_map.mp hd
            obtain ⟨j, _, rfl⟩ := List.mem_map.mp hns
            exact lot_plain l8
          · rw [eqn, List.map_append]
            exact DqAll.append (.cons (lotD_dq upd_same) .nil) ((hts D B).same s56)
        · rw [upd_ne (ne_of_none hz nD1)]
          exact s56 _ _ (s3 _ _ hz)
    · rintro H3 ⟨ts, k3, tl, hts, s3⟩
      refine ⟨_, rfl, b, ys, rfl, .inr (SqT.of (s3 _ _ eb)), _, rfl, D1, ts, rfl, .inl ⟨SqL.of k3, fun t nt => ⟨sz1 rfl, fun u nu => ?_⟩⟩⟩
      have s8 := same_upd (o := .tup ts) nt
      have s9 := same_upd (o := .tup [.int ((ys.length : Nat) : Int), .ref t]) nu
      refine q _ _ (s3.trans (s8.trans s9)) fun D B => .tup upd_same ?_
      exact .cons (by rw [hyl]; exact .int _) (.cons (.tup (s9 _ _ upd_same) (((hts D B).same s8).same s9)) .nil)
end
end Jg
namespace L2
open PySem PySem.Spec PyProof.Rows
section
variable {X : Cx} {C : Addr} {bmB : List Value} {B newId initId : String}
/-- X(), an own exception class without own __init__ -/
theorem pmk_own0 {x : Str} {p pos : Pos} (F : ExcBaseFacts B newId initId bmB) (q : PySem.W.excIn X.K C bmB newId = true) (gC : X.mg x = some (.ref C)) (kC : PySem.W.keepIn X.K (.ref C) = true) (r : Raises X (.ref C)) (hg : Gl X x)
    (hdb : (x == ("__debug__" : Str)) = false := by decide) : PMk X (.Call (.Name x p) [] [] pos) (fun _ H Q => Q (.ref C) none H) := by
  intro pins s σ H Q I h
  refine wpAny_Call_Name_kw (ld_glob I hg gC ?_ hdb)
  refine PySem.W.callWith_K0 I.kIn kC ?_
  show wpAny _ _ (call (.ref C) []) _ _ _
  obtain ⟨bm, N, nm, qn, bs, hdct, sn, sub, ab, col, dd, k0, k1, k2, k3, k5, mN, hC, hN, hni, T⟩ := exc_obj I.kIn q
  refine wpAny_call_exc_subT F T hC hN hni (fun h' e hm => ?_) (Nat.zero_le _)
  exact mk_of I hm r h (I.hok.gone hm.new)
end
end L2
namespace Jg
open PySem PySem.Spec PyProof.Rows L2
theorem boot_any' : bootBuiltins "any" = some (.builtin "any") := by decide +kernel
def eltOf : Expr → Expr
  | .ListComp e _ _ _ => e
  | e => e
def arg0 : Expr → Expr
  | .Call _ (a :: _) _ _ => a
  | e => e
def has (ls : List (List Int)) (j : Int) (i : Int) : Bool := decide (j ∈ ls.getD i.toNat [])
def fedL (m : Nat) (ls os : List (List Int)) : List (List Int) := os.map fun lot => rngF m fun j : Nat => lot.any (has ls (j : Int))
theorem fedL_pat {m n : Nat} {ls os : List (List Int)} (h : Pat m ls) (h2 : Pat n os) : Pat m (fedL m ls os) := by
  refine ⟨h.m8, ?_, fun ns hns => ?_⟩
  · unfold fedL
    rw [List.length_map]
    exact h2.l8
  · unfold fedL at hns
    obtain ⟨j, _, rfl⟩ := List.mem_map.mp hns
    exact ⟨_, rfl⟩
abbrev sFed : Stmt := topS 13
abbrev nFed : List Str := ["one", "other", "many", "lots", "fed", "lot", "number", "index"]
theorem scFed : FnScope nFed ["one", "other"] (defScope sFed) := ⟨rfl, rfl, rfl, by decide +kernel, rfl, by decide +kernel, by decide +kernel⟩
def xF1 : Expr := asgVal ((defBody sFed).getD 2 (.Pass ⟨0, 0, 0, 0⟩))
def scF1 : Scope := relab (compScope (defScope sFed) xF1) (defScope sFed)
def scF2 : Scope := relab (compScope (defScope sFed) (arg0 (eltOf xF1))) scF1
theorem cr_anyK {X : Cx} {K : PySem.W.Frag} (hc : X.calm = true) (h : X.K = K) : CallR X (.builtin "any") (rAny K) := h ▸ cr_any hc
theorem pi_tupK {X : Cx} {K : PySem.W.Frag} {tg l : Expr} {tl : TE} (h : X.K = K) (hl : PE X l tl) : PI X tg l (iTup K tl) := h ▸ pi_tup hl
/-- the class that is raised -/
structure Uf (K : PySem.W.Frag) (mg : Str → Option Value) (C : Addr) : Prop where
  g : mg "Unfit" = some (.ref C)
  kp : PySem.W.keepIn K (.ref C) = true
  sub : PySem.W.subIn K (.ref C) (.type "BaseException") = some true
  ty : PySem.W.typeIn K (.ref C) = some (.type "type")
  exc : PySem.W.excIn K C [.type "ValueError", .type "Exception", .type "BaseException", .type "object"] "ValueError.__new__" = true
section
variable {P : Program} {w : World} {K : PySem.W.Frag} {mg : Str → Option Value} {base : Heap}
def spFed (C : Addr) : Sp := fun vs H Q E => ∃ (D B : Addr) (v1 v2 : V) (m n : Nat) (ls os : List (List Int)), vs = [v1, v2] ∧ Dq D B H v1 (patD m ls) ∧ Pat m ls ∧ Dq D B H v2 (patD n os) ∧ Pat n os ∧
  (ls.length = n → ∀ u H', Same H H' → (∀ D B, Dq D B H' u (patD m (fedL m ls os))) → Q u H') ∧ (¬ ls.length = n → E (.ref C) none H)
set_option maxHeartbeats 4000000 in
theorem ok_fed {f C : Addr} {fd : FuncData} (F : Nm K mg "fed_pattern" sFed ["one", "other"] f fd) (U : Uf K mg C) (T : Bn mg) (T2 : Bn2 mg) : FnOk P w K mg base (L2.CX P w) 1 f fd ["one", "other"] (spFed C) := by
  refine F.F.okX scFed (fun vs H Q E h => ?_) (fun cdv A outer s H vs Q E hr h => ?_)
  · obtain ⟨D, B, v1, v2, m, n, ls, os, rfl, _⟩ := h
    rfl
  · obtain ⟨D, B, v1, v2, m, n, ls, os, rfl, hd1, hp1, hd2, hp2, qy, qn⟩ := h
    refine ⟨_, pss_cons (ps_asg (pv 0) (pg_tup rfl (pgs_cons (pg_name (i := 2) scFed.nd rfl (.inr rfl)) (pgs_cons (pg_name (i := 3) scFed.nd rfl (.inr rfl)) pgs_nil))))
      (pss_cons (ps_if (pt_cmpR op_ne (pe_callB call_len_seq (by rfl) T.len PySem.boot_len (pa_cons (pv 3) pa_nil)) (pe_ix ix_tup (pv 1) pe_int (fun _ _ => rfl)) (nomark _)) (pss_one (ps_raise rfl (takes_of rfl rfl rfl rfl) (pmk_own0 PySem.F.excBase_ValueError U.exc U.g U.kp (raises_own U.sub U.ty) rfl))) pss_nil)
      (pss_cons (ps_setLc (i := 4) (own := [("lot", 5)]) (g := gName 5) (tt := tYes) rfl scFed.nd rfl rfl (sw_true rfl rfl rfl rfl) (pi_tup (pe_ix ix_tup (pv 1) pe_int (fun _ _ => rfl))) (blkOk_by (N := nFed) (sc := defScope sFed) (by decide +kernel))
          (fun _ _ _ _ _ => pg_name (i := 5) scFed.nd rfl (.inr rfl)) (fun _ _ _ _ _ => pts_nil)
          (fun _ _ _ _ _ => pe_callTy (call_tupK (K := K) rfl) (by rfl) T.tup boot_tuple' (pa_cons (pe_lc (own := [("number", 6)]) (g := gName 6) rfl scFed.nd (pi_range1 (by rfl) T.rng (pa_cons (pv 2) pa_nil)) (blkOk_by (N := nFed) (sc := scF1) (by decide +kernel))
              (fun _ _ _ _ _ => pg_name (i := 6) scFed.nd rfl (.inr rfl))
              (fun _ _ _ _ _ => pts_one (pt_val (pe_callB (cr_anyK (K := K) rfl rfl) (by rfl) T2.any boot_any' (pa_cons (pe_lc (own := [("index", 7)]) (g := gName 7) (tt := tYes) rfl scFed.nd (pi_tupK (K := K) rfl (pv 5)) (blkOk_by (N := nFed) (sc := scF2) (by decide +kernel))
                (fun _ _ _ _ _ => pg_name (i := 7) scFed.nd rfl (.inl rfl)) (fun _ _ _ _ _ => pts_nil) (fun _ _ _ _ _ => pe_cmpR (op_inK (K := K) rfl) (pv 6) (pe_ix (ix_tupK (K := K) rfl) (pv 3) (pv 7) (fun _ _ => rfl)) (by rfl))) pa_nil))))
              (fun _ _ _ _ _ => pv 6)) pa_nil)))
      (pss_one (ps_ret (pe_tup (pa_cons (pv 2) (pa_cons (pe_callTy call_tuple_of (by rfl) T.tup boot_tuple' (pa_cons (pv 4) pa_nil)) pa_nil))))))), ?_⟩
    obtain ⟨a1, xs1, rfl, e1, ha1⟩ := hd1.tupE
    obtain ⟨x1, y1, rfl, h1, h2⟩ := dq_two ha1
    cases h1.intE
    obtain ⟨b1, ys1, rfl, eb1, hb1⟩ := h2.tupE
    obtain ⟨a2, xs2, rfl, e2, ha2⟩ := hd2.tupE
    obtain ⟨x2, y2, rfl, h3, h4⟩ := dq_two ha2
    cases h3.intE
    obtain ⟨b2, ys2, rfl, eb2, hb2⟩ := h4.tupE
    have l1 := hb1.len
    have l2 := hb2.len
    rw [List.length_map] at l1 l2
    have m8 := hp1.m8
    have l8 := hp1.l8
    have o8 := hp2.l8
    refine ⟨_, rfl, a1, _, rfl, SqT.of e1, rfl, .int (m : Int), [.ref b1], rfl, .ref b1, [], rfl, rfl, ?_⟩
    refine ⟨_, rfl, b1, ys1, rfl, .inr (SqT.of eb1), _, rfl, a2, _, 0, .int (n : Int), rfl, rfl, SqT.of e2, atI_nat (j := 0) rfl, rfl, _, rfl, ?_⟩
    by_cases c : ls.length = n
    · rw [dec_int2, decide_eq_true (by rw [l1, c])]
      have q := qy c
      refine iteF ⟨_, rfl, a2, _, 1, .ref b2, rfl, rfl, SqT.of e2, atI_nat (j := 1) rfl, b2, rfl, ⟨_, SqT.of eb2⟩, fun D1 nD1 => ?_⟩
      refine lc_tup (K := K) (a := b2) (xs := ys2) (fun i H3 => ∃ ts : List V, H3 D1 = some (.lst ts) ∧ ts.length = i ∧ (∀ D B, DqAll D B H3 ts ((fedL m ls (os.take i)).map lotD)) ∧ Same H H3) ⟨[], upd_same, rfl, fun _ _ => .nil, same_upd nD1⟩ (fun i H3 _ ⟨_, _, _, _, s⟩ => SqT.of (s _ _ eb2)) ?_ ?_
      · rintro i y H3 hy ⟨ts, k3, tl, hts, s3⟩
        have hi : i < ys2.length := (List.getElem?_eq_some_iff.mp hy).1
        obtain ⟨dx, hdx, hxx⟩ := hb2.at_ i _ hy
        rw [List.getElem?_map] at hdx
        obtain ⟨ns, hns, rfl⟩ := Option.map_eq_some_iff.mp hdx
        obtain ⟨cn, rfl, ec⟩ := dq_lot hxx
        have hin : ∀ x ∈ ns, 0 ≤ x ∧ x < (ls.length : Int) := fun x hx => by
          obtain ⟨g, rfl⟩ := hp2.lot ns (List.mem_of_getElem? hns)
          obtain ⟨k, hk, _, rfl⟩ := rngF_mem.mp hx
          omega
        have nl : ns.length ≤ 8 := by
          obtain ⟨g, rfl⟩ := hp2.lot ns (List.mem_of_getElem? hns)
          exact Nat.le_trans (rngF_len _ _) hp2.m8
        refine ⟨wipe1, tYes_if ⟨_, rfl, (m : Int), rfl, by omega, by omega, fun D2 nD2 => ?_⟩⟩
        refine lc_range (lo := 0) (n := m) (fun k H5 => H5 D2 = some (.lst ((rngF k fun j : Nat => ns.any (has ls (j : Int))).map V.int)) ∧ Same H3 H5) ⟨upd_same, same_upd nD2⟩ ?_ ?_
        · rintro k H5 hk ⟨k5, s5⟩
          have s35 := s3.trans s5
          have ec5 := s35 _ _ ec
          have i0 : (0 : Int) + (k : Int) = (k : Int) := by omega
          refine ⟨wipe1, _, rfl, cn, rfl, ⟨_, SqT.of ec5⟩, fun D3 nD3 => ?_⟩
          refine lc_tup (K := K) (a := cn) (xs := ns.map V.int) (fun j H7 => H7 D3 = some (.lst (((ns.take j).map (has ls (k : Int))).map V.bl)) ∧ Same H5 H7) ⟨upd_same, same_upd nD3⟩ (fun j H7 _ h => SqT.of (h.2 _ _ ec5)) ?_ ?_
          · rintro j z H7 hz ⟨k7, s7⟩
            rw [List.getElem?_map] at hz
            obtain ⟨ix, hix, rfl⟩ := Option.map_eq_some_iff.mp hz
            obtain ⟨ix0, ix1⟩ := hin ix (List.mem_of_getElem? hix)
            have s37 := s35.trans s7
            have eb7 := s37 _ _ eb1
            have hlt : ix.toNat < ys1.length := by omega
            have hg1 : ys1[ix.toNat]? = some ys1[ix.toNat] := List.getElem?_eq_getElem hlt
            obtain ⟨dl, hdl, hll⟩ := hb1.at_ ix.toNat _ hg1
            rw [List.getElem?_map] at hdl
            obtain ⟨ms, hms, rfl⟩ := Option.map_eq_some_iff.mp hdl
            obtain ⟨cl, hcl, el⟩ := dq_lot hll
            have hat : atI ys1 ix = some (V.ref cl) := by
              have e0 : ix = ((ix.toNat : Nat) : Int) := by omega
              rw [e0]
              exact atI_nat (by rw [hg1, hcl])
            have hget : has ls (k : Int) ix = decide ((k : Int) ∈ ms) := by
              unfold has
              rw [List.getD_eq_getElem?_getD, hms]
              rfl
            refine ⟨wipe1, tYes_if ⟨_, rfl, _, rfl, _, rfl, b1, _, ix, .ref cl, rfl, rfl, SqT.of eb7, hat, cl, _, rfl, .inr (SqT.of (s37 _ _ el)), rfl, flat_ints ms, _, k7, ?_, ?_, ?_⟩⟩
            · simp only [List.length_map, List.length_take]
              exact Nat.lt_of_le_of_lt (Nat.min_le_right _ _) (smallN (by omega))
            · rw [upd_same, take_map_next hix, List.map_append, if_neg Bool.false_ne_true, i0, inV_mem, ← hget]
              rfl
            · intro z o hz
              have hz2 := s7 _ _ hz
              rw [upd_ne (ne_of_none hz nD3)]
              exact hz2
          · rintro H7 ⟨k7, s7⟩
            rw [List.length_map, List.take_length] at k7
            refine ⟨D3, _, rfl, SqL.of k7, _, rfl, ?_⟩
            have ea : (ns.map (has ls (k : Int))).any id = ns.any (has ls (k : Int)) := by
              rw [List.any_map]
              rfl
            rw [ea]
            refine ite2 (fun c => ?_) (fun c => ?_)
            · have hfl := rngF_len k fun j : Nat => ns.any (has ls (j : Int))
              refine ⟨_, rfl, _, s7 _ _ k5, ?_, ?_, ?_⟩
              · rw [List.length_map]
                exact smallN (by omega)
              · rw [upd_same, rngF_succ, if_pos c, List.map_append, i0]
                rfl
              · intro z o hz
                have hz2 := s7 _ _ (s5 _ _ hz)
                rw [upd_ne (ne_of_none hz nD2)]
                exact hz2
            · refine ⟨?_, s5.trans s7⟩
              rw [rngF_succ, if_neg c, List.append_nil]
              exact s7 _ _ k5
        · rintro H5 ⟨k5, s5⟩
          refine ⟨D2, _, rfl, .inl ⟨SqL.of k5, fun t nt => ?_⟩⟩
          have s6 := same_upd (o := .tup ((rngF m fun j : Nat => ns.any (has ls (j : Int))).map V.int)) nt
          have s56 := s5.trans s6
          have k6 := s56 _ _ k3
          have eqn : fedL m ls (os.take (i + 1)) = fedL m ls (os.take i) ++ [rngF m fun j : Nat => ns.any (has ls (j : Int))] := by
            unfold fedL
            rw [List.take_add_one, hns, List.map_append]
            rfl
          refine ⟨ts, k6, smallN (by omega), ts ++ [.ref t], upd_same, by rw [List.length_append, tl]; rfl, fun D B => ?_, fun z o hz => ?_⟩
          · refine plain_keepAll (n := 1) k6 (fun z o hz h => (upd_ne hz).trans h) (fun d hd => ?_) ?_
            · obtain ⟨ks, hks, rfl⟩ := List.mem_map.mp hd
              unfold fedL at hks
              obtain ⟨lt, _, rfl⟩ := List.mem_map.mp hks
              exact lot_plain m8
            · rw [eqn, List.map_append]
              exact DqAll.append (.cons (lotD_dq upd_same) .nil) ((hts D B).same s56)
          · rw [upd_ne (ne_of_none hz nD1)]
            exact s56 _ _ (s3 _ _ hz)
      · rintro H3 ⟨ts, k3, tl, hts, s3⟩
        rw [l2, List.take_length] at hts
        refine ⟨_, rfl, _, rfl, D1, ts, rfl, .inl ⟨SqL.of k3, fun t nt => ⟨sz1 rfl, fun u nu => ?_⟩⟩⟩
        have s8 := same_upd (o := .tup ts) nt
        have s9 := same_upd (o := .tup [.int (m : Int), .ref t]) nu
        exact q _ _ (s3.trans (s8.trans s9)) fun D B => .tup upd_same (.cons (.int _) (.cons (.tup (s9 _ _ upd_same) (((hts D B).same s8).same s9)) .nil))
    · rw [dec_int2, decide_eq_false (by rw [l1]; omega)]
      exact iteT (qn c)
end
end Jg
namespace Jg
open PySem PySem.Spec PyProof.Rows L2
def fedD (m n : Nat) (ls os : List (List Int)) : PyData := if ls.length = n then .list [.str (Str.ofString "ok"), patD m (fedL m ls os)] else .list [.str (Str.ofString "unfit")]
abbrev sLFed : Stmt := topS 24
abbrev nLFed : List Str := ["_law_one_here", "_law_other", "_law_found"]
theorem scLFed : FnScope nLFed ["_law_one_here", "_law_other"] (defScope sLFed) := ⟨rfl, rfl, rfl, by decide +kernel, rfl, by decide +kernel, by decide +kernel⟩
section
variable {P : Program} {w : World} {K : PySem.W.Frag} {mg : Str → Option Value} {base : Heap}
def spLFed : Sp := fun vs H Q _ => ∃ (D B : Addr) (v1 v2 : V) (m n : Nat) (ls os : List (List Int)), vs = [v1, v2] ∧ Dq D B H v1 (patD m ls) ∧ Pat m ls ∧ Dq D B H v2 (patD n os) ∧ Pat n os ∧
  ∀ u H', Same H H' → (∀ D B, H D ≠ none → H B ≠ none → Dq D B H' u (fedD m n ls os)) → Q u H'
theorem ok_lFed {f fP C : Addr} {fd fdP : FuncData} (F : Nm K mg "_law_fed" sLFed ["_law_one_here", "_law_other"] f fd) (FP : Nm K mg "fed_pattern" sFed ["one", "other"] fP fdP) (U : Uf K mg C) (ex : PySem.W.exmOne K (.ref C) (.ref C) = some true) (T : Bn mg) (T2 : Bn2 mg) :
    FnOk P w K mg base CX0 2 f fd ["_law_one_here", "_law_other"] spLFed := by
  have GP : FnOk P w K mg base (L2.CX P w) 1 fP fdP ["one", "other"] (spFed C) := ok_fed FP U T T2
  refine F.F.ok scLFed (fun vs H Q E h => ?_) (fun cdv A outer s H vs Q E hr h => ?_)
  · obtain ⟨D, B, v1, v2, m, n, ls, os, rfl, _⟩ := h
    rfl
  · obtain ⟨D, B, v1, v2, m, n, ls, os, rfl, hd1, hp1, hd2, hp2, q⟩ := h
    refine ⟨_, pss_cons (ps_try_only rfl rfl ⟨rfl, by decide, .inl U.g⟩ takes0
        (fun W pn xe tk _ => pss_one (ps_set (i := 2) scLFed.nd rfl (.inl rfl) (pe_lst (pa_cons pe_str (pa_cons (pe_callS GP hr rfl FP.g FP.F.kp FP.b (fun σ => passAt tk σ) (pa_cons (pv 0) (pa_cons (pv 1) pa_nil))) pa_nil)))))
        (fun a oe cls d pn _ _ => pss_one (ps_set (i := 2) scLFed.nd rfl (.inl rfl) (pe_lst (pa_cons pe_str pa_nil)))))
      (pss_one (ps_ret (pv 2))), ?_⟩
    refine ⟨_, rfl, _, rfl, D, B, v1, v2, m, n, ls, os, rfl, hd1, hp1, hd2, hp2, fun c u H' s hu => ⟨sz1 rfl, fun L nL => ⟨_, rfl, ?_⟩⟩, fun c => ⟨true, ex, fun _ a ha => ⟨sz1 rfl, fun L nL => ⟨_, rfl, ?_⟩⟩, fun z => nomatch z⟩⟩
    · have sL := same_upd (o := .lst [.str (Str.ofString "ok"), u]) nL
      refine q _ _ (s.trans sL) fun D B nD nB => ?_
      unfold fedD
      rw [if_pos c]
      exact .lst (fun z => (Same.some s nD) (by rw [← z]; exact nL)) (fun z => (Same.some s nB) (by rw [← z]; exact nL)) upd_same (.cons (.str _) (.cons ((hu D B).same sL) .nil))
    · have sL := same_upd (o := .lst [.str (Str.ofString "unfit")]) nL
      refine q _ _ sL fun D B nD nB => ?_
      unfold fedD
      rw [if_neg c]
      exact .lst (fun z => nD (by rw [← z]; exact nL)) (fun z => nB (by rw [← z]; exact nL)) upd_same (.cons (.str _) .nil)
end
end Jg
namespace Jg
open PySem PySem.Spec PyProof.Rows L2
/-! ### the law's body: the two patterns -/
structure Env52 (P : Program) (w : World) (K : PySem.W.Frag) (mg : Str → Option Value) (base : Heap) : Prop where
  bn : Bn mg
  b2 : Bn2 mg
  deck : ∃ f fd, Cal P w K mg base "_law_deck" 1 ["_law_script"] (spDeck K) f fd
  draw : ∃ f fd, Cal P w K mg base "_law_draw" 1 ["_law_deck_here", "_law_many"] spDraw f fd
  odd : ∃ f fd, Cal P w K mg base "_law_odd" 3 ["_law_deck_here"] spOdd f fd
  bent : ∃ f fd, Cal P w K mg base "_law_bent" 7 ["_law_deck_here", "_law_value", "_law_deep"] (spB 4) f fd
  pat : ∃ f fd, Cal P w K mg base "_law_pattern" 3 ["_law_deck_here", "_law_most"] spLPat f fd
  lperr : ∃ f fd, Cal P w K mg base "_law_pattern_error" 3 ["_law_value"] spPErr f fd
  perr : ∃ f fd, Cal P w K mg base "pattern_error" 4 ["value"] spPErr f fd ∧ KBinds K fd ["value"] ["value"] kwOne kwOneV
  turn : ∃ f fd, Cal P w K mg base "turned_pattern" 1 ["pattern"] spTurn f fd ∧ KBinds K fd ["pattern"] ["pattern"] kwOne kwOneV
  lfed : ∃ f fd, Cal P w K mg base "_law_fed" 2 ["_law_one_here", "_law_other"] spLFed f fd
  ldue : ∃ f fd, Cal P w K mg base "_law_fed_due" 2 ["_law_one_here", "_law_other"] spLFed f fd
abbrev sLaw : Stmt := topS 26
abbrev nLaw : List Str := ["_law_script", "_law_deck_here", "_law_turn", "_law_one_here", "_law_other", "_law_lots", "_law_many", "_law_some", "_law_value", "_law_shown", "_law_marks", "_law_end", "_law_turned", "_law_due", "_law_k", "_law_own", "_law_unknown"]
theorem scLaw : FnScope nLaw ["_law_script"] (defScope sLaw) := ⟨rfl, rfl, rfl, by decide +kernel, rfl, by decide +kernel, by decide +kernel⟩
def stL (i : Nat) : Stmt := (forBody ((defBody sLaw).getD 1 (.Pass ⟨0, 0, 0, 0⟩))).getD i (.Pass ⟨0, 0, 0, 0⟩)
abbrev LX (P : Program) (w : World) (K : PySem.W.Frag) (mg : Str → Option Value) (base : Heap) (f : Addr) (cdv : Value) (Ar : Around) (out : List Env) (s0 : Shared) (H0 : Hp) (E : XK) : Cx :=
  (cxOf CX0 P w K mg base nLaw "law" (defScope sLaw) f cdv Ar out s0 H0 E).nox
def ifBody : Stmt → List Stmt
  | .If _ b _ _ => b
  | _ => []
def scIn : Scope := relab (compScope (defScope sLaw) (asgVal ((ifBody (stL 1)).getD 0 (.Pass ⟨0, 0, 0, 0⟩)))) (defScope sLaw)
structure Par where
  D : Addr
  B : Addr
  C : Addr
  cells : List Int
  m : Nat
  ls : List (List Int)
  v1 : V
/-- the deck is there -/
structure W0 (D B C : Addr) (cells : List Int) (σ : L2.St) (H : Hp) : Prop where
  len : σ.length = 17
  s1 : σ[1]? = some (some (.ref D))
  dk : DeckAt D B C cells H
theorem W0.set {D B C : Addr} {cells : List Int} {σ : L2.St} {H : Hp} {v : Option V} (w : W0 D B C cells σ H) {i : Nat} (h : i ≠ 1) : W0 D B C cells (σ.set i v) H := ⟨by rw [List.length_set]; exact w.len, by rw [get_set_ne h]; exact w.s1, w.dk⟩
/-- both patterns -/
structure WA (p : Par) (v2 : V) (n : Nat) (os : List (List Int)) (σ : L2.St) (H : Hp) : Prop where
  len : σ.length = 17
  s1 : σ[1]? = some (some (.ref p.D))
  s3 : σ[3]? = some (some p.v1)
  s4 : σ[4]? = some (some v2)
  dk : DeckAt p.D p.B p.C p.cells H
  q1 : Dq p.D p.B H p.v1 (patD p.m p.ls)
  q2 : Dq p.D p.B H v2 (patD n os)
  p1 : Pat p.m p.ls
  p2 : Pat n os
section
variable {p : Par} {v2 : V} {n : Nat} {os : List (List Int)} {σ : L2.St} {H H' : Hp} {v : Option V}
theorem WA.set (w : WA p v2 n os σ H) {i : Nat} (h : 4 < i) : WA p v2 n os (σ.set i v) H :=
  ⟨by rw [List.length_set]; exact w.len, by rw [get_set_ne (by omega)]; exact w.s1, by rw [get_set_ne (by omega)]; exact w.s3, by rw [get_set_ne (by omega)]; exact w.s4, w.dk, w.q1, w.q2, w.p1, w.p2⟩
theorem WA.go (w : WA p v2 n os σ H) (dk : DeckAt p.D p.B p.C p.cells H') (f : Fr p.D p.B H H') : WA p v2 n os σ H' :=
  ⟨w.len, w.s1, w.s3, w.s4, dk, w.dk.data f w.q1, w.dk.data f w.q2, w.p1, w.p2⟩
theorem WA.same (w : WA p v2 n os σ H) (s : Same H H') : WA p v2 n os σ H' := w.go (w.dk.same s) (Fr.of_same s)
end
section
variable {P : Program} {w : World} {K : PySem.W.Frag} {mg : Str → Option Value} {base : Heap} {f : Addr} {cdv : Value} {Ar : Around} {out : List Env} {s0 : Shared} {H0 : Hp} {E : XK}
def t0 : TS := fun Dn σ H => ∃ D B C cells, W0 D B C cells σ H ∧ ∀ p v2 n os σ' H', WA p v2 n os σ' H' → Dn.nx σ' H'
theorem b0 (T : Env52 P w K mg base) (hr : Room 7 (LX P w K mg base f cdv Ar out s0 H0 E).A) : PS (LX P w K mg base f cdv Ar out s0 H0 E) (stL 0) t0 := by
  obtain ⟨fP, fdP, GP⟩ := T.pat
  refine ps_imp (ps_asg (pe_tup (pa_cons (pe_call GP.F (hr.mono (by decide)) (by rfl) GP.g GP.kp GP.b .nil pass0 (pa_cons (pv 1) (pa_cons pe_int pa_nil))) (pa_cons (pe_call GP.F (hr.mono (by decide)) (by rfl) GP.g GP.kp GP.b .nil pass0 (pa_cons (pv 1) (pa_cons pe_int pa_nil))) pa_nil)))
    (pg_tup rfl (pgs_cons (pg_name (i := 3) scLaw.nd rfl (.inr rfl)) (pgs_cons (pg_name (i := 4) scLaw.nd rfl (.inl rfl)) pgs_nil)))) ?_
  rintro Dn σ H ⟨D, B, C, cells, w0, q⟩
  refine ⟨_, w0.s1, D, B, C, cells, rfl, w0.dk, fun v1 m ls H1 p1 q1 dk1 f1 => ⟨_, w0.s1, D, B, C, cells, rfl, dk1, fun v2 n os H2 p2 q2 dk2 f2 => ⟨sz1 rfl, fun t nt => ⟨t, _, rfl, SqT.of upd_same, rfl, v1, [v2], rfl, v2, [], rfl, rfl, ?_⟩⟩⟩⟩
  have s3 := same_upd (o := .tup [v1, v2]) nt
  refine q ⟨D, B, C, cells, m, ls, v1⟩ v2 n os _ _ ⟨by rw [List.length_set, List.length_set]; exact w0.len, ?_, ?_, ?_, dk2.same s3, (dk1.data f2 q1).same s3, q2.same s3, p1, p2⟩
  · rw [get_set_ne (by decide), get_set_ne (by decide)]
    exact w0.s1
  · rw [get_set_ne (by decide)]
    exact get_set_eq (by rw [w0.len]; decide)
  · exact get_set_eq (by rw [List.length_set, w0.len]; decide)
def t1 : TS := fun Dn σ H => ∃ p v2 n os, WA p v2 n os σ H ∧ ∀ v2 n os σ' H', WA p v2 n os σ' H' → Dn.nx σ' H'
set_option maxHeartbeats 4000000 in
theorem b1 (T : Env52 P w K mg base) (hr : Room 7 (LX P w K mg base f cdv Ar out s0 H0 E).A) : PS (LX P w K mg base f cdv Ar out s0 H0 E) (stL 1) t1 := by
  obtain ⟨fD, fdD, GD⟩ := T.draw
  have hr1 := hr.mono (show 1 ≤ 7 by decide)
  refine ps_imp (ps_if (pt_cmpR op_eq (pe_call GD.F hr1 (by rfl) GD.g GD.kp GD.b .nil pass0 (pa_cons (pv 1) (pa_cons pe_int pa_nil))) pe_int (nomark _))
    (pss_cons (ps_setLc (i := 5) (own := [("_law_k", 14)]) (g := gName 14) (tt := tYes) rfl scLaw.nd rfl rfl (sw_true rfl rfl rfl rfl) (pi_range1 (by rfl) T.bn.rng (pa_cons pe_int pa_nil)) (blkOk_by (N := nLaw) (sc := defScope sLaw) (by decide +kernel))
        (fun _ _ _ _ _ => pg_name (i := 14) scLaw.nd rfl (.inl rfl)) (fun _ _ _ _ _ => pts_nil)
        (fun _ _ _ _ _ => pe_callTy (call_tupK (K := K) rfl) (by rfl) T.bn.tup boot_tuple' (pa_cons (pe_lc (own := [("_law_own", 15)]) (g := gName 15) rfl scLaw.nd (pi_range1 (by rfl) T.bn.rng (pa_cons (pe_callB (call_lenK (K := K) rfl) (by rfl) T.bn.len PySem.boot_len (pa_cons (pe_ix (ix_tupK (K := K) rfl) (pv 3) pe_int (fun _ _ => rfl)) pa_nil)) pa_nil)) (blkOk_by (N := nLaw) (sc := scIn) (by decide +kernel))
          (fun _ _ _ _ _ => pg_name (i := 15) scLaw.nd rfl (.inl rfl)) (fun _ _ _ _ _ => pts_one (pt_cmpR op_eq (pe_call GD.F hr1 (by rfl) GD.g GD.kp GD.b .nil pass0 (pa_cons (pv 1) (pa_cons pe_int pa_nil))) pe_int (nomark _))) (fun _ _ _ _ _ => pv 15)) pa_nil)))
    (pss_one (ps_set (i := 4) scLaw.nd rfl (.inl rfl) (pe_tup (pa_cons (pe_callB call_len_seq (by rfl) T.bn.len PySem.boot_len (pa_cons (pe_ix ix_tup (pv 3) pe_int (fun _ _ => rfl)) pa_nil)) (pa_cons (pe_callTy call_tuple_of (by rfl) T.bn.tup boot_tuple' (pa_cons (pv 5) pa_nil)) pa_nil)))))) pss_nil) ?_
  rintro Dn σ H ⟨p, v2, n, os, wa, q⟩
  refine ⟨_, wa.s1, p.D, p.B, p.C, p.cells, 2, rfl, wa.dk, by decide, by decide, fun j H1 j0 j1 dk1 f1 => ⟨rfl, _, rfl, ?_⟩⟩
  have w1 := wa.go dk1 f1
  refine ite2 (fun c => ?_) (fun c => q v2 n os σ H1 w1)
  obtain ⟨a1, xs1, e0, e1, ha1⟩ := w1.q1.tupE
  obtain ⟨x1, y1, rfl, h1, h2⟩ := dq_two ha1
  cases h1.intE
  obtain ⟨b1, ys1, rfl, eb1, hb1⟩ := h2.tupE
  have l1 := hb1.len
  rw [List.length_map] at l1
  have l8 := wa.p1.l8
  have ne1 := tup_ne w1.dk e1
  have neb := tup_ne w1.dk eb1
  refine ⟨4, rfl, by decide, by decide, fun D1 nD1 => ?_⟩
  have n1D := w1.dk.neD nD1
  have n1B := w1.dk.neB nD1
  have n1C := ne_of_none w1.dk.cel nD1
  refine lc_range (lo := 0) (n := 4) (fun i H3 => ∃ (ts : List V) (rs : List (List Int)), H3 D1 = some (.lst ts) ∧ DqAll p.D p.B H3 ts (rs.map lotD) ∧ rs.length = i ∧ (∀ ns ∈ rs, ∃ g, ns = rngF p.ls.length g) ∧ DeckAt p.D p.B p.C p.cells H3 ∧ Fr p.D p.B H1 H3) ⟨[], [], upd_same, .nil, rfl, (fun _ h => nomatch h), w1.dk.same (same_upd nD1), Fr.of_same (same_upd nD1)⟩ ?_ ?_
  · rintro i H3 hi ⟨ts, rs, k3, hts, rl, hrs, dk3, f3⟩
    have tl := hts.len
    rw [List.length_map] at tl
    refine ⟨wipe1, tYes_if ⟨_, (w1_out (i := 14) (k := 3) (by decide)).trans (w1.s3.trans (by rw [e0])), a1, _, 1, .ref b1, rfl, rfl, SqT.of (f3 _ _ ne1.1 ne1.2 e1), atI_nat (j := 1) rfl, b1, ys1, rfl, .inr (SqT.of (f3 _ _ neb.1 neb.2 eb1)), ((ys1.length : Nat) : Int), rfl, by omega, by omega, fun D2 nD2 => ?_⟩⟩
    have n2D := dk3.neD nD2
    have n2B := dk3.neB nD2
    have n2C := ne_of_none dk3.cel nD2
    refine lc_range (lo := 0) (n := ys1.length) (fun k H5 => ∃ g, H5 D2 = some (.lst ((rngF k g).map V.int)) ∧ DeckAt p.D p.B p.C p.cells H5 ∧ Fr p.D p.B H3 H5) ⟨fun _ => false, upd_same, dk3.same (same_upd nD2), Fr.of_same (same_upd nD2)⟩ ?_ ?_
    · rintro k H5 hk ⟨g, k5, dk5, f5⟩
      have hs1 : ((wipe ((wipe σ [14]).set 14 (some (.int (0 + (i : Int))))) [15]).set 15 (some (.int (0 + (k : Int)))))[1]? = some (some (.ref p.D)) := (w1_out (i := 15) (k := 1) (by decide)).trans ((w1_out (i := 14) (k := 1) (by decide)).trans w1.s1)
      refine ⟨wipe1, _, hs1, p.D, p.B, p.C, p.cells, 2, rfl, dk5, by decide, by decide, fun c H6 c0 c1 dk6 f6 => ⟨rfl, _, rfl, ?_⟩⟩
      have k6 := f6 _ _ n2D n2B k5
      have nx : ∀ b : Bool, rngF (k + 1) (fun z => if z = k then b else g z) = rngF k g ++ (if b = true then [(k : Int)] else []) := fun b => by
        rw [rngF_succ, if_pos rfl]
        congr 1
        exact rngF_congr fun z hz => if_neg (by omega)
      refine ite2 (fun c => ?_) (fun c => ?_)
      · have hfl := rngF_len k g
        have hs15 : ((wipe ((wipe σ [14]).set 14 (some (.int (0 + (i : Int))))) [15]).set 15 (some (.int (0 + (k : Int)))))[15]? = some (some (.int (0 + (k : Int)))) := w1_own (by rw [List.length_set, wipe_length, w1.len]; decide)
        refine ⟨_, hs15, _, k6, ?_, fun z => if z = k then true else g z, ?_, ?_, ?_⟩
        · rw [List.length_map]
          exact smallN (by omega)
        · rw [upd_same, nx true, if_pos rfl, List.map_append, show (0 : Int) + (k : Int) = (k : Int) by omega]
          rfl
        · exact dk6.but (fun b o h h2 => (upd_ne h).trans h2) n2D.symm n2B.symm n2C
        · intro b o h1 h2 h3
          rw [upd_ne (ne_of_none h3 nD2)]
          exact f6 _ _ h1 h2 (f5 _ _ h1 h2 h3)
      · refine ⟨fun z => if z = k then false else g z, ?_, dk6, f5.trans f6⟩
        rw [k6, nx false, if_neg Bool.false_ne_true, List.append_nil]
    · rintro H5 ⟨g, k5, dk5, f5⟩
      refine ⟨D2, _, rfl, .inl ⟨SqL.of k5, fun t nt => ?_⟩⟩
      have s6 := same_upd (o := .tup ((rngF ys1.length g).map V.int)) nt
      have k6 := s6 _ _ (f5 _ _ n1D n1B k3)
      have dk6 := dk5.same s6
      have q6 := (dk3.dataAll f5 hts).same s6
      have fA : ∀ b o, b ≠ D1 → (upd H5 t (.tup ((rngF ys1.length g).map V.int))) b = some o → (upd (upd H5 t (.tup ((rngF ys1.length g).map V.int))) D1 (.lst (ts ++ [.ref t]))) b = some o := fun b o hb h => by
        rw [upd_ne hb]
        exact h
      have pl : ∀ d ∈ (rs ++ [rngF p.ls.length g]).map lotD, Plain 1 d := fun d hd => by
        obtain ⟨ns, hns, rfl⟩ := List.mem_map.mp hd
        rcases List.mem_append.mp hns with h | h
        · obtain ⟨g2, rfl⟩ := hrs ns h
          exact lot_plain l8
        · rw [List.mem_singleton.mp h]
          exact lot_plain l8
      refine ⟨ts, k6, smallN (by omega), ts ++ [.ref t], rs ++ [rngF p.ls.length g], upd_same, plain_keepAll k6 fA pl ?_, by rw [List.length_append, rl]; rfl, (fun ns h => (List.mem_append.mp h).elim (hrs ns) fun h => ⟨g, List.mem_singleton.mp h⟩), dk6.but fA n1D.symm n1B.symm n1C, fun b o h1 h2 h3 => ?_⟩
      · rw [List.map_append, ← l1]
        exact DqAll.append (.cons (lotD_dq upd_same) .nil) q6
      · exact fA _ _ (ne_of_none h3 nD1) (s6 _ _ (f5 _ _ h1 h2 (f3 _ _ h1 h2 h3)))
  · rintro H3 ⟨ts, rs, k3, hts, rl, hrs, dk3, f3⟩
    have w3 := (w1.go dk3 f3).set (i := 5) (v := some (.ref D1)) (by decide)
    have s5 : (σ.set 5 (some (.ref D1)))[5]? = some (some (.ref D1)) := get_set_eq (by rw [w1.len]; decide)
    have hrl : rs.length = 4 := rl
    refine ⟨_, w3.s3.trans (by rw [e0]), a1, _, 1, .ref b1, rfl, rfl, SqT.of (f3 _ _ ne1.1 ne1.2 e1), atI_nat (j := 1) rfl, b1, ys1, rfl, .inr (SqT.of (f3 _ _ neb.1 neb.2 eb1)), _, s5, D1, ts, rfl, .inl ⟨SqL.of k3, fun t nt => ⟨sz1 rfl, fun u nu => ?_⟩⟩⟩
    have s8 := same_upd (o := .tup ts) nt
    have s9 := same_upd (o := .tup [.int ((ys1.length : Nat) : Int), .ref t]) nu
    have w9 := w3.same (s8.trans s9)
    have q9 : Dq p.D p.B _ (.ref u) (patD p.ls.length rs) := .tup upd_same (.cons (by rw [l1]; exact .int _) (.cons (.tup (s9 _ _ upd_same) ((hts.same s8).same s9)) .nil))
    refine q (.ref u) p.ls.length rs _ _ ⟨by rw [List.length_set]; exact w9.len, ?_, ?_, get_set_eq (by rw [w9.len]; decide), w9.dk, w9.q1, q9, w9.p1, ⟨l8, by omega, hrs⟩⟩
    · rw [get_set_ne (by decide)]
      exact w9.s1
    · rw [get_set_ne (by decide)]
      exact w9.s3
end
end Jg
namespace Jg
open PySem PySem.Spec PyProof.Rows L2
/-! ### t * 3, t perhaps () -/
theorem tmul_nil (l : Addr) (its : Array Value) (n : Nat) (dd : Option Addr) (sl : Array (Option Value)) (u : Tok) (hi : its.isEmpty = true) :
    Meets (Builtin.«tuple.__mul__» ⟨[.ref l, .int 3 u], []⟩) (fun _ R s => s.heap.get? l = some { cls := .type "tuple", dict := dd, data := .seq its n, slots := sl } ∧ R (.ok (.ret (Value.ref l))) s) := by
  refine .of_wp fun prog w A R s h => ?_
  obtain ⟨hp, g, d, tk, os⟩ := s
  obtain ⟨hl, h⟩ := h
  have f1 := AutoSeq1.idx_int
  have c1 : (its.isEmpty || (3 : Int) == 1) = true := by rw [hi]; rfl
  wp_walk using AutoSeq1.wpAny_loadPart' hl
  exact ⟨_, rfl, h⟩
def rRep3 : R2 := fun x y H Q => ∃ (l : Addr) (xs : List V), x = .ref l ∧ y = .int 3 ∧ H l = some (.tup xs) ∧ xs.length ≤ 100 ∧ ∀ p H', Same H H' → H' p = some (.tup (List.replicate 3 xs).flatten) → Q (.ref p) H'
theorem op_rep3 {X : Cx} : OpR X (binaryOp .Mult) rRep3 := by
  intro pins s σ H x y v u Q I rx ry h
  obtain ⟨l, xs, rfl, rfl, hT, hz, q⟩ := h
  by_cases hne : xs = []
  · subst hne
    cases rx
    obtain ⟨t, rfl⟩ := ry
    obtain ⟨its, r, ⟨⟨cls, dd, data, sl⟩, ho, hc, n, hd⟩, hs⟩ := I.tuple (SqT.of hT)
    simp only at hc hd
    subst hc hd
    have hi : its.toArray.isEmpty = true := by
      cases its with
      | nil => rfl
      | cons a b => cases r
    refine wpAny_binaryOp_repeat_ref (T := "tuple") (U := "int") (by decide) ⟨_, ho, rfl⟩ (fun s' => typeIs_int s' _ t) noFill_tuple_mul F.fills_int_mul F.slot_int_rmul repeat_tuple F.slot_int_index.lookup
      (call_meets F.slot_int_rmul (typeIs_int s _ t) F.entry_int_rmul (F.args_int_rmul_2 _ _) (int_rmul_tuple _ t l its.toArray n dd sl) ⟨ho, rfl, ⟨_, ho, rfl⟩, call_meets F.slot_tuple_mul ⟨_, ho, rfl⟩ F.entry_tuple_mul (F.args_tuple_mul_2 _ _) (tmul_nil l its.toArray n dd sl t hi) ⟨ho, ?_⟩⟩)
    exact ⟨.ref l, H, I, rfl, q l H (Same.refl H) hT⟩
  · exact op_repT pins s σ H _ _ v u Q I rx ry ⟨l, 3, xs, rfl, rfl, SqT.of hT, hne, by decide, by decide, by omega, fun p np => q p _ (same_upd np) upd_same⟩
theorem dq_rep {D B : Addr} {H : Hp} {xs : List V} {ds : List PyData} (h : DqAll D B H xs ds) : ∀ k : Nat, DqAll D B H (List.replicate k xs).flatten (List.replicate k ds).flatten
  | 0 => .nil
  | k + 1 => by
    rw [List.replicate_succ, List.replicate_succ, List.flatten_cons, List.flatten_cons]
    exact DqAll.append (dq_rep h k) h
theorem rep_len {α : Type} (ds : List α) : ∀ k : Nat, (List.replicate k ds).flatten.length = k * ds.length
  | 0 => by simp
  | k + 1 => by rw [List.replicate_succ, List.flatten_cons, List.length_append, rep_len ds k, Nat.succ_mul, Nat.add_comm]
theorem rep_all {P : PyData → Prop} {ds : List PyData} (h : ∀ d ∈ ds, P d) (k : Nat) : ∀ d ∈ (List.replicate k ds).flatten, P d := fun d hd => by
  obtain ⟨l, hl, hm⟩ := List.mem_flatten.mp hd
  rw [(List.mem_replicate.mp hl).2] at hm
  exact h d hm
/-! ### the law's body: the values -/
def Fine (d : PyData) : Prop := Ok 8 2700000 d
theorem lot_ok {m : Nat} {f : Nat → Bool} (h : m ≤ 8) : Ok 4 20437 (lotD (rngF m f)) := plain_ok 1 _ (lot_plain h)
theorem fine_tup {k c n : Nat} {ds : List PyData} (h : ∀ d ∈ ds, Ok k c d) (hn : ds.length ≤ n) (hk : k ≤ 7) (hc : n * (c + 2) + 3 ≤ 2700000) : Fine (.tuple ds) := (ok_tup h hn).mono (by omega) hc
theorem fine_lst {k c n : Nat} {ds : List PyData} (h : ∀ d ∈ ds, Ok k c d) (hn : ds.length ≤ n) (hk : k ≤ 7) (hc : n * (c + 2) + 3 ≤ 2700000) : Fine (.list ds) := (ok_lst h hn).mono (by omega) hc
theorem okI1 {i : Int} (h : i.natAbs ≤ 10 ^ 21) : Ok 5 700000 (.int i) := (ok_int25 (Nat.lt_of_le_of_lt h (by decide))).mono (by decide) (by decide)
theorem okS {ds : List PyData} (h : ∀ d ∈ ds, Ok 4 20437 d) (hn : ds.length ≤ 30) : Ok 5 700000 (.tuple ds) := (ok_tup h hn).mono (by decide) (by decide)
theorem okL {ds : List PyData} (h : ∀ d ∈ ds, Ok 4 20437 d) (hn : ds.length ≤ 30) : Ok 5 700000 (.list ds) := (ok_lst h hn).mono (by decide) (by decide)
theorem fine2 {x y : PyData} (hx : Ok 5 700000 x) (hy : Ok 5 700000 y) : Fine (.tuple [x, y]) := fine_tup (n := 2) (a_cons hx (a_cons hy a_nil)) (Nat.le_refl 2) (by decide) (by decide)
theorem lots_ok {m : Nat} {ls : List (List Int)} (h : Pat m ls) : ∀ d ∈ ls.map lotD, Ok 4 20437 d := fun d hd => by
  obtain ⟨ns, hns, rfl⟩ := List.mem_map.mp hd
  obtain ⟨f, rfl⟩ := h.lot ns hns
  exact lot_ok h.m8
/-- the first pattern's parts -/
structure WB (p : Par) (r b : Addr) (ys : List V) (v2 : V) (n : Nat) (os : List (List Int)) (σ : L2.St) (H : Hp) : Prop extends WA p v2 n os σ H where
  s5 : σ[5]? = some (some (.ref b))
  s6 : σ[6]? = some (some (.int (p.m : Int)))
  v1 : p.v1 = .ref r
  er : H r = some (.tup [.int (p.m : Int), .ref b])
  eb : H b = some (.tup ys)
  qb : DqAll p.D p.B H ys (p.ls.map lotD)
section
variable {p : Par} {r b : Addr} {ys : List V} {v2 : V} {n : Nat} {os : List (List Int)} {σ : L2.St} {H H' : Hp} {v : Option V}
theorem WB.set (w : WB p r b ys v2 n os σ H) {i : Nat} (h : 6 < i) : WB p r b ys v2 n os (σ.set i v) H :=
  ⟨w.toWA.set (by omega), by rw [get_set_ne (by omega)]; exact w.s5, by rw [get_set_ne (by omega)]; exact w.s6, w.v1, w.er, w.eb, w.qb⟩
theorem WB.go (w : WB p r b ys v2 n os σ H) (dk : DeckAt p.D p.B p.C p.cells H') (f : Fr p.D p.B H H') : WB p r b ys v2 n os σ H' :=
  ⟨w.toWA.go dk f, w.s5, w.s6, w.v1, f _ _ (tup_ne w.dk w.er).1 (tup_ne w.dk w.er).2 w.er, f _ _ (tup_ne w.dk w.eb).1 (tup_ne w.dk w.eb).2 w.eb, w.dk.dataAll f w.qb⟩
theorem WB.same (w : WB p r b ys v2 n os σ H) (s : Same H H') : WB p r b ys v2 n os σ H' := w.go (w.dk.same s) (Fr.of_same s)
theorem WB.at_ (w : WB p r b ys v2 n os σ H) {i : Nat} (h : i < 17) {v : Option V} : (σ.set i v)[i]? = some v := get_set_eq (by rw [w.len]; exact h)
theorem WB.s3' (w : WB p r b ys v2 n os σ H) : σ[3]? = some (some (.ref r)) := by
  rw [w.s3, w.v1]
end
structure WS (p : Par) (r b : Addr) (ys : List V) (v2 : V) (n : Nat) (os : List (List Int)) (L : Addr) (xs : List V) (ls : List PyData) (σ : L2.St) (H : Hp) : Prop extends WB p r b ys v2 n os σ H where
  s7 : σ[7]? = some (some (.ref L))
  eL : H L = some (.lst xs)
  nL : L ≠ p.D ∧ L ≠ p.B
  q : DqAll p.D p.B H xs ls
  fine : ∀ d ∈ ls, Fine d
  cnt : ls.length ≤ 60
section
variable {p : Par} {r b : Addr} {ys : List V} {v2 : V} {n : Nat} {os : List (List Int)} {L : Addr} {xs : List V} {ls : List PyData} {σ : L2.St} {H H' : Hp} {v : Option V}
theorem WS.go (w : WS p r b ys v2 n os L xs ls σ H) (dk : DeckAt p.D p.B p.C p.cells H') (f : Fr p.D p.B H H') : WS p r b ys v2 n os L xs ls σ H' :=
  ⟨w.toWB.go dk f, w.s7, f _ _ w.nL.1 w.nL.2 w.eL, w.nL, w.dk.dataAll f w.q, w.fine, w.cnt⟩
theorem WS.same (w : WS p r b ys v2 n os L xs ls σ H) (s : Same H H') : WS p r b ys v2 n os L xs ls σ H' := w.go (w.dk.same s) (Fr.of_same s)
theorem WB.take (w : WB p r b ys v2 n os σ H) {N : Addr} (k : H N = none) (q : DqAll p.D p.B H xs ls) (fine : ∀ d ∈ ls, Fine d) (cnt : ls.length ≤ 60) : WS p r b ys v2 n os N xs ls (σ.set 7 (some (.ref N))) (upd H N (.lst xs)) :=
  ⟨(w.same (same_upd k)).set (by decide), w.at_ (by decide), upd_same, ⟨w.dk.neD k, w.dk.neB k⟩, q.same (same_upd k), fine, cnt⟩
theorem WS.grow (w : WS p r b ys v2 n os L xs ls σ H) {N : Addr} {zs : List V} {es : List PyData} (k : H N = none) (q : DqAll p.D p.B H zs es) (fine : ∀ d ∈ es, Fine d) (cnt : ls.length + es.length ≤ 60) : WS p r b ys v2 n os N (xs ++ zs) (ls ++ es) (σ.set 7 (some (.ref N))) (upd H N (.lst (xs ++ zs))) :=
  w.toWB.take k (DqAll.append q w.q) (a_app w.fine fine) (by rw [List.length_append]; exact cnt)
theorem WS.sz (w : WS p r b ys v2 n os L xs ls σ H) {k : Nat} (hk : k ≤ 40) : xs.length + k ≤ sizeLine := by
  have h1 := w.q.len
  have h2 := w.cnt
  exact Nat.le_of_lt (small1000 (by omega))
end
section
variable {P : Program} {w : World} {K : PySem.W.Frag} {mg : Str → Option Value} {base : Heap} {f : Addr} {cdv : Value} {Ar : Around} {out : List Env} {s0 : Shared} {H0 : Hp} {E : XK}
/-- many, lots = one -/
def t2 : TS := fun Dn σ H => ∃ p v2 n os, WA p v2 n os σ H ∧ ∀ r b ys σ' H', WB p r b ys v2 n os σ' H' → Dn.nx σ' H'
theorem b2 (T : Env52 P w K mg base) : PS (LX P w K mg base f cdv Ar out s0 H0 E) (stL 2) t2 := by
  refine ps_imp (ps_asg (pv 3) (pg_tup rfl (pgs_cons (pg_name (i := 6) scLaw.nd rfl (.inl rfl)) (pgs_cons (pg_name (i := 5) scLaw.nd rfl (.inl rfl)) pgs_nil)))) ?_
  rintro Dn σ H ⟨p, v2, n, os, wa, q⟩
  obtain ⟨a1, xs1, e0, e1, ha1⟩ := wa.q1.tupE
  obtain ⟨x1, y1, rfl, h1, h2⟩ := dq_two ha1
  cases h1.intE
  obtain ⟨b1, ys1, rfl, eb1, hb1⟩ := h2.tupE
  refine ⟨_, wa.s3.trans (by rw [e0]), a1, _, rfl, SqT.of e1, rfl, .int (p.m : Int), [.ref b1], rfl, .ref b1, [], rfl, rfl, ?_⟩
  have w1 := (wa.set (i := 6) (v := some (.int (p.m : Int))) (by decide)).set (i := 5) (v := some (.ref b1)) (by decide)
  refine q a1 b1 ys1 _ H ⟨w1, get_set_eq (by rw [List.length_set, wa.len]; decide), ?_, e0, e1, eb1, hb1⟩
  rw [get_set_ne (by decide)]
  exact get_set_eq (by rw [wa.len]; decide)
/-- some = [six] -/
def t3 : TS := fun Dn σ H => ∃ p r b ys v2 n os, WB p r b ys v2 n os σ H ∧ ∀ L xs ls σ' H', WS p r b ys v2 n os L xs ls σ' H' → ls.length = 6 → Dn.nx σ' H'
theorem b3 (T : Env52 P w K mg base) : PS (LX P w K mg base f cdv Ar out s0 H0 E) (stL 3) t3 := by
  refine ps_imp (ps_set (i := 7) scLaw.nd rfl (.inl rfl) (pe_lst (pa_cons (pv 3) (pa_cons (pe_tup (pa_cons (pv 6) (pa_cons (pe_op op_rep3 (pv 5) pe_int) pa_nil)))
    (pa_cons (pe_tup (pa_cons (pv 6) (pa_cons (pe_op op_catA (pe_slice sl_tupA (pv 5) po_none (po_some pe_int)) (pe_tup (pa_cons (pe_tup pa_nil) pa_nil))) pa_nil))) (pa_cons (pe_tup (pa_cons pe_int (pa_cons (pv 5) pa_nil)))
    (pa_cons (pe_tup (pa_cons (pe_op op_sub (pv 6) pe_int) (pa_cons (pv 5) pa_nil))) (pa_cons (pe_callTy call_list_of (by rfl) T.bn.lst boot_list' (pa_cons (pv 3) pa_nil)) pa_nil)))))))) ?_
  rintro Dn σ H ⟨p, r, b, ys, v2, n, os, wb, q⟩
  have l1 := wb.qb.len
  have l8 := wb.p1.l8
  have m8 := wb.p1.m8
  have lo := lots_ok wb.p1
  rw [List.length_map] at l1
  refine ⟨_, wb.s3', _, wb.s6, _, wb.s5, b, ys, rfl, rfl, wb.eb, by omega, fun c1 H1 s1 g1 => ⟨sz1 rfl, fun t1 n1 => ⟨_, wb.s6, _, wb.s5, _, rfl, ?_⟩⟩⟩
  have s1' := same_upd (o := .tup [.int (p.m : Int), .ref c1]) n1
  have s01 := s1.trans s1'
  have w1 := wb.same s01
  dsimp only [tNoPart]
  refine sl_read w1.eb fun c2 H2 s2 g2 => ⟨Nat.zero_le _, fun c3 n3 => ⟨sz1 rfl, fun c4 n4 => ?_⟩⟩
  have g2' : H2 c2 = some (.tup (ys.take 8)) := g2.trans (congrArg (fun z => some (HO.tup z)) (cutV_to ys 8))
  have s3 := same_upd (o := .tup []) n3
  have s4 := same_upd (o := .tup [.ref c3]) n4
  have s34 := s3.trans s4
  refine cat_read (s34 _ _ g2') upd_same (by rw [List.length_take]; show min 8 _ + 1 ≤ 1000; omega) fun c5 H5 s5 g5 => ⟨sz1 rfl, fun t6 n6 => ⟨_, wb.s5, sz1 rfl, fun t7 n7 => ⟨_, wb.s6, _, _, rfl, rfl, _, wb.s5, sz1 rfl, fun t8 n8 => ⟨_, wb.s3', ?_⟩⟩⟩⟩
  have s6 := same_upd (o := .tup [.int (p.m : Int), .ref c5]) n6
  have s7 := same_upd (o := .tup [.int 9, .ref b]) n7
  have s8 := same_upd (o := .tup [.int ((p.m : Int) - 1), .ref b]) n8
  have s78 := s7.trans s8
  have s28 := s2.trans (s34.trans (s5.trans (s6.trans s78)))
  have w8 := w1.same s28
  refine ⟨r, _, rfl, .inr (SqT.of w8.er), fun l9 n9 => ⟨sz1 rfl, fun N nN => ?_⟩⟩
  have s9 := same_upd (o := .lst [.int (p.m : Int), .ref b]) n9
  have w9 := w8.same s9
  have sE := s5.trans (s6.trans (s78.trans s9))
  have tk : DqAll p.D p.B _ (ys.take 8) ((p.ls.map lotD).take 8) := (w9.qb).take 8
  refine q N _ [patD p.m p.ls, .tuple [.int (p.m : Int), .tuple (List.replicate 3 (p.ls.map lotD)).flatten], .tuple [.int (p.m : Int), .tuple ((p.ls.map lotD).take 8 ++ [.tuple []])], .tuple [.int 9, .tuple (p.ls.map lotD)], .tuple [.int ((p.m : Int) - 1), .tuple (p.ls.map lotD)], .list [.int (p.m : Int), .tuple (p.ls.map lotD)]] _ _ (w9.take nN ?_ ?_ (by show 6 ≤ 60; decide)) rfl
  · have one : Dq p.D p.B _ (.ref b) (.tuple (p.ls.map lotD)) := .tup w9.eb w9.qb
    have s19 := s28.trans s9
    refine .cons (.tup w9.er (.cons (.int _) (.cons one .nil))) (.cons (.tup (s19 _ _ upd_same) (.cons (.int _) (.cons (.tup (s19 _ _ (s1' _ _ g1)) (dq_rep w9.qb 3)) .nil)))
      (.cons (.tup ((s78.trans s9) _ _ upd_same) (.cons (.int _) (.cons (.tup ((s6.trans (s78.trans s9)) _ _ g5) (DqAll.append (.cons (.tup ((s4.trans sE) _ _ upd_same) .nil) .nil) tk)) .nil)))
      (.cons (.tup ((s8.trans s9) _ _ upd_same) (.cons (.int _) (.cons one .nil))) (.cons (.tup (s9 _ _ upd_same) (.cons (.int _) (.cons one .nil))) (.cons (.lst (w8.dk.neD n9) (w8.dk.neB n9) upd_same (.cons (.int _) (.cons one .nil))) .nil)))))
  · have lot : Ok 5 700000 (.tuple (p.ls.map lotD)) := okS lo (by rw [List.length_map]; omega)
    have lot3 : Ok 5 700000 (.tuple (List.replicate 3 (p.ls.map lotD)).flatten) := okS (rep_all lo 3) (by rw [rep_len, List.length_map]; omega)
    have nilOk : Ok 4 20437 (.tuple []) := (ok_tup (k := 0) (c := 26) (n := 0) a_nil (Nat.le_refl 0)).mono (by decide) (by decide)
    have lotC : Ok 5 700000 (.tuple ((p.ls.map lotD).take 8 ++ [.tuple []])) := okS (a_app (fun d hd => lo d (List.mem_of_mem_take hd)) (a_cons nilOk a_nil)) (by rw [List.length_append, List.length_take]; show min 8 _ + 1 ≤ 30; omega)
    have mo : Ok 5 700000 (.int (p.m : Int)) := okI1 (by omega)
    exact a_cons (fine2 mo lot) (a_cons (fine2 mo lot3) (a_cons (fine2 mo lotC) (a_cons (fine2 (okI1 (by decide)) lot) (a_cons (fine2 (okI1 (by omega)) lot) (a_cons (fine_lst (n := 2) (a_cons mo (a_cons lot a_nil)) (Nat.le_refl 2) (by decide) (by decide)) a_nil)))))
end
end Jg
namespace Jg
open PySem PySem.Spec PyProof.Rows L2
/-! ### the law's body: the written values -/
def some7 : List PyData := [.tuple [.bool true, .tuple []], .tuple [.int 0, .tuple []], .tuple [.int 8, .tuple [.tuple [.int 0, .int 7]]], .tuple [.int 2, .tuple [.tuple [.int 0, .int 0]]], .tuple [.int 2, .tuple [.tuple [.int 1, .int 0]]], .none]
def some2 : List PyData := [.tuple [.int 2, .tuple [.tuple [.int 0, .bool true]]], .tuple []]
theorem fin_int {i : Int} (h : i.natAbs ≤ 10 ^ 21) : Ok 0 26 (.int i) := ok_int25 (Nat.lt_of_le_of_lt h (by decide))
theorem fin_nil : Ok 1 100 (.tuple []) := (ok_tup (k := 0) (c := 26) (n := 0) a_nil (Nat.le_refl 0)).mono (by decide) (by decide)
theorem fin_two {x y : PyData} (hx : Ok 0 26 x) (hy : Ok 0 26 y) : Ok 3 3000 (.tuple [x, y]) := (ok_tup (n := 2) (a_cons hx (a_cons hy a_nil)) (Nat.le_refl 2)).mono (by decide) (by decide)
theorem fin_one {x : PyData} (hx : Ok 3 3000 x) : Ok 5 700000 (.tuple [x]) := (ok_tup (n := 1) (a_cons hx a_nil) (Nat.le_refl 1)).mono (by decide) (by decide)
theorem up {k c : Nat} {d : PyData} (h : Ok k c d) (hk : k ≤ 5) (hc : c ≤ 700000) : Ok 5 700000 d := h.mono hk hc
theorem some7_fine : ∀ d ∈ some7, Fine d := by
  have i0 : Ok 0 26 (.int 0) := fin_int (by decide)
  have i1 : Ok 0 26 (.int 1) := fin_int (by decide)
  have i2 : Ok 0 26 (.int 2) := fin_int (by decide)
  have i7 : Ok 0 26 (.int 7) := fin_int (by decide)
  have i8 : Ok 0 26 (.int 8) := fin_int (by decide)
  have z := up fin_nil (by decide) (by decide)
  have u : ∀ {d}, Ok 0 26 d → Ok 5 700000 d := fun h => up h (by decide) (by decide)
  exact a_cons (fine2 (u (ok_bl true)) z) (a_cons (fine2 (u i0) z) (a_cons (fine2 (u i8) (fin_one (fin_two i0 i7))) (a_cons (fine2 (u i2) (fin_one (fin_two i0 i0))) (a_cons (fine2 (u i2) (fin_one (fin_two i1 i0))) (a_cons (ok_non.mono (by decide) (by decide)) a_nil)))))
theorem some2_fine : ∀ d ∈ some2, Fine d := by
  have u : ∀ {d}, Ok 0 26 d → Ok 5 700000 d := fun h => up h (by decide) (by decide)
  exact a_cons (fine2 (u (fin_int (by decide))) (fin_one (fin_two (fin_int (by decide)) (ok_bl true)))) (a_cons (fin_nil.mono (by decide) (by decide)) a_nil)
section
variable {P : Program} {w : World} {K : PySem.W.Frag} {mg : Str → Option Value} {base : Heap} {f : Addr} {cdv : Value} {Ar : Around} {out : List Env} {s0 : Shared} {H0 : Hp} {E : XK}
def t4 : TS := fun Dn σ H => ∃ p r b ys v2 n os L xs ls, WS p r b ys v2 n os L xs ls σ H ∧ ls.length = 6 ∧ ∀ L xs ls σ' H', WS p r b ys v2 n os L xs ls σ' H' → ls.length = 13 → Dn.nx σ' H'
theorem b4 (T : Env52 P w K mg base) : PS (LX P w K mg base f cdv Ar out s0 H0 E) (stL 4) t4 := by
  refine ps_imp (ps_set (i := 7) scLaw.nd rfl (.inl rfl) (pe_op op_cat (pv 7) (pe_lst (pa_cons (pe_tup (pa_cons (pv 6) (pa_cons (pe_callTy call_list_of (by rfl) T.bn.lst boot_list' (pa_cons (pv 5) pa_nil)) pa_nil)))
    (show PA _ _ (tLits some7) from lits_cons (lit_tup (lits_cons lit_bl (lits_cons (lit_tup lits_nil) lits_nil))) (lits_cons (lit_tup (lits_cons lit_int (lits_cons (lit_tup lits_nil) lits_nil)))
      (lits_cons (lit_tup (lits_cons lit_int (lits_cons (lit_tup (lits_cons (lit_tup (lits_cons lit_int (lits_cons lit_int lits_nil))) lits_nil)) lits_nil))) (lits_cons (lit_tup (lits_cons lit_int (lits_cons (lit_tup (lits_cons (lit_tup (lits_cons lit_int (lits_cons lit_int lits_nil))) lits_nil)) lits_nil)))
      (lits_cons (lit_tup (lits_cons lit_int (lits_cons (lit_tup (lits_cons (lit_tup (lits_cons lit_int (lits_cons lit_int lits_nil))) lits_nil)) lits_nil))) (lits_cons lit_non lits_nil)))))))))) ?_
  rintro Dn σ H ⟨p, r, b, ys, v2, n, os, L, xs, ls, ws, hm, q⟩
  have l8 := ws.p1.l8
  refine ⟨_, ws.s7, _, ws.s6, _, ws.s5, b, ys, rfl, .inr (SqT.of ws.eb), fun l1 n1 => ⟨sz1 rfl, fun t2 n2 => ?_⟩⟩
  have s1 := same_upd (o := .lst ys) n1
  have s2 := same_upd (o := .tup [.int (p.m : Int), .ref l1]) n2
  have s12 := s1.trans s2
  have w2 := ws.same s12
  intro vs H3 s3 hl h3
  have h3' := h3 p.D p.B w2.dk.nD w2.dk.nB
  have hl7 : vs.length = 6 := hl
  refine ⟨Nat.le_of_lt (small1000 (by rw [List.length_cons, hl7]; decide)), fun M nM => ?_⟩
  have s4 := same_upd (o := .lst (.ref t2 :: vs)) nM
  have w4 := (w2.same s3).same s4
  refine ⟨L, M, xs, _, rfl, rfl, w4.eL, upd_same, by rw [List.length_cons, hl7]; exact ws.sz (by decide), fun N nN => ?_⟩
  have s34 := s3.trans s4
  refine q N _ _ _ _ (w4.grow (es := .tuple [.int (p.m : Int), .list (p.ls.map lotD)] :: some7) nN (.cons (.tup (s34 _ _ upd_same) (.cons (.int _) (.cons (.lst (ws.dk.neD n1) (ws.dk.neB n1) ((s2.trans s34) _ _ upd_same) w4.qb) .nil))) (h3'.same s4)) (a_cons (fine2 (okI1 (by have := ws.p1.m8; omega)) (okL (lots_ok ws.p1) (by rw [List.length_map]; omega))) some7_fine) (by rw [hm]; show 6 + 7 ≤ 60; decide)) (by rw [List.length_append, hm]; rfl)
def t5 : TS := fun Dn σ H => ∃ p r b ys v2 n os L xs ls, WS p r b ys v2 n os L xs ls σ H ∧ ls.length = 13 ∧ ∀ L xs ls σ' H', WS p r b ys v2 n os L xs ls σ' H' → ls.length = 15 → Dn.nx σ' H'
theorem b5 : PS (LX P w K mg base f cdv Ar out s0 H0 E) (stL 5) t5 := by
  refine ps_imp (ps_set (i := 7) scLaw.nd rfl (.inl rfl) (pe_op op_cat (pv 7) (pe_lst (show PA _ _ (tLits some2) from lits_cons (lit_tup (lits_cons lit_int (lits_cons (lit_tup (lits_cons (lit_tup (lits_cons lit_int (lits_cons lit_bl lits_nil))) lits_nil)) lits_nil))) (lits_cons (lit_tup lits_nil) lits_nil))))) ?_
  rintro Dn σ H ⟨p, r, b, ys, v2, n, os, L, xs, ls, ws, hm, q⟩
  refine ⟨_, ws.s7, ?_⟩
  intro vs H3 s3 hl h3
  have h3' := h3 p.D p.B ws.dk.nD ws.dk.nB
  have hl7 : vs.length = 2 := hl
  refine ⟨Nat.le_of_lt (small1000 (by rw [hl7]; decide)), fun M nM => ?_⟩
  have s4 := same_upd (o := .lst vs) nM
  have w4 := (ws.same s3).same s4
  refine ⟨L, M, xs, _, rfl, rfl, w4.eL, upd_same, by rw [hl7]; exact ws.sz (by decide), fun N nN => ?_⟩
  exact q N _ _ _ _ (w4.grow (es := some2) nN (h3'.same s4) some2_fine (by rw [hm]; show 13 + 2 ≤ 60; decide)) (by rw [List.length_append, hm]; rfl)
end
end Jg
namespace Jg
open PySem PySem.Spec PyProof.Rows L2
/-! ### the law's body: all values judged -/
theorem ok_nr {i : Int} {x : Str} (h : i.natAbs ≤ 1000) (hx : (reprText x).length ≤ 40) : Ok 1 200 (.tuple [.int i, .str x]) :=
  (ok_tup (k := 0) (c := 40) (n := 2) (a_cons ((ok_int25 (i := i) (Nat.lt_of_le_of_lt h (by decide))).mono (by decide) (by decide)) (a_cons (ok_str hx) a_nil)) (Nat.le_refl 2)).mono (by decide) (by decide)
theorem ok_wr {x : Str} (hx : (reprText x).length ≤ 40) : Ok 1 200 (wr x) :=
  (ok_tup (k := 0) (c := 40) (n := 2) (a_cons (ok_non.mono (by decide) (by decide)) (a_cons (ok_str hx) a_nil)) (Nat.le_refl 2)).mono (by decide) (by decide)
theorem ok_no : Ok 1 200 .none := ok_non.mono (by decide) (by decide)
theorem lotGo_ok {m : Int} : ∀ (ds : List PyData) (k : Nat), k + ds.length ≤ 1000 → Ok 1 200 (lotGo m ds k)
  | [], _, _ => ok_no
  | d :: ds, k, h => by
    rw [List.length_cons] at h
    unfold lotGo
    split
    · exact lotGo_ok ds _ (by omega)
    · exact ok_nr (by omega) (by decide +kernel)
theorem patErr_ok (d : PyData) : Ok 1 200 (patErr d) := by
  have w1 : Ok 1 200 (wr (Str.ofString "pattern")) := ok_wr (by decide +kernel)
  have w2 : Ok 1 200 (wr (Str.ofString "inputs")) := ok_wr (by decide +kernel)
  have w3 : Ok 1 200 (wr (Str.ofString "ends")) := ok_wr (by decide +kernel)
  cases hb : isTu d with
  | false =>
    rw [patErr_tu hb]
    exact w1
  | true =>
    cases d with
    | tuple ds =>
      by_cases hl : ds.length = 2
      · obtain ⟨a, b, rfl⟩ := two_of hl
        cases hw : within 0 8 a with
        | false =>
          rw [patErr_in hw]
          exact w2
        | true =>
          obtain ⟨i, rfl, _, _⟩ := within_is hw
          rw [patErr_go hw]
          cases hb2 : isTu b with
          | false =>
            rw [lotsErr_tu hb2]
            exact w3
          | true =>
            cases b with
            | tuple bs =>
              by_cases h : (bs.length : Int) ≤ 8
              · rw [lotsErr_go h]
                exact lotGo_ok bs 0 (by omega)
              · rw [lotsErr_len h]
                exact w3
            | _ => cases hb2
      · rw [patErr_len hl]
        exact w1
    | _ => cases hb
theorem lineA : 2700000 ≤ sizeLine := by
  rw [sizeLine_eq]
  decide
theorem Fine.zl {d : PyData} (h : Fine d) : d.shown.length ≤ sizeLine := Nat.le_trans h.ln lineA
theorem Fine.dl {d : PyData} (h : Fine d) : d.depth ≤ 60 := Nat.le_trans h.dp (by decide)
theorem boot_repr' : bootBuiltins "repr" = some (.builtin "repr") := by decide +kernel
section
variable {P : Program} {w : World} {K : PySem.W.Frag} {mg : Str → Option Value} {base : Heap} {f : Addr} {cdv : Value} {Ar : Around} {out : List Env} {s0 : Shared} {H0 : Hp} {E : XK}
def t6 : TS := fun Dn σ H => ∃ p r b ys v2 n os L xs ls, WS p r b ys v2 n os L xs ls σ H ∧ ls.length = 15 ∧ ∀ σ' H', WB p r b ys v2 n os σ' H' → Dn.nx σ' H'
set_option maxHeartbeats 4000000 in
theorem b6 (T : Env52 P w K mg base) (hr : Room 7 (LX P w K mg base f cdv Ar out s0 H0 E).A) (hg : (LX P w K mg base f cdv Ar out s0 H0 E).A.guards = some []) : PS (LX P w K mg base f cdv Ar out s0 H0 E) (stL 6) t6 := by
  obtain ⟨fB, fdB, GB⟩ := T.bent
  obtain ⟨fX, fdX, GX⟩ := T.odd
  obtain ⟨fE, fdE, GE⟩ := T.lperr
  obtain ⟨fR, fdR, GR, _⟩ := T.perr
  have hu := hr.units
  refine ps_imp (ps_for PassesOwn.never rfl (pi_list (pe_op op_cat (pe_op op_cat (pv 7) (pe_lc (own := [("_law_k", 14)]) (g := gName 14) (tt := tYes) rfl scLaw.nd (pi_range1 rfl T.bn.rng (pa_cons pe_int pa_nil)) (blkOk_by (N := nLaw) (sc := defScope sLaw) (by decide +kernel))
        (fun _ _ _ _ _ => pg_name (i := 14) scLaw.nd rfl (.inl rfl)) (fun _ _ _ _ _ => pts_nil) (fun _ _ _ _ _ => pe_call GB.F hr (by rfl) GB.g GB.kp GB.b .nil pass0 (pa_cons (pv 1) (pa_cons (pv 3) (pa_cons pe_int pa_nil))))))
      (pe_lst (pa_cons (pe_call GX.F (hr.mono (by decide)) (by rfl) GX.g GX.kp GX.b .nil pass0 (pa_cons (pv 1) pa_nil)) pa_nil)))) (pg_name (i := 8) scLaw.nd rfl (.inl rfl))
    (pss_cons (ps_set (i := 9) scLaw.nd rfl (.inl rfl) (pe_callB (call_reprD hg hu) (by rfl) T.bn.rep boot_repr' (pa_cons (pv 8) pa_nil)))
    (pss_one (ps_if (PW.pt (pw_or (pt_cmpR op_ne (pe_callB (call_reprD hg hu) (by rfl) T.bn.rep boot_repr' (pa_cons (pe_call GR.F (hr.mono (by decide)) (by rfl) GR.g GR.kp GR.b .nil pass0 (pa_cons (pv 8) pa_nil)) pa_nil))
        (pe_callB (call_reprD hg hu) (by rfl) T.bn.rep boot_repr' (pa_cons (pe_call GE.F (hr.mono (by decide)) (by rfl) GE.g GE.kp GE.b .nil pass0 (pa_cons (pv 8) pa_nil)) pa_nil)) (nomark _))
      (pw_or1 (pt_cmpR op_ne (pe_callB (call_reprD hg hu) (by rfl) T.bn.rep boot_repr' (pa_cons (pv 8) pa_nil)) (pv 9) (nomark _))))) (pss_one (ps_ret pe_bl)) pss_nil)))) ?_
  rintro Dn σ H ⟨p, r, b, ys, v2, n, os, L, xs, ls, ws, hm, q⟩
  refine ⟨_, ws.s7, 6, rfl, by decide, by decide, fun D1 nD1 => ?_⟩
  have nD := ws.dk.neD nD1
  have nB := ws.dk.neB nD1
  have nC := ne_of_none ws.dk.cel nD1
  refine lc_range (lo := 0) (n := 6) (fun i H3 => ∃ acc es, H3 D1 = some (.lst acc) ∧ DqAll p.D p.B H3 acc es ∧ DqAll D1 D1 H3 acc es ∧ (∀ d ∈ es, Fine d) ∧ es.length = i ∧ DeckAt p.D p.B p.C p.cells H3 ∧ Fr p.D p.B H H3) ⟨[], [], upd_same, .nil, .nil, a_nil, rfl, ws.dk.same (same_upd nD1), Fr.of_same (same_upd nD1)⟩ ?_ ?_
  · rintro i H3 hi ⟨acc, es, e3, ha, haZ, hf, hl, dk3, f3⟩
    have w4 := ws.go dk3 f3
    have hal := ha.len
    refine ⟨wipe1, tYes_if ⟨_, (w1_out (i := 14) (k := 1) (by decide)).trans ws.s1, _, (w1_out (i := 14) (k := 3) (by decide)).trans ws.s3, p.D, p.B, p.C, p.cells, p.v1, patD p.m p.ls, rfl, dk3, w4.q1, patD_plain ws.p1, fun v4 d4 H4 o4 q4 z4 dk4 f4 => ?_⟩⟩
    have e4 := f4 _ _ nD nB e3
    have a4 := dk3.dataAll f4 ha
    have a4Z := DqAll.two dk3.isD dk3.isB f4 es acc ha haZ
    have q4Z := z4 D1 (by rw [e3]; exact fun z => nomatch z)
    have fL : Fr D1 D1 H4 (upd H4 D1 (.lst (acc ++ [v4]))) := fun c o h _ h2 => by
      rw [upd_ne h]
      exact h2
    have isL : ∃ zs, H4 D1 = some (.lst zs) := ⟨_, e4⟩
    refine ⟨acc, e4, small1000 (by omega), acc ++ [v4], es ++ [d4], upd_same, ?_, ?_, a_app hf (a_cons (o4.mono (by decide) (by decide)) a_nil), by rw [List.length_append, hl]; rfl, dk4.but (fun c o h h2 => fL c o h h h2) nD.symm nB.symm nC, fun c o h1 h2 h3 => ?_⟩
    · exact DqAll.append (.cons (Dq.two isL isL fL d4 v4 q4Z q4) .nil) (DqAll.two isL isL fL es acc a4Z a4)
    · exact DqAll.append (.cons (Dq.keep isL isL fL d4 v4 q4Z) .nil) (DqAll.keep isL isL fL es acc a4Z)
    · rw [upd_ne (ne_of_none h3 nD1)]
      exact f4 _ _ h1 h2 (f3 _ _ h1 h2 h3)
  · rintro H3 ⟨acc, es, e3, ha, _, hf, hl, dk3, f3⟩
    have w4 := ws.go dk3 f3
    have hal := ha.len
    have hxl := w4.q.len
    have hl6 : es.length = 6 := hl
    refine ⟨L, D1, xs, acc, rfl, rfl, w4.eL, e3, by rw [hal, hl6]; exact w4.sz (by decide), fun p1 n1 => ?_⟩
    have s4 := same_upd (o := .lst (xs ++ acc)) n1
    have dk4 := dk3.same s4
    have pD := dk3.neD n1
    have pB := dk3.neB n1
    refine ⟨_, ws.s1, p.D, p.B, p.C, p.cells, rfl, dk4, fun vO dO H5 mO qO zO dk5 f5 => ⟨sz1 rfl, fun M nM => ?_⟩⟩
    have s6 := same_upd (o := .lst [vO]) nM
    have dk6 := dk5.same s6
    refine ⟨p1, M, xs ++ acc, _, rfl, rfl, s6 _ _ (f5 _ _ pD pB upd_same), upd_same, Nat.le_of_lt (small1000 (by rw [List.length_append, hal, hl6, hxl, hm]; show 15 + 6 + 1 ≤ 1000; decide)), fun N nN => ?_⟩
    have s7 := same_upd (o := .lst ((xs ++ acc) ++ [vO])) nN
    have f37 := ((Fr.of_same s4).trans f5).trans (Fr.of_same (s6.trans s7))
    have dk7 := dk6.same s7
    have w7 := w4.go dk7 f37
    have hq : DqAll p.D p.B _ ((xs ++ acc) ++ [vO]) ((ls ++ es) ++ [dO]) := DqAll.append (.cons ((qO.same s6).same s7) .nil) (DqAll.append (dk3.dataAll f37 ha) w7.q)
    have hf : ∀ d ∈ (ls ++ es) ++ [dO], Fine d := a_app (a_app ws.fine hf) (a_cons ((odd_ok _ mO).mono (by decide) (by decide)) a_nil)
    have w0 : WB p r b ys v2 n os σ _ := w7.toWB
    generalize (xs ++ acc) ++ [vO] = vsA at *
    generalize (ls ++ es) ++ [dO] = dsA at *
    refine ⟨N, rfl, ⟨_, SqL.of upd_same⟩, for_list (K := K) (a := N) (xs := vsA) (fun i σ3 H8 => WB p r b ys v2 n os σ3 H8 ∧ H8 N = some (.lst vsA) ∧ DqAll p.D p.B H8 vsA dsA) ⟨w0, upd_same, hq⟩ (fun i σ3 H8 _ h => SqL.of h.2.1) ?_ ?_⟩
    · rintro i x σ3 H8 hi ⟨w8, e8, a8⟩
      obtain ⟨d, hd, qd⟩ := a8.at_ i x hi
      have okd := hf d (List.mem_of_getElem? hd)
      have hz : d.shown.length ≤ 2800000 := Nat.le_trans okd.ln (by decide)
      have w9 := w8.set (i := 8) (v := some x) (by decide)
      have g8 : (σ3.set 8 (some x))[8]? = some (some x) := w8.at_ (by decide)
      have w10 := w9.set (i := 9) (v := some (.str d.shown)) (by decide)
      have h8 : ((σ3.set 8 (some x)).set 9 (some (.str d.shown)))[8]? = some (some x) := by
        rw [get_set_ne (by decide)]
        exact g8
      have h9 : ((σ3.set 8 (some x)).set 9 (some (.str d.shown)))[9]? = some (some (.str d.shown)) := w9.at_ (by decide)
      have fE : Fine (patErr d) := (patErr_ok d).mono (by decide) (by decide)
      refine ⟨_, g8, p.D, p.B, x, d, rfl, qd, okd.sh, okd.zl, okd.dl, _, h8, p.D, p.B, x, d, rfl, qd, hz, fun u1 G1 t1 hu1 => ⟨p.D, p.B, u1, _, rfl, hu1, fE.sh, fE.zl, fE.dl, _, h8, p.D, p.B, x, d, rfl, qd.same t1, hz, fun u2 G2 t2 hu2 => ?_⟩⟩
      have t12 := t1.trans t2
      exact ⟨p.D, p.B, u2, _, rfl, hu2, fE.sh, fE.zl, fE.dl, rfl, _, rfl, iteNS rfl ⟨_, h8, p.D, p.B, x, d, rfl, qd.same t12, okd.sh, okd.zl, okd.dl, _, h9, rfl, _, rfl, iteNS rfl ⟨w10.same t12, t12 _ _ e8, a8.same t12⟩⟩⟩
    · rintro σ3 H8 ⟨w8, _, _⟩
      exact q σ3 H8 w8
end
end Jg
namespace Jg
open PySem PySem.Spec PyProof.Rows L2
/-! ### marks, turned twice, a pattern is one -/
theorem filt {m : Nat} {g : Nat → Bool} (j : Int) : (rngF m g).filter (fun x => decide (x = j)) = if j ∈ rngF m g then [j] else [] := by
  induction m with
  | zero => rfl
  | succ n ih =>
    rw [rngF_succ, List.filter_append, ih]
    by_cases hg : g n = true
    · rw [if_pos hg]
      by_cases hj : j = (n : Int)
      · subst hj
        have hn : ¬ (n : Int) ∈ rngF n g := fun z => by
          obtain ⟨k, hk, _, e⟩ := rngF_mem.mp z
          omega
        rw [if_neg hn, if_pos (List.mem_append_right _ (List.mem_singleton.mpr rfl))]
        simp
      · have h1 : [(n : Int)].filter (fun x => decide (x = j)) = [] := by
          rw [List.filter_cons, if_neg (by rw [decide_eq_false (fun z => hj z.symm)]; exact Bool.false_ne_true)]
          rfl
        rw [h1, List.append_nil]
        by_cases h2 : j ∈ rngF n g
        · rw [if_pos h2, if_pos (List.mem_append_left _ h2)]
        · rw [if_neg h2, if_neg (fun z => (List.mem_append.mp z).elim h2 fun z => hj (List.mem_singleton.mp z))]
    · rw [if_neg hg, List.append_nil]
      exact List.append_nil _
def mkE (ls : List (List Int)) (e : Nat) : List (Int × Int) := (ls.getD e []).map fun x => ((e : Int), x)
def mkL (ls : List (List Int)) : Nat → List (Int × Int)
  | 0 => []
  | k + 1 => mkL ls k ++ mkE ls k
theorem getD_rng {m : Nat} {ls : List (List Int)} (hp : ∀ ns ∈ ls, ∃ f, ns = rngF m f) (k : Nat) : ∃ g, ls.getD k [] = rngF m g := by
  by_cases h : k < ls.length
  · obtain ⟨g, hg⟩ := hp ls[k] (List.getElem_mem h)
    refine ⟨g, ?_⟩
    rw [List.getD_eq_getElem?_getD, List.getElem?_eq_getElem h]
    exact hg
  · refine ⟨fun _ => false, ?_⟩
    rw [List.getD_eq_getElem?_getD, List.getElem?_eq_none (by omega)]
    have := @rngF_mem m fun _ => false
    cases hr : rngF m fun _ => false with
    | nil => rfl
    | cons a r =>
      obtain ⟨_, _, h3, _⟩ := (rngF_mem (n := m) (f := fun _ => false) (x := a)).mp (by rw [hr]; exact List.mem_cons_self)
      cases h3
theorem mk_turn {m : Nat} {ls : List (List Int)} (hp : ∀ ns ∈ ls, ∃ f, ns = rngF m f) (j : Int) : ∀ k : Nat, ((mkL ls k).filter fun q => decide (q.2 = j)).map (·.1) = rngF k fun e => decide (j ∈ ls.getD e [])
  | 0 => rfl
  | k + 1 => by
    obtain ⟨g, hg⟩ := getD_rng hp k
    have h1 : ((mkE ls k).filter fun q => decide (q.2 = j)).map (·.1) = if decide (j ∈ ls.getD k []) = true then [(k : Int)] else [] := by
      unfold mkE
      rw [List.filter_map, List.map_map, hg]
      show List.map _ ((rngF m g).filter fun x => decide (x = j)) = _
      rw [filt]
      by_cases h : j ∈ rngF m g
      · rw [if_pos h, if_pos (decide_eq_true h)]
        rfl
      · rw [if_neg h, if_neg (by rw [decide_eq_false h]; exact Bool.false_ne_true)]
        rfl
    rw [rngF_succ, ← mk_turn hp j k, ← h1]
    show List.map _ (List.filter _ (mkL ls k ++ mkE ls k)) = _
    rw [List.filter_append, List.map_append]
theorem mkL_len {m : Nat} {ls : List (List Int)} (hp : ∀ ns ∈ ls, ∃ f, ns = rngF m f) : ∀ k : Nat, (mkL ls k).length ≤ k * m
  | 0 => Nat.zero_le _
  | k + 1 => by
    have h1 := mkL_len hp k
    obtain ⟨g, hg⟩ := getD_rng hp k
    have h2 := rngF_len m g
    show (mkL ls k ++ mkE ls k).length ≤ _
    unfold mkE
    rw [List.length_append, List.length_map, hg, Nat.succ_mul]
    omega
theorem turnL_len (m : Nat) (ls : List (List Int)) : (turnL m ls).length = m := by
  unfold turnL
  rw [List.length_map, List.length_range]
theorem turnL_get {m : Nat} {ls : List (List Int)} {e : Nat} (h : e < m) : (turnL m ls).getD e [] = rngF ls.length fun i => decide ((e : Int) ∈ ls.getD i []) := by
  unfold turnL
  rw [List.getD_eq_getElem?_getD, List.getElem?_map, List.getElem?_range h]
  rfl
theorem turn_turn {m : Nat} {ls : List (List Int)} (hp : ∀ ns ∈ ls, ∃ f, ns = rngF m f) : turnL ls.length (turnL m ls) = ls := by
  refine List.ext_getElem (turnL_len _ _) fun j h1 h2 => ?_
  have e1 : (turnL ls.length (turnL m ls))[j] = (turnL ls.length (turnL m ls)).getD j [] := by
    rw [List.getD_eq_getElem?_getD, List.getElem?_eq_getElem h1]
    rfl
  obtain ⟨g, hg⟩ := hp ls[j] (List.getElem_mem h2)
  have e2 : ls.getD j [] = rngF m g := by
    rw [List.getD_eq_getElem?_getD, List.getElem?_eq_getElem h2]
    exact hg
  rw [e1, turnL_get h2, turnL_len, hg]
  refine rngF_congr fun e he => ?_
  rw [turnL_get he, rngF_has h2, e2, rngF_has he]
theorem asc_pw : ∀ {l : List Int}, l.Pairwise (· < ·) → ascN l = true
  | [], _ => rfl
  | [_], _ => rfl
  | a :: b :: r, h => by
    have h1 := List.pairwise_cons.mp h
    have h2 := asc_pw h1.2
    show (decide (a < b) && ascN (b :: r)) = true
    rw [decide_eq_true (h1.1 b List.mem_cons_self), h2]
    rfl
theorem rngF_pw : ∀ (n : Nat) (f : Nat → Bool), (rngF n f).Pairwise (· < ·)
  | 0, _ => List.Pairwise.nil
  | n + 1, f => by
    rw [rngF_succ, List.pairwise_append]
    refine ⟨rngF_pw n f, ?_, fun a ha b hb => ?_⟩
    · split
      · exact List.pairwise_singleton _ _
      · exact List.Pairwise.nil
    · obtain ⟨k, hk, _, rfl⟩ := rngF_mem.mp ha
      split at hb
      · rw [List.mem_singleton.mp hb]
        omega
      · cases hb
theorem lot_is {m : Nat} {f : Nat → Bool} : isLot (m : Int) (lotD (rngF m f)) = true := by
  unfold lotD
  rw [isLot_go, intD_map, asc_pw (rngF_pw m f), Bool.and_true, List.all_eq_true]
  intro d hd
  obtain ⟨x, hx, rfl⟩ := List.mem_map.mp hd
  obtain ⟨k, hk, _, rfl⟩ := rngF_mem.mp hx
  show (decide ((0 : Int) ≤ (k : Int)) && decide ((k : Int) ≤ (m : Int) - 1)) = true
  rw [decide_eq_true (by omega), decide_eq_true (by omega)]
  rfl
theorem lotGo_none {m : Int} : ∀ {ds : List PyData} (k : Nat), (∀ d ∈ ds, isLot m d = true) → lotGo m ds k = .none
  | [], _, _ => rfl
  | d :: ds, k, h => by
    unfold lotGo
    rw [if_pos (h d List.mem_cons_self)]
    exact lotGo_none (k + 1) fun e he => h e (List.mem_cons_of_mem _ he)
theorem pat_is {m : Nat} {ls : List (List Int)} (h : Pat m ls) : patErr (patD m ls) = .none := by
  have m8 := h.m8
  have l8 := h.l8
  unfold patD
  rw [patErr_go (by show (decide ((0 : Int) ≤ (m : Int)) && decide ((m : Int) ≤ 8)) = true; rw [decide_eq_true (by omega), decide_eq_true (by omega)]; rfl), lotsErr_go (by rw [List.length_map]; omega)]
  refine lotGo_none 0 fun d hd => ?_
  obtain ⟨ns, hns, rfl⟩ := List.mem_map.mp hd
  obtain ⟨f, rfl⟩ := h.lot ns hns
  exact lot_is
end Jg
namespace Jg
open PySem PySem.Spec PyProof.Rows L2
/-! ### the law's body: marks, the turned pattern, what is due -/
def pairD (q : Int × Int) : PyData := .tuple [.int q.1, .int q.2]
theorem pair_plain {q : Int × Int} (h : q.1.natAbs ≤ 10 ^ 20) (h2 : q.2.natAbs ≤ 10 ^ 20) : Plain 1 (pairD q) := .inr ⟨_, rfl, by show 2 ≤ 8; decide, a_cons (.inl ⟨q.1, rfl, h⟩) (a_cons (.inl ⟨q.2, rfl, h2⟩) a_nil)⟩
theorem lots_plain {m : Nat} {ls : List (List Int)} (h : Pat m ls) : ∀ d ∈ ls.map lotD, Plain 1 d := fun d hd => by
  obtain ⟨ns, hns, rfl⟩ := List.mem_map.mp hd
  obtain ⟨f, rfl⟩ := h.lot ns hns
  exact lot_plain h.m8
theorem mkE_plain {m e : Nat} {ls : List (List Int)} (h : Pat m ls) (he : e ≤ 1000) : ∀ q ∈ mkE ls e, Plain 1 (pairD q) := fun q hq => by
  obtain ⟨g, hg⟩ := getD_rng h.lot e
  unfold mkE at hq
  rw [hg] at hq
  obtain ⟨x, hx, rfl⟩ := List.mem_map.mp hq
  obtain ⟨k, hk, _, rfl⟩ := rngF_mem.mp hx
  have := h.m8
  exact pair_plain (by show (e : Int).natAbs ≤ 10 ^ 20; omega) (by show (k : Int).natAbs ≤ 10 ^ 20; omega)
theorem mkL_plain {m : Nat} {ls : List (List Int)} (h : Pat m ls) : ∀ (k : Nat), k ≤ 1000 → ∀ q ∈ mkL ls k, Plain 1 (pairD q)
  | 0, _, q, hq => nomatch hq
  | k + 1, hk, q, hq => (List.mem_append.mp hq).elim (mkL_plain h k (by omega) q) (mkE_plain h (by omega) q)
theorem all_pairs {l : List (Int × Int)} (h : ∀ q ∈ l, Plain 1 (pairD q)) : ∀ d ∈ l.map pairD, Plain 1 d := fun d hd => by
  obtain ⟨q, hq, rfl⟩ := List.mem_map.mp hd
  exact h q hq
theorem pi_listK {X : Cx} {K : PySem.W.Frag} {tg l : Expr} {tl : TE} (h : X.K = K) (hl : PE X l tl) : PI X tg l (iList K tl) := h ▸ pi_list hl
/-- both patterns and the marks -/
structure WC (p : Par) (r b : Addr) (ys : List V) (v2 : V) (n : Nat) (os : List (List Int)) (M : Addr) (ms : List V) (mk : List (Int × Int)) (σ : L2.St) (H : Hp) : Prop extends WB p r b ys v2 n os σ H where
  s10 : σ[10]? = some (some (.ref M))
  eM : H M = some (.lst ms)
  nM : M ≠ p.D ∧ M ≠ p.B ∧ M ≠ p.C
  qm : DqAll p.D p.B H ms (mk.map pairD)
section
variable {p : Par} {r b : Addr} {ys : List V} {v2 : V} {n : Nat} {os : List (List Int)} {M : Addr} {ms : List V} {mk : List (Int × Int)} {σ : L2.St} {H H' : Hp} {v : Option V}
theorem WC.set (w : WC p r b ys v2 n os M ms mk σ H) {i : Nat} (h : 10 < i) : WC p r b ys v2 n os M ms mk (σ.set i v) H := ⟨w.toWB.set (by omega), by rw [get_set_ne (by omega)]; exact w.s10, w.eM, w.nM, w.qm⟩
theorem WC.same (w : WC p r b ys v2 n os M ms mk σ H) (s : Same H H') : WC p r b ys v2 n os M ms mk σ H' := ⟨w.toWB.same s, w.s10, s _ _ w.eM, w.nM, w.qm.same s⟩
theorem WC.more (w : WC p r b ys v2 n os M ms mk σ H) {zs : List V} {qs : List (Int × Int)} (h : DqAll p.D p.B H zs (qs.map pairD)) (pl : ∀ q ∈ mk ++ qs, Plain 1 (pairD q)) : WC p r b ys v2 n os M (ms ++ zs) (mk ++ qs) σ (upd H M (.lst (ms ++ zs))) := by
  have fb : ∀ a o, a ≠ M → H a = some o → (upd H M (.lst (ms ++ zs))) a = some o := fun a o ha k => by
    rw [upd_ne ha]
    exact k
  have tu : ∀ {a : Addr} {xs : List V}, H a = some (.tup xs) → (upd H M (.lst (ms ++ zs))) a = some (.tup xs) := fun {a xs} k => fb _ _ (fun z => by rw [z, w.eM] at k; cases k) k
  refine ⟨⟨⟨w.len, w.s1, w.s3, w.s4, w.dk.but fb w.nM.1.symm w.nM.2.1.symm w.nM.2.2.symm, plain_keep w.eM fb 3 _ _ (patD_plain w.p1) w.q1, plain_keep w.eM fb 3 _ _ (patD_plain w.p2) w.q2, w.p1, w.p2⟩, w.s5, w.s6, w.v1, tu w.er, tu w.eb, plain_keepAll w.eM fb (lots_plain w.p1) w.qb⟩, w.s10, upd_same, w.nM, ?_⟩
  exact plain_keepAll w.eM fb (all_pairs pl) (by rw [List.map_append]; exact DqAll.append h w.qm)
end
section
variable {P : Program} {w : World} {K : PySem.W.Frag} {mg : Str → Option Value} {base : Heap} {f : Addr} {cdv : Value} {Ar : Around} {out : List Env} {s0 : Shared} {H0 : Hp} {E : XK}
def t7 : TS := fun Dn σ H => ∃ p r b ys v2 n os, WB p r b ys v2 n os σ H ∧ ∀ M σ' H', WC p r b ys v2 n os M [] [] σ' H' → Dn.nx σ' H'
theorem b7 : PS (LX P w K mg base f cdv Ar out s0 H0 E) (stL 7) t7 := by
  refine ps_imp (ps_set (i := 10) scLaw.nd rfl (.inr rfl) (pe_lst pa_nil)) ?_
  rintro Dn σ H ⟨p, r, b, ys, v2, n, os, wb, q⟩
  refine ⟨Nat.zero_le _, fun M nM => ?_⟩
  exact q M _ _ ⟨(wb.same (same_upd nM)).set (by decide), wb.at_ (by decide), upd_same, ⟨wb.dk.neD nM, wb.dk.neB nM, mt Eq.symm (ne_of_none wb.dk.cel nM)⟩, .nil⟩
def t8 : TS := fun Dn σ H => ∃ p r b ys v2 n os M, WC p r b ys v2 n os M [] [] σ H ∧ ∀ ms σ' H', WC p r b ys v2 n os M ms (mkL p.ls p.ls.length) σ' H' → Dn.nx σ' H'
set_option maxHeartbeats 4000000 in
theorem b8 (T : Env52 P w K mg base) : PS (LX P w K mg base f cdv Ar out s0 H0 E) (stL 8) t8 := by
  refine ps_imp (ps_for PassesOwn.never rfl (pi_range1 rfl T.bn.rng (pa_cons (pe_callB call_len_seq (by rfl) T.bn.len PySem.boot_len (pa_cons (pv 5) pa_nil)) pa_nil)) (pg_name (i := 11) scLaw.nd rfl (.inr rfl))
    (pss_one (ps_expr (pe_bm PySem.F.plainAttrs_list PySem.F.slot_list_extend PySem.F.type_list_extend mt_extend (pv 10) (pa_cons (pe_lc (own := [("_law_unknown", 16)]) (g := gName 16) (tt := tYes) rfl scLaw.nd (pi_tup (pe_ix ix_tup (pv 5) (pv 11) (fun _ _ => rfl))) (blkOk_by (N := nLaw) (sc := defScope sLaw) (by decide +kernel))
        (fun _ _ _ _ _ => pg_name (i := 16) scLaw.nd rfl (.inl rfl)) (fun _ _ _ _ _ => pts_nil) (fun _ _ _ _ _ => pe_tup (pa_cons (pv 11) (pa_cons (pv 16) pa_nil)))) pa_nil))))) ?_
  rintro Dn σ H ⟨p, r, b, ys, v2, n, os, M, wc, q⟩
  have l1 := wc.qb.len
  rw [List.length_map] at l1
  have l8 := wc.p1.l8
  have m8 := wc.p1.m8
  refine ⟨_, wc.s5, b, ys, rfl, .inr (SqT.of wc.eb), ((ys.length : Nat) : Int), rfl, by omega, by omega, for_range (n := ys.length) (fun i σ3 H3 => ∃ ms, WC p r b ys v2 n os M ms (mkL p.ls i) σ3 H3) ⟨[], wc⟩ ?_ ?_⟩
  · rintro i σ3 H3 hi ⟨ms, w3⟩
    have w4 := w3.set (i := 11) (v := some (.int (0 + (i : Int)))) (by decide)
    have g11 : (σ3.set 11 (some (.int (0 + (i : Int)))))[11]? = some (some (.int (0 + (i : Int)))) := w3.toWB.at_ (by decide)
    have hyi : ys[i]? = some ys[i] := List.getElem?_eq_getElem hi
    obtain ⟨dx, hdx, hx⟩ := w3.qb.at_ i _ hyi
    rw [List.getElem?_map] at hdx
    obtain ⟨ns, hns, rfl⟩ := Option.map_eq_some_iff.mp hdx
    obtain ⟨cn, hcn, ec⟩ := dq_lot hx
    have i0 : (0 : Int) + (i : Int) = (i : Int) := by omega
    have hget : p.ls.getD i [] = ns := by
      rw [List.getD_eq_getElem?_getD, hns]
      rfl
    have nl : ns.length ≤ 8 := by
      obtain ⟨g, hg⟩ := w3.p1.lot ns (List.mem_of_getElem? hns)
      rw [hg]
      exact Nat.le_trans (rngF_len _ _) m8
    have hml := w3.qm.len
    rw [List.length_map] at hml
    have hmk := mkL_len w3.p1.lot i
    refine ⟨_, w4.s10, .inl ⟨rfl, _, SqL.of w4.eM⟩, _, w4.s5, _, g11, b, ys, (0 : Int) + (i : Int), .ref cn, rfl, rfl, SqT.of w4.eb, by rw [i0]; exact atI_nat (by rw [hyi, hcn]), cn, rfl, ⟨_, SqT.of ec⟩, fun D2 nD2 => ?_⟩
    have mD : M ≠ D2 := ne_of_none w3.eM nD2
    refine lc_tup (K := K) (a := cn) (xs := ns.map V.int) (fun k H5 => ∃ zs, H5 D2 = some (.lst zs) ∧ zs.length = k ∧ DqAll p.D p.B H5 zs (((ns.take k).map fun x => ((i : Int), x)).map pairD) ∧ Same H3 H5) ⟨[], upd_same, rfl, .nil, same_upd nD2⟩ (fun k H5 _ ⟨_, _, _, _, s⟩ => SqT.of (s _ _ ec)) ?_ ?_
    · rintro k z H5 hz ⟨zs, k5, zl, hzs, s5⟩
      rw [List.getElem?_map] at hz
      obtain ⟨x, hxx, rfl⟩ := Option.map_eq_some_iff.mp hz
      have hkl : k < ns.length := (List.getElem?_eq_some_iff.mp hxx).1
      have h11 : ((wipe (σ3.set 11 (some (.int (0 + (i : Int))))) [16]).set 16 (some (.int x)))[11]? = some (some (.int (0 + (i : Int)))) := (w1_out (i := 16) (k := 11) (by decide)).trans g11
      have h16 : ((wipe (σ3.set 11 (some (.int (0 + (i : Int))))) [16]).set 16 (some (.int x)))[16]? = some (some (.int x)) := w1_own (by rw [w4.len]; decide)
      refine ⟨wipe1, tYes_if ⟨_, h11, _, h16, sz1 rfl, fun t nt => ?_⟩⟩
      have s6 := same_upd (o := .tup [.int (0 + (i : Int)), .int x]) nt
      have k6 := s6 _ _ k5
      have hall : ∀ q ∈ ((ns.take (k + 1)).map fun x => ((i : Int), x)), Plain 1 (pairD q) := fun q hq => by
        refine mkE_plain w3.p1 (e := i) (by omega) q ?_
        unfold mkE
        rw [hget]
        obtain ⟨y, hy, rfl⟩ := List.mem_map.mp hq
        exact List.mem_map.mpr ⟨y, List.mem_of_mem_take hy, rfl⟩
      refine ⟨zs, k6, small1000 (by omega), zs ++ [.ref t], upd_same, by rw [List.length_append, zl]; rfl, ?_, fun a o ha => ?_⟩
      · refine plain_keepAll k6 (fun a o ha h => (upd_ne ha).trans h) (all_pairs hall) ?_
        rw [take_map_next hxx, List.map_append]
        refine DqAll.append (.cons (.tup upd_same (.cons ?_ (.cons (.int _) .nil))) .nil) (hzs.same s6)
        rw [i0]
        exact .int _
      · rw [upd_ne (ne_of_none ha nD2)]
        exact s6 _ _ (s5 _ _ ha)
    · rintro H5 ⟨zs, k5, zl, hzs, s5⟩
      have w5 := w4.same s5
      rw [List.length_map] at zl hzs
      rw [List.take_length] at hzs
      have he : (ns.map fun x => ((i : Int), x)) = mkE p.ls i := by
        unfold mkE
        rw [hget]
      rw [he] at hzs
      refine ⟨M, D2, ms, zs, rfl, rfl, w5.eM, k5, Nat.le_of_lt (small1000 (by rw [hml, zl]; have := Nat.mul_le_mul (show i ≤ 8 by omega) m8; omega)), ?_⟩
      exact ⟨ms ++ zs, w5.more hzs (fun q hq => (List.mem_append.mp hq).elim (mkL_plain w3.p1 i (by omega) q) (mkE_plain w3.p1 (by omega) q))⟩
  · rintro σ3 H3 ⟨ms, w3⟩
    rw [l1] at w3
    exact q ms σ3 H3 w3
end
end Jg
namespace Jg
open PySem PySem.Spec PyProof.Rows L2
/-! ### the law's body: the turned pattern and what is due -/
def scIn10 : Scope := relab (compScope (defScope sLaw) (asgVal (stL 10))) (defScope sLaw)
structure WD (p : Par) (r b : Addr) (ys : List V) (v2 : V) (n : Nat) (os : List (List Int)) (M : Addr) (ms : List V) (u : V) (σ : L2.St) (H : Hp) : Prop extends WC p r b ys v2 n os M ms (mkL p.ls p.ls.length) σ H where
  s12 : σ[12]? = some (some u)
  qu : ∀ D B, Dq D B H u (patD p.ls.length (turnL p.m p.ls))
section
variable {p : Par} {r b : Addr} {ys : List V} {v2 : V} {n : Nat} {os : List (List Int)} {M : Addr} {ms : List V} {u : V} {σ : L2.St} {H H' : Hp} {v : Option V}
theorem WD.set (w : WD p r b ys v2 n os M ms u σ H) {i : Nat} (h : 12 < i) : WD p r b ys v2 n os M ms u (σ.set i v) H := ⟨w.toWC.set (by omega), by rw [get_set_ne (by omega)]; exact w.s12, w.qu⟩
theorem WD.same (w : WD p r b ys v2 n os M ms u σ H) (s : Same H H') : WD p r b ys v2 n os M ms u σ H' := ⟨w.toWC.same s, w.s12, fun D B => (w.qu D B).same s⟩
end
theorem filter_next {α : Type} {P : α → Bool} {xs : List α} {i : Nat} {x : α} (h : xs[i]? = some x) : (xs.take (i + 1)).filter P = (xs.take i).filter P ++ (if P x = true then [x] else []) := by
  rw [List.take_add_one, h, List.filter_append]
  show _ ++ List.filter P [x] = _
  rw [List.filter_cons]
  rfl
section
variable {P : Program} {w : World} {K : PySem.W.Frag} {mg : Str → Option Value} {base : Heap} {f : Addr} {cdv : Value} {Ar : Around} {out : List Env} {s0 : Shared} {H0 : Hp} {E : XK}
def t9 : TS := fun Dn σ H => ∃ p r b ys v2 n os M ms, WC p r b ys v2 n os M ms (mkL p.ls p.ls.length) σ H ∧ ∀ u σ' H', WD p r b ys v2 n os M ms u σ' H' → Dn.nx σ' H'
theorem b9 (T : Env52 P w K mg base) (hr : Room 7 (LX P w K mg base f cdv Ar out s0 H0 E).A) : PS (LX P w K mg base f cdv Ar out s0 H0 E) (stL 9) t9 := by
  obtain ⟨fT, fdT, GT, _⟩ := T.turn
  refine ps_imp (ps_set (i := 12) scLaw.nd rfl (.inl rfl) (pe_call GT.F (hr.mono (by decide)) (by rfl) GT.g GT.kp GT.b .nil pass0 (pa_cons (pv 3) pa_nil))) ?_
  rintro Dn σ H ⟨p, r, b, ys, v2, n, os, M, ms, wc, q⟩
  refine ⟨_, wc.s3, p.D, p.B, p.v1, p.m, p.ls, rfl, wc.q1, wc.p1, fun u H1 s1 hu => ?_⟩
  exact q u _ _ ⟨(wc.same s1).set (by decide), wc.toWB.at_ (by decide), hu⟩
def t10 : TS := fun Dn σ H => ∃ p r b ys v2 n os M ms u, WD p r b ys v2 n os M ms u σ H ∧ ∀ (L : Addr) (ts : List V) σ' H', WD p r b ys v2 n os M ms u σ' H' → σ'[13]? = some (some (.ref L)) → H' L = some (.lst ts) → (∀ D B, DqAll D B H' ts ((turnL p.m p.ls).map lotD)) → Dn.nx σ' H'
set_option maxHeartbeats 4000000 in
theorem b10 (T : Env52 P w K mg base) : PS (LX P w K mg base f cdv Ar out s0 H0 E) (stL 10) t10 := by
  refine ps_imp (ps_setLc (i := 13) (own := [("_law_own", 15)]) (g := gName 15) (tt := tYes) rfl scLaw.nd rfl rfl (sw_true rfl rfl rfl rfl) (pi_range1 (by rfl) T.bn.rng (pa_cons (pv 6) pa_nil)) (blkOk_by (N := nLaw) (sc := defScope sLaw) (by decide +kernel))
      (fun _ _ _ _ _ => pg_name (i := 15) scLaw.nd rfl (.inr rfl)) (fun _ _ _ _ _ => pts_nil)
      (fun _ _ _ _ _ => pe_callTy (call_tupK (K := K) rfl) (by rfl) T.bn.tup boot_tuple' (pa_cons (pe_lc (own := [("_law_end", 11), ("_law_unknown", 16)]) (g := gTup K 2 (gCons (gName 11) (gCons (gName 16) gNil))) rfl scLaw.nd (pi_listK (K := K) rfl (pv 10)) (blkOk_by (N := nLaw) (sc := scIn10) (by decide +kernel))
          (fun _ _ _ _ _ => pg_tup rfl (pgs_cons (pg_name (i := 11) scLaw.nd rfl (.inl rfl)) (pgs_cons (pg_name (i := 16) scLaw.nd rfl (.inl rfl)) pgs_nil))) (fun _ _ _ _ _ => pts_one (pt_cmpR op_eq (pv 16) (pv 15) (nomark _))) (fun _ _ _ _ _ => pv 11)) pa_nil))) ?_
  rintro Dn σ H ⟨p, r, b, ys, v2, n, os, M, ms, u, wd, q⟩
  have m8 := wd.p1.m8
  have l8 := wd.p1.l8
  have hmk := mkL_len wd.p1.lot p.ls.length
  have hml := wd.qm.len
  rw [List.length_map] at hml
  have h64 := Nat.mul_le_mul l8 m8
  refine ⟨_, wd.s6, (p.m : Int), rfl, by omega, by omega, fun D1 nD1 => ?_⟩
  have M1 : M ≠ D1 := ne_of_none wd.eM nD1
  refine lc_range (lo := 0) (n := p.m) (fun i H3 => ∃ ts : List V, H3 D1 = some (.lst ts) ∧ ts.length = i ∧ (∀ D B, DqAll D B H3 ts (((List.range i).map fun j : Nat => rngF p.ls.length fun e => decide ((j : Int) ∈ p.ls.getD e [])).map lotD)) ∧ Same H H3) ⟨[], upd_same, rfl, fun _ _ => .nil, same_upd nD1⟩ ?_ ?_
  · rintro i H3 hi ⟨ts, k3, tl, hts, s3⟩
    have i0 : (0 : Int) + (i : Int) = (i : Int) := by omega
    have eM3 := s3 _ _ wd.eM
    have g10 : ((wipe σ [15]).set 15 (some (.int (0 + (i : Int)))))[10]? = some (some (.ref M)) := (w1_out (i := 15) (k := 10) (by decide)).trans wd.s10
    have g15 : ((wipe σ [15]).set 15 (some (.int (0 + (i : Int)))))[15]? = some (some (.int (0 + (i : Int)))) := w1_own (by rw [wd.len]; decide)
    refine ⟨wipe1, tYes_if ⟨_, g10, M, rfl, ⟨_, SqL.of eM3⟩, fun D2 nD2 => ?_⟩⟩
    refine lc_list (K := K) (a := M) (xs := ms) (fun k H5 => H5 D2 = some (.lst (((((mkL p.ls p.ls.length).take k).filter fun q => decide (q.2 = (i : Int))).map (·.1)).map V.int)) ∧ Same H3 H5) ⟨upd_same, same_upd nD2⟩ (fun k H5 _ h => SqL.of (h.2 _ _ eM3)) ?_ ?_
    · rintro k z H5 hz ⟨k5, s5⟩
      obtain ⟨dx, hdx, hx⟩ := wd.qm.at_ k _ hz
      rw [List.getElem?_map] at hdx
      obtain ⟨⟨a, c⟩, hq, rfl⟩ := Option.map_eq_some_iff.mp hdx
      obtain ⟨t, xt, rfl, et, ht⟩ := hx.tupE
      obtain ⟨xa, xc, rfl, ha, hc⟩ := dq_two ht
      cases ha.intE
      cases hc.intE
      have et5 := s5 _ _ (s3 _ _ et)
      have hl15 : ((wipe σ [15]).set 15 (some (.int (0 + (i : Int))))).length = 17 := by rw [List.length_set, wipe_length, wd.len]
      have hlt : ∀ x : Nat, x < 17 → x < ((wipe σ [15]).set 15 (some (.int (0 + (i : Int))))).length := fun x h => by
        rw [hl15]
        exact h
      refine ⟨t, _, rfl, SqT.of et5, rfl, .int a, [.int c], rfl, .int c, [], rfl, rfl, wipe2 (by decide), _, w2_two (hlt 16 (by decide)), _, (w2_out (by decide) (by decide)).trans g15, rfl, _, rfl, ?_⟩
      have e0 : decide (c = (0 : Int) + (i : Int)) = decide (c = (i : Int)) := by rw [i0]
      rw [dec_int2, e0]
      have nx := filter_next (P := fun q : Int × Int => decide (q.2 = (i : Int))) hq
      refine ite2 (fun cc => ?_) (fun cc => ?_)
      · rw [if_pos cc] at nx
        refine ⟨_, w2_one (hlt 11 (by decide)) (by decide), _, k5, ?_, ?_, ?_⟩
        · rw [List.length_map, List.length_map]
          exact Nat.lt_of_le_of_lt (Nat.le_trans (List.length_filter_le _ _) (List.length_take_le' _ _)) (smallN (by omega))
        · rw [upd_same, nx, List.map_append, List.map_append]
          rfl
        · intro z o hz
          rw [upd_ne (ne_of_none hz nD2)]
          exact s5 z o hz
      · rw [if_neg cc, List.append_nil] at nx
        refine ⟨?_, s5⟩
        rw [nx]
        exact k5
    · rintro H5 ⟨k5, s5⟩
      rw [hml, List.take_length, mk_turn wd.p1.lot] at k5
      refine ⟨D2, _, rfl, .inl ⟨SqL.of k5, fun t nt => ?_⟩⟩
      have s6 := same_upd (o := .tup ((rngF p.ls.length fun e => decide ((i : Int) ∈ p.ls.getD e [])).map V.int)) nt
      have s56 := s5.trans s6
      have k6 := s56 _ _ k3
      refine ⟨ts, k6, small1000 (by omega), ts ++ [.ref t], upd_same, by rw [List.length_append, tl]; rfl, fun D B => ?_, fun z o hz => ?_⟩
      · refine plain_keepAll (n := 1) k6 (fun z o hz h => (upd_ne hz).trans h) (fun d hd => ?_) ?_
        · obtain ⟨ns, hns, rfl⟩ := List.mem_map.mp hd
          obtain ⟨j, _, rfl⟩ := List.mem_map.mp hns
          exact lot_plain l8
        · rw [List.range_succ, List.map_append, List.map_append]
          exact DqAll.append (.cons (lotD_dq upd_same) .nil) ((hts D B).same s56)
      · rw [upd_ne (ne_of_none hz nD1)]
        exact s56 _ _ (s3 _ _ hz)
  · rintro H3 ⟨ts, k3, tl, hts, s3⟩
    exact q D1 ts _ H3 ((wd.same s3).set (by decide)) (wd.toWB.at_ (by decide)) k3 hts
end
end Jg
namespace Jg
open PySem PySem.Spec PyProof.Rows L2
/-! ### the law's body: what is asked of turned and fed patterns -/
theorem ls_ok {m : Nat} {ls : List (List Int)} (h : Pat m ls) : Ok 5 163515 (.tuple (ls.map lotD)) := (ok_tup (n := 8) (lots_ok h) (by rw [List.length_map]; exact h.l8)).mono (by decide) (by decide)
theorem pat_ok {m : Nat} {ls : List (List Int)} (h : Pat m ls) : Ok 6 327037 (patD m ls) := by
  have := h.m8
  exact (ok_tup (k := 5) (c := 163515) (n := 2) (a_cons ((ok_int25 (i := (m : Int)) (by omega)).mono (by decide) (by decide)) (a_cons (ls_ok h) a_nil)) (Nat.le_refl 2)).mono (by decide) (by decide)
theorem pat_fine {m : Nat} {ls : List (List Int)} (h : Pat m ls) : Fine (patD m ls) := (pat_ok h).mono (by decide) (by decide)
theorem two_fine {m n : Nat} {ls os : List (List Int)} (h : Pat m ls) (h2 : Pat n os) : Fine (.list [patD m ls, patD n os]) := fine_lst (n := 2) (a_cons (pat_ok h) (a_cons (pat_ok h2) a_nil)) (Nat.le_refl 2) (by decide) (by decide)
theorem fed_fine {m n : Nat} {ls os : List (List Int)} (h : Pat m ls) (h2 : Pat n os) : Fine (fedD m n ls os) := by
  have so : ∀ x : Str, (reprText x).length ≤ 40 → Ok 6 327037 (.str x) := fun x hx => (ok_str hx).mono (by decide) (by decide)
  unfold fedD
  split
  · exact fine_lst (n := 2) (a_cons (so _ (by decide +kernel)) (a_cons (pat_ok (fedL_pat h h2)) a_nil)) (Nat.le_refl 2) (by decide) (by decide)
  · exact fine_lst (n := 1) (a_cons (so _ (by decide +kernel)) a_nil) (Nat.le_refl 1) (by decide) (by decide)
theorem pat_eqv {m : Nat} {ls : List (List Int)} (h : Pat m ls) : PyData.eqv (patD m ls) (patD m ls) = true := PySem.SeqAt.eqv_refl _ (plain_lay 3 _ (patD_plain h)).1
def kwSw : List Value → List Value → List Value
  | [], [a, b] => [b, a] | _, _ => []
def kwSwV : List V → List V → List V
  | [], [a, b] => [b, a] | _, _ => []
structure FedC (P : Program) (w : World) (K : PySem.W.Frag) (mg : Str → Option Value) (base : Heap) (C : Addr) (f : Addr) (fd : FuncData) : Prop where
  F : FnOk P w K mg base (L2.CX P w) 1 f fd ["one", "other"] (spFed C)
  g : mg "fed_pattern" = some (.ref f)
  kp : PySem.W.keepIn K (.ref f) = true
  b : Binds K fd ["one", "other"] []
  k : KBinds K fd ["one", "other"] ["other", "one"] kwSw kwSwV
section
variable {P : Program} {w : World} {K : PySem.W.Frag} {mg : Str → Option Value} {base : Heap} {f : Addr} {cdv : Value} {Ar : Around} {out : List Env} {s0 : Shared} {H0 : Hp} {E : XK}
def t11 : TS := fun Dn σ H => ∃ p r b ys v2 n os M ms u L ts, WD p r b ys v2 n os M ms u σ H ∧ σ[13]? = some (some (.ref L)) ∧ H L = some (.lst ts) ∧ (∀ D B, DqAll D B H ts ((turnL p.m p.ls).map lotD)) ∧ ∀ H', WB p r b ys v2 n os σ H' → Dn.nx σ H'
set_option maxHeartbeats 4000000 in
theorem b11 (T : Env52 P w K mg base) (hr : Room 7 (LX P w K mg base f cdv Ar out s0 H0 E).A) (hg : (LX P w K mg base f cdv Ar out s0 H0 E).A.guards = some []) : PS (LX P w K mg base f cdv Ar out s0 H0 E) (stL 11) t11 := by
  obtain ⟨fT, fdT, GT, kT⟩ := T.turn
  have hu := hr.units
  refine ps_imp (ps_if (PW.pt (pw_or (pt_cmpR op_ne (pe_callB (call_reprD hg hu) (by rfl) T.bn.rep boot_repr' (pa_cons (pv 12) pa_nil)) (pe_callB (call_reprD hg hu) (by rfl) T.bn.rep boot_repr' (pa_cons (pe_tup (pa_cons (pe_callB call_len_seq (by rfl) T.bn.len PySem.boot_len (pa_cons (pv 5) pa_nil)) (pa_cons (pe_callTy call_tuple_of (by rfl) T.bn.tup boot_tuple' (pa_cons (pv 13) pa_nil)) pa_nil))) pa_nil)) (nomark _))
      (pw_or1 (pt_cmpR (op_neD hu) (pe_callKO GT.F (hr.mono (by decide)) (by rfl) GT.g GT.kp kT pass0 (pk_cons (pv 12) pk_nil)) (pv 3) (nomark _))))) (pss_one (ps_ret pe_bl)) pss_nil) ?_
  rintro Dn σ H ⟨p, r, b, ys, v2, n, os, M, ms, u, L, ts, wd, s13, eL, hts, q⟩
  have l1 := wd.qb.len
  rw [List.length_map] at l1
  have tp := turnL_pat wd.p1
  have ft := pat_fine tp
  refine ⟨_, wd.s12, p.D, p.B, u, _, rfl, wd.qu p.D p.B, ft.sh, ft.zl, ft.dl, _, wd.s5, b, ys, rfl, .inr (SqT.of wd.eb), _, s13, L, ts, rfl, .inl ⟨SqL.of eL, fun a na => ⟨sz1 rfl, fun t nt => ?_⟩⟩⟩
  have s1 := same_upd (o := .tup ts) na
  have s2 := same_upd (o := .tup [.int ((ys.length : Nat) : Int), .ref a]) nt
  have s12 := s1.trans s2
  have w2 := wd.same s12
  refine ⟨p.D, p.B, .ref t, patD p.ls.length (turnL p.m p.ls), rfl, .tup upd_same (.cons (by rw [l1]; exact .int _) (.cons (.tup (s2 _ _ upd_same) ((hts p.D p.B).same s12)) .nil)), ft.sh, ft.zl, ft.dl, rfl, _, rfl, iteNS rfl ?_⟩
  refine ⟨_, w2.s12, p.D, p.B, u, p.ls.length, turnL p.m p.ls, rfl, w2.qu p.D p.B, tp, fun u2 H3 s3 hu2 => ?_⟩
  have w3 := w2.same s3
  have hu3 := hu2 p.D p.B
  rw [turnL_len, turn_turn wd.p1.lot] at hu3
  have pl := patD_plain wd.p1
  refine ⟨_, w3.s3, patD p.m p.ls, patD p.m p.ls, plain_dp 3 _ _ pl hu3, plain_dp 3 _ _ pl w3.q1, plain_shaped pl (by decide), plain_shaped pl (by decide), _, rfl, ?_⟩
  rw [pat_eqv wd.p1]
  exact iteF (q _ w3.toWB)
def tB : TS := fun Dn σ H => ∃ p r b ys v2 n os, WB p r b ys v2 n os σ H ∧ ∀ H', WB p r b ys v2 n os σ H' → Dn.nx σ H'
theorem b12 (T : Env52 P w K mg base) (hr : Room 7 (LX P w K mg base f cdv Ar out s0 H0 E).A) : PS (LX P w K mg base f cdv Ar out s0 H0 E) (stL 12) tB := by
  obtain ⟨fR, fdR, GR, kR⟩ := T.perr
  refine ps_imp (ps_if (pt_cmpR op_notN (pe_callKO GR.F (hr.mono (by decide)) (by rfl) GR.g GR.kp kR pass0 (pk_cons (pv 3) pk_nil)) pe_non (nomark _)) (pss_one (ps_ret pe_bl)) pss_nil) ?_
  rintro Dn σ H ⟨p, r, b, ys, v2, n, os, wb, q⟩
  refine ⟨_, wb.s3, p.D, p.B, p.v1, patD p.m p.ls, rfl, wb.q1, Nat.le_trans (pat_fine wb.p1).ln (by decide), fun u H1 s1 hu => ⟨rfl, _, rfl, ?_⟩⟩
  rw [pat_is wb.p1] at hu
  have h2 : decide (u = V.non) = true := dq_isN hu
  rw [h2]
  exact iteF (q _ (wb.same s1))
set_option maxHeartbeats 4000000 in
theorem b13 (T : Env52 P w K mg base) {C fF : Addr} {fdF : FuncData} (GF : FedC P w K mg base C fF fdF) (hr : Room 7 (LX P w K mg base f cdv Ar out s0 H0 E).A) (hg : (LX P w K mg base f cdv Ar out s0 H0 E).A.guards = some []) : PS (LX P w K mg base f cdv Ar out s0 H0 E) (stL 13) tB := by
  have hu := hr.units
  refine ps_imp (ps_if (PW.pt (pw_and (pt_cmpR op_eq (pe_callB call_len_seq (by rfl) T.bn.len PySem.boot_len (pa_cons (pv 5) pa_nil)) (pe_ix ix_tup (pv 4) pe_int (fun _ _ => rfl)) (nomark _))
      (pw_and1 (pt_cmpR op_ne (pe_callB (call_reprD hg hu) (by rfl) T.bn.rep boot_repr' (pa_cons (pe_callKO GF.F (hr.mono (by decide)) (by rfl) GF.g GF.kp GF.k passL (pk_cons (pv 4) (pk_cons (pv 3) pk_nil))) pa_nil))
        (pe_callB (call_reprD hg hu) (by rfl) T.bn.rep boot_repr' (pa_cons (pe_call GF.F (hr.mono (by decide)) (by rfl) GF.g GF.kp GF.b .nil passL (pa_cons (pv 3) (pa_cons (pv 4) pa_nil))) pa_nil)) (nomark _))))) (pss_one (ps_ret pe_bl)) pss_nil) ?_
  rintro Dn σ H ⟨p, r, b, ys, v2, n, os, wb, q⟩
  have l1 := wb.qb.len
  rw [List.length_map] at l1
  obtain ⟨a2, xs2, rfl, e2, ha2⟩ := wb.q2.tupE
  obtain ⟨x2, y2, rfl, h3, h4⟩ := dq_two ha2
  cases h3.intE
  refine ⟨_, wb.s5, b, ys, rfl, .inr (SqT.of wb.eb), _, wb.s4, a2, _, 0, .int (n : Int), rfl, rfl, SqT.of e2, atI_nat (j := 0) rfl, rfl, _, rfl, ?_⟩
  by_cases c : p.ls.length = n
  · rw [dec_int2, decide_eq_true (by rw [l1, c])]
    have ff := pat_fine (fedL_pat wb.p1 wb.p2)
    refine iteT ⟨_, wb.s4, _, wb.s3, p.D, p.B, p.v1, .ref a2, p.m, n, p.ls, os, rfl, wb.q1, wb.p1, wb.q2, wb.p2, fun _ u1 H1 s1 hu1 => ⟨p.D, p.B, u1, _, rfl, hu1 p.D p.B, ff.sh, ff.zl, ff.dl, ?_⟩, fun z => z c⟩
    have w1 := wb.same s1
    refine ⟨_, w1.s3, _, w1.s4, p.D, p.B, p.v1, .ref a2, p.m, n, p.ls, os, rfl, w1.q1, wb.p1, w1.q2, wb.p2, fun _ u2 H2 s2 hu2 => ⟨p.D, p.B, u2, _, rfl, hu2 p.D p.B, ff.sh, ff.zl, ff.dl, rfl, _, rfl, ?_⟩, fun z => z c⟩
    exact iteNS rfl (q _ (w1.same s2))
  · rw [dec_int2, decide_eq_false (by rw [l1]; omega)]
    exact iteF (q _ wb)
def t14 : TS := fun Dn σ H => ∃ p r b ys v2 n os, WB p r b ys v2 n os σ H ∧ ∀ σ' H', WB p r b ys v2 n os σ' H' → σ'[9]? = some (some (.str (PyData.list [patD p.m p.ls, patD n os]).shown)) → Dn.nx σ' H'
theorem b14 (T : Env52 P w K mg base) (hr : Room 7 (LX P w K mg base f cdv Ar out s0 H0 E).A) (hg : (LX P w K mg base f cdv Ar out s0 H0 E).A.guards = some []) : PS (LX P w K mg base f cdv Ar out s0 H0 E) (stL 14) t14 := by
  have hu := hr.units
  refine ps_imp (ps_set (i := 9) scLaw.nd rfl (.inl rfl) (pe_callB (call_reprD hg hu) (by rfl) T.bn.rep boot_repr' (pa_cons (pe_lst (pa_cons (pv 3) (pa_cons (pv 4) pa_nil))) pa_nil))) ?_
  rintro Dn σ H ⟨p, r, b, ys, v2, n, os, wb, q⟩
  refine ⟨_, wb.s3, _, wb.s4, sz1 rfl, fun N nN => ?_⟩
  have s1 := same_upd (o := .lst [p.v1, v2]) nN
  have w1 := wb.same s1
  have ff := two_fine wb.p1 wb.p2
  exact ⟨p.D, p.B, .ref N, _, rfl, .lst (wb.dk.neD nN) (wb.dk.neB nN) upd_same (.cons w1.q1 (.cons w1.q2 .nil)), ff.sh, ff.zl, ff.dl, q _ _ (w1.set (by decide)) (w1.at_ (by decide))⟩
def t15 : TS := fun Dn σ H => ∃ p r b ys v2 n os, WB p r b ys v2 n os σ H ∧ σ[9]? = some (some (.str (PyData.list [patD p.m p.ls, patD n os]).shown)) ∧ ∀ H', WB p r b ys v2 n os σ H' → Dn.nx σ H'
set_option maxHeartbeats 4000000 in
theorem b15 (T : Env52 P w K mg base) (hr : Room 7 (LX P w K mg base f cdv Ar out s0 H0 E).A) (hg : (LX P w K mg base f cdv Ar out s0 H0 E).A.guards = some []) : PS (LX P w K mg base f cdv Ar out s0 H0 E) (stL 15) t15 := by
  obtain ⟨fA, fdA, GA⟩ := T.lfed
  obtain ⟨fU, fdU, GU⟩ := T.ldue
  have hu := hr.units
  refine ps_imp (ps_if (PW.pt (pw_or (pt_cmpR op_ne (pe_callB (call_reprD hg hu) (by rfl) T.bn.rep boot_repr' (pa_cons (pe_call GA.F (hr.mono (by decide)) (by rfl) GA.g GA.kp GA.b .nil pass0 (pa_cons (pv 3) (pa_cons (pv 4) pa_nil))) pa_nil))
        (pe_callB (call_reprD hg hu) (by rfl) T.bn.rep boot_repr' (pa_cons (pe_call GU.F (hr.mono (by decide)) (by rfl) GU.g GU.kp GU.b .nil pass0 (pa_cons (pv 3) (pa_cons (pv 4) pa_nil))) pa_nil)) (nomark _))
      (pw_or1 (pt_cmpR op_ne (pe_callB (call_reprD hg hu) (by rfl) T.bn.rep boot_repr' (pa_cons (pe_lst (pa_cons (pv 3) (pa_cons (pv 4) pa_nil))) pa_nil)) (pv 9) (nomark _))))) (pss_one (ps_ret pe_bl)) pss_nil) ?_
  rintro Dn σ H ⟨p, r, b, ys, v2, n, os, wb, s9, q⟩
  have ff := fed_fine wb.p1 wb.p2
  have ft := two_fine wb.p1 wb.p2
  refine ⟨_, wb.s3, _, wb.s4, p.D, p.B, p.v1, v2, p.m, n, p.ls, os, rfl, wb.q1, wb.p1, wb.q2, wb.p2, fun u1 H1 s1 hu1 => ⟨p.D, p.B, u1, _, rfl, hu1 p.D p.B wb.dk.nD wb.dk.nB, ff.sh, ff.zl, ff.dl, ?_⟩⟩
  have w1 := wb.same s1
  refine ⟨_, w1.s3, _, w1.s4, p.D, p.B, p.v1, v2, p.m, n, p.ls, os, rfl, w1.q1, wb.p1, w1.q2, wb.p2, fun u2 H2 s2 hu2 => ⟨p.D, p.B, u2, _, rfl, hu2 p.D p.B w1.dk.nD w1.dk.nB, ff.sh, ff.zl, ff.dl, rfl, _, rfl, iteNS rfl ?_⟩⟩
  have w2 := w1.same s2
  refine ⟨_, w2.s3, _, w2.s4, sz1 rfl, fun N nN => ?_⟩
  have s3 := same_upd (o := .lst [p.v1, v2]) nN
  have w3 := w2.same s3
  exact ⟨p.D, p.B, .ref N, _, rfl, .lst (w2.dk.neD nN) (w2.dk.neB nN) upd_same (.cons w3.q1 (.cons w3.q2 .nil)), ft.sh, ft.zl, ft.dl, _, s9, rfl, _, rfl, iteNS rfl (q _ w3)⟩
set_option maxHeartbeats 4000000 in
theorem b16 (T : Env52 P w K mg base) (hr : Room 7 (LX P w K mg base f cdv Ar out s0 H0 E).A) (hg : (LX P w K mg base f cdv Ar out s0 H0 E).A.guards = some []) : PS (LX P w K mg base f cdv Ar out s0 H0 E) (stL 16) tB := by
  obtain ⟨fA, fdA, GA⟩ := T.lfed
  obtain ⟨fU, fdU, GU⟩ := T.ldue
  have hu := hr.units
  refine ps_imp (ps_if (pt_cmpR op_ne (pe_callB (call_reprD hg hu) (by rfl) T.bn.rep boot_repr' (pa_cons (pe_call GA.F (hr.mono (by decide)) (by rfl) GA.g GA.kp GA.b .nil pass0 (pa_cons (pv 4) (pa_cons (pv 3) pa_nil))) pa_nil))
        (pe_callB (call_reprD hg hu) (by rfl) T.bn.rep boot_repr' (pa_cons (pe_call GU.F (hr.mono (by decide)) (by rfl) GU.g GU.kp GU.b .nil pass0 (pa_cons (pv 4) (pa_cons (pv 3) pa_nil))) pa_nil)) (nomark _)) (pss_one (ps_ret pe_bl)) pss_nil) ?_
  rintro Dn σ H ⟨p, r, b, ys, v2, n, os, wb, q⟩
  have ff := fed_fine wb.p2 wb.p1
  refine ⟨_, wb.s4, _, wb.s3, p.D, p.B, v2, p.v1, n, p.m, os, p.ls, rfl, wb.q2, wb.p2, wb.q1, wb.p1, fun u1 H1 s1 hu1 => ⟨p.D, p.B, u1, _, rfl, hu1 p.D p.B wb.dk.nD wb.dk.nB, ff.sh, ff.zl, ff.dl, ?_⟩⟩
  have w1 := wb.same s1
  refine ⟨_, w1.s4, _, w1.s3, p.D, p.B, v2, p.v1, n, p.m, os, p.ls, rfl, w1.q2, wb.p2, w1.q1, wb.p1, fun u2 H2 s2 hu2 => ⟨p.D, p.B, u2, _, rfl, hu2 p.D p.B w1.dk.nD w1.dk.nB, ff.sh, ff.zl, ff.dl, rfl, _, rfl, iteNS rfl (q _ (w1.same s2))⟩⟩
end
end Jg
namespace Jg
open PySem PySem.Spec PyProof.Rows L2
/-! ### the law -/
def spLaw (K : PySem.W.Frag) : Sp := fun vs H Q _ => ∃ (a : Addr) (ns : List Int), vs = [.ref a] ∧ SqL K H a (ns.map V.int) ∧ ns.length ≤ 63 ∧ ∀ H', Q (.bl true) H'
section
variable {P : Program} {w : World} {K : PySem.W.Frag} {mg : Str → Option Value} {base : Heap}
set_option maxHeartbeats 4000000 in
theorem run_law {f C fF : Addr} {fd fdF : FuncData} (F : Fun K "law" "law" sLaw f fd) (T : Env52 P w K mg base) (GF : FedC P w K mg base C fF fdF) : RunG P w K mg base 8 f fd ["_law_script"] (spLaw K) := by
  refine runG_of F scLaw (fun vs H Q E h => ?_) (fun cdv Ar out s0 H vs Q E hg hr h => ?_)
  · obtain ⟨a, ns, rfl, _⟩ := h
    rfl
  · obtain ⟨a, ns, rfl, hS, hn, q⟩ := h
    obtain ⟨fK, fdK, GK⟩ := T.deck
    refine ⟨_, pss_cons (ps_set (i := 1) scLaw.nd rfl (.inr rfl) (pe_call GK.F (hr.mono (by decide)) (by rfl) GK.g GK.kp GK.b .nil pass0 (pa_cons (pv 0) pa_nil)))
      (pss_cons (ps_for PassesOwn.never rfl (pi_range1 rfl T.bn.rng (pa_cons pe_int pa_nil)) (pg_name (i := 2) scLaw.nd rfl (.inl rfl))
        (pss_cons (b0 T hr) (pss_cons (b1 T hr) (pss_cons (b2 T) (pss_cons (b3 T) (pss_cons (b4 T) (pss_cons b5 (pss_cons (b6 T hr hg) (pss_cons b7 (pss_cons (b8 T) (pss_cons (b9 T hr) (pss_cons (b10 T) (pss_cons (b11 T hr hg) (pss_cons (b12 T hr) (pss_cons (b13 T GF hr hg) (pss_cons (b14 T hr hg) (pss_cons (b15 T hr hg) (pss_one (b16 T hr hg)))))))))))))))))))
      (pss_one (ps_ret pe_bl))), ?_⟩
    refine ⟨_, rfl, a, ns, rfl, hS, hn, fun H1 D B C cells s1 _ _ _ dk => ?_⟩
    refine ⟨10, rfl, by decide, by decide, for_range (n := 10) (fun i σ H3 => ∃ D B C cells, W0 D B C cells σ H3) ⟨D, B, C, cells, rfl, rfl, dk⟩ ?_ ?_⟩
    · rintro i σ H3 hi ⟨D, B, C, cells, w0⟩
      exact ⟨D, B, C, cells, w0.set (by decide), fun p v2 n os σ1 G1 wa => ⟨p, v2, n, os, wa, fun v2 n os σ2 G2 wa => ⟨p, v2, n, os, wa, fun r b ys σ3 G3 wb => ⟨p, r, b, ys, v2, n, os, wb, fun L xs ls σ4 G4 ws h4 => ⟨p, r, b, ys, v2, n, os, L, xs, ls, ws, h4,
        fun L xs ls σ5 G5 ws h5 => ⟨p, r, b, ys, v2, n, os, L, xs, ls, ws, h5, fun L xs ls σ6 G6 ws h6 => ⟨p, r, b, ys, v2, n, os, L, xs, ls, ws, h6, fun σ7 G7 wb => ⟨p, r, b, ys, v2, n, os, wb, fun M σ8 G8 wc => ⟨p, r, b, ys, v2, n, os, M, wc, fun ms σ9 G9 wc => ⟨p, r, b, ys, v2, n, os, M, ms, wc,
        fun u σa Ga wd => ⟨p, r, b, ys, v2, n, os, M, ms, u, wd, fun L ts σb Gb wd s13 eL hts => ⟨p, r, b, ys, v2, n, os, M, ms, u, L, ts, wd, s13, eL, hts, fun Gc wb => ⟨p, r, b, ys, v2, n, os, wb, fun Gd wb => ⟨p, r, b, ys, v2, n, os, wb, fun Ge wb => ⟨p, r, b, ys, v2, n, os, wb,
        fun σf Gf wb s9 => ⟨p, r, b, ys, v2, n, os, wb, s9, fun Gg wb => ⟨p, r, b, ys, v2, n, os, wb, fun Gh wb => ⟨p.D, p.B, p.C, p.cells, wb.len, wb.s1, wb.dk⟩⟩⟩⟩⟩⟩⟩⟩⟩⟩⟩⟩⟩⟩⟩⟩⟩⟩
    · rintro σ H3 ⟨D, B, C, cells, w0⟩
      exact q H3
end
end Jg
namespace Jg
open PySem PySem.Spec PyProof.Rows L2
theorem sorted_uniq : ∀ {a b : List Int}, a.Pairwise (· < ·) → b.Pairwise (· < ·) → (∀ x, x ∈ a ↔ x ∈ b) → a = b
  | [], [], _, _, _ => rfl
  | [], y :: _, _, _, h => nomatch (h y).mpr List.mem_cons_self
  | x :: _, [], _, _, h => nomatch (h x).mp List.mem_cons_self
  | x :: a, y :: b, ha, hb, h => by
    have h1 := List.pairwise_cons.mp ha
    have h2 := List.pairwise_cons.mp hb
    have e : x = y := by
      rcases List.mem_cons.mp ((h x).mp List.mem_cons_self) with e | hx
      · exact e
      · rcases List.mem_cons.mp ((h y).mpr List.mem_cons_self) with e | hy
        · exact e.symm
        · have := h2.1 x hx
          have := h1.1 y hy
          omega
    subst e
    congr 1
    refine sorted_uniq h1.2 h2.2 fun z => ⟨fun hz => ?_, fun hz => ?_⟩
    · rcases List.mem_cons.mp ((h z).mp (List.mem_cons_of_mem _ hz)) with e | hz2
      · have := h1.1 z hz
        omega
      · exact hz2
    · rcases List.mem_cons.mp ((h z).mpr (List.mem_cons_of_mem _ hz)) with e | hz2
      · have := h2.1 z hz
        omega
      · exact hz2
/-- set(list of ints) -/
def rSetL (K : PySem.W.Frag) (w : World) : List V → Hp → VK → Prop := fun vs H Q => ∃ (l : Addr) (ns : List Int), vs = [.ref l] ∧ SqL K H l (ns.map V.int) ∧ ns.length ≤ 1000 ∧
  ∀ p c, H p = none → (∀ B : Nat, (∀ x ∈ ns, 0 ≤ x ∧ x < (B : Int)) → c ≤ B) → Q (.ref p) (upd H p (SetO w p (fun j => decide (j ∈ ns)) c))
def ownL (ls : List (List Int)) (lot : List Int) : List Int := (lot.map fun i => ls.getD i.toNat []).flatten
theorem ownL_mem {ls : List (List Int)} {lot : List Int} {x : Int} : x ∈ ownL ls lot ↔ lot.any (has ls x) = true := by
  unfold ownL
  rw [List.any_eq_true]
  constructor
  · intro h
    obtain ⟨l, hl, hx⟩ := List.mem_flatten.mp h
    obtain ⟨i, hi, rfl⟩ := List.mem_map.mp hl
    exact ⟨i, hi, decide_eq_true hx⟩
  · rintro ⟨i, hi, h⟩
    exact List.mem_flatten.mpr ⟨_, List.mem_map.mpr ⟨i, hi, rfl⟩, of_decide_eq_true h⟩
theorem ownL_len {m : Nat} {ls : List (List Int)} (hp : ∀ ns ∈ ls, ∃ f, ns = rngF m f) : ∀ lot : List Int, (ownL ls lot).length ≤ lot.length * m
  | [] => Nat.zero_le _
  | i :: lot => by
    have h1 := ownL_len hp lot
    obtain ⟨g, hg⟩ := getD_rng hp i.toNat
    have h2 := rngF_len m g
    show (ls.getD i.toNat [] ++ ownL ls lot).length ≤ _
    rw [List.length_append, hg, List.length_cons, Nat.succ_mul]
    omega
theorem ownL_in {m : Nat} {ls : List (List Int)} (hp : ∀ ns ∈ ls, ∃ f, ns = rngF m f) {lot : List Int} {x : Int} (h : x ∈ ownL ls lot) : ∃ k : Nat, k < m ∧ x = (k : Int) := by
  unfold ownL at h
  obtain ⟨l, hl, hx⟩ := List.mem_flatten.mp h
  obtain ⟨i, hi, rfl⟩ := List.mem_map.mp hl
  obtain ⟨g, hg⟩ := getD_rng hp i.toNat
  rw [hg] at hx
  obtain ⟨k, hk, _, rfl⟩ := rngF_mem.mp hx
  exact ⟨k, hk, rfl⟩
theorem own_sorted {m : Nat} {ls : List (List Int)} (hp : ∀ ns ∈ ls, ∃ f, ns = rngF m f) {lot ms : List Int} (pw : ms.Pairwise (· < ·)) (mem : ∀ x : Int, x ∈ ms ↔ decide (x ∈ ownL ls lot) = true) : ms = rngF m fun j : Nat => lot.any (has ls (j : Int)) := by
  refine sorted_uniq pw (rngF_pw m _) fun x => ?_
  rw [mem x, decide_eq_true_eq]
  constructor
  · intro h
    obtain ⟨k, hk, rfl⟩ := ownL_in hp h
    exact rngF_mem.mpr ⟨k, hk, ownL_mem.mp h, rfl⟩
  · intro h
    obtain ⟨k, hk, h2, rfl⟩ := rngF_mem.mp h
    exact ownL_mem.mpr h2
theorem ownL_next {ls : List (List Int)} {ns : List Int} {k : Nat} {i : Int} (h : ns[k]? = some i) : ownL ls (ns.take (k + 1)) = ownL ls (ns.take k) ++ ls.getD i.toNat [] := by
  unfold ownL
  rw [take_map_next h, List.flatten_append, List.flatten_cons, List.flatten_nil, List.append_nil]
theorem boot_sorted' : bootBuiltins "sorted" = some (.builtin "sorted") := by decide +kernel
theorem boot_set' : bootBuiltins "set" = some (.type "set") := by decide +kernel
abbrev sLDue : Stmt := topS 25
abbrev nLDue : List Str := ["_law_one_here", "_law_other", "_law_found", "_law_lot", "_law_own", "_law_number"]
theorem scLDue : FnScope nLDue ["_law_one_here", "_law_other"] (defScope sLDue) := ⟨rfl, rfl, rfl, by decide +kernel, rfl, by decide +kernel, by decide +kernel⟩
section
variable {P : Program} {w : World} {K : PySem.W.Frag} {mg : Str → Option Value} {base : Heap}
set_option maxHeartbeats 4000000 in
theorem ok_lDue (hset : ∀ X : Cx, X.calm = true → CallR X (.type "set") (rSetL X.K X.w)) {f : Addr} {fd : FuncData} (F : Nm K mg "_law_fed_due" sLDue ["_law_one_here", "_law_other"] f fd) (T : Bn mg) (T2 : Bn2 mg) :
    FnOk P w K mg base CX0 1 f fd ["_law_one_here", "_law_other"] spLFed := by
  refine F.F.ok scLDue (fun vs H Q E h => ?_) (fun cdv A outer s H vs Q E hr h => ?_)
  · obtain ⟨D, B, v1, v2, m, n, ls, os, rfl, _⟩ := h
    rfl
  · obtain ⟨D, B, v1, v2, m, n, ls, os, rfl, hd1, hp1, hd2, hp2, q⟩ := h
    refine ⟨_, pss_cons (ps_if (pt_cmpR op_ne (pe_callB call_len_seq (by rfl) T.len PySem.boot_len (pa_cons (pe_ix ix_tup (pv 0) pe_int (fun _ _ => rfl)) pa_nil)) (pe_ix ix_tup (pv 1) pe_int (fun _ _ => rfl)) (nomark _)) (pss_one (ps_ret (pe_lst (pa_cons pe_str pa_nil)))) pss_nil)
      (pss_cons (ps_set (i := 2) scLDue.nd rfl (.inl rfl) (pe_lst pa_nil))
      (pss_cons (ps_for PassesOwn.never rfl (pi_tup (pe_ix ix_tup (pv 1) pe_int (fun _ _ => rfl))) (pg_name (i := 3) scLDue.nd rfl (.inl rfl))
        (pss_cons (ps_set (i := 4) scLDue.nd rfl (.inl rfl) (pe_lst pa_nil))
        (pss_cons (ps_for PassesOwn.never rfl (pi_tup (pv 3)) (pg_name (i := 5) scLDue.nd rfl (.inl rfl))
          (pss_one (ps_set (i := 4) scLDue.nd rfl (.inl rfl) (pe_op op_cat (pv 4) (pe_callTy call_list_of (by rfl) T.lst boot_list' (pa_cons (pe_ix ix_tup (pe_ix ix_tup (pv 0) pe_int (fun _ _ => rfl)) (pv 5) (fun _ _ => rfl)) pa_nil))))))
        (pss_one (ps_expr (pe_bm PySem.F.plainAttrs_list PySem.F.slot_list_append PySem.F.type_list_append mt_append (pv 2) (pa_cons (pe_callTy call_tuple_of (by rfl) T.tup boot_tuple' (pa_cons (pe_callB (cr_sortedSet rfl) (by rfl) T2.srt boot_sorted' (pa_cons (pe_callTy (hset _ rfl) (by rfl) T2.set boot_set' (pa_cons (pv 4) pa_nil)) pa_nil)) pa_nil)) pa_nil)))))))
      (pss_one (ps_ret (pe_lst (pa_cons pe_str (pa_cons (pe_tup (pa_cons (pe_ix ix_tup (pv 0) pe_int (fun _ _ => rfl)) (pa_cons (pe_callTy call_tuple_of (by rfl) T.tup boot_tuple' (pa_cons (pv 2) pa_nil)) pa_nil))) pa_nil))))))), ?_⟩
    obtain ⟨a1, xs1, rfl, e1, ha1⟩ := hd1.tupE
    obtain ⟨x1, y1, rfl, h1, h2⟩ := dq_two ha1
    cases h1.intE
    obtain ⟨b1, ys1, rfl, eb1, hb1⟩ := h2.tupE
    obtain ⟨a2, xs2, rfl, e2, ha2⟩ := hd2.tupE
    obtain ⟨x2, y2, rfl, h3, h4⟩ := dq_two ha2
    cases h3.intE
    obtain ⟨b2, ys2, rfl, eb2, hb2⟩ := h4.tupE
    have l1 := hb1.len
    have l2 := hb2.len
    rw [List.length_map] at l1 l2
    have m8 := hp1.m8
    have l8 := hp1.l8
    have o8 := hp2.l8
    refine ⟨_, rfl, a1, _, 1, .ref b1, rfl, rfl, SqT.of e1, atI_nat (j := 1) rfl, b1, ys1, rfl, .inr (SqT.of eb1), _, rfl, a2, _, 0, .int (n : Int), rfl, rfl, SqT.of e2, atI_nat (j := 0) rfl, rfl, _, rfl, ?_⟩
    by_cases c : ls.length = n
    · rw [dec_int2, decide_eq_true (by rw [l1, c])]
      refine iteF ⟨Nat.zero_le _, fun Fd nF => ?_⟩
      have sF := same_upd (o := .lst []) nF
      refine ⟨_, rfl, a2, _, 1, .ref b2, rfl, rfl, SqT.of (sF _ _ e2), atI_nat (j := 1) rfl, b2, rfl, ⟨_, SqT.of (sF _ _ eb2)⟩, ?_⟩
      refine for_tup (K := K) (a := b2) (xs := ys2) (fun i σ H3 => ∃ (ts : List V) (y3 y4 y5 : Option V), σ = [some (.ref a1), some (.ref a2), some (.ref Fd), y3, y4, y5] ∧ H3 Fd = some (.lst ts) ∧ ts.length = i ∧ (∀ D B, DqAll D B H3 ts ((fedL m ls (os.take i)).map lotD)) ∧ Same H H3)
        ⟨[], none, none, none, rfl, upd_same, rfl, fun _ _ => .nil, sF⟩ (fun i σ H3 _ ⟨_, _, _, _, _, _, _, _, s⟩ => SqT.of (s _ _ eb2)) ?_ ?_
      · rintro i y σ H3 hy ⟨ts, y3, y4, y5, rfl, eF, tl, hts, s3⟩
        have hi : i < ys2.length := (List.getElem?_eq_some_iff.mp hy).1
        obtain ⟨dx, hdx, hxx⟩ := hb2.at_ i _ hy
        rw [List.getElem?_map] at hdx
        obtain ⟨ns, hns, rfl⟩ := Option.map_eq_some_iff.mp hdx
        obtain ⟨cn, rfl, ec⟩ := dq_lot hxx
        have hin : ∀ x ∈ ns, 0 ≤ x ∧ x < (ls.length : Int) := fun x hx => by
          obtain ⟨g, rfl⟩ := hp2.lot ns (List.mem_of_getElem? hns)
          obtain ⟨k, hk, _, rfl⟩ := rngF_mem.mp hx
          omega
        have nl : ns.length ≤ 8 := by
          obtain ⟨g, rfl⟩ := hp2.lot ns (List.mem_of_getElem? hns)
          exact Nat.le_trans (rngF_len _ _) hp2.m8
        refine ⟨Nat.zero_le _, fun O nO => ?_⟩
        have sO := same_upd (o := .lst []) nO
        have ecO := sO _ _ (s3 _ _ ec)
        refine ⟨_, rfl, cn, rfl, ⟨_, SqT.of ecO⟩, ?_⟩
        refine for_tup (K := K) (a := cn) (xs := ns.map V.int) (fun k σ H5 => ∃ (O : Addr) (z5 : Option V), σ = [some (.ref a1), some (.ref a2), some (.ref Fd), some (.ref cn), some (.ref O), z5] ∧ H5 O = some (.lst ((ownL ls (ns.take k)).map V.int)) ∧ Same H3 H5)
          ⟨O, y5, rfl, upd_same, sO⟩ (fun k σ H5 _ ⟨_, _, _, _, s⟩ => SqT.of (s _ _ (s3 _ _ ec))) ?_ ?_
        · rintro k z σ H5 hz ⟨O, z5, rfl, eO, s5⟩
          rw [List.getElem?_map] at hz
          obtain ⟨ix, hix, rfl⟩ := Option.map_eq_some_iff.mp hz
          obtain ⟨ix0, ix1⟩ := hin ix (List.mem_of_getElem? hix)
          have s35 := s3.trans s5
          have hlt : ix.toNat < ys1.length := by omega
          have hg1 : ys1[ix.toNat]? = some ys1[ix.toNat] := List.getElem?_eq_getElem hlt
          obtain ⟨dl, hdl, hll⟩ := hb1.at_ ix.toNat _ hg1
          rw [List.getElem?_map] at hdl
          obtain ⟨ms, hms, rfl⟩ := Option.map_eq_some_iff.mp hdl
          obtain ⟨cl, hcl, el⟩ := dq_lot hll
          have hat : atI ys1 ix = some (V.ref cl) := by
            have e0 : ix = ((ix.toNat : Nat) : Int) := by omega
            rw [e0]
            exact atI_nat (by rw [hg1, hcl])
          have hget : ls.getD ix.toNat [] = ms := by
            rw [List.getD_eq_getElem?_getD, hms]
            rfl
          have hkl : k < ns.length := (List.getElem?_eq_some_iff.mp hix).1
          have ol := ownL_len hp1.lot (ns.take k)
          have ml : ms.length ≤ 8 := by
            obtain ⟨g, rfl⟩ := hp1.lot ms (List.mem_of_getElem? hms)
            exact Nat.le_trans (rngF_len _ _) m8
          rw [List.length_take] at ol
          have h64 := Nat.mul_le_mul (show min k ns.length ≤ 8 by omega) m8
          refine ⟨_, rfl, _, rfl, a1, _, 1, .ref b1, rfl, rfl, SqT.of (s35 _ _ e1), atI_nat (j := 1) rfl, _, rfl, b1, _, ix, .ref cl, rfl, rfl, SqT.of (s35 _ _ eb1), hat, cl, _, rfl, .inr (SqT.of (s35 _ _ el)), fun l nl2 => ?_⟩
          have s6 := same_upd (o := .lst (ms.map V.int)) nl2
          refine ⟨O, l, _, _, rfl, rfl, s6 _ _ eO, upd_same, Nat.le_of_lt (small1000 (by rw [List.length_map, List.length_map]; omega)), fun N nN => ?_⟩
          have s7 := same_upd (o := .lst ((ownL ls (ns.take k)).map V.int ++ ms.map V.int)) nN
          refine ⟨N, _, rfl, ?_, s5.trans (s6.trans s7)⟩
          rw [upd_same, ownL_next hix, hget, List.map_append]
        · rintro σ H5 ⟨O, z5, rfl, eO, s5⟩
          rw [List.length_map, List.take_length] at eO
          have ol := ownL_len hp1.lot ns
          have h64 := Nat.mul_le_mul nl m8
          have eF5 := s5 _ _ eF
          refine ⟨_, rfl, .inl ⟨rfl, _, SqL.of eF5⟩, _, rfl, O, _, rfl, SqL.of eO, by omega, fun p1 cc n1 hc => ?_⟩
          have s6 := same_upd (o := SetO w p1 (fun j => decide (j ∈ ownL ls ns)) cc) n1
          have cm := hc m fun x hx => by
            obtain ⟨k, hk, rfl⟩ := ownL_in hp1.lot hx
            omega
          refine ⟨p1, _, cc, rfl, upd_same, by omega, fun ms p2 pw mem _ n2 => ?_⟩
          have s7 := same_upd (o := .lst (ms.map V.int)) n2
          obtain rfl := own_sorted hp1.lot pw mem
          refine ⟨p2, _, rfl, .inl ⟨SqL.of upd_same, fun t nt => ?_⟩⟩
          have s8 := same_upd (o := .tup ((rngF m fun j : Nat => ns.any (has ls (j : Int))).map V.int)) nt
          have s68 := s6.trans (s7.trans s8)
          have eF8 := s68 _ _ eF5
          have s58 := s5.trans s68
          refine ⟨Fd, ts, _, rfl, rfl, eF8, small1000 (by omega), ?_⟩
          have eqn : fedL m ls (os.take (i + 1)) = fedL m ls (os.take i) ++ [rngF m fun j : Nat => ns.any (has ls (j : Int))] := by
            unfold fedL
            rw [List.take_add_one, hns, List.map_append]
            rfl
          refine ⟨ts ++ [.ref t], _, _, _, rfl, upd_same, by rw [List.length_append, tl]; rfl, fun D B => ?_, fun z o hz => ?_⟩
          · refine plain_keepAll (n := 1) eF8 (fun z o hz h => (upd_ne hz).trans h) (fun d hd => ?_) ?_
            · obtain ⟨ks, hks, rfl⟩ := List.mem_map.mp hd
              unfold fedL at hks
              obtain ⟨lt, _, rfl⟩ := List.mem_map.mp hks
              exact lot_plain m8
            · rw [eqn, List.map_append]
              exact DqAll.append (.cons (lotD_dq upd_same) .nil) ((hts D B).same s58)
          · rw [upd_ne (ne_of_none hz nF)]
            exact s58 _ _ (s3 _ _ hz)
      · rintro σ H3 ⟨ts, y3, y4, y5, rfl, eF, tl, hts, s3⟩
        rw [l2, List.take_length] at hts
        refine ⟨_, rfl, a1, _, 0, .int (m : Int), rfl, rfl, SqT.of (s3 _ _ e1), atI_nat (j := 0) rfl, _, rfl, Fd, ts, rfl, .inl ⟨SqL.of eF, fun t nt => ⟨sz1 rfl, fun u nu => ⟨sz1 rfl, fun N nN => ?_⟩⟩⟩⟩
        have s8 := same_upd (o := .tup ts) nt
        have s9 := same_upd (o := .tup [.int (m : Int), .ref t]) nu
        have s10 := same_upd (o := .lst [.str (Str.ofString "ok"), .ref u]) nN
        have sA := s8.trans (s9.trans s10)
        refine q _ _ (s3.trans sA) fun D B nD nB => ?_
        unfold fedD
        rw [if_pos c]
        have kD := Same.some (s3.trans (s8.trans s9)) nD
        have kB := Same.some (s3.trans (s8.trans s9)) nB
        exact .lst (fun z => kD (by rw [← z]; exact nN)) (fun z => kB (by rw [← z]; exact nN)) upd_same (.cons (.str _) (.cons (.tup (s10 _ _ upd_same) (.cons (.int _) (.cons (.tup ((s9.trans s10) _ _ upd_same) ((hts D B).same sA)) .nil))) .nil))
    · rw [dec_int2, decide_eq_false (by rw [l1]; omega)]
      refine iteT ⟨sz1 rfl, fun L nL => ?_⟩
      refine q _ _ (same_upd nL) fun D B nD nB => ?_
      unfold fedD
      rw [if_neg c]
      exact .lst (fun z => nD (by rw [← z]; exact nL)) (fun z => nB (by rw [← z]; exact nL)) upd_same (.cons (.str _) .nil)
end
end Jg
namespace Jg
open PySem PySem.Spec PyProof.Rows L2
/-! ### a type called, in two codes -/
section
variable {P : Program} {w : World} {A : Around} {E : Value → Shared → Prop}
/-- the making and the filling of what a type tells, each as one code -/
theorem made2 {T mk fill : String} {xs : List Value} {s : Shared} {N Q : Value → Shared → Prop} (k : TypeCalled T mk fill) (look : checkTypeCall T ⟨xs, []⟩ = pure ())
    (one : codeAny (model P w) A.in1 (.call (.builtin mk) ⟨.type T :: xs, []⟩) (wants N E) s)
    (two : ∀ v u, N v u → u.TypeIs v T ∧ codeAny (model P w) A.in1 (.call (.builtin fill) ⟨v :: xs, []⟩) (wants (fun r z => r = .none ∧ Q v z) E) u) :
    wpAny (model P w) A (call (.type T) xs) Q E s := by
  have ⟨b0, bs, line⟩ := k.mro
  have kmade := k.made
  have kself := k.sub
  have kno := k.notType
  have kcan := k.canCreate
  have calm := Code.quiet_builtin (id := "type.__call__") ⟨.type T :: xs, []⟩ (by decide +kernel)
  have flat := Around.under_plain (A := A) (weight_type_call_type T xs []) rfl
  apply wpAny_call
  apply codeAny_of_tree
  show wpAny _ _ (callAny (.type T) ⟨xs, []⟩) _ _ _
  apply wpAny_pure
  refine ⟨calm, ?_⟩
  apply codeAny_builtin F.entry_type_call
  rw [flat]
  repeat (first | wp_step | assumption)
  apply codeAny_mono one
  intro r u hr
  match r, hr with
  | .error _, hr => exact hr
  | .ok (.ret v), hr =>
    have ⟨ty, run⟩ := two v u hr
    have at1 := k.init.lookup
    have at2 := k.init.bind v
    repeat (first | wp_step | assumption)
    apply codeAny_mono run
    intro r2 z hr2
    match r2, hr2 with
    | .error _, hr2 => exact hr2
    | .ok (.ret _), ⟨e, q⟩ =>
      cases e
      repeat (first | wp_step | assumption)
/-- a set that holds nothing yet -/
def nil0 (w : World) : Obj := { cls := .type "set", dict := none, data := .set #[] 0 (.fresh 0 0 (!w.params.followText "set-order")) }
theorem fill_list {s : Shared} {S l : Addr} {its : List Value} {ns : List Int} {Q : Value → Shared → Prop} (calm : A.handled = none) (hS : s.heap.get? S = some (nil0 w)) (pl : PlainL s.heap l its.toArray) (hi : IntsAre its ns)
    (room : ns.length + 1 < scanBound) (q : ∀ g k c, SetR w g S (fun j => decide (j ∈ ns)) c → (∀ b u, b ≠ S → s.heap.get? b = some u → g.get? b = some u) → Q (.ref S) { s with heap := g, toks := k }) :
    codeAny (model P w) A (.call (.builtin "set.__init__") ⟨[.ref S, .ref l], []⟩) (wants (fun r z => r = .none ∧ Q (.ref S) z) E) s := by
  have ⟨ob, m, got, hcls, hdict, hdat⟩ := pl
  cases ob with
  | mk ocl odi oda osl =>
  cases hcls
  cases hdict
  cases hdat
  have no1 := PySem.F.sub_list_set
  have no2 := PySem.F.sub_list_frozenset
  have no3 : ((Value.type "list") == (Value.type "dict")) = false := by decide
  have two : l ≠ S := fun e => by
    rw [e, hS] at got
    have z : Value.type "set" = Value.type "list" := congrArg Obj.cls (Option.some.inj got)
    exact absurd z (by decide)
  apply codeAny_call_builtin F.called_set.init.plain F.entry_set_init
  have tyS : s.TypeIs (.ref S) "set" := ⟨_, hS, rfl⟩
  apply check_set_init_1 tyS
  unfold nil0 at hS
  unfold Builtin.«set.__init__» Builtin.Frozenset.updateFrom noKeywords
  generalize iter : pyIter = it
  wp_walk
  cases iter
  have fl : ∀ o : Obj, (s.heap.push o).objs.size = s.heap.objs.size + 1 := fun o => Heap.size_push ..
  have ltS := Heap.lt_size hS
  have ltl := Heap.lt_size got
  have ht : IntsAre its.toArray.toList ns := hi
  have hz : its.toArray.size = ns.length := by
    rw [List.size_toArray]
    exact IntsAre.length hi
  apply wpAny_pyIter_list pl.isList
  apply wpAny_bind
  apply wpAny_runValue
  have W := (Walks.list (prog := P) (w := w) (A := A.in1.in1) (by simp [calm]) s.heap.objs.size l (Nat.ne_of_lt ltl) its.toArray).toS
  have apart : S ∉ [s.heap.objs.size, l] := fun h => by
    rcases List.mem_cons.mp h with e | e
    · exact absurd e (Nat.ne_of_lt ltS)
    · exact two (List.mem_singleton.mp e).symm
  refine set_update_ints W S apart ns hz room ?vals its.toArray.size 0 _ (Nat.sub_zero _) (Nat.zero_le _) ⟨⟨_, Heap.get?_push_size _ rfl, rfl, rfl⟩, (pl.keeps fun b u e => Heap.get?_push_of_some _ e).isList⟩ ⟨0, Nat.le_refl _, setR_new_at (Heap.get?_push_of_some _ hS)⟩ ?rest
  case vals =>
    intro j v e
    have lt : j < ns.length := hz ▸ (Array.getElem?_eq_some_iff.mp e).1
    have ⟨t, et⟩ := IntsAre.int_at ht j v ((Array.getElem?_toList ..).trans e)
    refine ⟨ns.getD j 0, t, ?_, et⟩
    simp [lt]
  case rest =>
    intro z c mv _ R
    have ez : z = { s with heap := z.heap, toks := z.toks } := by
      obtain ⟨zh, zg, zd, zt, zo⟩ := z
      have e1 : zg = s.gens := mv.gens
      have e2 : zd = s.drawn := mv.drawn
      have e3 : zo = s.os := mv.os
      cases e1
      cases e2
      cases e3
      rfl
    show wpAny _ _ _ _ _ _
    apply wpAny_pure
    show wpAny _ _ (ret Value.none) _ _ _
    apply wpAny_pure
    refine ⟨rfl, ?_⟩
    rw [ez]
    refine q _ _ c R fun b u hb e => mv.heap b u (fun h => ?_) (Heap.get?_push_of_some _ e)
    rcases List.mem_cons.mp h with y | y
    · exact hb y
    · exact absurd (List.mem_singleton.mp y) (Nat.ne_of_lt (Heap.lt_size e))
theorem set_of_list {s : Shared} {l : Addr} {its : List Value} {ns : List Int} {Q : Value → Shared → Prop} (calm : A.handled = none) (pl : PlainL s.heap l its.toArray) (hi : IntsAre its ns) (room : ns.length + 1 < scanBound)
    (q : ∀ g k c, SetR w g s.heap.objs.size (fun j => decide (j ∈ ns)) c → (∀ b u, s.heap.get? b = some u → g.get? b = some u) → Q (.ref s.heap.objs.size) { s with heap := g, toks := k }) :
    wpAny (model P w) A (call (.type "set") [.ref l]) Q E s := by
  refine made2 (N := fun v u => v = .ref s.heap.objs.size ∧ u = { s with heap := s.heap.push (nil0 w) }) F.called_set (F.typeCall_set_1 _) (code_set_led1 _ ⟨rfl, rfl⟩) ?_
  rintro v u ⟨rfl, rfl⟩
  have got : (s.heap.push (nil0 w)).get? s.heap.objs.size = some (nil0 w) := Heap.get?_push_size _ rfl
  refine ⟨⟨_, got, rfl⟩, fill_list (by simp [calm]) got (pl.keeps fun b o e => Heap.get?_push_of_some _ e) hi room fun g k c R kp => q g k c R fun b o e => kp b o (Nat.ne_of_lt (Heap.lt_size e)) (Heap.get?_push_of_some _ e)⟩
end
/-! ### how many there are at most -/
theorem few_below : ∀ (b : Nat) (l : List Int), l.Nodup → (∀ x ∈ l, 0 ≤ x ∧ x < (b : Int)) → l.length ≤ b
  | 0, l, _, h => by
    cases l with
    | nil => exact Nat.le_refl _
    | cons x r =>
      have ⟨h1, h2⟩ := h x List.mem_cons_self
      omega
  | b + 1, l, n, h => by
    have ih := few_below b (l.erase (b : Int)) (n.erase _) fun x hx => by
      have ⟨ne, mem⟩ := (List.Nodup.mem_erase_iff n).mp hx
      have ⟨h1, h2⟩ := h x mem
      refine ⟨h1, ?_⟩
      have : x ≠ (b : Int) := ne
      omega
    by_cases m : (b : Int) ∈ l
    · have e := List.length_erase_of_mem m
      omega
    · rw [List.erase_of_not_mem m] at ih
      omega
end Jg
namespace Jg
open PySem PySem.Spec PyProof.Rows L2
/-- set(a list of ints) -/
theorem cr_setL {X : Cx} (hc : X.calm = true) : CallR X (.type "set") (rSetL X.K X.w) := by
  intro pins s σ H xs us Q I r h
  obtain ⟨l, ns, rfl, hl, hb, q⟩ := h
  obtain ⟨u, rfl, ru⟩ := r.one
  cases ru
  obtain ⟨its, rv, pl, z⟩ := I.list hl
  refine set_of_list (I.ok.hd hc) pl (ints_of_vals rv) (by unfold scanBound; omega) fun g k c R kp => ?_
  refine ⟨.ref _, upd H s.heap.objs.size (SetO X.w s.heap.objs.size (fun j => decide (j ∈ ns)) c), I.laid (t' := k) kp (Nat.le_refl _) (setO_new R), rfl, q _ c (I.hok.fresh (Nat.le_refl _)) fun B hB => ?_⟩
  obtain ⟨o, es, ep, t, _, _, _, _, nd, mem, _, _, en, _⟩ := R
  have few := few_below B (es.toList.map keyOf) nd fun x hx => hB x (of_decide_eq_true ((mem x).mpr hx))
  rw [List.length_map, Array.length_toList, en] at few
  exact few
end Jg
namespace Jg
open PySem PySem.Spec PyProof.Rows L2
/-! ### keywords -/
theorem kb_one {K : PySem.W.Frag} {fd : FuncData} {x : Str} (h : ∀ v, bindArgs fd ⟨[], [(x, v)]⟩ = pure [(x, v)]) : KBinds K fd [x] [x] kwOne kwOneV where
  to := fun s us ws _ hl => match us, ws, hl with
    | [], [v], _ => .of_eq (h v)
    | [], [], z => absurd z Nat.zero_ne_one
    | [], _ :: _ :: _, z => absurd z (Nat.zero_ne_one)
    | _ :: _, _, z => absurd z (Nat.zero_ne_one)
  rel := fun r1 r2 => by
    cases r1 with
    | nil =>
      cases r2 with
      | nil => exact .nil
      | cons a r =>
        cases r with
        | nil => exact .cons a .nil
        | cons b r => exact .nil
    | cons a r => exact .nil
theorem kb_sw {K : PySem.W.Frag} {fd : FuncData} {x y : Str} (h : ∀ a b, bindArgs fd ⟨[], [(y, a), (x, b)]⟩ = pure [(x, b), (y, a)]) : KBinds K fd [x, y] [y, x] kwSw kwSwV where
  to := fun s us ws _ hl => match us, ws, hl with
    | [], [a, b], _ => .of_eq (h a b)
    | [], [], z => absurd z (show ¬ (0 = 2) by decide)
    | [], [_], z => absurd z (show ¬ (0 = 2) by decide)
    | [], _ :: _ :: _ :: _, z => absurd z (show ¬ (0 = 2) by decide)
    | _ :: _, _, z => absurd z (show ¬ (0 = 2) by decide)
  rel := fun r1 r2 => by
    cases r1 with
    | nil =>
      cases r2 with
      | nil => exact .nil
      | cons a r =>
        cases r with
        | nil => exact .nil
        | cons b r =>
          cases r with
          | nil => exact .cons b (.cons a .nil)
          | cons c r => exact .nil
    | cons a r => exact .nil
/-! ### what the top has written -/
theorem all_mk {l : PySem.W.OpenLaw} {w : World} {K : PySem.W.Frag} {h : Heap} {mg : Str → Option Value} {fa f6 f7 f8 f10 f11 f12 f13 f15 f16 f17 f18 f19 f20 f21 f22 f23 f24 f25 f26 fC : Addr} {tk_MAX_INPUTS tk_MAX_ENDS : Tok} (X : K.In h) (G : h.Ns mainGlobals mg) (hfa : mg "law" = some (.ref fa))
    {od6 an6 od7 an7 od8 an8 od10 an10 od11 an11 od12 an12 od13 an13 od15 an15 od16 an16 od17 an17 od18 an18 od19 an19 od20 an20 od21 an21 od22 an22 od23 an23 od24 an24 od25 an25 od26 an26 : Option Addr} {sl6 sl7 sl8 sl10 sl11 sl12 sl13 sl15 sl16 sl17 sl18 sl19 sl20 sl21 sl22 sl23 sl24 sl25 sl26 : Array (Option Value)} {oc6 kV6 dc6 pm6 cd6 ct6 oc7 kV7 dc7 pm7 cd7 ct7 oc8 kV8 dc8 pm8 cd8 ct8 oc10 kV10 dc10 pm10 cd10 ct10 oc11 kV11 dc11 pm11 cd11 ct11 oc12 kV12 dc12 pm12 cd12 ct12 oc13 kV13 dc13 pm13 cd13 ct13 oc15 kV15 dc15 pm15 cd15 ct15 oc16 kV16 dc16 pm16 cd16 ct16 oc17 kV17 dc17 pm17 cd17 ct17 oc18 kV18 dc18 pm18 cd18 ct18 oc19 kV19 dc19 pm19 cd19 ct19 oc20 kV20 dc20 pm20 cd20 ct20 oc21 kV21 dc21 pm21 cd21 ct21 oc22 kV22 dc22 pm22 cd22 ct22 oc23 kV23 dc23 pm23 cd23 ct23 oc24 kV24 dc24 pm24 cd24 ct24 oc25 kV25 dc25 pm25 cd25 ct25 oc26 kV26 dc26 pm26 cd26 ct26 : Value}
    (a6 : PySem.W.nsIn K mainGlobals "is_integer" = some (some (.ref f6))) (l6 : K.lookup f6 = some ⟨oc6, od6, .func (PySem.W.fnOf "is_integer" "is_integer" (defArgs sInt) (defBody sInt) (defScope sInt) .none kV6 dc6 pm6 an6 cd6 ct6), sl6⟩) (c6 : PySem.W.codeIn K cd6 "is_integer" = true) (k6 : PySem.W.keepIn K (.ref f6) = true)
    (a7 : PySem.W.nsIn K mainGlobals "is_within" = some (some (.ref f7))) (l7 : K.lookup f7 = some ⟨oc7, od7, .func (PySem.W.fnOf "is_within" "is_within" (defArgs sWith) (defBody sWith) (defScope sWith) .none kV7 dc7 pm7 an7 cd7 ct7), sl7⟩) (c7 : PySem.W.codeIn K cd7 "is_within" = true) (k7 : PySem.W.keepIn K (.ref f7) = true)
    (a8 : PySem.W.nsIn K mainGlobals "is_tuple_of" = some (some (.ref f8))) (l8 : K.lookup f8 = some ⟨oc8, od8, .func (PySem.W.fnOf "is_tuple_of" "is_tuple_of" (defArgs sTupO) (defBody sTupO) (defScope sTupO) .none kV8 dc8 pm8 an8 cd8 ct8), sl8⟩) (c8 : PySem.W.codeIn K cd8 "is_tuple_of" = true) (k8 : PySem.W.keepIn K (.ref f8) = true)
    (a10 : PySem.W.nsIn K mainGlobals "pattern_error" = some (some (.ref f10))) (l10 : K.lookup f10 = some ⟨oc10, od10, .func (PySem.W.fnOf "pattern_error" "pattern_error" (defArgs sPErr) (defBody sPErr) (defScope sPErr) .none kV10 dc10 pm10 an10 cd10 ct10), sl10⟩) (c10 : PySem.W.codeIn K cd10 "pattern_error" = true) (k10 : PySem.W.keepIn K (.ref f10) = true)
    (a11 : PySem.W.nsIn K mainGlobals "is_lot" = some (some (.ref f11))) (l11 : K.lookup f11 = some ⟨oc11, od11, .func (PySem.W.fnOf "is_lot" "is_lot" (defArgs sIsLot) (defBody sIsLot) (defScope sIsLot) .none kV11 dc11 pm11 an11 cd11 ct11), sl11⟩) (c11 : PySem.W.codeIn K cd11 "is_lot" = true) (k11 : PySem.W.keepIn K (.ref f11) = true)
    (a12 : PySem.W.nsIn K mainGlobals "turned_pattern" = some (some (.ref f12))) (l12 : K.lookup f12 = some ⟨oc12, od12, .func (PySem.W.fnOf "turned_pattern" "turned_pattern" (defArgs sTurn) (defBody sTurn) (defScope sTurn) .none kV12 dc12 pm12 an12 cd12 ct12), sl12⟩) (c12 : PySem.W.codeIn K cd12 "turned_pattern" = true) (k12 : PySem.W.keepIn K (.ref f12) = true)
    (a13 : PySem.W.nsIn K mainGlobals "fed_pattern" = some (some (.ref f13))) (l13 : K.lookup f13 = some ⟨oc13, od13, .func (PySem.W.fnOf "fed_pattern" "fed_pattern" (defArgs sFed) (defBody sFed) (defScope sFed) .none kV13 dc13 pm13 an13 cd13 ct13), sl13⟩) (c13 : PySem.W.codeIn K cd13 "fed_pattern" = true) (k13 : PySem.W.keepIn K (.ref f13) = true)
    (a15 : PySem.W.nsIn K mainGlobals "_law_deck" = some (some (.ref f15))) (l15 : K.lookup f15 = some ⟨oc15, od15, .func (PySem.W.fnOf "_law_deck" "_law_deck" (defArgs sDeck) (defBody sDeck) (defScope sDeck) .none kV15 dc15 pm15 an15 cd15 ct15), sl15⟩) (c15 : PySem.W.codeIn K cd15 "_law_deck" = true) (k15 : PySem.W.keepIn K (.ref f15) = true)
    (a16 : PySem.W.nsIn K mainGlobals "_law_draw" = some (some (.ref f16))) (l16 : K.lookup f16 = some ⟨oc16, od16, .func (PySem.W.fnOf "_law_draw" "_law_draw" (defArgs sDraw) (defBody sDraw) (defScope sDraw) .none kV16 dc16 pm16 an16 cd16 ct16), sl16⟩) (c16 : PySem.W.codeIn K cd16 "_law_draw" = true) (k16 : PySem.W.keepIn K (.ref f16) = true)
    (a17 : PySem.W.nsIn K mainGlobals "_law_one" = some (some (.ref f17))) (l17 : K.lookup f17 = some ⟨oc17, od17, .func (PySem.W.fnOf "_law_one" "_law_one" (defArgs sOne) (defBody sOne) (defScope sOne) .none kV17 dc17 pm17 an17 cd17 ct17), sl17⟩) (c17 : PySem.W.codeIn K cd17 "_law_one" = true) (k17 : PySem.W.keepIn K (.ref f17) = true)
    (a18 : PySem.W.nsIn K mainGlobals "_law_odd" = some (some (.ref f18))) (l18 : K.lookup f18 = some ⟨oc18, od18, .func (PySem.W.fnOf "_law_odd" "_law_odd" (defArgs sOdd) (defBody sOdd) (defScope sOdd) .none kV18 dc18 pm18 an18 cd18 ct18), sl18⟩) (c18 : PySem.W.codeIn K cd18 "_law_odd" = true) (k18 : PySem.W.keepIn K (.ref f18) = true)
    (a19 : PySem.W.nsIn K mainGlobals "_law_bent" = some (some (.ref f19))) (l19 : K.lookup f19 = some ⟨oc19, od19, .func (PySem.W.fnOf "_law_bent" "_law_bent" (defArgs sBent) (defBody sBent) (defScope sBent) .none kV19 dc19 pm19 an19 cd19 ct19), sl19⟩) (c19 : PySem.W.codeIn K cd19 "_law_bent" = true) (k19 : PySem.W.keepIn K (.ref f19) = true)
    (a20 : PySem.W.nsIn K mainGlobals "_law_whole" = some (some (.ref f20))) (l20 : K.lookup f20 = some ⟨oc20, od20, .func (PySem.W.fnOf "_law_whole" "_law_whole" (defArgs sWhole) (defBody sWhole) (defScope sWhole) .none kV20 dc20 pm20 an20 cd20 ct20), sl20⟩) (c20 : PySem.W.codeIn K cd20 "_law_whole" = true) (k20 : PySem.W.keepIn K (.ref f20) = true)
    (a21 : PySem.W.nsIn K mainGlobals "_law_is_lot" = some (some (.ref f21))) (l21 : K.lookup f21 = some ⟨oc21, od21, .func (PySem.W.fnOf "_law_is_lot" "_law_is_lot" (defArgs sLLot) (defBody sLLot) (defScope sLLot) .none kV21 dc21 pm21 an21 cd21 ct21), sl21⟩) (c21 : PySem.W.codeIn K cd21 "_law_is_lot" = true) (k21 : PySem.W.keepIn K (.ref f21) = true)
    (a22 : PySem.W.nsIn K mainGlobals "_law_pattern" = some (some (.ref f22))) (l22 : K.lookup f22 = some ⟨oc22, od22, .func (PySem.W.fnOf "_law_pattern" "_law_pattern" (defArgs sLPat) (defBody sLPat) (defScope sLPat) .none kV22 dc22 pm22 an22 cd22 ct22), sl22⟩) (c22 : PySem.W.codeIn K cd22 "_law_pattern" = true) (k22 : PySem.W.keepIn K (.ref f22) = true)
    (a23 : PySem.W.nsIn K mainGlobals "_law_pattern_error" = some (some (.ref f23))) (l23 : K.lookup f23 = some ⟨oc23, od23, .func (PySem.W.fnOf "_law_pattern_error" "_law_pattern_error" (defArgs sLPErr) (defBody sLPErr) (defScope sLPErr) .none kV23 dc23 pm23 an23 cd23 ct23), sl23⟩) (c23 : PySem.W.codeIn K cd23 "_law_pattern_error" = true) (k23 : PySem.W.keepIn K (.ref f23) = true)
    (a24 : PySem.W.nsIn K mainGlobals "_law_fed" = some (some (.ref f24))) (l24 : K.lookup f24 = some ⟨oc24, od24, .func (PySem.W.fnOf "_law_fed" "_law_fed" (defArgs sLFed) (defBody sLFed) (defScope sLFed) .none kV24 dc24 pm24 an24 cd24 ct24), sl24⟩) (c24 : PySem.W.codeIn K cd24 "_law_fed" = true) (k24 : PySem.W.keepIn K (.ref f24) = true)
    (a25 : PySem.W.nsIn K mainGlobals "_law_fed_due" = some (some (.ref f25))) (l25 : K.lookup f25 = some ⟨oc25, od25, .func (PySem.W.fnOf "_law_fed_due" "_law_fed_due" (defArgs sLDue) (defBody sLDue) (defScope sLDue) .none kV25 dc25 pm25 an25 cd25 ct25), sl25⟩) (c25 : PySem.W.codeIn K cd25 "_law_fed_due" = true) (k25 : PySem.W.keepIn K (.ref f25) = true)
    (a26 : PySem.W.nsIn K mainGlobals "law" = some (some (.ref f26))) (l26 : K.lookup f26 = some ⟨oc26, od26, .func (PySem.W.fnOf "law" "law" (defArgs sLaw) (defBody sLaw) (defScope sLaw) .none kV26 dc26 pm26 an26 cd26 ct26), sl26⟩) (c26 : PySem.W.codeIn K cd26 "law" = true) (k26 : PySem.W.keepIn K (.ref f26) = true)
    (aC : PySem.W.nsIn K mainGlobals "Unfit" = some (some (.ref fC))) (kC : PySem.W.keepIn K (.ref fC) = true) (sC : PySem.W.subIn K (.ref fC) (.type "BaseException") = some true) (tC : PySem.W.typeIn K (.ref fC) = some (.type "type")) (xC : PySem.W.excIn K fC [.type "ValueError", .type "Exception", .type "BaseException", .type "object"] "ValueError.__new__" = true) (eC : PySem.W.exmOne K (.ref fC) (.ref fC) = some true)
    (a_MAX_INPUTS : PySem.W.nsIn K mainGlobals "MAX_INPUTS" = some (some (.int 8 tk_MAX_INPUTS)))
    (a_MAX_ENDS : PySem.W.nsIn K mainGlobals "MAX_ENDS" = some (some (.int 8 tk_MAX_ENDS)))
    (z_isinstance : PySem.W.nsIn K mainGlobals "isinstance" = some none) (z_int : PySem.W.nsIn K mainGlobals "int" = some none) (z_bool : PySem.W.nsIn K mainGlobals "bool" = some none) (z_tuple : PySem.W.nsIn K mainGlobals "tuple" = some none) (z_len : PySem.W.nsIn K mainGlobals "len" = some none) (z_all : PySem.W.nsIn K mainGlobals "all" = some none) (z_range : PySem.W.nsIn K mainGlobals "range" = some none) (z_list : PySem.W.nsIn K mainGlobals "list" = some none) (z_str : PySem.W.nsIn K mainGlobals "str" = some none) (z_min : PySem.W.nsIn K mainGlobals "min" = some none) (z_repr : PySem.W.nsIn K mainGlobals "repr" = some none) (z_abs : PySem.W.nsIn K mainGlobals "abs" = some none) (z_max : PySem.W.nsIn K mainGlobals "max" = some none) (z_sum : PySem.W.nsIn K mainGlobals "sum" = some none) (z_enumerate : PySem.W.nsIn K mainGlobals "enumerate" = some none) (z_zip : PySem.W.nsIn K mainGlobals "zip" = some none) (z_any : PySem.W.nsIn K mainGlobals "any" = some none) (z_sorted : PySem.W.nsIn K mainGlobals "sorted" = some none) (z_set : PySem.W.nsIn K mainGlobals "set" = some none)
    (hset : ∀ X : Cx, X.calm = true → CallR X (.type "set") (rSetL X.K X.w)) :
    ∃ fd : FuncData, (∀ (s : Shared) (v : Value), BindsTo s fd ⟨[v], []⟩ [("_law_script", v)]) ∧ ∀ base : Heap, K.In base → base.Ns mainGlobals mg → RunG l.prog w K mg base 8 fa fd ["_law_script"] (spLaw K) := by
  have e := hfa.symm.trans (PySem.W.mg_of X G a26)
  cases e
  have T : Bn mg := ⟨PySem.W.mg_none_of X G z_isinstance, PySem.W.mg_none_of X G z_int, PySem.W.mg_none_of X G z_bool, PySem.W.mg_none_of X G z_tuple, PySem.W.mg_none_of X G z_len, PySem.W.mg_none_of X G z_all, PySem.W.mg_none_of X G z_range, PySem.W.mg_none_of X G z_list, PySem.W.mg_none_of X G z_str, PySem.W.mg_none_of X G z_min, PySem.W.mg_none_of X G z_repr, PySem.W.mg_none_of X G z_abs, PySem.W.mg_none_of X G z_max, PySem.W.mg_none_of X G z_sum, PySem.W.mg_none_of X G z_enumerate⟩
  have T2 : Bn2 mg := ⟨PySem.W.mg_none_of X G z_zip, PySem.W.mg_none_of X G z_any, PySem.W.mg_none_of X G z_sorted, PySem.W.mg_none_of X G z_set⟩
  have F6 := fun_mk (st := sInt) l6 c6 k6
  have b6 := F6.binds (ps := ["value"]) fun _ _ _ _ _ _ us hl => match us, hl with | [_], _ => rfl
  have g6 := PySem.W.mg_of X G a6
  have F7 := fun_mk (st := sWith) l7 c7 k7
  have b7 := F7.binds (ps := ["value", "low", "high"]) fun _ _ _ _ _ _ us hl => match us, hl with | [_, _, _], _ => rfl
  have g7 := PySem.W.mg_of X G a7
  have F8 := fun_mk (st := sTupO) l8 c8 k8
  have b8 := F8.binds (ps := ["value", "many"]) fun _ _ _ _ _ _ us hl => match us, hl with | [_, _], _ => rfl
  have g8 := PySem.W.mg_of X G a8
  have F10 := fun_mk (st := sPErr) l10 c10 k10
  have b10 := F10.binds (ps := ["value"]) fun _ _ _ _ _ _ us hl => match us, hl with | [_], _ => rfl
  have g10 := PySem.W.mg_of X G a10
  have F11 := fun_mk (st := sIsLot) l11 c11 k11
  have b11 := F11.binds (ps := ["value", "many"]) fun _ _ _ _ _ _ us hl => match us, hl with | [_, _], _ => rfl
  have g11 := PySem.W.mg_of X G a11
  have F12 := fun_mk (st := sTurn) l12 c12 k12
  have b12 := F12.binds (ps := ["pattern"]) fun _ _ _ _ _ _ us hl => match us, hl with | [_], _ => rfl
  have g12 := PySem.W.mg_of X G a12
  have F13 := fun_mk (st := sFed) l13 c13 k13
  have b13 := F13.binds (ps := ["one", "other"]) fun _ _ _ _ _ _ us hl => match us, hl with | [_, _], _ => rfl
  have g13 := PySem.W.mg_of X G a13
  have F15 := fun_mk (st := sDeck) l15 c15 k15
  have b15 := F15.binds (ps := ["_law_script"]) fun _ _ _ _ _ _ us hl => match us, hl with | [_], _ => rfl
  have g15 := PySem.W.mg_of X G a15
  have F16 := fun_mk (st := sDraw) l16 c16 k16
  have b16 := F16.binds (ps := ["_law_deck_here", "_law_many"]) fun _ _ _ _ _ _ us hl => match us, hl with | [_, _], _ => rfl
  have g16 := PySem.W.mg_of X G a16
  have F17 := fun_mk (st := sOne) l17 c17 k17
  have b17 := F17.binds (ps := ["_law_deck_here", "_law_items"]) fun _ _ _ _ _ _ us hl => match us, hl with | [_, _], _ => rfl
  have g17 := PySem.W.mg_of X G a17
  have F18 := fun_mk (st := sOdd) l18 c18 k18
  have b18 := F18.binds (ps := ["_law_deck_here"]) fun _ _ _ _ _ _ us hl => match us, hl with | [_], _ => rfl
  have g18 := PySem.W.mg_of X G a18
  have F19 := fun_mk (st := sBent) l19 c19 k19
  have b19 := F19.binds (ps := ["_law_deck_here", "_law_value", "_law_deep"]) fun _ _ _ _ _ _ us hl => match us, hl with | [_, _, _], _ => rfl
  have g19 := PySem.W.mg_of X G a19
  have F20 := fun_mk (st := sWhole) l20 c20 k20
  have b20 := F20.binds (ps := ["_law_value", "_law_least", "_law_most"]) fun _ _ _ _ _ _ us hl => match us, hl with | [_, _, _], _ => rfl
  have g20 := PySem.W.mg_of X G a20
  have F21 := fun_mk (st := sLLot) l21 c21 k21
  have b21 := F21.binds (ps := ["_law_value", "_law_many"]) fun _ _ _ _ _ _ us hl => match us, hl with | [_, _], _ => rfl
  have g21 := PySem.W.mg_of X G a21
  have F22 := fun_mk (st := sLPat) l22 c22 k22
  have b22 := F22.binds (ps := ["_law_deck_here", "_law_most"]) fun _ _ _ _ _ _ us hl => match us, hl with | [_, _], _ => rfl
  have g22 := PySem.W.mg_of X G a22
  have F23 := fun_mk (st := sLPErr) l23 c23 k23
  have b23 := F23.binds (ps := ["_law_value"]) fun _ _ _ _ _ _ us hl => match us, hl with | [_], _ => rfl
  have g23 := PySem.W.mg_of X G a23
  have F24 := fun_mk (st := sLFed) l24 c24 k24
  have b24 := F24.binds (ps := ["_law_one_here", "_law_other"]) fun _ _ _ _ _ _ us hl => match us, hl with | [_, _], _ => rfl
  have g24 := PySem.W.mg_of X G a24
  have F25 := fun_mk (st := sLDue) l25 c25 k25
  have b25 := F25.binds (ps := ["_law_one_here", "_law_other"]) fun _ _ _ _ _ _ us hl => match us, hl with | [_, _], _ => rfl
  have g25 := PySem.W.mg_of X G a25
  have F26 := fun_mk (st := sLaw) l26 c26 k26
  have g_MAX_INPUTS := PySem.W.mg_of X G a_MAX_INPUTS
  have g_MAX_ENDS := PySem.W.mg_of X G a_MAX_ENDS
  have D_ : Dr K mg f16 _ := ⟨F16, b16, g16⟩
  have O_ : On K mg f17 _ := ⟨F17, b17, g17⟩
  have X_ : Od K mg f18 _ := ⟨F18, b18, g18⟩
  have U : Uf K mg fC := ⟨PySem.W.mg_of X G aC, kC, sC, tC, xC⟩
  have G_ : Pg K mg := {
    int := ⟨f6, _, ⟨F6, b6, g6⟩⟩
    wit := ⟨f7, _, ⟨F7, b7, g7⟩⟩
    tup := ⟨f8, _, ⟨F8, b8, g8⟩⟩
    lot := ⟨f11, _, ⟨F11, b11, g11⟩⟩
    mxI := ⟨_, g_MAX_INPUTS⟩
    mxE := ⟨_, g_MAX_ENDS⟩ }
  refine ⟨PySem.W.fnOf "law" "law" (defArgs sLaw) (defBody sLaw) (defScope sLaw) .none kV26 dc26 pm26 an26 cd26 ct26, fun s v => .of_eq rfl, fun base _ _ => run_law F26 ?_ (⟨ok_fed ⟨F13, b13, g13⟩ U T T2, g13, k13, b13, kb_sw fun a b => rfl⟩ : FedC l.prog w K mg base fC f13 _)⟩
  have B0 : FnOk l.prog w K mg base CX0 3 f19 (PySem.W.fnOf "_law_bent" "_law_bent" (defArgs sBent) (defBody sBent) (defScope sBent) .none kV19 dc19 pm19 an19 cd19 ct19) ["_law_deck_here", "_law_value", "_law_deep"] (spB 0) := ⟨fun _ _ _ _ z => False.elim z, fun _ _ _ _ _ _ _ _ _ _ _ _ _ z => False.elim z⟩
  have B1 := ok_bent (n := 0) (by decide) (by decide) F19 b19 g19 B0 X_ O_ D_ T
  have B2 := ok_bent (n := 1) (by decide) (by decide) F19 b19 g19 B1 X_ O_ D_ T
  have B3 := ok_bent (n := 2) (by decide) (by decide) F19 b19 g19 B2 X_ O_ D_ T
  exact {
    bn := T
    b2 := T2
    deck := ⟨f15, _, ⟨ok_deck F15 T.abs T.len, g15, k15, b15⟩⟩
    draw := ⟨f16, _, ⟨ok_draw F16 T.int T.len, g16, k16, b16⟩⟩
    odd := ⟨f18, _, ⟨ok_odd F18 F17 b17 g17 F16 b16 g16 T, g18, k18, b18⟩⟩
    bent := ⟨f19, _, ⟨ok_bent (n := 3) (by decide) (by decide) F19 b19 g19 B3 X_ O_ D_ T, g19, k19, b19⟩⟩
    pat := ⟨f22, _, ⟨ok_lPat ⟨F22, b22, g22⟩ O_ D_ T, g22, k22, b22⟩⟩
    lperr := ⟨f23, _, ⟨ok_lPErr ⟨F23, b23, g23⟩ ⟨F20, b20, g20⟩ ⟨F21, b21, g21⟩ T, g23, k23, b23⟩⟩
    perr := ⟨f10, _, ⟨ok_pErr ⟨F10, b10, g10⟩ G_ T T2, g10, k10, b10⟩, kb_one fun v => rfl⟩
    turn := ⟨f12, _, ⟨ok_turn ⟨F12, b12, g12⟩ T, g12, k12, b12⟩, kb_one fun v => rfl⟩
    lfed := ⟨f24, _, ⟨ok_lFed ⟨F24, b24, g24⟩ ⟨F13, b13, g13⟩ U eC T T2, g24, k24, b24⟩⟩
    ldue := ⟨f25, _, ⟨(ok_lDue hset ⟨F25, b25, g25⟩ T T2).mono (by decide), g25, k25, b25⟩⟩ }
end Jg
open PySem PySem.W PyProof.Rows
set_option maxRecDepth 100000 in
set_option maxHeartbeats 0 in
theorem PySem.Challenge.cw_rowsback_k52_patterns_judged_holds : PySem.Challenge.rw_rowsback_k52_patterns_judged.Holds := by
  w_on; o_law; k_head; (case hw => w_witness2)
  k_fill
  refine Jg.walk_ofG (l := PySem.Challenge.rw_rowsback_k52_patterns_judged) (n := 63) (k := 8) (x := "_law_script") (sp := fun w => Jg.spLaw _) rfl (by decide) rfl ⟨rfl, by decide, by decide⟩ (fun w h Y => PySem.W.kIn_of Y) ?F (fun _ _ a ns hl _ hS => ⟨a, ns, rfl, hS, hl, fun _ => rfl⟩)
  case F =>
    intro w mg fa h KX G hmg
    refine' Jg.all_mk KX G hmg ?a6 ?l6 ?c6 ?k6 ?a7 ?l7 ?c7 ?k7 ?a8 ?l8 ?c8 ?k8 ?a10 ?l10 ?c10 ?k10 ?a11 ?l11 ?c11 ?k11 ?a12 ?l12 ?c12 ?k12 ?a13 ?l13 ?c13 ?k13 ?a15 ?l15 ?c15 ?k15 ?a16 ?l16 ?c16 ?k16 ?a17 ?l17 ?c17 ?k17 ?a18 ?l18 ?c18 ?k18 ?a19 ?l19 ?c19 ?k19 ?a20 ?l20 ?c20 ?k20 ?a21 ?l21 ?c21 ?k21 ?a22 ?l22 ?c22 ?k22 ?a23 ?l23 ?c23 ?k23 ?a24 ?l24 ?c24 ?k24 ?a25 ?l25 ?c25 ?k25 ?a26 ?l26 ?c26 ?k26 ?aC ?kC ?sC ?tC ?xC ?eC ?a_MAX_INPUTS ?a_MAX_ENDS ?z_isinstance ?z_int ?z_bool ?z_tuple ?z_len ?z_all ?z_range ?z_list ?z_str ?z_min ?z_repr ?z_abs ?z_max ?z_sum ?z_enumerate ?z_zip ?z_any ?z_sorted ?z_set ?hset
    (case a6 => k_is); (case l6 => k_is); (case c6 => k_is); (case k6 => k_is)
    (case a7 => k_is); (case l7 => k_is); (case c7 => k_is); (case k7 => k_is)
    (case a8 => k_is); (case l8 => k_is); (case c8 => k_is); (case k8 => k_is)
    (case a10 => k_is); (case l10 => k_is); (case c10 => k_is); (case k10 => k_is)
    (case a11 => k_is); (case l11 => k_is); (case c11 => k_is); (case k11 => k_is)
    (case a12 => k_is); (case l12 => k_is); (case c12 => k_is); (case k12 => k_is)
    (case a13 => k_is); (case l13 => k_is); (case c13 => k_is); (case k13 => k_is)
    (case a15 => k_is); (case l15 => k_is); (case c15 => k_is); (case k15 => k_is)
    (case a16 => k_is); (case l16 => k_is); (case c16 => k_is); (case k16 => k_is)
    (case a17 => k_is); (case l17 => k_is); (case c17 => k_is); (case k17 => k_is)
    (case a18 => k_is); (case l18 => k_is); (case c18 => k_is); (case k18 => k_is)
    (case a19 => k_is); (case l19 => k_is); (case c19 => k_is); (case k19 => k_is)
    (case a20 => k_is); (case l20 => k_is); (case c20 => k_is); (case k20 => k_is)
    (case a21 => k_is); (case l21 => k_is); (case c21 => k_is); (case k21 => k_is)
    (case a22 => k_is); (case l22 => k_is); (case c22 => k_is); (case k22 => k_is)
    (case a23 => k_is); (case l23 => k_is); (case c23 => k_is); (case k23 => k_is)
    (case a24 => k_is); (case l24 => k_is); (case c24 => k_is); (case k24 => k_is)
    (case a25 => k_is); (case l25 => k_is); (case c25 => k_is); (case k25 => k_is)
    (case a26 => k_is); (case l26 => k_is); (case c26 => k_is); (case k26 => k_is)
    (case aC => k_is); (case kC => k_is); (case sC => k_is); (case tC => k_is); (case xC => k_exc); (case eC => (refine PySem.W.exm_ref ?h1 ?h2 ?h3 ?h4); (case h1 => k_is); (case h2 => k_is); (case h3 => k_is); (case h4 => k_is))
    (case a_MAX_INPUTS => k_is)
    (case a_MAX_ENDS => k_is)
    (case z_isinstance => k_is)
    (case z_int => k_is)
    (case z_bool => k_is)
    (case z_tuple => k_is)
    (case z_len => k_is)
    (case z_all => k_is)
    (case z_range => k_is)
    (case z_list => k_is)
    (case z_str => k_is)
    (case z_min => k_is)
    (case z_repr => k_is)
    (case z_abs => k_is)
    (case z_max => k_is)
    (case z_sum => k_is)
    (case z_enumerate => k_is)
    (case z_zip => k_is)
    (case z_any => k_is)
    (case z_sorted => k_is)
    (case z_set => k_is)
    (case hset => exact fun X h => Jg.cr_setL h)
