import PyProof.Rows.All
import Wide.All
import OpenK.AllK
import Wide.FinOn
import PySem.Challenge.RW_rowsback_k00_errors_and_bounds
import HandS.ForMost
import HandS.IsInst
import HandS.TupAny
import HandS.TupMul
import HandS.Wide
import PyProof.ReprRoads
import HandS.Style
import PyProof.ReprLen
import HandS.ExcInit
import HandS.ExcIs
import HandS.ExcField
import HandS.ExcValue
import KE.KExcIs
set_option Elab.async false
set_option linter.all false
set_option maxRecDepth 100000
namespace Jg
open PySem PySem.Spec PyProof.Rows L2
def topS (i : Nat) : Stmt := PySem.Challenge.pw_rowsback_k00_errors_and_bounds.main.body.getD i (.Pass ⟨0, 0, 0, 0⟩)
end Jg
namespace Jg
open PySem PySem.Spec PyProof.Rows L2
mutual
/-- a value as data: lists (none of them D or B), tuples, empty dicts -/
inductive Dq (D B : Addr) (H : Hp) : V → PyData → Prop
  | non : Dq D B H .non .none
  | bl (b : Bool) : Dq D B H (.bl b) (.bool b)
  | int (i : Int) : Dq D B H (.int i) (.int i)
  | str (x : Str) : Dq D B H (.str x) (.str x)
  | lst {a : Addr} {xs : List V} {ds : List PyData} : a ≠ D → a ≠ B → H a = some (.lst xs) → DqAll D B H xs ds → Dq D B H (.ref a) (.list ds)
  | tup {a : Addr} {xs : List V} {ds : List PyData} : H a = some (.tup xs) → DqAll D B H xs ds → Dq D B H (.ref a) (.tuple ds)
  | dct {a : Addr} : H a = some (.dK []) → Dq D B H (.ref a) (.dict [])
inductive DqAll (D B : Addr) (H : Hp) : List V → List PyData → Prop
  | nil : DqAll D B H [] []
  | cons {v : V} {vs : List V} {d : PyData} {ds : List PyData} : Dq D B H v d → DqAll D B H vs ds → DqAll D B H (v :: vs) (d :: ds)
end
theorem DqAll.len {D B : Addr} {H : Hp} : ∀ {vs : List V} {ds : List PyData}, DqAll D B H vs ds → vs.length = ds.length
  | _, _, .nil => rfl
  | _, _, .cons _ h => congrArg Nat.succ h.len
/-- what lies stays, where all that is neither D nor B stays -/
def Fr (D B : Addr) (H H' : Hp) : Prop := ∀ b o, b ≠ D → b ≠ B → H b = some o → H' b = some o
mutual
theorem Dq.keep {D B : Addr} {H H' : Hp} (hD : ∃ xs, H D = some (.lst xs)) (hB : ∃ xs, H B = some (.lst xs)) (f : Fr D B H H') : ∀ (d : PyData) (v : V), Dq D B H v d → Dq D B H' v d
  | .none, _, h => by
    cases h
    exact .non
  | .bool _, _, h => by
    cases h
    exact .bl _
  | .int _, _, h => by
    cases h
    exact .int _
  | .str _, _, h => by
    cases h
    exact .str _
  | .list ds, _, h => by
    cases h with
    | lst h1 h2 h3 h4 => exact .lst h1 h2 (f _ _ h1 h2 h3) (DqAll.keep hD hB f ds _ h4)
  | .tuple ds, _, h => by
    obtain ⟨xD, eD⟩ := hD
    obtain ⟨xB, eB⟩ := hB
    cases h with
    | tup h3 h4 =>
      refine .tup (f _ _ (fun z => ?_) (fun z => ?_) h3) (DqAll.keep ⟨xD, eD⟩ ⟨xB, eB⟩ f ds _ h4)
      · rw [z, eD] at h3
        cases h3
      · rw [z, eB] at h3
        cases h3
  | .dict ds, _, h => by
    obtain ⟨xD, eD⟩ := hD
    obtain ⟨xB, eB⟩ := hB
    cases h with
    | dct h3 =>
      refine .dct (f _ _ (fun z => ?_) (fun z => ?_) h3)
      · rw [z, eD] at h3
        cases h3
      · rw [z, eB] at h3
        cases h3
theorem DqAll.keep {D B : Addr} {H H' : Hp} (hD : ∃ xs, H D = some (.lst xs)) (hB : ∃ xs, H B = some (.lst xs)) (f : Fr D B H H') : ∀ (ds : List PyData) (vs : List V), DqAll D B H vs ds → DqAll D B H' vs ds
  | [], _, h => by
    cases h
    exact .nil
  | d :: ds, _, h => by
    cases h with
    | cons h1 h2 => exact .cons (Dq.keep hD hB f d _ h1) (DqAll.keep hD hB f ds _ h2)
end
section
variable {X : Cx} {pins : List (Addr × Obj)} {σ : L2.St} {H : Hp} {s : Shared} {D B : Addr}
mutual
theorem Dq.rep (I : Inv X pins σ H s) : ∀ (d : PyData) (v : V) (u : Value), Dq D B H v d → RelV v u → d.showable = true → d.shown.length ≤ sizeLine →
    ∃ bs as, ReadAtMost s.heap d.depth bs ∧ Reads s.heap u d as ∧ ReprK X.prog X.w bs s.heap d.depth u d.shown
  | .none, _, _, h, r, _, _ => by
    cases h
    cases r
    exact ⟨[], [], (fun _ h => nomatch h), .none, by simp only [PyData.shown]; exact .of_is ReprIs.none _ _ _⟩
  | .bool b, _, _, h, r, _, _ => by
    cases h
    cases r
    exact ⟨[], [], (fun _ h => nomatch h), .bool b, by simp only [PyData.shown]; exact .of_is (ReprIs.bool b) _ _ _⟩
  | .int i, _, _, h, r, hs, _ => by
    cases h
    obtain ⟨t, rfl⟩ := r
    exact ⟨[], [], (fun _ h => nomatch h), .int i t, by simp only [PyData.shown]; exact .of_is (ReprIs.int t (by simpa [PyData.showable] using hs)) _ _ _⟩
  | .str x, _, _, h, r, _, hz => by
    cases h
    obtain ⟨t, rfl⟩ := r
    exact ⟨[], [], (fun _ h => nomatch h), .str x t, by simp only [PyData.shown]; exact .of_is (ReprIs.str x t (by simpa only [PyData.shown] using hz)) _ _ _⟩
  | .list ds, _, _, h, r, hs, hz => by
    cases h with
    | lst _ _ e ha =>
      cases r
      have hz2 : (listText (PyData.shownAll ds)).length ≤ sizeLine := by simpa only [PyData.shown] using hz
      obtain ⟨_, its, n, rv, ho⟩ := I.hok _ _ e
      obtain ⟨bs, as, hb, hr, hk⟩ := DqAll.rep I ds _ its ha rv (by simpa [PyData.showable] using hs) (fun t ht => Nat.le_trans (listText_mem_le ht) hz2)
      have hr2 : ReadsAll s.heap its.toArray.toList ds as := hr
      have rd := Reads.list ho rfl rfl hr2
      have hna := not_mem_of_deeper (n := PyData.depthAll ds) rd (by simp only [PyData.depth]; omega) hb
      refine ⟨_ :: bs, _, ReadAtMost.cons rd (by simp only [PyData.depth]; omega) hb, rd, ?_⟩
      simp only [PyData.depth, PyData.shown]
      cases its with
      | nil =>
        cases hr
        simp only [PyData.shownAll, listText_nil]
        exact ReprK.listEmpty ho rfl rfl
      | cons x l => exact ReprK.list ho rfl rfl hna (by simpa using hk.length_eq) (fun i y e => hk.item i y (by simpa using e))
  | .tuple ds, _, _, h, r, hs, hz => by
    cases h with
    | tup e ha =>
      cases r
      have hz2 : (tupleText (PyData.shownAll ds)).length ≤ sizeLine := by simpa only [PyData.shown] using hz
      obtain ⟨_, its, rv, o, ho, hc, n, hd⟩ := I.hok _ _ e
      obtain ⟨bs, as, hb, hr, hk⟩ := DqAll.rep I ds _ its ha rv (by simpa [PyData.showable] using hs) (fun t ht => Nat.le_trans (tupleText_mem_le ht) hz2)
      have hr2 : ReadsAll s.heap its.toArray.toList ds as := hr
      have rd := Reads.tuple ho hc hd hr2
      have hna := not_mem_of_deeper (n := PyData.depthAll ds) rd (by simp only [PyData.depth]; omega) hb
      refine ⟨_ :: bs, _, ReadAtMost.cons rd (by simp only [PyData.depth]; omega) hb, rd, ?_⟩
      simp only [PyData.depth, PyData.shown]
      exact ReprK.tuple ho hc hd hna hk
  | .dict kvs, _, _, h, r, hs, hz => by
    cases h with
    | dct e =>
      cases r
      obtain ⟨_, hsys, vs, hv, o, es, ep, ho, hx, hd, hes⟩ := I.hok _ _ e
      have hv0 : vs = [] := by
        cases hv
        rfl
      subst hv0
      have he : es = #[] := by
        have h2 := hes.2.1
        cases hq : es.toList with
        | nil => simpa using hq
        | cons e r =>
          rw [hq] at h2
          cases h2
      subst he
      have rd := Reads.dict (kvs := []) ho hx.1 hd ReadsAll.nil ReadsAll.nil
      refine ⟨_ :: [], _, ReadAtMost.cons (n := 0) rd (Nat.zero_le _) (fun _ h => nomatch h), rd, ?_⟩
      simp only [PyData.depth, PyData.depthKv, PyData.shown, PyData.shownKv]
      exact ReprK.dict ho hx.1 hd hsys (fun z => nomatch z) .nil
theorem DqAll.rep (I : Inv X pins σ H s) : ∀ (ds : List PyData) (vs : List V) (us : List Value), DqAll D B H vs ds → Vals vs us → PyData.showableAll ds = true → (∀ t ∈ PyData.shownAll ds, t.length ≤ sizeLine) →
    ∃ bs as, ReadAtMost s.heap (PyData.depthAll ds) bs ∧ ReadsAll s.heap us ds as ∧ ReprAllK X.prog X.w bs s.heap (PyData.depthAll ds) us (PyData.shownAll ds)
  | [], _, _, h, r, _, _ => by
    cases h
    cases r
    exact ⟨[], [], (fun _ h => nomatch h), .nil, by simp only [PyData.shownAll]; exact .nil⟩
  | d :: ds, _, _, h, r, hs, hz => by
    have hs2 : d.showable = true ∧ PyData.showableAll ds = true := by simpa [PyData.showableAll] using hs
    cases h with
    | cons h1 h2 =>
      cases r with
      | cons r1 r2 =>
        obtain ⟨b1, a1, hb1, q1, k1⟩ := Dq.rep I d _ _ h1 r1 hs2.1 (hz _ (by simp [PyData.shownAll]))
        obtain ⟨b2, a2, hb2, q2, k2⟩ := DqAll.rep I ds _ _ h2 r2 hs2.2 (fun t ht => hz t (by simp [PyData.shownAll, ht]))
        refine ⟨b1 ++ b2, a1 ++ a2, ?_, .cons q1 q2, ?_⟩
        · simp only [PyData.depthAll]
          exact (hb1.mono (Nat.le_max_left _ _)).append (hb2.mono (Nat.le_max_right _ _))
        · simp only [PyData.depthAll, PyData.shownAll]
          exact .cons ((k1.more fun b hb => List.mem_append_left _ hb).level_le (Nat.le_max_left _ _)) (k2.more_le (fun b hb => List.mem_append_right _ hb) (Nat.le_max_right _ _))
end
/-- repr(x), x data: what is shown of it -/
def rRepr : List V → Hp → VK → Prop := fun xs H Q => ∃ (D B : Addr) (v : V) (d : PyData), xs = [v] ∧ Dq D B H v d ∧ d.showable = true ∧ d.shown.length ≤ sizeLine ∧ d.depth ≤ 60 ∧ Q (.str d.shown) H
theorem call_reprD {X : Cx} (hg : X.A.guards = some []) (hu : X.A.units + 64 < cLine) : CallR X (.builtin "repr") rRepr := by
  intro pins s σ H xs us Q I r h
  obtain ⟨D, B, v, d, rfl, hd, hs, hz, hdp, q⟩ := h
  obtain ⟨u, rfl, ru⟩ := vals1 r
  have fin : ∀ (x : Str), x = d.shown → ∀ (h' : Heap) (t : Tok) (tk : Nat), (∀ b o, s.heap.get? b = some o → h'.get? b = some o) → EP X pins σ Q (.str x t) { s with heap := h', toks := tk } := fun x e h' t tk k => by
    subst e
    exact ⟨.str d.shown, H, I.kept (t' := tk) k, ⟨_, rfl⟩, q⟩
  cases hd with
  | non =>
    cases ru
    exact PySem.P.repr_of_none (fin _ (by simp only [PyData.shown]) _ _ _ fun _ _ z => z)
  | bl b =>
    cases ru
    exact PySem.P.repr_of_bool (fin _ (by simp only [PyData.shown]) _ _ _ fun _ _ z => z)
  | int i =>
    obtain ⟨t, rfl⟩ := ru
    exact PySem.P.repr_of_int (by simpa [PyData.showable] using hs) (fin _ (by simp only [PyData.shown]) _ _ _ fun _ _ z => z)
  | str x =>
    obtain ⟨t, rfl⟩ := ru
    exact PySem.P.repr_of_str (fin _ (by simp only [PyData.shown]) _ _ _ fun _ _ z => z) (by simpa only [PyData.shown] using hz)
  | @lst a xs ds _ _ e ha =>
    cases ru
    simp only [PyData.depth] at hdp
    have hz2 : (listText (PyData.shownAll ds)).length ≤ sizeLine := by simpa only [PyData.shown] using hz
    obtain ⟨_, its, n, rv, ho⟩ := I.hok _ _ e
    obtain ⟨bs, as, hb, hr, hk⟩ := DqAll.rep I ds _ its ha rv (by simpa [PyData.showable] using hs) (fun t ht => Nat.le_trans (listText_mem_le ht) hz2)
    have hr2 : ReadsAll s.heap its.toArray.toList ds as := hr
    have hna := not_mem_of_deeper (n := PyData.depthAll ds) (Reads.list ho rfl rfl hr2) (by simp only [PyData.depth]; omega) hb
    refine call_repr_slot (by omega) ⟨_, ho, rfl⟩ F.slot_list_repr.toG ?_
    cases its with
    | nil =>
      cases hr
      exact call_list_repr_empty ⟨_, ho, rfl⟩ ho rfl ⟨_, _, rfl, fin _ (by simp only [PyData.shown, PyData.shownAll, listText_nil]) _ _ _ fun _ _ z => z⟩
    | cons x l =>
      exact call_list_reprK ho rfl rfl hna (by simpa using hk.length_eq) (fun i y e => hk.item i y (by simpa using e)) hg (fun b _ => Clear.nil b) (by show X.A.units + 1 + _ < _; omega) (fun _ _ z => z)
        (fun h' t tk k => ⟨_, _, rfl, fin _ (by simp only [PyData.shown]) _ _ _ k⟩) hz2
  | @tup a xs ds e ha =>
    cases ru
    simp only [PyData.depth] at hdp
    have hz2 : (tupleText (PyData.shownAll ds)).length ≤ sizeLine := by simpa only [PyData.shown] using hz
    obtain ⟨_, its, rv, o, ho, hc, n, hd⟩ := I.hok _ _ e
    obtain ⟨bs, as, hb, hr, hk⟩ := DqAll.rep I ds _ its ha rv (by simpa [PyData.showable] using hs) (fun t ht => Nat.le_trans (tupleText_mem_le ht) hz2)
    have hr2 : ReadsAll s.heap its.toArray.toList ds as := hr
    have hna := not_mem_of_deeper (n := PyData.depthAll ds) (Reads.tuple ho hc hd hr2) (by simp only [PyData.depth]; omega) hb
    refine call_repr_slot (by omega) ⟨_, ho, hc⟩ F.slot_tuple_repr ?_
    exact call_tuple_reprK ho hc hd hna hk hg (fun b _ => Clear.nil b) (by show X.A.units + 1 + _ < _; omega) (fun _ _ z => z)
      (fun h' t tk k => ⟨_, _, rfl, fin _ (by simp only [PyData.shown]) _ _ _ k⟩) hz2
  | dct e =>
    cases ru
    have ho0 := Dq.rep (D := D) (B := B) I _ _ _ (.dct e) rfl hs hz
    obtain ⟨_, hsys, vs, hv, o, es, ep, ho, hx, hd, hes⟩ := I.hok _ _ e
    have he : es = #[] := by
      have h2 := hes.2.1
      cases hv
      cases hq : es.toList with
      | nil => simpa using hq
      | cons e r =>
        rw [hq] at h2
        cases h2
    subst he
    refine call_repr_slot (by omega) ⟨_, ho, hx.1⟩ F.slot_dict_repr ?_
    exact call_dict_reprK (d := 0) (as := []) ho hx.1 hd hsys (fun z => nomatch z) .nil hg (fun b _ => Clear.nil b) (by show X.A.units + 1 + _ < _; omega) (fun _ _ z => z)
      (fun h' t tk k => ⟨_, _, rfl, fin _ (by simp only [PyData.shown, PyData.shownKv]) _ _ _ k⟩) (by simpa only [PyData.shown, PyData.shownKv] using hz)
end
end Jg
namespace Jg
open PySem PySem.Spec PyProof.Rows L2
/-- a def's promise where no repr is under way around its call -/
def RunG (P : Program) (w : World) (K : PySem.W.Frag) (mg : Str → Option Value) (base : Heap) (k : Nat) (f : Addr) (fd : FuncData) (ps : List Str) (sp : Sp) : Prop :=
  ∀ (Ar : Around) (out : List Env) (s0 : Shared) (H : Hp) (ar : Args) (us : List Value) (vs : List V) (Q : VK) (E : XK), Ar.guards = some [] → Room k Ar → Env0 P w K mg base Ar out s0 H → BindsTo s0 fd ar (ps.zip us) → Vals vs us → sp vs H Q E →
    codeAny (model P w) Ar (.call (.ref f) ar) (CR CX0 out P w H s0 Q E) s0
theorem runG_of {P : Program} {w : World} {K : PySem.W.Frag} {mg : Str → Option Value} {base : Heap} {k : Nat} {x qual : Str} {st : Stmt} {f : Addr} {fd : FuncData} {N ps : List Str} {sp : Sp} (F : Fun K x qual st f fd) (S : FnScope N ps (defScope st)) (len : ∀ vs H Q E, sp vs H Q E → vs.length = ps.length)
    (hb : ∀ (cdv : Value) (Ar : Around) (out : List Env) (s0 : Shared) (H : Hp) (vs : List V) (Q : VK) (E : XK), (Ar.deeper (envOfC qual (defScope st) s0.heap.objs.size f cdv)).guards = some [] → Room k (Ar.deeper (envOfC qual (defScope st) s0.heap.objs.size f cdv)) → sp vs H Q E →
      ∃ t, PSs (cxOf CX0 P w K mg base N qual (defScope st) f cdv Ar out s0 H E).nox (defBody st) t ∧ t { nx := fun _ H1 => Q .non H1, rt := Q } (start N vs) H) : RunG P w K mg base (k + 1) f fd ps sp := by
  obtain ⟨oc, od, kV, doc, pm, an, cdv, ct, osl, rfl, lk, hcd⟩ := F.ex
  intro Ar out s0 H ar us vs Q E hg hr e0 bd rv hsp
  have KX : K.In s0.heap := e0.mod.kin.keeps fun b o z => (e0.bs b o z).1
  have NL : s0.heap.NoLimit := e0.mod.nolimit.keeps fun b o z => (e0.bs b o z).1
  have kinds : ∀ y ∈ ps.zip us, (defScope st).names.lookup y.1 = some .local ∨ ((defScope st).names.lookup y.1 = some .cell ∧ ((cellsFrom (s0.heap.objs.size + 1) (defScope st).names []).lookup y.1).isSome = true) := by
    rintro ⟨n, v⟩ hy
    cases S.par n (List.of_mem_zip hy).1 with
    | inl q => exact .inl q
    | inr q => exact .inr ⟨q, PySem.W.cellsFrom_some _ _ _ (.inl q)⟩
  refine codeAny_call_function hr.depth (KX _ _ lk) rfl S.co S.gen rfl (PySem.W.codeRec_of KX hcd) (bd _ _ _ _ (wpAny_newFunctionEnv_cells S.kind kinds fun env he s1 ic => ?_))
  subst he
  refine ⟨NL.keeps ic.toInCall.keep, codeAny_func ?_⟩
  obtain ⟨t, ht, hq⟩ := hb cdv Ar out s0 H vs Q E hg (hr.deeper _) hsp
  have I0 : Inv (cxOf CX0 P w K mg base N qual (defScope st) f cdv Ar out s0 H E) [] (start N vs) H s1 := inv_start S hr.hd e0 (len _ _ _ _ hsp) rv ic
  refine wpAny_mono (ht.nox.run [] s1 (start N vs) H _ I0 hq) (fun fl s2 hs => ?_) fun e s2 hs => hs
  cases fl with
  | ret u =>
    obtain ⟨v, σ2, H2, J, ru, q⟩ := hs
    exact ⟨v, H2, J.os, J.bare, J.base, J.hok, ru, q⟩
  | next =>
    obtain ⟨σ2, H2, J, q⟩ := hs
    exact ⟨V.non, H2, J.os, J.bare, J.base, J.hok, rfl, q⟩
  | brk =>
    obtain ⟨_, _, _, q⟩ := hs
    exact False.elim q
  | cont =>
    obtain ⟨_, _, _, q⟩ := hs
    exact False.elim q
end Jg
namespace Jg
open PySem PySem.Spec PyProof.Rows L2
/-- the heap in which at most the script at a is told: a list of ns -/
def onlyAt (a : Addr) (o : Obj) (ns : List Int) : Hp := fun b => if b = a then some (.frz o (.lst (ns.map V.int))) else none
theorem law_runG {P : Program} {w : World} {K : PySem.W.Frag} {mg mb : Str → Option Value} {k : Nat} {fa a : Addr} {fd : FuncData} {x : Str} {sp : Sp} {s1 : Shared} {vs : List Value} {ns : List Int}
    (KX : K.In s1.heap) (hns : s1.heap.Ns mainGlobals mg) (hb : s1.heap.Ns builtinsNs mb) (hbb : ∀ x : Str, x ≠ "__name__" → mb x = bootBuiltins x) (hlim : s1.heap.NoLimit) (hg : s1.gens = #[])
    (ha : s1.heap.get? a = some { cls := .type "list", data := .seq vs.toArray }) (hi : IntsAre vs ns) (hl : ns.length ≤ sizeLine) (hr : Room k callerA)
    (F : ∀ base : Heap, K.In base → base.Ns mainGlobals mg → RunG P w K mg base k fa fd [x] sp) (hbind : ∀ (s : Shared) (u : Value), BindsTo s fd ⟨[u], []⟩ [(x, u)])
    (hsp : ∀ H : Hp, Only H → SqL K H a (ns.map V.int) → sp [.ref a] H (fun v _ => v = .bl true) fun _ _ _ => False) :
    codeAny (model P w) callerA (.call (.ref fa) ⟨[.ref a], []⟩) (fun r s' => r = .ok (.ret (.bool true)) ∧ OldK s1.heap s'.heap ∧ s'.os = s1.os ∧ AllBare s'.gens) s1 := by
  have rv := vals_ints hi
  have nV := hi.length
  have main : ∀ H : Hp, Only H → SqL K H a (ns.map V.int) → HOk P w H s1.heap → (∀ b, H b ≠ none → b = a) → (H a ≠ none → K.lookup a = none) →
      codeAny (model P w) callerA (.call (.ref fa) ⟨[.ref a], []⟩) (fun r s' => r = .ok (.ret (.bool true)) ∧ OldK s1.heap s'.heap ∧ s'.os = s1.os ∧ AllBare s'.gens) s1 := by
    intro H hO hS hok hA hK
    have here : ∀ {b : Addr} {o : Obj}, s1.heap.get? b = some o → H b = none → (hidT s1.heap H).get? b = some o := fun e n => hidT_get e n
    have free_of : ∀ {b : Addr}, (b = a → False) → H b = none := fun {b} nb => by
      cases q : H b with
      | none => rfl
      | some u => exact (nb (hA b (by rw [q]; simp))).elim
    have nsK : ∀ {b : Addr} {m : Str → Option Value}, s1.heap.Ns b m → (hidT s1.heap H).Ns b m := by
      rintro b m ⟨o, es, ep, e, d, r⟩
      refine ⟨o, es, ep, here e (free_of fun z => ?_), d, r⟩
      subst z
      rw [ha] at e
      cases e
      cases d
    have hKb : K.In (hidT s1.heap H) := by
      intro b o e
      refine here (KX b o e) ?_
      cases q : H b with
      | none => rfl
      | some u =>
        have z := hA b (by rw [q]; simp)
        subst z
        rw [hK (by rw [q]; simp)] at e
        cases e
    obtain ⟨mc, l1, l2⟩ := hlim
    have e0 : Env0 P w K mg (hidT s1.heap H) callerA [] s1 H :=
      ⟨rfl, ⟨hKb, nsK hns, ⟨mb, nsK hb, hbb⟩, ⟨mc, nsK l1, l2⟩⟩, fun b o e => of_hidT e, Nat.le_of_eq (hidT_size _ _), trivial, fun b hb => absurd (show b ∈ ([] : List Addr) from hb) (by simp), hok, .of_eq hg⟩
    refine codeAny_mono (F _ hKb (nsK hns) callerA [] s1 H ⟨[.ref a], []⟩ [.ref a] [.ref a] _ _ rfl hr e0 (hbind s1 (.ref a)) (.cons rfl .nil) (hsp H hO hS)) fun r s2 h => ?_
    cases r with
    | error e => exact False.elim h
    | ok fl =>
      cases fl with
      | next => exact False.elim h
      | brk => exact False.elim h
      | cont => exact False.elim h
      | ret u =>
        obtain ⟨v, H2, os, bare, un, hok2, ru, q⟩ := h
        have qv : v = .bl true := q
        subst qv
        have ru2 : u = Value.bool true := ru
        subst ru2
        refine ⟨rfl, OldK.of_keep fun b o e => ?_, os, bare⟩
        cases q : H b with
        | none => exact un.keep b o e q (fun z => absurd (show b ∈ ([] : List Addr) from z) (by simp)) (by simp)
        | some u =>
          cases hO b with
          | inl z =>
            rw [q] at z
            cases z
          | inr z =>
            obtain ⟨ob, xs, z⟩ := z
            obtain ⟨e1, _⟩ := hok b _ z
            obtain ⟨e2, _⟩ := hok2 b _ (un.frzs b ob _ z)
            rw [e] at e1
            cases e1
            exact e2
  cases hk : K.lookup a with
  | some o =>
    have e := KX a o hk
    rw [ha] at e
    cases e
    exact main (fun _ => none) (fun _ => .inl rfl) (.inr ⟨_, vs.toArray, _, hk, rfl, rfl, rfl, by rw [List.size_toArray, nV]; exact hl, by simpa using rv⟩) (fun b u z => absurd (show (none : Option HO) = some u from z) (by simp)) (fun b z => absurd rfl z) fun z => absurd rfl z
  | none =>
    refine main (onlyAt a { cls := .type "list", data := .seq vs.toArray } ns) (fun b => ?_) (.inl (.inr ⟨_, if_pos rfl⟩)) (fun b u z => ?_) (fun b z => ?_) fun _ => hk
    · by_cases hb : b = a
      · exact .inr ⟨_, _, if_pos hb⟩
      · exact .inl (if_neg hb)
    · by_cases hb : b = a
      · have z2 := (show some _ = some u from (if_pos hb).symm.trans z)
        cases z2
        subst hb
        exact ⟨ha, by rw [List.length_map]; exact hl, vs, _, rv, ha⟩
      · exact absurd ((if_neg hb).symm.trans z) (by simp)
    · by_cases hb : b = a
      · exact hb
      · exact absurd (if_neg hb) z
theorem walk_ofG {l : PySem.W.OpenLaw} {n k : Nat} {q : Program} {loose : List Str} {XP : (Str → Option Value) → Heap → Prop} {YP : World → Heap → Prop} {d : DefRec} {K : Params → PySem.W.Frag} {sp : World → Sp} {x : Str}
    (hn : l.most = some n) (hn2 : n ≤ sizeLine) (hdf : d.params.defaults = []) (hr : Room k callerA) (hY : ∀ (w : World) (h : Heap), YP w h → (K w.params).In h)
    (F : ∀ (w : World) (mg : Str → Option Value) (fa : Addr) (h : Heap), (K w.params).In h → h.Ns mainGlobals mg → mg d.name = some (.ref fa) →
      ∃ fd : FuncData, (∀ (s : Shared) (u : Value), BindsTo s fd ⟨[u], []⟩ [(x, u)]) ∧ ∀ base : Heap, (K w.params).In base → base.Ns mainGlobals mg → RunG l.prog w (K w.params) mg base k fa fd [x] (sp w))
    (hsp : ∀ (w : World) (H : Hp) (a : Addr) (ns : List Int), ns.length ≤ n → Only H → SqL (K w.params) H a (ns.map V.int) → sp w [.ref a] H (fun v _ => v = .bl true) fun _ _ _ => False) :
    PySem.W.WalkO q loose XP YP l.row.toRowW d [] (fun f vs => PySem.call f vs) := by
  refine Att.attach_call hn hdf fun w s0 s1 mg mb fa o pm cd doc a vs ns G Y ho hd hcd hmg hobj hints hlen hg => ?_
  obtain ⟨fd, hb, hF⟩ := F w mg fa _ (hY w _ Y) G.T.g hmg
  exact law_runG (hY w _ Y) G.T.g G.T.b G.T.builtins G.T.nolimit hg hobj hints (Nat.le_trans hlen hn2) hr hF hb fun H hO hS => hsp w H a ns hlen hO hS
end Jg
namespace Jg
open PySem PySem.Spec PyProof.Rows L2
/-! ### t[::-1], t a tuple -/
theorem adjust_back (n : Nat) : Builtin.Slice.sliceAdjust none none (-1) (n : Int) = ((n : Int) - 1, -1) := by
  unfold Builtin.Slice.sliceAdjust
  simp
theorem places_back (n : Nat) : Builtin.Slice.slicePlaces ((n : Int) - 1) (-1) (-1) = n := by
  unfold Builtin.Slice.slicePlaces
  have h1 : ¬ ((-1 : Int) > 0) := by decide
  simp only [h1, if_false]
  split
  · rw [show (- -1 : Int) = 1 by decide, Int.ediv_one]
    omega
  · omega
theorem fm_congr {α β : Type} {f g : α → Option β} : ∀ l : List α, (∀ m ∈ l, f m = g m) → l.filterMap f = l.filterMap g
  | [], _ => rfl
  | a :: l, h => by
    have e := fm_congr l fun m hm => h m (List.mem_cons_of_mem _ hm)
    simp only [List.filterMap_cons, h a List.mem_cons_self, e]
theorem pick_back {α : Type} (xs : Array α) : ((List.range xs.size).filterMap fun (m : Nat) => xs[(((xs.size : Nat) : Int) - 1 + (m : Int) * (-1)).toNat]?).toArray = xs.toList.reverse.toArray := by
  have e : (List.range xs.size).filterMap (fun (m : Nat) => xs[(((xs.size : Nat) : Int) - 1 + (m : Int) * (-1)).toNat]?) = ((List.range xs.size).map fun k => xs.size - 1 - k).filterMap (xs[·]?) := by
    rw [List.filterMap_map]
    refine fm_congr _ fun m hm => ?_
    have hl := List.mem_range.mp hm
    show xs[(((xs.size : Nat) : Int) - 1 + (m : Int) * (-1)).toNat]? = xs[xs.size - 1 - m]?
    rw [show (((xs.size : Nat) : Int) - 1 + (m : Int) * (-1)).toNat = xs.size - 1 - m by omega]
  rw [e, PySem.W.krv_range, List.filterMap_reverse, PySem.W.krv_all]
section
variable {prog : Program} {w : World} {A : Around} {E : Value → Shared → Prop} {s : Shared}
theorem applied_back {sl : Addr} {va vb vc : Value} {n : Nat} {Q : Int × Int × Nat → Shared → Prop} (hs : s.heap.IsSliceOf sl va vb vc) (pa : IsPart va none) (pb : IsPart vb none) (pc : IsPart vc (some (-1)))
    (h : Q ((n : Int) - 1, -1, n) s) : wpAny (model prog w) A (Builtin.Slice.sliceApplied (.ref sl) (pure (n : Int))) Q E s := by
  obtain ⟨os, hos, hcs, hds⟩ := id hs
  unfold Builtin.Slice.sliceApplied Builtin.Slice.sliceFields
  refine wpAny_bind (wpAny_bind (wpAny_field hos hds (x := va) rfl (wpAny_bind (wpAny_field hos hds (x := vb) rfl (wpAny_bind (wpAny_field hos hds (x := vc) rfl (wpAny_pure ?_)))))))
  refine wpAny_bind (HT.slicePart_ pc ?_)
  show wpAny _ _ (if ((-1 : Int) == 0) = true then _ else _) _ _ s
  rw [if_neg (by decide)]
  refine wpAny_bind (HT.slicePart_ pa (wpAny_bind (HT.slicePart_ pb (wpAny_bind (wpAny_pure ?_)))))
  show wpAny _ _ (match Builtin.Slice.sliceAdjust none none (-1) (n : Int) with | (lo, hi) => pure (lo, (-1 : Int), Builtin.Slice.slicePlaces lo hi (-1))) _ _ s
  rw [adjust_back n]
  show wpAny _ _ (pure ((n : Int) - 1, (-1 : Int), Builtin.Slice.slicePlaces ((n : Int) - 1) (-1) (-1))) _ _ s
  rw [places_back]
  exact wpAny_pure h
theorem getItem_back {t sl : Addr} {its : Array Value} {va vb vc : Value} {Q : Value → Shared → Prop} (ht : IsTup s.heap t its) (hs : s.heap.IsSliceOf sl va vb vc) (pa : IsPart va none) (pb : IsPart vb none) (pc : IsPart vc (some (-1)))
    (h : Q (.ref s.heap.objs.size) { s with heap := s.heap.push { cls := .type "tuple", data := .seq its.toList.reverse.toArray } }) (hz : its.size ≤ sizeLine) : wpAny (model prog w) A (getItem (.ref t) (.ref sl)) Q E s := by
  have ok : sizeOk (.seq its.toList.reverse.toArray) := by
    show its.toList.reverse.toArray.size ≤ sizeLine
    rw [List.size_toArray, List.length_reverse, Array.length_toList]
    exact hz
  obtain ⟨os, hos, hcs, hds⟩ := id hs
  have hTs : s.TypeIs (.ref sl) "slice" := ⟨os, hos, hcs⟩
  unfold getItem
  first | (with_reducible refine wpAny_holding ?_) | skip
  first | refine wpAny_bind (wpAny_pure ?_) | skip
  refine wpAny_bind (wpAny_sequenceKey ht.typeIs (by decide) (wpAny_bind (wpAny_callSpecial?_slot (name := Str.ofString "__getitem__") ht.typeIs PyProof.Rows.slot_tuple_getitem (wpAny_call_entry PyProof.Rows.slot_tuple_getitem ht.typeIs entry_tuple_getitem ?_ (args_tuple_getitem _ _)))))
  show wpAny _ _ (Builtin.Tuple.tupleItemsOf (.ref t) >>= _) _ _ s
  refine wpAny_bind (tupleItemsOf_ ht (wpAny_bind (wpAny_typeOf hTs ?_)))
  rw [if_pos (by decide)]
  refine wpAny_bind (applied_back hs pa pb pc ?_)
  have no : ¬ ((((its.size : Nat) : Int) - 1 == 0 && (-1 : Int) == 1 && its.size == its.size) = true) := by
    intro q
    rw [Bool.and_eq_true, Bool.and_eq_true] at q
    exact absurd q.1.2 (by decide)
  show wpAny _ _ (if (((its.size : Nat) : Int) - 1 == 0 && (-1 : Int) == 1 && its.size == its.size) = true then _ else _) _ _ s
  rw [if_neg no, pick_back]
  first
    | exact wpAny_bind (m := Builtin.Tuple.tupleExact _) (wpAny_newObj_type (wpAny_pure ⟨_, rfl, wpAny_pure h⟩) ok)
    | exact wpAny_bind (wpAny_bind (m := Builtin.Tuple.tupleExact _) (wpAny_newObj_type (wpAny_pure (wpAny_pure ⟨_, rfl, wpAny_pure h⟩)) ok))
    | exact wpAny_bind (m := Builtin.Tuple.tupleExact _) (wpAny_newObj_type (wpAny_bind (wpAny_pure (wpAny_pure ⟨_, rfl, wpAny_pure h⟩))) ok)
end
section
variable {X : Cx}
def tRevT (K : PySem.W.Frag) (te : TE) : TE := fun σ H Q => te σ H fun x H1 => ∃ a xs, x = .ref a ∧ SqT K H1 a xs ∧ ∀ p, H1 p = none → Q (.ref p) (upd H1 p (.tup xs.reverse))
theorem pe_revT {e : Expr} {te : TE} {k : Nat} {p1 p2 p3 pos : Pos} (he : PE X e te) : PE X (.Subscript e (.Slice none none (some (.UnaryOp .USub (.Constant (.int 1) k p1) p2)) p3) pos) (tRevT X.K te) := by
  refine ⟨fun pins s σ H Q I h => Subscript_ (thn (he.run pins s σ H _ I h) fun v s1 ⟨x, H1, I1, r1, a, xs, ex, hx, q⟩ => ?_)⟩
  subst ex
  cases r1
  have hst : PO X (some (.UnaryOp .USub (.Constant (.int 1) k p1) p2)) (tPart (tUn (rU fun i => .int (-i)) (tC (.int 1)))) := po_some (pe_un un_neg pe_int)
  refine wpAny_Slice (thn (po_none.run pins s1 σ H1 (fun o G => o = none ∧ G = H1) I1 ⟨rfl, rfl⟩) fun va s2 ⟨l, H2, I2, pa, el, e2⟩ => ?_)
  subst el e2
  refine thn (po_none.run pins s2 σ H2 (fun o G => o = none ∧ G = H2) I2 ⟨rfl, rfl⟩) fun vb s3 ⟨u, H3, I3, pb, eu, e3⟩ => ?_
  subst eu e3
  refine thn (hst.run pins s3 σ H3 (fun o G => o = some (-1) ∧ G = H3) I3 ⟨1, rfl, -1, rfl, rfl, rfl⟩) fun vc s4 ⟨o, H4, I4, pc, eo, e4⟩ => ?_
  subst eo e4
  have I5 : Inv X pins σ H4 { s4 with heap := s4.heap.push { cls := .type "slice", data := .fields #[va, vb, vc] } } := I4.kept (t' := s4.toks) fun b ob z => Heap.get?_push_of_some _ z
  obtain ⟨its, r, ht, hz⟩ := I5.tuple hx
  have hl := r.length
  show wpAny (model X.prog X.w) X.A (subscriptTail e (.Slice none none (some (.UnaryOp .USub (.Constant (.int 1) k p1) p2)) p3) (.ref a) (.ref s4.heap.objs.size)) (EP X pins σ Q) X.xe { s4 with heap := s4.heap.push { cls := .type "slice", data := .fields #[va, vb, vc] } }
  refine tail_any (ops := [.ref a, .ref s4.heap.objs.size]) ht.typeIs (PyProof.Rows.slot_tuple_getitem.lookup) ?_ (by with_unfolding_all rfl)
  refine getItem_back ht (Heap.IsSliceOf.new _ va vb vc) pa pb pc ?_ (by rw [List.size_toArray]; omega)
  refine ⟨.ref _, _, I5.laid (t' := s4.toks) (o := .tup xs.reverse) (fun b ob z => Heap.get?_push_of_some _ z) (Nat.le_refl _) ?_, rfl, q _ (I5.hok.fresh (Nat.le_refl _))⟩
  exact ⟨by rw [List.length_reverse]; exact hz, _, r.reverse, IsTup.new _ _⟩
end
end Jg
namespace Jg
open PySem PySem.Spec PyProof.Rows L2
abbrev sDeck : Stmt := topS 52
abbrev sDraw : Stmt := topS 53
abbrev sOne : Stmt := topS 54
abbrev nDeck : List Str := ["_law_script", "_law_cells", "_law_cell"]
abbrev nDraw : List Str := ["_law_deck_here", "_law_many", "_law_rest", "_law_cell", "_law_mixed"]
abbrev nOne : List Str := ["_law_deck_here", "_law_items"]
theorem scDeck : FnScope nDeck ["_law_script"] (defScope sDeck) := ⟨rfl, rfl, rfl, by decide +kernel, rfl, by decide +kernel, by decide +kernel⟩
theorem scDraw : FnScope nDraw ["_law_deck_here", "_law_many"] (defScope sDraw) := ⟨rfl, rfl, rfl, by decide +kernel, rfl, by decide +kernel, by decide +kernel⟩
theorem scOne : FnScope nOne ["_law_deck_here", "_law_items"] (defScope sOne) := ⟨rfl, rfl, rfl, by decide +kernel, rfl, by decide +kernel, by decide +kernel⟩
/-! ### data of ints -/
theorem lay_ints : ∀ ns : List Int, PyData.canLayAll0 (ns.map PyData.int) = true
  | [] => by simp [PyData.canLayAll0]
  | n :: ns => by simp [PyData.canLayAll0, PyData.canLay0, lay_ints ns]
theorem dep_ints : ∀ ns : List Int, PyData.depthAll (ns.map PyData.int) ≤ 1
  | [] => by simp [PyData.depthAll]
  | n :: ns => by
    have h := dep_ints ns
    simp only [List.map_cons, PyData.depthAll, PyData.depth]
    omega
theorem shaped_ints (ns : List Int) : SeqAt.shaped (.list (ns.map PyData.int)) = true := by
  have h1 := dep_ints ns
  have h2 : PyData.depth (.list (ns.map PyData.int)) ≤ 64 := by
    simp only [PyData.depth]
    omega
  show (PyData.canLay0 (.list (ns.map PyData.int)) && decide (PyData.depth (.list (ns.map PyData.int)) ≤ 64)) = true
  rw [Bool.and_eq_true]
  exact ⟨by simp only [PyData.canLay0]; exact lay_ints ns, decide_eq_true h2⟩
theorem dp_ints {K : PySem.W.Frag} {H : Hp} : ∀ ns : List Int, DpAll K H (ns.map V.int) (ns.map PyData.int)
  | [] => .nil
  | n :: ns => .cons (.int n) (dp_ints ns)
/-! ### the deck -/
/-- the deck at D: its great cells at B, its cells at C, a count -/
structure DeckAt (D B C : Addr) (cells : List Int) (H : Hp) : Prop where
  db : D ≠ B
  dc : D ≠ C
  bc : B ≠ C
  ne : cells ≠ []
  len : cells.length ≤ 64
  top : ∃ n : Int, H D = some (.lst [.ref B, .ref C, .int n])
  big : ∃ bigs : List Int, bigs.length ≤ 63 ∧ H B = some (.lst (bigs.map V.int))
  cel : H C = some (.lst (cells.map V.int))
theorem Fr.refl (D B : Addr) (H : Hp) : Fr D B H H := fun _ _ _ _ h => h
theorem Fr.trans {D B : Addr} {H H1 H2 : Hp} (a : Fr D B H H1) (b : Fr D B H1 H2) : Fr D B H H2 := fun c o h1 h2 h => b c o h1 h2 (a c o h1 h2 h)
theorem Fr.of_same {D B : Addr} {H H' : Hp} (s : Same H H') : Fr D B H H' := fun b o _ _ h => s b o h
theorem same_upd {H : Hp} {p : Addr} {o : HO} (h : H p = none) : Same H (upd H p o) := fun b x e => by
  rw [upd_ne (ne_of_none e h)]
  exact e
theorem DeckAt.same {D B C : Addr} {cells : List Int} {H H' : Hp} (d : DeckAt D B C cells H) (s : Same H H') : DeckAt D B C cells H' := by
  obtain ⟨n, hn⟩ := d.top
  obtain ⟨bs, hl, hb⟩ := d.big
  exact ⟨d.db, d.dc, d.bc, d.ne, d.len, ⟨n, s _ _ hn⟩, ⟨bs, hl, s _ _ hb⟩, s _ _ d.cel⟩
def spDraw : Sp := fun vs H Q _ => ∃ (D B C : Addr) (cells : List Int) (m : Int), vs = [.ref D, .int m] ∧ DeckAt D B C cells H ∧ 0 < m ∧ m < 1073741824 ∧
  ∀ (i : Int) (H' : Hp), 0 ≤ i → i < m → DeckAt D B C cells H' → Fr D B H H' → Q (.int i) H'
section
variable {P : Program} {w : World} {K : PySem.W.Frag} {mg : Str → Option Value} {base : Heap}
theorem ok_draw {f : Addr} {fd : FuncData} (F : Fun K "_law_draw" "_law_draw" sDraw f fd) (mi : mg "int" = none) (ml : mg "len" = none) : FnOk P w K mg base CX0 1 f fd ["_law_deck_here", "_law_many"] spDraw := by
  refine F.ok scDraw (fun vs H Q E h => ?_) (fun cdv A outer s H vs Q E hr h => ?_)
  · obtain ⟨D, B, C, cells, m, rfl, _⟩ := h
    rfl
  · obtain ⟨D, B, C, cells, m, rfl, dk, hm0, hm1, q⟩ := h
    have hu := hr.units
    refine ⟨_, pss_cons (ps_if (pt_cmpR (op_neD hu) (pe_ix ix_list (pv 0) pe_int (fun _ _ => rfl)) (pe_lst pa_nil) (nomark _))
        (pss_cons (ps_set (i := 2) scDraw.nd rfl (.inl rfl) (pe_ix ix_list (pe_ix ix_list (pv 0) pe_int (fun _ _ => rfl)) pe_int (fun _ _ => rfl)))
        (pss_cons (ps_asg (pe_op op_fdiv (pv 2) (pv 1)) (pg_sub (pe_ix ix_list (pv 0) pe_int (fun _ _ => rfl)) pe_int set_list))
        (pss_cons (ps_if (pt_cmpR op_eq (pe_ix ix_list (pe_ix ix_list (pv 0) pe_int (fun _ _ => rfl)) pe_int (fun _ _ => rfl)) pe_int (nomark _))
          (pss_one (ps_expr (pe_bm PySem.F.plainAttrs_list PySem.F.slot_list_pop PySem.F.type_list_pop mt_popAt (pe_ix ix_list (pv 0) pe_int (fun _ _ => rfl)) (pa_cons pe_int pa_nil)))) pss_nil)
        (pss_one (ps_ret (pe_op op_mod (pe_callTy call_int1 (by rfl) mi PyProof.Rows.boot_int (pa_cons (pv 2) pa_nil)) (pv 1))))))) pss_nil)
      (pss_cons (ps_asg (pe_op op_add (pe_ix ix_list (pv 0) pe_int (fun _ _ => rfl)) pe_int) (pg_sub (pv 0) pe_int set_list))
      (pss_cons (ps_set (i := 3) scDraw.nd rfl (.inl rfl) (pe_ix ix_list (pe_ix ix_list (pv 0) pe_int (fun _ _ => rfl)) (pe_op op_mod (pe_callTy call_int1 (by rfl) mi PyProof.Rows.boot_int (pa_cons (pe_ix ix_list (pv 0) pe_int (fun _ _ => rfl)) pa_nil)) (pe_callB call_len_seq (by rfl) ml PySem.boot_len (pa_cons (pe_ix ix_list (pv 0) pe_int (fun _ _ => rfl)) pa_nil))) (fun _ _ => rfl)))
      (pss_cons (ps_set (i := 4) scDraw.nd rfl (.inl rfl) (pe_op op_mod (pe_callTy call_int1 (by rfl) mi PyProof.Rows.boot_int (pa_cons (pe_op op_add (pe_op op_mod (pe_callTy call_int1 (by rfl) mi PyProof.Rows.boot_int (pa_cons (pv 3) pa_nil)) pe_int) (pe_op op_mul pe_int (pe_ix ix_list (pv 0) pe_int (fun _ _ => rfl)))) pa_nil)) pe_int))
      (pss_cons (ps_set (i := 4) scDraw.nd rfl (.inl rfl) (pe_op op_mod (pe_callTy call_int1 (by rfl) mi PyProof.Rows.boot_int (pa_cons (pe_op op_add (pe_op op_mul (pv 4) (pv 4)) (pe_op op_mul pe_int (pe_ix ix_list (pv 0) pe_int (fun _ _ => rfl)))) pa_nil)) pe_int))
      (pss_one (ps_ret (pe_op op_mod (pe_op op_fdiv (pe_op op_mod (pe_callTy call_int1 (by rfl) mi PyProof.Rows.boot_int (pa_cons (pe_op op_mul (pv 4) (pv 4)) pa_nil)) pe_int) pe_int) (pv 1)))))))), ?_⟩
    obtain ⟨n, hD⟩ := dk.top
    obtain ⟨bigs, hbl, hB⟩ := dk.big
    have hC := dk.cel
    -- if deck[0] != []
    refine ⟨.ref D, rfl, D, _, 0, .ref B, rfl, rfl, SqL.of hD, atI_nat (j := 0) rfl, Nat.zero_le _, fun e ne => ?_⟩
    have s1 : Same H (upd H e (.lst [])) := same_upd ne
    have hD1 := s1 _ _ hD
    have hB1 := s1 _ _ hB
    have hC1 := s1 _ _ hC
    refine ⟨.list (bigs.map PyData.int), .list [], .lst (SqL.of hB1) (dp_ints bigs), .lst (SqL.of upd_same) .nil, shaped_ints bigs, shaped_ints [], _, rfl, ?_⟩
    cases bigs with
    | cons b0 bs =>
      refine iteT ?_
      -- rest = deck[0][0]
      refine ⟨.ref D, rfl, D, _, 0, .ref B, rfl, rfl, SqL.of hD1, atI_nat (j := 0) rfl, B, _, 0, .int b0, rfl, rfl, SqL.of hB1, atI_nat (j := 0) rfl, ?_⟩
      -- deck[0][0] = rest // many
      refine ⟨.int b0, rfl, .int m, rfl, _, _, rfl, rfl, ⟨hm0, hm1⟩, .ref D, rfl, D, _, 0, .ref B, rfl, rfl, SqL.of hD1, atI_nat (j := 0) rfl, B, _, 0, 0, rfl, rfl, hB1, by simp [ixN], ?_⟩
      have hB2 : (upd (upd H e (.lst [])) B (.lst (List.set ((b0 :: bs).map V.int) 0 (.int (b0 / m))))) B = some (.lst ((b0 / m :: bs).map V.int)) := upd_same
      have hD2 : (upd (upd H e (.lst [])) B (.lst (List.set ((b0 :: bs).map V.int) 0 (.int (b0 / m))))) D = some (.lst [.ref B, .ref C, .int n]) := by
        rw [upd_ne dk.db]
        exact hD1
      have hC2 : (upd (upd H e (.lst [])) B (.lst (List.set ((b0 :: bs).map V.int) 0 (.int (b0 / m))))) C = some (.lst (cells.map V.int)) := by
        rw [upd_ne dk.bc.symm]
        exact hC1
      have f2 : Fr D B H (upd (upd H e (.lst [])) B (.lst (List.set ((b0 :: bs).map V.int) 0 (.int (b0 / m))))) := fun b o h1 h2 h => by
        rw [upd_ne h2]
        exact s1 _ _ h
      have q0 : (0 : Int) ≤ b0 % m := Int.emod_nonneg _ (by omega)
      have q1 : b0 % m < m := Int.emod_lt_of_pos _ hm0
      generalize (upd (upd H e (.lst [])) B (.lst (List.set ((b0 :: bs).map V.int) 0 (.int (b0 / m))))) = H2 at hB2 hD2 hC2 f2 ⊢
      -- if deck[0][0] == 0
      refine ⟨.ref D, rfl, D, _, 0, .ref B, rfl, rfl, SqL.of hD2, atI_nat (j := 0) rfl, B, _, 0, .int (b0 / m), rfl, rfl, SqL.of hB2, atI_nat (j := 0) rfl, rfl, _, rfl, ite2 (fun _ => ?_) (fun _ => ?_)⟩
      · refine ⟨.ref D, rfl, D, _, 0, .ref B, rfl, rfl, SqL.of hD2, atI_nat (j := 0) rfl, .inl ⟨rfl, _, SqL.of hB2⟩, B, _, 0, 0, .int (b0 / m), rfl, rfl, hB2, by decide, by decide, by simp [seqIndex?], rfl, ?_⟩
        refine ⟨.int b0, rfl, .inl ⟨b0, rfl, .int m, rfl, _, _, rfl, rfl, hm0, q _ _ q0 q1 ⟨dk.db, dk.dc, dk.bc, dk.ne, dk.len, ⟨n, ?_⟩, ⟨bs, ?_, upd_same⟩, ?_⟩ fun b o h1 h2 h => ?_⟩⟩
        · rw [upd_ne dk.db]
          exact hD2
        · simp only [List.length_cons] at hbl
          omega
        · rw [upd_ne dk.bc.symm]
          exact hC2
        · rw [upd_ne h2]
          exact f2 b o h1 h2 h
      · exact ⟨.int b0, rfl, .inl ⟨b0, rfl, .int m, rfl, _, _, rfl, rfl, hm0, q _ _ q0 q1 ⟨dk.db, dk.dc, dk.bc, dk.ne, dk.len, ⟨n, hD2⟩, ⟨b0 / m :: bs, hbl, hB2⟩, hC2⟩ f2⟩⟩
    | nil =>
      refine iteF ?_
      -- deck[2] = deck[2] + 1
      refine ⟨.ref D, rfl, D, _, 2, .int n, rfl, rfl, SqL.of hD1, atI_nat (j := 2) rfl, _, _, rfl, rfl, .ref D, rfl, D, _, 2, 2, rfl, rfl, hD1, rfl, ?_⟩
      have hD2 : (upd (upd H e (.lst [])) D (.lst (List.set [.ref B, .ref C, .int n] 2 (.int (n + 1))))) D = some (.lst [.ref B, .ref C, .int (n + 1)]) := upd_same
      have hB2 : (upd (upd H e (.lst [])) D (.lst (List.set [.ref B, .ref C, .int n] 2 (.int (n + 1))))) B = some (.lst []) := by
        rw [upd_ne dk.db.symm]
        exact hB1
      have hC2 : (upd (upd H e (.lst [])) D (.lst (List.set [.ref B, .ref C, .int n] 2 (.int (n + 1))))) C = some (.lst (cells.map V.int)) := by
        rw [upd_ne dk.dc.symm]
        exact hC1
      have f2 : Fr D B H (upd (upd H e (.lst [])) D (.lst (List.set [.ref B, .ref C, .int n] 2 (.int (n + 1))))) := fun b o h1 h2 h => by
        rw [upd_ne h1]
        exact s1 _ _ h
      generalize (upd (upd H e (.lst [])) D (.lst (List.set [.ref B, .ref C, .int n] 2 (.int (n + 1))))) = H2 at hB2 hD2 hC2 f2 ⊢
      have dk2 : DeckAt D B C cells H2 := ⟨dk.db, dk.dc, dk.bc, dk.ne, dk.len, ⟨_, hD2⟩, ⟨[], by decide, hB2⟩, hC2⟩
      -- cell = deck[1][deck[2] % len(deck[1])]
      have hl0 : 0 < cells.length := List.length_pos_iff.mpr dk.ne
      have hlm : (((cells.map V.int).length : Nat) : Int) = (cells.length : Int) := by rw [List.length_map]
      have i0 : 0 ≤ (n + 1) % (cells.length : Int) := Int.emod_nonneg _ (by omega)
      have i1 : (n + 1) % (cells.length : Int) < (cells.length : Int) := Int.emod_lt_of_pos _ (by omega)
      obtain ⟨j, hj⟩ : ∃ j : Nat, (n + 1) % (cells.length : Int) = (j : Int) := ⟨((n + 1) % (cells.length : Int)).toNat, by omega⟩
      have hjl : j < cells.length := by omega
      have hget : (cells.map V.int)[j]? = some (.int cells[j]) := by
        rw [List.getElem?_map, List.getElem?_eq_getElem hjl]
        rfl
      have hix : atI (cells.map V.int) ((n + 1) % (((cells.map V.int).length : Nat) : Int)) = some (.int cells[j]) := by
        rw [hlm, hj]
        exact atI_nat hget
      refine ⟨.ref D, rfl, D, _, 1, .ref C, rfl, rfl, SqL.of hD2, atI_nat (j := 1) rfl, .ref D, rfl, D, _, 2, .int (n + 1), rfl, rfl, SqL.of hD2, atI_nat (j := 2) rfl, .inl ⟨n + 1, rfl, .ref D, rfl, D, _, 1, .ref C, rfl, rfl, SqL.of hD2, atI_nat (j := 1) rfl, C, _, rfl, .inl (SqL.of hC2), _, _, rfl, rfl, by rw [hlm]; omega, C, _, _, .int cells[j], rfl, rfl, SqL.of hC2, hix, ?_⟩⟩
      -- mixed
      refine ⟨.int cells[j], rfl, .inl ⟨cells[j], rfl, _, _, rfl, rfl, (by show (0 : Int) < 4294966297; decide), .ref D, rfl, D, _, 2, .int (n + 1), rfl, rfl, SqL.of hD2, atI_nat (j := 2) rfl, _, _, rfl, rfl, .inl ⟨by decide, by decide⟩, _, _, rfl, rfl, .inl ⟨_, rfl, _, _, rfl, rfl, (by show (0 : Int) < 4294966297; decide), ?_⟩⟩⟩
      have x0 : 0 ≤ (cells[j] % 4294966297 + 1640531527 * (n + 1)) % 4294966297 := Int.emod_nonneg _ (by decide)
      have x1 : (cells[j] % 4294966297 + 1640531527 * (n + 1)) % 4294966297 < 4294966297 := Int.emod_lt_of_pos _ (by decide)
      refine ⟨_, rfl, _, rfl, _, _, rfl, rfl, .inl ⟨Int.lt_of_lt_of_le (by decide) x0, Int.lt_trans x1 (by decide)⟩, .ref D, rfl, D, _, 2, .int (n + 1), rfl, rfl, SqL.of hD2, atI_nat (j := 2) rfl, _, _, rfl, rfl, .inl ⟨by decide, by decide⟩, _, _, rfl, rfl, .inl ⟨_, rfl, _, _, rfl, rfl, (by show (0 : Int) < 4294966237; decide), ?_⟩⟩
      have y0 : 0 ≤ ((cells[j] % 4294966297 + 1640531527 * (n + 1)) % 4294966297 * ((cells[j] % 4294966297 + 1640531527 * (n + 1)) % 4294966297) + 122949823 * (n + 1)) % 4294966237 := Int.emod_nonneg _ (by decide)
      have y1 : ((cells[j] % 4294966297 + 1640531527 * (n + 1)) % 4294966297 * ((cells[j] % 4294966297 + 1640531527 * (n + 1)) % 4294966297) + 122949823 * (n + 1)) % 4294966237 < 4294966237 := Int.emod_lt_of_pos _ (by decide)
      refine ⟨_, rfl, _, rfl, _, _, rfl, rfl, .inl ⟨Int.lt_of_lt_of_le (by decide) y0, Int.lt_trans y1 (by decide)⟩, .inl ⟨_, rfl, _, _, rfl, rfl, (by show (0 : Int) < 4294966187; decide), _, _, rfl, rfl, ⟨by decide, by decide⟩, .int m, rfl, _, _, rfl, rfl, hm0, q _ _ (Int.emod_nonneg _ (by omega)) (Int.emod_lt_of_pos _ hm0) dk2 f2⟩⟩
theorem sz1 {α : Type} {l : List α} (h : Nat.ble l.length 1000 = true) : l.length ≤ sizeLine := Nat.le_of_lt (small1000 (Nat.le_of_ble_eq_true h))
theorem tYes_if {σ : L2.St} {H : Hp} {T E : Hp → Prop} (h : T H) : tYes σ H (fun b H1 => if b = true then T H1 else E H1) := by
  show (if true = true then T H else E H)
  rw [if_pos rfl]
  exact h
def absI (i : Int) : Int := if i < 0 then -i else i
/-- law: the deck is made -/
def spDeck (K : PySem.W.Frag) : Sp := fun vs H Q _ => ∃ (a : Addr) (ns : List Int), vs = [.ref a] ∧ SqL K H a (ns.map V.int) ∧ ns.length ≤ 63 ∧
  ∀ (H' : Hp) (D B C : Addr) (cells : List Int), Same H H' → H D = none → H B = none → H C = none → DeckAt D B C cells H' → Q (.ref D) H'
theorem cut_ints (ns : List Int) (lo hi : Option Int) : ∃ ms : List Int, cutV (ns.map V.int) lo hi = ms.map V.int ∧ ms.length ≤ ns.length := by
  unfold cutV
  refine ⟨(ns.drop _).take _, by rw [List.map_take, List.map_drop], ?_⟩
  rw [List.length_take, List.length_drop]
  omega
theorem ok_deck {f : Addr} {fd : FuncData} (F : Fun K "_law_deck" "_law_deck" sDeck f fd) (ma : mg "abs" = none) (ml : mg "len" = none) : FnOk P w K mg base CX0 1 f fd ["_law_script"] (spDeck K) := by
  refine F.ok scDeck (fun vs H Q E h => ?_) (fun cdv A outer s H vs Q E hr h => ?_)
  · obtain ⟨a, ns, rfl, _⟩ := h
    rfl
  · obtain ⟨a, ns, rfl, hS, hn, q⟩ := h
    refine ⟨_, pss_cons (ps_setLc (i := 1) (own := [("_law_cell", 2)]) (g := gName 2) (tt := tYes) rfl scDeck.nd rfl rfl (sw_true rfl rfl rfl (by decide +kernel)) (pi_list (pe_slice sl_list (pv 0) po_none (po_some pe_int))) (blkOk_by (N := nDeck) (sc := defScope sDeck) (by decide +kernel))
        (fun _ _ _ _ _ => pg_name (i := 2) scDeck.nd rfl (.inl rfl)) (fun _ _ _ _ _ => pts_nil) (fun _ _ _ _ _ => pe_callB call_abs (by rfl) ma PyProof.Rows.boot_abs (pa_cons (pv 2) pa_nil)))
      (pss_one (ps_ret (pe_lst (pa_cons (pe_lc (own := [("_law_cell", 2)]) (g := gName 2) rfl scDeck.nd (pi_list (pv 1)) (blkOk_by (N := nDeck) (sc := defScope sDeck) (by decide +kernel))
          (fun _ _ _ _ _ => pg_name (i := 2) scDeck.nd rfl (.inl rfl)) (fun _ _ _ _ _ => pts_one (pt_cmpR op_ge (pv 2) (pe_op op_pow pe_int pe_int) (nomark _))) (fun _ _ _ _ _ => pv 2))
        (pa_cons (pe_op op_cat (pv 1) (pe_lst (pa_cons (pe_op op_add pe_int (pe_callB call_len_seq (by rfl) ml PySem.boot_len (pa_cons (pv 1) pa_nil))) pa_nil)))
        (pa_cons pe_int pa_nil)))))), ?_⟩
    obtain ⟨ms, hms, hml⟩ := cut_ints ns none (some 63)
    refine ⟨.ref a, rfl, 63, rfl, a, ns.map V.int, rfl, hS, fun c nc => ⟨c, rfl, ⟨_, SqL.of upd_same⟩, fun D1 nD1 => ?_⟩⟩
    rw [hms] at nD1 ⊢
    have s1 : Same H (upd H c (.lst (ms.map V.int))) := same_upd nc
    have s2 : Same (upd H c (.lst (ms.map V.int))) (upd (upd H c (.lst (ms.map V.int))) D1 (.lst [])) := same_upd nD1
    have nD1' : H D1 = none := s1.free nD1
    have nDc : D1 ≠ c := fun e => by
      rw [e, upd_same] at nD1
      cases nD1
    refine lc_list (K := K) (a := c) (xs := ms.map V.int) (fun i H3 => H3 D1 = some (.lst (((ms.take i).map absI).map V.int)) ∧ H3 c = some (.lst (ms.map V.int)) ∧ Same H H3) ⟨upd_same, ?_, s1.trans s2⟩ (fun i H3 _ h => SqL.of h.2.1) ?_ ?_
    · rw [upd_ne nDc.symm]
      exact upd_same
    · rintro i x H3 hi ⟨e1, e2, e3⟩
      have hil : i < ms.length := by
        have := (List.getElem?_eq_some_iff.mp hi).1
        rw [List.length_map] at this
        exact this
      have ex : x = .int ms[i] := by
        rw [List.getElem?_map, List.getElem?_eq_getElem hil] at hi
        exact (Option.some.inj hi).symm
      subst ex
      refine ⟨rfl, tYes_if ?_⟩
      refine ⟨_, rfl, ms[i], rfl, _, e1, ?_, ?_, ?_, ?_⟩
      · simp only [List.length_map, List.length_take]
        exact Nat.lt_of_le_of_lt (Nat.min_le_left _ _) (small1000 (by omega))
      · rw [upd_same, List.take_add_one, List.getElem?_eq_getElem hil, List.map_append, List.map_append]
        rfl
      · rw [upd_ne nDc.symm]
        exact e2
      · intro b o hb
        rw [upd_ne (ne_of_none hb nD1')]
        exact e3 b o hb
    · rintro H3 ⟨e1, e2, e3⟩
      rw [List.length_map, List.take_length] at e1
      refine ⟨_, rfl, D1, rfl, ⟨_, SqL.of e1⟩, fun D2 nD2 => ?_⟩
      have nDD : D2 ≠ D1 := fun e => by
        rw [e, e1] at nD2
        cases nD2
      have sB : Same H3 (upd H3 D2 (.lst [])) := same_upd nD2
      refine lc_list (K := K) (a := D1) (xs := (ms.map absI).map V.int) (fun i H4 => ∃ bs : List Int, bs.length ≤ i ∧ H4 D2 = some (.lst (bs.map V.int)) ∧ H4 D1 = some (.lst ((ms.map absI).map V.int)) ∧ Same H3 H4) ⟨[], Nat.le_refl _, upd_same, ?_, sB⟩ (fun i H3 _ ⟨_, _, _, h, _⟩ => SqL.of h) ?_ ?_
      · rw [upd_ne nDD.symm]
        exact e1
      · rintro i x H4 hi ⟨bs, hb, g1, g2, g3⟩
        obtain ⟨z, rfl⟩ : ∃ z, x = V.int z := by
          rw [List.getElem?_map] at hi
          cases e : (ms.map absI)[i]? with
          | none =>
            rw [e] at hi
            cases hi
          | some z =>
            rw [e] at hi
            exact ⟨z, (Option.some.inj hi).symm⟩
        have hil : i < (ms.map absI).length := by
          have := (List.getElem?_eq_some_iff.mp hi).1
          rw [List.length_map] at this
          exact this
        rw [List.length_map] at hil
        refine ⟨rfl, .int z, rfl, _, _, rfl, rfl, ⟨by decide, by decide, by decide⟩, _, _, rfl, rfl, _, rfl, ite2 (fun _ => ?_) (fun _ => ?_)⟩
        · refine ⟨_, rfl, _, g1, ?_, bs ++ [z], ?_, ?_, ?_, ?_⟩
          · rw [List.length_map]
            exact small1000 (by omega)
          · rw [List.length_append]
            show bs.length + 1 ≤ i + 1
            omega
          · rw [upd_same, List.map_append]
            rfl
          · rw [upd_ne nDD.symm]
            exact g2
          · intro b o hb
            rw [upd_ne (ne_of_none hb nD2)]
            exact g3 b o hb
        · exact ⟨bs, by omega, g1, g2, g3⟩
      · rintro H4 ⟨bs, hb, g1, g2, g3⟩
        rw [List.length_map, List.length_map] at hb
        refine ⟨_, rfl, _, rfl, D1, _, rfl, .inl (SqL.of g2), _, _, rfl, rfl, sz1 rfl, fun e ne => ?_⟩
        have s4 : Same H4 (upd H4 e (.lst [.int (11246 + (((ms.map absI).map V.int).length : Nat))])) := same_upd ne
        refine ⟨D1, e, _, _, rfl, rfl, s4 _ _ g2, upd_same, ?_, fun C nC => ?_⟩
        · rw [List.length_map, List.length_map]
          exact Nat.le_of_lt (small1000 (by simp only [List.length_singleton]; omega))
        refine ⟨sz1 rfl, fun D nD => ?_⟩
        have s5 := same_upd (o := .lst ((ms.map absI).map V.int ++ [.int (11246 + (((ms.map absI).map V.int).length : Nat))])) nC
        have s6 := same_upd (o := .lst [.ref D2, .ref C, .int 0]) nD
        have sE : Same H _ := e3.trans (g3.trans (s4.trans (s5.trans s6)))
        have n4 : H4 D = none := s4.free (s5.free nD)
        have n4C : H4 C = none := s4.free nC
        have hD2 : D2 ≠ D := ne_of_none g1 n4
        have hD2C : D2 ≠ C := ne_of_none g1 n4C
        have hDC : D ≠ C := fun z => by
          rw [z, upd_same] at nD
          cases nD
        refine q _ D D2 C ((ms.map absI) ++ [(11246 : Int) + ((((ms.map absI).map V.int).length : Nat) : Int)]) sE (e3.free (g3.free n4)) (e3.free nD2) (e3.free (g3.free n4C)) ⟨hD2.symm, hDC, hD2C, by simp, ?_, ⟨0, upd_same⟩, ⟨bs, by omega, s6 _ _ (s5 _ _ (s4 _ _ g1))⟩, ?_⟩
        · rw [List.length_append, List.length_map]
          show ms.length + 1 ≤ 64
          omega
        · rw [upd_ne hDC.symm, upd_same, List.map_append]
          rfl

theorem DeckAt.isD {D B C : Addr} {cells : List Int} {H : Hp} (d : DeckAt D B C cells H) : ∃ xs, H D = some (.lst xs) := by
  obtain ⟨n, hn⟩ := d.top
  exact ⟨_, hn⟩
theorem DeckAt.isB {D B C : Addr} {cells : List Int} {H : Hp} (d : DeckAt D B C cells H) : ∃ xs, H B = some (.lst xs) := by
  obtain ⟨bs, _, hb⟩ := d.big
  exact ⟨_, hb⟩
theorem DeckAt.data {D B C : Addr} {cells : List Int} {H H' : Hp} {v : V} {d : PyData} (k : DeckAt D B C cells H) (f : Fr D B H H') (h : Dq D B H v d) : Dq D B H' v d := Dq.keep k.isD k.isB f d v h
theorem DeckAt.dataAll {D B C : Addr} {cells : List Int} {H H' : Hp} {v : List V} {d : List PyData} (k : DeckAt D B C cells H) (f : Fr D B H H') (h : DqAll D B H v d) : DqAll D B H' v d := DqAll.keep k.isD k.isB f d v h
/-- one of the items of a list that is not the deck's -/
def spOne : Sp := fun vs H Q _ => ∃ (D B C : Addr) (cells : List Int) (L : Addr) (xs : List V), vs = [.ref D, .ref L] ∧ DeckAt D B C cells H ∧ H L = some (.lst xs) ∧ L ≠ D ∧ L ≠ B ∧ 0 < xs.length ∧ xs.length < 1073741824 ∧
  ∀ (i : Nat) (v : V) (H' : Hp), xs[i]? = some v → DeckAt D B C cells H' → Fr D B H H' → Q v H'
theorem ok_one {f fd' : Addr} {fd fdD : FuncData} (F : Fun K "_law_one" "_law_one" sOne f fd) (FD : Fun K "_law_draw" "_law_draw" sDraw fd' fdD) (bD : Binds K fdD ["_law_deck_here", "_law_many"] []) (gD : mg "_law_draw" = some (.ref fd')) (mi : mg "int" = none) (ml : mg "len" = none) :
    FnOk P w K mg base CX0 2 f fd ["_law_deck_here", "_law_items"] spOne := by
  have GD : FnOk P w K mg base CX0 1 fd' fdD ["_law_deck_here", "_law_many"] spDraw := ok_draw FD mi ml
  refine F.ok scOne (fun vs H Q E h => ?_) (fun cdv A outer s H vs Q E hr h => ?_)
  · obtain ⟨D, B, C, cells, L, xs, rfl, _⟩ := h
    rfl
  · obtain ⟨D, B, C, cells, L, xs, rfl, dk, hL, nD, nB, h0, h1, q⟩ := h
    refine ⟨_, pss_one (ps_ret (pe_ix ix_list (pv 1) (pe_call GD hr (by rfl) gD FD.kp bD .nil pass0 (pa_cons (pv 0) (pa_cons (pe_callB call_len_seq (by rfl) ml PySem.boot_len (pa_cons (pv 1) pa_nil)) pa_nil))) (fun _ _ => rfl))), ?_⟩
    refine ⟨_, rfl, _, rfl, _, rfl, L, xs, rfl, .inl (SqL.of hL), D, B, C, cells, _, rfl, dk, by omega, by omega, fun i H' i0 i1 dk' f' => ?_⟩
    have hL' := f' _ _ nD nB hL
    obtain ⟨j, rfl⟩ : ∃ j : Nat, i = (j : Int) := ⟨i.toNat, by omega⟩
    have hj : j < xs.length := by omega
    have hg : xs[j]? = some xs[j] := List.getElem?_eq_getElem hj
    exact ⟨L, xs, _, _, rfl, rfl, SqL.of hL', atI_nat hg, q j _ H' hg dk' f'⟩
end
end Jg
namespace Jg
open PySem PySem.Spec PyProof.Rows L2
/-! ### looks at data -/
def tyN : PyData → String
  | .none => "NoneType" | .bool _ => "bool" | .int _ => "int" | .str _ => "str" | .list _ => "list" | .tuple _ => "tuple" | .dict _ => "dict"
def isIB : PyData → Bool
  | .int _ => true | .bool _ => true | _ => false
def isBo : PyData → Bool
  | .bool _ => true | _ => false
def isIn : PyData → Bool
  | .int _ => true | _ => false
def isTu : PyData → Bool
  | .tuple _ => true | _ => false
def within (lo hi : Int) : PyData → Bool
  | .int i => decide (lo ≤ i) && decide (i ≤ hi) | _ => false
def tupOf (n : Int) : PyData → Bool
  | .tuple ds => decide ((ds.length : Int) = n) | _ => false
abbrev M20 : Int := 10 ^ 20
theorem Dq.ty {K : PySem.W.Frag} {D B : Addr} {H : Hp} {v : V} {d : PyData} (h : Dq D B H v d) : TyX K H v (.type (tyN d)) := by
  cases h with
  | non => exact .base .non
  | bl b => exact .base (.bl b)
  | int i => exact .base (.int i)
  | str x => exact .base (.str x)
  | lst _ _ e _ => exact .base (.lst e)
  | tup e _ => exact .base (.tup e)
  | dct e => exact .base (.dK e)
theorem kInt {K : PySem.W.Frag} : ∀ d : PyData, PySem.W.kitOne K (.type (tyN d)) (.type "int") = some (isIB d)
  | .none => kit_ty (a := "NoneType") (by show kitB "NoneType" "int" = some false; decide +kernel)
  | .bool _ => kit_ty (a := "bool") (by show kitB "bool" "int" = some true; decide +kernel)
  | .int _ => kit_ty (a := "int") (by show kitB "int" "int" = some true; decide +kernel)
  | .str _ => kit_ty (a := "str") (by show kitB "str" "int" = some false; decide +kernel)
  | .list _ => kit_ty (a := "list") (by show kitB "list" "int" = some false; decide +kernel)
  | .tuple _ => kit_ty (a := "tuple") (by show kitB "tuple" "int" = some false; decide +kernel)
  | .dict _ => kit_ty (a := "dict") (by show kitB "dict" "int" = some false; decide +kernel)
theorem kBool {K : PySem.W.Frag} : ∀ d : PyData, PySem.W.kitOne K (.type (tyN d)) (.type "bool") = some (isBo d)
  | .none => kit_ty (a := "NoneType") (by show kitB "NoneType" "bool" = some false; decide +kernel)
  | .bool _ => kit_ty (a := "bool") (by show kitB "bool" "bool" = some true; decide +kernel)
  | .int _ => kit_ty (a := "int") (by show kitB "int" "bool" = some false; decide +kernel)
  | .str _ => kit_ty (a := "str") (by show kitB "str" "bool" = some false; decide +kernel)
  | .list _ => kit_ty (a := "list") (by show kitB "list" "bool" = some false; decide +kernel)
  | .tuple _ => kit_ty (a := "tuple") (by show kitB "tuple" "bool" = some false; decide +kernel)
  | .dict _ => kit_ty (a := "dict") (by show kitB "dict" "bool" = some false; decide +kernel)
theorem kTup {K : PySem.W.Frag} : ∀ d : PyData, PySem.W.kitOne K (.type (tyN d)) (.type "tuple") = some (isTu d)
  | .none => kit_ty (a := "NoneType") (by show kitB "NoneType" "tuple" = some false; decide +kernel)
  | .bool _ => kit_ty (a := "bool") (by show kitB "bool" "tuple" = some false; decide +kernel)
  | .int _ => kit_ty (a := "int") (by show kitB "int" "tuple" = some false; decide +kernel)
  | .str _ => kit_ty (a := "str") (by show kitB "str" "tuple" = some false; decide +kernel)
  | .list _ => kit_ty (a := "list") (by show kitB "list" "tuple" = some false; decide +kernel)
  | .tuple _ => kit_ty (a := "tuple") (by show kitB "tuple" "tuple" = some true; decide +kernel)
  | .dict _ => kit_ty (a := "dict") (by show kitB "dict" "tuple" = some false; decide +kernel)
/-- a look: a bool comes, nothing is changed -/
def spLook (n : Nat) (ok : PyData → List V → Prop) (b : PyData → List V → Bool) : Sp := fun vs H Q _ => ∃ (D B : Addr) (v : V) (d : PyData) (ws : List V), vs = v :: ws ∧ ws.length = n ∧ Dq D B H v d ∧ ok d ws ∧ Q (.bl (b d ws)) H
/-- the built-in names that no def of the text takes -/
structure Bn (mg : Str → Option Value) : Prop where
  isi : mg "isinstance" = none
  int : mg "int" = none
  bool : mg "bool" = none
  tup : mg "tuple" = none
  len : mg "len" = none
  all : mg "all" = none
  rng : mg "range" = none
  lst : mg "list" = none
  str : mg "str" = none
  min : mg "min" = none
  rep : mg "repr" = none
  abs : mg "abs" = none
  max : mg "max" = none
  sum : mg "sum" = none
  enu : mg "enumerate" = none
theorem dec_int2 {i j : Int} : decide (V.int i = V.int j) = decide (i = j) := by
  rw [dec_int]
  rfl
theorem boot_bool' : bootBuiltins "bool" = some (.type "bool") := by decide +kernel
theorem boot_tuple' : bootBuiltins "tuple" = some (.type "tuple") := by decide +kernel
theorem boot_all' : bootBuiltins "all" = some (.builtin "all") := by decide +kernel
theorem within_no {lo hi : Int} {d : PyData} (h : isIn d = false) : within lo hi d = false := by
  cases d <;> first | rfl | cases h
theorem isIn_of {D B : Addr} {H : Hp} {v : V} {d : PyData} (hd : Dq D B H v d) (h : isIn d = true) : ∃ i, d = .int i ∧ v = .int i := by
  cases hd <;> first | exact ⟨_, rfl, rfl⟩ | cases h
theorem isTu_of {D B : Addr} {H : Hp} {v : V} {d : PyData} (hd : Dq D B H v d) (h : isTu d = true) : ∃ a xs ds, d = .tuple ds ∧ v = .ref a ∧ H a = some (.tup xs) ∧ DqAll D B H xs ds := by
  cases hd with
  | tup e ha => exact ⟨_, _, _, rfl, rfl, e, ha⟩
  | _ => cases h
theorem tupOf_no {n : Int} {d : PyData} (h : isTu d = false) : tupOf n d = false := by
  cases d <;> first | rfl | cases h
end Jg
namespace Jg
open PySem PySem.Spec PyProof.Rows L2
theorem smallM {n : Nat} (h : n ≤ 1000000) : n < sizeLine := Nat.lt_of_le_of_lt h (by rw [sizeLine_eq]; decide)
theorem DqAll.at_ {D B : Addr} {H : Hp} : ∀ {xs : List V} {ds : List PyData}, DqAll D B H xs ds → ∀ (i : Nat) (x : V), xs[i]? = some x → ∃ d, ds[i]? = some d ∧ Dq D B H x d
  | _, _, .nil, _, _, e => by simp at e
  | _, _, .cons h _, 0, _, e => by
    simp at e
    subst e
    exact ⟨_, rfl, h⟩
  | _, _, .cons _ h, i + 1, x, e => by
    obtain ⟨d, e2, q⟩ := h.at_ i x (by simpa using e)
    exact ⟨d, by simpa using e2, q⟩
/-- data stays where all that was stays -/
theorem Dq.same {D B : Addr} {H H' : Hp} {v : V} {d : PyData} (s : Same H H') (h : Dq D B H v d) : Dq D B H' v d := by
  refine Dq.rec (D := D) (B := B) (H := H) (motive_1 := fun v d _ => Dq D B H' v d) (motive_2 := fun vs ds _ => DqAll D B H' vs ds) .non .bl .int .str ?_ ?_ ?_ .nil ?_ h
  · exact fun h1 h2 e _ k => .lst h1 h2 (s _ _ e) k
  · exact fun e _ k => .tup (s _ _ e) k
  · exact fun e => .dct (s _ _ e)
  · exact fun _ _ k1 k2 => .cons k1 k2
theorem DqAll.same {D B : Addr} {H H' : Hp} (s : Same H H') : ∀ {vs : List V} {ds : List PyData}, DqAll D B H vs ds → DqAll D B H' vs ds
  | _, _, .nil => .nil
  | _, _, .cons a b => .cons (a.same s) (b.same s)
theorem take_map_next {α β : Type} {f : α → β} {xs : List α} {i : Nat} {x : α} (h : xs[i]? = some x) : (xs.take (i + 1)).map f = (xs.take i).map f ++ [f x] := by
  rw [List.take_add_one, h, List.map_append]
  rfl
/-! ### tuples made of tuples, whatever is shared -/
theorem cut_whole {xs : List V} {lo hi : Option Int} (h : HT.sIx xs.length 0 lo = 0 ∧ HT.sIx xs.length xs.length hi = xs.length) : cutV xs lo hi = xs := by
  unfold cutV
  rw [h.1, h.2, List.drop_zero, Nat.sub_zero, List.take_length]
theorem sl_read {K : PySem.W.Frag} {H : Hp} {a : Addr} {xs : List V} {lo hi : Option Int} {Q : VK} (e : H a = some (.tup xs)) (q : ∀ b H', Same H H' → H' b = some (.tup (cutV xs lo hi)) → Q (.ref b) H') : rSlA K (.ref a) lo hi H Q :=
  ⟨a, xs, rfl, SqT.of e, fun z => q a H (Same.refl H) (by rw [cut_whole z]; exact e), fun _ p np => q p _ (same_upd np) upd_same⟩
theorem cat_read {K : PySem.W.Frag} {H : Hp} {a b : Addr} {xs ys : List V} {Q : VK} (e : H a = some (.tup xs)) (e2 : H b = some (.tup ys)) (hz : xs.length + ys.length ≤ 1000) (q : ∀ c H', Same H H' → H' c = some (.tup (xs ++ ys)) → Q (.ref c) H') : rCatA K (.ref a) (.ref b) H Q := by
  refine ⟨a, b, xs, ys, rfl, rfl, SqT.of e, SqT.of e2, Nat.le_of_lt (small1000 hz), fun z => q b H (Same.refl H) ?_, fun _ z => q a H (Same.refl H) ?_, fun _ _ p np => q p _ (same_upd np) upd_same⟩
  · rw [z, List.nil_append]
    exact e2
  · rw [z, List.append_nil]
    exact e
theorem cutV_from (xs : List V) (k : Nat) : cutV xs (some (k : Int)) none = xs.drop k := by
  unfold cutV
  rw [HT.sIx_nat, HT.sIx_none]
  by_cases h : k ≤ xs.length
  · rw [Nat.min_eq_left h, List.take_of_length_le (by rw [List.length_drop]; omega)]
  · rw [Nat.min_eq_right (by omega), List.drop_eq_nil_of_le (Nat.le_refl _), List.drop_eq_nil_of_le (by omega), List.take_nil]
theorem cutV_to (xs : List V) (k : Nat) : cutV xs none (some (k : Int)) = xs.take k := by
  unfold cutV
  rw [HT.sIx_nat, HT.sIx_none, List.drop_zero, Nat.sub_zero]
  by_cases h : k ≤ xs.length
  · rw [Nat.min_eq_left h]
  · rw [Nat.min_eq_right (by omega), List.take_length, List.take_of_length_le (by omega)]
theorem Dq.tupE {D B : Addr} {H : Hp} {v : V} {ds : List PyData} (h : Dq D B H v (.tuple ds)) : ∃ a xs, v = .ref a ∧ H a = some (.tup xs) ∧ DqAll D B H xs ds := by
  cases h with
  | tup e ha => exact ⟨_, _, rfl, e, ha⟩
theorem Dq.intE {D B : Addr} {H : Hp} {v : V} {i : Int} (h : Dq D B H v (.int i)) : v = .int i := by
  cases h
  rfl
theorem DqAll.take {D B : Addr} {H : Hp} : ∀ {xs : List V} {ds : List PyData} (k : Nat), DqAll D B H xs ds → DqAll D B H (xs.take k) (ds.take k)
  | _, _, 0, _ => by
    rw [List.take_zero, List.take_zero]
    exact .nil
  | _, _, _ + 1, .nil => .nil
  | _, _, k + 1, .cons a b => .cons a (b.take k)
theorem DqAll.drop {D B : Addr} {H : Hp} : ∀ {xs : List V} {ds : List PyData} (k : Nat), DqAll D B H xs ds → DqAll D B H (xs.drop k) (ds.drop k)
  | _, _, 0, h => h
  | _, _, _ + 1, .nil => .nil
  | _, _, k + 1, .cons _ b => b.drop k
theorem DqAll.append {D B : Addr} {H : Hp} {ys : List V} {es : List PyData} (h2 : DqAll D B H ys es) : ∀ {xs : List V} {ds : List PyData}, DqAll D B H xs ds → DqAll D B H (xs ++ ys) (ds ++ es)
  | _, _, .nil => h2
  | _, _, .cons a b => .cons a (DqAll.append h2 b)
/-- the defs that draw -/
structure Dr (K : PySem.W.Frag) (mg : Str → Option Value) (fD : Addr) (fdD : FuncData) : Prop where
  F : Fun K "_law_draw" "_law_draw" sDraw fD fdD
  b : Binds K fdD ["_law_deck_here", "_law_many"] []
  g : mg "_law_draw" = some (.ref fD)
structure On (K : PySem.W.Frag) (mg : Str → Option Value) (fO : Addr) (fdO : FuncData) : Prop where
  F : Fun K "_law_one" "_law_one" sOne fO fdO
  b : Binds K fdO ["_law_deck_here", "_law_items"] []
  g : mg "_law_one" = some (.ref fO)
theorem tupOf_yes {D B : Addr} {H : Hp} {v : V} {d : PyData} {n : Int} (hd : Dq D B H v d) (h : tupOf n d = true) : ∃ a xs ds, d = .tuple ds ∧ v = .ref a ∧ H a = some (.tup xs) ∧ DqAll D B H xs ds ∧ (ds.length : Int) = n := by
  cases hd with
  | tup e ha => exact ⟨_, _, _, rfl, rfl, e, ha, of_decide_eq_true h⟩
  | _ => cases h
end Jg
namespace Jg
open PySem PySem.Spec PyProof.Rows L2
/-! ### written data -/
theorem pe_imp {X : Cx} {e : Expr} {t t' : TE} (h : PE X e t) (k : ∀ σ H Q, t' σ H Q → t σ H Q) : PE X e t' := ⟨fun pins s σ H Q I q => h.run pins s σ H Q I (k σ H Q q)⟩
theorem pa_imp {X : Cx} {es : List Expr} {t t' : TA} (h : PA X es t) (k : ∀ σ H Q, t' σ H Q → t σ H Q) : PA X es t' := ⟨fun pos pins s σ H Q I q => h.run pos pins s σ H Q I (k σ H Q q)⟩
def tLit (d : PyData) : TE := fun σ H Q => ∀ v H', Same H H' → (∀ D B, H D ≠ none → H B ≠ none → Dq D B H' v d) → Q v H'
def tLits (ds : List PyData) : TA := fun σ H Q => ∀ vs H', Same H H' → vs.length = ds.length → (∀ D B, H D ≠ none → H B ≠ none → DqAll D B H' vs ds) → Q vs H'
theorem Same.some {H H' : Hp} (s : Same H H') {a : Addr} (h : H a ≠ none) : H' a ≠ none := by
  cases e : H a with
  | none => exact absurd e h
  | some o =>
    rw [s a o e]
    exact fun z => nomatch z
section
variable {X : Cx} {pos : Pos}
theorem lit_int {i : Int} {j} : PE X (.Constant (.int i) j pos) (tLit (.int i)) := pe_imp pe_int fun σ H Q q => q (.int i) H (Same.refl H) fun _ _ _ _ => .int i
theorem lit_bl {b : Bool} {j} : PE X (.Constant (.bool b) j pos) (tLit (.bool b)) := pe_imp pe_bl fun σ H Q q => q (.bl b) H (Same.refl H) fun _ _ _ _ => .bl b
theorem lit_non {j} : PE X (.Constant .none j pos) (tLit .none) := pe_imp pe_non fun σ H Q q => q .non H (Same.refl H) fun _ _ _ _ => .non
theorem lit_str {x : Str} {j} : PE X (.Constant (.str x) j pos) (tLit (.str x)) := pe_imp pe_str fun σ H Q q => q (.str x) H (Same.refl H) fun _ _ _ _ => .str x
theorem lit_neg {i : Int} {j} {p : Pos} : PE X (.UnaryOp .USub (.Constant (.int i) j p) pos) (tLit (.int (-i))) := pe_imp (pe_un un_neg pe_int) fun σ H Q q => ⟨i, rfl, q (.int (-i)) H (Same.refl H) fun _ _ _ _ => .int (-i)⟩
theorem lit_pow {i j : Int} {a b} {p1 p2 : Pos} (h : CPow i j) : PE X (.BinOp (.Constant (.int i) a p1) .Pow (.Constant (.int j) b p2) pos) (tLit (.int (i ^ j.toNat))) := pe_imp (pe_op op_pow pe_int pe_int) fun σ H Q q => ⟨i, j, rfl, rfl, h, q _ H (Same.refl H) fun _ _ _ _ => .int _⟩
theorem lits_nil : PA X [] (tLits []) := pa_imp pa_nil fun σ H Q q => q [] H (Same.refl H) rfl fun _ _ _ _ => .nil
theorem lits_cons {e : Expr} {es : List Expr} {d : PyData} {ds : List PyData} (h : PE X e (tLit d)) (hr : PA X es (tLits ds)) (hs : starEach (e :: es) X.env = (false, eval e X.env) :: starEach es X.env := by rfl) : PA X (e :: es) (tLits (d :: ds)) :=
  pa_imp (pa_cons h hr hs) fun σ H Q q v H1 s1 h1 vs H2 s2 l2 h2 => q (v :: vs) H2 (s1.trans s2) (congrArg Nat.succ l2) fun D B nD nB => .cons ((h1 D B nD nB).same s2) (h2 D B (Same.some s1 nD) (Same.some s1 nB))
theorem lit_tup {es : List Expr} {ds : List PyData} {k} (h : PA X es (tLits ds)) (hz : Nat.ble ds.length 1000 = true := by rfl) : PE X (.Tuple es k pos) (tLit (.tuple ds)) :=
  pe_imp (pe_tup h) fun σ H Q q vs H1 s1 l1 h1 => ⟨by rw [l1]; exact sz1 hz, fun p np => q (.ref p) _ (s1.trans (same_upd np)) fun D B nD nB => .tup upd_same ((h1 D B nD nB).same (same_upd np))⟩
theorem lit_lst {es : List Expr} {ds : List PyData} (h : PA X es (tLits ds)) (hz : Nat.ble ds.length 1000 = true := by rfl) : PE X (.List es pos) (tLit (.list ds)) :=
  pe_imp (pe_lst h) fun σ H Q q vs H1 s1 l1 h1 => ⟨by rw [l1]; exact sz1 hz, fun p np => q (.ref p) _ (s1.trans (same_upd np)) fun D B nD nB =>
    .lst (fun z => Same.some s1 nD (by rw [← z]; exact np)) (fun z => Same.some s1 nB (by rw [← z]; exact np)) upd_same ((h1 D B nD nB).same (same_upd np))⟩
theorem lit_dct : PE X (.Dict [] [] pos) (tLit (.dict [])) := pe_imp pe_dnewK fun σ H Q q p np => q (.ref p) _ (same_upd np) fun _ _ _ _ => .dct upd_same
/-- a list display of written data, as a list -/
theorem lit_list {es : List Expr} {ds : List PyData} (h : PA X es (tLits ds)) (hz : Nat.ble ds.length 1000 = true := by rfl) :
    PE X (.List es pos) (fun σ H Q => ∀ p vs H', Same H H' → H p = none → H' p = some (.lst vs) → vs.length = ds.length → (∀ D B, H D ≠ none → H B ≠ none → DqAll D B H' vs ds) → Q (.ref p) H') :=
  pe_imp (pe_lst h) fun σ H Q q vs H1 s1 l1 h1 => ⟨by rw [l1]; exact sz1 hz, fun p np => q p vs _ (s1.trans (same_upd np)) (s1.free np) upd_same l1 fun D B nD nB => (h1 D B nD nB).same (same_upd np)⟩
end
def S (x : String) : Str := Str.ofString x
def odd1 : List PyData := [.none, .bool true, .bool false, .int 0, .int 1, .int 2, .int (-1), .int (10 ^ (30 : Int).toNat), .str (S ""), .str (S "0"), .str (S "in"), .tuple [], .list [], .dict [], .tuple [.int 0], .tuple [.int 1], .tuple [.int 0, .int 1], .tuple [.bool true, .int 0], .list [.int 0]]
def odd2 : List PyData := [.tuple [.str (S "in"), .int 0], .tuple [.str (S "set"), .int 1], .tuple [.str (S "neg"), .int 0], .tuple [.str (S "+"), .int 0, .int 0], .tuple [.str (S "*"), .int 0], .tuple [.str (S "in"), .bool true], .tuple [.str (S "+"), .int 0, .int (-1)], .tuple [.str (S "/"), .int 0, .int 0]]
def odd3 : List PyData := [.tuple [.none], .tuple [.int (-1)], .tuple [.int 1, .tuple [.tuple [.str (S "in"), .int 0]], .tuple [.int 0]], .tuple [.int 0, .tuple [], .tuple []], .tuple [.tuple [.int 0], .int 1], .tuple [.str (S "in")], .int 64, .int 65]
def oddD : List PyData := (odd1 ++ odd2) ++ odd3
abbrev sOdd : Stmt := topS 55
theorem scOdd : FnScope ["_law_deck_here", "_law_some"] ["_law_deck_here"] (defScope sOdd) := ⟨rfl, rfl, rfl, by decide +kernel, rfl, by decide +kernel, by decide +kernel⟩
theorem DeckAt.nD {D B C : Addr} {cells : List Int} {H : Hp} (d : DeckAt D B C cells H) : H D ≠ none := by
  obtain ⟨xs, h⟩ := d.isD
  rw [h]
  exact fun z => nomatch z
theorem DeckAt.nB {D B C : Addr} {cells : List Int} {H : Hp} (d : DeckAt D B C cells H) : H B ≠ none := by
  obtain ⟨xs, h⟩ := d.isB
  rw [h]
  exact fun z => nomatch z
theorem DeckAt.neD {D B C : Addr} {cells : List Int} {H : Hp} (d : DeckAt D B C cells H) {p : Addr} (h : H p = none) : p ≠ D := fun z => d.nD (by rw [← z]; exact h)
theorem DeckAt.neB {D B C : Addr} {cells : List Int} {H : Hp} (d : DeckAt D B C cells H) {p : Addr} (h : H p = none) : p ≠ B := fun z => d.nB (by rw [← z]; exact h)
mutual
/-- what lies at neither D nor B stays, said of any two others -/
theorem Dq.two {D B Z Y : Addr} {H H' : Hp} (hD : ∃ xs, H D = some (.lst xs)) (hB : ∃ xs, H B = some (.lst xs)) (f : Fr D B H H') : ∀ (d : PyData) (v : V), Dq D B H v d → Dq Z Y H v d → Dq Z Y H' v d
  | .none, _, _, h => by
    cases h
    exact .non
  | .bool _, _, _, h => by
    cases h
    exact .bl _
  | .int _, _, _, h => by
    cases h
    exact .int _
  | .str _, _, _, h => by
    cases h
    exact .str _
  | .list ds, _, k, h => by
    cases k with
    | lst k1 k2 k3 k4 =>
      cases h with
      | lst h1 h2 h3 h4 =>
        rw [k3] at h3
        cases h3
        exact .lst h1 h2 (f _ _ k1 k2 k3) (DqAll.two hD hB f ds _ k4 h4)
  | .tuple ds, _, k, h => by
    obtain ⟨xD, eD⟩ := hD
    obtain ⟨xB, eB⟩ := hB
    cases k with
    | tup k3 k4 =>
      cases h with
      | tup h3 h4 =>
        rw [k3] at h3
        cases h3
        refine .tup (f _ _ (fun z => ?_) (fun z => ?_) k3) (DqAll.two ⟨xD, eD⟩ ⟨xB, eB⟩ f ds _ k4 h4)
        · rw [z, eD] at k3
          cases k3
        · rw [z, eB] at k3
          cases k3
  | .dict ds, _, k, h => by
    obtain ⟨xD, eD⟩ := hD
    obtain ⟨xB, eB⟩ := hB
    cases h with
    | dct h3 =>
      refine .dct (f _ _ (fun z => ?_) (fun z => ?_) h3)
      · rw [z, eD] at h3
        cases h3
      · rw [z, eB] at h3
        cases h3
theorem DqAll.two {D B Z Y : Addr} {H H' : Hp} (hD : ∃ xs, H D = some (.lst xs)) (hB : ∃ xs, H B = some (.lst xs)) (f : Fr D B H H') : ∀ (ds : List PyData) (vs : List V), DqAll D B H vs ds → DqAll Z Y H vs ds → DqAll Z Y H' vs ds
  | [], _, _, h => by
    cases h
    exact .nil
  | d :: ds, _, k, h => by
    cases k with
    | cons k1 k2 =>
      cases h with
      | cons h1 h2 => exact .cons (Dq.two hD hB f d _ k1 h1) (DqAll.two hD hB f ds _ k2 h2)
end
theorem DeckAt.two {D B C Z Y : Addr} {cells : List Int} {H H' : Hp} {v : V} {d : PyData} (k : DeckAt D B C cells H) (f : Fr D B H H') (h : Dq D B H v d) (z : Dq Z Y H v d) : Dq Z Y H' v d := Dq.two k.isD k.isB f d v h z
theorem DeckAt.alive {D B C Z : Addr} {cells : List Int} {H H' : Hp} (k : DeckAt D B C cells H') (f : Fr D B H H') (h : H Z ≠ none) : H' Z ≠ none := by
  by_cases hD : Z = D
  · rw [hD]
    exact k.nD
  · by_cases hB : Z = B
    · rw [hB]
      exact k.nB
    · cases e : H Z with
      | none => exact absurd e h
      | some o =>
        rw [f Z o hD hB e]
        exact fun z => nomatch z
def spOdd : Sp := fun vs H Q _ => ∃ (D B C : Addr) (cells : List Int), vs = [.ref D] ∧ DeckAt D B C cells H ∧ ∀ (v : V) (d : PyData) (H' : Hp), d ∈ oddD → Dq D B H' v d → (∀ Z, H Z ≠ none → Dq Z Z H' v d) → DeckAt D B C cells H' → Fr D B H H' → Q v H'
section
variable {P : Program} {w : World} {K : PySem.W.Frag} {mg : Str → Option Value} {base : Heap}
theorem ok_odd {f fO fD : Addr} {fd fdO fdD : FuncData} (F : Fun K "_law_odd" "_law_odd" sOdd f fd) (FO : Fun K "_law_one" "_law_one" sOne fO fdO) (bO : Binds K fdO ["_law_deck_here", "_law_items"] []) (gO : mg "_law_one" = some (.ref fO))
    (FD : Fun K "_law_draw" "_law_draw" sDraw fD fdD) (bD : Binds K fdD ["_law_deck_here", "_law_many"] []) (gD : mg "_law_draw" = some (.ref fD)) (T : Bn mg) : FnOk P w K mg base CX0 3 f fd ["_law_deck_here"] spOdd := by
  have GO : FnOk P w K mg base CX0 2 fO fdO ["_law_deck_here", "_law_items"] spOne := ok_one FO FD bD gD T.int T.len
  refine F.ok scOdd (fun vs H Q E h => ?_) (fun cdv A outer s H vs Q E hr h => ?_)
  · obtain ⟨D, B, C, cells, rfl, _⟩ := h
    rfl
  · obtain ⟨D, B, C, cells, rfl, dk, q⟩ := h
    refine ⟨_, pss_cons (ps_set (i := 1) scOdd.nd rfl (.inl rfl) (lit_list (ds := odd1) (lits_cons lit_non (lits_cons lit_bl (lits_cons lit_bl (lits_cons lit_int (lits_cons lit_int (lits_cons lit_int (lits_cons lit_neg (lits_cons (lit_pow ⟨by decide, by decide, by decide⟩)
        (lits_cons lit_str (lits_cons lit_str (lits_cons lit_str (lits_cons (lit_tup lits_nil) (lits_cons (lit_lst lits_nil) (lits_cons lit_dct (lits_cons (lit_tup (lits_cons lit_int lits_nil)) (lits_cons (lit_tup (lits_cons lit_int lits_nil))
        (lits_cons (lit_tup (lits_cons lit_int (lits_cons lit_int lits_nil))) (lits_cons (lit_tup (lits_cons lit_bl (lits_cons lit_int lits_nil))) (lits_cons (lit_lst (lits_cons lit_int lits_nil)) lits_nil)))))))))))))))))))))
      (pss_cons (ps_set (i := 1) scOdd.nd rfl (.inl rfl) (pe_op op_cat (pv 1) (lit_list (ds := odd2) (lits_cons (lit_tup (lits_cons lit_str (lits_cons lit_int lits_nil))) (lits_cons (lit_tup (lits_cons lit_str (lits_cons lit_int lits_nil))) (lits_cons (lit_tup (lits_cons lit_str (lits_cons lit_int lits_nil)))
        (lits_cons (lit_tup (lits_cons lit_str (lits_cons lit_int (lits_cons lit_int lits_nil)))) (lits_cons (lit_tup (lits_cons lit_str (lits_cons lit_int lits_nil))) (lits_cons (lit_tup (lits_cons lit_str (lits_cons lit_bl lits_nil)))
        (lits_cons (lit_tup (lits_cons lit_str (lits_cons lit_int (lits_cons lit_neg lits_nil)))) (lits_cons (lit_tup (lits_cons lit_str (lits_cons lit_int (lits_cons lit_int lits_nil)))) lits_nil)))))))))))
      (pss_one (ps_ret (pe_call GO hr (by rfl) gO FO.kp bO .nil pass0 (pa_cons (pv 0) (pa_cons (pe_op op_cat (pv 1) (lit_list (ds := odd3) (lits_cons (lit_tup (lits_cons lit_non lits_nil)) (lits_cons (lit_tup (lits_cons lit_neg lits_nil))
        (lits_cons (lit_tup (lits_cons lit_int (lits_cons (lit_tup (lits_cons (lit_tup (lits_cons lit_str (lits_cons lit_int lits_nil))) lits_nil)) (lits_cons (lit_tup (lits_cons lit_int lits_nil)) lits_nil))))
        (lits_cons (lit_tup (lits_cons lit_int (lits_cons (lit_tup lits_nil) (lits_cons (lit_tup lits_nil) lits_nil)))) (lits_cons (lit_tup (lits_cons (lit_tup (lits_cons lit_int lits_nil)) (lits_cons lit_int lits_nil)))
        (lits_cons (lit_tup (lits_cons lit_str lits_nil)) (lits_cons lit_int (lits_cons lit_int lits_nil)))))))))) pa_nil)))))), ?_⟩
    intro p1 v1 H1 s1 n1 e1 l1 a1
    have A1 := a1 D B dk.nD dk.nB
    have dk1 := dk.same s1
    refine ⟨_, rfl, fun p2 v2 H2 s2 n2 e2 l2 a2 => ⟨p1, p2, v1, v2, rfl, rfl, s2 _ _ e1, e2, by rw [l1, l2]; exact sz1 (l := odd1 ++ odd2) rfl, fun p3 n3 => ?_⟩⟩
    have A2 := a2 D B dk1.nD dk1.nB
    have s3 := same_upd (o := .lst (v1 ++ v2)) n3
    have dk3 := (dk1.same s2).same s3
    refine ⟨_, rfl, _, rfl, fun p4 v4 H4 s4 n4 e4 l4 a4 => ⟨p3, p4, v1 ++ v2, v4, rfl, rfl, s4 _ _ upd_same, e4, by rw [List.length_append, l1, l2, l4]; exact sz1 (l := oddD) rfl, fun p5 n5 => ?_⟩⟩
    have A4 := a4 D B dk3.nD dk3.nB
    have s5 := same_upd (o := .lst ((v1 ++ v2) ++ v4)) n5
    have dk5 := (dk3.same s4).same s5
    have A5 : DqAll D B _ ((v1 ++ v2) ++ v4) oddD := DqAll.append (A4.same s5) (DqAll.append (((A2.same s3).same s4).same s5) ((((A1.same s2).same s3).same s4).same s5))
    have hl5 : ((v1 ++ v2) ++ v4).length = 35 := by rw [A5.len]; rfl
    refine ⟨D, B, C, cells, p5, _, rfl, dk5, upd_same, (dk3.same s4).neD n5, (dk3.same s4).neB n5, by rw [hl5]; decide, by rw [hl5]; decide, fun i v H' hv dk' f' => ?_⟩
    obtain ⟨d, hd, hq⟩ := A5.at_ i v hv
    refine q v d H' (List.mem_of_getElem? hd) (dk5.data f' hq) (fun Z nZ => ?_) dk' ((Fr.of_same (s1.trans (s2.trans (s3.trans (s4.trans s5))))).trans f')
    have z1 := Same.some s1 nZ
    have z3 := Same.some s3 (Same.some s2 z1)
    have A5Z : DqAll Z Z _ ((v1 ++ v2) ++ v4) oddD := DqAll.append ((a4 Z Z z3 z3).same s5) (DqAll.append ((((a2 Z Z z1 z1).same s3).same s4).same s5) (((((a1 Z Z nZ nZ).same s2).same s3).same s4).same s5))
    obtain ⟨d2, hd2, hq2⟩ := A5Z.at_ i v hv
    rw [hd] at hd2
    cases hd2
    exact dk5.two f' hq hq2
end
end Jg
namespace Jg
open PySem PySem.Spec PyProof.Rows L2
/-! ### how long what is shown may be -/
structure Ok (k c : Nat) (d : PyData) : Prop where
  sh : d.showable = true
  dp : d.depth ≤ k
  ln : d.shown.length ≤ c
theorem Ok.mono {k c k' c' : Nat} {d : PyData} (h : Ok k c d) (hk : k ≤ k') (hc : c ≤ c') : Ok k' c' d := ⟨h.sh, Nat.le_trans h.dp hk, Nat.le_trans h.ln hc⟩
theorem ok_all {k c : Nat} : ∀ {ds : List PyData}, (∀ d ∈ ds, Ok k c d) → PyData.showableAll ds = true ∧ PyData.depthAll ds ≤ k ∧ ((PyData.shownAll ds).map (·.length)).sum ≤ c * ds.length ∧ (PyData.shownAll ds).length = ds.length
  | [], _ => by simp [PyData.showableAll, PyData.depthAll, PyData.shownAll]
  | d :: ds, h => by
    have h1 := h d List.mem_cons_self
    obtain ⟨a, b, e, f⟩ := ok_all (ds := ds) fun x hx => h x (List.mem_cons_of_mem _ hx)
    refine ⟨?_, ?_, ?_, ?_⟩
    · simp only [PyData.showableAll, h1.sh, a, Bool.and_self]
    · simp only [PyData.depthAll]
      exact Nat.max_le.mpr ⟨h1.dp, b⟩
    · simp only [PyData.shownAll, List.map_cons, List.sum_cons, List.length_cons, Nat.mul_succ]
      have := h1.ln
      omega
    · simp only [PyData.shownAll, List.length_cons, f]
theorem ok_bound {k c n : Nat} {ds : List PyData} (h : ∀ d ∈ ds, Ok k c d) (hn : ds.length ≤ n) : ((PyData.shownAll ds).map (·.length)).sum + 2 * (PyData.shownAll ds).length + 3 ≤ n * (c + 2) + 3 := by
  obtain ⟨_, _, e, f⟩ := ok_all h
  rw [f]
  have h1 : c * ds.length ≤ c * n := Nat.mul_le_mul_left c hn
  have h2 : n * (c + 2) = c * n + 2 * n := by rw [Nat.mul_add, Nat.mul_comm n c, Nat.mul_comm n 2]
  omega
theorem ok_tup {k c n : Nat} {ds : List PyData} (h : ∀ d ∈ ds, Ok k c d) (hn : ds.length ≤ n) : Ok (k + 1) (n * (c + 2) + 3) (.tuple ds) := by
  obtain ⟨a, b, _, _⟩ := ok_all h
  refine ⟨by simpa only [PyData.showable] using a, by simp only [PyData.depth]; omega, ?_⟩
  simp only [PyData.shown]
  exact Nat.le_trans (tupleText_len_le _) (ok_bound h hn)
theorem ok_lst {k c n : Nat} {ds : List PyData} (h : ∀ d ∈ ds, Ok k c d) (hn : ds.length ≤ n) : Ok (k + 1) (n * (c + 2) + 3) (.list ds) := by
  obtain ⟨a, b, _, _⟩ := ok_all h
  refine ⟨by simpa only [PyData.showable] using a, by simp only [PyData.depth]; omega, ?_⟩
  simp only [PyData.shown]
  exact Nat.le_trans (listText_len_le _) (ok_bound h hn)
theorem ok_intW {i : Int} {k : Nat} (hk : 0 < k) (hk2 : k ≤ 1920) (h : i.natAbs < 2 ^ k) : Ok 0 (k + 1) (.int i) := by
  have hl : i.natAbs.log2 < k := PySem.Flt.log2_lt_of hk h
  refine ⟨?_, Nat.le_of_eq (by simp only [PyData.depth]), ?_⟩
  · simp only [PyData.showable]
    exact decide_eq_true (by omega)
  · simp only [PyData.shown]
    rw [PySem.ofString_length]
    exact int_text_length_le hk hl
theorem ok_int25 {i : Int} (h : i.natAbs < 10 ^ 25) : Ok 0 26 (.int i) := by
  have h2 : i.natAbs < 2 ^ 90 := Nat.lt_trans h (by decide)
  refine ⟨(ok_intW (k := 90) (by decide) (by decide) h2).sh, (ok_intW (k := 90) (by decide) (by decide) h2).dp, ?_⟩
  simp only [PyData.shown]
  rw [PySem.ofString_length]
  exact int_text_length_le10 (by decide) h
theorem ok_bl (b : Bool) : Ok 0 26 (.bool b) := by
  refine ⟨by simp only [PyData.showable], Nat.le_of_eq (by simp only [PyData.depth]), ?_⟩
  simp only [PyData.shown]
  cases b <;> decide
theorem ok_non : Ok 0 26 .none := by
  refine ⟨by simp only [PyData.showable], Nat.le_of_eq (by simp only [PyData.depth]), ?_⟩
  simp only [PyData.shown]
  decide
theorem ok_str {x : Str} (h : (reprText x).length ≤ 40) : Ok 0 40 (.str x) := by
  refine ⟨by simp only [PyData.showable], Nat.le_of_eq (by simp only [PyData.depth]), ?_⟩
  simp only [PyData.shown]
  exact h
theorem ok_dct : Ok 1 26 (.dict []) := by
  refine ⟨by simp only [PyData.showable, PyData.showableKv], by simp only [PyData.depth, PyData.depthKv]; decide, ?_⟩
  simp only [PyData.shown, PyData.shownKv]
  decide
/-- what a data is made of: its length, at most -/
def lens : PyData → Nat
  | .str x => (reprText x).length | .int _ => 40 | _ => 26
theorem odd_ok : ∀ d ∈ oddD, Ok 3 1197 d := by
  have i40 : ∀ i : Int, i.natAbs < 10 ^ 31 → Ok 0 40 (.int i) := fun i h => by
    have h2 : i.natAbs < 2 ^ 120 := Nat.lt_trans h (by decide)
    refine ⟨(ok_intW (k := 120) (by decide) (by decide) h2).sh, (ok_intW (k := 120) (by decide) (by decide) h2).dp, ?_⟩
    simp only [PyData.shown]
    rw [PySem.ofString_length]
    exact Nat.le_trans (int_text_length_le10 (k := 31) (by decide) h) (by decide)
  have b40 : ∀ b, Ok 0 40 (.bool b) := fun b => (ok_bl b).mono (Nat.le_refl _) (by decide)
  have n40 : Ok 0 40 .none := ok_non.mono (Nat.le_refl _) (by decide)
  have s40 : ∀ x : Str, (reprText x).length ≤ 40 → Ok 0 40 (.str x) := fun x h => ok_str h
  have t1 : ∀ ds : List PyData, (∀ d ∈ ds, Ok 0 40 d) → ds.length ≤ 3 → Ok 1 129 (.tuple ds) := fun ds h hl => ok_tup h hl
  have l1 : ∀ ds : List PyData, (∀ d ∈ ds, Ok 0 40 d) → ds.length ≤ 3 → Ok 1 129 (.list ds) := fun ds h hl => ok_lst h hl
  have t2 : ∀ ds : List PyData, (∀ d ∈ ds, Ok 1 129 d) → ds.length ≤ 3 → Ok 2 396 (.tuple ds) := fun ds h hl => ok_tup h hl
  have t3 : ∀ ds : List PyData, (∀ d ∈ ds, Ok 2 396 d) → ds.length ≤ 3 → Ok 3 1197 (.tuple ds) := fun ds h hl => ok_tup h hl
  have m1 : ∀ {d : PyData}, Ok 0 40 d → Ok 1 129 d := fun h => h.mono (by decide) (by decide)
  have m2 : ∀ {d : PyData}, Ok 1 129 d → Ok 2 396 d := fun h => h.mono (by decide) (by decide)
  have fin : ∀ {d : PyData} {k c : Nat}, Ok k c d → k ≤ 3 → c ≤ 1197 → Ok 3 1197 d := fun h a b => h.mono a b
  have all0 : ∀ {k c : Nat}, ∀ d ∈ ([] : List PyData), Ok k c d := fun _ h => nomatch h
  have cons : ∀ {k c : Nat} {d : PyData} {ds : List PyData}, Ok k c d → (∀ x ∈ ds, Ok k c x) → ∀ x ∈ d :: ds, Ok k c x := fun h1 h2 x hx => by
    rcases List.mem_cons.mp hx with rfl | hx
    · exact h1
    · exact h2 x hx
  have sOk : ∀ y : String, y ∈ ["", "0", "in", "set", "neg", "+", "*", "/"] → Ok 0 40 (.str (S y)) := fun y hy => by
    refine s40 _ ?_
    revert y
    decide +kernel
  have up : ∀ {ds : List PyData} {k c : Nat}, k ≤ 3 → c ≤ 1197 → (∀ d ∈ ds, Ok k c d) → ∀ d ∈ ds, Ok 3 1197 d := fun a b h d hd => (h d hd).mono a b
  have A1 : ∀ d ∈ odd1, Ok 2 396 d := by
    unfold odd1
    refine cons (m2 (m1 n40)) (cons (m2 (m1 (b40 _))) (cons (m2 (m1 (b40 _))) (cons (m2 (m1 (i40 _ (by decide)))) (cons (m2 (m1 (i40 _ (by decide)))) (cons (m2 (m1 (i40 _ (by decide)))) (cons (m2 (m1 (i40 _ (by decide)))) (cons (m2 (m1 (i40 _ (by decide)))) ?_)))))))
    refine cons (m2 (m1 (sOk _ (by decide)))) (cons (m2 (m1 (sOk _ (by decide)))) (cons (m2 (m1 (sOk _ (by decide)))) (cons (m2 (t1 _ all0 (by decide))) (cons (m2 (l1 _ all0 (by decide))) (cons (m2 (ok_dct.mono (by decide) (by decide))) ?_)))))
    exact cons (m2 (t1 _ (cons (i40 _ (by decide)) all0) (by decide))) (cons (m2 (t1 _ (cons (i40 _ (by decide)) all0) (by decide))) (cons (m2 (t1 _ (cons (i40 _ (by decide)) (cons (i40 _ (by decide)) all0)) (by decide))) (cons (m2 (t1 _ (cons (b40 _) (cons (i40 _ (by decide)) all0)) (by decide))) (cons (m2 (l1 _ (cons (i40 _ (by decide)) all0) (by decide))) all0))))
  have A2 : ∀ d ∈ odd2, Ok 1 129 d := by
    unfold odd2
    have I : ∀ i : Int, i.natAbs < 10 ^ 31 → Ok 0 40 (.int i) := i40
    exact cons (t1 _ (cons (sOk _ (by decide)) (cons (I _ (by decide)) all0)) (by decide)) (cons (t1 _ (cons (sOk _ (by decide)) (cons (I _ (by decide)) all0)) (by decide)) (cons (t1 _ (cons (sOk _ (by decide)) (cons (I _ (by decide)) all0)) (by decide)) (cons (t1 _ (cons (sOk _ (by decide)) (cons (I _ (by decide)) (cons (I _ (by decide)) all0))) (by decide))
      (cons (t1 _ (cons (sOk _ (by decide)) (cons (I _ (by decide)) all0)) (by decide)) (cons (t1 _ (cons (sOk _ (by decide)) (cons (b40 _) all0)) (by decide)) (cons (t1 _ (cons (sOk _ (by decide)) (cons (I _ (by decide)) (cons (I _ (by decide)) all0))) (by decide)) (cons (t1 _ (cons (sOk _ (by decide)) (cons (I _ (by decide)) (cons (I _ (by decide)) all0))) (by decide)) all0)))))))
  have A3 : ∀ d ∈ odd3, Ok 3 1197 d := by
    unfold odd3
    have I : ∀ i : Int, i.natAbs < 10 ^ 31 → Ok 0 40 (.int i) := i40
    have m3 : ∀ {d : PyData}, Ok 1 129 d → Ok 3 1197 d := fun h => h.mono (by decide) (by decide)
    refine cons (m3 (t1 _ (cons n40 all0) (by decide))) (cons (m3 (t1 _ (cons (I _ (by decide)) all0) (by decide))) (cons (t3 _ (cons (m2 (m1 (I _ (by decide)))) (cons (t2 _ (cons (t1 _ (cons (sOk _ (by decide)) (cons (I _ (by decide)) all0)) (by decide)) all0) (by decide)) (cons (m2 (t1 _ (cons (I _ (by decide)) all0) (by decide))) all0))) (by decide)) ?_))
    refine cons ((t2 _ (cons (m1 (I _ (by decide))) (cons (t1 _ all0 (by decide)) (cons (t1 _ all0 (by decide)) all0))) (by decide)).mono (by decide) (by decide)) (cons ((t2 _ (cons (t1 _ (cons (I _ (by decide)) all0) (by decide)) (cons (m1 (I _ (by decide))) all0)) (by decide)).mono (by decide) (by decide)) ?_)
    exact cons (m3 (t1 _ (cons (sOk _ (by decide)) all0) (by decide))) (cons (m3 (m1 (I _ (by decide)))) (cons (m3 (m1 (I _ (by decide)))) all0))
  intro d hd
  unfold oddD at hd
  rcases List.mem_append.mp hd with hd | hd
  · rcases List.mem_append.mp hd with hd | hd
    · exact up (by decide) (by decide) A1 d hd
    · exact up (by decide) (by decide) A2 d hd
  · exact up (by decide) (by decide) A3 d hd
end Jg
set_option maxHeartbeats 4000000
/-! an own exception class over ValueError called by one keyword alone -/
namespace Jg
open PySem PySem.Calls PyProof.Rows PySem.HandSPX
section
variable {prog : Program} {w : World} {A : Around} {E : Value → Shared → Prop} {R : Result → Shared → Prop} {h : Heap} {g : Array GenState} {d : Drawn} {t : Nat} {os : OsState}
variable {nm q f : Str} {v : Value} {C N fI : Addr} {bs bm : List Value} {hdct : Bool} {sn : List Str} {sub : List Value} {ab : Bool} {col : Option Bool} {dd : Option Addr} {k0 k1 k2 k3 k5 : Option Value}
/-- type.__call__ may be asked so -/
theorem kw_ask {M : Model} {newId : String} {Q : Unit → Shared → Prop} (hC : h.get? C = some (excClassObj nm q C N bs bm hdct sn sub ab col dd k0 k1 k2 k3 k5 newId)) (hq : Q () ⟨h, g, d, t, os⟩) :
    wpAny M A (checkBuiltinCall "type.__call__" ⟨[.ref C], [(f, v)]⟩) Q E ⟨h, g, d, t, os⟩ := by
  have hs := tc_sub
  have hT : (⟨h, g, d, t, os⟩ : Shared).TypeIs (.ref C) "type" := ⟨_, hC, rfl⟩
  unfold checkBuiltinCall
  simp only [tc_kind, tc_split]
  repeat (any_goals (first | assumption | with_reducible refine wpAny_loadPart_at hC ?_ | with_reducible refine wpAny_onRaise ?_ | with_reducible refine wpAny_map ?_ | wp_step))
/-- ValueError.__new__ may be asked so -/
theorem kw_new_ask {M : Model} {Q : Unit → Shared → Prop} (hv : refsVE bm = true) (hC : h.get? C = some (excClassObj nm q C N bs bm hdct sn sub ab col dd k0 k1 k2 k3 k5 "ValueError.__new__")) (hq : Q () ⟨h, g, d, t, os⟩) :
    wpAny M A (checkBuiltinCall "ValueError.__new__" ⟨[.ref C], [(f, v)]⟩) Q E ⟨h, g, d, t, os⟩ := by
  have F := PySem.F.excBase_ValueError
  have hb : (Value.ref C :: bm).contains (.type "ValueError") = true := by rw [List.contains_cons, refsVE_contains "ValueError" bm hv, show veTail.contains (.type "ValueError") = true by decide +kernel, Bool.or_true]
  unfold checkBuiltinCall
  simp only [F.newKind, F.newSplit, F.newRow]
  repeat (first | with_reducible refine wpAny_loadPart_at hC ?_ | (with_reducible refine wpAny_isSubtype_exc hC ?_; rw [hb]) | with_reducible refine wpAny_staticBase_exc hC ?_ | with_reducible refine wpAny_madeBy_exc hC ?_ | simp only [bne_self_eq_false, Bool.false_eq_true, if_false] | wp_step)
  exact hq
/-- ValueError.__new__ there: args are (), the keyword falls away -/
theorem kw_new (hv : refsVE bm = true) (hC : h.get? C = some (excClassObj nm q C N bs bm hdct sn sub ab col dd k0 k1 k2 k3 k5 "ValueError.__new__"))
    (hq : R (.ok (.ret (.ref (h.objs.size + 1)))) ⟨(h.push (W.kdv_tup [])).push (excO C h.objs.size), g, d, t, os⟩) :
    codeAny (model prog w) A (.builtin "ValueError.__new__" ⟨[.ref C], [(f, v)]⟩) R ⟨h, g, d, t, os⟩ := by
  have F := PySem.F.excBase_ValueError
  have hends := F.ends
  have has : ∀ X : String, veTail.contains (.type X) = true → (Value.ref C :: bm).contains (.type X) = true := fun X e => by rw [List.contains_cons, refsVE_contains X bm hv, e, Bool.or_true]
  have hno : ∀ X : String, veTail.contains (.type X) = false → (Value.ref C :: bm).contains (.type X) = false := fun X e => by rw [List.contains_cons, refsVE_contains X bm hv, e]; rfl
  have h1 := has "ValueError" (by decide +kernel)
  have h2 := hno "AttributeError" (by decide +kernel)
  have h3 := hno "NameError" (by decide +kernel)
  refine codeAny_builtinAt F.entry ?_
  unfold Builtin.«BaseException.__new__»
  refine PySem.wpAt_bind ?_
  show PySem.wpAt _ _ _ (stack >>= _) _ _ _
  refine PySem.wpAt_bind (PySem.wpAt_stack fun p below => PySem.wpAt_of_wpAny ?_)
  wp_walk
  refine PySem.wpAt_of_wpAny ?_
  rw [F.owner]
  repeat (first | with_reducible refine wpAny_madeHere_exc F.canon hC ?_ | with_reducible refine wpAny_loadPart_at hC ?_ | (with_reducible refine wpAny_isSubtype_exc hC ?_; first | rw [h1] | rw [h2] | rw [h3]) | wp_step)
  show R _ _
  rw [Heap.size_push]
  exact hq
/-- C(f = v): the own __init__ is called with the keyword -/
theorem kw_call (hv : refsVE bm = true) (hC : h.get? C = some (excClassObj nm q C N bs bm hdct sn sub ab col dd k0 k1 k2 k3 k5 "ValueError.__new__"))
    (hi : W.Looks (model prog w) h (typeLookup (.ref C) "__init__") (some (.ref fI))) (hb : ∀ self, W.Looks (model prog w) h (bindSpecial (.ref fI) self) (.ref fI, [self]))
    (hq : codeAny (model prog w) (A.under (.builtin "type.__call__" ⟨[.ref C], [(f, v)]⟩)) (.call (.ref fI) ⟨[.ref (h.objs.size + 1)], [(f, v)]⟩) (W.InitBack (h.objs.size + 1) R)
      ⟨(h.push (W.kdv_tup [])).push (excO C h.objs.size), g, d, t, os⟩) :
    codeAny (model prog w) A (.call (.ref C) ⟨[], [(f, v)]⟩) R ⟨h, g, d, t, os⟩ := by
  have F := PySem.F.excBase_ValueError
  have l1 := tc_lookup
  have l2 := tc_bind (.ref C)
  have hT : (⟨h, g, d, t, os⟩ : Shared).TypeIs (.ref C) "type" := ⟨_, hC, rfl⟩
  have k : ∀ b o, h.get? b = some o → ((h.push (W.kdv_tup [])).push (excO C h.objs.size)).get? b = some o := fun b o e => Heap.get?_push_of_some _ (Heap.get?_push_of_some _ e)
  have hC2 := k _ _ hC
  have he : ((h.push (W.kdv_tup [])).push (excO C h.objs.size)).get? (h.objs.size + 1) = some (excO C h.objs.size) := by heap_get
  have hself : (Value.ref C :: bm).contains (.ref C) = true := by simp
  have j1 := hi.keeps k
  have j2 := (hb (.ref (h.objs.size + 1))).keeps k
  refine codeAny_of_tree ?_
  show wpAny _ _ (callAny (.ref C) _) _ _ _
  repeat (any_goals (first | assumption | with_reducible refine wpAny_loadPart_at hC ?_ | wp_step))
  refine ⟨rfl, ?_⟩
  refine codeAny_call_builtin_at (Code.quiet_builtin _ (by decide +kernel)) entry_typeCall (kw_ask hC ?_)
  repeat (first | with_reducible refine wpAny_loadPart_at hC ?_ | with_reducible refine wpAny_madeBy_exc hC ?_ | wp_step)
  refine codeAny_call_builtin_code (Code.quiet_builtin _ F.quiet) (kw_new_ask hv hC (kw_new hv hC ?_))
  show wpAny _ _ _ _ _ _
  unfold isInstance
  repeat (first | with_reducible refine wpAny_loadPart_at he ?_ | (with_reducible refine wpAny_isSubtype_exc hC2 ?_; rw [hself]) | wp_step)
  show wpAny _ _ (typeLookup (.ref C) _) _ _ _
  refine j1.at (wpAny_holding (wpAny_bind (j2.at ?_)))
  refine wpAny_bind (wpAny_call (codeAny_mono hq fun r s' z => ?_))
  rcases r with e | (u | _ | _ | _) <;> first | exact z | exact z.elim | skip
  obtain ⟨rfl, z⟩ := z
  first
    | exact wpAny_pure (wpAny_pure z)
    | (wp_walk; exact z)
end
end Jg
namespace Jg
open PySem PySem.Spec PyProof.Rows L2
/-! ### errors of own classes, held as values -/
/-- what self.f = y has made of the heap -/
def mkH (H : Hp) (a C dx : Addr) (f : Str) (y : V) : Hp := upd (upd (upd H a (exo a C none)) dx (exd dx [(f, y)])) a (exo a C (some dx))
def spIni (K : PySem.W.Frag) (f : Str) : Sp := fun vs H Q _ => ∃ (a C : Addr) (y : V), vs = [.ref a, y] ∧ OexC K C ∧ PySem.W.findIn K (.ref C) f = some none ∧ H a = some (exo a C none) ∧
  ∀ dx, H dx = none → dx ≠ a → Q .non (upd (upd H dx (exd dx [(f, y)])) a (exo a C (some dx)))
def kwTwo : List Value → List Value → List Value
  | [a], [v] => [a, v] | _, _ => []
def kwTwoV : List V → List V → List V
  | [a], [v] => [a, v] | _, _ => []
/-- a class of errors with a field -/
structure Kl (K : PySem.W.Frag) (mg : Str → Option Value) (x f : Str) (C fI : Addr) (fd : FuncData) : Prop where
  g : mg x = some (.ref C)
  kp : PySem.W.keepIn K (.ref C) = true
  T : OexC K C
  iC : PySem.W.findIn K (.ref C) "__init__" = some (some (.ref fI))
  tI : PySem.W.typeIn K (.ref fI) = some (.type "function")
  no : PySem.W.findIn K (.ref C) f = some none
  b : Binds K fd ["self", f] []
  kb : KBinds K fd ["self", f] [f] kwTwo kwTwoV
  xf : XfC K C
/-- a class of errors without -/
structure Kn (K : PySem.W.Frag) (mg : Str → Option Value) (x : Str) (C : Addr) : Prop where
  g : mg x = some (.ref C)
  kp : PySem.W.keepIn K (.ref C) = true
  q : PySem.W.excIn K C [.type "ValueError", .type "Exception", .type "BaseException", .type "object"] "ValueError.__new__" = true
def tMk (C : Addr) (f : Str) (te : TE) : TE := fun σ H Q => te σ H fun y H1 => ∀ a dx, H1 a = none → H1 dx = none → dx ≠ a → Q (.ref a) (mkH H1 a C dx f y)
section
variable {X : Cx} {x f : Str} {C fI : Addr} {fd : FuncData} {k : Nat} {CX : CXT} {e : Expr} {te : TE} {p pos kp : Pos}
/-- what the own __init__ has left, for the one who made the error -/
theorem mk_left {pins : List (Addr × Obj)} {σ : L2.St} {H1 : Hp} {hp : Heap} {g : Array GenState} {dr : Drawn} {tk : Nat} {os : OsState} {us : List Value} {kws : List (Str × Value)} {y : V} {u : Value} {Q : VK}
    (L : Kl X.K X.mg x f C fI fd) (G0 : FnOk X.prog X.w X.K X.mg X.base CX k fI fd ["self", f] (spIni X.K f)) (hr : Room (k + 1) X.A) (hx : Passes CX X (fun _ _ _ => False))
    (I1 : Inv X pins σ H1 ⟨hp, g, dr, tk, os⟩) (ry : RelV y u) (q : ∀ a dx, H1 a = none → H1 dx = none → dx ≠ a → Q (.ref a) (mkH H1 a C dx f y))
    (hb : ∀ s : Shared, X.K.In s.heap → BindsTo s fd ⟨Value.ref (hp.objs.size + 1) :: us, kws⟩ ((["self", f] : List Str).zip [Value.ref (hp.objs.size + 1), u])) :
    codeAny (model X.prog X.w) (X.A.under (.builtin "type.__call__" ⟨.ref C :: us, kws⟩)) (.call (.ref fI) ⟨.ref (hp.objs.size + 1) :: us, kws⟩)
      (PySem.W.InitBack (hp.objs.size + 1) fun r s' => match r with
        | .ok (.ret v) => EP X pins σ Q v s'
        | .ok _ => False
        | .error er => X.xe er s')
      ⟨(hp.push (PySem.W.kdv_tup us)).push (PySem.HandSPX.excO C hp.objs.size), g, dr, tk, os⟩ := by
  have hsz : hp.objs.size ≤ hp.objs.size + 1 := Nat.le_succ _
  have hn : H1 (hp.objs.size + 1) = none := I1.hok.fresh hsz
  have kk : ∀ b o, hp.get? b = some o → ((hp.push (PySem.W.kdv_tup us)).push (PySem.HandSPX.excO C hp.objs.size)).get? b = some o := fun b o e => Heap.get?_push_of_some _ (Heap.get?_push_of_some _ e)
  have hget : ((hp.push (PySem.W.kdv_tup us)).push (PySem.HandSPX.excO C hp.objs.size)).get? (hp.objs.size + 1) = some (PySem.HandSPX.excO C hp.objs.size) := by heap_get
  have I2 : Inv X pins σ (upd H1 (hp.objs.size + 1) (exo (hp.objs.size + 1) C none)) ⟨(hp.push (PySem.W.kdv_tup us)).push (PySem.HandSPX.excO C hp.objs.size), g, dr, tk, os⟩ :=
    I1.laid (t' := tk) (a := hp.objs.size + 1) (o := exo (hp.objs.size + 1) C none) (h' := (hp.push (PySem.W.kdv_tup us)).push (PySem.HandSPX.excO C hp.objs.size)) kk hsz (exo_ok hget)
  have r2 : Vals [V.ref (hp.objs.size + 1), y] [Value.ref (hp.objs.size + 1), u] := .cons rfl (.cons ry .nil)
  refine codeAny_mono (G0.run _ X.stack _ _ _ [Value.ref (hp.objs.size + 1), u] _ (fun v H3 => v = .non ∧ Q (.ref (hp.objs.size + 1)) H3) (fun _ _ _ => False) (hr.make C us kws) (I2.env0.make C us kws) (hb _ I2.kIn) r2
    ⟨_, C, y, rfl, L.T, L.no, upd_same, fun dx nd ne => ⟨rfl, q _ dx hn (by rw [upd_ne ne] at nd; exact nd) ne⟩⟩) fun r s' hq => ?_
  cases r with
  | error er => exact hx pins σ _ _ er s' I2 hq
  | ok fl =>
    cases fl with
    | ret v =>
      obtain ⟨v', H3, J, rv, ev, q3⟩ := I2.after hq
      subst ev
      exact ⟨rv, .ref (hp.objs.size + 1), H3, J, rfl, q3⟩
    | next => exact False.elim hq
    | brk => exact False.elim hq
    | cont => exact False.elim hq
/-- C(e) -/
theorem pe_mk (L : Kl X.K X.mg x f C fI fd) (G0 : FnOk X.prog X.w X.K X.mg X.base CX k fI fd ["self", f] (spIni X.K f)) (hr : Room (k + 1) X.A) (hg : Gl X x) (hx : Passes CX X (fun _ _ _ => False)) (he : PE X e te)
    (hdb : (x == ("__debug__" : Str)) = false := by decide) (hs : starEach [e] X.env = (false, eval e X.env) :: starEach [] X.env := by rfl) : PE X (.Call (.Name x p) [e] [] pos) (tMk C f te) := by
  refine ⟨fun pins s σ H Q I h => ?_⟩
  obtain ⟨nm, q, N, bs, bm, sn, sub, ab, col, dd, k0, k1, k2, k3, k5, hC, hbm⟩ := L.T.cls
  refine wpAny_Call_Name_kw (ld_glob I hg L.g ?_ hdb)
  refine PySem.W.callWith_K (h₀ := X.base) I.ok.mod.kin L.kp ?_ hs (by rfl)
  rw [hs]
  show wpAny _ _ (spliced ((false, eval e X.env) :: backTo pos (starEach [] X.env))) _ _ s
  refine Calls.spliced_cons (thn (he.run pins s σ H _ I h) fun u s1 ⟨y, H1, I1, ry, q1⟩ => ?_)
  refine Calls.spliced_nil ⟨I1.kIn, ?_⟩
  show wpAny _ _ (call (.ref C) [u]) _ _ _
  obtain ⟨hp, g, dr, tk, os⟩ := s1
  refine wpAny_call (PySem.HandSPX.call_own F.excBase_ValueError (fun Y => PySem.HandSPX.refsVE_contains Y bm hbm) (I1.kIn _ _ hC) (PySem.W.looks_findIn I1.kIn L.iC) (fun self => PySem.W.bind_fn I1.kIn self L.tI) (by show 1 ≤ sizeLine; rw [sizeLine_eq]; omega) ?_)
  exact mk_left L G0 hr hx I1 ry q1 fun s2 K2 => by
    have z := L.b s2 [Value.ref (hp.objs.size + 1), u] K2 rfl
    rw [List.append_nil] at z
    exact z
/-- C(f = e) -/
theorem pe_mkK (L : Kl X.K X.mg x f C fI fd) (G0 : FnOk X.prog X.w X.K X.mg X.base CX k fI fd ["self", f] (spIni X.K f)) (hr : Room (k + 1) X.A) (hg : Gl X x) (hx : Passes CX X (fun _ _ _ => False)) (he : PE X e te)
    (hall : (backToKw pos (keywordEach [⟨some f, e, kp⟩] X.env)).all (·.1.isSome) = true := by rfl) (hks : (backToKw pos (keywordEach [⟨some f, e, kp⟩] X.env)).filterMap (·.1) = [f] := by rfl) (hdb : (x == ("__debug__" : Str)) = false := by decide)
    (hpl : ((backTo pos (starEach [] X.env)).any (·.1) || (backToKw pos (keywordEach [⟨some f, e, kp⟩] X.env)).any (·.1.isNone)) = false := by rfl) : PE X (.Call (.Name x p) [] [⟨some f, e, kp⟩] pos) (tMk C f te) := by
  obtain ⟨nm, q, N, bs, bm, sn, sub, ab, col, dd, k0, k1, k2, k3, k5, hC, hbm⟩ := L.T.cls
  refine ⟨fun pins s σ H Q I h => wpAny_Call_Name_kw (ld_glob I hg L.g (PySem.W.callWith_KW0 (h₀ := X.base) I.ok.mod.kin L.kp hall ?_ hpl) hdb)⟩
  refine thn ((pk_cons he pk_nil).run pos pins s σ H (fun vs H1 => match vs with | [y] => ∀ a dx, H1 a = none → H1 dx = none → dx ≠ a → Q (.ref a) (mkH H1 a C dx f y) | _ => False) I h) fun ws s2 ⟨zs, H2, I2, rz, q2⟩ => ⟨I2.kIn, ?_⟩
  rw [hks]
  cases rz with
  | nil => exact False.elim q2
  | @cons y u0 ys ur ra rr =>
    cases rr with
    | cons a b => exact False.elim q2
    | nil =>
      show wpAny _ _ (call (.ref C) [] [(f, u0)]) _ _ _
      obtain ⟨hp, g, dr, tk, os⟩ := s2
      refine wpAny_call (kw_call hbm (I2.kIn _ _ hC) (PySem.W.looks_findIn I2.kIn L.iC) (fun self => PySem.W.bind_fn I2.kIn self L.tI) ?_)
      exact mk_left (us := []) L G0 hr hx I2 ra q2 fun s3 K3 => L.kb.to s3 [Value.ref (hp.objs.size + 1)] [u0] K3 rfl
/-- C(), without an own __init__ -/
theorem pe_mk0 (L : Kn X.K X.mg x C) (hg : Gl X x) (hdb : (x == ("__debug__" : Str)) = false := by decide) : PE X (.Call (.Name x p) [] [] pos) (fun _ H Q => ∀ a, H a = none → Q (.ref a) (upd H a (ExO (.ref C) a))) := by
  refine ⟨fun pins s σ H Q I h => wpAny_Call_Name_kw (ld_glob I hg L.g (PySem.W.callWith_K0 I.kIn L.kp ?_) hdb)⟩
  show wpAny _ _ (call (.ref C) []) _ _ _
  obtain ⟨bm, N, nm, qn, bs, hdct, sn, sub, ab, col, dd, k0, k1, k2, k3, k5, mN, hC, hN, hni, T⟩ := exc_obj I.kIn L.q
  refine wpAny_call_exc_subT F.excBase_ValueError T hC hN hni (fun h' a hm => ?_) (Nat.zero_le _)
  have hn : H a = none := I.hok.gone hm.new
  obtain ⟨t, ht, _, _⟩ := hm.there
  exact ⟨.ref a, _, I.laidN hm.keeps hm.new hn (exO_ok ht ⟨rfl, rfl⟩ rfl rfl rfl (show 4 < 6 by decide)), rfl, h a hn⟩
end
end Jg
namespace Jg
open PySem PySem.Spec PyProof.Rows L2
/-! ### errors looked at -/
def ErrF (H : Hp) (a C : Addr) (f : Str) (y : V) : Prop := ∃ dx, H a = some (exo a C (some dx)) ∧ H dx = some (exd dx [(f, y)])
def ErrN (H : Hp) (a C : Addr) : Prop := H a = some (ExO (.ref C) a)
def ErrAt (H : Hp) (a C : Addr) : Prop := (∃ f y, ErrF H a C f y) ∨ ErrN H a C
theorem ErrF.same {H H' : Hp} {a C : Addr} {f : Str} {y : V} (h : ErrF H a C f y) (s : Same H H') : ErrF H' a C f y := by
  obtain ⟨dx, h1, h2⟩ := h
  exact ⟨dx, s _ _ h1, s _ _ h2⟩
theorem ErrN.same {H H' : Hp} {a C : Addr} (h : ErrN H a C) (s : Same H H') : ErrN H' a C := s _ _ h
theorem ErrAt.same {H H' : Hp} {a C : Addr} (h : ErrAt H a C) (s : Same H H') : ErrAt H' a C := by
  rcases h with ⟨f, y, h⟩ | h
  · exact .inl ⟨f, y, h.same s⟩
  · exact .inr (h.same s)
theorem mkH_same {H : Hp} {a C dx : Addr} {f : Str} {y : V} (na : H a = none) (nd : H dx = none) (ne : dx ≠ a) : Same H (mkH H a C dx f y) := fun b o e => by
  have h1 : b ≠ a := ne_of_none e na
  have h2 : b ≠ dx := ne_of_none e nd
  show upd (upd (upd H a _) dx _) a _ b = some o
  rw [upd_ne h1, upd_ne h2, upd_ne h1]
  exact e
theorem mkH_err {H : Hp} {a C dx : Addr} {f : Str} {y : V} (ne : dx ≠ a) : ErrF (mkH H a C dx f y) a C f y := by
  refine ⟨dx, ?_, ?_⟩
  · exact upd_same
  · show upd (upd (upd H a _) dx _) a _ dx = _
    rw [upd_ne ne]
    exact upd_same
/-- isinstance(e, c), e an error of an own class -/
def rIsX (K : PySem.W.Frag) : List V → Hp → VK → Prop := fun xs H Q => ∃ (a C : Addr) (c : V) (cv : Value) (b : Bool), xs = [.ref a, c] ∧ ExcC K C ∧ ErrAt H a C ∧ (∀ u, RelV c u → u = cv) ∧ PySem.W.kitOne K (.ref C) cv = some b ∧ Q (.bl b) H
theorem err_inst {X : Cx} {pins : List (Addr × Obj)} {σ : L2.St} {H : Hp} {s : Shared} {a C : Addr} (I : Inv X pins σ H s) (h : ErrAt H a C) : ∃ ox od, PySem.W.InstAt s.heap a ox C od := by
  rcases h with ⟨f, y, dx, e1, e2⟩ | h
  · obtain ⟨t1, ho⟩ := exo_at I.hok e1
    obtain ⟨mA, ⟨o, es, ep, hd, hr⟩, _⟩ := exd_at I.hok e2
    exact ⟨_, some o, ho, rfl, rfl, hd⟩
  · obtain ⟨⟨oe, vs, ho, ⟨z1, z2⟩, hd, _⟩, _, _⟩ := I.hok a _ h
    obtain ⟨oc, od, oda, osl⟩ := oe
    dsimp only at z1 z2 hd
    subst z1 z2 hd
    exact ⟨_, none, ho, rfl, rfl, trivial⟩
theorem call_isX {X : Cx} : CallR X (.builtin "isinstance") (rIsX X.K) := by
  intro pins s σ H xs us Q I r h
  obtain ⟨a, C, c, cv, b, rfl, T, he, hcv, e, q⟩ := h
  cases r with
  | cons rx rr =>
    cases rr with
    | cons rt rr =>
      cases rr
      cases rx
      have ec := hcv _ rt
      subst ec
      obtain ⟨ox, od, J⟩ := err_inst I he
      have hcl : (PySem.W.clsIn X.K C).isSome = true := by
        obtain ⟨cd, hc, _⟩ := PySem.W.any_some T.hd
        rw [hc]
        rfl
      exact PySem.W.kia_one (PySem.W.kitx_exc hcl T.hg T.hk T.hs T.ha T.hn T.ht T.hm) I.kIn J e (fun z => nomatch z) fun tk => ⟨.bl b, H, I.kept (t' := tk) fun _ _ z => z, rfl, q⟩
/-- e.n, e such an error -/
def tXx (K : PySem.W.Frag) (n : Str) (te : TE) : TE := fun σ H Q => te σ H fun x H1 => ∃ (a C : Addr) (y : V), x = .ref a ∧ XfC K C ∧ PySem.W.findIn K (.ref C) n = some none ∧ ErrF H1 a C n y ∧ Q y H1
theorem pe_xx {X : Cx} {e : Expr} {te : TE} {pos : Pos} {n : Str} (he : PE X e te) (hb : attributeBase e n X.env (eval e X.env) = eval e X.env := by rfl) : PE X (.Attribute e n pos) (tXx X.K n te) := by
  refine ⟨fun pins s σ H Q I h => ?_⟩
  refine attr_of hb (thn (he.run pins s σ H _ I h) fun u s1 hh => ?_)
  obtain ⟨x, H1, I1, rx, a, C, y, ex, T, hno, ⟨dx, e1, e2⟩, q⟩ := hh
  subst ex
  obtain rfl : u = Value.ref a := rx
  obtain ⟨t1, ho⟩ := exo_at I1.hok e1
  obtain ⟨mA, hns, hr⟩ := exd_at I1.hok e2
  obtain ⟨od, hod, hl⟩ := lookIn_ns hns
  have l : ([(n, y)] : List (Str × V)).lookup n = some y := by simp
  obtain ⟨v, hv, rv⟩ := RelO.some_of (v := y) (o := mA n) (by rw [← l]; exact hr n)
  have J : PySem.W.InstAt s1.heap a _ C (some od) := ⟨ho, rfl, rfl, hod⟩
  exact PySem.HandSPX.exc_get I1.kIn J T.ga T.gg T.exC (PySem.W.findObj_own T.hdC hno rfl (by rw [hl, hv])) (handed_of rv) ⟨y, H1, I1.tok _, rv, q⟩
/-! ### which error is of which class -/
/-- the classes' own order, their first base RowError, over ValueError -/
structure Kin (K : PySem.W.Frag) (R C : Addr) : Prop where
  cls : ∃ cd, PySem.W.clsIn K C = some cd ∧ cd.mro = [.ref C, .ref R, .type "ValueError", .type "Exception", .type "BaseException", .type "object"]
  ty : PySem.W.typeIn K (.ref C) = some (.type "type")
  ex : ExcC K C
theorem Kin.sub {K : PySem.W.Frag} {R C : Addr} (h : Kin K R C) (base : Value) : PySem.W.subIn K (.ref C) base = some (([.ref C, .ref R, .type "ValueError", .type "Exception", .type "BaseException", .type "object"] : List Value).contains base) := by
  obtain ⟨cd, hc, hm⟩ := h.cls
  show PySem.W.mroIn K C base = _
  unfold PySem.W.mroIn
  rw [hc, Option.bind_some, hm]
  rfl
theorem kit_cls' {K : PySem.W.Frag} {t : Value} {D : Addr} (hc : (PySem.W.clsIn K D).isSome = true) (ht : PySem.W.typeIn K (.ref D) = some (.type "type")) : PySem.W.kitCls K t (.ref D) = PySem.W.subIn K t (.ref D) := by
  have e2 : ((PySem.W.clsIn K D).isSome && PySem.W.typeIn K (.ref D) == some (.type "type")) = true := by rw [hc, ht] <;> rfl
  show (if ((PySem.W.clsIn K D).isSome && PySem.W.typeIn K (.ref D) == some (.type "type")) = true then PySem.W.subIn K t (.ref D) else none) = _
  rw [if_pos e2]
theorem kit_own {K : PySem.W.Frag} {R C D : Addr} (h : Kin K R C) (g : Kin K R D) (hR : D ≠ R) : PySem.W.kitOne K (.ref C) (.ref D) = some (decide (C = D)) := by
  unfold PySem.W.kitOne
  by_cases e : C = D
  · rw [if_pos (by rw [e]; simp), decide_eq_true e]
  · have e1 : ¬ ((Value.ref C == Value.ref D) = true) := fun z => e (Value.ref.inj (beq_iff_eq.mp z))
    rw [if_neg e1, decide_eq_false e, kit_cls' (by obtain ⟨cd, hc, _⟩ := g.cls; rw [hc]; rfl) g.ty, h.sub]
    have n1 : (Value.ref D == Value.ref C) = false := by
      rw [beq_eq_false_iff_ne]
      exact fun z => e (Value.ref.inj z).symm
    have n2 : (Value.ref D == Value.ref R) = false := by
      rw [beq_eq_false_iff_ne]
      exact fun z => hR (Value.ref.inj z)
    simp only [List.contains_cons, n1, n2, Bool.false_or]
    rfl
theorem kit_base {K : PySem.W.Frag} {R C : Addr} (h : Kin K R C) (hd : PySem.W.hasDictIn K R = true) (ht : PySem.W.typeIn K (.ref R) = some (.type "type")) : PySem.W.kitOne K (.ref C) (.ref R) = some true := by
  unfold PySem.W.kitOne
  split
  · rfl
  · rw [kit_cls' (by obtain ⟨cd, hc, _⟩ := PySem.W.any_some hd; rw [hc]; rfl) ht, h.sub]
    simp [List.contains_cons]
theorem kit_veE {K : PySem.W.Frag} {R C : Addr} (h : Kin K R C) : PySem.W.kitOne K (.ref C) (.type "ValueError") = some true := by
  have e : PySem.W.kitMeta "ValueError" = true := by decide +kernel
  unfold PySem.W.kitOne
  split
  · rfl
  · show (if PySem.W.kitMeta "ValueError" = true then PySem.W.subIn K (.ref C) (.type "ValueError") else none) = some true
    rw [if_pos e, h.sub]
    simp only [List.contains_cons]
    rfl
end Jg
namespace Jg
open PySem PySem.Spec PyProof.Rows L2
/-! ### the classes' own __init__ -/
def iniS (i : Nat) : Stmt := match topS i with
  | .ClassDef _ _ _ b _ _ _ _ _ _ _ => b.getD 0 (.Pass ⟨0, 0, 0, 0⟩)
  | s => s
section
variable {P : Program} {w : World} {K : PySem.W.Frag} {mg : Str → Option Value} {base : Heap} {f : Addr} {fd : FuncData}
theorem ok_ini0 (F : Fun K "__init__" "BadRow.__init__" (iniS 2) f fd) : FnOk P w K mg base CX0 1 f fd ["self", "error"] (spIni K "error") := by
  refine F.ok (N := ["self", "error"]) ⟨rfl, rfl, rfl, by decide +kernel, rfl, by decide +kernel, by decide +kernel⟩ (fun vs H Q E h => ?_) (fun cdv A outer s H vs Q E hr h => ?_)
  · obtain ⟨a, C, y, rfl, _⟩ := h
    rfl
  · obtain ⟨a, C, y, rfl, T, no, e, q⟩ := h
    refine ⟨_, pss_one (ps_ost (pv 0) (pv 1)), ?_⟩
    exact ⟨y, rfl, _, rfl, a, C, rfl, T, no, .inl ⟨e, fun dx n ne => q dx n ne⟩⟩
theorem ok_ini1 (F : Fun K "__init__" "BadPoint.__init__" (iniS 3) f fd) : FnOk P w K mg base CX0 1 f fd ["self", "given"] (spIni K "given") := by
  refine F.ok (N := ["self", "given"]) ⟨rfl, rfl, rfl, by decide +kernel, rfl, by decide +kernel, by decide +kernel⟩ (fun vs H Q E h => ?_) (fun cdv A outer s H vs Q E hr h => ?_)
  · obtain ⟨a, C, y, rfl, _⟩ := h
    rfl
  · obtain ⟨a, C, y, rfl, T, no, e, q⟩ := h
    refine ⟨_, pss_one (ps_ost (pv 0) (pv 1)), ?_⟩
    exact ⟨y, rfl, _, rfl, a, C, rfl, T, no, .inl ⟨e, fun dx n ne => q dx n ne⟩⟩
theorem ok_ini2 (F : Fun K "__init__" "BadText.__init__" (iniS 4) f fd) : FnOk P w K mg base CX0 1 f fd ["self", "place"] (spIni K "place") := by
  refine F.ok (N := ["self", "place"]) ⟨rfl, rfl, rfl, by decide +kernel, rfl, by decide +kernel, by decide +kernel⟩ (fun vs H Q E h => ?_) (fun cdv A outer s H vs Q E hr h => ?_)
  · obtain ⟨a, C, y, rfl, _⟩ := h
    rfl
  · obtain ⟨a, C, y, rfl, T, no, e, q⟩ := h
    refine ⟨_, pss_one (ps_ost (pv 0) (pv 1)), ?_⟩
    exact ⟨y, rfl, _, rfl, a, C, rfl, T, no, .inl ⟨e, fun dx n ne => q dx n ne⟩⟩
theorem ok_ini7 (F : Fun K "__init__" "NoStep.__init__" (iniS 9) f fd) : FnOk P w K mg base CX0 1 f fd ["self", "number"] (spIni K "number") := by
  refine F.ok (N := ["self", "number"]) ⟨rfl, rfl, rfl, by decide +kernel, rfl, by decide +kernel, by decide +kernel⟩ (fun vs H Q E h => ?_) (fun cdv A outer s H vs Q E hr h => ?_)
  · obtain ⟨a, C, y, rfl, _⟩ := h
    rfl
  · obtain ⟨a, C, y, rfl, T, no, e, q⟩ := h
    refine ⟨_, pss_one (ps_ost (pv 0) (pv 1)), ?_⟩
    exact ⟨y, rfl, _, rfl, a, C, rfl, T, no, .inl ⟨e, fun dx n ne => q dx n ne⟩⟩
theorem ok_ini8 (F : Fun K "__init__" "NoInput.__init__" (iniS 10) f fd) : FnOk P w K mg base CX0 1 f fd ["self", "given"] (spIni K "given") := by
  refine F.ok (N := ["self", "given"]) ⟨rfl, rfl, rfl, by decide +kernel, rfl, by decide +kernel, by decide +kernel⟩ (fun vs H Q E h => ?_) (fun cdv A outer s H vs Q E hr h => ?_)
  · obtain ⟨a, C, y, rfl, _⟩ := h
    rfl
  · obtain ⟨a, C, y, rfl, T, no, e, q⟩ := h
    refine ⟨_, pss_one (ps_ost (pv 0) (pv 1)), ?_⟩
    exact ⟨y, rfl, _, rfl, a, C, rfl, T, no, .inl ⟨e, fun dx n ne => q dx n ne⟩⟩
theorem ok_ini9 (F : Fun K "__init__" "NoEnd.__init__" (iniS 11) f fd) : FnOk P w K mg base CX0 1 f fd ["self", "given"] (spIni K "given") := by
  refine F.ok (N := ["self", "given"]) ⟨rfl, rfl, rfl, by decide +kernel, rfl, by decide +kernel, by decide +kernel⟩ (fun vs H Q E h => ?_) (fun cdv A outer s H vs Q E hr h => ?_)
  · obtain ⟨a, C, y, rfl, _⟩ := h
    rfl
  · obtain ⟨a, C, y, rfl, T, no, e, q⟩ := h
    refine ⟨_, pss_one (ps_ost (pv 0) (pv 1)), ?_⟩
    exact ⟨y, rfl, _, rfl, a, C, rfl, T, no, .inl ⟨e, fun dx n ne => q dx n ne⟩⟩
theorem ok_ini10 (F : Fun K "__init__" "NoName.__init__" (iniS 12) f fd) : FnOk P w K mg base CX0 1 f fd ["self", "given"] (spIni K "given") := by
  refine F.ok (N := ["self", "given"]) ⟨rfl, rfl, rfl, by decide +kernel, rfl, by decide +kernel, by decide +kernel⟩ (fun vs H Q E h => ?_) (fun cdv A outer s H vs Q E hr h => ?_)
  · obtain ⟨a, C, y, rfl, _⟩ := h
    rfl
  · obtain ⟨a, C, y, rfl, T, no, e, q⟩ := h
    refine ⟨_, pss_one (ps_ost (pv 0) (pv 1)), ?_⟩
    exact ⟨y, rfl, _, rfl, a, C, rfl, T, no, .inl ⟨e, fun dx n ne => q dx n ne⟩⟩
theorem ok_ini11 (F : Fun K "__init__" "BadMoves.__init__" (iniS 13) f fd) : FnOk P w K mg base CX0 1 f fd ["self", "error"] (spIni K "error") := by
  refine F.ok (N := ["self", "error"]) ⟨rfl, rfl, rfl, by decide +kernel, rfl, by decide +kernel, by decide +kernel⟩ (fun vs H Q E h => ?_) (fun cdv A outer s H vs Q E hr h => ?_)
  · obtain ⟨a, C, y, rfl, _⟩ := h
    rfl
  · obtain ⟨a, C, y, rfl, T, no, e, q⟩ := h
    refine ⟨_, pss_one (ps_ost (pv 0) (pv 1)), ?_⟩
    exact ⟨y, rfl, _, rfl, a, C, rfl, T, no, .inl ⟨e, fun dx n ne => q dx n ne⟩⟩
theorem ok_ini12 (F : Fun K "__init__" "BadPlan.__init__" (iniS 14) f fd) : FnOk P w K mg base CX0 1 f fd ["self", "error"] (spIni K "error") := by
  refine F.ok (N := ["self", "error"]) ⟨rfl, rfl, rfl, by decide +kernel, rfl, by decide +kernel, by decide +kernel⟩ (fun vs H Q E h => ?_) (fun cdv A outer s H vs Q E hr h => ?_)
  · obtain ⟨a, C, y, rfl, _⟩ := h
    rfl
  · obtain ⟨a, C, y, rfl, T, no, e, q⟩ := h
    refine ⟨_, pss_one (ps_ost (pv 0) (pv 1)), ?_⟩
    exact ⟨y, rfl, _, rfl, a, C, rfl, T, no, .inl ⟨e, fun dx n ne => q dx n ne⟩⟩
theorem ok_ini13 (F : Fun K "__init__" "TooGreat.__init__" (iniS 15) f fd) : FnOk P w K mg base CX0 1 f fd ["self", "limit"] (spIni K "limit") := by
  refine F.ok (N := ["self", "limit"]) ⟨rfl, rfl, rfl, by decide +kernel, rfl, by decide +kernel, by decide +kernel⟩ (fun vs H Q E h => ?_) (fun cdv A outer s H vs Q E hr h => ?_)
  · obtain ⟨a, C, y, rfl, _⟩ := h
    rfl
  · obtain ⟨a, C, y, rfl, T, no, e, q⟩ := h
    refine ⟨_, pss_one (ps_ost (pv 0) (pv 1)), ?_⟩
    exact ⟨y, rfl, _, rfl, a, C, rfl, T, no, .inl ⟨e, fun dx n ne => q dx n ne⟩⟩
theorem ok_ini19 (F : Fun K "__init__" "NoVersion.__init__" (iniS 21) f fd) : FnOk P w K mg base CX0 1 f fd ["self", "given"] (spIni K "given") := by
  refine F.ok (N := ["self", "given"]) ⟨rfl, rfl, rfl, by decide +kernel, rfl, by decide +kernel, by decide +kernel⟩ (fun vs H Q E h => ?_) (fun cdv A outer s H vs Q E hr h => ?_)
  · obtain ⟨a, C, y, rfl, _⟩ := h
    rfl
  · obtain ⟨a, C, y, rfl, T, no, e, q⟩ := h
    refine ⟨_, pss_one (ps_ost (pv 0) (pv 1)), ?_⟩
    exact ⟨y, rfl, _, rfl, a, C, rfl, T, no, .inl ⟨e, fun dx n ne => q dx n ne⟩⟩
theorem ok_ini20 (F : Fun K "__init__" "Changed.__init__" (iniS 22) f fd) : FnOk P w K mg base CX0 1 f fd ["self", "name"] (spIni K "name") := by
  refine F.ok (N := ["self", "name"]) ⟨rfl, rfl, rfl, by decide +kernel, rfl, by decide +kernel, by decide +kernel⟩ (fun vs H Q E h => ?_) (fun cdv A outer s H vs Q E hr h => ?_)
  · obtain ⟨a, C, y, rfl, _⟩ := h
    rfl
  · obtain ⟨a, C, y, rfl, T, no, e, q⟩ := h
    refine ⟨_, pss_one (ps_ost (pv 0) (pv 1)), ?_⟩
    exact ⟨y, rfl, _, rfl, a, C, rfl, T, no, .inl ⟨e, fun dx n ne => q dx n ne⟩⟩
theorem ok_ini21 (F : Fun K "__init__" "Rejected.__init__" (iniS 23) f fd) : FnOk P w K mg base CX0 1 f fd ["self", "index"] (spIni K "index") := by
  refine F.ok (N := ["self", "index"]) ⟨rfl, rfl, rfl, by decide +kernel, rfl, by decide +kernel, by decide +kernel⟩ (fun vs H Q E h => ?_) (fun cdv A outer s H vs Q E hr h => ?_)
  · obtain ⟨a, C, y, rfl, _⟩ := h
    rfl
  · obtain ⟨a, C, y, rfl, T, no, e, q⟩ := h
    refine ⟨_, pss_one (ps_ost (pv 0) (pv 1)), ?_⟩
    exact ⟨y, rfl, _, rfl, a, C, rfl, T, no, .inl ⟨e, fun dx n ne => q dx n ne⟩⟩
end
/-! ### the table of the classes -/
def cA (Cs : List Addr) (i : Nat) : Addr := Cs.getD i 0
def fld : Nat → Option Str
  | 0 => some "error"
  | 1 => some "given"
  | 2 => some "place"
  | 7 => some "number"
  | 8 => some "given"
  | 9 => some "given"
  | 10 => some "given"
  | 11 => some "error"
  | 12 => some "error"
  | 13 => some "limit"
  | 19 => some "given"
  | 20 => some "name"
  | 21 => some "index"
  | _ => none
def Cl (P : Program) (w : World) (K : PySem.W.Frag) (mg : Str → Option Value) (base : Heap) (x f : Str) (C : Addr) : Prop := ∃ fI fd, Kl K mg x f C fI fd ∧ FnOk P w K mg base CX0 1 fI fd ["self", f] (spIni K f)
structure Errs (P : Program) (w : World) (K : PySem.W.Frag) (mg : Str → Option Value) (base : Heap) (R : Addr) (Cs : List Addr) : Prop where
  c0 : Cl P w K mg base "BadRow" "error" (cA Cs 0)
  c1 : Cl P w K mg base "BadPoint" "given" (cA Cs 1)
  c2 : Cl P w K mg base "BadText" "place" (cA Cs 2)
  c3 : Kn K mg "TooWide" (cA Cs 3)
  c4 : Kn K mg "TooLong" (cA Cs 4)
  c5 : Kn K mg "NotStraight" (cA Cs 5)
  c6 : Kn K mg "NotRound" (cA Cs 6)
  c7 : Cl P w K mg base "NoStep" "number" (cA Cs 7)
  c8 : Cl P w K mg base "NoInput" "given" (cA Cs 8)
  c9 : Cl P w K mg base "NoEnd" "given" (cA Cs 9)
  c10 : Cl P w K mg base "NoName" "given" (cA Cs 10)
  c11 : Cl P w K mg base "BadMoves" "error" (cA Cs 11)
  c12 : Cl P w K mg base "BadPlan" "error" (cA Cs 12)
  c13 : Cl P w K mg base "TooGreat" "limit" (cA Cs 13)
  c14 : Kn K mg "Unfit" (cA Cs 14)
  c15 : Kn K mg "Busy" (cA Cs 15)
  c16 : Kn K mg "Full" (cA Cs 16)
  c17 : Kn K mg "NothingDone" (cA Cs 17)
  c18 : Kn K mg "NothingUndone" (cA Cs 18)
  c19 : Cl P w K mg base "NoVersion" "given" (cA Cs 19)
  c20 : Cl P w K mg base "Changed" "name" (cA Cs 20)
  c21 : Cl P w K mg base "Rejected" "index" (cA Cs 21)
  c22 : Kn K mg "BadBatch" (cA Cs 22)
  kin : ∀ i, i < 23 → Kin K R (cA Cs i)
  ne : ∀ i j, i < 23 → j < 23 → cA Cs i = cA Cs j → i = j
  nR : ∀ i, i < 23 → cA Cs i ≠ R
  gR : mg "RowError" = some (.ref R)
  hdR : PySem.W.hasDictIn K R = true
  tyR : PySem.W.typeIn K (.ref R) = some (.type "type")
  gV : mg "ValueError" = none
def ErrAs (Cs : List Addr) (H : Hp) (a : Addr) (i : Nat) (y : V) : Prop := match fld i with
  | some f => ErrF H a (cA Cs i) f y
  | none => ErrN H a (cA Cs i)
theorem ErrAs.same {Cs : List Addr} {H H' : Hp} {a : Addr} {i : Nat} {y : V} (h : ErrAs Cs H a i y) (s : Same H H') : ErrAs Cs H' a i y := by
  unfold ErrAs at *
  split at h
  · exact ErrF.same h s
  · exact ErrN.same h s
theorem ErrAs.at_ {Cs : List Addr} {H : Hp} {a : Addr} {i : Nat} {y : V} (h : ErrAs Cs H a i y) : ErrAt H a (cA Cs i) := by
  unfold ErrAs at h
  split at h
  · exact .inl ⟨_, _, h⟩
  · exact .inr h
def Made (Cs : List Addr) (H : Hp) (y : V) : List Addr → List Nat → Prop
  | [], [] => True
  | a :: as, i :: is => ErrAs Cs H a i y ∧ Made Cs H y as is
  | _, _ => False
theorem Made.same {Cs : List Addr} {H H' : Hp} {y : V} (s : Same H H') : ∀ {as : List Addr} {is : List Nat}, Made Cs H y as is → Made Cs H' y as is
  | [], [], _ => trivial
  | [], _ :: _, h => h.elim
  | _ :: _, [], h => h.elim
  | _ :: _, _ :: _, ⟨h1, h2⟩ => ⟨h1.same s, Made.same s h2⟩
theorem Made.append {Cs : List Addr} {H : Hp} {y : V} : ∀ {as : List Addr} {is : List Nat} {bs : List Addr} {js : List Nat}, Made Cs H y as is → Made Cs H y bs js → Made Cs H y (as ++ bs) (is ++ js)
  | [], [], _, _, _, k => k
  | [], _ :: _, _, _, h, _ => h.elim
  | _ :: _, [], _, _, h, _ => h.elim
  | _ :: _, _ :: _, _, _, ⟨h1, h2⟩, k => ⟨h1, Made.append h2 k⟩
theorem Made.len {Cs : List Addr} {H : Hp} {y : V} : ∀ {as : List Addr} {is : List Nat}, Made Cs H y as is → as.length = is.length
  | [], [], _ => rfl
  | [], _ :: _, h => h.elim
  | _ :: _, [], h => h.elim
  | _ :: _, _ :: _, ⟨_, h⟩ => congrArg Nat.succ (Made.len h)
theorem Made.pick {Cs : List Addr} {H : Hp} {y : V} : ∀ {as : List Addr} {is : List Nat} {k i : Nat}, Made Cs H y as is → is[k]? = some i → ∃ a, as[k]? = some a ∧ ErrAs Cs H a i y
  | [], [], _, _, _, e => by cases e
  | [], _ :: _, _, _, h, _ => h.elim
  | _ :: _, [], _, _, h, _ => h.elim
  | a :: _, i :: _, 0, _, ⟨h1, _⟩, e => by
    cases e
    exact ⟨a, rfl, h1⟩
  | _ :: _, _ :: _, k + 1, _, ⟨_, h⟩, e => Made.pick (k := k) h e
theorem Errs.kit {P : Program} {w : World} {K : PySem.W.Frag} {mg : Str → Option Value} {base : Heap} {R : Addr} {Cs : List Addr} (T : Errs P w K mg base R Cs) {i j : Nat} (hi : i < 23) (hj : j < 23) : PySem.W.kitOne K (.ref (cA Cs i)) (.ref (cA Cs j)) = some (decide (i = j)) := by
  rw [kit_own (T.kin i hi) (T.kin j hj) (T.nR j hj)]
  by_cases e : i = j
  · rw [e]
    simp
  · rw [decide_eq_false e, decide_eq_false fun z => e (T.ne i j hi hj z)]
end Jg
namespace Jg
open PySem PySem.Spec PyProof.Rows L2
/-! ### _law_made and _law_classes -/
abbrev sMade : Stmt := topS 56
abbrev nMade : List Str := ["_law_one_here", "_law_found"]
theorem scMade : FnScope nMade ["_law_one_here"] (defScope sMade) := ⟨rfl, rfl, rfl, by decide +kernel, rfl, by decide +kernel, by decide +kernel⟩
abbrev sCls : Stmt := topS 57
abbrev nCls : List Str := ["_law_error", "_law_found"]
theorem scCls : FnScope nCls ["_law_error"] (defScope sCls) := ⟨rfl, rfl, rfl, by decide +kernel, rfl, by decide +kernel, by decide +kernel⟩
/-- an error of the i-th class, of what the m-th slot holds -/
def tM (m : Nat) (Cs : List Addr) (i : Nat) : TE := fun σ H Q => ∃ y, σ[m]? = some (some y) ∧ ∀ a H', Same H H' → H a = none → ErrAs Cs H' a i y → Q (.ref a) H'
def tMs (m : Nat) (Cs : List Addr) (is : List Nat) : TA := fun σ H Q => ∃ y, σ[m]? = some (some y) ∧ ∀ as H', Same H H' → Made Cs H' y as is → Q (as.map V.ref) H'
theorem pe_imp' {X : Cx} {e : Expr} {t t' : TE} (h : PE X e t) (k : ∀ σ H Q, t' σ H Q → t σ H Q) : PE X e t' := pe_imp h k
theorem ms_nil {X : Cx} {m : Nat} {Cs : List Addr} : PA X [] (tMs m Cs []) := pa_imp pa_nil fun σ H Q ⟨y, _, q⟩ => q [] H (Same.refl H) trivial
theorem ms_cons {X : Cx} {m : Nat} {Cs : List Addr} {e : Expr} {es : List Expr} {i : Nat} {is : List Nat} (h : PE X e (tM m Cs i)) (hr : PA X es (tMs m Cs is)) (hs : starEach (e :: es) X.env = (false, eval e X.env) :: starEach es X.env := by rfl) : PA X (e :: es) (tMs m Cs (i :: is)) :=
  pa_imp (pa_cons h hr hs) fun σ H Q ⟨y, hy, q⟩ => ⟨y, hy, fun a H1 s1 n1 e1 => ⟨y, hy, fun as H2 s2 m2 => q (a :: as) H2 (s1.trans s2) ⟨e1.same s2, m2⟩⟩⟩
section
variable {X : Cx} {P : Program} {w : World} {K : PySem.W.Frag} {mg : Str → Option Value} {base : Heap} {Cs : List Addr} {R : Addr}
theorem m_of {m i : Nat} {x f : Str} {e : Expr} (hf : fld i = some f) (h : PE X e (tMk (cA Cs i) f (tVar m))) : PE X e (tM m Cs i) := pe_imp h fun σ H Q ⟨y, hy, q⟩ => ⟨y, hy, fun a dx na nd ne => q a _ (mkH_same na nd ne) na (by
  unfold ErrAs
  rw [hf]
  exact mkH_err ne)⟩
theorem m_no {m i : Nat} {e : Expr} (hf : fld i = none) (h : PE X e (fun _ H Q => ∀ a, H a = none → Q (.ref a) (upd H a (ExO (.ref (cA Cs i)) a)))) : PE X e (tM m Cs i) := pe_imp h fun σ H Q ⟨y, hy, q⟩ a na => q a _ (same_upd na) na (by
  unfold ErrAs
  rw [hf]
  exact upd_same)
/-- a list of errors -/
def tL (m : Nat) (Cs : List Addr) (is : List Nat) : TE := fun σ H Q => ∃ y, σ[m]? = some (some y) ∧ is.length ≤ 100 ∧ ∀ p as H', Same H H' → H p = none → H' p = some (.lst (as.map V.ref)) → Made Cs H' y as is → Q (.ref p) H'
theorem pl_of {m : Nat} {is : List Nat} {es : List Expr} {pos : Pos} (h : PA X es (tMs m Cs is)) : PE X (.List es pos) (tL m Cs is) :=
  pe_imp (pe_lst h) fun σ H Q ⟨y, hy, hl, q⟩ => ⟨y, hy, fun as H1 s1 m1 => ⟨Nat.le_of_lt (small1000 (by rw [List.length_map, m1.len]; omega)), fun p np => q p as _ (s1.trans (same_upd np)) (s1.free np) upd_same (m1.same (same_upd np))⟩⟩
theorem cat_of {m v : Nat} {is : List Nat} {x y : Expr} {pos : Pos} (hx : PE X x (tVar v)) (hy : PE X y (tL m Cs is)) : PE X (.BinOp x .Add y pos) (fun σ H Q => ∃ (z : V) (p : Addr) (as : List Addr) (js : List Nat), σ[m]? = some (some z) ∧ σ[v]? = some (some (.ref p)) ∧ H p = some (.lst (as.map V.ref)) ∧ Made Cs H z as js ∧ js.length ≤ 100 ∧ is.length ≤ 100 ∧
    ∀ p' as' H', Same H H' → H p' = none → H' p' = some (.lst (as'.map V.ref)) → Made Cs H' z as' (js ++ is) → Q (.ref p') H') :=
  pe_imp (pe_op op_cat hx hy) fun σ H Q ⟨z, p, as, js, hm, hv, hp, hmd, hj, hi, q⟩ => ⟨_, hv, z, hm, hi, fun p2 bs H2 s2 n2 e2 m2 => ⟨p, p2, as.map V.ref, bs.map V.ref, rfl, rfl, s2 _ _ hp, e2, Nat.le_of_lt (small1000 (by rw [List.length_map, List.length_map, m2.len, hmd.len]; omega)), fun p3 n3 => by
    refine q p3 (as ++ bs) _ (s2.trans (same_upd n3)) (s2.free n3) ?_ (((hmd.same s2).append m2).same (same_upd n3))
    rw [upd_same, List.map_append]⟩⟩
end
section
variable {P : Program} {w : World} {K : PySem.W.Frag} {mg : Str → Option Value} {base : Heap} {Cs : List Addr} {R : Addr}
def spMade (Cs : List Addr) : Sp := fun vs H Q _ => ∃ y : V, vs = [y] ∧ ∀ p as H', Same H H' → H p = none → H' p = some (.lst (as.map V.ref)) → Made Cs H' y as (List.range 23) → Q (.ref p) H'
set_option maxHeartbeats 4000000 in
theorem ok_made {f : Addr} {fd : FuncData} (F : Fun K "_law_made" "_law_made" sMade f fd) (T : Errs P w K mg base R Cs) : FnOk P w K mg base CX0 3 f fd ["_law_one_here"] (spMade Cs) := by
  refine F.ok scMade (fun vs H Q E h => ?_) (fun cdv A outer s H vs Q E hr h => ?_)
  · obtain ⟨y, rfl, _⟩ := h
    rfl
  · obtain ⟨y, rfl, q⟩ := h
    refine ⟨_, pss_cons (ps_set (i := 1) scMade.nd rfl (.inl rfl) (pl_of (m := 0) (Cs := Cs) (is := [0, 1, 2, 3, 4, 5, 6]) (ms_cons (m_of (x := "BadRow") (f := "error") rfl (by obtain ⟨fI, fd, L, G⟩ := T.c0; exact pe_mk L G hr (by rfl) pass0 (pv 0))) (ms_cons (m_of (x := "BadPoint") (f := "given") rfl (by obtain ⟨fI, fd, L, G⟩ := T.c1; exact pe_mk L G hr (by rfl) pass0 (pv 0))) (ms_cons (m_of (x := "BadText") (f := "place") rfl (by obtain ⟨fI, fd, L, G⟩ := T.c2; exact pe_mk L G hr (by rfl) pass0 (pv 0))) (ms_cons (m_no rfl (pe_mk0 T.c3 (by rfl))) (ms_cons (m_no rfl (pe_mk0 T.c4 (by rfl))) (ms_cons (m_no rfl (pe_mk0 T.c5 (by rfl))) (ms_cons (m_no rfl (pe_mk0 T.c6 (by rfl))) ms_nil)))))))))
      (pss_cons (ps_set (i := 1) scMade.nd rfl (.inl rfl) (cat_of (m := 0) (v := 1) (Cs := Cs) (is := [7, 8, 9, 10, 11, 12]) (pv 1) (pl_of (ms_cons (m_of (x := "NoStep") (f := "number") rfl (by obtain ⟨fI, fd, L, G⟩ := T.c7; exact pe_mk L G hr (by rfl) pass0 (pv 0))) (ms_cons (m_of (x := "NoInput") (f := "given") rfl (by obtain ⟨fI, fd, L, G⟩ := T.c8; exact pe_mk L G hr (by rfl) pass0 (pv 0))) (ms_cons (m_of (x := "NoEnd") (f := "given") rfl (by obtain ⟨fI, fd, L, G⟩ := T.c9; exact pe_mk L G hr (by rfl) pass0 (pv 0))) (ms_cons (m_of (x := "NoName") (f := "given") rfl (by obtain ⟨fI, fd, L, G⟩ := T.c10; exact pe_mk L G hr (by rfl) pass0 (pv 0))) (ms_cons (m_of (x := "BadMoves") (f := "error") rfl (by obtain ⟨fI, fd, L, G⟩ := T.c11; exact pe_mk L G hr (by rfl) pass0 (pv 0))) (ms_cons (m_of (x := "BadPlan") (f := "error") rfl (by obtain ⟨fI, fd, L, G⟩ := T.c12; exact pe_mk L G hr (by rfl) pass0 (pv 0))) ms_nil)))))))))
      (pss_cons (ps_set (i := 1) scMade.nd rfl (.inl rfl) (cat_of (m := 0) (v := 1) (Cs := Cs) (is := [13, 14, 15, 16, 17, 18, 19]) (pv 1) (pl_of (ms_cons (m_of (x := "TooGreat") (f := "limit") rfl (by obtain ⟨fI, fd, L, G⟩ := T.c13; exact pe_mk L G hr (by rfl) pass0 (pv 0))) (ms_cons (m_no rfl (pe_mk0 T.c14 (by rfl))) (ms_cons (m_no rfl (pe_mk0 T.c15 (by rfl))) (ms_cons (m_no rfl (pe_mk0 T.c16 (by rfl))) (ms_cons (m_no rfl (pe_mk0 T.c17 (by rfl))) (ms_cons (m_no rfl (pe_mk0 T.c18 (by rfl))) (ms_cons (m_of (x := "NoVersion") (f := "given") rfl (by obtain ⟨fI, fd, L, G⟩ := T.c19; exact pe_mk L G hr (by rfl) pass0 (pv 0))) ms_nil))))))))))
      (pss_cons (ps_set (i := 1) scMade.nd rfl (.inl rfl) (cat_of (m := 0) (v := 1) (Cs := Cs) (is := [20, 21, 22]) (pv 1) (pl_of (ms_cons (m_of (x := "Changed") (f := "name") rfl (by obtain ⟨fI, fd, L, G⟩ := T.c20; exact pe_mk L G hr (by rfl) pass0 (pv 0))) (ms_cons (m_of (x := "Rejected") (f := "index") rfl (by obtain ⟨fI, fd, L, G⟩ := T.c21; exact pe_mk L G hr (by rfl) pass0 (pv 0))) (ms_cons (m_no rfl (pe_mk0 T.c22 (by rfl))) ms_nil))))))
      (pss_one (ps_ret (pv 1)))))), ?_⟩
    refine ⟨y, rfl, by decide, fun p1 as1 H1 s1 n1 e1 m1 => ?_⟩
    refine ⟨y, p1, as1, _, rfl, rfl, e1, m1, by decide, by decide, fun p2 as2 H2 s2 n2 e2 m2 => ?_⟩
    refine ⟨y, p2, as2, _, rfl, rfl, e2, m2, by decide, by decide, fun p3 as3 H3 s3 n3 e3 m3 => ?_⟩
    refine ⟨y, p3, as3, _, rfl, rfl, e3, m3, by decide, by decide, fun p4 as4 H4 s4 n4 e4 m4 => ?_⟩
    exact ⟨_, rfl, q p4 as4 H4 (s1.trans (s2.trans (s3.trans s4))) (s1.free (s2.free (s3.free n4))) e4 m4⟩
theorem lB {n : Nat} (h : Nat.ble n 1000 = true) : n ≤ sizeLine := Nat.le_of_lt (small1000 (Nat.le_of_ble_eq_true h))
/-- is the i-th of the j-th class? -/
def bls (i : Nat) (js : List Nat) : List V := js.map fun j => V.bl (decide (i = j))
def tB (Cs : List Addr) (a : Addr) (i : Nat) (y : V) (j : Nat) : TE := fun σ H Q => σ[0]? = some (some (.ref a)) ∧ ErrAs Cs H a i y ∧ Q (.bl (decide (i = j))) H
def tBs (Cs : List Addr) (a : Addr) (i : Nat) (y : V) (js : List Nat) : TA := fun σ H Q => σ[0]? = some (some (.ref a)) ∧ ErrAs Cs H a i y ∧ Q (bls i js) H
theorem b_of {X : Cx} {a : Addr} {i j : Nat} {y : V} {e : Expr} (hi : i < 23) (hj : j < 23) (T : Errs P w X.K mg base R Cs) (h : PE X e (fun σ H Q => (tCons (tVar 0) (tCons (tC (.ref (cA Cs j))) tNil)) σ H fun xs H1 => rIsX X.K xs H1 Q)) : PE X e (tB Cs a i y j) :=
  pe_imp h fun σ H Q ⟨h0, he, q⟩ => ⟨_, h0, a, cA Cs i, .ref (cA Cs j), .ref (cA Cs j), _, rfl, (T.kin i hi).ex, he.at_, (fun u hu => by cases hu; rfl), T.kit hi hj, q⟩
theorem bs_nil {X : Cx} {a : Addr} {i : Nat} {y : V} : PA X [] (tBs Cs a i y []) := pa_imp pa_nil fun σ H Q ⟨_, _, q⟩ => q
theorem bs_cons {X : Cx} {a : Addr} {i : Nat} {y : V} {e : Expr} {es : List Expr} {j : Nat} {js : List Nat} (h : PE X e (tB Cs a i y j)) (hr : PA X es (tBs Cs a i y js)) (hs : starEach (e :: es) X.env = (false, eval e X.env) :: starEach es X.env := by rfl) : PA X (e :: es) (tBs Cs a i y (j :: js)) :=
  pa_imp (pa_cons h hr hs) fun σ H Q ⟨h0, he, q⟩ => ⟨h0, he, h0, he, q⟩
def spCls (Cs : List Addr) : Sp := fun vs H Q _ => ∃ (a : Addr) (i : Nat) (y : V), vs = [.ref a] ∧ i < 23 ∧ ErrAs Cs H a i y ∧ ∀ p H', Same H H' → H p = none → H' p = some (.lst (bls i (List.range 23))) → Q (.ref p) H'
set_option maxHeartbeats 4000000 in
theorem ok_cls {f : Addr} {fd : FuncData} (F : Fun K "_law_classes" "_law_classes" sCls f fd) (mi : mg "isinstance" = none) (T : Errs P w K mg base R Cs) : FnOk P w K mg base CX0 1 f fd ["_law_error"] (spCls Cs) := by
  refine F.ok scCls (fun vs H Q E h => ?_) (fun cdv A outer s H vs Q E hr h => ?_)
  · obtain ⟨a, i, y, rfl, _⟩ := h
    rfl
  · obtain ⟨a, i, y, rfl, hi, he, q⟩ := h
    refine ⟨_, pss_cons (ps_set (i := 1) scCls.nd rfl (.inl rfl) (pe_lst (t := tBs Cs a i y [0, 1, 2]) (bs_cons (b_of hi (j := 0) (by decide) T (pe_callB call_isX (by rfl) mi PyProof.Rows.boot_isinstance (pa_cons (pv 0) (pa_cons (pe_glob (v := .ref (cA Cs 0)) (by rfl) (by obtain ⟨fI, fd, L, G⟩ := T.c0; exact L.g) rfl) pa_nil)))) (bs_cons (b_of hi (j := 1) (by decide) T (pe_callB call_isX (by rfl) mi PyProof.Rows.boot_isinstance (pa_cons (pv 0) (pa_cons (pe_glob (v := .ref (cA Cs 1)) (by rfl) (by obtain ⟨fI, fd, L, G⟩ := T.c1; exact L.g) rfl) pa_nil)))) (bs_cons (b_of hi (j := 2) (by decide) T (pe_callB call_isX (by rfl) mi PyProof.Rows.boot_isinstance (pa_cons (pv 0) (pa_cons (pe_glob (v := .ref (cA Cs 2)) (by rfl) (by obtain ⟨fI, fd, L, G⟩ := T.c2; exact L.g) rfl) pa_nil)))) bs_nil)))))
      (pss_cons (ps_set (i := 1) scCls.nd rfl (.inl rfl) (pe_op op_cat (pv 1) (pe_lst (t := tBs Cs a i y [3, 4, 5]) (bs_cons (b_of hi (j := 3) (by decide) T (pe_callB call_isX (by rfl) mi PyProof.Rows.boot_isinstance (pa_cons (pv 0) (pa_cons (pe_glob (v := .ref (cA Cs 3)) (by rfl) T.c3.g rfl) pa_nil)))) (bs_cons (b_of hi (j := 4) (by decide) T (pe_callB call_isX (by rfl) mi PyProof.Rows.boot_isinstance (pa_cons (pv 0) (pa_cons (pe_glob (v := .ref (cA Cs 4)) (by rfl) T.c4.g rfl) pa_nil)))) (bs_cons (b_of hi (j := 5) (by decide) T (pe_callB call_isX (by rfl) mi PyProof.Rows.boot_isinstance (pa_cons (pv 0) (pa_cons (pe_glob (v := .ref (cA Cs 5)) (by rfl) T.c5.g rfl) pa_nil)))) bs_nil))))))
      (pss_cons (ps_set (i := 1) scCls.nd rfl (.inl rfl) (pe_op op_cat (pv 1) (pe_lst (t := tBs Cs a i y [6, 7, 8]) (bs_cons (b_of hi (j := 6) (by decide) T (pe_callB call_isX (by rfl) mi PyProof.Rows.boot_isinstance (pa_cons (pv 0) (pa_cons (pe_glob (v := .ref (cA Cs 6)) (by rfl) T.c6.g rfl) pa_nil)))) (bs_cons (b_of hi (j := 7) (by decide) T (pe_callB call_isX (by rfl) mi PyProof.Rows.boot_isinstance (pa_cons (pv 0) (pa_cons (pe_glob (v := .ref (cA Cs 7)) (by rfl) (by obtain ⟨fI, fd, L, G⟩ := T.c7; exact L.g) rfl) pa_nil)))) (bs_cons (b_of hi (j := 8) (by decide) T (pe_callB call_isX (by rfl) mi PyProof.Rows.boot_isinstance (pa_cons (pv 0) (pa_cons (pe_glob (v := .ref (cA Cs 8)) (by rfl) (by obtain ⟨fI, fd, L, G⟩ := T.c8; exact L.g) rfl) pa_nil)))) bs_nil))))))
      (pss_cons (ps_set (i := 1) scCls.nd rfl (.inl rfl) (pe_op op_cat (pv 1) (pe_lst (t := tBs Cs a i y [9, 10, 11]) (bs_cons (b_of hi (j := 9) (by decide) T (pe_callB call_isX (by rfl) mi PyProof.Rows.boot_isinstance (pa_cons (pv 0) (pa_cons (pe_glob (v := .ref (cA Cs 9)) (by rfl) (by obtain ⟨fI, fd, L, G⟩ := T.c9; exact L.g) rfl) pa_nil)))) (bs_cons (b_of hi (j := 10) (by decide) T (pe_callB call_isX (by rfl) mi PyProof.Rows.boot_isinstance (pa_cons (pv 0) (pa_cons (pe_glob (v := .ref (cA Cs 10)) (by rfl) (by obtain ⟨fI, fd, L, G⟩ := T.c10; exact L.g) rfl) pa_nil)))) (bs_cons (b_of hi (j := 11) (by decide) T (pe_callB call_isX (by rfl) mi PyProof.Rows.boot_isinstance (pa_cons (pv 0) (pa_cons (pe_glob (v := .ref (cA Cs 11)) (by rfl) (by obtain ⟨fI, fd, L, G⟩ := T.c11; exact L.g) rfl) pa_nil)))) bs_nil))))))
      (pss_cons (ps_set (i := 1) scCls.nd rfl (.inl rfl) (pe_op op_cat (pv 1) (pe_lst (t := tBs Cs a i y [12, 13, 14]) (bs_cons (b_of hi (j := 12) (by decide) T (pe_callB call_isX (by rfl) mi PyProof.Rows.boot_isinstance (pa_cons (pv 0) (pa_cons (pe_glob (v := .ref (cA Cs 12)) (by rfl) (by obtain ⟨fI, fd, L, G⟩ := T.c12; exact L.g) rfl) pa_nil)))) (bs_cons (b_of hi (j := 13) (by decide) T (pe_callB call_isX (by rfl) mi PyProof.Rows.boot_isinstance (pa_cons (pv 0) (pa_cons (pe_glob (v := .ref (cA Cs 13)) (by rfl) (by obtain ⟨fI, fd, L, G⟩ := T.c13; exact L.g) rfl) pa_nil)))) (bs_cons (b_of hi (j := 14) (by decide) T (pe_callB call_isX (by rfl) mi PyProof.Rows.boot_isinstance (pa_cons (pv 0) (pa_cons (pe_glob (v := .ref (cA Cs 14)) (by rfl) T.c14.g rfl) pa_nil)))) bs_nil))))))
      (pss_cons (ps_set (i := 1) scCls.nd rfl (.inl rfl) (pe_op op_cat (pv 1) (pe_lst (t := tBs Cs a i y [15, 16, 17]) (bs_cons (b_of hi (j := 15) (by decide) T (pe_callB call_isX (by rfl) mi PyProof.Rows.boot_isinstance (pa_cons (pv 0) (pa_cons (pe_glob (v := .ref (cA Cs 15)) (by rfl) T.c15.g rfl) pa_nil)))) (bs_cons (b_of hi (j := 16) (by decide) T (pe_callB call_isX (by rfl) mi PyProof.Rows.boot_isinstance (pa_cons (pv 0) (pa_cons (pe_glob (v := .ref (cA Cs 16)) (by rfl) T.c16.g rfl) pa_nil)))) (bs_cons (b_of hi (j := 17) (by decide) T (pe_callB call_isX (by rfl) mi PyProof.Rows.boot_isinstance (pa_cons (pv 0) (pa_cons (pe_glob (v := .ref (cA Cs 17)) (by rfl) T.c17.g rfl) pa_nil)))) bs_nil))))))
      (pss_cons (ps_set (i := 1) scCls.nd rfl (.inl rfl) (pe_op op_cat (pv 1) (pe_lst (t := tBs Cs a i y [18, 19, 20]) (bs_cons (b_of hi (j := 18) (by decide) T (pe_callB call_isX (by rfl) mi PyProof.Rows.boot_isinstance (pa_cons (pv 0) (pa_cons (pe_glob (v := .ref (cA Cs 18)) (by rfl) T.c18.g rfl) pa_nil)))) (bs_cons (b_of hi (j := 19) (by decide) T (pe_callB call_isX (by rfl) mi PyProof.Rows.boot_isinstance (pa_cons (pv 0) (pa_cons (pe_glob (v := .ref (cA Cs 19)) (by rfl) (by obtain ⟨fI, fd, L, G⟩ := T.c19; exact L.g) rfl) pa_nil)))) (bs_cons (b_of hi (j := 20) (by decide) T (pe_callB call_isX (by rfl) mi PyProof.Rows.boot_isinstance (pa_cons (pv 0) (pa_cons (pe_glob (v := .ref (cA Cs 20)) (by rfl) (by obtain ⟨fI, fd, L, G⟩ := T.c20; exact L.g) rfl) pa_nil)))) bs_nil))))))
      (pss_cons (ps_set (i := 1) scCls.nd rfl (.inl rfl) (pe_op op_cat (pv 1) (pe_lst (t := tBs Cs a i y [21, 22]) (bs_cons (b_of hi (j := 21) (by decide) T (pe_callB call_isX (by rfl) mi PyProof.Rows.boot_isinstance (pa_cons (pv 0) (pa_cons (pe_glob (v := .ref (cA Cs 21)) (by rfl) (by obtain ⟨fI, fd, L, G⟩ := T.c21; exact L.g) rfl) pa_nil)))) (bs_cons (b_of hi (j := 22) (by decide) T (pe_callB call_isX (by rfl) mi PyProof.Rows.boot_isinstance (pa_cons (pv 0) (pa_cons (pe_glob (v := .ref (cA Cs 22)) (by rfl) T.c22.g rfl) pa_nil)))) bs_nil)))))
      (pss_one (ps_ret (pv 1)))))))))), ?_⟩
    refine ⟨rfl, he, lB rfl, fun p1 n1 => ?_⟩
    have s1 := same_upd (o := .lst (bls i [0, 1, 2])) n1
    have h1 := he.same s1
    refine ⟨_, rfl, rfl, h1, lB rfl, fun r2 m2 => ?_⟩
    have u2 := same_upd (o := .lst (bls i [3, 4, 5])) m2
    refine ⟨p1, r2, bls i [0, 1, 2], bls i [3, 4, 5], rfl, rfl, u2 _ _ upd_same, upd_same, lB rfl, fun p2 n2 => ?_⟩
    have t2 := u2.trans (same_upd (o := .lst (bls i [0, 1, 2, 3, 4, 5])) n2)
    have h2 := h1.same t2
    refine ⟨_, rfl, rfl, h2, lB rfl, fun r3 m3 => ?_⟩
    have u3 := same_upd (o := .lst (bls i [6, 7, 8])) m3
    refine ⟨p2, r3, bls i [0, 1, 2, 3, 4, 5], bls i [6, 7, 8], rfl, rfl, u3 _ _ upd_same, upd_same, lB rfl, fun p3 n3 => ?_⟩
    have t3 := u3.trans (same_upd (o := .lst (bls i [0, 1, 2, 3, 4, 5, 6, 7, 8])) n3)
    have h3 := h2.same t3
    refine ⟨_, rfl, rfl, h3, lB rfl, fun r4 m4 => ?_⟩
    have u4 := same_upd (o := .lst (bls i [9, 10, 11])) m4
    refine ⟨p3, r4, bls i [0, 1, 2, 3, 4, 5, 6, 7, 8], bls i [9, 10, 11], rfl, rfl, u4 _ _ upd_same, upd_same, lB rfl, fun p4 n4 => ?_⟩
    have t4 := u4.trans (same_upd (o := .lst (bls i [0, 1, 2, 3, 4, 5, 6, 7, 8, 9, 10, 11])) n4)
    have h4 := h3.same t4
    refine ⟨_, rfl, rfl, h4, lB rfl, fun r5 m5 => ?_⟩
    have u5 := same_upd (o := .lst (bls i [12, 13, 14])) m5
    refine ⟨p4, r5, bls i [0, 1, 2, 3, 4, 5, 6, 7, 8, 9, 10, 11], bls i [12, 13, 14], rfl, rfl, u5 _ _ upd_same, upd_same, lB rfl, fun p5 n5 => ?_⟩
    have t5 := u5.trans (same_upd (o := .lst (bls i [0, 1, 2, 3, 4, 5, 6, 7, 8, 9, 10, 11, 12, 13, 14])) n5)
    have h5 := h4.same t5
    refine ⟨_, rfl, rfl, h5, lB rfl, fun r6 m6 => ?_⟩
    have u6 := same_upd (o := .lst (bls i [15, 16, 17])) m6
    refine ⟨p5, r6, bls i [0, 1, 2, 3, 4, 5, 6, 7, 8, 9, 10, 11, 12, 13, 14], bls i [15, 16, 17], rfl, rfl, u6 _ _ upd_same, upd_same, lB rfl, fun p6 n6 => ?_⟩
    have t6 := u6.trans (same_upd (o := .lst (bls i [0, 1, 2, 3, 4, 5, 6, 7, 8, 9, 10, 11, 12, 13, 14, 15, 16, 17])) n6)
    have h6 := h5.same t6
    refine ⟨_, rfl, rfl, h6, lB rfl, fun r7 m7 => ?_⟩
    have u7 := same_upd (o := .lst (bls i [18, 19, 20])) m7
    refine ⟨p6, r7, bls i [0, 1, 2, 3, 4, 5, 6, 7, 8, 9, 10, 11, 12, 13, 14, 15, 16, 17], bls i [18, 19, 20], rfl, rfl, u7 _ _ upd_same, upd_same, lB rfl, fun p7 n7 => ?_⟩
    have t7 := u7.trans (same_upd (o := .lst (bls i [0, 1, 2, 3, 4, 5, 6, 7, 8, 9, 10, 11, 12, 13, 14, 15, 16, 17, 18, 19, 20])) n7)
    have h7 := h6.same t7
    refine ⟨_, rfl, rfl, h7, lB rfl, fun r8 m8 => ?_⟩
    have u8 := same_upd (o := .lst (bls i [21, 22])) m8
    refine ⟨p7, r8, bls i [0, 1, 2, 3, 4, 5, 6, 7, 8, 9, 10, 11, 12, 13, 14, 15, 16, 17, 18, 19, 20], bls i [21, 22], rfl, rfl, u8 _ _ upd_same, upd_same, lB rfl, fun p8 n8 => ?_⟩
    have t8 := u8.trans (same_upd (o := .lst (bls i [0, 1, 2, 3, 4, 5, 6, 7, 8, 9, 10, 11, 12, 13, 14, 15, 16, 17, 18, 19, 20, 21, 22])) n8)
    refine ⟨_, rfl, q p8 _ (s1.trans (t2.trans (t3.trans (t4.trans (t5.trans (t6.trans (t7.trans (t8)))))))) (s1.free (t2.free (t3.free (t4.free (t5.free (t6.free (t7.free (u8.free n8)))))))) ?_⟩
    exact upd_same
end
end Jg
namespace Jg
open PySem PySem.Spec PyProof.Rows L2
theorem ps_imp {X : Cx} {st : Stmt} {t t' : TS} (h : PS X st t) (k : ∀ D σ H, t' D σ H → t D σ H) : PS X st t' := ⟨fun pins s σ H D I q => h.run pins s σ H D I (k D σ H q)⟩
theorem get_set_eq {σ : L2.St} {i : Nat} {v : Option V} (h : i < σ.length) : (σ.set i v)[i]? = some v := by
  rw [List.getElem?_set_self h]
theorem get_set_ne {σ : L2.St} {i j : Nat} {v : Option V} (h : i ≠ j) : (σ.set i v)[j]? = σ[j]? := by
  rw [List.getElem?_set_ne h]
/-! ### the law's body: the bounds -/
structure Con (mg : Str → Option Value) : Prop where
  MAX_INPUTS : ∃ t, mg "MAX_INPUTS" = some (.int 8 t)
  MAX_STEPS : ∃ t, mg "MAX_STEPS" = some (.int 60 t)
  MAX_ENDS : ∃ t, mg "MAX_ENDS" = some (.int 8 t)
  MAX_WIDE : ∃ t, mg "MAX_WIDE" = some (.int 20 t)
  MAX_LONG : ∃ t, mg "MAX_LONG" = some (.int 400 t)
  MAX_SIZE : ∃ t, mg "MAX_SIZE" = some (.int 64 t)
  MAX_TERMS : ∃ t, mg "MAX_TERMS" = some (.int 200 t)
  MAX_LETTERS : ∃ t, mg "MAX_LETTERS" = some (.int 8 t)
  MAX_EDITS : ∃ t, mg "MAX_EDITS" = some (.int 40 t)
  BATCH : ∃ t, mg "BATCH" = some (.int 20 t)
  MAX_NUMBER : ∃ t, mg "MAX_NUMBER" = some (.int 100000000000000000000 t)
  MAX_TIMES : ∃ t, mg "MAX_TIMES" = some (.int 100 t)
  MAX_PLACES : ∃ t, mg "MAX_PLACES" = some (.int 80 t)
  MAX_MOVES : ∃ t, mg "MAX_MOVES" = some (.int 600 t)
  MAX_PRIME : ∃ t, mg "MAX_PRIME" = some (.int 1000 t)
  MAX_LEVEL : ∃ t, mg "MAX_LEVEL" = some (.int 60 t)
  MAX_POINTS : ∃ t, mg "MAX_POINTS" = some (.int 20000 t)
  MAX_LINE : ∃ t, mg "MAX_LINE" = some (.int 60 t)
  MAX_WAYS : ∃ t, mg "MAX_WAYS" = some (.int 10 t)
  MAX_ROUNDS : ∃ t, mg "MAX_ROUNDS" = some (.int 40 t)
  MAX_ACTS : ∃ t, mg "MAX_ACTS" = some (.int 1000 t)
  MAX_HELD : ∃ t, mg "MAX_HELD" = some (.int 12 t)
  MAX_BARE : ∃ t, mg "MAX_BARE" = some (.int 16 t)
  MAX_BOTH : ∃ t, mg "MAX_BOTH" = some (.int 4 t)
  MAX_BOX : ∃ t, mg "MAX_BOX" = some (.int 2000 t)
  MAX_DEEP : ∃ t, mg "MAX_DEEP" = some (.int 40 t)
abbrev sLaw : Stmt := topS 58
abbrev nLaw : List Str := ["_law_script", "_law_deck_here", "_law_told", "_law_turn", "_law_one_here", "_law_errors", "_law_k", "_law_kept", "_law_named", "_law_own"]
theorem scLaw : FnScope nLaw ["_law_script"] (defScope sLaw) := ⟨rfl, rfl, rfl, by decide +kernel, rfl, by decide +kernel, by decide +kernel⟩
def forB : Stmt → List Stmt
  | .For _ _ b _ _ => b | _ => []
def stA (i : Nat) : Stmt := (defBody sLaw).getD i (.Pass ⟨0, 0, 0, 0⟩)
def stL (i : Nat) : Stmt := (forB (stA 6)).getD i (.Pass ⟨0, 0, 0, 0⟩)
def stK (i : Nat) : Stmt := (forB (stL 2)).getD i (.Pass ⟨0, 0, 0, 0⟩)
abbrev LX (P : Program) (w : World) (K : PySem.W.Frag) (mg : Str → Option Value) (base : Heap) (f : Addr) (cdv : Value) (Ar : Around) (out : List Env) (s0 : Shared) (H0 : Hp) (E : XK) : Cx :=
  (cxOf CX0 P w K mg base nLaw "law" (defScope sLaw) f cdv Ar out s0 H0 E).nox
theorem boot_repr' : bootBuiltins "repr" = some (.builtin "repr") := by decide +kernel
def Fine (d : PyData) : Prop := Ok 8 100000 d
theorem lineA : 100000 ≤ sizeLine := by
  rw [sizeLine_eq]
  decide
theorem Fine.zl {d : PyData} (h : Fine d) : d.shown.length ≤ sizeLine := Nat.le_trans h.ln lineA
theorem Fine.dl {d : PyData} (h : Fine d) : d.depth ≤ 60 := Nat.le_trans h.dp (by decide)
/-- a list of small numbers is short enough to be shown -/
def smallL : List PyData → Bool
  | [] => true
  | .int i :: ds => decide (i.natAbs < 10 ^ 25) && smallL ds
  | _ :: _ => false
theorem smallL_ok : ∀ {ds : List PyData}, smallL ds = true → ∀ d ∈ ds, Ok 0 26 d
  | [], _, d, h => nomatch h
  | .int i :: ds, hs, d, h => by
    obtain ⟨h1, h2⟩ := Bool.and_eq_true_iff.mp hs
    rcases List.mem_cons.mp h with rfl | h
    · exact ok_int25 (of_decide_eq_true h1)
    · exact smallL_ok h2 d h
  | .none :: _, hs, _, _ => by cases hs
  | .bool _ :: _, hs, _, _ => by cases hs
  | .str _ :: _, hs, _, _ => by cases hs
  | .list _ :: _, hs, _, _ => by cases hs
  | .tuple _ :: _, hs, _, _ => by cases hs
  | .dict _ :: _, hs, _, _ => by cases hs
theorem small_fine {ds : List PyData} (h : smallL ds = true) (hl : ds.length ≤ 100) : Fine (.list ds) := (ok_lst (n := 100) (smallL_ok h) hl).mono (by decide) (by decide)
theorem dqNum {D B : Addr} {H : Hp} : ∀ {ns : List Int}, DqAll D B H (ns.map V.int) (ns.map PyData.int)
  | [] => .nil
  | n :: _ => .cons (.int n) dqNum
section
variable {P : Program} {w : World} {K : PySem.W.Frag} {mg : Str → Option Value} {base : Heap} {f : Addr} {cdv : Value} {Ar : Around} {out : List Env} {s0 : Shared} {H0 : Hp} {E : XK}
/-- the deck stands in its slot -/
structure U0 (D B C : Addr) (cells : List Int) (σ : L2.St) (H : Hp) : Prop where
  len : σ.length = 10
  s1 : σ[1]? = some (some (.ref D))
  dk : DeckAt D B C cells H
theorem U0.set {D B C : Addr} {cells : List Int} {σ : L2.St} {H : Hp} {v : Option V} (w : U0 D B C cells σ H) {i : Nat} (h : 1 < i) : U0 D B C cells (σ.set i v) H := ⟨by rw [List.length_set]; exact w.len, by rw [get_set_ne (by omega)]; exact w.s1, w.dk⟩
theorem U0.same {D B C : Addr} {cells : List Int} {σ : L2.St} {H H' : Hp} (w : U0 D B C cells σ H) (s : Same H H') : U0 D B C cells σ H' := ⟨w.len, w.s1, w.dk.same s⟩
theorem U0.at_ {D B C : Addr} {cells : List Int} {σ : L2.St} {H : Hp} (w : U0 D B C cells σ H) {i : Nat} (h : i < 10) {v : Option V} : (σ.set i v)[i]? = some v := get_set_eq (by rw [w.len]; exact h)
def con1 : List Int := [8, 60, 8, 20, 400, 64, 200, 8, 40, 20]
def con2 : List Int := [100, 80, 600, 1000, 60, 20000, 60, 10, 40]
def con3 : List Int := [1000, 12, 16, 4, 2000, 40]
theorem shown1 : (PyData.list (con1.map PyData.int)).shown = Str.ofString "[8, 60, 8, 20, 400, 64, 200, 8, 40, 20]" := by decide +kernel
theorem shown2 : (PyData.list ((con2 ++ con3).map PyData.int)).shown = Str.ofString "[100, 80, 600, 1000, 60, 20000, 60, 10, 40, 1000, 12, 16, 4, 2000, 40]" := by decide +kernel
theorem fine1 : Fine (PyData.list (con1.map PyData.int)) := small_fine (by decide +kernel) (by decide)
theorem fine2 : Fine (PyData.list ((con2 ++ con3).map PyData.int)) := small_fine (by decide +kernel) (by decide)
def tU : TS := fun Dn σ H => ∃ D B C cells, U0 D B C cells σ H ∧ ∀ σ' H', U0 D B C cells σ' H' → Dn.nx σ' H'
def tT (ns : List Int) : TS := fun Dn σ H => ∃ D B C cells, U0 D B C cells σ H ∧ ∀ p σ' H', U0 D B C cells σ' H' → σ'[2]? = some (some (.ref p)) → H' p = some (.lst (ns.map V.int)) → p ≠ D → p ≠ B → Dn.nx σ' H'
def tT' (ns : List Int) : TS := fun Dn σ H => ∃ D B C cells p, U0 D B C cells σ H ∧ σ[2]? = some (some (.ref p)) ∧ H p = some (.lst (ns.map V.int)) ∧ p ≠ D ∧ p ≠ B ∧ ∀ σ' H', U0 D B C cells σ' H' → Dn.nx σ' H'
def tT2 (ns ms : List Int) : TS := fun Dn σ H => ∃ D B C cells p, U0 D B C cells σ H ∧ σ[2]? = some (some (.ref p)) ∧ H p = some (.lst (ns.map V.int)) ∧ p ≠ D ∧ p ≠ B ∧ ∀ p σ' H', U0 D B C cells σ' H' → σ'[2]? = some (some (.ref p)) → H' p = some (.lst ((ns ++ ms).map V.int)) → p ≠ D → p ≠ B → Dn.nx σ' H'
theorem a1 (Z : Con mg) : PS (LX P w K mg base f cdv Ar out s0 H0 E) (stA 1) (tT con1) := by
  refine ps_imp (ps_set (i := 2) scLaw.nd rfl (.inl rfl) (pe_lst (pa_cons (pe_glob (v := .int 8) (by rfl) Z.MAX_INPUTS.choose_spec ⟨_, rfl⟩) (pa_cons (pe_glob (v := .int 60) (by rfl) Z.MAX_STEPS.choose_spec ⟨_, rfl⟩) (pa_cons (pe_glob (v := .int 8) (by rfl) Z.MAX_ENDS.choose_spec ⟨_, rfl⟩) (pa_cons (pe_glob (v := .int 20) (by rfl) Z.MAX_WIDE.choose_spec ⟨_, rfl⟩) (pa_cons (pe_glob (v := .int 400) (by rfl) Z.MAX_LONG.choose_spec ⟨_, rfl⟩) (pa_cons (pe_glob (v := .int 64) (by rfl) Z.MAX_SIZE.choose_spec ⟨_, rfl⟩) (pa_cons (pe_glob (v := .int 200) (by rfl) Z.MAX_TERMS.choose_spec ⟨_, rfl⟩) (pa_cons (pe_glob (v := .int 8) (by rfl) Z.MAX_LETTERS.choose_spec ⟨_, rfl⟩) (pa_cons (pe_glob (v := .int 40) (by rfl) Z.MAX_EDITS.choose_spec ⟨_, rfl⟩) (pa_cons (pe_glob (v := .int 20) (by rfl) Z.BATCH.choose_spec ⟨_, rfl⟩) pa_nil)))))))))))) ?_
  rintro Dn σ H ⟨D, B, C, cells, u, q⟩
  refine ⟨sz1 rfl, fun p np => ?_⟩
  exact q p _ _ ((u.same (same_upd np)).set (by decide)) (u.at_ (by decide)) upd_same (u.dk.neD np) (u.dk.neB np)
theorem a2 (Z : Con mg) (B_ : Bn mg) (hr : Room 7 (LX P w K mg base f cdv Ar out s0 H0 E).A) (hg : (LX P w K mg base f cdv Ar out s0 H0 E).A.guards = some []) : PS (LX P w K mg base f cdv Ar out s0 H0 E) (stA 2) (tT' con1) := by
  have hu := hr.units
  refine ps_imp (ps_if (PW.pt (pw_or (pt_cmpR op_ne (pe_callB (call_reprD hg hu) (by rfl) B_.rep boot_repr' (pa_cons (pv 2) pa_nil)) pe_str (nomark _))
      (pw_or1 (pt_cmpR op_ne (pe_glob (v := .int 100000000000000000000) (by rfl) Z.MAX_NUMBER.choose_spec ⟨_, rfl⟩) (pe_op op_pow pe_int pe_int) (nomark _))))) (pss_one (ps_ret pe_bl)) pss_nil) ?_
  rintro Dn σ H ⟨D, B, C, cells, p, u, h2, hp, nD, nB, q⟩
  refine ⟨_, h2, D, B, .ref p, .list (con1.map PyData.int), rfl, .lst nD nB hp dqNum, fine1.sh, fine1.zl, fine1.dl, rfl, _, rfl, iteNS (by rw [shown1]) ?_⟩
  refine ⟨10, 20, rfl, rfl, ⟨by decide, by decide, by decide⟩, rfl, _, rfl, iteNS (by decide) (q σ H u)⟩
theorem a3 (Z : Con mg) : PS (LX P w K mg base f cdv Ar out s0 H0 E) (stA 3) (tT con2) := by
  refine ps_imp (ps_set (i := 2) scLaw.nd rfl (.inl rfl) (pe_lst (pa_cons (pe_glob (v := .int 100) (by rfl) Z.MAX_TIMES.choose_spec ⟨_, rfl⟩) (pa_cons (pe_glob (v := .int 80) (by rfl) Z.MAX_PLACES.choose_spec ⟨_, rfl⟩) (pa_cons (pe_glob (v := .int 600) (by rfl) Z.MAX_MOVES.choose_spec ⟨_, rfl⟩) (pa_cons (pe_glob (v := .int 1000) (by rfl) Z.MAX_PRIME.choose_spec ⟨_, rfl⟩) (pa_cons (pe_glob (v := .int 60) (by rfl) Z.MAX_LEVEL.choose_spec ⟨_, rfl⟩) (pa_cons (pe_glob (v := .int 20000) (by rfl) Z.MAX_POINTS.choose_spec ⟨_, rfl⟩) (pa_cons (pe_glob (v := .int 60) (by rfl) Z.MAX_LINE.choose_spec ⟨_, rfl⟩) (pa_cons (pe_glob (v := .int 10) (by rfl) Z.MAX_WAYS.choose_spec ⟨_, rfl⟩) (pa_cons (pe_glob (v := .int 40) (by rfl) Z.MAX_ROUNDS.choose_spec ⟨_, rfl⟩) pa_nil))))))))))) ?_
  rintro Dn σ H ⟨D, B, C, cells, u, q⟩
  refine ⟨sz1 rfl, fun p np => ?_⟩
  exact q p _ _ ((u.same (same_upd np)).set (by decide)) (u.at_ (by decide)) upd_same (u.dk.neD np) (u.dk.neB np)
theorem a4 (Z : Con mg) : PS (LX P w K mg base f cdv Ar out s0 H0 E) (stA 4) (tT2 con2 con3) := by
  refine ps_imp (ps_set (i := 2) scLaw.nd rfl (.inl rfl) (pe_op op_cat (pv 2) (pe_lst (pa_cons (pe_glob (v := .int 1000) (by rfl) Z.MAX_ACTS.choose_spec ⟨_, rfl⟩) (pa_cons (pe_glob (v := .int 12) (by rfl) Z.MAX_HELD.choose_spec ⟨_, rfl⟩) (pa_cons (pe_glob (v := .int 16) (by rfl) Z.MAX_BARE.choose_spec ⟨_, rfl⟩) (pa_cons (pe_glob (v := .int 4) (by rfl) Z.MAX_BOTH.choose_spec ⟨_, rfl⟩) (pa_cons (pe_glob (v := .int 2000) (by rfl) Z.MAX_BOX.choose_spec ⟨_, rfl⟩) (pa_cons (pe_glob (v := .int 40) (by rfl) Z.MAX_DEEP.choose_spec ⟨_, rfl⟩) pa_nil))))))))) ?_
  rintro Dn σ H ⟨D, B, C, cells, p, u, h2, hp, nD, nB, q⟩
  refine ⟨_, h2, sz1 rfl, fun p2 n2 => ⟨p, p2, con2.map V.int, con3.map V.int, rfl, rfl, same_upd n2 _ _ hp, upd_same, lB rfl, fun p3 n3 => ?_⟩⟩
  have u2 := u.same (same_upd (o := .lst (con3.map V.int)) n2)
  have s3 := same_upd (o := .lst (con2.map V.int ++ con3.map V.int)) n3
  exact q p3 _ _ ((u2.same s3).set (by decide)) (u.at_ (by decide)) (by rw [upd_same]; rfl) (u2.dk.neD n3) (u2.dk.neB n3)
theorem a5 (B_ : Bn mg) (hr : Room 7 (LX P w K mg base f cdv Ar out s0 H0 E).A) (hg : (LX P w K mg base f cdv Ar out s0 H0 E).A.guards = some []) : PS (LX P w K mg base f cdv Ar out s0 H0 E) (stA 5) (tT' (con2 ++ con3)) := by
  have hu := hr.units
  refine ps_imp (ps_if (pt_cmpR op_ne (pe_callB (call_reprD hg hu) (by rfl) B_.rep boot_repr' (pa_cons (pv 2) pa_nil)) pe_str (nomark _)) (pss_one (ps_ret pe_bl)) pss_nil) ?_
  rintro Dn σ H ⟨D, B, C, cells, p, u, h2, hp, nD, nB, q⟩
  exact ⟨_, h2, D, B, .ref p, .list ((con2 ++ con3).map PyData.int), rfl, .lst nD nB hp dqNum, fine2.sh, fine2.zl, fine2.dl, rfl, _, rfl, iteNS (by rw [shown2]) (q σ H u)⟩
end
end Jg
namespace Jg
open PySem PySem.Spec PyProof.Rows L2
/-! ### the law's body: a turn -/
structure Cal (P : Program) (w : World) (K : PySem.W.Frag) (mg : Str → Option Value) (base : Heap) (x : Str) (k : Nat) (ps : List Str) (sp : Sp) (f : Addr) (fd : FuncData) : Prop where
  F : FnOk P w K mg base CX0 k f fd ps sp
  g : mg x = some (.ref f)
  kp : PySem.W.keepIn K (.ref f) = true
  b : Binds K fd ps []
structure En (P : Program) (w : World) (K : PySem.W.Frag) (mg : Str → Option Value) (base : Heap) (R : Addr) (Cs : List Addr) : Prop where
  bn : Bn mg
  con : Con mg
  er : Errs P w K mg base R Cs
  deck : ∃ f fd, Cal P w K mg base "_law_deck" 1 ["_law_script"] (spDeck K) f fd
  odd : ∃ f fd, Cal P w K mg base "_law_odd" 3 ["_law_deck_here"] spOdd f fd
  made : ∃ f fd, Cal P w K mg base "_law_made" 3 ["_law_one_here"] (spMade Cs) f fd
  cls : ∃ f fd, Cal P w K mg base "_law_classes" 1 ["_law_error"] (spCls Cs) f fd
structure Pr where
  D : Addr
  B : Addr
  C : Addr
  cells : List Int
  v : V
  d : PyData
  L : Addr
  as : List Addr
structure V0 (p : Pr) (σ : L2.St) (H : Hp) : Prop extends U0 p.D p.B p.C p.cells σ H where
  s4 : σ[4]? = some (some p.v)
  dq : Dq p.D p.B H p.v p.d
  hd : p.d ∈ oddD
structure V1 (Cs : List Addr) (p : Pr) (σ : L2.St) (H : Hp) : Prop extends V0 p σ H where
  s5 : σ[5]? = some (some (.ref p.L))
  eL : H p.L = some (.lst (p.as.map V.ref))
  md : Made Cs H p.v p.as (List.range 23)
section
variable {Cs : List Addr} {p : Pr} {σ : L2.St} {H H' : Hp} {u : Option V}
theorem V0.set (w : V0 p σ H) {i : Nat} (h : 4 < i) : V0 p (σ.set i u) H := ⟨w.toU0.set (by omega), by rw [get_set_ne (by omega)]; exact w.s4, w.dq, w.hd⟩
theorem V0.same (w : V0 p σ H) (s : Same H H') : V0 p σ H' := ⟨w.toU0.same s, w.s4, w.dq.same s, w.hd⟩
theorem V1.set (w : V1 Cs p σ H) {i : Nat} (h : 5 < i) : V1 Cs p (σ.set i u) H := ⟨w.toV0.set (by omega), by rw [get_set_ne (by omega)]; exact w.s5, w.eL, w.md⟩
theorem V1.same (w : V1 Cs p σ H) (s : Same H H') : V1 Cs p σ H' := ⟨w.toV0.same s, w.s5, s _ _ w.eL, w.md.same s⟩
theorem V1.pick (w : V1 Cs p σ H) {i : Nat} (hi : i < 23) : ∃ a, p.as[i]? = some a ∧ ErrAs Cs H a i p.v := w.md.pick (by rw [List.getElem?_range hi])
theorem V1.at5 (w : V1 Cs p σ H) {i : Nat} {a : Addr} (h : p.as[i]? = some a) : atI (p.as.map V.ref) (i : Int) = some (.ref a) := atI_nat (by rw [List.getElem?_map, h]; rfl)
end
theorem wipe1 {σ : L2.St} {i : Nat} {x : Option V} : wipe ((wipe σ [i]).set i x) [i] = wipe σ [i] := by
  show ((σ.set i none).set i x).set i none = σ.set i none
  rw [List.set_set, List.set_set]
theorem w1_own {σ : L2.St} {i : Nat} {x : Option V} (h : i < σ.length) : ((wipe σ [i]).set i x)[i]? = some x := get_set_eq (by rw [wipe_length]; exact h)
theorem w1_out {σ : L2.St} {i k : Nat} {x : Option V} (h : i ≠ k) : ((wipe σ [i]).set i x)[k]? = σ[k]? := by
  rw [get_set_ne h]
  exact get_set_ne h
/-! lists of True and False -/
def bD (i : Nat) (js : List Nat) : List PyData := js.map fun j => PyData.bool (decide (i = j))
theorem lay_bls (i : Nat) : ∀ js : List Nat, PyData.canLayAll0 (bD i js) = true
  | [] => by simp [bD, PyData.canLayAll0]
  | j :: js => by
    have h := lay_bls i js
    simp only [bD, List.map_cons] at *
    simp [PyData.canLayAll0, PyData.canLay0, h]
theorem dep_bls (i : Nat) : ∀ js : List Nat, PyData.depthAll (bD i js) ≤ 1
  | [] => by simp [bD, PyData.depthAll]
  | j :: js => by
    have h := dep_bls i js
    simp only [bD, List.map_cons] at *
    simp only [PyData.depthAll, PyData.depth]
    omega
theorem layL_bls (i : Nat) (js : List Nat) : (PyData.list (bD i js)).canLay0 = true := by
  have h := lay_bls i js
  simpa only [PyData.canLay0] using h
theorem shaped_bls (i : Nat) (js : List Nat) : SeqAt.shaped (.list (bD i js)) = true := by
  have h1 := dep_bls i js
  have h2 : PyData.depth (.list (bD i js)) ≤ 64 := by
    simp only [PyData.depth]
    omega
  show (PyData.canLay0 (.list (bD i js)) && decide (PyData.depth (.list (bD i js)) ≤ 64)) = true
  rw [layL_bls, decide_eq_true h2]
  rfl
theorem eqv_bls (i : Nat) (js : List Nat) : PyData.eqv (.list (bD i js)) (.list (bD i js)) = true := PySem.SeqAt.eqv_refl _ (layL_bls i js)
theorem dp_bls {K : PySem.W.Frag} {H : Hp} (i : Nat) : ∀ js : List Nat, DpAll K H (bls i js) (bD i js)
  | [] => .nil
  | j :: js => .cons (.bl _) (dp_bls i js)
theorem bls_next (i j : Nat) : bls i (List.range (j + 1)) = bls i (List.range j) ++ [.bl (decide (i = j))] := by
  unfold bls
  rw [List.range_succ, List.map_append]
  rfl
theorem boot_valErr : bootBuiltins "ValueError" = some (.type "ValueError") := by decide +kernel
section
variable {P : Program} {w : World} {K : PySem.W.Frag} {mg : Str → Option Value} {base : Heap} {R : Addr} {Cs : List Addr} {f : Addr} {cdv : Value} {Ar : Around} {out : List Env} {s0 : Shared} {H0 : Hp} {E : XK}
def t0 : TS := fun Dn σ H => ∃ D B C cells, U0 D B C cells σ H ∧ ∀ p σ' H', V0 p σ' H' → Dn.nx σ' H'
theorem b0 (T : En P w K mg base R Cs) (hr : Room 7 (LX P w K mg base f cdv Ar out s0 H0 E).A) : PS (LX P w K mg base f cdv Ar out s0 H0 E) (stL 0) t0 := by
  obtain ⟨fO, fdO, GO⟩ := T.odd
  refine ps_imp (ps_set (i := 4) scLaw.nd rfl (.inl rfl) (pe_call GO.F (hr.mono (by decide)) (by rfl) GO.g GO.kp GO.b .nil pass0 (pa_cons (pv 1) pa_nil))) ?_
  rintro Dn σ H ⟨D, B, C, cells, u, q⟩
  refine ⟨_, u.s1, D, B, C, cells, rfl, u.dk, fun v d H1 hd hq _ dk1 f1 => ?_⟩
  have u1 : U0 D B C cells σ H1 := ⟨u.len, u.s1, dk1⟩
  exact q ⟨D, B, C, cells, v, d, 0, []⟩ _ H1 ⟨u1.set (by decide), u1.at_ (by decide), hq, hd⟩
def t1 (Cs : List Addr) : TS := fun Dn σ H => ∃ p, V0 p σ H ∧ ∀ p σ' H', V1 Cs p σ' H' → Dn.nx σ' H'
theorem b1 (T : En P w K mg base R Cs) (hr : Room 7 (LX P w K mg base f cdv Ar out s0 H0 E).A) : PS (LX P w K mg base f cdv Ar out s0 H0 E) (stL 1) (t1 Cs) := by
  obtain ⟨fO, fdO, GO⟩ := T.made
  refine ps_imp (ps_set (i := 5) scLaw.nd rfl (.inl rfl) (pe_call GO.F (hr.mono (by decide)) (by rfl) GO.g GO.kp GO.b .nil pass0 (pa_cons (pv 4) pa_nil))) ?_
  rintro Dn σ H ⟨p, v0, q⟩
  refine ⟨_, v0.s4, p.v, rfl, fun L as H1 s1 nL eL mk => ?_⟩
  have v1 := v0.same s1
  refine q ⟨p.D, p.B, p.C, p.cells, p.v, p.d, L, as⟩ _ H1 ⟨⟨v1.toU0.set (by decide), by rw [get_set_ne (by decide)]; exact v1.s4, v1.dq, v1.hd⟩, v1.toU0.at_ (by decide), eL, mk⟩
def tk (Cs : List Addr) : TS := fun Dn σ H => ∃ p k, V1 Cs p σ H ∧ σ[6]? = some (some (.int ((k : Nat) : Int))) ∧ k < 23 ∧ ∀ H', Same H H' → Dn.nx σ H'
set_option maxHeartbeats 2000000 in
theorem k0 (T : En P w K mg base R Cs) (hr : Room 7 (LX P w K mg base f cdv Ar out s0 H0 E).A) : PS (LX P w K mg base f cdv Ar out s0 H0 E) (stK 0) (tk Cs) := by
  obtain ⟨fC, fdC, GC⟩ := T.cls
  have hu := hr.units
  refine ps_imp (ps_if (pt_cmpR (op_neD hu) (pe_call GC.F (hr.mono (by decide)) (by rfl) GC.g GC.kp GC.b .nil pass0 (pa_cons (pe_ix ix_list (pv 5) (pv 6) (fun _ _ => rfl)) pa_nil))
      (pe_lc (own := [("_law_own", 9)]) (g := gName 9) (tt := tYes) rfl scLaw.nd (pi_range1 (by rfl) T.bn.rng (pa_cons pe_int pa_nil)) (blkOk_by (N := nLaw) (sc := defScope sLaw) (by decide +kernel))
        (fun _ _ _ _ _ => pg_name (i := 9) scLaw.nd rfl (.inl rfl)) (fun _ _ _ _ _ => pts_nil) (fun _ _ _ _ _ => pe_cmpR op_eq (pv 6) (pv 9) (nomark _))) (nomark _)) (pss_one (ps_ret pe_bl)) pss_nil) ?_
  rintro Dn σ H ⟨p, k, v1, h6, hk, q⟩
  obtain ⟨a, ha, he⟩ := v1.pick hk
  refine ⟨_, v1.s5, _, h6, p.L, _, _, _, rfl, rfl, SqL.of v1.eL, v1.at5 ha, a, k, p.v, rfl, hk, he, fun c H1 s1 nc ec => ?_⟩
  refine ⟨23, rfl, by decide, by decide, fun D1 nD1 => ?_⟩
  refine lc_range (lo := 0) (n := 23) (fun j H3 => H3 D1 = some (.lst (bls k (List.range j))) ∧ Same H1 H3) ⟨upd_same, same_upd nD1⟩ ?_ ?_
  · rintro j H3 hj ⟨e3, s3⟩
    refine ⟨wipe1, tYes_if ⟨_, (w1_out (by decide)).trans h6, _, w1_own (by rw [v1.len]; decide), rfl, _, e3, ?_, ?_, ?_⟩⟩
    · unfold bls
      rw [List.length_map, List.length_range]
      exact small1000 (by omega)
    · have ed : decide (((k : Nat) : Int) = 0 + ((j : Nat) : Int)) = decide (k = j) := by
        rw [decide_eq_decide]
        omega
      rw [upd_same, bls_next, dec_int2, ed]
    · intro b o hb
      rw [upd_ne (ne_of_none hb nD1)]
      exact s3 _ _ hb
  · rintro H3 ⟨e3, s3⟩
    refine ⟨.list (bD k (List.range 23)), .list (bD k (List.range 23)), .lst (SqL.of (s3 _ _ ec)) (dp_bls k _), .lst (SqL.of e3) (dp_bls k _), shaped_bls _ _, shaped_bls _ _, _, rfl, ?_⟩
    rw [eqv_bls]
    exact iteF (q H3 (s1.trans s3))
theorem k1 (T : En P w K mg base R Cs) (hr : Room 7 (LX P w K mg base f cdv Ar out s0 H0 E).A) : PS (LX P w K mg base f cdv Ar out s0 H0 E) (stK 1) (tk Cs) := by
  have TE' := T.er
  refine ps_imp (ps_if (PW.pt (pw_or (pt_not (pt_val (pe_callB call_isX (by rfl) T.bn.isi PyProof.Rows.boot_isinstance (pa_cons (pe_ix ix_list (pv 5) (pv 6) (fun _ _ => rfl)) (pa_cons (pe_glob (v := .ref R) (by rfl) TE'.gR rfl) pa_nil)))))
      (pw_or1 (pt_not (pt_val (pe_callB call_isX (by rfl) T.bn.isi PyProof.Rows.boot_isinstance (pa_cons (pe_ix ix_list (pv 5) (pv 6) (fun _ _ => rfl)) (pa_cons (pe_bltn (by rfl) TE'.gV boot_valErr (v := .ty "ValueError") rfl) pa_nil)))))))) (pss_one (ps_ret pe_bl)) pss_nil) ?_
  rintro Dn σ H ⟨p, k, v1, h6, hk, q⟩
  obtain ⟨a, ha, he⟩ := v1.pick hk
  have Kk := TE'.kin k hk
  refine ⟨_, v1.s5, _, h6, p.L, _, _, _, rfl, rfl, SqL.of v1.eL, v1.at5 ha, a, cA Cs k, .ref R, .ref R, true, rfl, Kk.ex, he.at_, (fun u hu => by cases hu; rfl), kit_base Kk TE'.hdR TE'.tyR, _, rfl, iteF ?_⟩
  exact ⟨_, v1.s5, _, h6, p.L, _, _, _, rfl, rfl, SqL.of v1.eL, v1.at5 ha, a, cA Cs k, .ty "ValueError", .type "ValueError", true, rfl, Kk.ex, he.at_, (fun u hu => by cases hu; rfl), kit_veE Kk, _, rfl, iteF (q H (Same.refl H))⟩
def t2 (Cs : List Addr) : TS := fun Dn σ H => ∃ p, V1 Cs p σ H ∧ ∀ σ' H', V1 Cs p σ' H' → Dn.nx σ' H'
theorem b2 (T : En P w K mg base R Cs) (hr : Room 7 (LX P w K mg base f cdv Ar out s0 H0 E).A) : PS (LX P w K mg base f cdv Ar out s0 H0 E) (stL 2) (t2 Cs) := by
  have hB : PSs (LX P w K mg base f cdv Ar out s0 H0 E) [stK 0, stK 1] _ := pss_cons (k0 T hr) (pss_one (k1 T hr))
  refine ps_imp (ps_for PassesOwn.never rfl (pi_range1 rfl T.bn.rng (pa_cons pe_int pa_nil)) (pg_name (i := 6) scLaw.nd rfl (.inr rfl)) hB) ?_
  rintro Dn σ H ⟨p, v1, q⟩
  refine ⟨23, rfl, by decide, by decide, for_range (lo := 0) (n := 23) (fun i σ3 H3 => V1 Cs p σ3 H3) v1 ?_ ?_⟩
  · rintro i σ3 H3 hi v2
    have v3 := v2.set (i := 6) (u := some (.int ((0 : Int) + (i : Nat)))) (by decide)
    have h6 : (σ3.set 6 (some (.int ((0 : Int) + (i : Nat)))))[6]? = some (some (.int ((i : Nat) : Int))) := by
      rw [v2.toU0.at_ (by decide), Int.zero_add]
    exact ⟨p, i, v3, h6, hi, fun H4 s4 => ⟨p, i, v3.same s4, h6, hi, fun H5 s5 => (v3.same s4).same s5⟩⟩
  · rintro σ3 H3 v2
    exact q σ3 H3 v2
end
end Jg
namespace Jg
open PySem PySem.Spec PyProof.Rows L2
/-! ### the law's body: what is kept, by place and by name -/
/-- at the k-th slot: a list of n times v -/
structure Ls (p : Pr) (k n : Nat) (σ : L2.St) (H : Hp) : Prop where
  at_ : ∃ l, σ[k]? = some (some (.ref l)) ∧ H l = some (.lst (List.replicate n p.v)) ∧ l ≠ p.D ∧ l ≠ p.B
theorem Ls.same {p : Pr} {k n : Nat} {σ : L2.St} {H H' : Hp} (h : Ls p k n σ H) (s : Same H H') : Ls p k n σ H' := by
  obtain ⟨l, h1, h2, h3⟩ := h
  exact ⟨l, h1, s _ _ h2, h3⟩
theorem Ls.set {p : Pr} {k n i : Nat} {σ : L2.St} {H : Hp} {u : Option V} (h : Ls p k n σ H) (hi : i ≠ k) : Ls p k n (σ.set i u) H := by
  obtain ⟨l, h1, h2, h3⟩ := h
  exact ⟨l, by rw [get_set_ne hi]; exact h1, h2, h3⟩
/-- an expression that tells v -/
def tV (Cs : List Addr) (p : Pr) : TE := fun σ H Q => V1 Cs p σ H ∧ ∀ H', Same H H' → Q p.v H'
def tVs (Cs : List Addr) (p : Pr) (n : Nat) : TA := fun σ H Q => V1 Cs p σ H ∧ ∀ H', Same H H' → Q (List.replicate n p.v) H'
theorem vs_nil {X : Cx} {Cs : List Addr} {p : Pr} : PA X [] (tVs Cs p 0) := pa_imp pa_nil fun σ H Q ⟨_, q⟩ => q H (Same.refl H)
theorem vs_cons {X : Cx} {Cs : List Addr} {p : Pr} {e : Expr} {es : List Expr} {n : Nat} (h : PE X e (tV Cs p)) (hr : PA X es (tVs Cs p n)) (hs : starEach (e :: es) X.env = (false, eval e X.env) :: starEach es X.env := by rfl) : PA X (e :: es) (tVs Cs p (n + 1)) :=
  pa_imp (pa_cons h hr hs) fun σ H Q ⟨v1, q⟩ => ⟨v1, fun H1 s1 => ⟨v1.same s1, fun H2 s2 => q H2 (s1.trans s2)⟩⟩
section
variable {X : Cx} {P : Program} {w : World} {mg : Str → Option Value} {base : Heap} {R : Addr} {Cs : List Addr} {p : Pr}
/-- errors[i].f -/
theorem rd_of {i : Nat} {x f : Str} {e : Expr} (hi : i < 23) (hf : fld i = some f) (c : Cl P w X.K mg base x f (cA Cs i)) (h : PE X e (tXx X.K f (tOp (rIxL X.K) (tVar 5) (tC (.int (i : Nat)))))) : PE X e (tV Cs p) :=
  pe_imp h fun σ H Q ⟨v1, q⟩ => by
    obtain ⟨a, ha, he⟩ := v1.pick hi
    obtain ⟨fI, fd, L, _⟩ := c
    unfold ErrAs at he
    rw [hf] at he
    exact ⟨_, v1.s5, p.L, _, _, .ref a, rfl, rfl, SqL.of v1.eL, v1.at5 ha, a, cA Cs i, p.v, rfl, L.xf, L.no, he, q H (Same.refl H)⟩
/-- C(f = one).f -/
theorem nm_of {x f : Str} {C : Addr} {e : Expr} (c : Cl P w X.K mg base x f C) (h : PE X e (tXx X.K f (tMk C f (tVar 4)))) : PE X e (tV Cs p) :=
  pe_imp h fun σ H Q ⟨v1, q⟩ => by
    obtain ⟨fI, fd, L, _⟩ := c
    exact ⟨_, v1.s4, fun a dx na nd ne => ⟨a, C, p.v, rfl, L.xf, L.no, mkH_err ne, q _ (mkH_same na nd ne)⟩⟩
end
theorem repl_add {n m : Nat} {v : V} : List.replicate n v ++ List.replicate m v = List.replicate (n + m) v := by
  rw [List.replicate_append_replicate]
section
variable {P : Program} {w : World} {K : PySem.W.Frag} {mg : Str → Option Value} {base : Heap} {R : Addr} {Cs : List Addr} {f : Addr} {cdv : Value} {Ar : Around} {out : List Env} {s0 : Shared} {H0 : Hp} {E : XK}
def tN (Cs : List Addr) (k n : Nat) : TS := fun Dn σ H => ∃ p, V1 Cs p σ H ∧ ∀ σ' H', Same H H' → (∀ j, j ≠ k → σ'[j]? = σ[j]?) → V1 Cs p σ' H' → Ls p k n σ' H' → Dn.nx σ' H'
def tG (Cs : List Addr) (k n m : Nat) : TS := fun Dn σ H => ∃ p, V1 Cs p σ H ∧ Ls p k n σ H ∧ n + m ≤ 100 ∧ ∀ σ' H', Same H H' → (∀ j, j ≠ k → σ'[j]? = σ[j]?) → V1 Cs p σ' H' → Ls p k (n + m) σ' H' → Dn.nx σ' H'
/-- told = [..] -/
theorem n_of {st : Stmt} {es : List Expr} {k n : Nat} (h5 : 5 < k) (h10 : k < 10) (hn : n ≤ 100) (h : ∀ p, PS (LX P w K mg base f cdv Ar out s0 H0 E) st (tAsg (fun σ H Q => tVs Cs p n σ H fun vs H1 => vs.length ≤ sizeLine ∧ ∀ a, H1 a = none → Q (.ref a) (upd H1 a (.lst vs))) (gName k))) : PS (LX P w K mg base f cdv Ar out s0 H0 E) st (tN Cs k n) := by
  refine ⟨fun pins s σ H Dn I q => ?_⟩
  obtain ⟨p, v1, q⟩ := q
  refine (h p).run pins s σ H Dn I ⟨v1, fun H1 s1 => ⟨by rw [List.length_replicate]; exact Nat.le_of_lt (small1000 (by omega)), fun a na => ?_⟩⟩
  have w1 := v1.same s1
  have s2 := same_upd (o := .lst (List.replicate n p.v)) na
  refine q _ _ (s1.trans s2) (fun j hj => get_set_ne (Ne.symm hj)) ((w1.same s2).set h5) ⟨a, v1.toU0.at_ h10, upd_same, w1.dk.neD na, w1.dk.neB na⟩
/-- told = told + [..] -/
theorem g_of {st : Stmt} {k n m : Nat} (h5 : 5 < k) (h10 : k < 10) (h : ∀ p, PS (LX P w K mg base f cdv Ar out s0 H0 E) st (tAsg (tOp rCat (tVar k) (fun σ H Q => tVs Cs p m σ H fun vs H1 => vs.length ≤ sizeLine ∧ ∀ a, H1 a = none → Q (.ref a) (upd H1 a (.lst vs)))) (gName k))) : PS (LX P w K mg base f cdv Ar out s0 H0 E) st (tG Cs k n m) := by
  refine ⟨fun pins s σ H Dn I q => ?_⟩
  obtain ⟨p, v1, ⟨l, hl, el, _, _⟩, hnm, q⟩ := q
  refine (h p).run pins s σ H Dn I ⟨_, hl, v1, fun H1 s1 => ⟨by rw [List.length_replicate]; exact Nat.le_of_lt (small1000 (by omega)), fun a na => ?_⟩⟩
  have w1 := v1.same s1
  have s2 := same_upd (o := .lst (List.replicate m p.v)) na
  refine ⟨l, a, List.replicate n p.v, List.replicate m p.v, rfl, rfl, s2 _ _ (s1 _ _ el), upd_same, Nat.le_of_lt (small1000 (by rw [List.length_replicate, List.length_replicate]; omega)), fun b nb => ?_⟩
  have w2 := w1.same s2
  have s3 := same_upd (o := .lst (List.replicate n p.v ++ List.replicate m p.v)) nb
  refine q _ _ (s1.trans (s2.trans s3)) (fun j hj => get_set_ne (Ne.symm hj)) ((w2.same s3).set h5) ⟨b, v1.toU0.at_ h10, by rw [upd_same, repl_add], w2.dk.neD nb, w2.dk.neB nb⟩
theorem b3 (T : En P w K mg base R Cs) (hr : Room 7 (LX P w K mg base f cdv Ar out s0 H0 E).A) : PS (LX P w K mg base f cdv Ar out s0 H0 E) (stL 3) (tN Cs 7 5) :=
  n_of (es := []) (by decide) (by decide) (by decide) fun p => ps_set (i := 7) scLaw.nd rfl (.inl rfl) (pe_lst (t := tVs Cs p 5) (vs_cons (rd_of (i := 0) (by decide) rfl T.er.c0 (pe_xx (pe_ix ix_list (pv 5) pe_int (fun _ _ => rfl)))) (vs_cons (rd_of (i := 1) (by decide) rfl T.er.c1 (pe_xx (pe_ix ix_list (pv 5) pe_int (fun _ _ => rfl)))) (vs_cons (rd_of (i := 2) (by decide) rfl T.er.c2 (pe_xx (pe_ix ix_list (pv 5) pe_int (fun _ _ => rfl)))) (vs_cons (rd_of (i := 7) (by decide) rfl T.er.c7 (pe_xx (pe_ix ix_list (pv 5) pe_int (fun _ _ => rfl)))) (vs_cons (rd_of (i := 8) (by decide) rfl T.er.c8 (pe_xx (pe_ix ix_list (pv 5) pe_int (fun _ _ => rfl)))) vs_nil))))))
theorem b4 (T : En P w K mg base R Cs) (hr : Room 7 (LX P w K mg base f cdv Ar out s0 H0 E).A) : PS (LX P w K mg base f cdv Ar out s0 H0 E) (stL 4) (tG Cs 7 5 5) :=
  g_of (by decide) (by decide) fun p => ps_set (i := 7) scLaw.nd rfl (.inl rfl) (pe_op op_cat (pv 7) (pe_lst (t := tVs Cs p 5) (vs_cons (rd_of (i := 9) (by decide) rfl T.er.c9 (pe_xx (pe_ix ix_list (pv 5) pe_int (fun _ _ => rfl)))) (vs_cons (rd_of (i := 10) (by decide) rfl T.er.c10 (pe_xx (pe_ix ix_list (pv 5) pe_int (fun _ _ => rfl)))) (vs_cons (rd_of (i := 11) (by decide) rfl T.er.c11 (pe_xx (pe_ix ix_list (pv 5) pe_int (fun _ _ => rfl)))) (vs_cons (rd_of (i := 12) (by decide) rfl T.er.c12 (pe_xx (pe_ix ix_list (pv 5) pe_int (fun _ _ => rfl)))) (vs_cons (rd_of (i := 13) (by decide) rfl T.er.c13 (pe_xx (pe_ix ix_list (pv 5) pe_int (fun _ _ => rfl)))) vs_nil)))))))
theorem b5 (T : En P w K mg base R Cs) (hr : Room 7 (LX P w K mg base f cdv Ar out s0 H0 E).A) : PS (LX P w K mg base f cdv Ar out s0 H0 E) (stL 5) (tG Cs 7 10 3) :=
  g_of (by decide) (by decide) fun p => ps_set (i := 7) scLaw.nd rfl (.inl rfl) (pe_op op_cat (pv 7) (pe_lst (t := tVs Cs p 3) (vs_cons (rd_of (i := 19) (by decide) rfl T.er.c19 (pe_xx (pe_ix ix_list (pv 5) pe_int (fun _ _ => rfl)))) (vs_cons (rd_of (i := 20) (by decide) rfl T.er.c20 (pe_xx (pe_ix ix_list (pv 5) pe_int (fun _ _ => rfl)))) (vs_cons (rd_of (i := 21) (by decide) rfl T.er.c21 (pe_xx (pe_ix ix_list (pv 5) pe_int (fun _ _ => rfl)))) vs_nil)))))
theorem b6 (T : En P w K mg base R Cs) (hr : Room 7 (LX P w K mg base f cdv Ar out s0 H0 E).A) : PS (LX P w K mg base f cdv Ar out s0 H0 E) (stL 6) (tN Cs 8 3) :=
  n_of (es := []) (by decide) (by decide) (by decide) fun p => ps_set (i := 8) scLaw.nd rfl (.inl rfl) (pe_lst (t := tVs Cs p 3) (vs_cons (nm_of T.er.c0 (by obtain ⟨fI, fd, L, G⟩ := T.er.c0; exact pe_xx (pe_mkK L G (hr.mono (by decide)) (by rfl) pass0 (pv 4)))) (vs_cons (nm_of T.er.c1 (by obtain ⟨fI, fd, L, G⟩ := T.er.c1; exact pe_xx (pe_mkK L G (hr.mono (by decide)) (by rfl) pass0 (pv 4)))) (vs_cons (nm_of T.er.c2 (by obtain ⟨fI, fd, L, G⟩ := T.er.c2; exact pe_xx (pe_mkK L G (hr.mono (by decide)) (by rfl) pass0 (pv 4)))) vs_nil))))
theorem b7 (T : En P w K mg base R Cs) (hr : Room 7 (LX P w K mg base f cdv Ar out s0 H0 E).A) : PS (LX P w K mg base f cdv Ar out s0 H0 E) (stL 7) (tG Cs 8 3 3) :=
  g_of (by decide) (by decide) fun p => ps_set (i := 8) scLaw.nd rfl (.inl rfl) (pe_op op_cat (pv 8) (pe_lst (t := tVs Cs p 3) (vs_cons (nm_of T.er.c7 (by obtain ⟨fI, fd, L, G⟩ := T.er.c7; exact pe_xx (pe_mkK L G (hr.mono (by decide)) (by rfl) pass0 (pv 4)))) (vs_cons (nm_of T.er.c8 (by obtain ⟨fI, fd, L, G⟩ := T.er.c8; exact pe_xx (pe_mkK L G (hr.mono (by decide)) (by rfl) pass0 (pv 4)))) (vs_cons (nm_of T.er.c9 (by obtain ⟨fI, fd, L, G⟩ := T.er.c9; exact pe_xx (pe_mkK L G (hr.mono (by decide)) (by rfl) pass0 (pv 4)))) vs_nil)))))
theorem b8 (T : En P w K mg base R Cs) (hr : Room 7 (LX P w K mg base f cdv Ar out s0 H0 E).A) : PS (LX P w K mg base f cdv Ar out s0 H0 E) (stL 8) (tG Cs 8 6 3) :=
  g_of (by decide) (by decide) fun p => ps_set (i := 8) scLaw.nd rfl (.inl rfl) (pe_op op_cat (pv 8) (pe_lst (t := tVs Cs p 3) (vs_cons (nm_of T.er.c10 (by obtain ⟨fI, fd, L, G⟩ := T.er.c10; exact pe_xx (pe_mkK L G (hr.mono (by decide)) (by rfl) pass0 (pv 4)))) (vs_cons (nm_of T.er.c11 (by obtain ⟨fI, fd, L, G⟩ := T.er.c11; exact pe_xx (pe_mkK L G (hr.mono (by decide)) (by rfl) pass0 (pv 4)))) (vs_cons (nm_of T.er.c12 (by obtain ⟨fI, fd, L, G⟩ := T.er.c12; exact pe_xx (pe_mkK L G (hr.mono (by decide)) (by rfl) pass0 (pv 4)))) vs_nil)))))
theorem b9 (T : En P w K mg base R Cs) (hr : Room 7 (LX P w K mg base f cdv Ar out s0 H0 E).A) : PS (LX P w K mg base f cdv Ar out s0 H0 E) (stL 9) (tG Cs 8 9 3) :=
  g_of (by decide) (by decide) fun p => ps_set (i := 8) scLaw.nd rfl (.inl rfl) (pe_op op_cat (pv 8) (pe_lst (t := tVs Cs p 3) (vs_cons (nm_of T.er.c13 (by obtain ⟨fI, fd, L, G⟩ := T.er.c13; exact pe_xx (pe_mkK L G (hr.mono (by decide)) (by rfl) pass0 (pv 4)))) (vs_cons (nm_of T.er.c19 (by obtain ⟨fI, fd, L, G⟩ := T.er.c19; exact pe_xx (pe_mkK L G (hr.mono (by decide)) (by rfl) pass0 (pv 4)))) (vs_cons (nm_of T.er.c20 (by obtain ⟨fI, fd, L, G⟩ := T.er.c20; exact pe_xx (pe_mkK L G (hr.mono (by decide)) (by rfl) pass0 (pv 4)))) vs_nil)))))
theorem b10 (T : En P w K mg base R Cs) (hr : Room 7 (LX P w K mg base f cdv Ar out s0 H0 E).A) : PS (LX P w K mg base f cdv Ar out s0 H0 E) (stL 10) (tG Cs 8 12 1) :=
  g_of (by decide) (by decide) fun p => ps_set (i := 8) scLaw.nd rfl (.inl rfl) (pe_op op_cat (pv 8) (pe_lst (t := tVs Cs p 1) (vs_cons (nm_of T.er.c21 (by obtain ⟨fI, fd, L, G⟩ := T.er.c21; exact pe_xx (pe_mkK L G (hr.mono (by decide)) (by rfl) pass0 (pv 4)))) vs_nil)))
end
end Jg
namespace Jg
open PySem PySem.Spec PyProof.Rows L2
/-! ### the law -/
theorem dq_repl {D B : Addr} {H : Hp} {v : V} {d : PyData} (h : Dq D B H v d) : ∀ n, DqAll D B H (List.replicate n v) (List.replicate n d)
  | 0 => .nil
  | n + 1 => .cons h (dq_repl h n)
def keptD (d : PyData) : PyData := .list [.list (List.replicate 13 d), .list (List.replicate 13 d)]
theorem kept_fine {d : PyData} (h : d ∈ oddD) : Fine (keptD d) := by
  have h1 : Ok 4 15590 (.list (List.replicate 13 d)) := ok_lst (k := 3) (c := 1197) (n := 13) (fun x hx => by
    rw [List.eq_of_mem_replicate hx]
    exact odd_ok d h) (by rw [List.length_replicate]; exact Nat.le_refl _)
  exact (ok_lst (ds := [.list (List.replicate 13 d), .list (List.replicate 13 d)]) (k := 4) (c := 15590) (n := 2) (fun x hx => by
    rcases List.mem_cons.mp hx with rfl | hx
    · exact h1
    · rw [List.mem_singleton.mp hx]
      exact h1) (Nat.le_refl 2)).mono (by decide) (by decide)
def spLaw (K : PySem.W.Frag) : Sp := fun vs H Q _ => ∃ (a : Addr) (ns : List Int), vs = [.ref a] ∧ SqL K H a (ns.map V.int) ∧ ns.length ≤ 63 ∧ ∀ H', Q (.bl true) H'
section
variable {P : Program} {w : World} {K : PySem.W.Frag} {mg : Str → Option Value} {base : Heap} {R : Addr} {Cs : List Addr}
section
variable {f : Addr} {cdv : Value} {Ar : Around} {out : List Env} {s0 : Shared} {H0 : Hp} {E : XK}
def tE (Cs : List Addr) : TS := fun Dn σ H => ∃ p, V1 Cs p σ H ∧ Ls p 7 13 σ H ∧ Ls p 8 13 σ H ∧ ∀ H', Same H H' → Dn.nx σ H'
set_option maxHeartbeats 2000000 in
theorem b11 (T : En P w K mg base R Cs) (hr : Room 7 (LX P w K mg base f cdv Ar out s0 H0 E).A) (hg : (LX P w K mg base f cdv Ar out s0 H0 E).A.guards = some []) : PS (LX P w K mg base f cdv Ar out s0 H0 E) (stL 11) (tE Cs) := by
  have hu := hr.units
  refine ps_imp (ps_if (pt_cmpR op_ne (pe_callB (call_reprD hg hu) (by rfl) T.bn.rep boot_repr' (pa_cons (pe_lst (pa_cons (pv 7) (pa_cons (pv 8) pa_nil))) pa_nil))
      (pe_callB (call_reprD hg hu) (by rfl) T.bn.rep boot_repr' (pa_cons (pe_op op_rep (pe_lst (pa_cons (pe_op op_rep (pe_lst (pa_cons (pv 4) pa_nil)) pe_int) pa_nil)) pe_int) pa_nil)) (nomark _)) (pss_one (ps_ret pe_bl)) pss_nil) ?_
  rintro Dn σ H ⟨p, v1, ⟨l7, h7, e7, n7D, n7B⟩, ⟨l8, h8, e8, n8D, n8B⟩, q⟩
  have ff := kept_fine v1.hd
  refine ⟨_, h7, _, h8, sz1 rfl, fun l nl => ?_⟩
  have s1 := same_upd (o := .lst [.ref l7, .ref l8]) nl
  have w1 := v1.same s1
  refine ⟨p.D, p.B, .ref l, keptD p.d, rfl, .lst (v1.dk.neD nl) (v1.dk.neB nl) upd_same (.cons (.lst n7D n7B (s1 _ _ e7) (dq_repl w1.dq 13)) (.cons (.lst n8D n8B (s1 _ _ e8) (dq_repl w1.dq 13)) .nil)), ff.sh, ff.zl, ff.dl, ?_⟩
  refine ⟨_, w1.s4, sz1 rfl, fun l2 n2 => ⟨l2, 13, [p.v], rfl, rfl, upd_same, by decide, by decide, Nat.le_of_lt (small1000 (by show 1 * 13 ≤ 1000; decide)), fun L2 nL2 => ⟨sz1 rfl, fun l3 n3 => ?_⟩⟩⟩
  have s2 := same_upd (o := .lst [p.v]) n2
  have w2 := w1.same s2
  have s3 := same_upd (o := .lst (List.replicate 13 p.v)) nL2
  have w3 := w2.same s3
  have s4 := same_upd (o := .lst [.ref L2]) n3
  have w4 := w3.same s4
  refine ⟨l3, 2, [.ref L2], rfl, rfl, upd_same, by decide, by decide, Nat.le_of_lt (small1000 (by show 1 * 2 ≤ 1000; decide)), fun L4 nL4 => ?_⟩
  have s5 := same_upd (o := .lst [.ref L2, .ref L2]) nL4
  have w5 := w4.same s5
  have eL : upd (upd (upd (upd (upd H l (.lst [.ref l7, .ref l8])) l2 (.lst [p.v])) L2 (.lst (List.replicate 13 p.v))) l3 (.lst [.ref L2])) L4 (.lst [.ref L2, .ref L2]) L2 = some (.lst (List.replicate 13 p.v)) := s5 _ _ (s4 _ _ upd_same)
  have x2 : Dq p.D p.B _ (.ref L2) (.list (List.replicate 13 p.d)) := .lst (w2.dk.neD nL2) (w2.dk.neB nL2) eL (dq_repl w5.dq 13)
  exact ⟨p.D, p.B, .ref L4, keptD p.d, rfl, .lst (w4.dk.neD nL4) (w4.dk.neB nL4) upd_same (.cons x2 (.cons x2 .nil)), ff.sh, ff.zl, ff.dl, rfl, _, rfl, iteNS rfl (q _ (s1.trans (s2.trans (s3.trans (s4.trans s5)))))⟩
/-- one turn -/
def tTurn : TS := fun Dn σ H => ∃ D B C cells, U0 D B C cells σ H ∧ ∀ D B C cells σ' H', U0 D B C cells σ' H' → Dn.nx σ' H'
theorem turn (T : En P w K mg base R Cs) (hr : Room 7 (LX P w K mg base f cdv Ar out s0 H0 E).A) (hg : (LX P w K mg base f cdv Ar out s0 H0 E).A.guards = some []) :
    ∃ t, PSs (LX P w K mg base f cdv Ar out s0 H0 E) (forB (stA 6)) t ∧ ∀ Dn σ H, tTurn Dn σ H → t Dn σ H := by
  refine ⟨_, show PSs (LX P w K mg base f cdv Ar out s0 H0 E) [stL 0, stL 1, stL 2, stL 3, stL 4, stL 5, stL 6, stL 7, stL 8, stL 9, stL 10, stL 11] _ from
    pss_cons (b0 T hr) (pss_cons (b1 T hr) (pss_cons (b2 T hr) (pss_cons (b3 T hr) (pss_cons (b4 T hr) (pss_cons (b5 T hr) (pss_cons (b6 T hr) (pss_cons (b7 T hr) (pss_cons (b8 T hr) (pss_cons (b9 T hr) (pss_cons (b10 T hr) (pss_one (b11 T hr hg)))))))))))), ?_⟩
  rintro Dn σ H ⟨D, B, C, cells, u, q⟩
  refine ⟨D, B, C, cells, u, fun p σ0 G0 v0 => ⟨p, v0, fun p σ1 G1 v1 => ⟨p, v1, fun σ2 G2 v2 => ⟨p, v2, fun σ3 G3 s3 o3 v3 l3 => ⟨p, v3, l3, by decide, fun σ4 G4 s4 o4 v4 l4 => ⟨p, v4, l4, by decide, fun σ5 G5 s5 o5 v5 l5 => ?_⟩⟩⟩⟩⟩⟩
  have up : ∀ {σa σb : L2.St} {Ga Gb : Hp}, Ls p 7 13 σa Ga → Same Ga Gb → (∀ j, j ≠ 8 → σb[j]? = σa[j]?) → Ls p 7 13 σb Gb := fun {σa σb Ga Gb} h s o => by
    obtain ⟨l, h1, h2, h3⟩ := h
    exact ⟨l, by rw [o 7 (by decide)]; exact h1, s _ _ h2, h3⟩
  refine ⟨p, v5, fun σ6 G6 s6 o6 v6 l6 => ⟨p, v6, l6, by decide, fun σ7 G7 s7 o7 v7 l7 => ⟨p, v7, l7, by decide, fun σ8 G8 s8 o8 v8 l8 => ⟨p, v8, l8, by decide, fun σ9 G9 s9 o9 v9 l9 => ⟨p, v9, l9, by decide, fun σA GA sA oA vA lA => ?_⟩⟩⟩⟩⟩
  have k7 := up (up (up (up (up l5 s6 o6) s7 o7) s8 o8) s9 o9) sA oA
  exact ⟨p, vA, k7, lA, fun G' s' => q p.D p.B p.C p.cells σA G' (vA.toU0.same s')⟩
end
theorem run_law {f : Addr} {fd : FuncData} (F : Fun K "law" "law" sLaw f fd) (T : En P w K mg base R Cs) : RunG P w K mg base 8 f fd ["_law_script"] (spLaw K) := by
  refine runG_of F scLaw (fun vs H Q E h => ?_) (fun cdv Ar out s0 H vs Q E hg hr h => ?_)
  · obtain ⟨a, ns, rfl, _⟩ := h
    rfl
  · obtain ⟨a, ns, rfl, hS, hn, q⟩ := h
    obtain ⟨fK, fdK, GK⟩ := T.deck
    obtain ⟨tA, hA, kA⟩ := turn (P := P) (w := w) (K := K) (mg := mg) (base := base) (f := f) (cdv := cdv) (Ar := Ar) (out := out) (s0 := s0) (H0 := H) (E := E) T hr hg
    refine ⟨_, pss_cons (ps_set (i := 1) scLaw.nd rfl (.inl rfl) (pe_call GK.F (hr.mono (by decide)) (by rfl) GK.g GK.kp GK.b .nil pass0 (pa_cons (pv 0) pa_nil)))
      (pss_cons (a1 T.con) (pss_cons (a2 T.con T.bn hr hg) (pss_cons (a3 T.con) (pss_cons (a4 T.con) (pss_cons (a5 T.bn hr hg)
      (pss_cons (ps_for PassesOwn.never rfl (pi_range1 rfl T.bn.rng (pa_cons pe_int pa_nil)) (pg_name (i := 3) scLaw.nd rfl (.inl rfl)) hA)
      (pss_one (ps_ret pe_bl)))))))), ?_⟩
    refine ⟨_, rfl, a, ns, rfl, hS, hn, fun H1 D B C cells s1 _ _ _ dk => ?_⟩
    refine ⟨D, B, C, cells, ⟨rfl, rfl, dk⟩, fun p1 σ1 G1 u1 g1 e1 x1 y1 => ⟨D, B, C, cells, p1, u1, g1, e1, x1, y1, fun σ2 G2 u2 => ⟨D, B, C, cells, u2, fun p3 σ3 G3 u3 g3 e3 x3 y3 => ⟨D, B, C, cells, p3, u3, g3, e3, x3, y3, fun p4 σ4 G4 u4 g4 e4 x4 y4 => ⟨D, B, C, cells, p4, u4, g4, e4, x4, y4, fun σ5 G5 u5 => ?_⟩⟩⟩⟩⟩
    refine ⟨6, rfl, by decide, by decide, for_range (n := 6) (fun i σ H3 => ∃ (D B C : Addr) (cells : List Int), U0 D B C cells σ H3) ⟨D, B, C, cells, u5⟩ ?_ ?_⟩
    · rintro i σ H3 hi ⟨D, B, C, cells, u6⟩
      exact kA _ _ _ ⟨D, B, C, cells, u6.set (by decide), fun D B C cells σ' H' u7 => ⟨D, B, C, cells, u7⟩⟩
    · rintro σ H3 _
      exact q H3
end
end Jg
namespace Jg
open PySem PySem.Spec PyProof.Rows L2
/-! ### what the head has to tell -/
theorem kb_two {K : PySem.W.Frag} {fd : FuncData} {x : Str} (h : ∀ a v, bindArgs fd ⟨[a], [(x, v)]⟩ = pure [(Str.ofString "self", a), (x, v)]) : KBinds K fd ["self", x] [x] kwTwo kwTwoV where
  to := fun s us ws _ hl => match us, ws, hl with
    | [a], [v], _ => .of_eq (h a v)
    | [], [], z => absurd z (show ¬ (0 = 2) by decide)
    | [], _ :: _, z => absurd z (show ¬ (0 = 2) by decide)
    | [_], [], z => absurd z (show ¬ (0 = 2) by decide)
    | [_], _ :: _ :: _, z => absurd z (show ¬ (0 = 2) by decide)
    | _ :: _ :: _, _, z => absurd z (show ¬ (0 = 2) by decide)
  rel := fun r1 r2 => by
    cases r1 with
    | nil => exact .nil
    | cons a r =>
      cases r with
      | cons b r => exact .nil
      | nil =>
        cases r2 with
        | nil => exact .nil
        | cons c r =>
          cases r with
          | nil => exact .cons a (.cons c .nil)
          | cons d r => exact .nil
/-- of a class with a field -/
structure Hf (K : PySem.W.Frag) (C fI : Addr) (f : Str) : Prop where
  kp : PySem.W.keepIn K (.ref C) = true
  T : OexC K C
  iC : PySem.W.findIn K (.ref C) "__init__" = some (some (.ref fI))
  tI : PySem.W.typeIn K (.ref fI) = some (.type "function")
  no : PySem.W.findIn K (.ref C) f = some none
theorem hf_mk {K : PySem.W.Frag} {C fI : Addr} {f nm q : Str} {N : Addr} {bs bm : List Value} {sn : List Str} {sub : List Value} {ab : Bool} {col : Option Bool} {dd : Option Addr} {k0 k1 k2 k3 k5 : Option Value} (kp : PySem.W.keepIn K (.ref C) = true)
    (l : K.lookup C = some (excClassObj nm q C N bs bm true sn sub ab col dd k0 k1 k2 k3 k5 "ValueError.__new__")) (v : PySem.HandSPX.refsVE bm = true) (sa : PySem.W.findIn K (.ref C) "__setattr__" = some (some (.builtin "object.__setattr__"))) (ty : PySem.W.typeIn K (.ref C) = some (.type "type"))
    (iC : PySem.W.findIn K (.ref C) "__init__" = some (some (.ref fI))) (tI : PySem.W.typeIn K (.ref fI) = some (.type "function")) (no : PySem.W.findIn K (.ref C) f = some none) (ex : PySem.W.subIn K (.ref C) (.type "BaseException") = some true) : Hf K C fI f :=
  ⟨kp, ⟨⟨nm, q, N, bs, bm, sn, sub, ab, col, dd, k0, k1, k2, k3, k5, l, v⟩, sa, ex, ty, kp⟩, iC, tI, no⟩
theorem kin_mk {K : PySem.W.Frag} {R C : Addr} {cd : ClassData} (h1 : PySem.W.clsIn K C = some cd) (h2 : cd.mro = [.ref C, .ref R, .type "ValueError", .type "Exception", .type "BaseException", .type "object"]) (ty : PySem.W.typeIn K (.ref C) = some (.type "type")) (ex : ExcC K C) : Kin K R C := ⟨⟨cd, h1, h2⟩, ty, ex⟩
theorem xf_of {K : PySem.W.Frag} {C : Addr} (h : ExcC K C) : XfC K C := ⟨h.hg, h.hk, h.hs, h.hd⟩
theorem nodup_at {l : List Addr} (h : l.Nodup) {i j : Nat} (hi : i < l.length) (hj : j < l.length) (e : l.getD i 0 = l.getD j 0) : i = j := by
  rw [List.getD_eq_getElem?_getD, List.getD_eq_getElem?_getD, List.getElem?_eq_getElem hi, List.getElem?_eq_getElem hj] at e
  refine (List.getElem?_inj hi h).mp ?_
  rw [List.getElem?_eq_getElem hi, List.getElem?_eq_getElem hj]
  exact congrArg some e
theorem getD_mem {l : List Addr} {i : Nat} (hi : i < l.length) : l.getD i 0 ∈ l := by
  rw [List.getD_eq_getElem?_getD, List.getElem?_eq_getElem hi]
  exact List.getElem_mem _
/-! ### what the top has written -/
set_option maxHeartbeats 4000000 in
theorem all_mk {l : PySem.W.OpenLaw} {w : World} {K : PySem.W.Frag} {h : Heap} {mg : Str → Option Value} {fa f52 f53 f54 f55 f56 f57 f58 C0 C1 C2 C3 C4 C5 C6 C7 C8 C9 C10 C11 C12 C13 C14 C15 C16 C17 C18 C19 C20 C21 C22 j0 j1 j2 j7 j8 j9 j10 j11 j12 j13 j19 j20 j21 fR : Addr} {tk_MAX_INPUTS tk_MAX_STEPS tk_MAX_ENDS tk_MAX_WIDE tk_MAX_LONG tk_MAX_SIZE tk_MAX_TERMS tk_MAX_LETTERS tk_MAX_EDITS tk_BATCH tk_MAX_NUMBER tk_MAX_TIMES tk_MAX_PLACES tk_MAX_MOVES tk_MAX_PRIME tk_MAX_LEVEL tk_MAX_POINTS tk_MAX_LINE tk_MAX_WAYS tk_MAX_ROUNDS tk_MAX_ACTS tk_MAX_HELD tk_MAX_BARE tk_MAX_BOTH tk_MAX_BOX tk_MAX_DEEP : Tok} (X : K.In h) (G : h.Ns mainGlobals mg) (hfa : mg "law" = some (.ref fa))
    {od52 an52 od53 an53 od54 an54 od55 an55 od56 an56 od57 an57 od58 an58 odi0 ani0 odi1 ani1 odi2 ani2 odi7 ani7 odi8 ani8 odi9 ani9 odi10 ani10 odi11 ani11 odi12 ani12 odi13 ani13 odi19 ani19 odi20 ani20 odi21 ani21 : Option Addr} {sl52 sl53 sl54 sl55 sl56 sl57 sl58 sli0 sli1 sli2 sli7 sli8 sli9 sli10 sli11 sli12 sli13 sli19 sli20 sli21 : Array (Option Value)} {oc52 kV52 dc52 pm52 cd52 ct52 oc53 kV53 dc53 pm53 cd53 ct53 oc54 kV54 dc54 pm54 cd54 ct54 oc55 kV55 dc55 pm55 cd55 ct55 oc56 kV56 dc56 pm56 cd56 ct56 oc57 kV57 dc57 pm57 cd57 ct57 oc58 kV58 dc58 pm58 cd58 ct58 oci0 kVi0 dci0 pmi0 cdi0 cti0 oci1 kVi1 dci1 pmi1 cdi1 cti1 oci2 kVi2 dci2 pmi2 cdi2 cti2 oci7 kVi7 dci7 pmi7 cdi7 cti7 oci8 kVi8 dci8 pmi8 cdi8 cti8 oci9 kVi9 dci9 pmi9 cdi9 cti9 oci10 kVi10 dci10 pmi10 cdi10 cti10 oci11 kVi11 dci11 pmi11 cdi11 cti11 oci12 kVi12 dci12 pmi12 cdi12 cti12 oci13 kVi13 dci13 pmi13 cdi13 cti13 oci19 kVi19 dci19 pmi19 cdi19 cti19 oci20 kVi20 dci20 pmi20 cdi20 cti20 oci21 kVi21 dci21 pmi21 cdi21 cti21 : Value}
    (a52 : PySem.W.nsIn K mainGlobals "_law_deck" = some (some (.ref f52))) (l52 : K.lookup f52 = some ⟨oc52, od52, .func (PySem.W.fnOf "_law_deck" "_law_deck" (defArgs sDeck) (defBody sDeck) (defScope sDeck) .none kV52 dc52 pm52 an52 cd52 ct52), sl52⟩) (c52 : PySem.W.codeIn K cd52 "_law_deck" = true) (k52 : PySem.W.keepIn K (.ref f52) = true)
    (a53 : PySem.W.nsIn K mainGlobals "_law_draw" = some (some (.ref f53))) (l53 : K.lookup f53 = some ⟨oc53, od53, .func (PySem.W.fnOf "_law_draw" "_law_draw" (defArgs sDraw) (defBody sDraw) (defScope sDraw) .none kV53 dc53 pm53 an53 cd53 ct53), sl53⟩) (c53 : PySem.W.codeIn K cd53 "_law_draw" = true) (k53 : PySem.W.keepIn K (.ref f53) = true)
    (a54 : PySem.W.nsIn K mainGlobals "_law_one" = some (some (.ref f54))) (l54 : K.lookup f54 = some ⟨oc54, od54, .func (PySem.W.fnOf "_law_one" "_law_one" (defArgs sOne) (defBody sOne) (defScope sOne) .none kV54 dc54 pm54 an54 cd54 ct54), sl54⟩) (c54 : PySem.W.codeIn K cd54 "_law_one" = true) (k54 : PySem.W.keepIn K (.ref f54) = true)
    (a55 : PySem.W.nsIn K mainGlobals "_law_odd" = some (some (.ref f55))) (l55 : K.lookup f55 = some ⟨oc55, od55, .func (PySem.W.fnOf "_law_odd" "_law_odd" (defArgs sOdd) (defBody sOdd) (defScope sOdd) .none kV55 dc55 pm55 an55 cd55 ct55), sl55⟩) (c55 : PySem.W.codeIn K cd55 "_law_odd" = true) (k55 : PySem.W.keepIn K (.ref f55) = true)
    (a56 : PySem.W.nsIn K mainGlobals "_law_made" = some (some (.ref f56))) (l56 : K.lookup f56 = some ⟨oc56, od56, .func (PySem.W.fnOf "_law_made" "_law_made" (defArgs sMade) (defBody sMade) (defScope sMade) .none kV56 dc56 pm56 an56 cd56 ct56), sl56⟩) (c56 : PySem.W.codeIn K cd56 "_law_made" = true) (k56 : PySem.W.keepIn K (.ref f56) = true)
    (a57 : PySem.W.nsIn K mainGlobals "_law_classes" = some (some (.ref f57))) (l57 : K.lookup f57 = some ⟨oc57, od57, .func (PySem.W.fnOf "_law_classes" "_law_classes" (defArgs sCls) (defBody sCls) (defScope sCls) .none kV57 dc57 pm57 an57 cd57 ct57), sl57⟩) (c57 : PySem.W.codeIn K cd57 "_law_classes" = true) (k57 : PySem.W.keepIn K (.ref f57) = true)
    (a58 : PySem.W.nsIn K mainGlobals "law" = some (some (.ref f58))) (l58 : K.lookup f58 = some ⟨oc58, od58, .func (PySem.W.fnOf "law" "law" (defArgs sLaw) (defBody sLaw) (defScope sLaw) .none kV58 dc58 pm58 an58 cd58 ct58), sl58⟩) (c58 : PySem.W.codeIn K cd58 "law" = true) (k58 : PySem.W.keepIn K (.ref f58) = true)
    (g0 : PySem.W.nsIn K mainGlobals "BadRow" = some (some (.ref C0))) (kn0 : Kin K fR C0)
    (hf0 : Hf K C0 j0 "error") (li0 : K.lookup j0 = some ⟨oci0, odi0, .func (PySem.W.fnOf "__init__" "BadRow.__init__" (defArgs (iniS 2)) (defBody (iniS 2)) (defScope (iniS 2)) .none kVi0 dci0 pmi0 ani0 cdi0 cti0), sli0⟩) (ci0 : PySem.W.codeIn K cdi0 "BadRow.__init__" = true) (ki0 : PySem.W.keepIn K (.ref j0) = true)
    (g1 : PySem.W.nsIn K mainGlobals "BadPoint" = some (some (.ref C1))) (kn1 : Kin K fR C1)
    (hf1 : Hf K C1 j1 "given") (li1 : K.lookup j1 = some ⟨oci1, odi1, .func (PySem.W.fnOf "__init__" "BadPoint.__init__" (defArgs (iniS 3)) (defBody (iniS 3)) (defScope (iniS 3)) .none kVi1 dci1 pmi1 ani1 cdi1 cti1), sli1⟩) (ci1 : PySem.W.codeIn K cdi1 "BadPoint.__init__" = true) (ki1 : PySem.W.keepIn K (.ref j1) = true)
    (g2 : PySem.W.nsIn K mainGlobals "BadText" = some (some (.ref C2))) (kn2 : Kin K fR C2)
    (hf2 : Hf K C2 j2 "place") (li2 : K.lookup j2 = some ⟨oci2, odi2, .func (PySem.W.fnOf "__init__" "BadText.__init__" (defArgs (iniS 4)) (defBody (iniS 4)) (defScope (iniS 4)) .none kVi2 dci2 pmi2 ani2 cdi2 cti2), sli2⟩) (ci2 : PySem.W.codeIn K cdi2 "BadText.__init__" = true) (ki2 : PySem.W.keepIn K (.ref j2) = true)
    (g3 : PySem.W.nsIn K mainGlobals "TooWide" = some (some (.ref C3))) (kn3 : Kin K fR C3)
    (kp3 : PySem.W.keepIn K (.ref C3) = true) (xc3 : PySem.W.excIn K C3 [.type "ValueError", .type "Exception", .type "BaseException", .type "object"] "ValueError.__new__" = true)
    (g4 : PySem.W.nsIn K mainGlobals "TooLong" = some (some (.ref C4))) (kn4 : Kin K fR C4)
    (kp4 : PySem.W.keepIn K (.ref C4) = true) (xc4 : PySem.W.excIn K C4 [.type "ValueError", .type "Exception", .type "BaseException", .type "object"] "ValueError.__new__" = true)
    (g5 : PySem.W.nsIn K mainGlobals "NotStraight" = some (some (.ref C5))) (kn5 : Kin K fR C5)
    (kp5 : PySem.W.keepIn K (.ref C5) = true) (xc5 : PySem.W.excIn K C5 [.type "ValueError", .type "Exception", .type "BaseException", .type "object"] "ValueError.__new__" = true)
    (g6 : PySem.W.nsIn K mainGlobals "NotRound" = some (some (.ref C6))) (kn6 : Kin K fR C6)
    (kp6 : PySem.W.keepIn K (.ref C6) = true) (xc6 : PySem.W.excIn K C6 [.type "ValueError", .type "Exception", .type "BaseException", .type "object"] "ValueError.__new__" = true)
    (g7 : PySem.W.nsIn K mainGlobals "NoStep" = some (some (.ref C7))) (kn7 : Kin K fR C7)
    (hf7 : Hf K C7 j7 "number") (li7 : K.lookup j7 = some ⟨oci7, odi7, .func (PySem.W.fnOf "__init__" "NoStep.__init__" (defArgs (iniS 9)) (defBody (iniS 9)) (defScope (iniS 9)) .none kVi7 dci7 pmi7 ani7 cdi7 cti7), sli7⟩) (ci7 : PySem.W.codeIn K cdi7 "NoStep.__init__" = true) (ki7 : PySem.W.keepIn K (.ref j7) = true)
    (g8 : PySem.W.nsIn K mainGlobals "NoInput" = some (some (.ref C8))) (kn8 : Kin K fR C8)
    (hf8 : Hf K C8 j8 "given") (li8 : K.lookup j8 = some ⟨oci8, odi8, .func (PySem.W.fnOf "__init__" "NoInput.__init__" (defArgs (iniS 10)) (defBody (iniS 10)) (defScope (iniS 10)) .none kVi8 dci8 pmi8 ani8 cdi8 cti8), sli8⟩) (ci8 : PySem.W.codeIn K cdi8 "NoInput.__init__" = true) (ki8 : PySem.W.keepIn K (.ref j8) = true)
    (g9 : PySem.W.nsIn K mainGlobals "NoEnd" = some (some (.ref C9))) (kn9 : Kin K fR C9)
    (hf9 : Hf K C9 j9 "given") (li9 : K.lookup j9 = some ⟨oci9, odi9, .func (PySem.W.fnOf "__init__" "NoEnd.__init__" (defArgs (iniS 11)) (defBody (iniS 11)) (defScope (iniS 11)) .none kVi9 dci9 pmi9 ani9 cdi9 cti9), sli9⟩) (ci9 : PySem.W.codeIn K cdi9 "NoEnd.__init__" = true) (ki9 : PySem.W.keepIn K (.ref j9) = true)
    (g10 : PySem.W.nsIn K mainGlobals "NoName" = some (some (.ref C10))) (kn10 : Kin K fR C10)
    (hf10 : Hf K C10 j10 "given") (li10 : K.lookup j10 = some ⟨oci10, odi10, .func (PySem.W.fnOf "__init__" "NoName.__init__" (defArgs (iniS 12)) (defBody (iniS 12)) (defScope (iniS 12)) .none kVi10 dci10 pmi10 ani10 cdi10 cti10), sli10⟩) (ci10 : PySem.W.codeIn K cdi10 "NoName.__init__" = true) (ki10 : PySem.W.keepIn K (.ref j10) = true)
    (g11 : PySem.W.nsIn K mainGlobals "BadMoves" = some (some (.ref C11))) (kn11 : Kin K fR C11)
    (hf11 : Hf K C11 j11 "error") (li11 : K.lookup j11 = some ⟨oci11, odi11, .func (PySem.W.fnOf "__init__" "BadMoves.__init__" (defArgs (iniS 13)) (defBody (iniS 13)) (defScope (iniS 13)) .none kVi11 dci11 pmi11 ani11 cdi11 cti11), sli11⟩) (ci11 : PySem.W.codeIn K cdi11 "BadMoves.__init__" = true) (ki11 : PySem.W.keepIn K (.ref j11) = true)
    (g12 : PySem.W.nsIn K mainGlobals "BadPlan" = some (some (.ref C12))) (kn12 : Kin K fR C12)
    (hf12 : Hf K C12 j12 "error") (li12 : K.lookup j12 = some ⟨oci12, odi12, .func (PySem.W.fnOf "__init__" "BadPlan.__init__" (defArgs (iniS 14)) (defBody (iniS 14)) (defScope (iniS 14)) .none kVi12 dci12 pmi12 ani12 cdi12 cti12), sli12⟩) (ci12 : PySem.W.codeIn K cdi12 "BadPlan.__init__" = true) (ki12 : PySem.W.keepIn K (.ref j12) = true)
    (g13 : PySem.W.nsIn K mainGlobals "TooGreat" = some (some (.ref C13))) (kn13 : Kin K fR C13)
    (hf13 : Hf K C13 j13 "limit") (li13 : K.lookup j13 = some ⟨oci13, odi13, .func (PySem.W.fnOf "__init__" "TooGreat.__init__" (defArgs (iniS 15)) (defBody (iniS 15)) (defScope (iniS 15)) .none kVi13 dci13 pmi13 ani13 cdi13 cti13), sli13⟩) (ci13 : PySem.W.codeIn K cdi13 "TooGreat.__init__" = true) (ki13 : PySem.W.keepIn K (.ref j13) = true)
    (g14 : PySem.W.nsIn K mainGlobals "Unfit" = some (some (.ref C14))) (kn14 : Kin K fR C14)
    (kp14 : PySem.W.keepIn K (.ref C14) = true) (xc14 : PySem.W.excIn K C14 [.type "ValueError", .type "Exception", .type "BaseException", .type "object"] "ValueError.__new__" = true)
    (g15 : PySem.W.nsIn K mainGlobals "Busy" = some (some (.ref C15))) (kn15 : Kin K fR C15)
    (kp15 : PySem.W.keepIn K (.ref C15) = true) (xc15 : PySem.W.excIn K C15 [.type "ValueError", .type "Exception", .type "BaseException", .type "object"] "ValueError.__new__" = true)
    (g16 : PySem.W.nsIn K mainGlobals "Full" = some (some (.ref C16))) (kn16 : Kin K fR C16)
    (kp16 : PySem.W.keepIn K (.ref C16) = true) (xc16 : PySem.W.excIn K C16 [.type "ValueError", .type "Exception", .type "BaseException", .type "object"] "ValueError.__new__" = true)
    (g17 : PySem.W.nsIn K mainGlobals "NothingDone" = some (some (.ref C17))) (kn17 : Kin K fR C17)
    (kp17 : PySem.W.keepIn K (.ref C17) = true) (xc17 : PySem.W.excIn K C17 [.type "ValueError", .type "Exception", .type "BaseException", .type "object"] "ValueError.__new__" = true)
    (g18 : PySem.W.nsIn K mainGlobals "NothingUndone" = some (some (.ref C18))) (kn18 : Kin K fR C18)
    (kp18 : PySem.W.keepIn K (.ref C18) = true) (xc18 : PySem.W.excIn K C18 [.type "ValueError", .type "Exception", .type "BaseException", .type "object"] "ValueError.__new__" = true)
    (g19 : PySem.W.nsIn K mainGlobals "NoVersion" = some (some (.ref C19))) (kn19 : Kin K fR C19)
    (hf19 : Hf K C19 j19 "given") (li19 : K.lookup j19 = some ⟨oci19, odi19, .func (PySem.W.fnOf "__init__" "NoVersion.__init__" (defArgs (iniS 21)) (defBody (iniS 21)) (defScope (iniS 21)) .none kVi19 dci19 pmi19 ani19 cdi19 cti19), sli19⟩) (ci19 : PySem.W.codeIn K cdi19 "NoVersion.__init__" = true) (ki19 : PySem.W.keepIn K (.ref j19) = true)
    (g20 : PySem.W.nsIn K mainGlobals "Changed" = some (some (.ref C20))) (kn20 : Kin K fR C20)
    (hf20 : Hf K C20 j20 "name") (li20 : K.lookup j20 = some ⟨oci20, odi20, .func (PySem.W.fnOf "__init__" "Changed.__init__" (defArgs (iniS 22)) (defBody (iniS 22)) (defScope (iniS 22)) .none kVi20 dci20 pmi20 ani20 cdi20 cti20), sli20⟩) (ci20 : PySem.W.codeIn K cdi20 "Changed.__init__" = true) (ki20 : PySem.W.keepIn K (.ref j20) = true)
    (g21 : PySem.W.nsIn K mainGlobals "Rejected" = some (some (.ref C21))) (kn21 : Kin K fR C21)
    (hf21 : Hf K C21 j21 "index") (li21 : K.lookup j21 = some ⟨oci21, odi21, .func (PySem.W.fnOf "__init__" "Rejected.__init__" (defArgs (iniS 23)) (defBody (iniS 23)) (defScope (iniS 23)) .none kVi21 dci21 pmi21 ani21 cdi21 cti21), sli21⟩) (ci21 : PySem.W.codeIn K cdi21 "Rejected.__init__" = true) (ki21 : PySem.W.keepIn K (.ref j21) = true)
    (g22 : PySem.W.nsIn K mainGlobals "BadBatch" = some (some (.ref C22))) (kn22 : Kin K fR C22)
    (kp22 : PySem.W.keepIn K (.ref C22) = true) (xc22 : PySem.W.excIn K C22 [.type "ValueError", .type "Exception", .type "BaseException", .type "object"] "ValueError.__new__" = true)
    (aR : PySem.W.nsIn K mainGlobals "RowError" = some (some (.ref fR))) (dR : PySem.W.hasDictIn K fR = true) (tR : PySem.W.typeIn K (.ref fR) = some (.type "type"))
    (nd : [C0, C1, C2, C3, C4, C5, C6, C7, C8, C9, C10, C11, C12, C13, C14, C15, C16, C17, C18, C19, C20, C21, C22, fR].Nodup)
    (a_MAX_INPUTS : PySem.W.nsIn K mainGlobals "MAX_INPUTS" = some (some (.int 8 tk_MAX_INPUTS)))
    (a_MAX_STEPS : PySem.W.nsIn K mainGlobals "MAX_STEPS" = some (some (.int 60 tk_MAX_STEPS)))
    (a_MAX_ENDS : PySem.W.nsIn K mainGlobals "MAX_ENDS" = some (some (.int 8 tk_MAX_ENDS)))
    (a_MAX_WIDE : PySem.W.nsIn K mainGlobals "MAX_WIDE" = some (some (.int 20 tk_MAX_WIDE)))
    (a_MAX_LONG : PySem.W.nsIn K mainGlobals "MAX_LONG" = some (some (.int 400 tk_MAX_LONG)))
    (a_MAX_SIZE : PySem.W.nsIn K mainGlobals "MAX_SIZE" = some (some (.int 64 tk_MAX_SIZE)))
    (a_MAX_TERMS : PySem.W.nsIn K mainGlobals "MAX_TERMS" = some (some (.int 200 tk_MAX_TERMS)))
    (a_MAX_LETTERS : PySem.W.nsIn K mainGlobals "MAX_LETTERS" = some (some (.int 8 tk_MAX_LETTERS)))
    (a_MAX_EDITS : PySem.W.nsIn K mainGlobals "MAX_EDITS" = some (some (.int 40 tk_MAX_EDITS)))
    (a_BATCH : PySem.W.nsIn K mainGlobals "BATCH" = some (some (.int 20 tk_BATCH)))
    (a_MAX_NUMBER : PySem.W.nsIn K mainGlobals "MAX_NUMBER" = some (some (.int 100000000000000000000 tk_MAX_NUMBER)))
    (a_MAX_TIMES : PySem.W.nsIn K mainGlobals "MAX_TIMES" = some (some (.int 100 tk_MAX_TIMES)))
    (a_MAX_PLACES : PySem.W.nsIn K mainGlobals "MAX_PLACES" = some (some (.int 80 tk_MAX_PLACES)))
    (a_MAX_MOVES : PySem.W.nsIn K mainGlobals "MAX_MOVES" = some (some (.int 600 tk_MAX_MOVES)))
    (a_MAX_PRIME : PySem.W.nsIn K mainGlobals "MAX_PRIME" = some (some (.int 1000 tk_MAX_PRIME)))
    (a_MAX_LEVEL : PySem.W.nsIn K mainGlobals "MAX_LEVEL" = some (some (.int 60 tk_MAX_LEVEL)))
    (a_MAX_POINTS : PySem.W.nsIn K mainGlobals "MAX_POINTS" = some (some (.int 20000 tk_MAX_POINTS)))
    (a_MAX_LINE : PySem.W.nsIn K mainGlobals "MAX_LINE" = some (some (.int 60 tk_MAX_LINE)))
    (a_MAX_WAYS : PySem.W.nsIn K mainGlobals "MAX_WAYS" = some (some (.int 10 tk_MAX_WAYS)))
    (a_MAX_ROUNDS : PySem.W.nsIn K mainGlobals "MAX_ROUNDS" = some (some (.int 40 tk_MAX_ROUNDS)))
    (a_MAX_ACTS : PySem.W.nsIn K mainGlobals "MAX_ACTS" = some (some (.int 1000 tk_MAX_ACTS)))
    (a_MAX_HELD : PySem.W.nsIn K mainGlobals "MAX_HELD" = some (some (.int 12 tk_MAX_HELD)))
    (a_MAX_BARE : PySem.W.nsIn K mainGlobals "MAX_BARE" = some (some (.int 16 tk_MAX_BARE)))
    (a_MAX_BOTH : PySem.W.nsIn K mainGlobals "MAX_BOTH" = some (some (.int 4 tk_MAX_BOTH)))
    (a_MAX_BOX : PySem.W.nsIn K mainGlobals "MAX_BOX" = some (some (.int 2000 tk_MAX_BOX)))
    (a_MAX_DEEP : PySem.W.nsIn K mainGlobals "MAX_DEEP" = some (some (.int 40 tk_MAX_DEEP)))
    (z_isinstance : PySem.W.nsIn K mainGlobals "isinstance" = some none) (z_int : PySem.W.nsIn K mainGlobals "int" = some none) (z_bool : PySem.W.nsIn K mainGlobals "bool" = some none) (z_tuple : PySem.W.nsIn K mainGlobals "tuple" = some none) (z_len : PySem.W.nsIn K mainGlobals "len" = some none) (z_all : PySem.W.nsIn K mainGlobals "all" = some none) (z_range : PySem.W.nsIn K mainGlobals "range" = some none) (z_list : PySem.W.nsIn K mainGlobals "list" = some none) (z_str : PySem.W.nsIn K mainGlobals "str" = some none) (z_min : PySem.W.nsIn K mainGlobals "min" = some none) (z_repr : PySem.W.nsIn K mainGlobals "repr" = some none) (z_abs : PySem.W.nsIn K mainGlobals "abs" = some none) (z_max : PySem.W.nsIn K mainGlobals "max" = some none) (z_sum : PySem.W.nsIn K mainGlobals "sum" = some none) (z_enumerate : PySem.W.nsIn K mainGlobals "enumerate" = some none) (z_ValueError : PySem.W.nsIn K mainGlobals "ValueError" = some none) :
    ∃ fd : FuncData, (∀ (s : Shared) (v : Value), BindsTo s fd ⟨[v], []⟩ [("_law_script", v)]) ∧ ∀ base : Heap, K.In base → base.Ns mainGlobals mg → RunG l.prog w K mg base 8 fa fd ["_law_script"] (spLaw K) := by
  have e := hfa.symm.trans (PySem.W.mg_of X G a58)
  cases e
  have T : Bn mg := ⟨PySem.W.mg_none_of X G z_isinstance, PySem.W.mg_none_of X G z_int, PySem.W.mg_none_of X G z_bool, PySem.W.mg_none_of X G z_tuple, PySem.W.mg_none_of X G z_len, PySem.W.mg_none_of X G z_all, PySem.W.mg_none_of X G z_range, PySem.W.mg_none_of X G z_list, PySem.W.mg_none_of X G z_str, PySem.W.mg_none_of X G z_min, PySem.W.mg_none_of X G z_repr, PySem.W.mg_none_of X G z_abs, PySem.W.mg_none_of X G z_max, PySem.W.mg_none_of X G z_sum, PySem.W.mg_none_of X G z_enumerate⟩
  have F52 := fun_mk (st := sDeck) l52 c52 k52
  have b52 := F52.binds (ps := ["_law_script"]) fun _ _ _ _ _ _ us hl => match us, hl with | [_], _ => rfl
  have q52 := PySem.W.mg_of X G a52
  have F53 := fun_mk (st := sDraw) l53 c53 k53
  have b53 := F53.binds (ps := ["_law_deck_here", "_law_many"]) fun _ _ _ _ _ _ us hl => match us, hl with | [_, _], _ => rfl
  have q53 := PySem.W.mg_of X G a53
  have F54 := fun_mk (st := sOne) l54 c54 k54
  have b54 := F54.binds (ps := ["_law_deck_here", "_law_items"]) fun _ _ _ _ _ _ us hl => match us, hl with | [_, _], _ => rfl
  have q54 := PySem.W.mg_of X G a54
  have F55 := fun_mk (st := sOdd) l55 c55 k55
  have b55 := F55.binds (ps := ["_law_deck_here"]) fun _ _ _ _ _ _ us hl => match us, hl with | [_], _ => rfl
  have q55 := PySem.W.mg_of X G a55
  have F56 := fun_mk (st := sMade) l56 c56 k56
  have b56 := F56.binds (ps := ["_law_one_here"]) fun _ _ _ _ _ _ us hl => match us, hl with | [_], _ => rfl
  have q56 := PySem.W.mg_of X G a56
  have F57 := fun_mk (st := sCls) l57 c57 k57
  have b57 := F57.binds (ps := ["_law_error"]) fun _ _ _ _ _ _ us hl => match us, hl with | [_], _ => rfl
  have q57 := PySem.W.mg_of X G a57
  have F58 := fun_mk (st := sLaw) l58 c58 k58
  have Z : Con mg := ⟨⟨_, PySem.W.mg_of X G a_MAX_INPUTS⟩, ⟨_, PySem.W.mg_of X G a_MAX_STEPS⟩, ⟨_, PySem.W.mg_of X G a_MAX_ENDS⟩, ⟨_, PySem.W.mg_of X G a_MAX_WIDE⟩, ⟨_, PySem.W.mg_of X G a_MAX_LONG⟩, ⟨_, PySem.W.mg_of X G a_MAX_SIZE⟩, ⟨_, PySem.W.mg_of X G a_MAX_TERMS⟩, ⟨_, PySem.W.mg_of X G a_MAX_LETTERS⟩, ⟨_, PySem.W.mg_of X G a_MAX_EDITS⟩, ⟨_, PySem.W.mg_of X G a_BATCH⟩, ⟨_, PySem.W.mg_of X G a_MAX_NUMBER⟩, ⟨_, PySem.W.mg_of X G a_MAX_TIMES⟩, ⟨_, PySem.W.mg_of X G a_MAX_PLACES⟩, ⟨_, PySem.W.mg_of X G a_MAX_MOVES⟩, ⟨_, PySem.W.mg_of X G a_MAX_PRIME⟩, ⟨_, PySem.W.mg_of X G a_MAX_LEVEL⟩, ⟨_, PySem.W.mg_of X G a_MAX_POINTS⟩, ⟨_, PySem.W.mg_of X G a_MAX_LINE⟩, ⟨_, PySem.W.mg_of X G a_MAX_WAYS⟩, ⟨_, PySem.W.mg_of X G a_MAX_ROUNDS⟩, ⟨_, PySem.W.mg_of X G a_MAX_ACTS⟩, ⟨_, PySem.W.mg_of X G a_MAX_HELD⟩, ⟨_, PySem.W.mg_of X G a_MAX_BARE⟩, ⟨_, PySem.W.mg_of X G a_MAX_BOTH⟩, ⟨_, PySem.W.mg_of X G a_MAX_BOX⟩, ⟨_, PySem.W.mg_of X G a_MAX_DEEP⟩⟩
  have hnd := List.nodup_append.mp (show ([C0, C1, C2, C3, C4, C5, C6, C7, C8, C9, C10, C11, C12, C13, C14, C15, C16, C17, C18, C19, C20, C21, C22] ++ [fR] : List Addr).Nodup from nd)
  have FI0 := fun_mk (st := iniS 2) li0 ci0 ki0
  have L0 : ∀ base : Heap, Cl l.prog w K mg base "BadRow" "error" C0 := fun base => ⟨j0, _, ⟨PySem.W.mg_of X G g0, hf0.kp, hf0.T, hf0.iC, hf0.tI, hf0.no, FI0.binds (ps := ["self", "error"]) (fun _ _ _ _ _ _ us hl => match us, hl with | [_, _], _ => rfl), kb_two fun _ _ => rfl, xf_of kn0.ex⟩, ok_ini0 FI0⟩
  have FI1 := fun_mk (st := iniS 3) li1 ci1 ki1
  have L1 : ∀ base : Heap, Cl l.prog w K mg base "BadPoint" "given" C1 := fun base => ⟨j1, _, ⟨PySem.W.mg_of X G g1, hf1.kp, hf1.T, hf1.iC, hf1.tI, hf1.no, FI1.binds (ps := ["self", "given"]) (fun _ _ _ _ _ _ us hl => match us, hl with | [_, _], _ => rfl), kb_two fun _ _ => rfl, xf_of kn1.ex⟩, ok_ini1 FI1⟩
  have FI2 := fun_mk (st := iniS 4) li2 ci2 ki2
  have L2 : ∀ base : Heap, Cl l.prog w K mg base "BadText" "place" C2 := fun base => ⟨j2, _, ⟨PySem.W.mg_of X G g2, hf2.kp, hf2.T, hf2.iC, hf2.tI, hf2.no, FI2.binds (ps := ["self", "place"]) (fun _ _ _ _ _ _ us hl => match us, hl with | [_, _], _ => rfl), kb_two fun _ _ => rfl, xf_of kn2.ex⟩, ok_ini2 FI2⟩
  have FI7 := fun_mk (st := iniS 9) li7 ci7 ki7
  have L7 : ∀ base : Heap, Cl l.prog w K mg base "NoStep" "number" C7 := fun base => ⟨j7, _, ⟨PySem.W.mg_of X G g7, hf7.kp, hf7.T, hf7.iC, hf7.tI, hf7.no, FI7.binds (ps := ["self", "number"]) (fun _ _ _ _ _ _ us hl => match us, hl with | [_, _], _ => rfl), kb_two fun _ _ => rfl, xf_of kn7.ex⟩, ok_ini7 FI7⟩
  have FI8 := fun_mk (st := iniS 10) li8 ci8 ki8
  have L8 : ∀ base : Heap, Cl l.prog w K mg base "NoInput" "given" C8 := fun base => ⟨j8, _, ⟨PySem.W.mg_of X G g8, hf8.kp, hf8.T, hf8.iC, hf8.tI, hf8.no, FI8.binds (ps := ["self", "given"]) (fun _ _ _ _ _ _ us hl => match us, hl with | [_, _], _ => rfl), kb_two fun _ _ => rfl, xf_of kn8.ex⟩, ok_ini8 FI8⟩
  have FI9 := fun_mk (st := iniS 11) li9 ci9 ki9
  have L9 : ∀ base : Heap, Cl l.prog w K mg base "NoEnd" "given" C9 := fun base => ⟨j9, _, ⟨PySem.W.mg_of X G g9, hf9.kp, hf9.T, hf9.iC, hf9.tI, hf9.no, FI9.binds (ps := ["self", "given"]) (fun _ _ _ _ _ _ us hl => match us, hl with | [_, _], _ => rfl), kb_two fun _ _ => rfl, xf_of kn9.ex⟩, ok_ini9 FI9⟩
  have FI10 := fun_mk (st := iniS 12) li10 ci10 ki10
  have L10 : ∀ base : Heap, Cl l.prog w K mg base "NoName" "given" C10 := fun base => ⟨j10, _, ⟨PySem.W.mg_of X G g10, hf10.kp, hf10.T, hf10.iC, hf10.tI, hf10.no, FI10.binds (ps := ["self", "given"]) (fun _ _ _ _ _ _ us hl => match us, hl with | [_, _], _ => rfl), kb_two fun _ _ => rfl, xf_of kn10.ex⟩, ok_ini10 FI10⟩
  have FI11 := fun_mk (st := iniS 13) li11 ci11 ki11
  have L11 : ∀ base : Heap, Cl l.prog w K mg base "BadMoves" "error" C11 := fun base => ⟨j11, _, ⟨PySem.W.mg_of X G g11, hf11.kp, hf11.T, hf11.iC, hf11.tI, hf11.no, FI11.binds (ps := ["self", "error"]) (fun _ _ _ _ _ _ us hl => match us, hl with | [_, _], _ => rfl), kb_two fun _ _ => rfl, xf_of kn11.ex⟩, ok_ini11 FI11⟩
  have FI12 := fun_mk (st := iniS 14) li12 ci12 ki12
  have L12 : ∀ base : Heap, Cl l.prog w K mg base "BadPlan" "error" C12 := fun base => ⟨j12, _, ⟨PySem.W.mg_of X G g12, hf12.kp, hf12.T, hf12.iC, hf12.tI, hf12.no, FI12.binds (ps := ["self", "error"]) (fun _ _ _ _ _ _ us hl => match us, hl with | [_, _], _ => rfl), kb_two fun _ _ => rfl, xf_of kn12.ex⟩, ok_ini12 FI12⟩
  have FI13 := fun_mk (st := iniS 15) li13 ci13 ki13
  have L13 : ∀ base : Heap, Cl l.prog w K mg base "TooGreat" "limit" C13 := fun base => ⟨j13, _, ⟨PySem.W.mg_of X G g13, hf13.kp, hf13.T, hf13.iC, hf13.tI, hf13.no, FI13.binds (ps := ["self", "limit"]) (fun _ _ _ _ _ _ us hl => match us, hl with | [_, _], _ => rfl), kb_two fun _ _ => rfl, xf_of kn13.ex⟩, ok_ini13 FI13⟩
  have FI19 := fun_mk (st := iniS 21) li19 ci19 ki19
  have L19 : ∀ base : Heap, Cl l.prog w K mg base "NoVersion" "given" C19 := fun base => ⟨j19, _, ⟨PySem.W.mg_of X G g19, hf19.kp, hf19.T, hf19.iC, hf19.tI, hf19.no, FI19.binds (ps := ["self", "given"]) (fun _ _ _ _ _ _ us hl => match us, hl with | [_, _], _ => rfl), kb_two fun _ _ => rfl, xf_of kn19.ex⟩, ok_ini19 FI19⟩
  have FI20 := fun_mk (st := iniS 22) li20 ci20 ki20
  have L20 : ∀ base : Heap, Cl l.prog w K mg base "Changed" "name" C20 := fun base => ⟨j20, _, ⟨PySem.W.mg_of X G g20, hf20.kp, hf20.T, hf20.iC, hf20.tI, hf20.no, FI20.binds (ps := ["self", "name"]) (fun _ _ _ _ _ _ us hl => match us, hl with | [_, _], _ => rfl), kb_two fun _ _ => rfl, xf_of kn20.ex⟩, ok_ini20 FI20⟩
  have FI21 := fun_mk (st := iniS 23) li21 ci21 ki21
  have L21 : ∀ base : Heap, Cl l.prog w K mg base "Rejected" "index" C21 := fun base => ⟨j21, _, ⟨PySem.W.mg_of X G g21, hf21.kp, hf21.T, hf21.iC, hf21.tI, hf21.no, FI21.binds (ps := ["self", "index"]) (fun _ _ _ _ _ _ us hl => match us, hl with | [_, _], _ => rfl), kb_two fun _ _ => rfl, xf_of kn21.ex⟩, ok_ini21 FI21⟩
  have ER : ∀ base : Heap, Errs l.prog w K mg base fR [C0, C1, C2, C3, C4, C5, C6, C7, C8, C9, C10, C11, C12, C13, C14, C15, C16, C17, C18, C19, C20, C21, C22] := fun base => {
    c0 := L0 base
    c1 := L1 base
    c2 := L2 base
    c3 := ⟨PySem.W.mg_of X G g3, kp3, xc3⟩
    c4 := ⟨PySem.W.mg_of X G g4, kp4, xc4⟩
    c5 := ⟨PySem.W.mg_of X G g5, kp5, xc5⟩
    c6 := ⟨PySem.W.mg_of X G g6, kp6, xc6⟩
    c7 := L7 base
    c8 := L8 base
    c9 := L9 base
    c10 := L10 base
    c11 := L11 base
    c12 := L12 base
    c13 := L13 base
    c14 := ⟨PySem.W.mg_of X G g14, kp14, xc14⟩
    c15 := ⟨PySem.W.mg_of X G g15, kp15, xc15⟩
    c16 := ⟨PySem.W.mg_of X G g16, kp16, xc16⟩
    c17 := ⟨PySem.W.mg_of X G g17, kp17, xc17⟩
    c18 := ⟨PySem.W.mg_of X G g18, kp18, xc18⟩
    c19 := L19 base
    c20 := L20 base
    c21 := L21 base
    c22 := ⟨PySem.W.mg_of X G g22, kp22, xc22⟩
    kin := fun i hi => match i, hi with
      | 0, _ => kn0
      | 1, _ => kn1
      | 2, _ => kn2
      | 3, _ => kn3
      | 4, _ => kn4
      | 5, _ => kn5
      | 6, _ => kn6
      | 7, _ => kn7
      | 8, _ => kn8
      | 9, _ => kn9
      | 10, _ => kn10
      | 11, _ => kn11
      | 12, _ => kn12
      | 13, _ => kn13
      | 14, _ => kn14
      | 15, _ => kn15
      | 16, _ => kn16
      | 17, _ => kn17
      | 18, _ => kn18
      | 19, _ => kn19
      | 20, _ => kn20
      | 21, _ => kn21
      | 22, _ => kn22
      | n + 23, z => absurd z (by omega)
    ne := fun i j hi hj e => nodup_at hnd.1 hi hj e
    nR := fun i hi e => hnd.2.2 _ (getD_mem hi) fR (List.mem_singleton.mpr rfl) e
    gR := PySem.W.mg_of X G aR
    hdR := dR
    tyR := tR
    gV := PySem.W.mg_none_of X G z_ValueError }
  refine ⟨PySem.W.fnOf "law" "law" (defArgs sLaw) (defBody sLaw) (defScope sLaw) .none kV58 dc58 pm58 an58 cd58 ct58, fun s v => .of_eq rfl, fun base _ _ => ?_⟩
  exact run_law F58 {
    bn := T
    con := Z
    er := ER base
    deck := ⟨f52, _, ⟨ok_deck F52 T.abs T.len, q52, k52, b52⟩⟩
    odd := ⟨f55, _, ⟨ok_odd F55 F54 b54 q54 F53 b53 q53 T, q55, k55, b55⟩⟩
    made := ⟨f56, _, ⟨ok_made F56 (ER base), q56, k56, b56⟩⟩
    cls := ⟨f57, _, ⟨ok_cls F57 T.isi (ER base), q57, k57, b57⟩⟩ }
end Jg
open PySem PySem.W PyProof.Rows
set_option maxRecDepth 100000 in
set_option maxHeartbeats 0 in
theorem PySem.Challenge.cw_rowsback_k00_errors_and_bounds_holds : PySem.Challenge.rw_rowsback_k00_errors_and_bounds.Holds := by
  w_on; o_law; k_head; (case hw => w_witness2)
  k_fill
  refine Jg.walk_ofG (l := PySem.Challenge.rw_rowsback_k00_errors_and_bounds) (n := 63) (k := 8) (x := "_law_script") (sp := fun w => Jg.spLaw _) rfl (by decide) rfl ⟨rfl, by decide, by decide⟩ (fun w h Y => PySem.W.kIn_of Y) ?F (fun _ _ a ns hl _ hS => ⟨a, ns, rfl, hS, hl, fun _ => rfl⟩)
  case F =>
    intro w mg fa h KX G hmg
    refine' Jg.all_mk KX G hmg ?a52 ?l52 ?c52 ?k52 ?a53 ?l53 ?c53 ?k53 ?a54 ?l54 ?c54 ?k54 ?a55 ?l55 ?c55 ?k55 ?a56 ?l56 ?c56 ?k56 ?a57 ?l57 ?c57 ?k57 ?a58 ?l58 ?c58 ?k58 ?zg0 ?zkn0 ?zhf0 ?zli0 ?zci0 ?zki0 ?zg1 ?zkn1 ?zhf1 ?zli1 ?zci1 ?zki1 ?zg2 ?zkn2 ?zhf2 ?zli2 ?zci2 ?zki2 ?zg3 ?zkn3 ?zkp3 ?zxc3 ?zg4 ?zkn4 ?zkp4 ?zxc4 ?zg5 ?zkn5 ?zkp5 ?zxc5 ?zg6 ?zkn6 ?zkp6 ?zxc6 ?zg7 ?zkn7 ?zhf7 ?zli7 ?zci7 ?zki7 ?zg8 ?zkn8 ?zhf8 ?zli8 ?zci8 ?zki8 ?zg9 ?zkn9 ?zhf9 ?zli9 ?zci9 ?zki9 ?zg10 ?zkn10 ?zhf10 ?zli10 ?zci10 ?zki10 ?zg11 ?zkn11 ?zhf11 ?zli11 ?zci11 ?zki11 ?zg12 ?zkn12 ?zhf12 ?zli12 ?zci12 ?zki12 ?zg13 ?zkn13 ?zhf13 ?zli13 ?zci13 ?zki13 ?zg14 ?zkn14 ?zkp14 ?zxc14 ?zg15 ?zkn15 ?zkp15 ?zxc15 ?zg16 ?zkn16 ?zkp16 ?zxc16 ?zg17 ?zkn17 ?zkp17 ?zxc17 ?zg18 ?zkn18 ?zkp18 ?zxc18 ?zg19 ?zkn19 ?zhf19 ?zli19 ?zci19 ?zki19 ?zg20 ?zkn20 ?zhf20 ?zli20 ?zci20 ?zki20 ?zg21 ?zkn21 ?zhf21 ?zli21 ?zci21 ?zki21 ?zg22 ?zkn22 ?zkp22 ?zxc22 ?aR ?dR ?tR ?nd ?a_MAX_INPUTS ?a_MAX_STEPS ?a_MAX_ENDS ?a_MAX_WIDE ?a_MAX_LONG ?a_MAX_SIZE ?a_MAX_TERMS ?a_MAX_LETTERS ?a_MAX_EDITS ?a_BATCH ?a_MAX_NUMBER ?a_MAX_TIMES ?a_MAX_PLACES ?a_MAX_MOVES ?a_MAX_PRIME ?a_MAX_LEVEL ?a_MAX_POINTS ?a_MAX_LINE ?a_MAX_WAYS ?a_MAX_ROUNDS ?a_MAX_ACTS ?a_MAX_HELD ?a_MAX_BARE ?a_MAX_BOTH ?a_MAX_BOX ?a_MAX_DEEP ?z_isinstance ?z_int ?z_bool ?z_tuple ?z_len ?z_all ?z_range ?z_list ?z_str ?z_min ?z_repr ?z_abs ?z_max ?z_sum ?z_enumerate ?z_ValueError
    (case a52 => k_is); (case l52 => k_is); (case c52 => k_is); (case k52 => k_is)
    (case a53 => k_is); (case l53 => k_is); (case c53 => k_is); (case k53 => k_is)
    (case a54 => k_is); (case l54 => k_is); (case c54 => k_is); (case k54 => k_is)
    (case a55 => k_is); (case l55 => k_is); (case c55 => k_is); (case k55 => k_is)
    (case a56 => k_is); (case l56 => k_is); (case c56 => k_is); (case k56 => k_is)
    (case a57 => k_is); (case l57 => k_is); (case c57 => k_is); (case k57 => k_is)
    (case a58 => k_is); (case l58 => k_is); (case c58 => k_is); (case k58 => k_is)
    (case aR => k_is); (case dR => k_is); (case tR => k_is)
    (case zg0 => k_is)
    (case zkn0 => (refine' Jg.kin_mk ?yh1 ?yh2 ?yh3 ⟨?yo1, ?yo2, ?yo3, ?yo4, ?yo5, ?yo6, ?yo7, ?yo8⟩; (case yh1 => k_is); (case yh2 => rfl); (case yh3 => k_is); (case yo1 => k_is); (case yo2 => k_is); (case yo3 => k_is); (case yo4 => k_is); (case yo5 => k_is); (case yo6 => k_is); (case yo7 => k_is); (case yo8 => k_is)))
    (case zhf0 => (refine' Jg.hf_mk ?yp1 ?yq1 ?yq2 ?yq3 ?yq6 ?yp3 ?yp4 ?yp5 ?yq4; (case yp1 => k_is); (case yq1 => k_is); (case yq2 => rfl); (case yq3 => k_is); (case yq6 => k_is); (case yp3 => k_is); (case yp4 => k_is); (case yp5 => k_is); (case yq4 => k_is)))
    (case zli0 => k_is); (case zci0 => k_is); (case zki0 => k_is)
    (case zg1 => k_is)
    (case zkn1 => (refine' Jg.kin_mk ?yh1 ?yh2 ?yh3 ⟨?yo1, ?yo2, ?yo3, ?yo4, ?yo5, ?yo6, ?yo7, ?yo8⟩; (case yh1 => k_is); (case yh2 => rfl); (case yh3 => k_is); (case yo1 => k_is); (case yo2 => k_is); (case yo3 => k_is); (case yo4 => k_is); (case yo5 => k_is); (case yo6 => k_is); (case yo7 => k_is); (case yo8 => k_is)))
    (case zhf1 => (refine' Jg.hf_mk ?yp1 ?yq1 ?yq2 ?yq3 ?yq6 ?yp3 ?yp4 ?yp5 ?yq4; (case yp1 => k_is); (case yq1 => k_is); (case yq2 => rfl); (case yq3 => k_is); (case yq6 => k_is); (case yp3 => k_is); (case yp4 => k_is); (case yp5 => k_is); (case yq4 => k_is)))
    (case zli1 => k_is); (case zci1 => k_is); (case zki1 => k_is)
    (case zg2 => k_is)
    (case zkn2 => (refine' Jg.kin_mk ?yh1 ?yh2 ?yh3 ⟨?yo1, ?yo2, ?yo3, ?yo4, ?yo5, ?yo6, ?yo7, ?yo8⟩; (case yh1 => k_is); (case yh2 => rfl); (case yh3 => k_is); (case yo1 => k_is); (case yo2 => k_is); (case yo3 => k_is); (case yo4 => k_is); (case yo5 => k_is); (case yo6 => k_is); (case yo7 => k_is); (case yo8 => k_is)))
    (case zhf2 => (refine' Jg.hf_mk ?yp1 ?yq1 ?yq2 ?yq3 ?yq6 ?yp3 ?yp4 ?yp5 ?yq4; (case yp1 => k_is); (case yq1 => k_is); (case yq2 => rfl); (case yq3 => k_is); (case yq6 => k_is); (case yp3 => k_is); (case yp4 => k_is); (case yp5 => k_is); (case yq4 => k_is)))
    (case zli2 => k_is); (case zci2 => k_is); (case zki2 => k_is)
    (case zg3 => k_is)
    (case zkn3 => (refine' Jg.kin_mk ?yh1 ?yh2 ?yh3 ⟨?yo1, ?yo2, ?yo3, ?yo4, ?yo5, ?yo6, ?yo7, ?yo8⟩; (case yh1 => k_is); (case yh2 => rfl); (case yh3 => k_is); (case yo1 => k_is); (case yo2 => k_is); (case yo3 => k_is); (case yo4 => k_is); (case yo5 => k_is); (case yo6 => k_is); (case yo7 => k_is); (case yo8 => k_is)))
    (case zkp3 => k_is); (case zxc3 => k_exc)
    (case zg4 => k_is)
    (case zkn4 => (refine' Jg.kin_mk ?yh1 ?yh2 ?yh3 ⟨?yo1, ?yo2, ?yo3, ?yo4, ?yo5, ?yo6, ?yo7, ?yo8⟩; (case yh1 => k_is); (case yh2 => rfl); (case yh3 => k_is); (case yo1 => k_is); (case yo2 => k_is); (case yo3 => k_is); (case yo4 => k_is); (case yo5 => k_is); (case yo6 => k_is); (case yo7 => k_is); (case yo8 => k_is)))
    (case zkp4 => k_is); (case zxc4 => k_exc)
    (case zg5 => k_is)
    (case zkn5 => (refine' Jg.kin_mk ?yh1 ?yh2 ?yh3 ⟨?yo1, ?yo2, ?yo3, ?yo4, ?yo5, ?yo6, ?yo7, ?yo8⟩; (case yh1 => k_is); (case yh2 => rfl); (case yh3 => k_is); (case yo1 => k_is); (case yo2 => k_is); (case yo3 => k_is); (case yo4 => k_is); (case yo5 => k_is); (case yo6 => k_is); (case yo7 => k_is); (case yo8 => k_is)))
    (case zkp5 => k_is); (case zxc5 => k_exc)
    (case zg6 => k_is)
    (case zkn6 => (refine' Jg.kin_mk ?yh1 ?yh2 ?yh3 ⟨?yo1, ?yo2, ?yo3, ?yo4, ?yo5, ?yo6, ?yo7, ?yo8⟩; (case yh1 => k_is); (case yh2 => rfl); (case yh3 => k_is); (case yo1 => k_is); (case yo2 => k_is); (case yo3 => k_is); (case yo4 => k_is); (case yo5 => k_is); (case yo6 => k_is); (case yo7 => k_is); (case yo8 => k_is)))
    (case zkp6 => k_is); (case zxc6 => k_exc)
    (case zg7 => k_is)
    (case zkn7 => (refine' Jg.kin_mk ?yh1 ?yh2 ?yh3 ⟨?yo1, ?yo2, ?yo3, ?yo4, ?yo5, ?yo6, ?yo7, ?yo8⟩; (case yh1 => k_is); (case yh2 => rfl); (case yh3 => k_is); (case yo1 => k_is); (case yo2 => k_is); (case yo3 => k_is); (case yo4 => k_is); (case yo5 => k_is); (case yo6 => k_is); (case yo7 => k_is); (case yo8 => k_is)))
    (case zhf7 => (refine' Jg.hf_mk ?yp1 ?yq1 ?yq2 ?yq3 ?yq6 ?yp3 ?yp4 ?yp5 ?yq4; (case yp1 => k_is); (case yq1 => k_is); (case yq2 => rfl); (case yq3 => k_is); (case yq6 => k_is); (case yp3 => k_is); (case yp4 => k_is); (case yp5 => k_is); (case yq4 => k_is)))
    (case zli7 => k_is); (case zci7 => k_is); (case zki7 => k_is)
    (case zg8 => k_is)
    (case zkn8 => (refine' Jg.kin_mk ?yh1 ?yh2 ?yh3 ⟨?yo1, ?yo2, ?yo3, ?yo4, ?yo5, ?yo6, ?yo7, ?yo8⟩; (case yh1 => k_is); (case yh2 => rfl); (case yh3 => k_is); (case yo1 => k_is); (case yo2 => k_is); (case yo3 => k_is); (case yo4 => k_is); (case yo5 => k_is); (case yo6 => k_is); (case yo7 => k_is); (case yo8 => k_is)))
    (case zhf8 => (refine' Jg.hf_mk ?yp1 ?yq1 ?yq2 ?yq3 ?yq6 ?yp3 ?yp4 ?yp5 ?yq4; (case yp1 => k_is); (case yq1 => k_is); (case yq2 => rfl); (case yq3 => k_is); (case yq6 => k_is); (case yp3 => k_is); (case yp4 => k_is); (case yp5 => k_is); (case yq4 => k_is)))
    (case zli8 => k_is); (case zci8 => k_is); (case zki8 => k_is)
    (case zg9 => k_is)
    (case zkn9 => (refine' Jg.kin_mk ?yh1 ?yh2 ?yh3 ⟨?yo1, ?yo2, ?yo3, ?yo4, ?yo5, ?yo6, ?yo7, ?yo8⟩; (case yh1 => k_is); (case yh2 => rfl); (case yh3 => k_is); (case yo1 => k_is); (case yo2 => k_is); (case yo3 => k_is); (case yo4 => k_is); (case yo5 => k_is); (case yo6 => k_is); (case yo7 => k_is); (case yo8 => k_is)))
    (case zhf9 => (refine' Jg.hf_mk ?yp1 ?yq1 ?yq2 ?yq3 ?yq6 ?yp3 ?yp4 ?yp5 ?yq4; (case yp1 => k_is); (case yq1 => k_is); (case yq2 => rfl); (case yq3 => k_is); (case yq6 => k_is); (case yp3 => k_is); (case yp4 => k_is); (case yp5 => k_is); (case yq4 => k_is)))
    (case zli9 => k_is); (case zci9 => k_is); (case zki9 => k_is)
    (case zg10 => k_is)
    (case zkn10 => (refine' Jg.kin_mk ?yh1 ?yh2 ?yh3 ⟨?yo1, ?yo2, ?yo3, ?yo4, ?yo5, ?yo6, ?yo7, ?yo8⟩; (case yh1 => k_is); (case yh2 => rfl); (case yh3 => k_is); (case yo1 => k_is); (case yo2 => k_is); (case yo3 => k_is); (case yo4 => k_is); (case yo5 => k_is); (case yo6 => k_is); (case yo7 => k_is); (case yo8 => k_is)))
    (case zhf10 => (refine' Jg.hf_mk ?yp1 ?yq1 ?yq2 ?yq3 ?yq6 ?yp3 ?yp4 ?yp5 ?yq4; (case yp1 => k_is); (case yq1 => k_is); (case yq2 => rfl); (case yq3 => k_is); (case yq6 => k_is); (case yp3 => k_is); (case yp4 => k_is); (case yp5 => k_is); (case yq4 => k_is)))
    (case zli10 => k_is); (case zci10 => k_is); (case zki10 => k_is)
    (case zg11 => k_is)
    (case zkn11 => (refine' Jg.kin_mk ?yh1 ?yh2 ?yh3 ⟨?yo1, ?yo2, ?yo3, ?yo4, ?yo5, ?yo6, ?yo7, ?yo8⟩; (case yh1 => k_is); (case yh2 => rfl); (case yh3 => k_is); (case yo1 => k_is); (case yo2 => k_is); (case yo3 => k_is); (case yo4 => k_is); (case yo5 => k_is); (case yo6 => k_is); (case yo7 => k_is); (case yo8 => k_is)))
    (case zhf11 => (refine' Jg.hf_mk ?yp1 ?yq1 ?yq2 ?yq3 ?yq6 ?yp3 ?yp4 ?yp5 ?yq4; (case yp1 => k_is); (case yq1 => k_is); (case yq2 => rfl); (case yq3 => k_is); (case yq6 => k_is); (case yp3 => k_is); (case yp4 => k_is); (case yp5 => k_is); (case yq4 => k_is)))
    (case zli11 => k_is); (case zci11 => k_is); (case zki11 => k_is)
    (case zg12 => k_is)
    (case zkn12 => (refine' Jg.kin_mk ?yh1 ?yh2 ?yh3 ⟨?yo1, ?yo2, ?yo3, ?yo4, ?yo5, ?yo6, ?yo7, ?yo8⟩; (case yh1 => k_is); (case yh2 => rfl); (case yh3 => k_is); (case yo1 => k_is); (case yo2 => k_is); (case yo3 => k_is); (case yo4 => k_is); (case yo5 => k_is); (case yo6 => k_is); (case yo7 => k_is); (case yo8 => k_is)))
    (case zhf12 => (refine' Jg.hf_mk ?yp1 ?yq1 ?yq2 ?yq3 ?yq6 ?yp3 ?yp4 ?yp5 ?yq4; (case yp1 => k_is); (case yq1 => k_is); (case yq2 => rfl); (case yq3 => k_is); (case yq6 => k_is); (case yp3 => k_is); (case yp4 => k_is); (case yp5 => k_is); (case yq4 => k_is)))
    (case zli12 => k_is); (case zci12 => k_is); (case zki12 => k_is)
    (case zg13 => k_is)
    (case zkn13 => (refine' Jg.kin_mk ?yh1 ?yh2 ?yh3 ⟨?yo1, ?yo2, ?yo3, ?yo4, ?yo5, ?yo6, ?yo7, ?yo8⟩; (case yh1 => k_is); (case yh2 => rfl); (case yh3 => k_is); (case yo1 => k_is); (case yo2 => k_is); (case yo3 => k_is); (case yo4 => k_is); (case yo5 => k_is); (case yo6 => k_is); (case yo7 => k_is); (case yo8 => k_is)))
    (case zhf13 => (refine' Jg.hf_mk ?yp1 ?yq1 ?yq2 ?yq3 ?yq6 ?yp3 ?yp4 ?yp5 ?yq4; (case yp1 => k_is); (case yq1 => k_is); (case yq2 => rfl); (case yq3 => k_is); (case yq6 => k_is); (case yp3 => k_is); (case yp4 => k_is); (case yp5 => k_is); (case yq4 => k_is)))
    (case zli13 => k_is); (case zci13 => k_is); (case zki13 => k_is)
    (case zg14 => k_is)
    (case zkn14 => (refine' Jg.kin_mk ?yh1 ?yh2 ?yh3 ⟨?yo1, ?yo2, ?yo3, ?yo4, ?yo5, ?yo6, ?yo7, ?yo8⟩; (case yh1 => k_is); (case yh2 => rfl); (case yh3 => k_is); (case yo1 => k_is); (case yo2 => k_is); (case yo3 => k_is); (case yo4 => k_is); (case yo5 => k_is); (case yo6 => k_is); (case yo7 => k_is); (case yo8 => k_is)))
    (case zkp14 => k_is); (case zxc14 => k_exc)
    (case zg15 => k_is)
    (case zkn15 => (refine' Jg.kin_mk ?yh1 ?yh2 ?yh3 ⟨?yo1, ?yo2, ?yo3, ?yo4, ?yo5, ?yo6, ?yo7, ?yo8⟩; (case yh1 => k_is); (case yh2 => rfl); (case yh3 => k_is); (case yo1 => k_is); (case yo2 => k_is); (case yo3 => k_is); (case yo4 => k_is); (case yo5 => k_is); (case yo6 => k_is); (case yo7 => k_is); (case yo8 => k_is)))
    (case zkp15 => k_is); (case zxc15 => k_exc)
    (case zg16 => k_is)
    (case zkn16 => (refine' Jg.kin_mk ?yh1 ?yh2 ?yh3 ⟨?yo1, ?yo2, ?yo3, ?yo4, ?yo5, ?yo6, ?yo7, ?yo8⟩; (case yh1 => k_is); (case yh2 => rfl); (case yh3 => k_is); (case yo1 => k_is); (case yo2 => k_is); (case yo3 => k_is); (case yo4 => k_is); (case yo5 => k_is); (case yo6 => k_is); (case yo7 => k_is); (case yo8 => k_is)))
    (case zkp16 => k_is); (case zxc16 => k_exc)
    (case zg17 => k_is)
    (case zkn17 => (refine' Jg.kin_mk ?yh1 ?yh2 ?yh3 ⟨?yo1, ?yo2, ?yo3, ?yo4, ?yo5, ?yo6, ?yo7, ?yo8⟩; (case yh1 => k_is); (case yh2 => rfl); (case yh3 => k_is); (case yo1 => k_is); (case yo2 => k_is); (case yo3 => k_is); (case yo4 => k_is); (case yo5 => k_is); (case yo6 => k_is); (case yo7 => k_is); (case yo8 => k_is)))
    (case zkp17 => k_is); (case zxc17 => k_exc)
    (case zg18 => k_is)
    (case zkn18 => (refine' Jg.kin_mk ?yh1 ?yh2 ?yh3 ⟨?yo1, ?yo2, ?yo3, ?yo4, ?yo5, ?yo6, ?yo7, ?yo8⟩; (case yh1 => k_is); (case yh2 => rfl); (case yh3 => k_is); (case yo1 => k_is); (case yo2 => k_is); (case yo3 => k_is); (case yo4 => k_is); (case yo5 => k_is); (case yo6 => k_is); (case yo7 => k_is); (case yo8 => k_is)))
    (case zkp18 => k_is); (case zxc18 => k_exc)
    (case zg19 => k_is)
    (case zkn19 => (refine' Jg.kin_mk ?yh1 ?yh2 ?yh3 ⟨?yo1, ?yo2, ?yo3, ?yo4, ?yo5, ?yo6, ?yo7, ?yo8⟩; (case yh1 => k_is); (case yh2 => rfl); (case yh3 => k_is); (case yo1 => k_is); (case yo2 => k_is); (case yo3 => k_is); (case yo4 => k_is); (case yo5 => k_is); (case yo6 => k_is); (case yo7 => k_is); (case yo8 => k_is)))
    (case zhf19 => (refine' Jg.hf_mk ?yp1 ?yq1 ?yq2 ?yq3 ?yq6 ?yp3 ?yp4 ?yp5 ?yq4; (case yp1 => k_is); (case yq1 => k_is); (case yq2 => rfl); (case yq3 => k_is); (case yq6 => k_is); (case yp3 => k_is); (case yp4 => k_is); (case yp5 => k_is); (case yq4 => k_is)))
    (case zli19 => k_is); (case zci19 => k_is); (case zki19 => k_is)
    (case zg20 => k_is)
    (case zkn20 => (refine' Jg.kin_mk ?yh1 ?yh2 ?yh3 ⟨?yo1, ?yo2, ?yo3, ?yo4, ?yo5, ?yo6, ?yo7, ?yo8⟩; (case yh1 => k_is); (case yh2 => rfl); (case yh3 => k_is); (case yo1 => k_is); (case yo2 => k_is); (case yo3 => k_is); (case yo4 => k_is); (case yo5 => k_is); (case yo6 => k_is); (case yo7 => k_is); (case yo8 => k_is)))
    (case zhf20 => (refine' Jg.hf_mk ?yp1 ?yq1 ?yq2 ?yq3 ?yq6 ?yp3 ?yp4 ?yp5 ?yq4; (case yp1 => k_is); (case yq1 => k_is); (case yq2 => rfl); (case yq3 => k_is); (case yq6 => k_is); (case yp3 => k_is); (case yp4 => k_is); (case yp5 => k_is); (case yq4 => k_is)))
    (case zli20 => k_is); (case zci20 => k_is); (case zki20 => k_is)
    (case zg21 => k_is)
    (case zkn21 => (refine' Jg.kin_mk ?yh1 ?yh2 ?yh3 ⟨?yo1, ?yo2, ?yo3, ?yo4, ?yo5, ?yo6, ?yo7, ?yo8⟩; (case yh1 => k_is); (case yh2 => rfl); (case yh3 => k_is); (case yo1 => k_is); (case yo2 => k_is); (case yo3 => k_is); (case yo4 => k_is); (case yo5 => k_is); (case yo6 => k_is); (case yo7 => k_is); (case yo8 => k_is)))
    (case zhf21 => (refine' Jg.hf_mk ?yp1 ?yq1 ?yq2 ?yq3 ?yq6 ?yp3 ?yp4 ?yp5 ?yq4; (case yp1 => k_is); (case yq1 => k_is); (case yq2 => rfl); (case yq3 => k_is); (case yq6 => k_is); (case yp3 => k_is); (case yp4 => k_is); (case yp5 => k_is); (case yq4 => k_is)))
    (case zli21 => k_is); (case zci21 => k_is); (case zki21 => k_is)
    (case zg22 => k_is)
    (case zkn22 => (refine' Jg.kin_mk ?yh1 ?yh2 ?yh3 ⟨?yo1, ?yo2, ?yo3, ?yo4, ?yo5, ?yo6, ?yo7, ?yo8⟩; (case yh1 => k_is); (case yh2 => rfl); (case yh3 => k_is); (case yo1 => k_is); (case yo2 => k_is); (case yo3 => k_is); (case yo4 => k_is); (case yo5 => k_is); (case yo6 => k_is); (case yo7 => k_is); (case yo8 => k_is)))
    (case zkp22 => k_is); (case zxc22 => k_exc)
    (case nd => decide)
    (case a_MAX_INPUTS => k_is)
    (case a_MAX_STEPS => k_is)
    (case a_MAX_ENDS => k_is)
    (case a_MAX_WIDE => k_is)
    (case a_MAX_LONG => k_is)
    (case a_MAX_SIZE => k_is)
    (case a_MAX_TERMS => k_is)
    (case a_MAX_LETTERS => k_is)
    (case a_MAX_EDITS => k_is)
    (case a_BATCH => k_is)
    (case a_MAX_NUMBER => k_is)
    (case a_MAX_TIMES => k_is)
    (case a_MAX_PLACES => k_is)
    (case a_MAX_MOVES => k_is)
    (case a_MAX_PRIME => k_is)
    (case a_MAX_LEVEL => k_is)
    (case a_MAX_POINTS => k_is)
    (case a_MAX_LINE => k_is)
    (case a_MAX_WAYS => k_is)
    (case a_MAX_ROUNDS => k_is)
    (case a_MAX_ACTS => k_is)
    (case a_MAX_HELD => k_is)
    (case a_MAX_BARE => k_is)
    (case a_MAX_BOTH => k_is)
    (case a_MAX_BOX => k_is)
    (case a_MAX_DEEP => k_is)
    (case z_isinstance => k_is)
    (case z_int => k_is)
    (case z_bool => k_is)
    (case z_tuple => k_is)
    (case z_len => k_is)
    (case z_all => k_is)
    (case z_range => k_is)
    (case z_list => k_is)
    (case z_str => k_is)
    (case z_min => k_is)
    (case z_repr => k_is)
    (case z_abs => k_is)
    (case z_max => k_is)
    (case z_sum => k_is)
    (case z_enumerate => k_is)
    (case z_ValueError => k_is)
