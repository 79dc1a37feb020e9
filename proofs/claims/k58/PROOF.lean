import PyProof.Rows.All
import Wide.All
import OpenK.AllK
import Wide.FinOn
import HandS.ForMost
import HandS.IsInst
import HandS.TupAny
import HandS.TupMul
import HandS.Wide
import HandS.Style
import PyProof.ReprRoads
import PyProof.ReprLen
import PyProof.StrLawsRepr
import PySem.Challenge.RW_rowsback_k58_boxes_judged
set_option Elab.async false
set_option linter.all false
set_option maxRecDepth 100000
namespace Jg
open PySem PySem.Spec PyProof.Rows L2
def topS (i : Nat) : Stmt := PySem.Challenge.pw_rowsback_k58_boxes_judged.main.body.getD i (.Pass ⟨0, 0, 0, 0⟩)
end Jg
namespace Jg
open PySem PySem.Spec PyProof.Rows L2
mutual
/-- a value as data: lists (none of them D or B), tuples, empty dicts -/
inductive Dq (D B : Addr) (H : Hp) : V → PyData → Prop
  | non : Dq D B H .non .none
  | bl (b : Bool) : Dq D B H (.bl b) (.bool b)
  | int (i : Int) : Dq D B H (.int i) (.int i)
  | str (x : Str) : Dq D B H (.str x) (.str x)
  | lst {a : Addr} {xs : List V} {ds : List PyData} : a ≠ D → a ≠ B → H a = some (.lst xs) → DqAll D B H xs ds → Dq D B H (.ref a) (.list ds)
  | tup {a : Addr} {xs : List V} {ds : List PyData} : H a = some (.tup xs) → DqAll D B H xs ds → Dq D B H (.ref a) (.tuple ds)
  | dct {a : Addr} : H a = some (.dK []) → Dq D B H (.ref a) (.dict [])
inductive DqAll (D B : Addr) (H : Hp) : List V → List PyData → Prop
  | nil : DqAll D B H [] []
  | cons {v : V} {vs : List V} {d : PyData} {ds : List PyData} : Dq D B H v d → DqAll D B H vs ds → DqAll D B H (v :: vs) (d :: ds)
end
theorem DqAll.len {D B : Addr} {H : Hp} : ∀ {vs : List V} {ds : List PyData}, DqAll D B H vs ds → vs.length = ds.length
  | _, _, .nil => rfl
  | _, _, .cons _ h => congrArg Nat.succ h.len
/-- what lies stays, where all that is neither D nor B stays -/
def Fr (D B : Addr) (H H' : Hp) : Prop := ∀ b o, b ≠ D → b ≠ B → H b = some o → H' b = some o
mutual
theorem Dq.keep {D B : Addr} {H H' : Hp} (hD : ∃ xs, H D = some (.lst xs)) (hB : ∃ xs, H B = some (.lst xs)) (f : Fr D B H H') : ∀ (d : PyData) (v : V), Dq D B H v d → Dq D B H' v d
  | .none, _, h => by
    cases h
    exact .non
  | .bool _, _, h => by
    cases h
    exact .bl _
  | .int _, _, h => by
    cases h
    exact .int _
  | .str _, _, h => by
    cases h
    exact .str _
  | .list ds, _, h => by
    cases h with
    | lst h1 h2 h3 h4 => exact .lst h1 h2 (f _ _ h1 h2 h3) (DqAll.keep hD hB f ds _ h4)
  | .tuple ds, _, h => by
    obtain ⟨xD, eD⟩ := hD
    obtain ⟨xB, eB⟩ := hB
    cases h with
    | tup h3 h4 =>
      refine .tup (f _ _ (fun z => ?_) (fun z => ?_) h3) (DqAll.keep ⟨xD, eD⟩ ⟨xB, eB⟩ f ds _ h4)
      · rw [z, eD] at h3
        cases h3
      · rw [z, eB] at h3
        cases h3
  | .dict ds, _, h => by
    obtain ⟨xD, eD⟩ := hD
    obtain ⟨xB, eB⟩ := hB
    cases h with
    | dct h3 =>
      refine .dct (f _ _ (fun z => ?_) (fun z => ?_) h3)
      · rw [z, eD] at h3
        cases h3
      · rw [z, eB] at h3
        cases h3
theorem DqAll.keep {D B : Addr} {H H' : Hp} (hD : ∃ xs, H D = some (.lst xs)) (hB : ∃ xs, H B = some (.lst xs)) (f : Fr D B H H') : ∀ (ds : List PyData) (vs : List V), DqAll D B H vs ds → DqAll D B H' vs ds
  | [], _, h => by
    cases h
    exact .nil
  | d :: ds, _, h => by
    cases h with
    | cons h1 h2 => exact .cons (Dq.keep hD hB f d _ h1) (DqAll.keep hD hB f ds _ h2)
end
section
variable {X : Cx} {pins : List (Addr × Obj)} {σ : L2.St} {H : Hp} {s : Shared} {D B : Addr}
mutual
theorem Dq.rep (I : Inv X pins σ H s) : ∀ (d : PyData) (v : V) (u : Value), Dq D B H v d → RelV v u → d.showable = true → d.shown.length ≤ sizeLine →
    ∃ bs as, ReadAtMost s.heap d.depth bs ∧ Reads s.heap u d as ∧ ReprK X.prog X.w bs s.heap d.depth u d.shown
  | .none, _, _, h, r, _, _ => by
    cases h
    cases r
    exact ⟨[], [], (fun _ h => nomatch h), .none, by simp only [PyData.shown]; exact .of_is ReprIs.none _ _ _⟩
  | .bool b, _, _, h, r, _, _ => by
    cases h
    cases r
    exact ⟨[], [], (fun _ h => nomatch h), .bool b, by simp only [PyData.shown]; exact .of_is (ReprIs.bool b) _ _ _⟩
  | .int i, _, _, h, r, hs, _ => by
    cases h
    obtain ⟨t, rfl⟩ := r
    exact ⟨[], [], (fun _ h => nomatch h), .int i t, by simp only [PyData.shown]; exact .of_is (ReprIs.int t (by simpa [PyData.showable] using hs)) _ _ _⟩
  | .str x, _, _, h, r, _, hz => by
    cases h
    obtain ⟨t, rfl⟩ := r
    exact ⟨[], [], (fun _ h => nomatch h), .str x t, by simp only [PyData.shown]; exact .of_is (ReprIs.str x t (by simpa only [PyData.shown] using hz)) _ _ _⟩
  | .list ds, _, _, h, r, hs, hz => by
    cases h with
    | lst _ _ e ha =>
      cases r
      have hz2 : (listText (PyData.shownAll ds)).length ≤ sizeLine := by simpa only [PyData.shown] using hz
      obtain ⟨_, its, n, rv, ho⟩ := I.hok _ _ e
      obtain ⟨bs, as, hb, hr, hk⟩ := DqAll.rep I ds _ its ha rv (by simpa [PyData.showable] using hs) (fun t ht => Nat.le_trans (listText_mem_le ht) hz2)
      have hr2 : ReadsAll s.heap its.toArray.toList ds as := hr
      have rd := Reads.list ho rfl rfl hr2
      have hna := not_mem_of_deeper (n := PyData.depthAll ds) rd (by simp only [PyData.depth]; omega) hb
      refine ⟨_ :: bs, _, ReadAtMost.cons rd (by simp only [PyData.depth]; omega) hb, rd, ?_⟩
      simp only [PyData.depth, PyData.shown]
      cases its with
      | nil =>
        cases hr
        simp only [PyData.shownAll, listText_nil]
        exact ReprK.listEmpty ho rfl rfl
      | cons x l => exact ReprK.list ho rfl rfl hna (by simpa using hk.length_eq) (fun i y e => hk.item i y (by simpa using e))
  | .tuple ds, _, _, h, r, hs, hz => by
    cases h with
    | tup e ha =>
      cases r
      have hz2 : (tupleText (PyData.shownAll ds)).length ≤ sizeLine := by simpa only [PyData.shown] using hz
      obtain ⟨_, its, rv, o, ho, hc, n, hd⟩ := I.hok _ _ e
      obtain ⟨bs, as, hb, hr, hk⟩ := DqAll.rep I ds _ its ha rv (by simpa [PyData.showable] using hs) (fun t ht => Nat.le_trans (tupleText_mem_le ht) hz2)
      have hr2 : ReadsAll s.heap its.toArray.toList ds as := hr
      have rd := Reads.tuple ho hc hd hr2
      have hna := not_mem_of_deeper (n := PyData.depthAll ds) rd (by simp only [PyData.depth]; omega) hb
      refine ⟨_ :: bs, _, ReadAtMost.cons rd (by simp only [PyData.depth]; omega) hb, rd, ?_⟩
      simp only [PyData.depth, PyData.shown]
      exact ReprK.tuple ho hc hd hna hk
  | .dict kvs, _, _, h, r, hs, hz => by
    cases h with
    | dct e =>
      cases r
      obtain ⟨_, hsys, vs, hv, o, es, ep, ho, hx, hd, hes⟩ := I.hok _ _ e
      have hv0 : vs = [] := by
        cases hv
        rfl
      subst hv0
      have he : es = #[] := by
        have h2 := hes.2.1
        cases hq : es.toList with
        | nil => simpa using hq
        | cons e r =>
          rw [hq] at h2
          cases h2
      subst he
      have rd := Reads.dict (kvs := []) ho hx.1 hd ReadsAll.nil ReadsAll.nil
      refine ⟨_ :: [], _, ReadAtMost.cons (n := 0) rd (Nat.zero_le _) (fun _ h => nomatch h), rd, ?_⟩
      simp only [PyData.depth, PyData.depthKv, PyData.shown, PyData.shownKv]
      exact ReprK.dict ho hx.1 hd hsys (fun z => nomatch z) .nil
theorem DqAll.rep (I : Inv X pins σ H s) : ∀ (ds : List PyData) (vs : List V) (us : List Value), DqAll D B H vs ds → Vals vs us → PyData.showableAll ds = true → (∀ t ∈ PyData.shownAll ds, t.length ≤ sizeLine) →
    ∃ bs as, ReadAtMost s.heap (PyData.depthAll ds) bs ∧ ReadsAll s.heap us ds as ∧ ReprAllK X.prog X.w bs s.heap (PyData.depthAll ds) us (PyData.shownAll ds)
  | [], _, _, h, r, _, _ => by
    cases h
    cases r
    exact ⟨[], [], (fun _ h => nomatch h), .nil, by simp only [PyData.shownAll]; exact .nil⟩
  | d :: ds, _, _, h, r, hs, hz => by
    have hs2 : d.showable = true ∧ PyData.showableAll ds = true := by simpa [PyData.showableAll] using hs
    cases h with
    | cons h1 h2 =>
      cases r with
      | cons r1 r2 =>
        obtain ⟨b1, a1, hb1, q1, k1⟩ := Dq.rep I d _ _ h1 r1 hs2.1 (hz _ (by simp [PyData.shownAll]))
        obtain ⟨b2, a2, hb2, q2, k2⟩ := DqAll.rep I ds _ _ h2 r2 hs2.2 (fun t ht => hz t (by simp [PyData.shownAll, ht]))
        refine ⟨b1 ++ b2, a1 ++ a2, ?_, .cons q1 q2, ?_⟩
        · simp only [PyData.depthAll]
          exact (hb1.mono (Nat.le_max_left _ _)).append (hb2.mono (Nat.le_max_right _ _))
        · simp only [PyData.depthAll, PyData.shownAll]
          exact .cons ((k1.more fun b hb => List.mem_append_left _ hb).level_le (Nat.le_max_left _ _)) (k2.more_le (fun b hb => List.mem_append_right _ hb) (Nat.le_max_right _ _))
end
/-- repr(x), x data: what is shown of it -/
def rRepr : List V → Hp → VK → Prop := fun xs H Q => ∃ (D B : Addr) (v : V) (d : PyData), xs = [v] ∧ Dq D B H v d ∧ d.showable = true ∧ d.shown.length ≤ sizeLine ∧ d.depth ≤ 60 ∧ Q (.str d.shown) H
theorem call_reprD {X : Cx} (hg : X.A.guards = some []) (hu : X.A.units + 64 < cLine) : CallR X (.builtin "repr") rRepr := by
  intro pins s σ H xs us Q I r h
  obtain ⟨D, B, v, d, rfl, hd, hs, hz, hdp, q⟩ := h
  obtain ⟨u, rfl, ru⟩ := vals1 r
  have fin : ∀ (x : Str), x = d.shown → ∀ (h' : Heap) (t : Tok) (tk : Nat), (∀ b o, s.heap.get? b = some o → h'.get? b = some o) → EP X pins σ Q (.str x t) { s with heap := h', toks := tk } := fun x e h' t tk k => by
    subst e
    exact ⟨.str d.shown, H, I.kept (t' := tk) k, ⟨_, rfl⟩, q⟩
  cases hd with
  | non =>
    cases ru
    exact PySem.P.repr_of_none (fin _ (by simp only [PyData.shown]) _ _ _ fun _ _ z => z)
  | bl b =>
    cases ru
    exact PySem.P.repr_of_bool (fin _ (by simp only [PyData.shown]) _ _ _ fun _ _ z => z)
  | int i =>
    obtain ⟨t, rfl⟩ := ru
    exact PySem.P.repr_of_int (by simpa [PyData.showable] using hs) (fin _ (by simp only [PyData.shown]) _ _ _ fun _ _ z => z)
  | str x =>
    obtain ⟨t, rfl⟩ := ru
    exact PySem.P.repr_of_str (fin _ (by simp only [PyData.shown]) _ _ _ fun _ _ z => z) (by simpa only [PyData.shown] using hz)
  | @lst a xs ds _ _ e ha =>
    cases ru
    simp only [PyData.depth] at hdp
    have hz2 : (listText (PyData.shownAll ds)).length ≤ sizeLine := by simpa only [PyData.shown] using hz
    obtain ⟨_, its, n, rv, ho⟩ := I.hok _ _ e
    obtain ⟨bs, as, hb, hr, hk⟩ := DqAll.rep I ds _ its ha rv (by simpa [PyData.showable] using hs) (fun t ht => Nat.le_trans (listText_mem_le ht) hz2)
    have hr2 : ReadsAll s.heap its.toArray.toList ds as := hr
    have hna := not_mem_of_deeper (n := PyData.depthAll ds) (Reads.list ho rfl rfl hr2) (by simp only [PyData.depth]; omega) hb
    refine call_repr_slot (by omega) ⟨_, ho, rfl⟩ F.slot_list_repr.toG ?_
    cases its with
    | nil =>
      cases hr
      exact call_list_repr_empty ⟨_, ho, rfl⟩ ho rfl ⟨_, _, rfl, fin _ (by simp only [PyData.shown, PyData.shownAll, listText_nil]) _ _ _ fun _ _ z => z⟩
    | cons x l =>
      exact call_list_reprK ho rfl rfl hna (by simpa using hk.length_eq) (fun i y e => hk.item i y (by simpa using e)) hg (fun b _ => Clear.nil b) (by show X.A.units + 1 + _ < _; omega) (fun _ _ z => z)
        (fun h' t tk k => ⟨_, _, rfl, fin _ (by simp only [PyData.shown]) _ _ _ k⟩) hz2
  | @tup a xs ds e ha =>
    cases ru
    simp only [PyData.depth] at hdp
    have hz2 : (tupleText (PyData.shownAll ds)).length ≤ sizeLine := by simpa only [PyData.shown] using hz
    obtain ⟨_, its, rv, o, ho, hc, n, hd⟩ := I.hok _ _ e
    obtain ⟨bs, as, hb, hr, hk⟩ := DqAll.rep I ds _ its ha rv (by simpa [PyData.showable] using hs) (fun t ht => Nat.le_trans (tupleText_mem_le ht) hz2)
    have hr2 : ReadsAll s.heap its.toArray.toList ds as := hr
    have hna := not_mem_of_deeper (n := PyData.depthAll ds) (Reads.tuple ho hc hd hr2) (by simp only [PyData.depth]; omega) hb
    refine call_repr_slot (by omega) ⟨_, ho, hc⟩ F.slot_tuple_repr ?_
    exact call_tuple_reprK ho hc hd hna hk hg (fun b _ => Clear.nil b) (by show X.A.units + 1 + _ < _; omega) (fun _ _ z => z)
      (fun h' t tk k => ⟨_, _, rfl, fin _ (by simp only [PyData.shown]) _ _ _ k⟩) hz2
  | dct e =>
    cases ru
    have ho0 := Dq.rep (D := D) (B := B) I _ _ _ (.dct e) rfl hs hz
    obtain ⟨_, hsys, vs, hv, o, es, ep, ho, hx, hd, hes⟩ := I.hok _ _ e
    have he : es = #[] := by
      have h2 := hes.2.1
      cases hv
      cases hq : es.toList with
      | nil => simpa using hq
      | cons e r =>
        rw [hq] at h2
        cases h2
    subst he
    refine call_repr_slot (by omega) ⟨_, ho, hx.1⟩ F.slot_dict_repr ?_
    exact call_dict_reprK (d := 0) (as := []) ho hx.1 hd hsys (fun z => nomatch z) .nil hg (fun b _ => Clear.nil b) (by show X.A.units + 1 + _ < _; omega) (fun _ _ z => z)
      (fun h' t tk k => ⟨_, _, rfl, fin _ (by simp only [PyData.shown, PyData.shownKv]) _ _ _ k⟩) (by simpa only [PyData.shown, PyData.shownKv] using hz)
end
end Jg
namespace Jg
open PySem PySem.Spec PyProof.Rows L2
/-- a def's promise where no repr is under way around its call -/
def RunG (P : Program) (w : World) (K : PySem.W.Frag) (mg : Str → Option Value) (base : Heap) (k : Nat) (f : Addr) (fd : FuncData) (ps : List Str) (sp : Sp) : Prop :=
  ∀ (Ar : Around) (out : List Env) (s0 : Shared) (H : Hp) (ar : Args) (us : List Value) (vs : List V) (Q : VK) (E : XK), Ar.guards = some [] → Room k Ar → Env0 P w K mg base Ar out s0 H → BindsTo s0 fd ar (ps.zip us) → Vals vs us → sp vs H Q E →
    codeAny (model P w) Ar (.call (.ref f) ar) (CR CX0 out P w H s0 Q E) s0
theorem runG_of {P : Program} {w : World} {K : PySem.W.Frag} {mg : Str → Option Value} {base : Heap} {k : Nat} {x qual : Str} {st : Stmt} {f : Addr} {fd : FuncData} {N ps : List Str} {sp : Sp} (F : Fun K x qual st f fd) (S : FnScope N ps (defScope st)) (len : ∀ vs H Q E, sp vs H Q E → vs.length = ps.length)
    (hb : ∀ (cdv : Value) (Ar : Around) (out : List Env) (s0 : Shared) (H : Hp) (vs : List V) (Q : VK) (E : XK), (Ar.deeper (envOfC qual (defScope st) s0.heap.objs.size f cdv)).guards = some [] → Room k (Ar.deeper (envOfC qual (defScope st) s0.heap.objs.size f cdv)) → sp vs H Q E →
      ∃ t, PSs (cxOf CX0 P w K mg base N qual (defScope st) f cdv Ar out s0 H E).nox (defBody st) t ∧ t { nx := fun _ H1 => Q .non H1, rt := Q } (start N vs) H) : RunG P w K mg base (k + 1) f fd ps sp := by
  obtain ⟨oc, od, kV, doc, pm, an, cdv, ct, osl, rfl, lk, hcd⟩ := F.ex
  intro Ar out s0 H ar us vs Q E hg hr e0 bd rv hsp
  have KX : K.In s0.heap := e0.mod.kin.keeps fun b o z => (e0.bs b o z).1
  have NL : s0.heap.NoLimit := e0.mod.nolimit.keeps fun b o z => (e0.bs b o z).1
  have kinds : ∀ y ∈ ps.zip us, (defScope st).names.lookup y.1 = some .local ∨ ((defScope st).names.lookup y.1 = some .cell ∧ ((cellsFrom (s0.heap.objs.size + 1) (defScope st).names []).lookup y.1).isSome = true) := by
    rintro ⟨n, v⟩ hy
    cases S.par n (List.of_mem_zip hy).1 with
    | inl q => exact .inl q
    | inr q => exact .inr ⟨q, PySem.W.cellsFrom_some _ _ _ (.inl q)⟩
  refine codeAny_call_function hr.depth (KX _ _ lk) rfl S.co S.gen rfl (PySem.W.codeRec_of KX hcd) (bd _ _ _ _ (wpAny_newFunctionEnv_cells S.kind kinds fun env he s1 ic => ?_))
  subst he
  refine ⟨NL.keeps ic.toInCall.keep, codeAny_func ?_⟩
  obtain ⟨t, ht, hq⟩ := hb cdv Ar out s0 H vs Q E hg (hr.deeper _) hsp
  have I0 : Inv (cxOf CX0 P w K mg base N qual (defScope st) f cdv Ar out s0 H E) [] (start N vs) H s1 := inv_start S hr.hd e0 (len _ _ _ _ hsp) rv ic
  refine wpAny_mono (ht.nox.run [] s1 (start N vs) H _ I0 hq) (fun fl s2 hs => ?_) fun e s2 hs => hs
  cases fl with
  | ret u =>
    obtain ⟨v, σ2, H2, J, ru, q⟩ := hs
    exact ⟨v, H2, J.os, J.bare, J.base, J.hok, ru, q⟩
  | next =>
    obtain ⟨σ2, H2, J, q⟩ := hs
    exact ⟨V.non, H2, J.os, J.bare, J.base, J.hok, rfl, q⟩
  | brk =>
    obtain ⟨_, _, _, q⟩ := hs
    exact False.elim q
  | cont =>
    obtain ⟨_, _, _, q⟩ := hs
    exact False.elim q
end Jg
namespace Jg
open PySem PySem.Spec PyProof.Rows L2
/-- the heap in which at most the script at a is told: a list of ns -/
def onlyAt (a : Addr) (o : Obj) (ns : List Int) : Hp := fun b => if b = a then some (.frz o (.lst (ns.map V.int))) else none
theorem law_runG {P : Program} {w : World} {K : PySem.W.Frag} {mg mb : Str → Option Value} {k : Nat} {fa a : Addr} {fd : FuncData} {x : Str} {sp : Sp} {s1 : Shared} {vs : List Value} {ns : List Int}
    (KX : K.In s1.heap) (hns : s1.heap.Ns mainGlobals mg) (hb : s1.heap.Ns builtinsNs mb) (hbb : ∀ x : Str, x ≠ "__name__" → mb x = bootBuiltins x) (hlim : s1.heap.NoLimit) (hg : s1.gens = #[])
    (ha : s1.heap.get? a = some { cls := .type "list", data := .seq vs.toArray }) (hi : IntsAre vs ns) (hl : ns.length ≤ sizeLine) (hr : Room k callerA)
    (F : ∀ base : Heap, K.In base → base.Ns mainGlobals mg → RunG P w K mg base k fa fd [x] sp) (hbind : ∀ (s : Shared) (u : Value), BindsTo s fd ⟨[u], []⟩ [(x, u)])
    (hsp : ∀ H : Hp, Only H → SqL K H a (ns.map V.int) → sp [.ref a] H (fun v _ => v = .bl true) fun _ _ _ => False) :
    codeAny (model P w) callerA (.call (.ref fa) ⟨[.ref a], []⟩) (fun r s' => r = .ok (.ret (.bool true)) ∧ OldK s1.heap s'.heap ∧ s'.os = s1.os ∧ AllBare s'.gens) s1 := by
  have rv := vals_ints hi
  have nV := hi.length
  have main : ∀ H : Hp, Only H → SqL K H a (ns.map V.int) → HOk P w H s1.heap → (∀ b, H b ≠ none → b = a) → (H a ≠ none → K.lookup a = none) →
      codeAny (model P w) callerA (.call (.ref fa) ⟨[.ref a], []⟩) (fun r s' => r = .ok (.ret (.bool true)) ∧ OldK s1.heap s'.heap ∧ s'.os = s1.os ∧ AllBare s'.gens) s1 := by
    intro H hO hS hok hA hK
    have here : ∀ {b : Addr} {o : Obj}, s1.heap.get? b = some o → H b = none → (hidT s1.heap H).get? b = some o := fun e n => hidT_get e n
    have free_of : ∀ {b : Addr}, (b = a → False) → H b = none := fun {b} nb => by
      cases q : H b with
      | none => rfl
      | some u => exact (nb (hA b (by rw [q]; simp))).elim
    have nsK : ∀ {b : Addr} {m : Str → Option Value}, s1.heap.Ns b m → (hidT s1.heap H).Ns b m := by
      rintro b m ⟨o, es, ep, e, d, r⟩
      refine ⟨o, es, ep, here e (free_of fun z => ?_), d, r⟩
      subst z
      rw [ha] at e
      cases e
      cases d
    have hKb : K.In (hidT s1.heap H) := by
      intro b o e
      refine here (KX b o e) ?_
      cases q : H b with
      | none => rfl
      | some u =>
        have z := hA b (by rw [q]; simp)
        subst z
        rw [hK (by rw [q]; simp)] at e
        cases e
    obtain ⟨mc, l1, l2⟩ := hlim
    have e0 : Env0 P w K mg (hidT s1.heap H) callerA [] s1 H :=
      ⟨rfl, ⟨hKb, nsK hns, ⟨mb, nsK hb, hbb⟩, ⟨mc, nsK l1, l2⟩⟩, fun b o e => of_hidT e, Nat.le_of_eq (hidT_size _ _), trivial, fun b hb => absurd (show b ∈ ([] : List Addr) from hb) (by simp), hok, .of_eq hg⟩
    refine codeAny_mono (F _ hKb (nsK hns) callerA [] s1 H ⟨[.ref a], []⟩ [.ref a] [.ref a] _ _ rfl hr e0 (hbind s1 (.ref a)) (.cons rfl .nil) (hsp H hO hS)) fun r s2 h => ?_
    cases r with
    | error e => exact False.elim h
    | ok fl =>
      cases fl with
      | next => exact False.elim h
      | brk => exact False.elim h
      | cont => exact False.elim h
      | ret u =>
        obtain ⟨v, H2, os, bare, un, hok2, ru, q⟩ := h
        have qv : v = .bl true := q
        subst qv
        have ru2 : u = Value.bool true := ru
        subst ru2
        refine ⟨rfl, OldK.of_keep fun b o e => ?_, os, bare⟩
        cases q : H b with
        | none => exact un.keep b o e q (fun z => absurd (show b ∈ ([] : List Addr) from z) (by simp)) (by simp)
        | some u =>
          cases hO b with
          | inl z =>
            rw [q] at z
            cases z
          | inr z =>
            obtain ⟨ob, xs, z⟩ := z
            obtain ⟨e1, _⟩ := hok b _ z
            obtain ⟨e2, _⟩ := hok2 b _ (un.frzs b ob _ z)
            rw [e] at e1
            cases e1
            exact e2
  cases hk : K.lookup a with
  | some o =>
    have e := KX a o hk
    rw [ha] at e
    cases e
    exact main (fun _ => none) (fun _ => .inl rfl) (.inr ⟨_, vs.toArray, _, hk, rfl, rfl, rfl, by rw [List.size_toArray, nV]; exact hl, by simpa using rv⟩) (fun b u z => absurd (show (none : Option HO) = some u from z) (by simp)) (fun b z => absurd rfl z) fun z => absurd rfl z
  | none =>
    refine main (onlyAt a { cls := .type "list", data := .seq vs.toArray } ns) (fun b => ?_) (.inl (.inr ⟨_, if_pos rfl⟩)) (fun b u z => ?_) (fun b z => ?_) fun _ => hk
    · by_cases hb : b = a
      · exact .inr ⟨_, _, if_pos hb⟩
      · exact .inl (if_neg hb)
    · by_cases hb : b = a
      · have z2 := (show some _ = some u from (if_pos hb).symm.trans z)
        cases z2
        subst hb
        exact ⟨ha, by rw [List.length_map]; exact hl, vs, _, rv, ha⟩
      · exact absurd ((if_neg hb).symm.trans z) (by simp)
    · by_cases hb : b = a
      · exact hb
      · exact absurd (if_neg hb) z
theorem walk_ofG {l : PySem.W.OpenLaw} {n k : Nat} {q : Program} {loose : List Str} {XP : (Str → Option Value) → Heap → Prop} {YP : World → Heap → Prop} {d : DefRec} {K : Params → PySem.W.Frag} {sp : World → Sp} {x : Str}
    (hn : l.most = some n) (hn2 : n ≤ sizeLine) (hdf : d.params.defaults = []) (hr : Room k callerA) (hY : ∀ (w : World) (h : Heap), YP w h → (K w.params).In h)
    (F : ∀ (w : World) (mg : Str → Option Value) (fa : Addr) (h : Heap), (K w.params).In h → h.Ns mainGlobals mg → mg d.name = some (.ref fa) →
      ∃ fd : FuncData, (∀ (s : Shared) (u : Value), BindsTo s fd ⟨[u], []⟩ [(x, u)]) ∧ ∀ base : Heap, (K w.params).In base → base.Ns mainGlobals mg → RunG l.prog w (K w.params) mg base k fa fd [x] (sp w))
    (hsp : ∀ (w : World) (H : Hp) (a : Addr) (ns : List Int), ns.length ≤ n → Only H → SqL (K w.params) H a (ns.map V.int) → sp w [.ref a] H (fun v _ => v = .bl true) fun _ _ _ => False) :
    PySem.W.WalkO q loose XP YP l.row.toRowW d [] (fun f vs => PySem.call f vs) := by
  refine Att.attach_call hn hdf fun w s0 s1 mg mb fa o pm cd doc a vs ns G Y ho hd hcd hmg hobj hints hlen hg => ?_
  obtain ⟨fd, hb, hF⟩ := F w mg fa _ (hY w _ Y) G.T.g hmg
  exact law_runG (hY w _ Y) G.T.g G.T.b G.T.builtins G.T.nolimit hg hobj hints (Nat.le_trans hlen hn2) hr hF hb fun H hO hS => hsp w H a ns hlen hO hS
end Jg
namespace Jg
open PySem PySem.Spec PyProof.Rows L2
/-! ### t[::-1], t a tuple -/
theorem adjust_back (n : Nat) : Builtin.Slice.sliceAdjust none none (-1) (n : Int) = ((n : Int) - 1, -1) := by
  unfold Builtin.Slice.sliceAdjust
  simp
theorem places_back (n : Nat) : Builtin.Slice.slicePlaces ((n : Int) - 1) (-1) (-1) = n := by
  unfold Builtin.Slice.slicePlaces
  have h1 : ¬ ((-1 : Int) > 0) := by decide
  simp only [h1, if_false]
  split
  · rw [show (- -1 : Int) = 1 by decide, Int.ediv_one]
    omega
  · omega
theorem fm_congr {α β : Type} {f g : α → Option β} : ∀ l : List α, (∀ m ∈ l, f m = g m) → l.filterMap f = l.filterMap g
  | [], _ => rfl
  | a :: l, h => by
    have e := fm_congr l fun m hm => h m (List.mem_cons_of_mem _ hm)
    simp only [List.filterMap_cons, h a List.mem_cons_self, e]
theorem pick_back {α : Type} (xs : Array α) : ((List.range xs.size).filterMap fun (m : Nat) => xs[(((xs.size : Nat) : Int) - 1 + (m : Int) * (-1)).toNat]?).toArray = xs.toList.reverse.toArray := by
  have e : (List.range xs.size).filterMap (fun (m : Nat) => xs[(((xs.size : Nat) : Int) - 1 + (m : Int) * (-1)).toNat]?) = ((List.range xs.size).map fun k => xs.size - 1 - k).filterMap (xs[·]?) := by
    rw [List.filterMap_map]
    refine fm_congr _ fun m hm => ?_
    have hl := List.mem_range.mp hm
    show xs[(((xs.size : Nat) : Int) - 1 + (m : Int) * (-1)).toNat]? = xs[xs.size - 1 - m]?
    rw [show (((xs.size : Nat) : Int) - 1 + (m : Int) * (-1)).toNat = xs.size - 1 - m by omega]
  rw [e, PySem.W.krv_range, List.filterMap_reverse, PySem.W.krv_all]
section
variable {prog : Program} {w : World} {A : Around} {E : Value → Shared → Prop} {s : Shared}
theorem applied_back {sl : Addr} {va vb vc : Value} {n : Nat} {Q : Int × Int × Nat → Shared → Prop} (hs : s.heap.IsSliceOf sl va vb vc) (pa : IsPart va none) (pb : IsPart vb none) (pc : IsPart vc (some (-1)))
    (h : Q ((n : Int) - 1, -1, n) s) : wpAny (model prog w) A (Builtin.Slice.sliceApplied (.ref sl) (pure (n : Int))) Q E s := by
  obtain ⟨os, hos, hcs, hds⟩ := id hs
  unfold Builtin.Slice.sliceApplied Builtin.Slice.sliceFields
  refine wpAny_bind (wpAny_bind (wpAny_field hos hds (x := va) rfl (wpAny_bind (wpAny_field hos hds (x := vb) rfl (wpAny_bind (wpAny_field hos hds (x := vc) rfl (wpAny_pure ?_)))))))
  refine wpAny_bind (HT.slicePart_ pc ?_)
  show wpAny _ _ (if ((-1 : Int) == 0) = true then _ else _) _ _ s
  rw [if_neg (by decide)]
  refine wpAny_bind (HT.slicePart_ pa (wpAny_bind (HT.slicePart_ pb (wpAny_bind (wpAny_pure ?_)))))
  show wpAny _ _ (match Builtin.Slice.sliceAdjust none none (-1) (n : Int) with | (lo, hi) => pure (lo, (-1 : Int), Builtin.Slice.slicePlaces lo hi (-1))) _ _ s
  rw [adjust_back n]
  show wpAny _ _ (pure ((n : Int) - 1, (-1 : Int), Builtin.Slice.slicePlaces ((n : Int) - 1) (-1) (-1))) _ _ s
  rw [places_back]
  exact wpAny_pure h
theorem getItem_back {t sl : Addr} {its : Array Value} {va vb vc : Value} {Q : Value → Shared → Prop} (ht : IsTup s.heap t its) (hs : s.heap.IsSliceOf sl va vb vc) (pa : IsPart va none) (pb : IsPart vb none) (pc : IsPart vc (some (-1)))
    (h : Q (.ref s.heap.objs.size) { s with heap := s.heap.push { cls := .type "tuple", data := .seq its.toList.reverse.toArray } }) (hz : its.size ≤ sizeLine) : wpAny (model prog w) A (getItem (.ref t) (.ref sl)) Q E s := by
  have ok : sizeOk (.seq its.toList.reverse.toArray) := by
    show its.toList.reverse.toArray.size ≤ sizeLine
    rw [List.size_toArray, List.length_reverse, Array.length_toList]
    exact hz
  obtain ⟨os, hos, hcs, hds⟩ := id hs
  have hTs : s.TypeIs (.ref sl) "slice" := ⟨os, hos, hcs⟩
  unfold getItem
  first | (with_reducible refine wpAny_holding ?_) | skip
  first | refine wpAny_bind (wpAny_pure ?_) | skip
  refine wpAny_bind (wpAny_sequenceKey ht.typeIs (by decide) (wpAny_bind (wpAny_callSpecial?_slot (name := Str.ofString "__getitem__") ht.typeIs PyProof.Rows.slot_tuple_getitem (wpAny_call_entry PyProof.Rows.slot_tuple_getitem ht.typeIs entry_tuple_getitem ?_ (args_tuple_getitem _ _)))))
  show wpAny _ _ (Builtin.Tuple.tupleItemsOf (.ref t) >>= _) _ _ s
  refine wpAny_bind (tupleItemsOf_ ht (wpAny_bind (wpAny_typeOf hTs ?_)))
  rw [if_pos (by decide)]
  refine wpAny_bind (applied_back hs pa pb pc ?_)
  have no : ¬ ((((its.size : Nat) : Int) - 1 == 0 && (-1 : Int) == 1 && its.size == its.size) = true) := by
    intro q
    rw [Bool.and_eq_true, Bool.and_eq_true] at q
    exact absurd q.1.2 (by decide)
  show wpAny _ _ (if (((its.size : Nat) : Int) - 1 == 0 && (-1 : Int) == 1 && its.size == its.size) = true then _ else _) _ _ s
  rw [if_neg no, pick_back]
  first
    | exact wpAny_bind (m := Builtin.Tuple.tupleExact _) (wpAny_newObj_type (wpAny_pure ⟨_, rfl, wpAny_pure h⟩) ok)
    | exact wpAny_bind (wpAny_bind (m := Builtin.Tuple.tupleExact _) (wpAny_newObj_type (wpAny_pure (wpAny_pure ⟨_, rfl, wpAny_pure h⟩)) ok))
    | exact wpAny_bind (m := Builtin.Tuple.tupleExact _) (wpAny_newObj_type (wpAny_bind (wpAny_pure (wpAny_pure ⟨_, rfl, wpAny_pure h⟩))) ok)
end
section
variable {X : Cx}
def tRevT (K : PySem.W.Frag) (te : TE) : TE := fun σ H Q => te σ H fun x H1 => ∃ a xs, x = .ref a ∧ SqT K H1 a xs ∧ ∀ p, H1 p = none → Q (.ref p) (upd H1 p (.tup xs.reverse))
theorem pe_revT {e : Expr} {te : TE} {k : Nat} {p1 p2 p3 pos : Pos} (he : PE X e te) : PE X (.Subscript e (.Slice none none (some (.UnaryOp .USub (.Constant (.int 1) k p1) p2)) p3) pos) (tRevT X.K te) := by
  refine ⟨fun pins s σ H Q I h => Subscript_ (thn (he.run pins s σ H _ I h) fun v s1 ⟨x, H1, I1, r1, a, xs, ex, hx, q⟩ => ?_)⟩
  subst ex
  cases r1
  have hst : PO X (some (.UnaryOp .USub (.Constant (.int 1) k p1) p2)) (tPart (tUn (rU fun i => .int (-i)) (tC (.int 1)))) := po_some (pe_un un_neg pe_int)
  refine wpAny_Slice (thn (po_none.run pins s1 σ H1 (fun o G => o = none ∧ G = H1) I1 ⟨rfl, rfl⟩) fun va s2 ⟨l, H2, I2, pa, el, e2⟩ => ?_)
  subst el e2
  refine thn (po_none.run pins s2 σ H2 (fun o G => o = none ∧ G = H2) I2 ⟨rfl, rfl⟩) fun vb s3 ⟨u, H3, I3, pb, eu, e3⟩ => ?_
  subst eu e3
  refine thn (hst.run pins s3 σ H3 (fun o G => o = some (-1) ∧ G = H3) I3 ⟨1, rfl, -1, rfl, rfl, rfl⟩) fun vc s4 ⟨o, H4, I4, pc, eo, e4⟩ => ?_
  subst eo e4
  have I5 : Inv X pins σ H4 { s4 with heap := s4.heap.push { cls := .type "slice", data := .fields #[va, vb, vc] } } := I4.kept (t' := s4.toks) fun b ob z => Heap.get?_push_of_some _ z
  obtain ⟨its, r, ht, hz⟩ := I5.tuple hx
  have hl := r.length
  show wpAny (model X.prog X.w) X.A (subscriptTail e (.Slice none none (some (.UnaryOp .USub (.Constant (.int 1) k p1) p2)) p3) (.ref a) (.ref s4.heap.objs.size)) (EP X pins σ Q) X.xe { s4 with heap := s4.heap.push { cls := .type "slice", data := .fields #[va, vb, vc] } }
  refine tail_any (ops := [.ref a, .ref s4.heap.objs.size]) ht.typeIs (PyProof.Rows.slot_tuple_getitem.lookup) ?_ (by with_unfolding_all rfl)
  refine getItem_back ht (Heap.IsSliceOf.new _ va vb vc) pa pb pc ?_ (by rw [List.size_toArray]; omega)
  refine ⟨.ref _, _, I5.laid (t' := s4.toks) (o := .tup xs.reverse) (fun b ob z => Heap.get?_push_of_some _ z) (Nat.le_refl _) ?_, rfl, q _ (I5.hok.fresh (Nat.le_refl _))⟩
  exact ⟨by rw [List.length_reverse]; exact hz, _, r.reverse, IsTup.new _ _⟩
end
end Jg
namespace Jg
open PySem PySem.Spec PyProof.Rows L2
abbrev sDeck : Stmt := topS 12
abbrev sDraw : Stmt := topS 13
abbrev sOne : Stmt := topS 14
abbrev nDeck : List Str := ["_law_script", "_law_cells", "_law_cell"]
abbrev nDraw : List Str := ["_law_deck_here", "_law_many", "_law_rest", "_law_cell", "_law_mixed"]
abbrev nOne : List Str := ["_law_deck_here", "_law_items"]
theorem scDeck : FnScope nDeck ["_law_script"] (defScope sDeck) := ⟨rfl, rfl, rfl, by decide +kernel, rfl, by decide +kernel, by decide +kernel⟩
theorem scDraw : FnScope nDraw ["_law_deck_here", "_law_many"] (defScope sDraw) := ⟨rfl, rfl, rfl, by decide +kernel, rfl, by decide +kernel, by decide +kernel⟩
theorem scOne : FnScope nOne ["_law_deck_here", "_law_items"] (defScope sOne) := ⟨rfl, rfl, rfl, by decide +kernel, rfl, by decide +kernel, by decide +kernel⟩
/-! ### data of ints -/
theorem lay_ints : ∀ ns : List Int, PyData.canLayAll0 (ns.map PyData.int) = true
  | [] => by simp [PyData.canLayAll0]
  | n :: ns => by simp [PyData.canLayAll0, PyData.canLay0, lay_ints ns]
theorem dep_ints : ∀ ns : List Int, PyData.depthAll (ns.map PyData.int) ≤ 1
  | [] => by simp [PyData.depthAll]
  | n :: ns => by
    have h := dep_ints ns
    simp only [List.map_cons, PyData.depthAll, PyData.depth]
    omega
theorem shaped_ints (ns : List Int) : SeqAt.shaped (.list (ns.map PyData.int)) = true := by
  have h1 := dep_ints ns
  have h2 : PyData.depth (.list (ns.map PyData.int)) ≤ 64 := by
    simp only [PyData.depth]
    omega
  show (PyData.canLay0 (.list (ns.map PyData.int)) && decide (PyData.depth (.list (ns.map PyData.int)) ≤ 64)) = true
  rw [Bool.and_eq_true]
  exact ⟨by simp only [PyData.canLay0]; exact lay_ints ns, decide_eq_true h2⟩
theorem dp_ints {K : PySem.W.Frag} {H : Hp} : ∀ ns : List Int, DpAll K H (ns.map V.int) (ns.map PyData.int)
  | [] => .nil
  | n :: ns => .cons (.int n) (dp_ints ns)
/-! ### the deck -/
/-- the deck at D: its great cells at B, its cells at C, a count -/
structure DeckAt (D B C : Addr) (cells : List Int) (H : Hp) : Prop where
  db : D ≠ B
  dc : D ≠ C
  bc : B ≠ C
  ne : cells ≠ []
  len : cells.length ≤ 64
  top : ∃ n : Int, H D = some (.lst [.ref B, .ref C, .int n])
  big : ∃ bigs : List Int, bigs.length ≤ 63 ∧ H B = some (.lst (bigs.map V.int))
  cel : H C = some (.lst (cells.map V.int))
theorem Fr.refl (D B : Addr) (H : Hp) : Fr D B H H := fun _ _ _ _ h => h
theorem Fr.trans {D B : Addr} {H H1 H2 : Hp} (a : Fr D B H H1) (b : Fr D B H1 H2) : Fr D B H H2 := fun c o h1 h2 h => b c o h1 h2 (a c o h1 h2 h)
theorem Fr.of_same {D B : Addr} {H H' : Hp} (s : Same H H') : Fr D B H H' := fun b o _ _ h => s b o h
theorem same_upd {H : Hp} {p : Addr} {o : HO} (h : H p = none) : Same H (upd H p o) := fun b x e => by
  rw [upd_ne (ne_of_none e h)]
  exact e
theorem DeckAt.same {D B C : Addr} {cells : List Int} {H H' : Hp} (d : DeckAt D B C cells H) (s : Same H H') : DeckAt D B C cells H' := by
  obtain ⟨n, hn⟩ := d.top
  obtain ⟨bs, hl, hb⟩ := d.big
  exact ⟨d.db, d.dc, d.bc, d.ne, d.len, ⟨n, s _ _ hn⟩, ⟨bs, hl, s _ _ hb⟩, s _ _ d.cel⟩
def spDraw : Sp := fun vs H Q _ => ∃ (D B C : Addr) (cells : List Int) (m : Int), vs = [.ref D, .int m] ∧ DeckAt D B C cells H ∧ 0 < m ∧ m < 1073741824 ∧
  ∀ (i : Int) (H' : Hp), 0 ≤ i → i < m → DeckAt D B C cells H' → Fr D B H H' → Q (.int i) H'
section
variable {P : Program} {w : World} {K : PySem.W.Frag} {mg : Str → Option Value} {base : Heap}
theorem ok_draw {f : Addr} {fd : FuncData} (F : Fun K "_law_draw" "_law_draw" sDraw f fd) (mi : mg "int" = none) (ml : mg "len" = none) : FnOk P w K mg base CX0 1 f fd ["_law_deck_here", "_law_many"] spDraw := by
  refine F.ok scDraw (fun vs H Q E h => ?_) (fun cdv A outer s H vs Q E hr h => ?_)
  · obtain ⟨D, B, C, cells, m, rfl, _⟩ := h
    rfl
  · obtain ⟨D, B, C, cells, m, rfl, dk, hm0, hm1, q⟩ := h
    have hu := hr.units
    refine ⟨_, pss_cons (ps_if (pt_cmpR (op_neD hu) (pe_ix ix_list (pv 0) pe_int (fun _ _ => rfl)) (pe_lst pa_nil) (nomark _))
        (pss_cons (ps_set (i := 2) scDraw.nd rfl (.inl rfl) (pe_ix ix_list (pe_ix ix_list (pv 0) pe_int (fun _ _ => rfl)) pe_int (fun _ _ => rfl)))
        (pss_cons (ps_asg (pe_op op_fdiv (pv 2) (pv 1)) (pg_sub (pe_ix ix_list (pv 0) pe_int (fun _ _ => rfl)) pe_int set_list))
        (pss_cons (ps_if (pt_cmpR op_eq (pe_ix ix_list (pe_ix ix_list (pv 0) pe_int (fun _ _ => rfl)) pe_int (fun _ _ => rfl)) pe_int (nomark _))
          (pss_one (ps_expr (pe_bm PySem.F.plainAttrs_list PySem.F.slot_list_pop PySem.F.type_list_pop mt_popAt (pe_ix ix_list (pv 0) pe_int (fun _ _ => rfl)) (pa_cons pe_int pa_nil)))) pss_nil)
        (pss_one (ps_ret (pe_op op_mod (pe_callTy call_int1 (by rfl) mi PyProof.Rows.boot_int (pa_cons (pv 2) pa_nil)) (pv 1))))))) pss_nil)
      (pss_cons (ps_asg (pe_op op_add (pe_ix ix_list (pv 0) pe_int (fun _ _ => rfl)) pe_int) (pg_sub (pv 0) pe_int set_list))
      (pss_cons (ps_set (i := 3) scDraw.nd rfl (.inl rfl) (pe_ix ix_list (pe_ix ix_list (pv 0) pe_int (fun _ _ => rfl)) (pe_op op_mod (pe_callTy call_int1 (by rfl) mi PyProof.Rows.boot_int (pa_cons (pe_ix ix_list (pv 0) pe_int (fun _ _ => rfl)) pa_nil)) (pe_callB call_len_seq (by rfl) ml PySem.boot_len (pa_cons (pe_ix ix_list (pv 0) pe_int (fun _ _ => rfl)) pa_nil))) (fun _ _ => rfl)))
      (pss_cons (ps_set (i := 4) scDraw.nd rfl (.inl rfl) (pe_op op_mod (pe_callTy call_int1 (by rfl) mi PyProof.Rows.boot_int (pa_cons (pe_op op_add (pe_op op_mod (pe_callTy call_int1 (by rfl) mi PyProof.Rows.boot_int (pa_cons (pv 3) pa_nil)) pe_int) (pe_op op_mul pe_int (pe_ix ix_list (pv 0) pe_int (fun _ _ => rfl)))) pa_nil)) pe_int))
      (pss_cons (ps_set (i := 4) scDraw.nd rfl (.inl rfl) (pe_op op_mod (pe_callTy call_int1 (by rfl) mi PyProof.Rows.boot_int (pa_cons (pe_op op_add (pe_op op_mul (pv 4) (pv 4)) (pe_op op_mul pe_int (pe_ix ix_list (pv 0) pe_int (fun _ _ => rfl)))) pa_nil)) pe_int))
      (pss_one (ps_ret (pe_op op_mod (pe_op op_fdiv (pe_op op_mod (pe_callTy call_int1 (by rfl) mi PyProof.Rows.boot_int (pa_cons (pe_op op_mul (pv 4) (pv 4)) pa_nil)) pe_int) pe_int) (pv 1)))))))), ?_⟩
    obtain ⟨n, hD⟩ := dk.top
    obtain ⟨bigs, hbl, hB⟩ := dk.big
    have hC := dk.cel
    -- if deck[0] != []
    refine ⟨.ref D, rfl, D, _, 0, .ref B, rfl, rfl, SqL.of hD, atI_nat (j := 0) rfl, Nat.zero_le _, fun e ne => ?_⟩
    have s1 : Same H (upd H e (.lst [])) := same_upd ne
    have hD1 := s1 _ _ hD
    have hB1 := s1 _ _ hB
    have hC1 := s1 _ _ hC
    refine ⟨.list (bigs.map PyData.int), .list [], .lst (SqL.of hB1) (dp_ints bigs), .lst (SqL.of upd_same) .nil, shaped_ints bigs, shaped_ints [], _, rfl, ?_⟩
    cases bigs with
    | cons b0 bs =>
      refine iteT ?_
      -- rest = deck[0][0]
      refine ⟨.ref D, rfl, D, _, 0, .ref B, rfl, rfl, SqL.of hD1, atI_nat (j := 0) rfl, B, _, 0, .int b0, rfl, rfl, SqL.of hB1, atI_nat (j := 0) rfl, ?_⟩
      -- deck[0][0] = rest // many
      refine ⟨.int b0, rfl, .int m, rfl, _, _, rfl, rfl, ⟨hm0, hm1⟩, .ref D, rfl, D, _, 0, .ref B, rfl, rfl, SqL.of hD1, atI_nat (j := 0) rfl, B, _, 0, 0, rfl, rfl, hB1, by simp [ixN], ?_⟩
      have hB2 : (upd (upd H e (.lst [])) B (.lst (List.set ((b0 :: bs).map V.int) 0 (.int (b0 / m))))) B = some (.lst ((b0 / m :: bs).map V.int)) := upd_same
      have hD2 : (upd (upd H e (.lst [])) B (.lst (List.set ((b0 :: bs).map V.int) 0 (.int (b0 / m))))) D = some (.lst [.ref B, .ref C, .int n]) := by
        rw [upd_ne dk.db]
        exact hD1
      have hC2 : (upd (upd H e (.lst [])) B (.lst (List.set ((b0 :: bs).map V.int) 0 (.int (b0 / m))))) C = some (.lst (cells.map V.int)) := by
        rw [upd_ne dk.bc.symm]
        exact hC1
      have f2 : Fr D B H (upd (upd H e (.lst [])) B (.lst (List.set ((b0 :: bs).map V.int) 0 (.int (b0 / m))))) := fun b o h1 h2 h => by
        rw [upd_ne h2]
        exact s1 _ _ h
      have q0 : (0 : Int) ≤ b0 % m := Int.emod_nonneg _ (by omega)
      have q1 : b0 % m < m := Int.emod_lt_of_pos _ hm0
      generalize (upd (upd H e (.lst [])) B (.lst (List.set ((b0 :: bs).map V.int) 0 (.int (b0 / m))))) = H2 at hB2 hD2 hC2 f2 ⊢
      -- if deck[0][0] == 0
      refine ⟨.ref D, rfl, D, _, 0, .ref B, rfl, rfl, SqL.of hD2, atI_nat (j := 0) rfl, B, _, 0, .int (b0 / m), rfl, rfl, SqL.of hB2, atI_nat (j := 0) rfl, rfl, _, rfl, ite2 (fun _ => ?_) (fun _ => ?_)⟩
      · refine ⟨.ref D, rfl, D, _, 0, .ref B, rfl, rfl, SqL.of hD2, atI_nat (j := 0) rfl, .inl ⟨rfl, _, SqL.of hB2⟩, B, _, 0, 0, .int (b0 / m), rfl, rfl, hB2, by decide, by decide, by simp [seqIndex?], rfl, ?_⟩
        refine ⟨.int b0, rfl, .inl ⟨b0, rfl, .int m, rfl, _, _, rfl, rfl, hm0, q _ _ q0 q1 ⟨dk.db, dk.dc, dk.bc, dk.ne, dk.len, ⟨n, ?_⟩, ⟨bs, ?_, upd_same⟩, ?_⟩ fun b o h1 h2 h => ?_⟩⟩
        · rw [upd_ne dk.db]
          exact hD2
        · simp only [List.length_cons] at hbl
          omega
        · rw [upd_ne dk.bc.symm]
          exact hC2
        · rw [upd_ne h2]
          exact f2 b o h1 h2 h
      · exact ⟨.int b0, rfl, .inl ⟨b0, rfl, .int m, rfl, _, _, rfl, rfl, hm0, q _ _ q0 q1 ⟨dk.db, dk.dc, dk.bc, dk.ne, dk.len, ⟨n, hD2⟩, ⟨b0 / m :: bs, hbl, hB2⟩, hC2⟩ f2⟩⟩
    | nil =>
      refine iteF ?_
      -- deck[2] = deck[2] + 1
      refine ⟨.ref D, rfl, D, _, 2, .int n, rfl, rfl, SqL.of hD1, atI_nat (j := 2) rfl, _, _, rfl, rfl, .ref D, rfl, D, _, 2, 2, rfl, rfl, hD1, rfl, ?_⟩
      have hD2 : (upd (upd H e (.lst [])) D (.lst (List.set [.ref B, .ref C, .int n] 2 (.int (n + 1))))) D = some (.lst [.ref B, .ref C, .int (n + 1)]) := upd_same
      have hB2 : (upd (upd H e (.lst [])) D (.lst (List.set [.ref B, .ref C, .int n] 2 (.int (n + 1))))) B = some (.lst []) := by
        rw [upd_ne dk.db.symm]
        exact hB1
      have hC2 : (upd (upd H e (.lst [])) D (.lst (List.set [.ref B, .ref C, .int n] 2 (.int (n + 1))))) C = some (.lst (cells.map V.int)) := by
        rw [upd_ne dk.dc.symm]
        exact hC1
      have f2 : Fr D B H (upd (upd H e (.lst [])) D (.lst (List.set [.ref B, .ref C, .int n] 2 (.int (n + 1))))) := fun b o h1 h2 h => by
        rw [upd_ne h1]
        exact s1 _ _ h
      generalize (upd (upd H e (.lst [])) D (.lst (List.set [.ref B, .ref C, .int n] 2 (.int (n + 1))))) = H2 at hB2 hD2 hC2 f2 ⊢
      have dk2 : DeckAt D B C cells H2 := ⟨dk.db, dk.dc, dk.bc, dk.ne, dk.len, ⟨_, hD2⟩, ⟨[], by decide, hB2⟩, hC2⟩
      -- cell = deck[1][deck[2] % len(deck[1])]
      have hl0 : 0 < cells.length := List.length_pos_iff.mpr dk.ne
      have hlm : (((cells.map V.int).length : Nat) : Int) = (cells.length : Int) := by rw [List.length_map]
      have i0 : 0 ≤ (n + 1) % (cells.length : Int) := Int.emod_nonneg _ (by omega)
      have i1 : (n + 1) % (cells.length : Int) < (cells.length : Int) := Int.emod_lt_of_pos _ (by omega)
      obtain ⟨j, hj⟩ : ∃ j : Nat, (n + 1) % (cells.length : Int) = (j : Int) := ⟨((n + 1) % (cells.length : Int)).toNat, by omega⟩
      have hjl : j < cells.length := by omega
      have hget : (cells.map V.int)[j]? = some (.int cells[j]) := by
        rw [List.getElem?_map, List.getElem?_eq_getElem hjl]
        rfl
      have hix : atI (cells.map V.int) ((n + 1) % (((cells.map V.int).length : Nat) : Int)) = some (.int cells[j]) := by
        rw [hlm, hj]
        exact atI_nat hget
      refine ⟨.ref D, rfl, D, _, 1, .ref C, rfl, rfl, SqL.of hD2, atI_nat (j := 1) rfl, .ref D, rfl, D, _, 2, .int (n + 1), rfl, rfl, SqL.of hD2, atI_nat (j := 2) rfl, .inl ⟨n + 1, rfl, .ref D, rfl, D, _, 1, .ref C, rfl, rfl, SqL.of hD2, atI_nat (j := 1) rfl, C, _, rfl, .inl (SqL.of hC2), _, _, rfl, rfl, by rw [hlm]; omega, C, _, _, .int cells[j], rfl, rfl, SqL.of hC2, hix, ?_⟩⟩
      -- mixed
      refine ⟨.int cells[j], rfl, .inl ⟨cells[j], rfl, _, _, rfl, rfl, (by show (0 : Int) < 4294966297; decide), .ref D, rfl, D, _, 2, .int (n + 1), rfl, rfl, SqL.of hD2, atI_nat (j := 2) rfl, _, _, rfl, rfl, .inl ⟨by decide, by decide⟩, _, _, rfl, rfl, .inl ⟨_, rfl, _, _, rfl, rfl, (by show (0 : Int) < 4294966297; decide), ?_⟩⟩⟩
      have x0 : 0 ≤ (cells[j] % 4294966297 + 1640531527 * (n + 1)) % 4294966297 := Int.emod_nonneg _ (by decide)
      have x1 : (cells[j] % 4294966297 + 1640531527 * (n + 1)) % 4294966297 < 4294966297 := Int.emod_lt_of_pos _ (by decide)
      refine ⟨_, rfl, _, rfl, _, _, rfl, rfl, .inl ⟨Int.lt_of_lt_of_le (by decide) x0, Int.lt_trans x1 (by decide)⟩, .ref D, rfl, D, _, 2, .int (n + 1), rfl, rfl, SqL.of hD2, atI_nat (j := 2) rfl, _, _, rfl, rfl, .inl ⟨by decide, by decide⟩, _, _, rfl, rfl, .inl ⟨_, rfl, _, _, rfl, rfl, (by show (0 : Int) < 4294966237; decide), ?_⟩⟩
      have y0 : 0 ≤ ((cells[j] % 4294966297 + 1640531527 * (n + 1)) % 4294966297 * ((cells[j] % 4294966297 + 1640531527 * (n + 1)) % 4294966297) + 122949823 * (n + 1)) % 4294966237 := Int.emod_nonneg _ (by decide)
      have y1 : ((cells[j] % 4294966297 + 1640531527 * (n + 1)) % 4294966297 * ((cells[j] % 4294966297 + 1640531527 * (n + 1)) % 4294966297) + 122949823 * (n + 1)) % 4294966237 < 4294966237 := Int.emod_lt_of_pos _ (by decide)
      refine ⟨_, rfl, _, rfl, _, _, rfl, rfl, .inl ⟨Int.lt_of_lt_of_le (by decide) y0, Int.lt_trans y1 (by decide)⟩, .inl ⟨_, rfl, _, _, rfl, rfl, (by show (0 : Int) < 4294966187; decide), _, _, rfl, rfl, ⟨by decide, by decide⟩, .int m, rfl, _, _, rfl, rfl, hm0, q _ _ (Int.emod_nonneg _ (by omega)) (Int.emod_lt_of_pos _ hm0) dk2 f2⟩⟩
theorem sz1 {α : Type} {l : List α} (h : Nat.ble l.length 1000 = true) : l.length ≤ sizeLine := Nat.le_of_lt (small1000 (Nat.le_of_ble_eq_true h))
theorem tYes_if {σ : L2.St} {H : Hp} {T E : Hp → Prop} (h : T H) : tYes σ H (fun b H1 => if b = true then T H1 else E H1) := by
  show (if true = true then T H else E H)
  rw [if_pos rfl]
  exact h
def absI (i : Int) : Int := if i < 0 then -i else i
/-- law: the deck is made -/
def spDeck (K : PySem.W.Frag) : Sp := fun vs H Q _ => ∃ (a : Addr) (ns : List Int), vs = [.ref a] ∧ SqL K H a (ns.map V.int) ∧ ns.length ≤ 63 ∧
  ∀ (H' : Hp) (D B C : Addr) (cells : List Int), Same H H' → H D = none → H B = none → H C = none → DeckAt D B C cells H' → Q (.ref D) H'
theorem cut_ints (ns : List Int) (lo hi : Option Int) : ∃ ms : List Int, cutV (ns.map V.int) lo hi = ms.map V.int ∧ ms.length ≤ ns.length := by
  unfold cutV
  refine ⟨(ns.drop _).take _, by rw [List.map_take, List.map_drop], ?_⟩
  rw [List.length_take, List.length_drop]
  omega
theorem ok_deck {f : Addr} {fd : FuncData} (F : Fun K "_law_deck" "_law_deck" sDeck f fd) (ma : mg "abs" = none) (ml : mg "len" = none) : FnOk P w K mg base CX0 1 f fd ["_law_script"] (spDeck K) := by
  refine F.ok scDeck (fun vs H Q E h => ?_) (fun cdv A outer s H vs Q E hr h => ?_)
  · obtain ⟨a, ns, rfl, _⟩ := h
    rfl
  · obtain ⟨a, ns, rfl, hS, hn, q⟩ := h
    refine ⟨_, pss_cons (ps_setLc (i := 1) (own := [("_law_cell", 2)]) (g := gName 2) (tt := tYes) rfl scDeck.nd rfl rfl (sw_true rfl rfl rfl (by decide +kernel)) (pi_list (pe_slice sl_list (pv 0) po_none (po_some pe_int))) (blkOk_by (N := nDeck) (sc := defScope sDeck) (by decide +kernel))
        (fun _ _ _ _ _ => pg_name (i := 2) scDeck.nd rfl (.inl rfl)) (fun _ _ _ _ _ => pts_nil) (fun _ _ _ _ _ => pe_callB call_abs (by rfl) ma PyProof.Rows.boot_abs (pa_cons (pv 2) pa_nil)))
      (pss_one (ps_ret (pe_lst (pa_cons (pe_lc (own := [("_law_cell", 2)]) (g := gName 2) rfl scDeck.nd (pi_list (pv 1)) (blkOk_by (N := nDeck) (sc := defScope sDeck) (by decide +kernel))
          (fun _ _ _ _ _ => pg_name (i := 2) scDeck.nd rfl (.inl rfl)) (fun _ _ _ _ _ => pts_one (pt_cmpR op_ge (pv 2) (pe_op op_pow pe_int pe_int) (nomark _))) (fun _ _ _ _ _ => pv 2))
        (pa_cons (pe_op op_cat (pv 1) (pe_lst (pa_cons (pe_op op_add pe_int (pe_callB call_len_seq (by rfl) ml PySem.boot_len (pa_cons (pv 1) pa_nil))) pa_nil)))
        (pa_cons pe_int pa_nil)))))), ?_⟩
    obtain ⟨ms, hms, hml⟩ := cut_ints ns none (some 63)
    refine ⟨.ref a, rfl, 63, rfl, a, ns.map V.int, rfl, hS, fun c nc => ⟨c, rfl, ⟨_, SqL.of upd_same⟩, fun D1 nD1 => ?_⟩⟩
    rw [hms] at nD1 ⊢
    have s1 : Same H (upd H c (.lst (ms.map V.int))) := same_upd nc
    have s2 : Same (upd H c (.lst (ms.map V.int))) (upd (upd H c (.lst (ms.map V.int))) D1 (.lst [])) := same_upd nD1
    have nD1' : H D1 = none := s1.free nD1
    have nDc : D1 ≠ c := fun e => by
      rw [e, upd_same] at nD1
      cases nD1
    refine lc_list (K := K) (a := c) (xs := ms.map V.int) (fun i H3 => H3 D1 = some (.lst (((ms.take i).map absI).map V.int)) ∧ H3 c = some (.lst (ms.map V.int)) ∧ Same H H3) ⟨upd_same, ?_, s1.trans s2⟩ (fun i H3 _ h => SqL.of h.2.1) ?_ ?_
    · rw [upd_ne nDc.symm]
      exact upd_same
    · rintro i x H3 hi ⟨e1, e2, e3⟩
      have hil : i < ms.length := by
        have := (List.getElem?_eq_some_iff.mp hi).1
        rw [List.length_map] at this
        exact this
      have ex : x = .int ms[i] := by
        rw [List.getElem?_map, List.getElem?_eq_getElem hil] at hi
        exact (Option.some.inj hi).symm
      subst ex
      refine ⟨rfl, tYes_if ?_⟩
      refine ⟨_, rfl, ms[i], rfl, _, e1, ?_, ?_, ?_, ?_⟩
      · simp only [List.length_map, List.length_take]
        exact Nat.lt_of_le_of_lt (Nat.min_le_left _ _) (small1000 (by omega))
      · rw [upd_same, List.take_add_one, List.getElem?_eq_getElem hil, List.map_append, List.map_append]
        rfl
      · rw [upd_ne nDc.symm]
        exact e2
      · intro b o hb
        rw [upd_ne (ne_of_none hb nD1')]
        exact e3 b o hb
    · rintro H3 ⟨e1, e2, e3⟩
      rw [List.length_map, List.take_length] at e1
      refine ⟨_, rfl, D1, rfl, ⟨_, SqL.of e1⟩, fun D2 nD2 => ?_⟩
      have nDD : D2 ≠ D1 := fun e => by
        rw [e, e1] at nD2
        cases nD2
      have sB : Same H3 (upd H3 D2 (.lst [])) := same_upd nD2
      refine lc_list (K := K) (a := D1) (xs := (ms.map absI).map V.int) (fun i H4 => ∃ bs : List Int, bs.length ≤ i ∧ H4 D2 = some (.lst (bs.map V.int)) ∧ H4 D1 = some (.lst ((ms.map absI).map V.int)) ∧ Same H3 H4) ⟨[], Nat.le_refl _, upd_same, ?_, sB⟩ (fun i H3 _ ⟨_, _, _, h, _⟩ => SqL.of h) ?_ ?_
      · rw [upd_ne nDD.symm]
        exact e1
      · rintro i x H4 hi ⟨bs, hb, g1, g2, g3⟩
        obtain ⟨z, rfl⟩ : ∃ z, x = V.int z := by
          rw [List.getElem?_map] at hi
          cases e : (ms.map absI)[i]? with
          | none =>
            rw [e] at hi
            cases hi
          | some z =>
            rw [e] at hi
            exact ⟨z, (Option.some.inj hi).symm⟩
        have hil : i < (ms.map absI).length := by
          have := (List.getElem?_eq_some_iff.mp hi).1
          rw [List.length_map] at this
          exact this
        rw [List.length_map] at hil
        refine ⟨rfl, .int z, rfl, _, _, rfl, rfl, ⟨by decide, by decide, by decide⟩, _, _, rfl, rfl, _, rfl, ite2 (fun _ => ?_) (fun _ => ?_)⟩
        · refine ⟨_, rfl, _, g1, ?_, bs ++ [z], ?_, ?_, ?_, ?_⟩
          · rw [List.length_map]
            exact small1000 (by omega)
          · rw [List.length_append]
            show bs.length + 1 ≤ i + 1
            omega
          · rw [upd_same, List.map_append]
            rfl
          · rw [upd_ne nDD.symm]
            exact g2
          · intro b o hb
            rw [upd_ne (ne_of_none hb nD2)]
            exact g3 b o hb
        · exact ⟨bs, by omega, g1, g2, g3⟩
      · rintro H4 ⟨bs, hb, g1, g2, g3⟩
        rw [List.length_map, List.length_map] at hb
        refine ⟨_, rfl, _, rfl, D1, _, rfl, .inl (SqL.of g2), _, _, rfl, rfl, sz1 rfl, fun e ne => ?_⟩
        have s4 : Same H4 (upd H4 e (.lst [.int (11246 + (((ms.map absI).map V.int).length : Nat))])) := same_upd ne
        refine ⟨D1, e, _, _, rfl, rfl, s4 _ _ g2, upd_same, ?_, fun C nC => ?_⟩
        · rw [List.length_map, List.length_map]
          exact Nat.le_of_lt (small1000 (by simp only [List.length_singleton]; omega))
        refine ⟨sz1 rfl, fun D nD => ?_⟩
        have s5 := same_upd (o := .lst ((ms.map absI).map V.int ++ [.int (11246 + (((ms.map absI).map V.int).length : Nat))])) nC
        have s6 := same_upd (o := .lst [.ref D2, .ref C, .int 0]) nD
        have sE : Same H _ := e3.trans (g3.trans (s4.trans (s5.trans s6)))
        have n4 : H4 D = none := s4.free (s5.free nD)
        have n4C : H4 C = none := s4.free nC
        have hD2 : D2 ≠ D := ne_of_none g1 n4
        have hD2C : D2 ≠ C := ne_of_none g1 n4C
        have hDC : D ≠ C := fun z => by
          rw [z, upd_same] at nD
          cases nD
        refine q _ D D2 C ((ms.map absI) ++ [(11246 : Int) + ((((ms.map absI).map V.int).length : Nat) : Int)]) sE (e3.free (g3.free n4)) (e3.free nD2) (e3.free (g3.free n4C)) ⟨hD2.symm, hDC, hD2C, by simp, ?_, ⟨0, upd_same⟩, ⟨bs, by omega, s6 _ _ (s5 _ _ (s4 _ _ g1))⟩, ?_⟩
        · rw [List.length_append, List.length_map]
          show ms.length + 1 ≤ 64
          omega
        · rw [upd_ne hDC.symm, upd_same, List.map_append]
          rfl

theorem DeckAt.isD {D B C : Addr} {cells : List Int} {H : Hp} (d : DeckAt D B C cells H) : ∃ xs, H D = some (.lst xs) := by
  obtain ⟨n, hn⟩ := d.top
  exact ⟨_, hn⟩
theorem DeckAt.isB {D B C : Addr} {cells : List Int} {H : Hp} (d : DeckAt D B C cells H) : ∃ xs, H B = some (.lst xs) := by
  obtain ⟨bs, _, hb⟩ := d.big
  exact ⟨_, hb⟩
theorem DeckAt.data {D B C : Addr} {cells : List Int} {H H' : Hp} {v : V} {d : PyData} (k : DeckAt D B C cells H) (f : Fr D B H H') (h : Dq D B H v d) : Dq D B H' v d := Dq.keep k.isD k.isB f d v h
theorem DeckAt.dataAll {D B C : Addr} {cells : List Int} {H H' : Hp} {v : List V} {d : List PyData} (k : DeckAt D B C cells H) (f : Fr D B H H') (h : DqAll D B H v d) : DqAll D B H' v d := DqAll.keep k.isD k.isB f d v h
/-- one of the items of a list that is not the deck's -/
def spOne : Sp := fun vs H Q _ => ∃ (D B C : Addr) (cells : List Int) (L : Addr) (xs : List V), vs = [.ref D, .ref L] ∧ DeckAt D B C cells H ∧ H L = some (.lst xs) ∧ L ≠ D ∧ L ≠ B ∧ 0 < xs.length ∧ xs.length < 1073741824 ∧
  ∀ (i : Nat) (v : V) (H' : Hp), xs[i]? = some v → DeckAt D B C cells H' → Fr D B H H' → Q v H'
theorem ok_one {f fd' : Addr} {fd fdD : FuncData} (F : Fun K "_law_one" "_law_one" sOne f fd) (FD : Fun K "_law_draw" "_law_draw" sDraw fd' fdD) (bD : Binds K fdD ["_law_deck_here", "_law_many"] []) (gD : mg "_law_draw" = some (.ref fd')) (mi : mg "int" = none) (ml : mg "len" = none) :
    FnOk P w K mg base CX0 2 f fd ["_law_deck_here", "_law_items"] spOne := by
  have GD : FnOk P w K mg base CX0 1 fd' fdD ["_law_deck_here", "_law_many"] spDraw := ok_draw FD mi ml
  refine F.ok scOne (fun vs H Q E h => ?_) (fun cdv A outer s H vs Q E hr h => ?_)
  · obtain ⟨D, B, C, cells, L, xs, rfl, _⟩ := h
    rfl
  · obtain ⟨D, B, C, cells, L, xs, rfl, dk, hL, nD, nB, h0, h1, q⟩ := h
    refine ⟨_, pss_one (ps_ret (pe_ix ix_list (pv 1) (pe_call GD hr (by rfl) gD FD.kp bD .nil pass0 (pa_cons (pv 0) (pa_cons (pe_callB call_len_seq (by rfl) ml PySem.boot_len (pa_cons (pv 1) pa_nil)) pa_nil))) (fun _ _ => rfl))), ?_⟩
    refine ⟨_, rfl, _, rfl, _, rfl, L, xs, rfl, .inl (SqL.of hL), D, B, C, cells, _, rfl, dk, by omega, by omega, fun i H' i0 i1 dk' f' => ?_⟩
    have hL' := f' _ _ nD nB hL
    obtain ⟨j, rfl⟩ : ∃ j : Nat, i = (j : Int) := ⟨i.toNat, by omega⟩
    have hj : j < xs.length := by omega
    have hg : xs[j]? = some xs[j] := List.getElem?_eq_getElem hj
    exact ⟨L, xs, _, _, rfl, rfl, SqL.of hL', atI_nat hg, q j _ H' hg dk' f'⟩
end
end Jg
namespace Jg
open PySem PySem.Spec PyProof.Rows L2
/-! ### looks at data -/
def tyN : PyData → String
  | .none => "NoneType" | .bool _ => "bool" | .int _ => "int" | .str _ => "str" | .list _ => "list" | .tuple _ => "tuple" | .dict _ => "dict"
def isIB : PyData → Bool
  | .int _ => true | .bool _ => true | _ => false
def isBo : PyData → Bool
  | .bool _ => true | _ => false
def isIn : PyData → Bool
  | .int _ => true | _ => false
def isTu : PyData → Bool
  | .tuple _ => true | _ => false
def within (lo hi : Int) : PyData → Bool
  | .int i => decide (lo ≤ i) && decide (i ≤ hi) | _ => false
def tupOf (n : Int) : PyData → Bool
  | .tuple ds => decide ((ds.length : Int) = n) | _ => false
abbrev M20 : Int := 10 ^ 20
def rangeOk : PyData → Bool
  | .tuple [.int x, b] => within (-M20) M20 (.int x) && within x M20 b
  | _ => false
def boxOk (n : Int) : PyData → Bool
  | .tuple ds => decide ((ds.length : Int) = n) && ds.all rangeOk | _ => false
theorem Dq.ty {K : PySem.W.Frag} {D B : Addr} {H : Hp} {v : V} {d : PyData} (h : Dq D B H v d) : TyX K H v (.type (tyN d)) := by
  cases h with
  | non => exact .base .non
  | bl b => exact .base (.bl b)
  | int i => exact .base (.int i)
  | str x => exact .base (.str x)
  | lst _ _ e _ => exact .base (.lst e)
  | tup e _ => exact .base (.tup e)
  | dct e => exact .base (.dK e)
theorem kInt {K : PySem.W.Frag} : ∀ d : PyData, PySem.W.kitOne K (.type (tyN d)) (.type "int") = some (isIB d)
  | .none => kit_ty (a := "NoneType") (by show kitB "NoneType" "int" = some false; decide +kernel)
  | .bool _ => kit_ty (a := "bool") (by show kitB "bool" "int" = some true; decide +kernel)
  | .int _ => kit_ty (a := "int") (by show kitB "int" "int" = some true; decide +kernel)
  | .str _ => kit_ty (a := "str") (by show kitB "str" "int" = some false; decide +kernel)
  | .list _ => kit_ty (a := "list") (by show kitB "list" "int" = some false; decide +kernel)
  | .tuple _ => kit_ty (a := "tuple") (by show kitB "tuple" "int" = some false; decide +kernel)
  | .dict _ => kit_ty (a := "dict") (by show kitB "dict" "int" = some false; decide +kernel)
theorem kBool {K : PySem.W.Frag} : ∀ d : PyData, PySem.W.kitOne K (.type (tyN d)) (.type "bool") = some (isBo d)
  | .none => kit_ty (a := "NoneType") (by show kitB "NoneType" "bool" = some false; decide +kernel)
  | .bool _ => kit_ty (a := "bool") (by show kitB "bool" "bool" = some true; decide +kernel)
  | .int _ => kit_ty (a := "int") (by show kitB "int" "bool" = some false; decide +kernel)
  | .str _ => kit_ty (a := "str") (by show kitB "str" "bool" = some false; decide +kernel)
  | .list _ => kit_ty (a := "list") (by show kitB "list" "bool" = some false; decide +kernel)
  | .tuple _ => kit_ty (a := "tuple") (by show kitB "tuple" "bool" = some false; decide +kernel)
  | .dict _ => kit_ty (a := "dict") (by show kitB "dict" "bool" = some false; decide +kernel)
theorem kTup {K : PySem.W.Frag} : ∀ d : PyData, PySem.W.kitOne K (.type (tyN d)) (.type "tuple") = some (isTu d)
  | .none => kit_ty (a := "NoneType") (by show kitB "NoneType" "tuple" = some false; decide +kernel)
  | .bool _ => kit_ty (a := "bool") (by show kitB "bool" "tuple" = some false; decide +kernel)
  | .int _ => kit_ty (a := "int") (by show kitB "int" "tuple" = some false; decide +kernel)
  | .str _ => kit_ty (a := "str") (by show kitB "str" "tuple" = some false; decide +kernel)
  | .list _ => kit_ty (a := "list") (by show kitB "list" "tuple" = some false; decide +kernel)
  | .tuple _ => kit_ty (a := "tuple") (by show kitB "tuple" "tuple" = some true; decide +kernel)
  | .dict _ => kit_ty (a := "dict") (by show kitB "dict" "tuple" = some false; decide +kernel)
/-- a look: a bool comes, nothing is changed -/
def spLook (n : Nat) (ok : PyData → List V → Prop) (b : PyData → List V → Bool) : Sp := fun vs H Q _ => ∃ (D B : Addr) (v : V) (d : PyData) (ws : List V), vs = v :: ws ∧ ws.length = n ∧ Dq D B H v d ∧ ok d ws ∧ Q (.bl (b d ws)) H
/-! ### the texts -/
abbrev sInt : Stmt := topS 2
abbrev sWith : Stmt := topS 3
abbrev sTupO : Stmt := topS 4
abbrev sIsBox : Stmt := topS 6
abbrev sIsR : Stmt := topS 7
abbrev sWhole : Stmt := topS 18
abbrev sLR : Stmt := topS 21
abbrev sLB : Stmt := topS 22
theorem scInt : FnScope ["value"] ["value"] (defScope sInt) := ⟨rfl, rfl, rfl, by decide +kernel, rfl, by decide +kernel, by decide +kernel⟩
theorem scWith : FnScope ["value", "low", "high"] ["value", "low", "high"] (defScope sWith) := ⟨rfl, rfl, rfl, by decide +kernel, rfl, by decide +kernel, by decide +kernel⟩
theorem scTupO : FnScope ["value", "many"] ["value", "many"] (defScope sTupO) := ⟨rfl, rfl, rfl, by decide +kernel, rfl, by decide +kernel, by decide +kernel⟩
theorem scIsR : FnScope ["value", "low", "high"] ["value"] (defScope sIsR) := ⟨rfl, rfl, rfl, by decide +kernel, rfl, by decide +kernel, by decide +kernel⟩
theorem scIsBox : FnScope ["row", "value", "item"] ["row", "value"] (defScope sIsBox) := ⟨rfl, rfl, rfl, by decide +kernel, rfl, by decide +kernel, by decide +kernel⟩
theorem scWhole : FnScope ["_law_value", "_law_least", "_law_most"] ["_law_value", "_law_least", "_law_most"] (defScope sWhole) := ⟨rfl, rfl, rfl, by decide +kernel, rfl, by decide +kernel, by decide +kernel⟩
theorem scLR : FnScope ["_law_value"] ["_law_value"] (defScope sLR) := ⟨rfl, rfl, rfl, by decide +kernel, rfl, by decide +kernel, by decide +kernel⟩
theorem scLB : FnScope ["_law_inputs", "_law_value", "_law_own"] ["_law_inputs", "_law_value"] (defScope sLB) := ⟨rfl, rfl, rfl, by decide +kernel, rfl, by decide +kernel, by decide +kernel⟩
/-- the built-in names that no def of the text takes -/
structure Bn (mg : Str → Option Value) : Prop where
  isi : mg "isinstance" = none
  int : mg "int" = none
  bool : mg "bool" = none
  tup : mg "tuple" = none
  len : mg "len" = none
  all : mg "all" = none
  rng : mg "range" = none
  lst : mg "list" = none
  str : mg "str" = none
  min : mg "min" = none
  rep : mg "repr" = none
  abs : mg "abs" = none
theorem dec_int2 {i j : Int} : decide (V.int i = V.int j) = decide (i = j) := by
  rw [dec_int]
  rfl
theorem boot_bool' : bootBuiltins "bool" = some (.type "bool") := by decide +kernel
theorem boot_tuple' : bootBuiltins "tuple" = some (.type "tuple") := by decide +kernel
theorem boot_all' : bootBuiltins "all" = some (.builtin "all") := by decide +kernel
section
variable {P : Program} {w : World} {K : PySem.W.Frag} {mg : Str → Option Value} {base : Heap}
def spInt : Sp := fun vs H Q _ => ∃ (D B : Addr) (v : V) (d : PyData), vs = [v] ∧ Dq D B H v d ∧ Q (.bl (isIn d)) H
theorem ok_int {f : Addr} {fd : FuncData} (F : Fun K "is_integer" "is_integer" sInt f fd) (T : Bn mg) : FnOk P w K mg base CX0 1 f fd ["value"] spInt := by
  refine F.ok scInt (fun vs H Q E h => ?_) (fun cdv A outer s H vs Q E hr h => ?_)
  · obtain ⟨D, B, v, d, rfl, _⟩ := h
    rfl
  · obtain ⟨D, B, v, d, rfl, hd, q⟩ := h
    refine ⟨_, pss_one (ps_ret (pe_and (pe_callB call_isi (by rfl) T.isi PyProof.Rows.boot_isinstance (pa_cons (pv 0) (pa_cons (pe_bltn (by rfl) T.int PyProof.Rows.boot_int (v := .ty "int") rfl) pa_nil)))
      (pe_one (pe_not (pe_callB call_isi (by rfl) T.isi PyProof.Rows.boot_isinstance (pa_cons (pv 0) (pa_cons (pe_bltn (by rfl) T.bool boot_bool' (v := .ty "bool") rfl) pa_nil))))))), ?_⟩
    refine ⟨v, rfl, v, .ty "int", _, _, _, rfl, .ty "int", hd.ty, kInt d, _, rfl, ?_⟩
    cases hb : isIB d with
    | false =>
      refine iteF ?_
      have e : isIn d = false := by
        cases d <;> first | rfl | cases hb
      rw [e] at q
      exact q
    | true =>
      refine iteT ⟨v, rfl, v, .ty "bool", _, _, _, rfl, .ty "bool", hd.ty, kBool d, _, rfl, ?_⟩
      have e : isIn d = !isBo d := by
        cases d <;> first | rfl | cases hb
      rw [e] at q
      exact q
def spWith : Sp := fun vs H Q _ => ∃ (D B : Addr) (v : V) (d : PyData) (lo hi : Int), vs = [v, .int lo, .int hi] ∧ Dq D B H v d ∧ Q (.bl (within lo hi d)) H
theorem within_no {lo hi : Int} {d : PyData} (h : isIn d = false) : within lo hi d = false := by
  cases d <;> first | rfl | cases h
theorem isIn_of {D B : Addr} {H : Hp} {v : V} {d : PyData} (hd : Dq D B H v d) (h : isIn d = true) : ∃ i, d = .int i ∧ v = .int i := by
  cases hd <;> first | exact ⟨_, rfl, rfl⟩ | cases h
theorem ok_with {f f1 : Addr} {fd fd1 : FuncData} (F : Fun K "is_within" "is_within" sWith f fd) (F1 : Fun K "is_integer" "is_integer" sInt f1 fd1) (b1 : Binds K fd1 ["value"] []) (g1 : mg "is_integer" = some (.ref f1)) (T : Bn mg) : FnOk P w K mg base CX0 2 f fd ["value", "low", "high"] spWith := by
  have G1 : FnOk P w K mg base CX0 1 f1 fd1 ["value"] spInt := ok_int F1 T
  refine F.ok scWith (fun vs H Q E h => ?_) (fun cdv A outer s H vs Q E hr h => ?_)
  · obtain ⟨D, B, v, d, lo, hi, rfl, _⟩ := h
    rfl
  · obtain ⟨D, B, v, d, lo, hi, rfl, hd, q⟩ := h
    refine ⟨_, pss_one (ps_ret (pe_and (pe_call G1 hr (by rfl) g1 F1.kp b1 .nil pass0 (pa_cons (pv 0) pa_nil)) (pe_one (pe_chain op_le op_le (pv 1) (pv 0) (pv 2))))), ?_⟩
    refine ⟨v, rfl, D, B, v, d, rfl, hd, _, rfl, ?_⟩
    cases hb : isIn d with
    | false =>
      refine iteF ?_
      rw [within_no hb] at q
      exact q
    | true =>
      obtain ⟨i, rfl, rfl⟩ := isIn_of hd hb
      refine iteT ⟨_, rfl, _, rfl, _, _, rfl, rfl, _, rfl, ?_⟩
      have q2 : Q (.bl (decide (lo ≤ i) && decide (i ≤ hi))) H := q
      cases h1 : decide (lo ≤ i) with
      | false =>
        refine iteF ?_
        rw [h1] at q2
        exact q2
      | true =>
        refine iteT ⟨_, rfl, _, _, rfl, rfl, ?_⟩
        rw [h1] at q2
        exact q2
def spTupO : Sp := fun vs H Q _ => ∃ (D B : Addr) (v : V) (d : PyData) (n : Int), vs = [v, .int n] ∧ Dq D B H v d ∧ Q (.bl (tupOf n d)) H
theorem isTu_of {D B : Addr} {H : Hp} {v : V} {d : PyData} (hd : Dq D B H v d) (h : isTu d = true) : ∃ a xs ds, d = .tuple ds ∧ v = .ref a ∧ H a = some (.tup xs) ∧ DqAll D B H xs ds := by
  cases hd with
  | tup e ha => exact ⟨_, _, _, rfl, rfl, e, ha⟩
  | _ => cases h
theorem tupOf_no {n : Int} {d : PyData} (h : isTu d = false) : tupOf n d = false := by
  cases d <;> first | rfl | cases h
theorem ok_tupO {f : Addr} {fd : FuncData} (F : Fun K "is_tuple_of" "is_tuple_of" sTupO f fd) (T : Bn mg) : FnOk P w K mg base CX0 1 f fd ["value", "many"] spTupO := by
  refine F.ok scTupO (fun vs H Q E h => ?_) (fun cdv A outer s H vs Q E hr h => ?_)
  · obtain ⟨D, B, v, d, n, rfl, _⟩ := h
    rfl
  · obtain ⟨D, B, v, d, n, rfl, hd, q⟩ := h
    refine ⟨_, pss_one (ps_ret (pe_and (pe_callB call_isi (by rfl) T.isi PyProof.Rows.boot_isinstance (pa_cons (pv 0) (pa_cons (pe_bltn (by rfl) T.tup boot_tuple' (v := .ty "tuple") rfl) pa_nil)))
      (pe_one (pe_cmpR op_eq (pe_callB call_len_seq (by rfl) T.len PySem.boot_len (pa_cons (pv 0) pa_nil)) (pv 1) (nomark _))))), ?_⟩
    refine ⟨v, rfl, v, .ty "tuple", _, _, _, rfl, .ty "tuple", hd.ty, kTup d, _, rfl, ?_⟩
    cases hb : isTu d with
    | false =>
      refine iteF ?_
      rw [tupOf_no hb] at q
      exact q
    | true =>
      obtain ⟨a, xs, ds, rfl, rfl, e, ha⟩ := isTu_of hd hb
      refine iteT ⟨_, rfl, a, xs, rfl, .inr (SqT.of e), _, rfl, rfl, ?_⟩
      have q2 : Q (.bl (decide ((ds.length : Int) = n))) H := q
      rw [← ha.len, ← dec_int2] at q2
      exact q2
end
end Jg
namespace Jg
open PySem PySem.Spec PyProof.Rows L2
theorem rangeOk_no {d : PyData} (h : tupOf 2 d = false) : rangeOk d = false := by
  cases d with
  | tuple ds =>
    have h2 : ¬ ((ds.length : Int) = 2) := of_decide_eq_false h
    match ds, h2 with
    | [], _ => rfl
    | [a], _ => cases a <;> rfl
    | [a, b], h2 => exact absurd rfl h2
    | a :: b :: c :: r, _ => cases a <;> rfl
  | _ => rfl
theorem rangeOk_two {a b : PyData} : rangeOk (.tuple [a, b]) = (within (-M20) M20 a && (match a with | .int x => within x M20 b | _ => false)) := by
  cases a <;> rfl
theorem tupOf_yes {D B : Addr} {H : Hp} {v : V} {d : PyData} {n : Int} (hd : Dq D B H v d) (h : tupOf n d = true) : ∃ a xs ds, d = .tuple ds ∧ v = .ref a ∧ H a = some (.tup xs) ∧ DqAll D B H xs ds ∧ (ds.length : Int) = n := by
  cases hd with
  | tup e ha => exact ⟨_, _, _, rfl, rfl, e, ha, of_decide_eq_true h⟩
  | _ => cases h
theorem dqAll_two {D B : Addr} {H : Hp} {xs : List V} {ds : List PyData} (h : DqAll D B H xs ds) (h2 : (ds.length : Int) = 2) : ∃ x1 x2 d1 d2, xs = [x1, x2] ∧ ds = [d1, d2] ∧ Dq D B H x1 d1 ∧ Dq D B H x2 d2 := by
  cases h with
  | nil => cases h2
  | cons a h =>
    cases h with
    | nil => cases h2
    | cons b h =>
      cases h with
      | nil => exact ⟨_, _, _, _, rfl, rfl, a, b⟩
      | cons c h =>
        simp only [List.length_cons] at h2
        omega
section
variable {P : Program} {w : World} {K : PySem.W.Frag} {mg : Str → Option Value} {base : Heap}
def spRng : Sp := fun vs H Q _ => ∃ (D B : Addr) (v : V) (d : PyData), vs = [v] ∧ Dq D B H v d ∧ Q (.bl (rangeOk d)) H
theorem ok_rng {f f1 f2 f3 : Addr} {fd fd1 fd2 fd3 : FuncData} {tk : Tok} (F : Fun K "_is_range" "_is_range" sIsR f fd) (F1 : Fun K "is_integer" "is_integer" sInt f1 fd1) (b1 : Binds K fd1 ["value"] []) (g1 : mg "is_integer" = some (.ref f1))
    (F2 : Fun K "is_within" "is_within" sWith f2 fd2) (b2 : Binds K fd2 ["value", "low", "high"] []) (g2 : mg "is_within" = some (.ref f2)) (F3 : Fun K "is_tuple_of" "is_tuple_of" sTupO f3 fd3) (b3 : Binds K fd3 ["value", "many"] []) (g3 : mg "is_tuple_of" = some (.ref f3))
    (gM : mg "MAX_NUMBER" = some (.int M20 tk)) (T : Bn mg) : FnOk P w K mg base CX0 3 f fd ["value"] spRng := by
  have G2 : FnOk P w K mg base CX0 2 f2 fd2 ["value", "low", "high"] spWith := ok_with F2 F1 b1 g1 T
  have G3 : FnOk P w K mg base CX0 1 f3 fd3 ["value", "many"] spTupO := ok_tupO F3 T
  refine F.ok scIsR (fun vs H Q E h => ?_) (fun cdv A outer s H vs Q E hr h => ?_)
  · obtain ⟨D, B, v, d, rfl, _⟩ := h
    rfl
  · obtain ⟨D, B, v, d, rfl, hd, q⟩ := h
    refine ⟨_, pss_cons (ps_if (pt_not (pt_val (pe_call G3 (hr.mono (by decide)) (by rfl) g3 F3.kp b3 .nil pass0 (pa_cons (pv 0) (pa_cons pe_int pa_nil))))) (pss_one (ps_ret pe_bl)) pss_nil)
      (pss_cons (ps_asg (pv 0) (pg_tup rfl (pgs_cons (pg_name (i := 1) scIsR.nd rfl (.inl rfl)) (pgs_cons (pg_name (i := 2) scIsR.nd rfl (.inl rfl)) pgs_nil))))
      (pss_one (ps_ret (pe_and (pe_call G2 hr (by rfl) g2 F2.kp b2 .nil pass0 (pa_cons (pv 1) (pa_cons (pe_un un_neg (pe_glob (v := .int M20) rfl gM ⟨_, rfl⟩)) (pa_cons (pe_glob (v := .int M20) rfl gM ⟨_, rfl⟩) pa_nil))))
        (pe_one (pe_call G2 hr (by rfl) g2 F2.kp b2 .nil pass0 (pa_cons (pv 2) (pa_cons (pv 1) (pa_cons (pe_glob (v := .int M20) rfl gM ⟨_, rfl⟩) pa_nil))))))))), ?_⟩
    refine ⟨v, rfl, D, B, v, d, 2, rfl, hd, _, rfl, ?_⟩
    cases hb : tupOf 2 d with
    | false =>
      rw [rangeOk_no hb] at q
      exact iteT q
    | true =>
      obtain ⟨a, xs, ds, rfl, rfl, e, ha, hl⟩ := tupOf_yes hd hb
      obtain ⟨x1, x2, d1, d2, rfl, rfl, h1, h2⟩ := dqAll_two ha hl
      refine iteF ⟨_, rfl, a, _, rfl, SqT.of e, rfl, x1, [x2], rfl, x2, [], rfl, rfl, ?_⟩
      rw [rangeOk_two] at q
      refine ⟨_, rfl, M20, rfl, D, B, x1, d1, -M20, M20, rfl, h1, _, rfl, ?_⟩
      cases hw : within (-M20) M20 d1 with
      | false =>
        rw [hw] at q
        exact iteF q
      | true =>
        rw [hw] at q
        have hi : isIn d1 = true := by
          cases d1 <;> first | rfl | cases hw
        obtain ⟨x, rfl, rfl⟩ := isIn_of h1 hi
        exact iteT ⟨_, rfl, _, rfl, D, B, x2, d2, x, M20, rfl, h2, q⟩
/-! ### the law's own looks -/
theorem ok_whole {f : Addr} {fd : FuncData} (F : Fun K "_law_whole" "_law_whole" sWhole f fd) (T : Bn mg) : FnOk P w K mg base CX0 1 f fd ["_law_value", "_law_least", "_law_most"] spWith := by
  refine F.ok scWhole (fun vs H Q E h => ?_) (fun cdv A outer s H vs Q E hr h => ?_)
  · obtain ⟨D, B, v, d, lo, hi, rfl, _⟩ := h
    rfl
  · obtain ⟨D, B, v, d, lo, hi, rfl, hd, q⟩ := h
    refine ⟨_, pss_one (ps_ret (pe_and (pe_callB call_isi (by rfl) T.isi PyProof.Rows.boot_isinstance (pa_cons (pv 0) (pa_cons (pe_bltn (by rfl) T.int PyProof.Rows.boot_int (v := .ty "int") rfl) pa_nil)))
      (pe_and (pe_not (pe_callB call_isi (by rfl) T.isi PyProof.Rows.boot_isinstance (pa_cons (pv 0) (pa_cons (pe_bltn (by rfl) T.bool boot_bool' (v := .ty "bool") rfl) pa_nil))))
        (pe_one (pe_chain op_le op_le (pv 1) (pv 0) (pv 2)))))), ?_⟩
    refine ⟨v, rfl, v, .ty "int", _, _, _, rfl, .ty "int", hd.ty, kInt d, _, rfl, ?_⟩
    cases hb : isIB d with
    | false =>
      have e : isIn d = false := by
        cases d <;> first | rfl | cases hb
      rw [within_no e] at q
      exact iteF q
    | true =>
      refine iteT ⟨v, rfl, v, .ty "bool", _, _, _, rfl, .ty "bool", hd.ty, kBool d, _, rfl, ?_⟩
      cases hb2 : isBo d with
      | true =>
        have e : isIn d = false := by
          cases d <;> first | rfl | cases hb2
        rw [within_no e] at q
        exact ⟨_, rfl, iteF q⟩
      | false =>
        have hi2 : isIn d = true := by
          cases d <;> first | rfl | exact Bool.noConfusion (show false = true from hb) | exact Bool.noConfusion (show true = false from hb2)
        obtain ⟨i, rfl, rfl⟩ := isIn_of hd hi2
        refine ⟨_, rfl, iteT ⟨_, rfl, _, rfl, _, _, rfl, rfl, _, rfl, ?_⟩⟩
        have q2 : Q (.bl (decide (lo ≤ i) && decide (i ≤ hi))) H := q
        cases h1 : decide (lo ≤ i) with
        | false =>
          rw [h1] at q2
          exact iteF q2
        | true =>
          rw [h1] at q2
          exact iteT ⟨_, rfl, _, _, rfl, rfl, q2⟩

theorem ok_lrng {f f2 : Addr} {fd fd2 : FuncData} (F : Fun K "_law_is_range" "_law_is_range" sLR f fd) (F2 : Fun K "_law_whole" "_law_whole" sWhole f2 fd2) (b2 : Binds K fd2 ["_law_value", "_law_least", "_law_most"] []) (g2 : mg "_law_whole" = some (.ref f2)) (T : Bn mg) :
    FnOk P w K mg base CX0 2 f fd ["_law_value"] spRng := by
  have G2 : FnOk P w K mg base CX0 1 f2 fd2 ["_law_value", "_law_least", "_law_most"] spWith := ok_whole F2 T
  refine F.ok scLR (fun vs H Q E h => ?_) (fun cdv A outer s H vs Q E hr h => ?_)
  · obtain ⟨D, B, v, d, rfl, _⟩ := h
    rfl
  · obtain ⟨D, B, v, d, rfl, hd, q⟩ := h
    refine ⟨_, pss_cons (ps_if (PW.pt (pw_or (pt_not (pt_val (pe_callB call_isi (by rfl) T.isi PyProof.Rows.boot_isinstance (pa_cons (pv 0) (pa_cons (pe_bltn (by rfl) T.tup boot_tuple' (v := .ty "tuple") rfl) pa_nil)))))
        (pw_or (pt_cmpR op_ne (pe_callB call_len_seq (by rfl) T.len PySem.boot_len (pa_cons (pv 0) pa_nil)) pe_int (nomark _))
          (pw_or1 (pt_not (pt_val (pe_call G2 hr (by rfl) g2 F2.kp b2 .nil pass0 (pa_cons (pe_ix ix_tup (pv 0) pe_int (fun _ _ => rfl)) (pa_cons (pe_op op_sub pe_int (pe_op op_pow pe_int pe_int)) (pa_cons (pe_op op_pow pe_int pe_int) pa_nil))))))))))
        (pss_one (ps_ret pe_bl)) pss_nil)
      (pss_one (ps_ret (pe_call G2 hr (by rfl) g2 F2.kp b2 .nil pass0 (pa_cons (pe_ix ix_tup (pv 0) pe_int (fun _ _ => rfl)) (pa_cons (pe_ix ix_tup (pv 0) pe_int (fun _ _ => rfl)) (pa_cons (pe_op op_pow pe_int pe_int) pa_nil)))))), ?_⟩
    refine ⟨v, rfl, v, .ty "tuple", _, _, _, rfl, .ty "tuple", hd.ty, kTup d, _, rfl, ?_⟩
    cases hb : isTu d with
    | false =>
      have e2 : tupOf 2 d = false := tupOf_no hb
      rw [rangeOk_no e2] at q
      exact iteT (iteT q)
    | true =>
      obtain ⟨a, xs, ds, rfl, rfl, e, ha⟩ := isTu_of hd hb
      refine iteF ⟨_, rfl, a, xs, rfl, .inr (SqT.of e), rfl, _, rfl, ?_⟩
      by_cases hl : (xs.length : Int) = 2
      · rw [decide_eq_true (show V.int (xs.length : Int) = V.int 2 by rw [hl])]
        have hl2 : (ds.length : Int) = 2 := by rw [← ha.len]; exact hl
        obtain ⟨x1, x2, d1, d2, rfl, rfl, h1, h2⟩ := dqAll_two ha hl2
        rw [rangeOk_two] at q
        refine iteF ⟨_, rfl, a, _, _, _, rfl, rfl, SqT.of e, atI_nat (j := 0) rfl, _, _, rfl, rfl, ⟨by decide, by decide, by decide⟩, _, _, rfl, rfl, _, _, rfl, rfl, ⟨by decide, by decide, by decide⟩, D, B, x1, d1, -M20, M20, rfl, h1, _, rfl, ?_⟩
        cases hw : within (-M20) M20 d1 with
        | false =>
          rw [hw] at q
          exact iteT q
        | true =>
          rw [hw] at q
          have hi : isIn d1 = true := by
            cases d1 <;> first | rfl | cases hw
          obtain ⟨x, rfl, rfl⟩ := isIn_of h1 hi
          refine iteF ⟨_, rfl, a, _, _, _, rfl, rfl, SqT.of e, atI_nat (j := 1) rfl, _, rfl, a, _, _, _, rfl, rfl, SqT.of e, atI_nat (j := 0) rfl, _, _, rfl, rfl, ⟨by decide, by decide, by decide⟩, D, B, x2, d2, x, M20, rfl, h2, q⟩
      · have e2 : tupOf 2 (.tuple ds) = false := decide_eq_false (by rw [← ha.len]; exact hl)
        rw [rangeOk_no e2] at q
        rw [decide_eq_false (show ¬ V.int (xs.length : Int) = V.int 2 from fun z => hl (V.int.inj z))]
        exact iteT (iteT q)
end
end Jg
namespace Jg
open PySem PySem.Spec PyProof.Rows L2
theorem smallM {n : Nat} (h : n ≤ 1000000) : n < sizeLine := Nat.lt_of_le_of_lt h (by rw [sizeLine_eq]; decide)
def szT : PyData → Nat
  | .tuple ds => ds.length | _ => 0
theorem boxOk_no {d : PyData} {n : Int} (h : tupOf n d = false) : boxOk n d = false := by
  cases d with
  | tuple ds =>
    have h2 : decide ((ds.length : Int) = n) = false := h
    show (decide ((ds.length : Int) = n) && ds.all rangeOk) = false
    rw [h2]
    rfl
  | _ => rfl
theorem DqAll.at_ {D B : Addr} {H : Hp} : ∀ {xs : List V} {ds : List PyData}, DqAll D B H xs ds → ∀ (i : Nat) (x : V), xs[i]? = some x → ∃ d, ds[i]? = some d ∧ Dq D B H x d
  | _, _, .nil, _, _, e => by simp at e
  | _, _, .cons h _, 0, _, e => by
    simp at e
    subst e
    exact ⟨_, rfl, h⟩
  | _, _, .cons _ h, i + 1, x, e => by
    obtain ⟨d, e2, q⟩ := h.at_ i x (by simpa using e)
    exact ⟨d, by simpa using e2, q⟩
/-- data stays where all that was stays -/
theorem Dq.same {D B : Addr} {H H' : Hp} {v : V} {d : PyData} (s : Same H H') (h : Dq D B H v d) : Dq D B H' v d := by
  refine Dq.rec (D := D) (B := B) (H := H) (motive_1 := fun v d _ => Dq D B H' v d) (motive_2 := fun vs ds _ => DqAll D B H' vs ds) .non .bl .int .str ?_ ?_ ?_ .nil ?_ h
  · exact fun h1 h2 e _ k => .lst h1 h2 (s _ _ e) k
  · exact fun e _ k => .tup (s _ _ e) k
  · exact fun e => .dct (s _ _ e)
  · exact fun _ _ k1 k2 => .cons k1 k2
theorem DqAll.same {D B : Addr} {H H' : Hp} (s : Same H H') : ∀ {vs : List V} {ds : List PyData}, DqAll D B H vs ds → DqAll D B H' vs ds
  | _, _, .nil => .nil
  | _, _, .cons a b => .cons (a.same s) (b.same s)
theorem take_map_next {α β : Type} {f : α → β} {xs : List α} {i : Nat} {x : α} (h : xs[i]? = some x) : (xs.take (i + 1)).map f = (xs.take i).map f ++ [f x] := by
  rw [List.take_add_one, h, List.map_append]
  rfl
section
variable {P : Program} {w : World} {K : PySem.W.Frag} {mg : Str → Option Value} {base : Heap}
def spBox : Sp := fun vs H Q _ => ∃ (D B r : Addr) (n : Int) (rs : List V) (v : V) (d : PyData), vs = [.ref r, v] ∧ H r = some (.tup (.int n :: rs)) ∧ Dq D B H v d ∧ szT d ≤ 1000000 ∧ ∀ H', Same H H' → Q (.bl (boxOk n d)) H'
theorem ok_isbox {f f1 f2 f3 f4 : Addr} {fd fd1 fd2 fd3 fd4 : FuncData} {tk : Tok} (F : Fun K "is_box" "is_box" sIsBox f fd) (F1 : Fun K "is_integer" "is_integer" sInt f1 fd1) (b1 : Binds K fd1 ["value"] []) (g1 : mg "is_integer" = some (.ref f1))
    (F2 : Fun K "is_within" "is_within" sWith f2 fd2) (b2 : Binds K fd2 ["value", "low", "high"] []) (g2 : mg "is_within" = some (.ref f2)) (F3 : Fun K "is_tuple_of" "is_tuple_of" sTupO f3 fd3) (b3 : Binds K fd3 ["value", "many"] []) (g3 : mg "is_tuple_of" = some (.ref f3))
    (F4 : Fun K "_is_range" "_is_range" sIsR f4 fd4) (b4 : Binds K fd4 ["value"] []) (g4 : mg "_is_range" = some (.ref f4)) (gM : mg "MAX_NUMBER" = some (.int M20 tk)) (T : Bn mg) : FnOk P w K mg base CX0 4 f fd ["row", "value"] spBox := by
  have G3 : FnOk P w K mg base CX0 1 f3 fd3 ["value", "many"] spTupO := ok_tupO F3 T
  have G4 : FnOk P w K mg base CX0 3 f4 fd4 ["value"] spRng := ok_rng F4 F1 b1 g1 F2 b2 g2 F3 b3 g3 gM T
  refine F.ok scIsBox (fun vs H Q E h => ?_) (fun cdv A outer s H vs Q E hr h => ?_)
  · obtain ⟨D, B, r, n, rs, v, d, rfl, _⟩ := h
    rfl
  · obtain ⟨D, B, r, n, rs, v, d, rfl, hrow, hd, hz, q⟩ := h
    refine ⟨_, pss_one (ps_ret (pe_and (pe_call G3 (hr.mono (by decide)) (by rfl) g3 F3.kp b3 .nil pass0 (pa_cons (pv 1) (pa_cons (pe_ix ix_tup (pv 0) pe_int (fun _ _ => rfl)) pa_nil)))
      (pe_one (pe_callB (cr_all rfl) (by rfl) T.all boot_all' (pa_cons (pe_lc (own := [("item", 2)]) (g := gName 2) (tt := tYes) rfl scIsBox.nd (pi_tup (pv 1)) (blkOk_by (N := ["row", "value", "item"]) (sc := defScope sIsBox) (by decide +kernel))
        (fun _ _ _ _ _ => pg_name (i := 2) scIsBox.nd rfl (.inl rfl)) (fun _ _ _ _ _ => pts_nil) (fun _ _ _ _ _ => pe_call G4 hr (by rfl) g4 F4.kp b4 .nil pass0 (pa_cons (pv 2) pa_nil))) pa_nil))))), ?_⟩
    refine ⟨v, rfl, _, rfl, r, _, _, _, rfl, rfl, SqT.of hrow, atI_nat (j := 0) rfl, D, B, v, d, n, rfl, hd, _, rfl, ?_⟩
    cases hb : tupOf n d with
    | false =>
      have q2 := q H (Same.refl H)
      rw [boxOk_no hb] at q2
      exact iteF q2
    | true =>
      obtain ⟨a, xs, ds, rfl, rfl, e, ha, hl⟩ := tupOf_yes hd hb
      refine iteT ⟨_, rfl, a, rfl, ⟨_, SqT.of e⟩, fun D1 nD1 => ?_⟩
      have hz2 : ds.length ≤ 1000000 := hz
      refine lc_tup (K := K) (a := a) (xs := xs) (fun i H3 => H3 D1 = some (.lst (((ds.take i).map rangeOk).map V.bl)) ∧ Same H H3) ⟨upd_same, same_upd nD1⟩ (fun i H3 _ h => SqT.of (h.2 _ _ e)) ?_ ?_
      · rintro i x H3 hi ⟨e1, s3⟩
        obtain ⟨dx, hdx, hx⟩ := ha.at_ i x hi
        have hx3 := hx.same s3
        refine ⟨rfl, tYes_if ⟨x, rfl, D, B, x, dx, rfl, hx3, _, e1, ?_, ?_, ?_⟩⟩
        · simp only [List.length_map, List.length_take]
          exact Nat.lt_of_le_of_lt (Nat.min_le_right _ _) (smallM hz2)
        · rw [upd_same, take_map_next hdx, List.map_append]
          rfl
        · intro b o hb
          rw [upd_ne (ne_of_none hb nD1)]
          exact s3 b o hb
      · rintro H3 ⟨e1, s3⟩
        rw [ha.len, List.take_length] at e1
        refine ⟨D1, _, rfl, SqL.of e1, ?_⟩
        have q2 := q H3 s3
        have eb : boxOk n (.tuple ds) = ds.all rangeOk := by
          show (decide ((ds.length : Int) = n) && ds.all rangeOk) = _
          rw [decide_eq_true hl, Bool.true_and]
        have ea : (ds.map rangeOk).all id = ds.all rangeOk := by
          rw [List.all_map]
          rfl
        rw [eb, ← ea] at q2
        exact q2
/-- the law's own look -/
def spLBox : Sp := fun vs H Q _ => ∃ (D B : Addr) (n : Int) (v : V) (d : PyData), vs = [.int n, v] ∧ Dq D B H v d ∧ szT d ≤ 1000000 ∧ ∀ H', Same H H' → Q (.bl (boxOk n d)) H'
theorem ones_eqv (m : Nat) : PyData.eqv (.list ((List.replicate m (1 : Int)).map PyData.int)) (.list []) = decide (m = 0) := by
  cases m with
  | zero => simp [PyData.eqv, PyData.eqvAll]
  | succ m => simp [PyData.eqv, PyData.eqvAll, List.replicate_succ]
theorem ok_lbox {f f2 f4 : Addr} {fd fd2 fd4 : FuncData} (F : Fun K "_law_is_box" "_law_is_box" sLB f fd) (F2 : Fun K "_law_whole" "_law_whole" sWhole f2 fd2) (b2 : Binds K fd2 ["_law_value", "_law_least", "_law_most"] []) (g2 : mg "_law_whole" = some (.ref f2))
    (F4 : Fun K "_law_is_range" "_law_is_range" sLR f4 fd4) (b4 : Binds K fd4 ["_law_value"] []) (g4 : mg "_law_is_range" = some (.ref f4)) (T : Bn mg) : FnOk P w K mg base CX0 3 f fd ["_law_inputs", "_law_value"] spLBox := by
  have G4 : FnOk P w K mg base CX0 2 f4 fd4 ["_law_value"] spRng := ok_lrng F4 F2 b2 g2 T
  refine F.ok scLB (fun vs H Q E h => ?_) (fun cdv A outer s H vs Q E hr h => ?_)
  · obtain ⟨D, B, n, v, d, rfl, _⟩ := h
    rfl
  · obtain ⟨D, B, n, v, d, rfl, hd, hz, q⟩ := h
    have hu := hr.units
    refine ⟨_, pss_one (ps_ret (pe_and (pe_callB call_isi (by rfl) T.isi PyProof.Rows.boot_isinstance (pa_cons (pv 1) (pa_cons (pe_bltn (by rfl) T.tup boot_tuple' (v := .ty "tuple") rfl) pa_nil)))
      (pe_and (pe_cmpR op_eq (pe_callB call_len_seq (by rfl) T.len PySem.boot_len (pa_cons (pv 1) pa_nil)) (pv 0) (nomark _))
        (pe_one (pe_cmpR (op_eqD hu) (pe_lc (own := [("_law_own", 2)]) (g := gName 2) rfl scLB.nd (pi_tup (pv 1)) (blkOk_by (N := ["_law_inputs", "_law_value", "_law_own"]) (sc := defScope sLB) (by decide +kernel))
          (fun _ _ _ _ _ => pg_name (i := 2) scLB.nd rfl (.inl rfl)) (fun _ _ _ _ _ => pts_one (pt_not (pt_val (pe_call G4 hr (by rfl) g4 F4.kp b4 .nil pass0 (pa_cons (pv 2) pa_nil))))) (fun _ _ _ _ _ => pe_int)) (pe_lst pa_nil) (nomark _)))))), ?_⟩
    refine ⟨v, rfl, v, .ty "tuple", _, _, _, rfl, .ty "tuple", hd.ty, kTup d, _, rfl, ?_⟩
    cases hb : isTu d with
    | false =>
      have q2 := q H (Same.refl H)
      rw [boxOk_no (tupOf_no hb)] at q2
      exact iteF q2
    | true =>
      obtain ⟨a, xs, ds, rfl, rfl, e, ha⟩ := isTu_of hd hb
      refine iteT ⟨_, rfl, a, xs, rfl, .inr (SqT.of e), _, rfl, rfl, _, rfl, ?_⟩
      rw [dec_int2]
      cases hl : decide ((xs.length : Int) = n) with
      | false =>
        have q2 := q H (Same.refl H)
        rw [boxOk_no (show tupOf n (.tuple ds) = false by rw [ha.len] at hl; exact hl)] at q2
        exact iteF q2
      | true =>
        refine iteT ⟨_, rfl, a, rfl, ⟨_, SqT.of e⟩, fun D1 nD1 => ?_⟩
        have hz2 : ds.length ≤ 1000000 := hz
        refine lc_tup (K := K) (a := a) (xs := xs) (fun i H3 => ∃ m : Nat, m ≤ i ∧ H3 D1 = some (.lst ((List.replicate m (1 : Int)).map V.int)) ∧ decide (m = 0) = (ds.take i).all rangeOk ∧ Same H H3) ⟨0, Nat.le_refl _, upd_same, rfl, same_upd nD1⟩ (fun i H3 _ ⟨_, _, _, _, h⟩ => SqT.of (h _ _ e)) ?_ ?_
        · rintro i x H3 hi ⟨m, hm, e1, e2, s3⟩
          obtain ⟨dx, hdx, hx⟩ := ha.at_ i x hi
          have hx3 := hx.same s3
          have hil : i < xs.length := (List.getElem?_eq_some_iff.mp hi).1
          have hal : (ds.take (i + 1)).all rangeOk = ((ds.take i).all rangeOk && rangeOk dx) := by
            rw [List.take_add_one, hdx, List.all_append]
            simp
          refine ⟨rfl, x, rfl, D, B, x, dx, rfl, hx3, _, rfl, ?_⟩
          cases hk : rangeOk dx with
          | true =>
            refine iteF ⟨m, by omega, e1, ?_, s3⟩
            rw [hal, hk, Bool.and_true]
            exact e2
          | false =>
            refine iteT ⟨_, e1, ?_, m + 1, by omega, ?_, ?_, ?_⟩
            · rw [List.length_map, List.length_replicate]
              exact smallM (by rw [ha.len] at hil; omega)
            · rw [upd_same, List.replicate_succ', List.map_append]
              rfl
            · rw [hal, hk, Bool.and_false]
              rfl
            · intro b o hb
              rw [upd_ne (ne_of_none hb nD1)]
              exact s3 b o hb
        · rintro H3 ⟨m, hm, e1, e2, s3⟩
          refine ⟨Nat.zero_le _, fun p np => ?_⟩
          have s4 : Same H3 (upd H3 p (.lst [])) := same_upd np
          refine ⟨.list ((List.replicate m (1 : Int)).map PyData.int), .list [], .lst (SqL.of (s4 _ _ e1)) (dp_ints _), .lst (SqL.of upd_same) .nil, shaped_ints _, shaped_ints [], ?_⟩
          have q2 := q _ (s3.trans s4)
          have eb : boxOk n (.tuple ds) = ds.all rangeOk := by
            show (decide ((ds.length : Int) = n) && ds.all rangeOk) = _
            rw [← ha.len, hl, Bool.true_and]
          rw [ha.len, List.take_length] at e2
          rw [eb, ← e2, ← ones_eqv m] at q2
          exact q2
end
end Jg
namespace Jg
open PySem PySem.Spec PyProof.Rows L2
/-! ### tuples made of tuples, whatever is shared -/
theorem cut_whole {xs : List V} {lo hi : Option Int} (h : HT.sIx xs.length 0 lo = 0 ∧ HT.sIx xs.length xs.length hi = xs.length) : cutV xs lo hi = xs := by
  unfold cutV
  rw [h.1, h.2, List.drop_zero, Nat.sub_zero, List.take_length]
theorem sl_read {K : PySem.W.Frag} {H : Hp} {a : Addr} {xs : List V} {lo hi : Option Int} {Q : VK} (e : H a = some (.tup xs)) (q : ∀ b H', Same H H' → H' b = some (.tup (cutV xs lo hi)) → Q (.ref b) H') : rSlA K (.ref a) lo hi H Q :=
  ⟨a, xs, rfl, SqT.of e, fun z => q a H (Same.refl H) (by rw [cut_whole z]; exact e), fun _ p np => q p _ (same_upd np) upd_same⟩
theorem cat_read {K : PySem.W.Frag} {H : Hp} {a b : Addr} {xs ys : List V} {Q : VK} (e : H a = some (.tup xs)) (e2 : H b = some (.tup ys)) (hz : xs.length + ys.length ≤ 1000) (q : ∀ c H', Same H H' → H' c = some (.tup (xs ++ ys)) → Q (.ref c) H') : rCatA K (.ref a) (.ref b) H Q := by
  refine ⟨a, b, xs, ys, rfl, rfl, SqT.of e, SqT.of e2, Nat.le_of_lt (small1000 hz), fun z => q b H (Same.refl H) ?_, fun _ z => q a H (Same.refl H) ?_, fun _ _ p np => q p _ (same_upd np) upd_same⟩
  · rw [z, List.nil_append]
    exact e2
  · rw [z, List.append_nil]
    exact e
theorem cutV_from (xs : List V) (k : Nat) : cutV xs (some (k : Int)) none = xs.drop k := by
  unfold cutV
  rw [HT.sIx_nat, HT.sIx_none]
  by_cases h : k ≤ xs.length
  · rw [Nat.min_eq_left h, List.take_of_length_le (by rw [List.length_drop]; omega)]
  · rw [Nat.min_eq_right (by omega), List.drop_eq_nil_of_le (Nat.le_refl _), List.drop_eq_nil_of_le (by omega), List.take_nil]
theorem cutV_to (xs : List V) (k : Nat) : cutV xs none (some (k : Int)) = xs.take k := by
  unfold cutV
  rw [HT.sIx_nat, HT.sIx_none, List.drop_zero, Nat.sub_zero]
  by_cases h : k ≤ xs.length
  · rw [Nat.min_eq_left h]
  · rw [Nat.min_eq_right (by omega), List.take_length, List.take_of_length_le (by omega)]
/-! ### boxes -/
def pairD (p : Int × Int) : PyData := .tuple [.int p.1, .int p.2]
def boxD (ps : List (Int × Int)) : PyData := .tuple (ps.map pairD)
structure Good (ps : List (Int × Int)) : Prop where
  len : ps.length ≤ 8
  lo : ∀ p ∈ ps, -M20 ≤ p.1
  le : ∀ p ∈ ps, p.1 ≤ p.2
  hi : ∀ p ∈ ps, p.2 ≤ M20
theorem Dq.tupE {D B : Addr} {H : Hp} {v : V} {ds : List PyData} (h : Dq D B H v (.tuple ds)) : ∃ a xs, v = .ref a ∧ H a = some (.tup xs) ∧ DqAll D B H xs ds := by
  cases h with
  | tup e ha => exact ⟨_, _, rfl, e, ha⟩
theorem Dq.intE {D B : Addr} {H : Hp} {v : V} {i : Int} (h : Dq D B H v (.int i)) : v = .int i := by
  cases h
  rfl
theorem Dq.pairE {D B : Addr} {H : Hp} {v : V} {p : Int × Int} (h : Dq D B H v (pairD p)) : ∃ a, v = .ref a ∧ H a = some (.tup [.int p.1, .int p.2]) := by
  obtain ⟨a, xs, rfl, e, ha⟩ := h.tupE
  cases ha with
  | cons h1 h2 =>
    cases h2 with
    | cons h2 h3 =>
      cases h3
      rw [h1.intE, h2.intE] at e
      exact ⟨a, rfl, e⟩
theorem DqAll.pairAt {D B : Addr} {H : Hp} {xs : List V} {ps : List (Int × Int)} (h : DqAll D B H xs (ps.map pairD)) {i : Nat} {x : V} (e : xs[i]? = some x) : ∃ p a, ps[i]? = some p ∧ x = .ref a ∧ H a = some (.tup [.int p.1, .int p.2]) := by
  obtain ⟨d, e2, hd⟩ := h.at_ i x e
  rw [List.getElem?_map] at e2
  cases hp : ps[i]? with
  | none =>
    rw [hp] at e2
    cases e2
  | some p =>
    rw [hp] at e2
    have e3 : pairD p = d := Option.some.inj e2
    subst e3
    obtain ⟨a, e4, e5⟩ := hd.pairE
    exact ⟨p, a, rfl, e4, e5⟩
def cnt (ps : List (Int × Int)) : Int := ps.foldl (fun c p => c * (p.2 - p.1 + 1)) 1
theorem cnt_next {ps : List (Int × Int)} {i : Nat} {p : Int × Int} (h : ps[i]? = some p) : cnt (ps.take (i + 1)) = cnt (ps.take i) * (p.2 - p.1 + 1) := by
  unfold cnt
  rw [List.take_add_one, h, List.foldl_append]
  rfl
theorem Good.wide {ps : List (Int × Int)} (g : Good ps) {p : Int × Int} (h : p ∈ ps) : (p.2 - p.1 + 1).natAbs < 2 ^ 68 := by
  have h1 := g.lo p h
  have h2 := g.le p h
  have h3 := g.hi p h
  have e : (M20 : Int) = 100000000000000000000 := by decide
  rw [e] at h1 h3
  rw [show (2 : Nat) ^ 68 = 295147905179352825856 by decide]
  omega
theorem Good.cnt_lt {ps : List (Int × Int)} (g : Good ps) : ∀ i, i ≤ ps.length → (cnt (ps.take i)).natAbs < 2 ^ (68 * i + 1)
  | 0, _ => by
    rw [List.take_zero]
    decide
  | i + 1, h => by
    have hi : ps[i]? = some ps[i] := List.getElem?_eq_getElem (by omega)
    rw [cnt_next hi, show 68 * (i + 1) + 1 = (68 * i + 1) + 68 by omega]
    exact wide_lt (g.cnt_lt i (by omega)) (g.wide (List.getElem_mem (by omega)))
def midP (p : Int × Int) : Int := p.1 + (p.2 - p.1) / 2
/-- the two boxes that come -/
def partD (ps : List (Int × Int)) (k : Nat) (m : Int) (p : Int × Int) : PyData :=
  .tuple [boxD (ps.take k ++ (p.1, m) :: ps.drop (k + 1)), boxD (ps.take k ++ (m + 1, p.2) :: ps.drop (k + 1))]
abbrev sCnt : Stmt := topS 8
abbrev sMid : Stmt := topS 9
abbrev sPart : Stmt := topS 10
theorem scCnt : FnScope ["box", "count", "low", "high"] ["box"] (defScope sCnt) := ⟨rfl, rfl, rfl, by decide +kernel, rfl, by decide +kernel, by decide +kernel⟩
theorem scMid : FnScope ["box", "low", "high"] ["box"] (defScope sMid) := ⟨rfl, rfl, rfl, by decide +kernel, rfl, by decide +kernel, by decide +kernel⟩
theorem scPart : FnScope ["box", "unknown", "number", "low", "high", "ahead", "behind"] ["box", "unknown", "number"] (defScope sPart) := ⟨rfl, rfl, rfl, by decide +kernel, rfl, by decide +kernel, by decide +kernel⟩
theorem DqAll.take {D B : Addr} {H : Hp} : ∀ {xs : List V} {ds : List PyData} (k : Nat), DqAll D B H xs ds → DqAll D B H (xs.take k) (ds.take k)
  | _, _, 0, _ => by
    rw [List.take_zero, List.take_zero]
    exact .nil
  | _, _, _ + 1, .nil => .nil
  | _, _, k + 1, .cons a b => .cons a (b.take k)
theorem DqAll.drop {D B : Addr} {H : Hp} : ∀ {xs : List V} {ds : List PyData} (k : Nat), DqAll D B H xs ds → DqAll D B H (xs.drop k) (ds.drop k)
  | _, _, 0, h => h
  | _, _, _ + 1, .nil => .nil
  | _, _, k + 1, .cons _ b => b.drop k
theorem DqAll.append {D B : Addr} {H : Hp} {ys : List V} {es : List PyData} (h2 : DqAll D B H ys es) : ∀ {xs : List V} {ds : List PyData}, DqAll D B H xs ds → DqAll D B H (xs ++ ys) (ds ++ es)
  | _, _, .nil => h2
  | _, _, .cons a b => .cons a (DqAll.append h2 b)
section
variable {P : Program} {w : World} {K : PySem.W.Frag} {mg : Str → Option Value} {base : Heap}
def spCnt : Sp := fun vs H Q _ => ∃ (D B : Addr) (v : V) (ps : List (Int × Int)), vs = [v] ∧ Dq D B H v (boxD ps) ∧ Good ps ∧ Q (.int (cnt ps)) H
theorem ok_cnt {f : Addr} {fd : FuncData} (F : Fun K "point_count" "point_count" sCnt f fd) : FnOk P w K mg base CX0 1 f fd ["box"] spCnt := by
  refine F.ok scCnt (fun vs H Q E h => ?_) (fun cdv A outer s H vs Q E hr h => ?_)
  · obtain ⟨D, B, v, ps, rfl, _⟩ := h
    rfl
  · obtain ⟨D, B, v, ps, rfl, hd, g, q⟩ := h
    refine ⟨_, pss_cons (ps_set (i := 1) scCnt.nd rfl (.inl rfl) pe_int)
      (pss_cons (ps_for PassesOwn.never rfl (pi_tup (pv 0)) (pg_tup rfl (pgs_cons (pg_name (i := 2) scCnt.nd rfl (.inl rfl)) (pgs_cons (pg_name (i := 3) scCnt.nd rfl (.inl rfl)) pgs_nil)))
        (pss_one (ps_set (i := 1) scCnt.nd rfl (.inl rfl) (pe_op op_mulW (pv 1) (pe_op op_add (pe_op op_sub (pv 3) (pv 2)) pe_int)))))
      (pss_one (ps_ret (pv 1)))), ?_⟩
    obtain ⟨a, xs, rfl, e, ha⟩ := hd.tupE
    have hl : xs.length = ps.length := by rw [ha.len, List.length_map]
    refine ⟨_, rfl, a, rfl, ⟨_, SqT.of e⟩, for_tup (K := K) (a := a) (xs := xs) (fun i σ H3 => H3 = H ∧ ∃ y2 y3, σ = [some (.ref a), some (.int (cnt (ps.take i))), y2, y3]) ⟨rfl, none, none, rfl⟩ (fun i σ H3 _ h => by rw [h.1]; exact SqT.of e) ?_ ?_⟩
    · rintro i x σ H3 hi ⟨rfl, y2, y3, rfl⟩
      obtain ⟨p, b, hp, rfl, eb⟩ := ha.pairAt hi
      have hil : i < ps.length := (List.getElem?_eq_some_iff.mp hp).1
      have hw := wide_mul (g.cnt_lt i (by omega)) (g.wide (List.mem_of_getElem? hp)) (by omega) (by decide) (by have := g.len; omega)
      refine ⟨b, _, rfl, SqT.of eb, rfl, .int p.1, [.int p.2], rfl, .int p.2, [], rfl, rfl, _, rfl, _, rfl, _, rfl, _, _, rfl, rfl, _, _, rfl, rfl, _, _, rfl, rfl, hw, rfl, some (.int p.1), some (.int p.2), ?_⟩
      rw [cnt_next hp]
      rfl
    · rintro σ H3 ⟨rfl, y2, y3, rfl⟩
      rw [hl, List.take_length]
      exact ⟨_, rfl, q⟩
def spMid : Sp := fun vs H Q _ => ∃ (D B : Addr) (v : V) (ps : List (Int × Int)), vs = [v] ∧ Dq D B H v (boxD ps) ∧ Good ps ∧ ∀ a H', Same H H' → Dq D B H' (.ref a) (.tuple (ps.map fun p => .int (midP p))) → Q (.ref a) H'
theorem dqAll_ints {D B : Addr} {H : Hp} : ∀ ns : List Int, DqAll D B H (ns.map V.int) (ns.map PyData.int)
  | [] => .nil
  | n :: ns => .cons (.int n) (dqAll_ints ns)
theorem ok_mid {f : Addr} {fd : FuncData} (F : Fun K "middle" "middle" sMid f fd) (T : Bn mg) : FnOk P w K mg base CX0 1 f fd ["box"] spMid := by
  refine F.ok scMid (fun vs H Q E h => ?_) (fun cdv A outer s H vs Q E hr h => ?_)
  · obtain ⟨D, B, v, ps, rfl, _⟩ := h
    rfl
  · obtain ⟨D, B, v, ps, rfl, hd, g, q⟩ := h
    refine ⟨_, pss_one (ps_ret (pe_callTy call_tuple_of (by rfl) T.tup boot_tuple' (pa_cons (pe_lc (own := [("low", 1), ("high", 2)]) (g := gTup K 2 (gCons (gName 1) (gCons (gName 2) gNil))) (tt := tYes) rfl scMid.nd (pi_tup (pv 0)) (blkOk_by (N := ["box", "low", "high"]) (sc := defScope sMid) (by decide +kernel))
      (fun _ _ _ _ _ => pg_tup rfl (pgs_cons (pg_name (i := 1) scMid.nd rfl (.inl rfl) (.inr rfl)) (pgs_cons (pg_name (i := 2) scMid.nd rfl (.inl rfl) (.inr rfl)) pgs_nil))) (fun _ _ _ _ _ => pts_nil)
      (fun _ _ _ _ _ => pe_op op_add (pv 1) (pe_op op_fdiv (pe_op op_sub (pv 2) (pv 1)) pe_int))) pa_nil))), ?_⟩
    obtain ⟨a, xs, rfl, e, ha⟩ := hd.tupE
    have hl : xs.length = ps.length := by rw [ha.len, List.length_map]
    refine ⟨_, rfl, a, rfl, ⟨_, SqT.of e⟩, fun D1 nD1 => ?_⟩
    refine lc_tup (K := K) (a := a) (xs := xs) (fun i H3 => H3 D1 = some (.lst (((ps.take i).map midP).map V.int)) ∧ Same H H3) ⟨upd_same, same_upd nD1⟩ (fun i H3 _ h => SqT.of (h.2 _ _ e)) ?_ ?_
    · rintro i x H3 hi ⟨e1, s3⟩
      obtain ⟨p, b, hp, rfl, eb⟩ := ha.pairAt hi
      have hil : i < ps.length := (List.getElem?_eq_some_iff.mp hp).1
      refine ⟨b, _, rfl, SqT.of (s3 _ _ eb), rfl, .int p.1, [.int p.2], rfl, .int p.2, [], rfl, rfl, rfl, tYes_if ⟨_, rfl, _, rfl, _, rfl, _, _, rfl, rfl, _, _, rfl, rfl, ⟨by decide, by decide⟩, _, _, rfl, rfl, _, e1, ?_, ?_, ?_⟩⟩
      · simp only [List.length_map, List.length_take]
        exact Nat.lt_of_le_of_lt (Nat.min_le_left _ _) (small1000 (by have := g.len; omega))
      · rw [upd_same, take_map_next hp, List.map_append]
        rfl
      · intro c o hc
        rw [upd_ne (ne_of_none hc nD1)]
        exact s3 c o hc
    · rintro H3 ⟨e1, s3⟩
      rw [hl, List.take_length] at e1
      refine ⟨D1, _, rfl, .inl ⟨SqL.of e1, fun l nl => q l _ (s3.trans (same_upd nl)) (.tup upd_same ?_)⟩⟩
      have e3 : (ps.map midP).map PyData.int = ps.map fun p => .int (midP p) := by
        rw [List.map_map]
        rfl
      rw [← e3]
      exact dqAll_ints _
def spPart : Sp := fun vs H Q _ => ∃ (D B : Addr) (v : V) (ps : List (Int × Int)) (k : Nat) (m : Int) (p : Int × Int), vs = [v, .int (k : Int), .int m] ∧ Dq D B H v (boxD ps) ∧ Good ps ∧ ps[k]? = some p ∧
  ∀ a H', Same H H' → Dq D B H' (.ref a) (partD ps k m p) → Q (.ref a) H'
theorem ok_part {f : Addr} {fd : FuncData} (F : Fun K "parted" "parted" sPart f fd) : FnOk P w K mg base CX0 1 f fd ["box", "unknown", "number"] spPart := by
  refine F.ok scPart (fun vs H Q E h => ?_) (fun cdv A outer s H vs Q E hr h => ?_)
  · obtain ⟨D, B, v, ps, k, m, p, rfl, _⟩ := h
    rfl
  · obtain ⟨D, B, v, ps, k, m, p, rfl, hd, g, hp, q⟩ := h
    refine ⟨_, pss_cons (ps_asg (pe_ix ix_tup (pv 0) (pv 1) (fun _ _ => rfl)) (pg_tup rfl (pgs_cons (pg_name (i := 3) scPart.nd rfl (.inl rfl)) (pgs_cons (pg_name (i := 4) scPart.nd rfl (.inl rfl)) pgs_nil))))
      (pss_cons (ps_par (i := 5) (j := 6) rfl scPart.nd rfl rfl (by decide) rfl rfl (pa_cons (pe_slice sl_tupA (pv 0) po_none (po_some (pv 1))) (pa_cons (pe_slice sl_tupA (pv 0) (po_some (pe_op op_add (pv 1) pe_int)) po_none) pa_nil)) rfl)
      (pss_one (ps_ret (pe_tup (pa_cons (pe_op op_catA (pe_op op_catA (pv 5) (pe_tup (pa_cons (pe_tup (pa_cons (pv 3) (pa_cons (pv 2) pa_nil))) pa_nil))) (pv 6))
        (pa_cons (pe_op op_catA (pe_op op_catA (pv 5) (pe_tup (pa_cons (pe_tup (pa_cons (pe_op op_add (pv 2) pe_int) (pa_cons (pv 4) pa_nil))) pa_nil))) (pv 6)) pa_nil)))))), ?_⟩
    obtain ⟨a, xs, rfl, e, ha⟩ := hd.tupE
    have hl : xs.length = ps.length := by rw [ha.len, List.length_map]
    have hk : k < ps.length := (List.getElem?_eq_some_iff.mp hp).1
    have h8 := g.len
    obtain ⟨p', b, hp', ex, eb⟩ := ha.pairAt (List.getElem?_eq_getElem (show k < xs.length by omega))
    rw [hp] at hp'
    cases hp'
    refine ⟨_, rfl, _, rfl, a, xs, _, _, rfl, rfl, SqT.of e, atI_nat (List.getElem?_eq_getElem (show k < xs.length by omega)), b, _, ex, SqT.of eb, rfl, .int p.1, [.int p.2], rfl, .int p.2, [], rfl, rfl, ?_⟩
    -- box[:unknown], box[unknown + 1:]
    refine ⟨_, rfl, _, rfl, _, rfl, sl_read e fun c1 H1 s1 e1 => ?_⟩
    have ea1 := s1 _ _ e
    refine ⟨_, rfl, _, rfl, _, _, rfl, rfl, _, rfl, ?_⟩
    dsimp only [tNoPart]
    refine sl_read ea1 fun c2 H2 s2 e2 => ?_
    have e1b := s2 _ _ e1
    rw [cutV_to] at e1b
    have e2b : H2 c2 = some (.tup (xs.drop (k + 1))) := by
      rw [← cutV_from]
      exact e2
    refine ⟨_, _, rfl, ?_⟩
    have hkl : (xs.take k).length = k := by
      rw [List.length_take]
      omega
    have hdl : (xs.drop (k + 1)).length ≤ 8 := by
      rw [List.length_drop]
      omega
    -- ahead + ((low, number),)
    refine ⟨_, rfl, _, rfl, _, rfl, sz1 rfl, fun t1 n1 => ⟨sz1 rfl, fun u1 m1 => cat_read (xs := xs.take k) (ys := [V.ref t1]) ((same_upd n1).trans (same_upd m1) _ _ e1b) upd_same (by rw [hkl]; show k + 1 ≤ 1000; omega) fun c3 H3 s3 e3 => ?_⟩⟩
    have k3 : Same H2 H3 := ((same_upd n1).trans (same_upd m1)).trans s3
    refine ⟨_, rfl, cat_read (ys := xs.drop (k + 1)) e3 (k3 _ _ e2b) (by rw [List.length_append, hkl]; show k + 1 + _ ≤ 1000; omega) fun c4 H4 s4 e4 => ?_⟩
    have t1at : H4 t1 = some (.tup [.int p.1, .int m]) := s4 _ _ (s3 _ _ (same_upd m1 _ _ upd_same))
    have k4 : Same H2 H4 := k3.trans s4
    -- ahead + ((number + 1, high),)
    refine ⟨_, rfl, _, rfl, _, _, rfl, rfl, _, rfl, sz1 rfl, fun t2 n2 => ⟨sz1 rfl, fun u2 m2 => cat_read (xs := xs.take k) (ys := [V.ref t2]) ((same_upd n2).trans (same_upd m2) _ _ (k4 _ _ e1b)) upd_same (by rw [hkl]; show k + 1 ≤ 1000; omega) fun c5 H5 s5 e5 => ?_⟩⟩
    have k5 : Same H4 H5 := ((same_upd n2).trans (same_upd m2)).trans s5
    refine ⟨_, rfl, cat_read (ys := xs.drop (k + 1)) e5 (k5 _ _ (k4 _ _ e2b)) (by rw [List.length_append, hkl]; show k + 1 + _ ≤ 1000; omega) fun c6 H6 s6 e6 => ⟨sz1 rfl, fun r nr => ?_⟩⟩
    have t2at : H6 t2 = some (.tup [.int (m + 1), .int p.2]) := s6 _ _ (s5 _ _ (same_upd m2 _ _ upd_same))
    have k6 : Same H4 H6 := k5.trans s6
    have k7 : Same H6 (upd H6 r (.tup [.ref c4, .ref c6])) := same_upd nr
    have all : Same H (upd H6 r (.tup [.ref c4, .ref c6])) := s1.trans (s2.trans (k4.trans (k6.trans k7)))
    have dx := DqAll.same all ha
    have mk : ∀ (t : Addr) (x y : Int), (upd H6 r (.tup [.ref c4, .ref c6])) t = some (.tup [.int x, .int y]) → DqAll D B (upd H6 r (.tup [.ref c4, .ref c6])) (xs.take k ++ [.ref t] ++ xs.drop (k + 1)) ((ps.take k ++ (x, y) :: ps.drop (k + 1)).map pairD) := fun t x y h => by
      rw [List.map_append, List.map_cons, List.map_take, List.map_drop, List.append_assoc]
      exact DqAll.append (.cons (.tup h (.cons (.int _) (.cons (.int _) .nil))) (dx.drop (k + 1))) (dx.take k)
    refine q r _ all (.tup upd_same (.cons (.tup (k7 _ _ (k6 _ _ e4)) (mk t1 _ _ (k7 _ _ (k6 _ _ t1at)))) (.cons (.tup (k7 _ _ e6) (mk t2 _ _ (k7 _ _ t2at))) .nil)))
end
end Jg
namespace Jg
open PySem PySem.Spec PyProof.Rows L2
/-! ### written data -/
theorem pe_imp {X : Cx} {e : Expr} {t t' : TE} (h : PE X e t) (k : ∀ σ H Q, t' σ H Q → t σ H Q) : PE X e t' := ⟨fun pins s σ H Q I q => h.run pins s σ H Q I (k σ H Q q)⟩
theorem pa_imp {X : Cx} {es : List Expr} {t t' : TA} (h : PA X es t) (k : ∀ σ H Q, t' σ H Q → t σ H Q) : PA X es t' := ⟨fun pos pins s σ H Q I q => h.run pos pins s σ H Q I (k σ H Q q)⟩
def tLit (d : PyData) : TE := fun σ H Q => ∀ v H', Same H H' → (∀ D B, H D ≠ none → H B ≠ none → Dq D B H' v d) → Q v H'
def tLits (ds : List PyData) : TA := fun σ H Q => ∀ vs H', Same H H' → vs.length = ds.length → (∀ D B, H D ≠ none → H B ≠ none → DqAll D B H' vs ds) → Q vs H'
theorem Same.some {H H' : Hp} (s : Same H H') {a : Addr} (h : H a ≠ none) : H' a ≠ none := by
  cases e : H a with
  | none => exact absurd e h
  | some o =>
    rw [s a o e]
    exact fun z => nomatch z
section
variable {X : Cx} {pos : Pos}
theorem lit_int {i : Int} {j} : PE X (.Constant (.int i) j pos) (tLit (.int i)) := pe_imp pe_int fun σ H Q q => q (.int i) H (Same.refl H) fun _ _ _ _ => .int i
theorem lit_bl {b : Bool} {j} : PE X (.Constant (.bool b) j pos) (tLit (.bool b)) := pe_imp pe_bl fun σ H Q q => q (.bl b) H (Same.refl H) fun _ _ _ _ => .bl b
theorem lit_non {j} : PE X (.Constant .none j pos) (tLit .none) := pe_imp pe_non fun σ H Q q => q .non H (Same.refl H) fun _ _ _ _ => .non
theorem lit_str {x : Str} {j} : PE X (.Constant (.str x) j pos) (tLit (.str x)) := pe_imp pe_str fun σ H Q q => q (.str x) H (Same.refl H) fun _ _ _ _ => .str x
theorem lit_neg {i : Int} {j} {p : Pos} : PE X (.UnaryOp .USub (.Constant (.int i) j p) pos) (tLit (.int (-i))) := pe_imp (pe_un un_neg pe_int) fun σ H Q q => ⟨i, rfl, q (.int (-i)) H (Same.refl H) fun _ _ _ _ => .int (-i)⟩
theorem lit_pow {i j : Int} {a b} {p1 p2 : Pos} (h : CPow i j) : PE X (.BinOp (.Constant (.int i) a p1) .Pow (.Constant (.int j) b p2) pos) (tLit (.int (i ^ j.toNat))) := pe_imp (pe_op op_pow pe_int pe_int) fun σ H Q q => ⟨i, j, rfl, rfl, h, q _ H (Same.refl H) fun _ _ _ _ => .int _⟩
theorem lits_nil : PA X [] (tLits []) := pa_imp pa_nil fun σ H Q q => q [] H (Same.refl H) rfl fun _ _ _ _ => .nil
theorem lits_cons {e : Expr} {es : List Expr} {d : PyData} {ds : List PyData} (h : PE X e (tLit d)) (hr : PA X es (tLits ds)) (hs : starEach (e :: es) X.env = (false, eval e X.env) :: starEach es X.env := by rfl) : PA X (e :: es) (tLits (d :: ds)) :=
  pa_imp (pa_cons h hr hs) fun σ H Q q v H1 s1 h1 vs H2 s2 l2 h2 => q (v :: vs) H2 (s1.trans s2) (congrArg Nat.succ l2) fun D B nD nB => .cons ((h1 D B nD nB).same s2) (h2 D B (Same.some s1 nD) (Same.some s1 nB))
theorem lit_tup {es : List Expr} {ds : List PyData} {k} (h : PA X es (tLits ds)) (hz : Nat.ble ds.length 1000 = true := by rfl) : PE X (.Tuple es k pos) (tLit (.tuple ds)) :=
  pe_imp (pe_tup h) fun σ H Q q vs H1 s1 l1 h1 => ⟨by rw [l1]; exact sz1 hz, fun p np => q (.ref p) _ (s1.trans (same_upd np)) fun D B nD nB => .tup upd_same ((h1 D B nD nB).same (same_upd np))⟩
theorem lit_lst {es : List Expr} {ds : List PyData} (h : PA X es (tLits ds)) (hz : Nat.ble ds.length 1000 = true := by rfl) : PE X (.List es pos) (tLit (.list ds)) :=
  pe_imp (pe_lst h) fun σ H Q q vs H1 s1 l1 h1 => ⟨by rw [l1]; exact sz1 hz, fun p np => q (.ref p) _ (s1.trans (same_upd np)) fun D B nD nB =>
    .lst (fun z => Same.some s1 nD (by rw [← z]; exact np)) (fun z => Same.some s1 nB (by rw [← z]; exact np)) upd_same ((h1 D B nD nB).same (same_upd np))⟩
theorem lit_dct : PE X (.Dict [] [] pos) (tLit (.dict [])) := pe_imp pe_dnewK fun σ H Q q p np => q (.ref p) _ (same_upd np) fun _ _ _ _ => .dct upd_same
/-- a list display of written data, as a list -/
theorem lit_list {es : List Expr} {ds : List PyData} (h : PA X es (tLits ds)) (hz : Nat.ble ds.length 1000 = true := by rfl) :
    PE X (.List es pos) (fun σ H Q => ∀ p vs H', Same H H' → H p = none → H' p = some (.lst vs) → vs.length = ds.length → (∀ D B, H D ≠ none → H B ≠ none → DqAll D B H' vs ds) → Q (.ref p) H') :=
  pe_imp (pe_lst h) fun σ H Q q vs H1 s1 l1 h1 => ⟨by rw [l1]; exact sz1 hz, fun p np => q p vs _ (s1.trans (same_upd np)) (s1.free np) upd_same l1 fun D B nD nB => (h1 D B nD nB).same (same_upd np)⟩
end
def S (x : String) : Str := Str.ofString x
def odd1 : List PyData := [.none, .bool true, .bool false, .int 0, .int 1, .int 2, .int (-1), .int (10 ^ (30 : Int).toNat), .str (S ""), .str (S "0"), .str (S "in"), .tuple [], .list [], .dict [], .tuple [.int 0], .tuple [.int 1], .tuple [.int 0, .int 1], .tuple [.bool true, .int 0], .list [.int 0]]
def odd2 : List PyData := [.tuple [.str (S "in"), .int 0], .tuple [.str (S "set"), .int 1], .tuple [.str (S "neg"), .int 0], .tuple [.str (S "+"), .int 0, .int 0], .tuple [.str (S "*"), .int 0], .tuple [.str (S "in"), .bool true], .tuple [.str (S "+"), .int 0, .int (-1)], .tuple [.str (S "/"), .int 0, .int 0]]
def odd3 : List PyData := [.tuple [.none], .tuple [.int (-1)], .tuple [.int 1, .tuple [.tuple [.str (S "in"), .int 0]], .tuple [.int 0]], .tuple [.int 0, .tuple [], .tuple []], .tuple [.tuple [.int 0], .int 1], .tuple [.str (S "in")], .int 64, .int 65]
def oddD : List PyData := (odd1 ++ odd2) ++ odd3
abbrev sOdd : Stmt := topS 16
theorem scOdd : FnScope ["_law_deck_here", "_law_some"] ["_law_deck_here"] (defScope sOdd) := ⟨rfl, rfl, rfl, by decide +kernel, rfl, by decide +kernel, by decide +kernel⟩
theorem DeckAt.nD {D B C : Addr} {cells : List Int} {H : Hp} (d : DeckAt D B C cells H) : H D ≠ none := by
  obtain ⟨xs, h⟩ := d.isD
  rw [h]
  exact fun z => nomatch z
theorem DeckAt.nB {D B C : Addr} {cells : List Int} {H : Hp} (d : DeckAt D B C cells H) : H B ≠ none := by
  obtain ⟨xs, h⟩ := d.isB
  rw [h]
  exact fun z => nomatch z
theorem DeckAt.neD {D B C : Addr} {cells : List Int} {H : Hp} (d : DeckAt D B C cells H) {p : Addr} (h : H p = none) : p ≠ D := fun z => d.nD (by rw [← z]; exact h)
theorem DeckAt.neB {D B C : Addr} {cells : List Int} {H : Hp} (d : DeckAt D B C cells H) {p : Addr} (h : H p = none) : p ≠ B := fun z => d.nB (by rw [← z]; exact h)
mutual
/-- what lies at neither D nor B stays, said of any two others -/
theorem Dq.two {D B Z Y : Addr} {H H' : Hp} (hD : ∃ xs, H D = some (.lst xs)) (hB : ∃ xs, H B = some (.lst xs)) (f : Fr D B H H') : ∀ (d : PyData) (v : V), Dq D B H v d → Dq Z Y H v d → Dq Z Y H' v d
  | .none, _, _, h => by
    cases h
    exact .non
  | .bool _, _, _, h => by
    cases h
    exact .bl _
  | .int _, _, _, h => by
    cases h
    exact .int _
  | .str _, _, _, h => by
    cases h
    exact .str _
  | .list ds, _, k, h => by
    cases k with
    | lst k1 k2 k3 k4 =>
      cases h with
      | lst h1 h2 h3 h4 =>
        rw [k3] at h3
        cases h3
        exact .lst h1 h2 (f _ _ k1 k2 k3) (DqAll.two hD hB f ds _ k4 h4)
  | .tuple ds, _, k, h => by
    obtain ⟨xD, eD⟩ := hD
    obtain ⟨xB, eB⟩ := hB
    cases k with
    | tup k3 k4 =>
      cases h with
      | tup h3 h4 =>
        rw [k3] at h3
        cases h3
        refine .tup (f _ _ (fun z => ?_) (fun z => ?_) k3) (DqAll.two ⟨xD, eD⟩ ⟨xB, eB⟩ f ds _ k4 h4)
        · rw [z, eD] at k3
          cases k3
        · rw [z, eB] at k3
          cases k3
  | .dict ds, _, k, h => by
    obtain ⟨xD, eD⟩ := hD
    obtain ⟨xB, eB⟩ := hB
    cases h with
    | dct h3 =>
      refine .dct (f _ _ (fun z => ?_) (fun z => ?_) h3)
      · rw [z, eD] at h3
        cases h3
      · rw [z, eB] at h3
        cases h3
theorem DqAll.two {D B Z Y : Addr} {H H' : Hp} (hD : ∃ xs, H D = some (.lst xs)) (hB : ∃ xs, H B = some (.lst xs)) (f : Fr D B H H') : ∀ (ds : List PyData) (vs : List V), DqAll D B H vs ds → DqAll Z Y H vs ds → DqAll Z Y H' vs ds
  | [], _, _, h => by
    cases h
    exact .nil
  | d :: ds, _, k, h => by
    cases k with
    | cons k1 k2 =>
      cases h with
      | cons h1 h2 => exact .cons (Dq.two hD hB f d _ k1 h1) (DqAll.two hD hB f ds _ k2 h2)
end
theorem DeckAt.two {D B C Z Y : Addr} {cells : List Int} {H H' : Hp} {v : V} {d : PyData} (k : DeckAt D B C cells H) (f : Fr D B H H') (h : Dq D B H v d) (z : Dq Z Y H v d) : Dq Z Y H' v d := Dq.two k.isD k.isB f d v h z
theorem DeckAt.alive {D B C Z : Addr} {cells : List Int} {H H' : Hp} (k : DeckAt D B C cells H') (f : Fr D B H H') (h : H Z ≠ none) : H' Z ≠ none := by
  by_cases hD : Z = D
  · rw [hD]
    exact k.nD
  · by_cases hB : Z = B
    · rw [hB]
      exact k.nB
    · cases e : H Z with
      | none => exact absurd e h
      | some o =>
        rw [f Z o hD hB e]
        exact fun z => nomatch z
def spOdd : Sp := fun vs H Q _ => ∃ (D B C : Addr) (cells : List Int), vs = [.ref D] ∧ DeckAt D B C cells H ∧ ∀ (v : V) (d : PyData) (H' : Hp), d ∈ oddD → Dq D B H' v d → (∀ Z, H Z ≠ none → Dq Z Z H' v d) → DeckAt D B C cells H' → Fr D B H H' → Q v H'
section
variable {P : Program} {w : World} {K : PySem.W.Frag} {mg : Str → Option Value} {base : Heap}
theorem ok_odd {f fO fD : Addr} {fd fdO fdD : FuncData} (F : Fun K "_law_odd" "_law_odd" sOdd f fd) (FO : Fun K "_law_one" "_law_one" sOne fO fdO) (bO : Binds K fdO ["_law_deck_here", "_law_items"] []) (gO : mg "_law_one" = some (.ref fO))
    (FD : Fun K "_law_draw" "_law_draw" sDraw fD fdD) (bD : Binds K fdD ["_law_deck_here", "_law_many"] []) (gD : mg "_law_draw" = some (.ref fD)) (T : Bn mg) : FnOk P w K mg base CX0 3 f fd ["_law_deck_here"] spOdd := by
  have GO : FnOk P w K mg base CX0 2 fO fdO ["_law_deck_here", "_law_items"] spOne := ok_one FO FD bD gD T.int T.len
  refine F.ok scOdd (fun vs H Q E h => ?_) (fun cdv A outer s H vs Q E hr h => ?_)
  · obtain ⟨D, B, C, cells, rfl, _⟩ := h
    rfl
  · obtain ⟨D, B, C, cells, rfl, dk, q⟩ := h
    refine ⟨_, pss_cons (ps_set (i := 1) scOdd.nd rfl (.inl rfl) (lit_list (ds := odd1) (lits_cons lit_non (lits_cons lit_bl (lits_cons lit_bl (lits_cons lit_int (lits_cons lit_int (lits_cons lit_int (lits_cons lit_neg (lits_cons (lit_pow ⟨by decide, by decide, by decide⟩)
        (lits_cons lit_str (lits_cons lit_str (lits_cons lit_str (lits_cons (lit_tup lits_nil) (lits_cons (lit_lst lits_nil) (lits_cons lit_dct (lits_cons (lit_tup (lits_cons lit_int lits_nil)) (lits_cons (lit_tup (lits_cons lit_int lits_nil))
        (lits_cons (lit_tup (lits_cons lit_int (lits_cons lit_int lits_nil))) (lits_cons (lit_tup (lits_cons lit_bl (lits_cons lit_int lits_nil))) (lits_cons (lit_lst (lits_cons lit_int lits_nil)) lits_nil)))))))))))))))))))))
      (pss_cons (ps_set (i := 1) scOdd.nd rfl (.inl rfl) (pe_op op_cat (pv 1) (lit_list (ds := odd2) (lits_cons (lit_tup (lits_cons lit_str (lits_cons lit_int lits_nil))) (lits_cons (lit_tup (lits_cons lit_str (lits_cons lit_int lits_nil))) (lits_cons (lit_tup (lits_cons lit_str (lits_cons lit_int lits_nil)))
        (lits_cons (lit_tup (lits_cons lit_str (lits_cons lit_int (lits_cons lit_int lits_nil)))) (lits_cons (lit_tup (lits_cons lit_str (lits_cons lit_int lits_nil))) (lits_cons (lit_tup (lits_cons lit_str (lits_cons lit_bl lits_nil)))
        (lits_cons (lit_tup (lits_cons lit_str (lits_cons lit_int (lits_cons lit_neg lits_nil)))) (lits_cons (lit_tup (lits_cons lit_str (lits_cons lit_int (lits_cons lit_int lits_nil)))) lits_nil)))))))))))
      (pss_one (ps_ret (pe_call GO hr (by rfl) gO FO.kp bO .nil pass0 (pa_cons (pv 0) (pa_cons (pe_op op_cat (pv 1) (lit_list (ds := odd3) (lits_cons (lit_tup (lits_cons lit_non lits_nil)) (lits_cons (lit_tup (lits_cons lit_neg lits_nil))
        (lits_cons (lit_tup (lits_cons lit_int (lits_cons (lit_tup (lits_cons (lit_tup (lits_cons lit_str (lits_cons lit_int lits_nil))) lits_nil)) (lits_cons (lit_tup (lits_cons lit_int lits_nil)) lits_nil))))
        (lits_cons (lit_tup (lits_cons lit_int (lits_cons (lit_tup lits_nil) (lits_cons (lit_tup lits_nil) lits_nil)))) (lits_cons (lit_tup (lits_cons (lit_tup (lits_cons lit_int lits_nil)) (lits_cons lit_int lits_nil)))
        (lits_cons (lit_tup (lits_cons lit_str lits_nil)) (lits_cons lit_int (lits_cons lit_int lits_nil)))))))))) pa_nil)))))), ?_⟩
    intro p1 v1 H1 s1 n1 e1 l1 a1
    have A1 := a1 D B dk.nD dk.nB
    have dk1 := dk.same s1
    refine ⟨_, rfl, fun p2 v2 H2 s2 n2 e2 l2 a2 => ⟨p1, p2, v1, v2, rfl, rfl, s2 _ _ e1, e2, by rw [l1, l2]; exact sz1 (l := odd1 ++ odd2) rfl, fun p3 n3 => ?_⟩⟩
    have A2 := a2 D B dk1.nD dk1.nB
    have s3 := same_upd (o := .lst (v1 ++ v2)) n3
    have dk3 := (dk1.same s2).same s3
    refine ⟨_, rfl, _, rfl, fun p4 v4 H4 s4 n4 e4 l4 a4 => ⟨p3, p4, v1 ++ v2, v4, rfl, rfl, s4 _ _ upd_same, e4, by rw [List.length_append, l1, l2, l4]; exact sz1 (l := oddD) rfl, fun p5 n5 => ?_⟩⟩
    have A4 := a4 D B dk3.nD dk3.nB
    have s5 := same_upd (o := .lst ((v1 ++ v2) ++ v4)) n5
    have dk5 := (dk3.same s4).same s5
    have A5 : DqAll D B _ ((v1 ++ v2) ++ v4) oddD := DqAll.append (A4.same s5) (DqAll.append (((A2.same s3).same s4).same s5) ((((A1.same s2).same s3).same s4).same s5))
    have hl5 : ((v1 ++ v2) ++ v4).length = 35 := by rw [A5.len]; rfl
    refine ⟨D, B, C, cells, p5, _, rfl, dk5, upd_same, (dk3.same s4).neD n5, (dk3.same s4).neB n5, by rw [hl5]; decide, by rw [hl5]; decide, fun i v H' hv dk' f' => ?_⟩
    obtain ⟨d, hd, hq⟩ := A5.at_ i v hv
    refine q v d H' (List.mem_of_getElem? hd) (dk5.data f' hq) (fun Z nZ => ?_) dk' ((Fr.of_same (s1.trans (s2.trans (s3.trans (s4.trans s5))))).trans f')
    have z1 := Same.some s1 nZ
    have z3 := Same.some s3 (Same.some s2 z1)
    have A5Z : DqAll Z Z _ ((v1 ++ v2) ++ v4) oddD := DqAll.append ((a4 Z Z z3 z3).same s5) (DqAll.append ((((a2 Z Z z1 z1).same s3).same s4).same s5) (((((a1 Z Z nZ nZ).same s2).same s3).same s4).same s5))
    obtain ⟨d2, hd2, hq2⟩ := A5Z.at_ i v hv
    rw [hd] at hd2
    cases hd2
    exact dk5.two f' hq hq2
end
end Jg
namespace Jg
open PySem PySem.Spec PyProof.Rows L2
/-! ### great numbers drawn, boxes drawn -/
abbrev sFar : Stmt := topS 15
abbrev sNum : Stmt := topS 19
abbrev sMkBox : Stmt := topS 20
theorem scFar : FnScope ["_law_deck_here", "_law_many", "_law_found", "_law_turn"] ["_law_deck_here", "_law_many"] (defScope sFar) := ⟨rfl, rfl, rfl, by decide +kernel, rfl, by decide +kernel, by decide +kernel⟩
theorem scNum : FnScope ["_law_deck_here", "_law_most"] ["_law_deck_here"] (defScope sNum) := ⟨rfl, rfl, rfl, by decide +kernel, rfl, by decide +kernel, by decide +kernel⟩
theorem scMkBox : FnScope ["_law_deck_here", "_law_inputs", "_law_wide", "_law_found", "_law_k", "_law_low"] ["_law_deck_here", "_law_inputs", "_law_wide"] (defScope sMkBox) := ⟨rfl, rfl, rfl, by decide +kernel, rfl, by decide +kernel, by decide +kernel⟩
/-- the defs that draw -/
structure Dr (K : PySem.W.Frag) (mg : Str → Option Value) (fD : Addr) (fdD : FuncData) : Prop where
  F : Fun K "_law_draw" "_law_draw" sDraw fD fdD
  b : Binds K fdD ["_law_deck_here", "_law_many"] []
  g : mg "_law_draw" = some (.ref fD)
structure On (K : PySem.W.Frag) (mg : Str → Option Value) (fO : Addr) (fdO : FuncData) : Prop where
  F : Fun K "_law_one" "_law_one" sOne fO fdO
  b : Binds K fdO ["_law_deck_here", "_law_items"] []
  g : mg "_law_one" = some (.ref fO)
structure Fa (K : PySem.W.Frag) (mg : Str → Option Value) (f : Addr) (fd : FuncData) : Prop where
  F : Fun K "_law_far" "_law_far" sFar f fd
  b : Binds K fd ["_law_deck_here", "_law_many"] []
  g : mg "_law_far" = some (.ref f)
structure Nu (K : PySem.W.Frag) (mg : Str → Option Value) (f : Addr) (fd : FuncData) : Prop where
  F : Fun K "_law_number" "_law_number" sNum f fd
  b : Binds K fd ["_law_deck_here"] []
  g : mg "_law_number" = some (.ref f)
def spFar : Sp := fun vs H Q _ => ∃ (D B C : Addr) (cells : List Int) (m : Int), vs = [.ref D, .int m] ∧ DeckAt D B C cells H ∧ 0 < m ∧
  ∀ (i : Int) (H' : Hp), 0 ≤ i → i < m → DeckAt D B C cells H' → Fr D B H H' → Q (.int i) H'
def spNum : Sp := fun vs H Q _ => ∃ (D B C : Addr) (cells : List Int), vs = [.ref D] ∧ DeckAt D B C cells H ∧
  ∀ (i : Int) (H' : Hp), -M20 ≤ i → i ≤ M20 → DeckAt D B C cells H' → Fr D B H H' → Q (.int i) H'
def spMkBox : Sp := fun vs H Q _ => ∃ (D B C : Addr) (cells : List Int) (n : Nat) (m : Int), vs = [.ref D, .int (n : Int), .int m] ∧ DeckAt D B C cells H ∧ n ≤ 8 ∧ 0 ≤ m ∧ m ≤ 1000 ∧
  ∀ (a : Addr) (ps : List (Int × Int)) (H' : Hp), ps.length = n → Good ps → Dq D B H' (.ref a) (boxD ps) → DeckAt D B C cells H' → Fr D B H H' → Q (.ref a) H'
section
variable {P : Program} {w : World} {K : PySem.W.Frag} {mg : Str → Option Value} {base : Heap}
theorem ok_far {f fD : Addr} {fd fdD : FuncData} (F : Fa K mg f fd) (FD : Dr K mg fD fdD) (T : Bn mg) : FnOk P w K mg base CX0 2 f fd ["_law_deck_here", "_law_many"] spFar := by
  have GD : FnOk P w K mg base CX0 1 fD fdD ["_law_deck_here", "_law_many"] spDraw := ok_draw FD.F T.int T.len
  refine F.F.ok scFar (fun vs H Q E h => ?_) (fun cdv A outer s H vs Q E hr h => ?_)
  · obtain ⟨D, B, C, cells, m, rfl, _⟩ := h
    rfl
  · obtain ⟨D, B, C, cells, m, rfl, dk, hm, q⟩ := h
    refine ⟨_, pss_cons (ps_set (i := 2) scFar.nd rfl (.inl rfl) pe_int)
      (pss_cons (ps_for PassesOwn.never rfl (pi_range1 rfl T.rng (pa_cons pe_int pa_nil)) (pg_name (i := 3) scFar.nd rfl (.inl rfl))
        (pss_one (ps_set (i := 2) scFar.nd rfl (.inl rfl) (pe_op op_add (pe_op op_mul (pv 2) pe_int) (pe_call GD hr (by rfl) FD.g FD.F.kp FD.b .nil pass0 (pa_cons (pv 0) (pa_cons pe_int pa_nil)))))))
      (pss_one (ps_ret (pe_op op_mod (pe_callTy call_int1 (by rfl) T.int PyProof.Rows.boot_int (pa_cons (pv 2) pa_nil)) (pv 1))))), ?_⟩
    refine ⟨12, rfl, by decide, by decide, for_range (n := 12) (fun i σ H3 => ∃ (y : Int) (y3 : Option V), σ = [some (.ref D), some (.int m), some (.int y), y3] ∧ DeckAt D B C cells H3 ∧ Fr D B H H3) ⟨0, none, rfl, dk, Fr.refl D B H⟩ ?_ ?_⟩
    · rintro i σ H3 hi ⟨y, y3, rfl, dk3, f3⟩
      refine ⟨_, rfl, _, _, rfl, rfl, .inr ⟨by decide, by decide⟩, _, rfl, D, B, C, cells, 1000, rfl, dk3, by decide, by decide, fun j H4 j0 j1 dk4 f4 => ⟨_, _, rfl, rfl, _, _, rfl, dk4, f3.trans f4⟩⟩
    · rintro σ H3 ⟨y, y3, rfl, dk3, f3⟩
      exact ⟨_, rfl, .inl ⟨y, rfl, _, rfl, _, _, rfl, rfl, hm, q _ _ (Int.emod_nonneg _ (by omega)) (Int.emod_lt_of_pos _ hm) dk3 f3⟩⟩
theorem ok_num {f fO fD fF : Addr} {fd fdO fdD fdF : FuncData} (F : Nu K mg f fd) (FF : Fa K mg fF fdF) (FO : On K mg fO fdO) (FD : Dr K mg fD fdD) (T : Bn mg) : FnOk P w K mg base CX0 3 f fd ["_law_deck_here"] spNum := by
  have GO : FnOk P w K mg base CX0 2 fO fdO ["_law_deck_here", "_law_items"] spOne := ok_one FO.F FD.F FD.b FD.g T.int T.len
  have GF : FnOk P w K mg base CX0 2 fF fdF ["_law_deck_here", "_law_many"] spFar := ok_far FF FD T
  refine F.F.ok scNum (fun vs H Q E h => ?_) (fun cdv A outer s H vs Q E hr h => ?_)
  · obtain ⟨D, B, C, cells, rfl, _⟩ := h
    rfl
  · obtain ⟨D, B, C, cells, rfl, dk, q⟩ := h
    refine ⟨_, pss_cons (ps_set (i := 1) scNum.nd rfl (.inl rfl) (pe_call GO hr (by rfl) FO.g FO.F.kp FO.b .nil pass0 (pa_cons (pv 0) (pa_cons (pe_lst (pa_cons pe_int (pa_cons pe_int (pa_cons pe_int (pa_cons (pe_op op_pow pe_int pe_int) (pa_cons (pe_op op_pow pe_int pe_int) pa_nil)))))) pa_nil))))
      (pss_one (ps_ret (pe_op op_mul (pe_call GO hr (by rfl) FO.g FO.F.kp FO.b .nil pass0 (pa_cons (pv 0) (pa_cons (pe_lst (pa_cons pe_int (pa_cons (pe_un un_neg pe_int) pa_nil))) pa_nil)))
        (pe_call GF hr (by rfl) FF.g FF.F.kp FF.b .nil pass0 (pa_cons (pv 0) (pa_cons (pe_op op_add (pv 1) pe_int) pa_nil)))))), ?_⟩
    refine ⟨_, rfl, _, _, rfl, rfl, ⟨by decide, by decide, by decide⟩, _, _, rfl, rfl, ⟨by decide, by decide, by decide⟩, sz1 rfl, fun p1 n1 => ?_⟩
    have s1 := same_upd (o := .lst [.int 3, .int 10, .int 1000, .int (10 ^ (9 : Int).toNat), .int (10 ^ (20 : Int).toNat)]) n1
    refine ⟨D, B, C, cells, p1, _, rfl, dk.same s1, upd_same, dk.neD n1, dk.neB n1, by show 0 < 5; decide, by show 5 < 1073741824; decide, fun i v H2 hv dk2 f2 => ?_⟩
    obtain ⟨m, rfl, m0, m1⟩ : ∃ m : Int, v = .int m ∧ 0 ≤ m ∧ m ≤ M20 := by
      match i, hv with
      | 0, hv => exact ⟨3, (Option.some.inj hv).symm, by decide, by decide⟩
      | 1, hv => exact ⟨10, (Option.some.inj hv).symm, by decide, by decide⟩
      | 2, hv => exact ⟨1000, (Option.some.inj hv).symm, by decide, by decide⟩
      | 3, hv => exact ⟨_, (Option.some.inj hv).symm, by decide, by decide⟩
      | 4, hv => exact ⟨_, (Option.some.inj hv).symm, by decide, by decide⟩
      | n + 5, hv => cases hv
    refine ⟨_, rfl, _, rfl, sz1 rfl, fun p3 n3 => ?_⟩
    have s3 := same_upd (o := .lst [.int 1, .int (-1)]) n3
    refine ⟨D, B, C, cells, p3, _, rfl, dk2.same s3, upd_same, dk2.neD n3, dk2.neB n3, by show 0 < 2; decide, by show 2 < 1073741824; decide, fun i4 v4 H4 hv4 dk4 f4 => ?_⟩
    refine ⟨_, rfl, _, rfl, _, _, rfl, rfl, D, B, C, cells, m + 1, rfl, dk4, by omega, fun j H5 j0 j1 dk5 f5 => ?_⟩
    have fAll : Fr D B H H5 := ((Fr.of_same s1).trans f2).trans (((Fr.of_same s3).trans f4).trans f5)
    match i4, hv4 with
    | 0, hv4 =>
      have e : v4 = .int 1 := (Option.some.inj hv4).symm
      subst e
      refine ⟨1, j, rfl, rfl, .inl ⟨by decide, by decide⟩, q (1 * j) H5 ?_ ?_ dk5 fAll⟩
      · have e : (M20 : Int) = 100000000000000000000 := by decide
        omega
      · omega
    | 1, hv4 =>
      have e : v4 = .int (-1) := (Option.some.inj hv4).symm
      subst e
      refine ⟨-1, j, rfl, rfl, .inl ⟨by decide, by decide⟩, q (-1 * j) H5 ?_ ?_ dk5 fAll⟩
      · omega
      · have e : (M20 : Int) = 100000000000000000000 := by decide
        omega
    | n + 2, hv4 => cases hv4
end
end Jg
namespace Jg
open PySem PySem.Spec PyProof.Rows L2
theorem boot_min' : bootBuiltins "min" = some (.builtin "min") := by decide +kernel
theorem Good.snoc {ps : List (Int × Int)} (g : Good ps) {p : Int × Int} (hl : ps.length < 8) (h1 : -M20 ≤ p.1) (h2 : p.1 ≤ p.2) (h3 : p.2 ≤ M20) : Good (ps ++ [p]) := by
  have key : ∀ {R : Int × Int → Prop}, (∀ q ∈ ps, R q) → R p → ∀ q ∈ ps ++ [p], R q := fun {R} h hp q hq => by
    rcases List.mem_append.mp hq with hq | hq
    · exact h q hq
    · rw [List.mem_singleton.mp hq]
      exact hp
  refine ⟨?_, key g.lo h1, key g.le h2, key g.hi h3⟩
  rw [List.length_append]
  show ps.length + 1 ≤ 8
  omega
theorem Good.nil : Good [] := ⟨by decide, (fun _ h => nomatch h), (fun _ h => nomatch h), (fun _ h => nomatch h)⟩
/-- pairs stay where only a list is changed -/
theorem pairs_keep {D B L : Addr} {H H' : Hp} {ys : List V} (eL : H L = some (.lst ys)) (f : ∀ b o, b ≠ L → H b = some o → H' b = some o) : ∀ {xs : List V} {ps : List (Int × Int)}, DqAll D B H xs (ps.map pairD) → DqAll D B H' xs (ps.map pairD)
  | _, [], h => by
    cases h
    exact .nil
  | _, p :: ps, h => by
    cases h with
    | cons h1 h2 =>
      obtain ⟨a, rfl, e⟩ := h1.pairE
      exact .cons (.tup (f _ _ (fun z => by rw [z, eL] at e; cases e) e) (.cons (.int _) (.cons (.int _) .nil))) (pairs_keep eL f h2)
theorem DeckAt.but {D B C L : Addr} {cells : List Int} {H H' : Hp} (d : DeckAt D B C cells H) (f : ∀ b o, b ≠ L → H b = some o → H' b = some o) (hD : D ≠ L) (hB : B ≠ L) (hC : C ≠ L) : DeckAt D B C cells H' := by
  obtain ⟨n, hn⟩ := d.top
  obtain ⟨bs, hl, hb⟩ := d.big
  exact ⟨d.db, d.dc, d.bc, d.ne, d.len, ⟨n, f _ _ hD hn⟩, ⟨bs, hl, f _ _ hB hb⟩, f _ _ hC d.cel⟩
section
variable {P : Program} {w : World} {K : PySem.W.Frag} {mg : Str → Option Value} {base : Heap}
theorem ok_mkbox {f fO fD fF fN : Addr} {fd fdO fdD fdF fdN : FuncData} (F : Fun K "_law_box" "_law_box" sMkBox f fd) (FN : Nu K mg fN fdN) (FF : Fa K mg fF fdF) (FO : On K mg fO fdO) (FD : Dr K mg fD fdD) (T : Bn mg) :
    FnOk P w K mg base CX0 4 f fd ["_law_deck_here", "_law_inputs", "_law_wide"] spMkBox := by
  have GD : FnOk P w K mg base CX0 1 fD fdD ["_law_deck_here", "_law_many"] spDraw := ok_draw FD.F T.int T.len
  have GN : FnOk P w K mg base CX0 3 fN fdN ["_law_deck_here"] spNum := ok_num FN FF FO FD T
  refine F.ok scMkBox (fun vs H Q E h => ?_) (fun cdv A outer s H vs Q E hr h => ?_)
  · obtain ⟨D, B, C, cells, n, m, rfl, _⟩ := h
    rfl
  · obtain ⟨D, B, C, cells, n, m, rfl, dk, hn, m0, m1, q⟩ := h
    have hr1 : Room 1 _ := hr.mono (by decide)
    refine ⟨_, pss_cons (ps_set (i := 3) scMkBox.nd rfl (.inl rfl) (pe_lst pa_nil))
      (pss_cons (ps_for PassesOwn.never rfl (pi_range1 rfl T.rng (pa_cons (pv 1) pa_nil)) (pg_name (i := 4) scMkBox.nd rfl (.inl rfl))
        (pss_cons (ps_set (i := 5) scMkBox.nd rfl (.inl rfl) (pe_ifExp (pt_cmpR op_gt (pe_call GD hr1 (by rfl) FD.g FD.F.kp FD.b .nil pass0 (pa_cons (pv 0) (pa_cons pe_int pa_nil))) pe_int (nomark _))
          (pe_op op_sub (pe_call GD hr1 (by rfl) FD.g FD.F.kp FD.b .nil pass0 (pa_cons (pv 0) (pa_cons pe_int pa_nil))) pe_int) (pe_call GN hr (by rfl) FN.g FN.F.kp FN.b .nil pass0 (pa_cons (pv 0) pa_nil))))
        (pss_cons (ps_set (i := 5) scMkBox.nd rfl (.inl rfl) (pe_callB (call_min2 rfl) (by rfl) T.min boot_min' (pa_cons (pv 5) (pa_cons (pe_op op_sub (pe_op op_pow pe_int pe_int) (pv 2)) pa_nil))))
        (pss_one (ps_expr (pe_bm PySem.F.plainAttrs_list PySem.F.slot_list_append PySem.F.type_list_append mt_append (pv 3) (pa_cons (pe_tup (pa_cons (pv 5) (pa_cons (pe_op op_add (pv 5) (pe_call GD hr1 (by rfl) FD.g FD.F.kp FD.b .nil pass0 (pa_cons (pv 0) (pa_cons (pe_op op_add (pv 2) pe_int) pa_nil)))) pa_nil))) pa_nil)))))))
      (pss_one (ps_ret (pe_callTy call_tuple_of (by rfl) T.tup boot_tuple' (pa_cons (pv 3) pa_nil))))), ?_⟩
    refine ⟨Nat.zero_le _, fun L nL => ?_⟩
    have nLD := dk.neD nL
    have nLB := dk.neB nL
    refine ⟨_, rfl, n, rfl, by omega, by omega, for_range (n := n) (fun i σ H3 => ∃ (xs : List V) (ps : List (Int × Int)) (y4 y5 : Option V), σ = [some (.ref D), some (.int (n : Int)), some (.int m), some (.ref L), y4, y5] ∧ H3 L = some (.lst xs) ∧ DqAll D B H3 xs (ps.map pairD) ∧ ps.length = i ∧ Good ps ∧ DeckAt D B C cells H3 ∧ Fr D B H H3)
      ⟨[], [], none, none, rfl, upd_same, .nil, rfl, Good.nil, dk.same (same_upd nL), Fr.of_same (same_upd nL)⟩ ?_ ?_⟩
    · rintro i σ H3 hi ⟨xs, ps, y4, y5, rfl, eL, hx, hl, g, dk3, f3⟩
      have eM : (M20 : Int) = 100000000000000000000 := by decide
      refine ⟨_, rfl, D, B, C, cells, 4, rfl, dk3, by decide, by decide, fun j H4 j0 j1 dk4 f4 => ⟨_, _, rfl, rfl, _, rfl, ite2 (fun _ => ⟨_, rfl, D, B, C, cells, 9, rfl, dk4, by decide, by decide, fun l0 H5 l1 l2 dk5 f5 => ⟨_, _, rfl, rfl, ?_⟩⟩) (fun _ => ⟨_, rfl, D, B, C, cells, rfl, dk4, fun lo H5 hlo l2 dk5 f5 => ?_⟩)⟩⟩
      (obtain ⟨lo, elo⟩ : ∃ lo, lo = l0 - 4 := ⟨_, rfl⟩); (have hlo : -M20 ≤ lo := by omega); (show gName 5 (.int (l0 - 4)) _ _ _); rw [← elo]
      all_goals
        have f35 := f4.trans f5
        have eL5 := f35 _ _ nLD nLB eL
        have hx5 := dk3.dataAll f35 hx
        refine ⟨_, rfl, _, _, rfl, rfl, ⟨by decide, by decide, by decide⟩, _, rfl, _, _, rfl, rfl, lo, M20 - m, rfl, ?_⟩
        obtain ⟨lw, elw, w0, w1⟩ : ∃ lw, lw = (if M20 - m < lo then M20 - m else lo) ∧ -M20 ≤ lw ∧ lw ≤ M20 - m := by
          refine ⟨_, rfl, ?_, ?_⟩ <;> split <;> omega
        show gName 5 (.int (if M20 - m < lo then M20 - m else lo)) _ _ _
        rw [← elw]
        refine ⟨_, rfl, .inl ⟨rfl, _, SqL.of eL5⟩, _, rfl, _, rfl, _, rfl, _, rfl, _, _, rfl, rfl, D, B, C, cells, m + 1, rfl, dk5, by omega, by omega, fun u H6 u0 u1 dk6 f6 => ⟨_, _, rfl, rfl, sz1 rfl, fun t nt => ?_⟩⟩
        have s7 := same_upd (o := .tup [.int lw, .int (lw + u)]) nt
        have eL7 := s7 _ _ (f6 _ _ nLD nLB eL5)
        have hx7 := (dk5.dataAll f6 hx5).same s7
        have dk7 := dk6.same s7
        have f7 := (f3.trans f35).trans (f6.trans (Fr.of_same s7))
        refine ⟨L, xs, _, rfl, rfl, eL7, ?_, ?_⟩
        · rw [hx.len, List.length_map]
          exact small1000 (by omega)
        have neD : D ≠ L := nLD.symm
        have neB : B ≠ L := nLB.symm
        have f8 : Fr D B H (upd (upd H6 t (.tup [.int lw, .int (lw + u)])) L (.lst (xs ++ [.ref t]))) := fun b o h1 h2 h => by
          rw [upd_ne (ne_of_none h nL)]
          exact f7 b o h1 h2 h
        have fL : ∀ b o, b ≠ L → (upd H6 t (.tup [.int lw, .int (lw + u)])) b = some o → (upd (upd H6 t (.tup [.int lw, .int (lw + u)])) L (.lst (xs ++ [.ref t]))) b = some o := fun b o hb h => by
          rw [upd_ne hb]
          exact h
        refine ⟨xs ++ [.ref t], ps ++ [(lw, lw + u)], _, _, rfl, upd_same, ?_, ?_, ?_, dk7.but fL neD neB (ne_of_none dk.cel nL), f8⟩
        · have nt7 : t ≠ L := fun z => by
            rw [z, f6 _ _ nLD nLB eL5] at nt
            cases nt
          rw [List.map_append]
          exact DqAll.append (.cons (.tup (fL _ _ nt7 upd_same) (.cons (.int _) (.cons (.int _) .nil))) .nil) (pairs_keep eL7 fL hx7)
        · rw [List.length_append, hl]
          rfl
        · exact g.snoc (by omega) (by show -M20 ≤ lw; omega) (by show lw ≤ lw + u; omega) (by show lw + u ≤ M20; omega)
    · rintro σ H3 ⟨xs, ps, y4, y5, rfl, eL, hx, hl, g, dk3, f3⟩
      refine ⟨_, rfl, L, xs, rfl, .inl ⟨SqL.of eL, fun a na => ?_⟩⟩
      have s4 := same_upd (o := .tup xs) na
      exact q a ps _ hl g (.tup upd_same (hx.same s4)) (dk3.same s4) (f3.trans (Fr.of_same s4))
end
end Jg
namespace Jg
open PySem PySem.Spec PyProof.Rows L2
/-! ### how long what is shown may be -/
structure Ok (k c : Nat) (d : PyData) : Prop where
  sh : d.showable = true
  dp : d.depth ≤ k
  ln : d.shown.length ≤ c
theorem Ok.mono {k c k' c' : Nat} {d : PyData} (h : Ok k c d) (hk : k ≤ k') (hc : c ≤ c') : Ok k' c' d := ⟨h.sh, Nat.le_trans h.dp hk, Nat.le_trans h.ln hc⟩
theorem ok_all {k c : Nat} : ∀ {ds : List PyData}, (∀ d ∈ ds, Ok k c d) → PyData.showableAll ds = true ∧ PyData.depthAll ds ≤ k ∧ ((PyData.shownAll ds).map (·.length)).sum ≤ c * ds.length ∧ (PyData.shownAll ds).length = ds.length
  | [], _ => by simp [PyData.showableAll, PyData.depthAll, PyData.shownAll]
  | d :: ds, h => by
    have h1 := h d List.mem_cons_self
    obtain ⟨a, b, e, f⟩ := ok_all (ds := ds) fun x hx => h x (List.mem_cons_of_mem _ hx)
    refine ⟨?_, ?_, ?_, ?_⟩
    · simp only [PyData.showableAll, h1.sh, a, Bool.and_self]
    · simp only [PyData.depthAll]
      exact Nat.max_le.mpr ⟨h1.dp, b⟩
    · simp only [PyData.shownAll, List.map_cons, List.sum_cons, List.length_cons, Nat.mul_succ]
      have := h1.ln
      omega
    · simp only [PyData.shownAll, List.length_cons, f]
theorem ok_bound {k c n : Nat} {ds : List PyData} (h : ∀ d ∈ ds, Ok k c d) (hn : ds.length ≤ n) : ((PyData.shownAll ds).map (·.length)).sum + 2 * (PyData.shownAll ds).length + 3 ≤ n * (c + 2) + 3 := by
  obtain ⟨_, _, e, f⟩ := ok_all h
  rw [f]
  have h1 : c * ds.length ≤ c * n := Nat.mul_le_mul_left c hn
  have h2 : n * (c + 2) = c * n + 2 * n := by rw [Nat.mul_add, Nat.mul_comm n c, Nat.mul_comm n 2]
  omega
theorem ok_tup {k c n : Nat} {ds : List PyData} (h : ∀ d ∈ ds, Ok k c d) (hn : ds.length ≤ n) : Ok (k + 1) (n * (c + 2) + 3) (.tuple ds) := by
  obtain ⟨a, b, _, _⟩ := ok_all h
  refine ⟨by simpa only [PyData.showable] using a, by simp only [PyData.depth]; omega, ?_⟩
  simp only [PyData.shown]
  exact Nat.le_trans (tupleText_len_le _) (ok_bound h hn)
theorem ok_lst {k c n : Nat} {ds : List PyData} (h : ∀ d ∈ ds, Ok k c d) (hn : ds.length ≤ n) : Ok (k + 1) (n * (c + 2) + 3) (.list ds) := by
  obtain ⟨a, b, _, _⟩ := ok_all h
  refine ⟨by simpa only [PyData.showable] using a, by simp only [PyData.depth]; omega, ?_⟩
  simp only [PyData.shown]
  exact Nat.le_trans (listText_len_le _) (ok_bound h hn)
theorem ok_intW {i : Int} {k : Nat} (hk : 0 < k) (hk2 : k ≤ 1920) (h : i.natAbs < 2 ^ k) : Ok 0 (k + 1) (.int i) := by
  have hl : i.natAbs.log2 < k := PySem.Flt.log2_lt_of hk h
  refine ⟨?_, Nat.le_of_eq (by simp only [PyData.depth]), ?_⟩
  · simp only [PyData.showable]
    exact decide_eq_true (by omega)
  · simp only [PyData.shown]
    rw [PySem.ofString_length]
    exact int_text_length_le hk hl
theorem ok_int25 {i : Int} (h : i.natAbs < 10 ^ 25) : Ok 0 26 (.int i) := by
  have h2 : i.natAbs < 2 ^ 90 := Nat.lt_trans h (by decide)
  refine ⟨(ok_intW (k := 90) (by decide) (by decide) h2).sh, (ok_intW (k := 90) (by decide) (by decide) h2).dp, ?_⟩
  simp only [PyData.shown]
  rw [PySem.ofString_length]
  exact int_text_length_le10 (by decide) h
theorem ok_bl (b : Bool) : Ok 0 26 (.bool b) := by
  refine ⟨by simp only [PyData.showable], Nat.le_of_eq (by simp only [PyData.depth]), ?_⟩
  simp only [PyData.shown]
  cases b <;> decide
theorem ok_non : Ok 0 26 .none := by
  refine ⟨by simp only [PyData.showable], Nat.le_of_eq (by simp only [PyData.depth]), ?_⟩
  simp only [PyData.shown]
  decide
theorem ok_str {x : Str} (h : (reprText x).length ≤ 40) : Ok 0 40 (.str x) := by
  refine ⟨by simp only [PyData.showable], Nat.le_of_eq (by simp only [PyData.depth]), ?_⟩
  simp only [PyData.shown]
  exact h
theorem ok_dct : Ok 1 26 (.dict []) := by
  refine ⟨by simp only [PyData.showable, PyData.showableKv], by simp only [PyData.depth, PyData.depthKv]; decide, ?_⟩
  simp only [PyData.shown, PyData.shownKv]
  decide
/-- what a data is made of: its length, at most -/
def lens : PyData → Nat
  | .str x => (reprText x).length | .int _ => 40 | _ => 26
theorem odd_ok : ∀ d ∈ oddD, Ok 3 1197 d := by
  have i40 : ∀ i : Int, i.natAbs < 10 ^ 31 → Ok 0 40 (.int i) := fun i h => by
    have h2 : i.natAbs < 2 ^ 120 := Nat.lt_trans h (by decide)
    refine ⟨(ok_intW (k := 120) (by decide) (by decide) h2).sh, (ok_intW (k := 120) (by decide) (by decide) h2).dp, ?_⟩
    simp only [PyData.shown]
    rw [PySem.ofString_length]
    exact Nat.le_trans (int_text_length_le10 (k := 31) (by decide) h) (by decide)
  have b40 : ∀ b, Ok 0 40 (.bool b) := fun b => (ok_bl b).mono (Nat.le_refl _) (by decide)
  have n40 : Ok 0 40 .none := ok_non.mono (Nat.le_refl _) (by decide)
  have s40 : ∀ x : Str, (reprText x).length ≤ 40 → Ok 0 40 (.str x) := fun x h => ok_str h
  have t1 : ∀ ds : List PyData, (∀ d ∈ ds, Ok 0 40 d) → ds.length ≤ 3 → Ok 1 129 (.tuple ds) := fun ds h hl => ok_tup h hl
  have l1 : ∀ ds : List PyData, (∀ d ∈ ds, Ok 0 40 d) → ds.length ≤ 3 → Ok 1 129 (.list ds) := fun ds h hl => ok_lst h hl
  have t2 : ∀ ds : List PyData, (∀ d ∈ ds, Ok 1 129 d) → ds.length ≤ 3 → Ok 2 396 (.tuple ds) := fun ds h hl => ok_tup h hl
  have t3 : ∀ ds : List PyData, (∀ d ∈ ds, Ok 2 396 d) → ds.length ≤ 3 → Ok 3 1197 (.tuple ds) := fun ds h hl => ok_tup h hl
  have m1 : ∀ {d : PyData}, Ok 0 40 d → Ok 1 129 d := fun h => h.mono (by decide) (by decide)
  have m2 : ∀ {d : PyData}, Ok 1 129 d → Ok 2 396 d := fun h => h.mono (by decide) (by decide)
  have fin : ∀ {d : PyData} {k c : Nat}, Ok k c d → k ≤ 3 → c ≤ 1197 → Ok 3 1197 d := fun h a b => h.mono a b
  have all0 : ∀ {k c : Nat}, ∀ d ∈ ([] : List PyData), Ok k c d := fun _ h => nomatch h
  have cons : ∀ {k c : Nat} {d : PyData} {ds : List PyData}, Ok k c d → (∀ x ∈ ds, Ok k c x) → ∀ x ∈ d :: ds, Ok k c x := fun h1 h2 x hx => by
    rcases List.mem_cons.mp hx with rfl | hx
    · exact h1
    · exact h2 x hx
  have sOk : ∀ y : String, y ∈ ["", "0", "in", "set", "neg", "+", "*", "/"] → Ok 0 40 (.str (S y)) := fun y hy => by
    refine s40 _ ?_
    revert y
    decide +kernel
  have up : ∀ {ds : List PyData} {k c : Nat}, k ≤ 3 → c ≤ 1197 → (∀ d ∈ ds, Ok k c d) → ∀ d ∈ ds, Ok 3 1197 d := fun a b h d hd => (h d hd).mono a b
  have A1 : ∀ d ∈ odd1, Ok 2 396 d := by
    unfold odd1
    refine cons (m2 (m1 n40)) (cons (m2 (m1 (b40 _))) (cons (m2 (m1 (b40 _))) (cons (m2 (m1 (i40 _ (by decide)))) (cons (m2 (m1 (i40 _ (by decide)))) (cons (m2 (m1 (i40 _ (by decide)))) (cons (m2 (m1 (i40 _ (by decide)))) (cons (m2 (m1 (i40 _ (by decide)))) ?_)))))))
    refine cons (m2 (m1 (sOk _ (by decide)))) (cons (m2 (m1 (sOk _ (by decide)))) (cons (m2 (m1 (sOk _ (by decide)))) (cons (m2 (t1 _ all0 (by decide))) (cons (m2 (l1 _ all0 (by decide))) (cons (m2 (ok_dct.mono (by decide) (by decide))) ?_)))))
    exact cons (m2 (t1 _ (cons (i40 _ (by decide)) all0) (by decide))) (cons (m2 (t1 _ (cons (i40 _ (by decide)) all0) (by decide))) (cons (m2 (t1 _ (cons (i40 _ (by decide)) (cons (i40 _ (by decide)) all0)) (by decide))) (cons (m2 (t1 _ (cons (b40 _) (cons (i40 _ (by decide)) all0)) (by decide))) (cons (m2 (l1 _ (cons (i40 _ (by decide)) all0) (by decide))) all0))))
  have A2 : ∀ d ∈ odd2, Ok 1 129 d := by
    unfold odd2
    have I : ∀ i : Int, i.natAbs < 10 ^ 31 → Ok 0 40 (.int i) := i40
    exact cons (t1 _ (cons (sOk _ (by decide)) (cons (I _ (by decide)) all0)) (by decide)) (cons (t1 _ (cons (sOk _ (by decide)) (cons (I _ (by decide)) all0)) (by decide)) (cons (t1 _ (cons (sOk _ (by decide)) (cons (I _ (by decide)) all0)) (by decide)) (cons (t1 _ (cons (sOk _ (by decide)) (cons (I _ (by decide)) (cons (I _ (by decide)) all0))) (by decide))
      (cons (t1 _ (cons (sOk _ (by decide)) (cons (I _ (by decide)) all0)) (by decide)) (cons (t1 _ (cons (sOk _ (by decide)) (cons (b40 _) all0)) (by decide)) (cons (t1 _ (cons (sOk _ (by decide)) (cons (I _ (by decide)) (cons (I _ (by decide)) all0))) (by decide)) (cons (t1 _ (cons (sOk _ (by decide)) (cons (I _ (by decide)) (cons (I _ (by decide)) all0))) (by decide)) all0)))))))
  have A3 : ∀ d ∈ odd3, Ok 3 1197 d := by
    unfold odd3
    have I : ∀ i : Int, i.natAbs < 10 ^ 31 → Ok 0 40 (.int i) := i40
    have m3 : ∀ {d : PyData}, Ok 1 129 d → Ok 3 1197 d := fun h => h.mono (by decide) (by decide)
    refine cons (m3 (t1 _ (cons n40 all0) (by decide))) (cons (m3 (t1 _ (cons (I _ (by decide)) all0) (by decide))) (cons (t3 _ (cons (m2 (m1 (I _ (by decide)))) (cons (t2 _ (cons (t1 _ (cons (sOk _ (by decide)) (cons (I _ (by decide)) all0)) (by decide)) all0) (by decide)) (cons (m2 (t1 _ (cons (I _ (by decide)) all0) (by decide))) all0))) (by decide)) ?_))
    refine cons ((t2 _ (cons (m1 (I _ (by decide))) (cons (t1 _ all0 (by decide)) (cons (t1 _ all0 (by decide)) all0))) (by decide)).mono (by decide) (by decide)) (cons ((t2 _ (cons (t1 _ (cons (I _ (by decide)) all0) (by decide)) (cons (m1 (I _ (by decide))) all0)) (by decide)).mono (by decide) (by decide)) ?_)
    exact cons (m3 (t1 _ (cons (sOk _ (by decide)) all0) (by decide))) (cons (m3 (m1 (I _ (by decide)))) (cons (m3 (m1 (I _ (by decide)))) all0))
  intro d hd
  unfold oddD at hd
  rcases List.mem_append.mp hd with hd | hd
  · rcases List.mem_append.mp hd with hd | hd
    · exact up (by decide) (by decide) A1 d hd
    · exact up (by decide) (by decide) A2 d hd
  · exact up (by decide) (by decide) A3 d hd
end Jg
namespace Jg
open PySem PySem.Spec PyProof.Rows L2
/-! ### bent values -/
theorem cps_lt (s : String) : ∀ c ∈ (Str.ofString s).cps.toList, c < 16 ^ 8 := by
  intro c hc
  rw [Str.ofString_eq_toList] at hc
  simp at hc
  obtain ⟨a, _, rfl⟩ := hc
  exact a.val.toNat_lt
theorem ok_text {i : Int} (h : i.natAbs < 10 ^ 25) : Ok 3 1200 (.str (toString i)) := by
  refine ⟨by simp only [PyData.showable], by simp only [PyData.depth]; omega, ?_⟩
  simp only [PyData.shown]
  refine Nat.le_trans (PySem.StrLaws.reprText_len _ (cps_lt _)) ?_
  rw [PySem.ofString_length]
  have := int_text_length_le10 (k := 25) (by decide) h
  omega
def Plain : Nat → PyData → Prop
  | 0, d => ∃ i : Int, d = .int i ∧ i.natAbs ≤ 10 ^ 20
  | n + 1, d => ∃ ds, d = .tuple ds ∧ ds.length ≤ 8 ∧ ∀ x ∈ ds, Plain n x
def cB : Nat → Nat
  | 0 => 1200 | n + 1 => 17 * (cB n + 2) + 3
theorem cB_le : ∀ n, 1200 ≤ cB n
  | 0 => Nat.le_refl _
  | n + 1 => by
    have h := cB_le n
    show 1200 ≤ 17 * (cB n + 2) + 3
    omega
theorem plain_ok : ∀ (n : Nat) (d : PyData), Plain n d → Ok (3 + n) (cB n) d
  | 0, d, h => by
    obtain ⟨i, rfl, hi⟩ := h
    exact (ok_int25 (Nat.lt_of_le_of_lt hi (by decide))).mono (by decide) (by decide)
  | n + 1, d, h => by
    obtain ⟨ds, rfl, hl, hx⟩ := h
    exact (ok_tup (fun x hm => plain_ok n x (hx x hm)) (Nat.le_trans hl (by decide : 8 ≤ 17)))
theorem plain_lay : ∀ (n : Nat) (d : PyData), Plain n d → d.canLay0 = true ∧ d.depth ≤ n
  | 0, d, h => by
    obtain ⟨i, rfl, hi⟩ := h
    exact ⟨by simp only [PyData.canLay0], by simp only [PyData.depth]; exact Nat.le_refl _⟩
  | n + 1, d, h => by
    obtain ⟨ds, rfl, hl, hx⟩ := h
    have key : ∀ l : List PyData, (∀ x ∈ l, Plain n x) → PyData.canLayAll0 l = true ∧ PyData.depthAll l ≤ n := by
      intro l
      induction l with
      | nil => intro _; exact ⟨by simp only [PyData.canLayAll0], by simp only [PyData.depthAll]; omega⟩
      | cons y r ih =>
        intro hy
        obtain ⟨a, b⟩ := plain_lay n y (hy y List.mem_cons_self)
        obtain ⟨c, e⟩ := ih fun x hm => hy x (List.mem_cons_of_mem _ hm)
        exact ⟨by simp only [PyData.canLayAll0, a, c, Bool.and_self], by simp only [PyData.depthAll]; exact Nat.max_le.mpr ⟨b, e⟩⟩
    obtain ⟨a, b⟩ := key ds hx
    exact ⟨by simpa only [PyData.canLay0] using a, by simp only [PyData.depth]; omega⟩
theorem plain_dp {K : PySem.W.Frag} {D B : Addr} {H : Hp} : ∀ (n : Nat) (d : PyData) (v : V), Plain n d → Dq D B H v d → Dp K H v d
  | 0, d, v, h, hd => by
    obtain ⟨i, rfl, hi⟩ := h
    rw [hd.intE]
    exact .int i
  | n + 1, d, v, h, hd => by
    obtain ⟨ds, rfl, hl, hx⟩ := h
    obtain ⟨a, xs, rfl, e, ha⟩ := hd.tupE
    refine .tup (SqT.of e) ?_
    clear e hl hd
    induction ha using DqAll.rec (motive_1 := fun _ _ _ => True) with
    | nil => exact .nil
    | cons h1 h2 _ ih => exact .cons (plain_dp n _ _ (hx _ List.mem_cons_self) h1) (ih fun x hm => hx x (List.mem_cons_of_mem _ hm))
    | _ => trivial
theorem plain_any {D B Z Y : Addr} {H : Hp} : ∀ (n : Nat) (d : PyData) (v : V), Plain n d → Dq D B H v d → Dq Z Y H v d
  | 0, d, v, h, hd => by
    obtain ⟨i, rfl, hi⟩ := h
    rw [hd.intE]
    exact .int i
  | n + 1, d, v, h, hd => by
    obtain ⟨ds, rfl, hl, hx⟩ := h
    obtain ⟨a, xs, rfl, e, ha⟩ := hd.tupE
    refine .tup e ?_
    clear e hl hd
    induction ha using DqAll.rec (motive_1 := fun _ _ _ => True) with
    | nil => exact .nil
    | cons h1 h2 _ ih => exact .cons (plain_any n _ _ (hx _ List.mem_cons_self) h1) (ih fun x hm => hx x (List.mem_cons_of_mem _ hm))
    | _ => trivial
theorem plain_anyAll {D B Z Y : Addr} {H : Hp} {n : Nat} : ∀ {xs : List V} {ds : List PyData}, (∀ x ∈ ds, Plain n x) → DqAll D B H xs ds → DqAll Z Y H xs ds
  | _, _, _, .nil => .nil
  | _, _, hx, .cons a b => .cons (plain_any n _ _ (hx _ List.mem_cons_self) a) (plain_anyAll (fun x hm => hx x (List.mem_cons_of_mem _ hm)) b)
theorem plain_shaped {n : Nat} {d : PyData} (h : Plain n d) (hn : n ≤ 64) : SeqAt.shaped d = true := by
  obtain ⟨a, b⟩ := plain_lay n d h
  show (d.canLay0 && decide (d.depth ≤ 64)) = true
  rw [a, decide_eq_true (Nat.le_trans b hn)]
  rfl
theorem eqv_empty (ds : List PyData) : PyData.eqv (.tuple ds) (.tuple []) = ds.isEmpty := by
  cases ds with
  | nil => simp [PyData.eqv, PyData.eqvAll]
  | cons d ds => simp [PyData.eqv, PyData.eqvAll]
theorem pt_imp {X : Cx} {e : Expr} {t t' : TT} (h : PT X e t) (k : ∀ σ H Q, t' σ H Q → t σ H Q) : PT X e t' := ⟨fun pins s σ H Q I q => h.run pins s σ H Q I (k σ H Q q)⟩
/-- the first test of a bent tuple -/
def tBent : TT := fun σ H Q => ∃ (D B C : Addr) (cells : List Int) (v : V) (d : PyData) (n : Nat), σ[0]? = some (some (.ref D)) ∧ σ[1]? = some (some v) ∧ σ[2]? = some (some (.int (n : Int))) ∧ DeckAt D B C cells H ∧ Dq D B H v d ∧ Plain n d ∧ n ≤ 60 ∧
  (∀ H2, DeckAt D B C cells H2 → Fr D B H H2 → 0 < n → d ≠ .tuple [] → Q true H2) ∧ (∀ H2, DeckAt D B C cells H2 → Fr D B H H2 → Q false H2)
abbrev sBent : Stmt := topS 17
abbrev nBent : List Str := ["_law_deck_here", "_law_value", "_law_deep", "_law_at", "_law_near", "_law_some"]
theorem scBent : FnScope nBent ["_law_deck_here", "_law_value", "_law_deep"] (defScope sBent) := ⟨rfl, rfl, rfl, by decide +kernel, rfl, by decide +kernel, by decide +kernel⟩
theorem boot_list' : bootBuiltins "list" = some (.type "list") := by decide +kernel
theorem boot_str' : bootBuiltins "str" = some (.type "str") := by decide +kernel
structure Od (K : PySem.W.Frag) (mg : Str → Option Value) (f : Addr) (fd : FuncData) : Prop where
  F : Fun K "_law_odd" "_law_odd" sOdd f fd
  b : Binds K fd ["_law_deck_here"] []
  g : mg "_law_odd" = some (.ref f)
def spB : Nat → Sp
  | 0 => fun _ _ _ _ => False
  | n + 1 => fun vs H Q _ => ∃ (D B C : Addr) (cells : List Int) (v : V) (d : PyData), vs = [.ref D, v, .int (n : Int)] ∧ DeckAt D B C cells H ∧ Dq D B H v d ∧ Plain n d ∧
    ∀ (v' : V) (d' : PyData) (H' : Hp), Ok (3 + n) (cB n) d' → Dq D B H' v' d' → (∀ Z, H Z ≠ none → Dq Z Z H' v' d') → DeckAt D B C cells H' → Fr D B H H' → Q v' H'
theorem cut_data {D B : Addr} {H : Hp} {xs : List V} {ds : List PyData} (h : DqAll D B H xs ds) (lo hi : Option Int) : ∃ es, DqAll D B H (cutV xs lo hi) es ∧ (∀ e ∈ es, e ∈ ds) ∧ es.length ≤ ds.length := by
  unfold cutV
  refine ⟨(ds.drop _).take _, (h.drop _).take _, fun e he => List.mem_of_mem_drop (List.mem_of_mem_take he), ?_⟩
  rw [List.length_take, List.length_drop]
  omega
theorem DqAll.rev {D B : Addr} {H : Hp} : ∀ {xs : List V} {ds : List PyData}, DqAll D B H xs ds → DqAll D B H xs.reverse ds.reverse
  | _, _, .nil => .nil
  | _, _, .cons a b => by
    rw [List.reverse_cons, List.reverse_cons]
    exact DqAll.append (.cons a .nil) b.rev
section
variable {P : Program} {w : World} {K : PySem.W.Frag} {mg : Str → Option Value} {base : Heap}
theorem ok_bent {f fO fD fd' : Addr} {k n : Nat} {fd fdO fdD fdd : FuncData} (hk : 3 ≤ k) (hn : n ≤ 60) (F : Fun K "_law_bent" "_law_bent" sBent f fd) (bB : Binds K fd ["_law_deck_here", "_law_value", "_law_deep"] []) (gB : mg "_law_bent" = some (.ref f))
    (GB : FnOk P w K mg base CX0 k f fd ["_law_deck_here", "_law_value", "_law_deep"] (spB n)) (FX : Od K mg fd' fdd) (FO : On K mg fO fdO) (FD : Dr K mg fD fdD) (T : Bn mg) :
    FnOk P w K mg base CX0 (k + 1) f fd ["_law_deck_here", "_law_value", "_law_deep"] (spB (n + 1)) := by
  have GD : FnOk P w K mg base CX0 1 fD fdD ["_law_deck_here", "_law_many"] spDraw := ok_draw FD.F T.int T.len
  have GO : FnOk P w K mg base CX0 2 fO fdO ["_law_deck_here", "_law_items"] spOne := ok_one FO.F FD.F FD.b FD.g T.int T.len
  have GX : FnOk P w K mg base CX0 3 fd' fdd ["_law_deck_here"] spOdd := ok_odd FX.F FO.F FO.b FO.g FD.F FD.b FD.g T
  refine F.ok scBent (fun vs H Q E h => ?_) (fun cdv A outer s H vs Q E hr h => ?_)
  · obtain ⟨D, B, C, cells, v, d, rfl, _⟩ := h
    rfl
  · obtain ⟨D, B, C, cells, v, d, rfl, dk, hd, hp, q⟩ := h
    have hr1 : Room 1 _ := hr.mono (by omega)
    have hr2 : Room 2 _ := hr.mono (by omega)
    have hr3 : Room 3 _ := hr.mono hk
    have hu := hr.units
    refine ⟨_, pss_cons (ps_if (pt_imp (t' := tBent) (PW.pt (pw_and (pt_val (pe_callB call_isi (by rfl) T.isi PyProof.Rows.boot_isinstance (pa_cons (pv 1) (pa_cons (pe_bltn (by rfl) T.tup boot_tuple' (v := .ty "tuple") rfl) pa_nil))))
          (pw_and (pt_cmpR (op_neD hu) (pv 1) (pe_tup pa_nil) (nomark _)) (pw_and (pt_cmpR op_gt (pv 2) pe_int (nomark _))
            (pw_and1 (pt_cmpR op_gt (pe_call GD hr1 (by rfl) FD.g FD.F.kp FD.b .nil pass0 (pa_cons (pv 0) (pa_cons pe_int pa_nil))) pe_int (nomark _))))))) ?_)
        (pss_cons (ps_set (i := 3) scBent.nd rfl (.inl rfl) (pe_call GD hr1 (by rfl) FD.g FD.F.kp FD.b .nil pass0 (pa_cons (pv 0) (pa_cons (pe_callB call_len_seq (by rfl) T.len PySem.boot_len (pa_cons (pv 1) pa_nil)) pa_nil))))
        (pss_one (ps_ret (pe_op op_catA (pe_op op_catA (pe_slice sl_tupA (pv 1) po_none (po_some (pv 3)))
          (pe_tup (pa_cons (pe_call GB hr (by rfl) gB F.kp bB .nil pass0 (pa_cons (pv 0) (pa_cons (pe_ix ix_tup (pv 1) (pv 3) (fun _ _ => rfl)) (pa_cons (pe_op op_sub (pv 2) pe_int) pa_nil)))) pa_nil)))
          (pe_slice sl_tupA (pv 1) (po_some (pe_op op_add (pv 3) pe_int)) po_none))))) pss_nil)
      (pss_cons (ps_if (pt_not (pt_val (pe_callB call_isi (by rfl) T.isi PyProof.Rows.boot_isinstance (pa_cons (pv 1) (pa_cons (pe_bltn (by rfl) T.tup boot_tuple' (v := .ty "tuple") rfl) pa_nil)))))
        (pss_cons (ps_set (i := 4) scBent.nd rfl (.inl rfl) (pe_ifExp (pt_val (pe_callB call_isi (by rfl) T.isi PyProof.Rows.boot_isinstance (pa_cons (pv 1) (pa_cons (pe_bltn (by rfl) T.int PyProof.Rows.boot_int (v := .ty "int") rfl) pa_nil))))
          (pe_lst (pa_cons (pe_op op_add (pv 1) pe_int) (pa_cons (pe_op op_sub (pv 1) pe_int) (pa_cons (pe_op op_sub pe_int (pv 1)) (pa_cons (pe_callTy call_bool1 (by rfl) T.bool boot_bool' (pa_cons (pv 1) pa_nil))
            (pa_cons (pe_callTy call_str_int (by rfl) T.str boot_str' (pa_cons (pv 1) pa_nil)) pa_nil)))))) (pe_lst pa_nil)))
        (pss_one (ps_ret (pe_call GO hr2 (by rfl) FO.g FO.F.kp FO.b .nil pass0 (pa_cons (pv 0) (pa_cons (pe_op op_cat (pv 4) (pe_lst (pa_cons (pe_call GX hr3 (by rfl) FX.g FX.F.kp FX.b .nil pass0 (pa_cons (pv 0) pa_nil))
          (pa_cons (pe_call GX hr3 (by rfl) FX.g FX.F.kp FX.b .nil pass0 (pa_cons (pv 0) pa_nil)) pa_nil)))) pa_nil)))))) pss_nil)
      (pss_cons (ps_set (i := 3) scBent.nd rfl (.inl rfl) (pe_call GD hr1 (by rfl) FD.g FD.F.kp FD.b .nil pass0 (pa_cons (pv 0) (pa_cons (pe_op op_add (pe_callB call_len_seq (by rfl) T.len PySem.boot_len (pa_cons (pv 1) pa_nil)) pe_int) pa_nil))))
      (pss_cons (ps_set (i := 5) scBent.nd rfl (.inl rfl) (pe_lst (pa_cons (pe_call GX hr3 (by rfl) FX.g FX.F.kp FX.b .nil pass0 (pa_cons (pv 0) pa_nil))
        (pa_cons (pe_slice sl_tupA (pv 1) (po_some pe_int) po_none) (pa_cons (pe_slice sl_tupA (pv 1) po_none (po_some (pe_un un_neg pe_int))) (pa_cons (pe_revT (pv 1)) (pa_cons (pe_callTy call_list_of (by rfl) T.lst boot_list' (pa_cons (pv 1) pa_nil))
        (pa_cons (pe_op op_catA (pv 1) (pe_slice sl_tupA (pv 1) (po_some (pe_un un_neg pe_int)) po_none)) pa_nil))))))))
      (pss_one (ps_ret (pe_call GO hr2 (by rfl) FO.g FO.F.kp FO.b .nil pass0 (pa_cons (pv 0) (pa_cons (pe_op op_cat (pv 5) (pe_lst (pa_cons (pe_op op_catA (pe_op op_catA (pe_slice sl_tupA (pv 1) po_none (po_some (pv 3)))
          (pe_tup (pa_cons (pe_call GX hr3 (by rfl) FX.g FX.F.kp FX.b .nil pass0 (pa_cons (pv 0) pa_nil)) pa_nil))) (pe_slice sl_tupA (pv 1) (po_some (pv 3)) po_none))
        (pa_cons (pe_op op_catA (pe_slice sl_tupA (pv 1) po_none (po_some (pv 3))) (pe_slice sl_tupA (pv 1) (po_some (pe_op op_add (pv 3) pe_int)) po_none)) pa_nil)))) pa_nil)))))))), ?_⟩
    case refine_2.refine_1 =>
      intro σ H0 R ht
      obtain ⟨D, B, C, cells, v, d, m, g0, g1, g2, dk, hd, hp, hm, qt, qf⟩ := ht
      refine ⟨v, g1, v, .ty "tuple", _, _, _, rfl, .ty "tuple", hd.ty, kTup d, _, rfl, ?_⟩
      cases hb : isTu d with
      | false => exact iteF (qf H0 dk (Fr.refl D B H0))
      | true =>
        cases m with
        | zero =>
          obtain ⟨i, rfl, _⟩ := hp
          cases hb
        | succ m =>
          obtain ⟨ds, rfl, hl, hx⟩ := id hp
          refine iteT ⟨v, g1, Nat.zero_le _, fun e ne => ?_⟩
          have s1 := same_upd (o := .tup []) ne
          refine ⟨.tuple ds, .tuple [], plain_dp (m + 1) _ _ hp (hd.same s1), .tup (SqT.of upd_same) .nil, plain_shaped hp (by omega), by decide, _, rfl, ?_⟩
          rw [eqv_empty]
          cases ds with
          | nil => exact iteF (qf _ (dk.same s1) (Fr.of_same s1))
          | cons d0 dr =>
            refine iteT ⟨_, g2, _, _, rfl, rfl, _, rfl, ?_⟩
            rw [decide_eq_true (show (0 : Int) < ((m + 1 : Nat) : Int) by omega)]
            refine iteT ⟨_, g0, D, B, C, cells, 4, rfl, dk.same s1, by decide, by decide, fun j H3 j0 j1 dk3 f3 => ⟨_, _, rfl, rfl, _, rfl, ?_⟩⟩
            have f13 := (Fr.of_same (D := D) (B := B) s1).trans f3
            by_cases hj : (0 : Int) < j
            · rw [decide_eq_true hj]
              exact qt H3 dk3 f13 (by omega) (fun z => by cases z)
            · rw [decide_eq_false hj]
              exact qf H3 dk3 f13
    refine ⟨D, B, C, cells, v, d, n, rfl, rfl, rfl, dk, hd, hp, hn, fun H2 dk2 f2 h0 hne => iteT ?_, fun H2 dk2 f2 => iteF ?_⟩
    · -- one item bent
      cases n with
      | zero => exact absurd h0 (Nat.lt_irrefl 0)
      | succ m =>
        obtain ⟨ds, rfl, hl, hx⟩ := id hp
        obtain ⟨a, xs, rfl, e2, ha2⟩ := (dk.data f2 hd).tupE
        have hlx : xs.length = ds.length := ha2.len
        have hl0 : 0 < ds.length := by
          cases ds with
          | nil => exact absurd rfl hne
          | cons _ _ => exact Nat.succ_pos _
        have tD : ∀ {G : Hp} {zs : List V} {b : Addr}, DeckAt D B C cells G → G b = some (.tup zs) → b ≠ D ∧ b ≠ B := fun {G zs b} k e => by
          obtain ⟨x1, g1⟩ := k.isD
          obtain ⟨x2, g2⟩ := k.isB
          exact ⟨(fun z => by rw [z, g1] at e; cases e), (fun z => by rw [z, g2] at e; cases e)⟩
        refine ⟨_, rfl, _, rfl, a, xs, rfl, .inr (SqT.of e2), D, B, C, cells, _, rfl, dk2, by omega, by omega, fun at_ H3 at0 at1 dk3 f3 => ?_⟩
        obtain ⟨j, rfl⟩ : ∃ j : Nat, at_ = (j : Int) := ⟨at_.toNat, by omega⟩
        have hj : j < xs.length := by omega
        have e3 := f3 _ _ (tD dk2 e2).1 (tD dk2 e2).2 e2
        have ha3 := dk2.dataAll f3 ha2
        refine ⟨_, rfl, _, rfl, _, rfl, sl_read e3 fun c1 H4 s4 g4 => ?_⟩
        have dk4 := dk3.same s4
        have e4 := s4 _ _ e3
        have ha4 := ha3.same s4
        obtain ⟨dj, hdj, qj⟩ := ha4.at_ j xs[j] (List.getElem?_eq_getElem hj)
        refine ⟨_, rfl, _, rfl, _, rfl, a, xs, _, _, rfl, rfl, SqT.of e4, atI_nat (List.getElem?_eq_getElem hj), _, rfl, _, _, rfl, rfl, D, B, C, cells, xs[j], dj, ?_, dk4, qj, hx _ (List.mem_of_getElem? hdj), fun v5 d5 H5 o5 q5 z5 dk5 f5 => ?_⟩
        · show [V.ref D, xs[j], V.int (((m + 1 : Nat) : Int) - 1)] = [V.ref D, xs[j], V.int (m : Int)]
          rw [show (((m + 1 : Nat) : Int) - 1) = (m : Int) by omega]
        have e5 := f5 _ _ (tD dk4 e4).1 (tD dk4 e4).2 e4
        have g5 := f5 _ _ (tD dk4 g4).1 (tD dk4 g4).2 g4
        have ha5 := dk4.dataAll f5 ha4
        obtain ⟨es1, hes1, mem1, len1⟩ := cut_data ha5 none (some (j : Int))
        refine ⟨sz1 rfl, fun t nt => ?_⟩
        have s6 := same_upd (o := .tup [v5]) nt
        refine cat_read (s6 _ _ g5) upd_same (by rw [hes1.len]; show _ + 1 ≤ 1000; omega) fun c7 H7 s7 g7 => ?_
        have s57 := s6.trans s7
        refine ⟨_, rfl, _, rfl, _, _, rfl, rfl, _, rfl, ?_⟩
        dsimp only [tNoPart]
        refine sl_read (s57 _ _ e5) fun c8 H8 s8 g8 => ?_
        have s58 := s57.trans s8
        obtain ⟨es2, hes2, mem2, len2⟩ := cut_data (ha5.same s58) (some ((j : Int) + 1)) none
        refine cat_read (s8 _ _ g7) g8 (by rw [List.length_append, hes1.len, hes2.len]; show _ + 1 + _ ≤ 1000; omega) fun c9 H9 s9 g9 => ?_
        have s59 := s58.trans s9
        refine q (.ref c9) (.tuple ((es1 ++ [d5]) ++ es2)) H9 ?_ (.tup g9 (DqAll.append (hes2.same s9) (DqAll.append (.cons (q5.same s59) .nil) (hes1.same s59)))) (fun Z nZ => .tup g9 (DqAll.append ((plain_anyAll (fun x hm => hx x (mem2 x hm)) hes2).same s9) (DqAll.append (.cons ((z5 Z (Same.some s4 (dk3.alive f3 (dk2.alive f2 nZ)))).same s59) .nil) ((plain_anyAll (fun x hm => hx x (mem1 x hm)) hes1).same s59)))) (dk5.same s59) ((f2.trans (f3.trans (Fr.of_same s4))).trans (f5.trans (Fr.of_same s59)))
        refine ok_tup (n := 17) (fun x hm => ?_) (by rw [List.length_append, List.length_append]; show es1.length + 1 + es2.length ≤ 17; omega)
        rcases List.mem_append.mp hm with hm | hm
        · rcases List.mem_append.mp hm with hm | hm
          · exact plain_ok m x (hx x (mem1 x hm))
          · rw [List.mem_singleton.mp hm]
            exact o5
        · exact plain_ok m x (hx x (mem2 x hm))
    · have hd2 := dk.data f2 hd
      refine ⟨v, rfl, v, .ty "tuple", _, _, _, rfl, .ty "tuple", hd2.ty, kTup d, _, rfl, ?_⟩
      cases n with
      | zero =>
        obtain ⟨i, rfl, hi⟩ := hp
        cases hd2.intE
        have oki := ok_int25 (i := i) (Nat.lt_of_le_of_lt hi (by decide))
        have hlog : i.natAbs.log2 < 1920 := by
          have h1 := oki.sh
          simp only [PyData.showable] at h1
          exact of_decide_eq_true h1
        refine iteT ⟨_, rfl, _, .ty "int", _, _, _, rfl, .ty "int", hd2.ty, kInt (.int i), _, rfl, iteT ⟨_, rfl, _, _, rfl, rfl, _, rfl, _, _, rfl, rfl, _, rfl, _, _, rfl, rfl, _, rfl, .inl ⟨i, rfl, _, rfl, i, rfl, hlog, sz1 rfl, fun L nL => ?_⟩⟩⟩
        have s3 := same_upd (o := .lst [.int (i + 1), .int (i - 1), .int (0 - i), .bl (i != 0), .str (toString i)]) nL
        have dk3 := dk2.same s3
        have nLD := dk2.neD nL
        have nLB := dk2.neB nL
        refine ⟨_, rfl, _, rfl, _, rfl, D, B, C, cells, rfl, dk3, fun v1 d1 H4 m1 q1 z1 dk4 f4 => ⟨_, rfl, D, B, C, cells, rfl, dk4, fun v2 d2 H5 m2 q2 z2 dk5 f5 => ⟨sz1 rfl, fun L2 nL2 => ?_⟩⟩⟩
        have s6 := same_upd (o := .lst [v1, v2]) nL2
        have eL := s6 _ _ (f5 _ _ nLD nLB (f4 _ _ nLD nLB upd_same))
        refine ⟨L, L2, _, _, rfl, rfl, eL, upd_same, sz1 (l := [(0 : Nat), 0, 0, 0, 0, 0, 0]) rfl, fun p np => ?_⟩
        have s7 := same_upd (o := .lst ([.int (i + 1), .int (i - 1), .int (0 - i), .bl (i != 0), .str (toString i)] ++ [v1, v2])) np
        have dk6 := dk5.same s6
        have all : DqAll D B _ ([.int (i + 1), .int (i - 1), .int (0 - i), .bl (i != 0), .str (toString i)] ++ [v1, v2]) ([.int (i + 1), .int (i - 1), .int (0 - i), .bool (i != 0), .str (toString i), d1, d2]) :=
          .cons (.int _) (.cons (.int _) (.cons (.int _) (.cons (.bl _) (.cons (.str _) (.cons (((dk4.data f5 q1).same s6).same s7) (.cons ((q2.same s6).same s7) .nil))))))
        refine ⟨D, B, C, cells, p, _, rfl, dk6.same s7, upd_same, dk6.neD np, dk6.neB np, by show 0 < 7; decide, by show 7 < 1073741824; decide, fun j v8 H8 hv dk8 f8 => ?_⟩
        obtain ⟨d8, hd8, q8⟩ := all.at_ j v8 hv
        refine q v8 d8 H8 ?_ ((dk6.same s7).data f8 q8) (fun Z nZ => ?_) dk8 (f2.trans ((Fr.of_same s3).trans (f4.trans (f5.trans ((Fr.of_same s6).trans ((Fr.of_same s7).trans f8))))))
        rotate_left
        · have nZ3 := Same.some s3 (dk2.alive f2 nZ)
          have allZ : DqAll Z Z (upd (upd H5 L2 (.lst [v1, v2])) p (.lst ([.int (i + 1), .int (i - 1), .int (0 - i), .bl (i != 0), .str (toString i)] ++ [v1, v2]))) ([.int (i + 1), .int (i - 1), .int (0 - i), .bl (i != 0), .str (toString i)] ++ [v1, v2]) ([.int (i + 1), .int (i - 1), .int (0 - i), .bool (i != 0), .str (toString i), d1, d2]) :=
            .cons (.int _) (.cons (.int _) (.cons (.int _) (.cons (.bl _) (.cons (.str _) (.cons (((dk4.two f5 q1 (z1 Z nZ3)).same s6).same s7) (.cons (((z2 Z (dk4.alive f4 nZ3)).same s6).same s7) .nil))))))
          obtain ⟨d9, hd9, q9⟩ := allZ.at_ j v8 hv
          rw [hd8] at hd9
          cases hd9
          exact (dk6.same s7).two f8 q8 q9
        have hint : ∀ z : Int, z.natAbs ≤ 10 ^ 20 + 1 → Ok 3 1200 (.int z) := fun z hz => (ok_int25 (Nat.lt_of_le_of_lt hz (by decide))).mono (by decide) (by decide)
        have hodd : ∀ x ∈ oddD, Ok 3 1200 x := fun x hx => (odd_ok x hx).mono (Nat.le_refl _) (by decide)
        match j, hd8 with
        | 0, h => exact Option.some.inj h ▸ hint _ (by omega)
        | 1, h => exact Option.some.inj h ▸ hint _ (by omega)
        | 2, h => exact Option.some.inj h ▸ hint _ (by omega)
        | 3, h => exact Option.some.inj h ▸ (ok_bl _).mono (by decide) (by decide)
        | 4, h => exact Option.some.inj h ▸ ok_text (Nat.lt_of_le_of_lt hi (by decide))
        | 5, h => exact Option.some.inj h ▸ hodd _ m1
        | 6, h => exact Option.some.inj h ▸ hodd _ m2
        | j + 7, h => cases h
      | succ m =>
        obtain ⟨ds, rfl, hl, hx⟩ := id hp
        obtain ⟨a, xs, rfl, e2, ha2⟩ := hd2.tupE
        have hlx : xs.length = ds.length := ha2.len
        have tD : ∀ {G : Hp} {zs : List V} {b : Addr}, DeckAt D B C cells G → G b = some (.tup zs) → b ≠ D ∧ b ≠ B := fun {G zs b} k e => by
          obtain ⟨x1, g1⟩ := k.isD
          obtain ⟨x2, g2⟩ := k.isB
          exact ⟨(fun z => by rw [z, g1] at e; cases e), (fun z => by rw [z, g2] at e; cases e)⟩
        have itemOk : ∀ x, x ∈ ds ∨ x ∈ oddD → Ok (3 + m) (cB m) x := fun x hm => by
          rcases hm with hm | hm
          · exact plain_ok m x (hx x hm)
          · exact (odd_ok x hm).mono (by omega) (Nat.le_trans (by decide) (cB_le m))
        have oddOk : ∀ x ∈ oddD, Ok (3 + (m + 1)) (cB (m + 1)) x := fun x hm => (odd_ok x hm).mono (by omega) (Nat.le_trans (by decide) (cB_le (m + 1)))
        have tupOk : ∀ es : List PyData, (∀ x ∈ es, x ∈ ds ∨ x ∈ oddD) → es.length ≤ 17 → Ok (3 + (m + 1)) (cB (m + 1)) (.tuple es) := fun es h hn => ok_tup (fun x hm => itemOk x (h x hm)) hn
        have lstOk : ∀ es : List PyData, (∀ x ∈ es, x ∈ ds ∨ x ∈ oddD) → es.length ≤ 17 → Ok (3 + (m + 1)) (cB (m + 1)) (.list es) := fun es h hn => ok_lst (fun x hm => itemOk x (h x hm)) hn
        refine iteF ⟨_, rfl, _, rfl, a, xs, rfl, .inr (SqT.of e2), _, _, rfl, rfl, D, B, C, cells, _, rfl, dk2, by omega, by omega, fun at_ H3 at0 at1 dk3 f3 => ?_⟩
        obtain ⟨j, rfl⟩ : ∃ j : Nat, at_ = (j : Int) := ⟨at_.toNat, by omega⟩
        have e3 := f3 _ _ (tD dk2 e2).1 (tD dk2 e2).2 e2
        have ha3 := dk2.dataAll f3 ha2
        -- the list of six
        refine ⟨_, rfl, D, B, C, cells, rfl, dk3, fun v1 d1 H4 m1 q1 z1 dk4 f4 => ?_⟩
        have e4 := f4 _ _ (tD dk3 e3).1 (tD dk3 e3).2 e3
        have ha4 := dk3.dataAll f4 ha3
        refine ⟨_, rfl, _, rfl, ?_⟩
        dsimp only [tNoPart]
        refine sl_read e4 fun c1 H5 s5 g5 => ?_
        obtain ⟨es1, hes1, mem1, len1⟩ := cut_data (ha4.same s5) (some 1) none
        refine ⟨_, rfl, _, rfl, _, rfl, sl_read (s5 _ _ e4) fun c2 H6 s6 g6 => ?_⟩
        have e6 := s6 _ _ (s5 _ _ e4)
        have ha6 := (ha4.same s5).same s6
        obtain ⟨es2, hes2, mem2, len2⟩ := cut_data ha6 none (some (-1))
        refine ⟨_, rfl, a, xs, rfl, SqT.of e6, fun c3 n3 => ?_⟩
        have s7 := same_upd (o := .tup xs.reverse) n3
        have dk7 := ((dk4.same s5).same s6).same s7
        refine ⟨_, rfl, a, xs, rfl, .inr (SqT.of (s7 _ _ e6)), fun c4 n4 => ?_⟩
        have s8 := same_upd (o := .lst xs) n4
        have dk8 := dk7.same s8
        have e8 := s8 _ _ (s7 _ _ e6)
        have ha8 := (ha6.same s7).same s8
        refine ⟨_, rfl, _, rfl, _, rfl, _, rfl, ?_⟩
        dsimp only [tNoPart]
        refine sl_read e8 fun c5 H9 s9 g9 => ?_
        obtain ⟨es5, hes5, mem5, len5⟩ := cut_data (ha8.same s9) (some (-1)) none
        refine cat_read (s9 _ _ e8) g9 (by rw [hes5.len]; omega) fun c6 H10 s10 g10 => ⟨sz1 rfl, fun L nL => ?_⟩
        have dk10 := (dk8.same s9).same s10
        have s11 := same_upd (o := .lst [v1, .ref c1, .ref c2, .ref c3, .ref c4, .ref c6]) nL
        have dk11 := dk10.same s11
        have nLD := dk10.neD nL
        have nLB := dk10.neB nL
        have e11 := s11 _ _ (s10 _ _ (s9 _ _ e8))
        have ha11 := ((ha8.same s9).same s10).same s11
        -- the two behind
        refine ⟨_, rfl, _, rfl, _, rfl, _, rfl, _, rfl, sl_read e11 fun x1 H12 s12 g12 => ?_⟩
        have dk12 := dk11.same s12
        refine ⟨_, rfl, D, B, C, cells, rfl, dk12, fun v2 d2 H13 m2 q2 z2 dk13 f13 => ?_⟩
        have e13 := f13 _ _ (tD dk12 (s12 _ _ e11)).1 (tD dk12 (s12 _ _ e11)).2 (s12 _ _ e11)
        have g13 := f13 _ _ (tD dk12 g12).1 (tD dk12 g12).2 g12
        have ha13 := dk12.dataAll f13 (ha11.same s12)
        obtain ⟨ex1, hex1, memx1, lenx1⟩ := cut_data ha13 none (some (j : Int))
        refine ⟨sz1 rfl, fun t nt => ?_⟩
        have s14 := same_upd (o := .tup [v2]) nt
        refine cat_read (s14 _ _ g13) upd_same (by rw [hex1.len]; show _ + 1 ≤ 1000; omega) fun x2 H15 s15 g15 => ?_
        have s1315 := s14.trans s15
        refine ⟨_, rfl, _, rfl, _, rfl, ?_⟩
        dsimp only [tNoPart]
        refine sl_read (s1315 _ _ e13) fun x3 H16 s16 g16 => ?_
        have s1316 := s1315.trans s16
        obtain ⟨ex3, hex3, memx3, lenx3⟩ := cut_data (ha13.same s1316) (some (j : Int)) none
        refine cat_read (s16 _ _ g15) g16 (by rw [List.length_append, hex1.len, hex3.len]; show _ + 1 + _ ≤ 1000; omega) fun x4 H17 s17 g17 => ?_
        have s1317 := s1316.trans s17
        refine ⟨_, rfl, _, rfl, _, rfl, sl_read (s1317 _ _ e13) fun y1 H18 s18 g18 => ?_⟩
        have s1318 := s1317.trans s18
        obtain ⟨ey1, hey1, memy1, leny1⟩ := cut_data (ha13.same s1318) none (some (j : Int))
        refine ⟨_, rfl, _, rfl, _, _, rfl, rfl, _, rfl, ?_⟩
        dsimp only [tNoPart]
        refine sl_read (s1318 _ _ e13) fun y2 H19 s19 g19 => ?_
        have s1319 := s1318.trans s19
        obtain ⟨ey2, hey2, memy2, leny2⟩ := cut_data (ha13.same s1319) (some ((j : Int) + 1)) none
        refine cat_read (s19 _ _ g18) g19 (by rw [hey1.len, hey2.len]; omega) fun y3 H20 s20 g20 => ⟨sz1 rfl, fun M nM => ?_⟩
        have s21 := same_upd (o := .lst [.ref x4, .ref y3]) nM
        have s1321 := (s1319.trans s20).trans s21
        have f1121 := ((Fr.of_same s12).trans f13).trans (Fr.of_same s1321)
        refine ⟨L, M, _, _, rfl, rfl, f1121 _ _ nLD nLB upd_same, upd_same, sz1 (l := [(0 : Nat), 0, 0, 0, 0, 0, 0, 0]) rfl, fun p np => ?_⟩
        have s22 := same_upd (o := .lst ([v1, .ref c1, .ref c2, .ref c3, .ref c4, .ref c6] ++ [.ref x4, .ref y3])) np
        have dk21 := dk13.same s1321
        have dk22 := dk21.same s22
        have f1122 := f1121.trans (Fr.of_same s22)
        have s1322 := s1321.trans s22
        have s1011 : Same H10 _ := s11
        have s911 := s10.trans s11
        have s811 := s9.trans s911
        have s711 := s8.trans s811
        have s611 := s7.trans s711
        have s511 := s6.trans s611
        have s411 := s5.trans s511
        have all : DqAll D B (upd (upd H20 M (.lst [.ref x4, .ref y3])) p (.lst ([v1, .ref c1, .ref c2, .ref c3, .ref c4, .ref c6] ++ [.ref x4, .ref y3]))) ([v1, .ref c1, .ref c2, .ref c3, .ref c4, .ref c6] ++ [.ref x4, .ref y3]) ([d1, .tuple es1, .tuple es2, .tuple ds.reverse, .list ds, .tuple (ds ++ es5)] ++ [.tuple ((ex1 ++ [d2]) ++ ex3), .tuple (ey1 ++ ey2)]) := by
          refine DqAll.append (.cons (.tup ((s18.trans (s19.trans (s20.trans (s21.trans s22)))) _ _ g17) ?_) (.cons (.tup ((s21.trans s22) _ _ g20) ?_) .nil)) (dk11.dataAll f1122 (.cons (q1.same s411) (.cons (.tup (s511 _ _ g5) (hes1.same s511)) (.cons (.tup (s611 _ _ g6) (hes2.same s611)) (.cons (.tup (s711 _ _ upd_same) ((ha6.rev.same s7).same s711))
            (.cons (.lst (dk7.neD n4) (dk7.neB n4) (s811 _ _ upd_same) (ha8.same s811)) (.cons (.tup (s1011 _ _ g10) (DqAll.append ((hes5.same s10).same s1011) (ha8.same s811))) .nil)))))))
          · exact DqAll.append (hex3.same ((s17.trans (s18.trans (s19.trans s20))).trans (s21.trans s22))) (DqAll.append (.cons (q2.same s1322) .nil) (hex1.same s1322))
          · exact DqAll.append (hey2.same (s20.trans (s21.trans s22))) (hey1.same ((s19.trans s20).trans (s21.trans s22)))
        refine ⟨D, B, C, cells, p, _, rfl, dk22, upd_same, dk21.neD np, dk21.neB np, by show 0 < 8; decide, by show 8 < 1073741824; decide, fun i8 v8 H23 hv dk23 f23 => ?_⟩
        obtain ⟨d8, hd8, q8⟩ := all.at_ i8 v8 hv
        have fH4 : Fr D B H H4 := f2.trans (f3.trans f4)
        refine q v8 d8 H23 ?_ (dk22.data f23 q8) (fun Z nZ => ?_) dk23 ((fH4.trans (Fr.of_same s411)).trans (f1122.trans f23))
        rotate_left
        · have nZ3 := dk3.alive f3 (dk2.alive f2 nZ)
          have nZ4 := dk4.alive f4 nZ3
          have nZ7 := Same.some s7 (Same.some s6 (Same.some s5 nZ4))
          have nZ12 := Same.some s12 (Same.some (s8.trans s811) nZ7)
          have cZ : c4 ≠ Z := fun z => nZ7 (by rw [← z]; exact n4)
          have P1 : ∀ {es : List PyData}, (∀ e ∈ es, e ∈ ds) → ∀ x ∈ es, Plain m x := fun h x hm => hx x (h x hm)
          have aZ : ∀ {G : Hp}, DqAll D B G xs ds → DqAll Z Z G xs ds := fun h => plain_anyAll hx h
          have q1Z := (dk11.two f1122 (q1.same s411) ((z1 Z nZ3).same s411))
          have allZ : DqAll Z Z (upd (upd H20 M (.lst [.ref x4, .ref y3])) p (.lst ([v1, .ref c1, .ref c2, .ref c3, .ref c4, .ref c6] ++ [.ref x4, .ref y3]))) ([v1, .ref c1, .ref c2, .ref c3, .ref c4, .ref c6] ++ [.ref x4, .ref y3]) ([d1, .tuple es1, .tuple es2, .tuple ds.reverse, .list ds, .tuple (ds ++ es5)] ++ [.tuple ((ex1 ++ [d2]) ++ ex3), .tuple (ey1 ++ ey2)]) := by
            have tup1 : ∀ {c : Addr} {zs : List V} {es : List PyData}, (∀ x ∈ es, Plain m x) → Dq D B (upd H10 L (.lst [v1, .ref c1, .ref c2, .ref c3, .ref c4, .ref c6])) (.ref c) (.tuple es) → (upd H10 L (.lst [v1, .ref c1, .ref c2, .ref c3, .ref c4, .ref c6])) c = some (.tup zs) → Dq Z Z (upd (upd H20 M (.lst [.ref x4, .ref y3])) p (.lst ([v1, .ref c1, .ref c2, .ref c3, .ref c4, .ref c6] ++ [.ref x4, .ref y3]))) (.ref c) (.tuple es) := fun h k e => by
              refine dk11.two f1122 k ?_
              cases k with
              | tup e2 ha => exact .tup e2 (plain_anyAll h ha)
            refine DqAll.append (.cons (.tup ((s18.trans (s19.trans (s20.trans (s21.trans s22)))) _ _ g17) ?_) (.cons (.tup ((s21.trans s22) _ _ g20) ?_) .nil)) (.cons q1Z (.cons (tup1 (P1 mem1) (.tup (s511 _ _ g5) (hes1.same s511)) (s511 _ _ g5)) (.cons (tup1 (P1 mem2) (.tup (s611 _ _ g6) (hes2.same s611)) (s611 _ _ g6))
              (.cons (tup1 (fun x hm => hx x (List.mem_reverse.mp hm)) (.tup (s711 _ _ upd_same) ((ha6.rev.same s7).same s711)) (s711 _ _ upd_same)) (.cons ?_ (.cons (tup1 (fun x hm => (List.mem_append.mp hm).elim (hx x) (fun hm => hx x (mem5 x hm))) (.tup (s1011 _ _ g10) (DqAll.append ((hes5.same s10).same s1011) (ha8.same s811))) (s1011 _ _ g10)) .nil))))))
            · exact DqAll.append ((plain_anyAll (P1 memx3) hex3).same ((s17.trans (s18.trans (s19.trans s20))).trans (s21.trans s22))) (DqAll.append (.cons ((z2 Z nZ12).same s1322) .nil) ((plain_anyAll (P1 memx1) hex1).same s1322))
            · exact DqAll.append ((plain_anyAll (P1 memy2) hey2).same (s20.trans (s21.trans s22))) ((plain_anyAll (P1 memy1) hey1).same ((s19.trans s20).trans (s21.trans s22)))
            · exact dk11.two f1122 (.lst (dk7.neD n4) (dk7.neB n4) (s811 _ _ upd_same) (ha8.same s811)) (.lst cZ cZ (s811 _ _ upd_same) (aZ (ha8.same s811)))
          obtain ⟨d9, hd9, q9⟩ := allZ.at_ i8 v8 hv
          rw [hd8] at hd9
          cases hd9
          exact dk22.two f23 q8 q9
        have inl : ∀ {es : List PyData}, (∀ e ∈ es, e ∈ ds) → ∀ x ∈ es, x ∈ ds ∨ x ∈ oddD := fun h x hm => .inl (h x hm)
        have app : ∀ {es fs : List PyData}, (∀ x ∈ es, x ∈ ds ∨ x ∈ oddD) → (∀ x ∈ fs, x ∈ ds ∨ x ∈ oddD) → ∀ x ∈ es ++ fs, x ∈ ds ∨ x ∈ oddD := fun h1 h2 x hm => (List.mem_append.mp hm).elim (h1 x) (h2 x)
        have self : ∀ x ∈ ds, x ∈ ds ∨ x ∈ oddD := fun x hm => .inl hm
        match i8, hd8 with
        | 0, h => exact Option.some.inj h ▸ oddOk _ m1
        | 1, h => exact Option.some.inj h ▸ tupOk _ (inl mem1) (by omega)
        | 2, h => exact Option.some.inj h ▸ tupOk _ (inl mem2) (by omega)
        | 3, h => exact Option.some.inj h ▸ tupOk _ (fun x hm => .inl (List.mem_reverse.mp hm)) (by rw [List.length_reverse]; omega)
        | 4, h => exact Option.some.inj h ▸ lstOk _ self (by omega)
        | 5, h => exact Option.some.inj h ▸ tupOk _ (app self (inl mem5)) (by rw [List.length_append]; omega)
        | 6, h => exact Option.some.inj h ▸ tupOk _ (app (app (inl memx1) (fun x hm => .inr (List.mem_singleton.mp hm ▸ m2))) (inl memx3)) (by rw [List.length_append, List.length_append]; show ex1.length + 1 + ex3.length ≤ 17; omega)
        | 7, h => exact Option.some.inj h ▸ tupOk _ (app (inl memy1) (inl memy2)) (by rw [List.length_append]; omega)
        | i8 + 8, h => cases h
end
end Jg
namespace Jg
open PySem PySem.Spec PyProof.Rows L2
/-! ### the law's body, statement by statement -/
section
variable {X : Cx} {CX : CXT} {k : Nat} {f : Addr} {fd : FuncData} {ps ks : List Str} {sp : Sp} {E : XK} {x : Str} {p pos : Pos} {kws : List Keyword} {tk : TA} {g : List Value → List Value → List Value} {gV : List V → List V → List V}
/-- f(k = v, ..), keywords alone -/
theorem pe_callKO (F : FnOk X.prog X.w X.K X.mg X.base CX k f fd ps sp) (hr : Room k X.A) (hg : Gl X x) (hm : X.mg x = some (.ref f)) (hk : PySem.W.keepIn X.K (.ref f) = true) (hb : KBinds X.K fd ps ks g gV) (hx : Passes CX X E) (hkw : PK X kws tk)
    (hall : (backToKw pos (keywordEach kws X.env)).all (·.1.isSome) = true := by rfl) (hks : (backToKw pos (keywordEach kws X.env)).filterMap (·.1) = ks := by rfl) (hdb : (x == ("__debug__" : Str)) = false := by decide)
    (hpl : ((backTo pos (starEach [] X.env)).any (·.1) || (backToKw pos (keywordEach kws X.env)).any (·.1.isNone)) = false := by rfl) : PE X (.Call (.Name x p) [] kws pos) (tCallK sp gV E tNil tk) := by
  refine ⟨fun pins s σ H Q I h => wpAny_Call_Name_kw (ld_glob I hg hm (PySem.W.callWith_KW0 (h₀ := X.base) I.ok.mod.kin hk hall ?_ hpl) hdb)⟩
  refine thn (hkw.run pos pins s σ H _ I h) fun ws s2 ⟨zs, H2, I2, rz, q2⟩ => ⟨I2.kIn, ?_⟩
  rw [hks]
  exact run_fnk (us := []) (vs := []) F hr hb hx I2 .nil rz q2
end
theorem ps_imp {X : Cx} {st : Stmt} {t t' : TS} (h : PS X st t) (k : ∀ D σ H, t' D σ H → t D σ H) : PS X st t' := ⟨fun pins s σ H D I q => h.run pins s σ H D I (k D σ H q)⟩
/-- a def that is called -/
structure Cal (P : Program) (w : World) (K : PySem.W.Frag) (mg : Str → Option Value) (base : Heap) (x : Str) (k : Nat) (ps : List Str) (sp : Sp) (f : Addr) (fd : FuncData) : Prop where
  F : FnOk P w K mg base CX0 k f fd ps sp
  g : mg x = some (.ref f)
  kp : PySem.W.keepIn K (.ref f) = true
  b : Binds K fd ps []
/-- the keywords' values in the order of the parameters -/
def kwBox : List Value → List Value → List Value
  | [], [v, r] => [r, v] | _, _ => []
def kwBoxV : List V → List V → List V
  | [], [v, r] => [r, v] | _, _ => []
def kwOne : List Value → List Value → List Value
  | [], [v] => [v] | _, _ => []
def kwOneV : List V → List V → List V
  | [], [v] => [v] | _, _ => []
def kwPart : List Value → List Value → List Value
  | [], [n, b, u] => [b, u, n] | _, _ => []
def kwPartV : List V → List V → List V
  | [], [n, b, u] => [b, u, n] | _, _ => []
structure Env58 (P : Program) (w : World) (K : PySem.W.Frag) (mg : Str → Option Value) (base : Heap) : Prop where
  bn : Bn mg
  deck : ∃ f fd, Cal P w K mg base "_law_deck" 1 ["_law_script"] (spDeck K) f fd
  draw : ∃ f fd, Cal P w K mg base "_law_draw" 1 ["_law_deck_here", "_law_many"] spDraw f fd
  one : ∃ f fd, Cal P w K mg base "_law_one" 2 ["_law_deck_here", "_law_items"] spOne f fd
  far : ∃ f fd, Cal P w K mg base "_law_far" 2 ["_law_deck_here", "_law_many"] spFar f fd
  odd : ∃ f fd, Cal P w K mg base "_law_odd" 3 ["_law_deck_here"] spOdd f fd
  bent : ∃ f fd, Cal P w K mg base "_law_bent" 6 ["_law_deck_here", "_law_value", "_law_deep"] (spB 3) f fd
  box : ∃ f fd, Cal P w K mg base "_law_box" 4 ["_law_deck_here", "_law_inputs", "_law_wide"] spMkBox f fd
  lbox : ∃ f fd, Cal P w K mg base "_law_is_box" 3 ["_law_inputs", "_law_value"] spLBox f fd
  isbox : ∃ f fd, Cal P w K mg base "is_box" 4 ["row", "value"] spBox f fd ∧ KBinds K fd ["row", "value"] ["value", "row"] kwBox kwBoxV
  cnt : ∃ f fd, Cal P w K mg base "point_count" 1 ["box"] spCnt f fd ∧ KBinds K fd ["box"] ["box"] kwOne kwOneV
  mid : ∃ f fd, Cal P w K mg base "middle" 1 ["box"] spMid f fd ∧ KBinds K fd ["box"] ["box"] kwOne kwOneV
  part : ∃ f fd, Cal P w K mg base "parted" 1 ["box", "unknown", "number"] spPart f fd ∧ KBinds K fd ["box", "unknown", "number"] ["number", "box", "unknown"] kwPart kwPartV
abbrev sLaw : Stmt := topS 23
abbrev nLaw : List Str := ["_law_script", "_law_deck_here", "_law_turn", "_law_inputs", "_law_row", "_law_box_here", "_law_low", "_law_high", "_law_far_here", "_law_some", "_law_value", "_law_shown", "_law_many", "_law_due", "_law_wide", "_law_unknown", "_law_number_here", "_law_both", "_law_own", "_law_k"]
theorem scLaw : FnScope nLaw ["_law_script"] (defScope sLaw) := ⟨rfl, rfl, rfl, by decide +kernel, rfl, by decide +kernel, by decide +kernel⟩
def forBody : Stmt → List Stmt
  | .For _ _ b _ _ => b | _ => []
def stL (i : Nat) : Stmt := (forBody ((defBody sLaw).getD 1 (.Pass ⟨0, 0, 0, 0⟩))).getD i (.Pass ⟨0, 0, 0, 0⟩)
/-- the body's place -/
abbrev LX (P : Program) (w : World) (K : PySem.W.Frag) (mg : Str → Option Value) (base : Heap) (f : Addr) (cdv : Value) (Ar : Around) (out : List Env) (s0 : Shared) (H0 : Hp) (E : XK) : Cx :=
  (cxOf CX0 P w K mg base nLaw "law" (defScope sLaw) f cdv Ar out s0 H0 E).nox
/-- the deck is there -/
structure W0 (D B C : Addr) (cells : List Int) (σ : L2.St) (H : Hp) : Prop where
  len : σ.length = 20
  s1 : σ[1]? = some (some (.ref D))
  dk : DeckAt D B C cells H
structure W1 (D B C : Addr) (cells : List Int) (n : Nat) (σ : L2.St) (H : Hp) : Prop extends W0 D B C cells σ H where
  s3 : σ[3]? = some (some (.int (n : Int)))
  n8 : n ≤ 8
structure Wd (D B C : Addr) (cells : List Int) (n : Nat) (ps : List (Int × Int)) (r b : Addr) (σ : L2.St) (H : Hp) : Prop extends W1 D B C cells n σ H where
  s4 : σ[4]? = some (some (.ref r))
  s5 : σ[5]? = some (some (.ref b))
  row : ∃ rs, H r = some (.tup (.int (n : Int) :: rs))
  box : Dq D B H (.ref b) (boxD ps)
  good : Good ps
  np : ps.length = n
theorem tup_ne {D B C : Addr} {cells : List Int} {H : Hp} {xs : List V} {b : Addr} (k : DeckAt D B C cells H) (e : H b = some (.tup xs)) : b ≠ D ∧ b ≠ B := by
  obtain ⟨x1, g1⟩ := k.isD
  obtain ⟨x2, g2⟩ := k.isB
  exact ⟨(fun z => by rw [z, g1] at e; cases e), (fun z => by rw [z, g2] at e; cases e)⟩
section
variable {D B C : Addr} {cells : List Int} {n : Nat} {ps : List (Int × Int)} {r b : Addr} {σ : L2.St} {H H' : Hp} {v : Option V}
theorem get_set_ne {i j : Nat} (h : i ≠ j) : (σ.set i v)[j]? = σ[j]? := List.getElem?_set_ne h
theorem get_set_eq {i : Nat} (h : i < σ.length) : (σ.set i v)[i]? = some v := by
  rw [List.getElem?_set_self h]
theorem W0.set (w : W0 D B C cells σ H) {i : Nat} (h : i ≠ 1) : W0 D B C cells (σ.set i v) H := ⟨by rw [List.length_set]; exact w.len, by rw [get_set_ne h]; exact w.s1, w.dk⟩
theorem W0.go (w : W0 D B C cells σ H) (dk : DeckAt D B C cells H') : W0 D B C cells σ H' := ⟨w.len, w.s1, dk⟩
theorem W1.set (w : W1 D B C cells n σ H) {i : Nat} (h : i ≠ 1) (h3 : i ≠ 3) : W1 D B C cells n (σ.set i v) H := ⟨w.toW0.set h, by rw [get_set_ne h3]; exact w.s3, w.n8⟩
theorem W1.go (w : W1 D B C cells n σ H) (dk : DeckAt D B C cells H') : W1 D B C cells n σ H' := ⟨w.toW0.go dk, w.s3, w.n8⟩
theorem Wd.set (w : Wd D B C cells n ps r b σ H) {i : Nat} (h : 5 < i) : Wd D B C cells n ps r b (σ.set i v) H :=
  ⟨w.toW1.set (by omega) (by omega), by rw [get_set_ne (by omega)]; exact w.s4, by rw [get_set_ne (by omega)]; exact w.s5, w.row, w.box, w.good, w.np⟩
theorem Wd.go (w : Wd D B C cells n ps r b σ H) (dk : DeckAt D B C cells H') (f : Fr D B H H') : Wd D B C cells n ps r b σ H' := by
  obtain ⟨rs, hr⟩ := w.row
  exact ⟨w.toW1.go dk, w.s4, w.s5, ⟨rs, f _ _ (tup_ne w.dk hr).1 (tup_ne w.dk hr).2 hr⟩, w.dk.data f w.box, w.good, w.np⟩
theorem Wd.same (w : Wd D B C cells n ps r b σ H) (s : Same H H') : Wd D B C cells n ps r b σ H' := w.go (w.dk.same s) (Fr.of_same s)
end
section
variable {P : Program} {w : World} {K : PySem.W.Frag} {mg : Str → Option Value} {base : Heap} {f : Addr} {cdv : Value} {Ar : Around} {out : List Env} {s0 : Shared} {H0 : Hp} {E : XK}
/-- inputs = .. -/
def t0 : TS := fun Dn σ H => ∃ D B C cells, W0 D B C cells σ H ∧ ∀ n σ' H', W1 D B C cells n σ' H' → Dn.nx σ' H'
theorem b0 (T : Env58 P w K mg base) (hr : Room 6 (LX P w K mg base f cdv Ar out s0 H0 E).A) : PS (LX P w K mg base f cdv Ar out s0 H0 E) (stL 0) t0 := by
  obtain ⟨fO, fdO, GO⟩ := T.one
  refine ps_imp (ps_set (i := 3) scLaw.nd rfl (.inl rfl) (pe_call GO.F (hr.mono (by decide)) (by rfl) GO.g GO.kp GO.b .nil pass0 (pa_cons (pv 1) (pa_cons (pe_lst (pa_cons pe_int (pa_cons pe_int (pa_cons pe_int (pa_cons pe_int (pa_cons pe_int pa_nil)))))) pa_nil)))) ?_
  rintro Dn σ H ⟨D, B, C, cells, w0, q⟩
  refine ⟨_, w0.s1, sz1 rfl, fun L nL => ?_⟩
  have s1 := same_upd (o := .lst [.int 0, .int 1, .int 2, .int 3, .int 8]) nL
  refine ⟨D, B, C, cells, L, _, rfl, w0.dk.same s1, upd_same, w0.dk.neD nL, w0.dk.neB nL, by show 0 < 5; decide, by show 5 < 1073741824; decide, fun i v H2 hv dk2 f2 => ?_⟩
  obtain ⟨n, rfl, hn⟩ : ∃ n : Nat, v = .int (n : Int) ∧ n ≤ 8 := by
    match i, hv with
    | 0, hv => exact ⟨0, (Option.some.inj hv).symm, by decide⟩
    | 1, hv => exact ⟨1, (Option.some.inj hv).symm, by decide⟩
    | 2, hv => exact ⟨2, (Option.some.inj hv).symm, by decide⟩
    | 3, hv => exact ⟨3, (Option.some.inj hv).symm, by decide⟩
    | 4, hv => exact ⟨8, (Option.some.inj hv).symm, by decide⟩
    | n + 5, hv => cases hv
  exact q n _ H2 ⟨(w0.go dk2).set (by decide), get_set_eq (by rw [w0.len]; decide), hn⟩
/-- row, box = .. -/
def t1 : TS := fun Dn σ H => ∃ D B C cells n, W1 D B C cells n σ H ∧ ∀ ps r b σ' H', Wd D B C cells n ps r b σ' H' → Dn.nx σ' H'
theorem b1 (T : Env58 P w K mg base) (hr : Room 6 (LX P w K mg base f cdv Ar out s0 H0 E).A) : PS (LX P w K mg base f cdv Ar out s0 H0 E) (stL 1) t1 := by
  obtain ⟨fO, fdO, GO⟩ := T.one
  obtain ⟨fB, fdB, GB⟩ := T.box
  refine ps_imp (ps_asg (pe_tup (pa_cons (pe_tup (pa_cons (pv 3) (pa_cons (pe_tup (pa_cons (pe_tup (pa_cons pe_str (pa_cons pe_int pa_nil))) pa_nil)) (pa_cons (pe_tup (pa_cons pe_int pa_nil)) pa_nil))))
      (pa_cons (pe_call GB.F (hr.mono (by decide)) (by rfl) GB.g GB.kp GB.b .nil pass0 (pa_cons (pv 1) (pa_cons (pv 3) (pa_cons (pe_call GO.F (hr.mono (by decide)) (by rfl) GO.g GO.kp GO.b .nil pass0 (pa_cons (pv 1) (pa_cons (pe_lst (pa_cons pe_int (pa_cons pe_int (pa_cons pe_int pa_nil)))) pa_nil))) pa_nil)))) pa_nil)))
    (pg_tup rfl (pgs_cons (pg_name (i := 4) scLaw.nd rfl (.inl rfl)) (pgs_cons (pg_name (i := 5) scLaw.nd rfl (.inr rfl)) pgs_nil)))) ?_
  rintro Dn σ H ⟨D, B, C, cells, n, w1, q⟩
  refine ⟨_, w1.s3, sz1 rfl, fun a1 n1 => ⟨sz1 rfl, fun a2 n2 => ⟨sz1 rfl, fun a3 n3 => ⟨sz1 rfl, fun a4 n4 => ?_⟩⟩⟩⟩
  have s4 := ((same_upd (o := .tup [.str (S "set"), .int 1]) n1).trans (same_upd (o := .tup [.ref a1]) n2)).trans ((same_upd (o := .tup [.int 0]) n3).trans (same_upd (o := .tup [.int (n : Int), .ref a2, .ref a3]) n4))
  have dk4 := w1.dk.same s4
  refine ⟨_, w1.s1, _, w1.s3, _, w1.s1, sz1 rfl, fun L nL => ?_⟩
  have s5 := same_upd (o := .lst [.int 0, .int 3, .int 1000]) nL
  refine ⟨D, B, C, cells, L, _, rfl, dk4.same s5, upd_same, dk4.neD nL, dk4.neB nL, by show 0 < 3; decide, by show 3 < 1073741824; decide, fun i v H6 hv dk6 f6 => ?_⟩
  obtain ⟨m, rfl, m0, m1⟩ : ∃ m : Int, v = .int m ∧ 0 ≤ m ∧ m ≤ 1000 := by
    match i, hv with
    | 0, hv => exact ⟨0, (Option.some.inj hv).symm, by decide, by decide⟩
    | 1, hv => exact ⟨3, (Option.some.inj hv).symm, by decide, by decide⟩
    | 2, hv => exact ⟨1000, (Option.some.inj hv).symm, by decide, by decide⟩
    | n + 3, hv => cases hv
  refine ⟨D, B, C, cells, n, m, rfl, dk6, w1.n8, m0, m1, fun b ps H7 hl g hb dk7 f7 => ⟨sz1 rfl, fun t nt => ?_⟩⟩
  have s8 := same_upd (o := .tup [.ref a4, .ref b]) nt
  have r7 : H7 a4 = some (.tup [.int (n : Int), .ref a2, .ref a3]) := f7 _ _ (tup_ne dk6 (f6 _ _ (tup_ne (dk4.same s5) (s5 _ _ upd_same)).1 (tup_ne (dk4.same s5) (s5 _ _ upd_same)).2 (s5 _ _ upd_same))).1 (tup_ne dk6 (f6 _ _ (tup_ne (dk4.same s5) (s5 _ _ upd_same)).1 (tup_ne (dk4.same s5) (s5 _ _ upd_same)).2 (s5 _ _ upd_same))).2 (f6 _ _ (tup_ne (dk4.same s5) (s5 _ _ upd_same)).1 (tup_ne (dk4.same s5) (s5 _ _ upd_same)).2 (s5 _ _ upd_same))
  refine ⟨t, _, rfl, SqT.of upd_same, rfl, .ref a4, [.ref b], rfl, .ref b, [], rfl, rfl, q ps a4 b _ _ ?_⟩
  have dk8 := dk7.same s8
  refine ⟨⟨((w1.toW0.go dk8).set (by decide)).set (by decide), ?_, w1.n8⟩, ?_, ?_, ⟨_, s8 _ _ r7⟩, hb.same s8, g, hl⟩
  · rw [get_set_ne (by decide), get_set_ne (by decide)]
    exact w1.s3
  · rw [get_set_ne (by decide)]
    exact get_set_eq (by rw [w1.len]; decide)
  · exact get_set_eq (by rw [List.length_set, w1.len]; decide)
end
end Jg
namespace Jg
open PySem PySem.Spec PyProof.Rows L2
/-! ### slots of a comprehension's own names -/
section
variable {σ : L2.St} {i j k : Nat} {x y : Option V}
theorem wipe1 : wipe ((wipe σ [i]).set i x) [i] = wipe σ [i] := by
  show ((σ.set i none).set i x).set i none = σ.set i none
  rw [List.set_set, List.set_set]
theorem wipe2 (h : i ≠ j) : wipe (((wipe σ [i, j]).set i x).set j y) [i, j] = wipe σ [i, j] := by
  show (((((σ.set j none).set i none).set i x).set j y).set j none).set i none = (σ.set j none).set i none
  rw [List.set_set, List.set_set, List.set_comm _ _ h, List.set_set, List.set_set]
theorem w1_own (h : i < σ.length) : ((wipe σ [i]).set i x)[i]? = some x := get_set_eq (by rw [wipe_length]; exact h)
theorem w1_out (h : i ≠ k) : ((wipe σ [i]).set i x)[k]? = σ[k]? := by
  rw [get_set_ne h]
  exact get_set_ne h
theorem w2_one (h : i < σ.length) (hij : i ≠ j) : (((wipe σ [i, j]).set i x).set j y)[i]? = some x := by
  rw [get_set_ne hij.symm]
  exact get_set_eq (by rw [wipe_length]; exact h)
theorem w2_two (h : j < σ.length) : (((wipe σ [i, j]).set i x).set j y)[j]? = some y := get_set_eq (by rw [List.length_set, wipe_length]; exact h)
theorem w2_out (h1 : i ≠ k) (h2 : j ≠ k) : (((wipe σ [i, j]).set i x).set j y)[k]? = σ[k]? := by
  rw [get_set_ne h2, get_set_ne h1]
  show ((σ.set j none).set i none)[k]? = σ[k]?
  rw [get_set_ne h1, get_set_ne h2]
end
/-! ### pairs made from the pairs of a box -/
def PvP (D B : Addr) (H : Hp) (D1 : Addr) (ps : List (Int × Int)) (G : Int × Int → Int × Int) (i : Nat) (H3 : Hp) : Prop :=
  ∃ xs, H3 D1 = some (.lst xs) ∧ DqAll D B H3 xs (((ps.take i).map G).map pairD) ∧ Same H H3
theorem pvp_start {D B : Addr} {H : Hp} {D1 : Addr} {ps : List (Int × Int)} {G : Int × Int → Int × Int} (n : H D1 = none) : PvP D B H D1 ps G 0 (upd H D1 (.lst [])) := ⟨[], upd_same, .nil, same_upd n⟩
theorem pvp_next {D B : Addr} {H H3 H4 : Hp} {D1 : Addr} {ps : List (Int × Int)} {G : Int × Int → Int × Int} {i : Nat} {p : Int × Int} {t : Addr} (h : PvP D B H D1 ps G i H3) (n : H D1 = none) (hp : ps[i]? = some p) (h8 : ps.length ≤ 8) (s : Same H3 H4)
    (e : H4 t = some (.tup [.int (G p).1, .int (G p).2])) : ∃ acc, H4 D1 = some (.lst acc) ∧ acc.length < sizeLine ∧ PvP D B H D1 ps G (i + 1) (upd H4 D1 (.lst (acc ++ [.ref t]))) := by
  obtain ⟨xs, e1, hx, s1⟩ := h
  have e4 := s _ _ e1
  have hx4 := hx.same s
  have hl := hx.len
  have hil : i < ps.length := (List.getElem?_eq_some_iff.mp hp).1
  rw [List.length_map, List.length_map, List.length_take] at hl
  have fL : ∀ b o, b ≠ D1 → H4 b = some o → (upd H4 D1 (.lst (xs ++ [.ref t]))) b = some o := fun b o hb h => by
    rw [upd_ne hb]
    exact h
  have nt : t ≠ D1 := fun z => by
    rw [z, e4] at e
    cases e
  refine ⟨xs, e4, small1000 (by omega), xs ++ [.ref t], upd_same, ?_, fun b o hb => ?_⟩
  · rw [take_map_next hp, List.map_append]
    exact DqAll.append (.cons (.tup (fL _ _ nt e) (.cons (.int _) (.cons (.int _) .nil))) .nil) (pairs_keep e4 fL hx4)
  · rw [upd_ne (ne_of_none hb n)]
    exact s _ _ (s1 _ _ hb)
theorem pvp_end {D B : Addr} {H H3 : Hp} {D1 : Addr} {ps : List (Int × Int)} {G : Int × Int → Int × Int} {m : Nat} (h : PvP D B H D1 ps G m H3) (hm : m = ps.length) : ∃ xs, H3 D1 = some (.lst xs) ∧ DqAll D B H3 xs ((ps.map G).map pairD) ∧ Same H H3 := by
  obtain ⟨xs, e1, hx, s1⟩ := h
  rw [hm, List.take_length] at hx
  exact ⟨xs, e1, hx, s1⟩
/-- an item of the list that is gone through -/
structure It (D B : Addr) (H : Hp) (v : V) (d : PyData) : Prop where
  dq : Dq D B H v d
  ok : Ok 6 600000 d
  sz : szT d ≤ 1000000
def Its (D B : Addr) (H : Hp) (vs : List V) : Prop := ∃ ds, DqAll D B H vs ds ∧ ∀ d ∈ ds, Ok 6 600000 d ∧ szT d ≤ 1000000
theorem ok_pair {p : Int × Int} (h1 : p.1.natAbs ≤ 10 ^ 20 + 1) (h2 : p.2.natAbs ≤ 10 ^ 20 + 1) : Ok 1 59 (pairD p) :=
  ok_tup (n := 2) (k := 0) (c := 26) (fun x hx => by
    rcases List.mem_cons.mp hx with rfl | hx
    · exact ok_int25 (Nat.lt_of_le_of_lt h1 (by decide))
    · rw [List.mem_singleton.mp hx]
      exact ok_int25 (Nat.lt_of_le_of_lt h2 (by decide))) (Nat.le_refl 2)
theorem ok_pairs {qs : List (Int × Int)} (h : ∀ p ∈ qs, p.1.natAbs ≤ 10 ^ 20 + 1 ∧ p.2.natAbs ≤ 10 ^ 20 + 1) (hl : qs.length ≤ 9) : Ok 2 552 (boxD qs) :=
  ok_tup (n := 9) (k := 1) (c := 59) (fun x hx => by
    obtain ⟨p, hp, rfl⟩ := List.mem_map.mp hx
    exact ok_pair (h p hp).1 (h p hp).2) (by rw [List.length_map]; exact hl)
theorem sz_box {qs : List (Int × Int)} : szT (boxD qs) = qs.length := by
  show (qs.map pairD).length = _
  rw [List.length_map]
theorem Good.abs {ps : List (Int × Int)} (g : Good ps) : ∀ p ∈ ps, p.1.natAbs ≤ 10 ^ 20 + 1 ∧ p.2.natAbs ≤ 10 ^ 20 + 1 := fun p hp => by
  have h1 := g.lo p hp
  have h2 := g.le p hp
  have h3 := g.hi p hp
  have e : (M20 : Int) = 100000000000000000000 := by decide
  have e2 : (10 : Nat) ^ 20 + 1 = 100000000000000000001 := by decide
  rw [e] at h1 h3
  rw [e2]
  omega
structure W4 (D B C : Addr) (cells : List Int) (n : Nat) (ps : List (Int × Int)) (r b : Addr) (σ : L2.St) (H : Hp) : Prop extends Wd D B C cells n ps r b σ H where
  far : ∃ v d, σ[8]? = some (some v) ∧ It D B H v d
/-- another box is put in its place -/
theorem Wd.put {D B C : Addr} {cells : List Int} {n : Nat} {ps qs : List (Int × Int)} {r b l : Addr} {σ : L2.St} {H H' : Hp} (wd : Wd D B C cells n ps r b σ H) (dk : DeckAt D B C cells H') (row : ∃ rs, H' r = some (.tup (.int (n : Int) :: rs))) (bx : Dq D B H' (.ref l) (boxD qs)) (g : Good qs) (hn : qs.length = n) :
    Wd D B C cells n qs r l (σ.set 5 (some (.ref l))) H' := by
  have h1 := (wd.toW0.go dk).set (v := some (.ref l)) (show (5 : Nat) ≠ 1 by decide)
  refine ⟨⟨h1, ?_, wd.n8⟩, ?_, get_set_eq (by rw [wd.len]; decide), row, bx, g, hn⟩
  · rw [get_set_ne (by decide)]
    exact wd.s3
  · rw [get_set_ne (by decide)]
    exact wd.s4
section
variable {P : Program} {w : World} {K : PySem.W.Frag} {mg : Str → Option Value} {base : Heap} {f : Addr} {cdv : Value} {Ar : Around} {out : List Env} {s0 : Shared} {H0 : Hp} {E : XK}
/-- if .. : box = .. -/
def t2 : TS := fun Dn σ H => ∃ D B C cells n ps r b, Wd D B C cells n ps r b σ H ∧ ∀ ps b σ' H', Wd D B C cells n ps r b σ' H' → Dn.nx σ' H'
theorem b2 (T : Env58 P w K mg base) (hr : Room 6 (LX P w K mg base f cdv Ar out s0 H0 E).A) : PS (LX P w K mg base f cdv Ar out s0 H0 E) (stL 2) t2 := by
  obtain ⟨fD, fdD, GD⟩ := T.draw
  refine ps_imp (ps_if (pt_cmpR op_eq (pe_call GD.F (hr.mono (by decide)) (by rfl) GD.g GD.kp GD.b .nil pass0 (pa_cons (pv 1) (pa_cons pe_int pa_nil))) pe_int (nomark _))
    (pss_one (ps_set (i := 5) scLaw.nd rfl (.inr rfl) (pe_callTy call_tuple_of (by rfl) T.bn.tup boot_tuple' (pa_cons (pe_lc (own := [("_law_low", 6), ("_law_high", 7)]) (g := gTup K 2 (gCons (gName 6) (gCons (gName 7) gNil))) (tt := tYes) rfl scLaw.nd (pi_tup (pv 5))
      (blkOk_by (N := nLaw) (sc := defScope sLaw) (by decide +kernel)) (fun _ _ _ _ _ => pg_tup rfl (pgs_cons (pg_name (i := 6) scLaw.nd rfl (.inl rfl) (.inr rfl)) (pgs_cons (pg_name (i := 7) scLaw.nd rfl (.inl rfl) (.inr rfl)) pgs_nil))) (fun _ _ _ _ _ => pts_nil)
      (fun _ _ _ _ _ => pe_tup (pa_cons (pe_callB (call_min2 rfl) (by rfl) T.bn.min boot_min' (pa_cons pe_int (pa_cons (pv 6) pa_nil))) (pa_cons (pe_op op_sub (pe_op op_pow pe_int pe_int) (pe_call GD.F (hr.mono (by decide)) (by rfl) GD.g GD.kp GD.b .nil pass0 (pa_cons (pv 1) (pa_cons pe_int pa_nil)))) pa_nil)))) pa_nil)))) pss_nil) ?_
  rintro Dn σ H ⟨D, B, C, cells, n, ps, r, b, wd, q⟩
  refine ⟨_, wd.s1, D, B, C, cells, 3, rfl, wd.dk, by decide, by decide, fun j H1 j0 j1 dk1 f1 => ⟨rfl, _, rfl, ite2 (fun _ => ?_) (fun _ => q ps b σ H1 (wd.go dk1 f1))⟩⟩
  have w1 := wd.go dk1 f1
  obtain ⟨a, xs, ea, e, ha⟩ := w1.box.tupE
  cases ea
  have hxl : xs.length = ps.length := by rw [ha.len, List.length_map]
  have h8 := wd.good.len
  have eM : (M20 : Int) = 100000000000000000000 := by decide
  refine ⟨_, w1.s5, b, rfl, ⟨_, SqT.of e⟩, fun D1 nD1 => ?_⟩
  have nD := dk1.neD nD1
  have nB := dk1.neB nD1
  have nC := ne_of_none dk1.cel nD1
  refine lc_tup (K := K) (a := b) (xs := xs) (fun i H3 => ∃ zs qs, H3 D1 = some (.lst zs) ∧ DqAll D B H3 zs (qs.map pairD) ∧ qs.length = i ∧ Good qs ∧ DeckAt D B C cells H3 ∧ Fr D B H1 H3) ⟨[], [], upd_same, .nil, rfl, Good.nil, dk1.same (same_upd nD1), Fr.of_same (same_upd nD1)⟩
    (fun i H3 _ ⟨_, _, _, _, _, _, _, f3⟩ => SqT.of (f3 _ _ (tup_ne dk1 e).1 (tup_ne dk1 e).2 e)) ?_ ?_
  · rintro i x H3 hi ⟨zs, qs, e3, hz, hl, g3, dk3, f3⟩
    obtain ⟨p, c, hp, rfl, ec⟩ := ha.pairAt hi
    have hil : i < ps.length := (List.getElem?_eq_some_iff.mp hp).1
    have hpm := List.mem_of_getElem? hp
    have p1 := wd.good.lo p hpm
    have ec3 := f3 _ _ (tup_ne dk1 ec).1 (tup_ne dk1 ec).2 ec
    have l6 : 6 < σ.length := by rw [wd.len]; decide
    refine ⟨c, _, rfl, SqT.of ec3, rfl, .int p.1, [.int p.2], rfl, .int p.2, [], rfl, rfl, ?_⟩
    have l7 : 7 < σ.length := by rw [wd.len]; decide
    refine ⟨wipe2 (by decide), tYes_if ⟨_, w2_one l6 (by decide), 0, p.1, rfl, ?_⟩⟩
    obtain ⟨lo, elo, lo0, lo1⟩ : ∃ lo, lo = (if p.1 < 0 then p.1 else 0) ∧ -M20 ≤ lo ∧ lo ≤ 0 := by
      refine ⟨_, rfl, ?_, ?_⟩ <;> split <;> omega
    rw [← elo]
    refine ⟨_, _, rfl, rfl, ⟨by decide, by decide, by decide⟩, _, (w2_out (i := 6) (j := 7) (k := 1) (by decide) (by decide)).trans wd.s1, D, B, C, cells, 3, rfl, dk3, by decide, by decide, fun u H4 u0 u1 dk4 f4 => ⟨_, _, rfl, rfl, sz1 rfl, fun t nt => ?_⟩⟩
    have s5 := same_upd (o := .tup [.int lo, .int (M20 - u)]) nt
    have e5 := s5 _ _ (f4 _ _ nD nB e3)
    have hz5 := (dk3.dataAll f4 hz).same s5
    have dk5 := dk4.same s5
    have fL : ∀ b o, b ≠ D1 → (upd H4 t (.tup [.int lo, .int (M20 - u)])) b = some o → (upd (upd H4 t (.tup [.int lo, .int (M20 - u)])) D1 (.lst (zs ++ [.ref t]))) b = some o := fun b o hb h => by
      rw [upd_ne hb]
      exact h
    have nt1 : t ≠ D1 := fun z => by
      rw [z, f4 _ _ nD nB e3] at nt
      cases nt
    refine ⟨zs, e5, small1000 (by rw [hz.len, List.length_map]; omega), zs ++ [.ref t], qs ++ [(lo, M20 - u)], upd_same, ?_, ?_, ?_, dk5.but fL nD.symm nB.symm nC, ?_⟩
    · rw [List.map_append]
      exact DqAll.append (.cons (.tup (fL _ _ nt1 upd_same) (.cons (.int _) (.cons (.int _) .nil))) .nil) (pairs_keep e5 fL hz5)
    · rw [List.length_append, hl]
      rfl
    · exact g3.snoc (by omega) lo0 (by show lo ≤ M20 - u; omega) (by show M20 - u ≤ M20; omega)
    · intro c2 o h1 h2 h
      rw [upd_ne (ne_of_none h nD1)]
      exact s5 _ _ (f4 _ _ h1 h2 (f3 _ _ h1 h2 h))
  · rintro H3 ⟨zs, qs, e3, hz, hl, g3, dk3, f3⟩
    refine ⟨D1, zs, rfl, .inl ⟨SqL.of e3, fun l nl => ?_⟩⟩
    have s4 := same_upd (o := .tup zs) nl
    have w3 := w1.go (dk3.same s4) (f3.trans (Fr.of_same s4))
    exact q qs l _ _ (wd.put (dk3.same s4) w3.row (.tup upd_same (hz.same s4)) g3 (by rw [hl, hxl]; exact wd.np))
end
end Jg
namespace Jg
open PySem PySem.Spec PyProof.Rows L2
theorem up_tup {es : List PyData} (h : ∀ x ∈ es, Ok 1 59 x) (hl : es.length ≤ 9) : Ok 6 600000 (.tuple es) ∧ szT (.tuple es) ≤ 1000000 := ⟨(ok_tup h hl).mono (by decide) (by decide), Nat.le_trans hl (by decide)⟩
theorem up_lst {es : List PyData} (h : ∀ x ∈ es, Ok 1 59 x) (hl : es.length ≤ 9) : Ok 6 600000 (.list es) ∧ szT (.list es) ≤ 1000000 := ⟨(ok_lst h hl).mono (by decide) (by decide), Nat.zero_le _⟩
theorem pairs_ok {qs : List (Int × Int)} (h : ∀ p ∈ qs, p.1.natAbs ≤ 10 ^ 20 + 1 ∧ p.2.natAbs ≤ 10 ^ 20 + 1) : ∀ x ∈ qs.map pairD, Ok 1 59 x := fun x hx => by
  obtain ⟨p, hp, rfl⟩ := List.mem_map.mp hx
  exact ok_pair (h p hp).1 (h p hp).2
theorem all_cons {R : PyData → Prop} {d : PyData} {ds : List PyData} (h1 : R d) (h2 : ∀ x ∈ ds, R x) : ∀ x ∈ d :: ds, R x := fun x hx => by
  rcases List.mem_cons.mp hx with rfl | hx
  · exact h1
  · exact h2 x hx
theorem all_nil {R : PyData → Prop} : ∀ x ∈ ([] : List PyData), R x := fun _ h => nomatch h
theorem all_app {R : PyData → Prop} {ds es : List PyData} (h1 : ∀ x ∈ ds, R x) (h2 : ∀ x ∈ es, R x) : ∀ x ∈ ds ++ es, R x := fun x hx => (List.mem_append.mp hx).elim (h1 x) (h2 x)
abbrev Fine (d : PyData) : Prop := Ok 6 600000 d ∧ szT d ≤ 1000000
structure W5 (D B C : Addr) (cells : List Int) (n : Nat) (ps : List (Int × Int)) (r b : Addr) (m : Nat) (σ : L2.St) (H : Hp) : Prop extends Wd D B C cells n ps r b σ H where
  some : ∃ L vs ds, σ[9]? = some (some (.ref L)) ∧ H L = some (.lst vs) ∧ L ≠ D ∧ L ≠ B ∧ DqAll D B H vs ds ∧ (∀ d ∈ ds, Fine d) ∧ ds.length = m
section
variable {P : Program} {w : World} {K : PySem.W.Frag} {mg : Str → Option Value} {base : Heap} {f : Addr} {cdv : Value} {Ar : Around} {out : List Env} {s0 : Shared} {H0 : Hp} {E : XK}
def t3 : TS := fun Dn σ H => ∃ D B C cells n ps r b, Wd D B C cells n ps r b σ H ∧ ∀ σ' H', W4 D B C cells n ps r b σ' H' → Dn.nx σ' H'
theorem b3 (T : Env58 P w K mg base) : PS (LX P w K mg base f cdv Ar out s0 H0 E) (stL 3) t3 := by
  refine ps_imp (ps_set (i := 8) scLaw.nd rfl (.inl rfl) (pe_callTy call_tuple_of (by rfl) T.bn.tup boot_tuple' (pa_cons (pe_lc (own := [("_law_low", 6), ("_law_high", 7)]) (g := gTup K 2 (gCons (gName 6) (gCons (gName 7) gNil))) (tt := tYes) rfl scLaw.nd (pi_tup (pv 5))
      (blkOk_by (N := nLaw) (sc := defScope sLaw) (by decide +kernel)) (fun _ _ _ _ _ => pg_tup rfl (pgs_cons (pg_name (i := 6) scLaw.nd rfl (.inl rfl) (.inr rfl)) (pgs_cons (pg_name (i := 7) scLaw.nd rfl (.inl rfl) (.inr rfl)) pgs_nil))) (fun _ _ _ _ _ => pts_nil)
      (fun _ _ _ _ _ => pe_tup (pa_cons (pv 6) (pa_cons (pe_op op_add (pe_op op_pow pe_int pe_int) pe_int) pa_nil)))) pa_nil))) ?_
  rintro Dn σ H ⟨D, B, C, cells, n, ps, r, b, wd, q⟩
  obtain ⟨a, xs, ea, e, ha⟩ := wd.box.tupE
  cases ea
  have hxl : xs.length = ps.length := by rw [ha.len, List.length_map]
  have h8 := wd.good.len
  have l6 : 6 < σ.length := by rw [wd.len]; decide
  refine ⟨_, wd.s5, b, rfl, ⟨_, SqT.of e⟩, fun D1 nD1 => ?_⟩
  refine lc_tup (K := K) (a := b) (xs := xs) (PvP D B H D1 ps fun p => (p.1, M20 + 1)) (pvp_start nD1) (fun i H3 _ h => by obtain ⟨_, _, _, s⟩ := h; exact SqT.of (s _ _ e)) ?_ ?_
  · intro i x H3 hi h
    obtain ⟨_, _, _, s3⟩ := id h
    obtain ⟨p, c, hp, rfl, ec⟩ := ha.pairAt hi
    refine ⟨c, _, rfl, SqT.of (s3 _ _ ec), rfl, .int p.1, [.int p.2], rfl, .int p.2, [], rfl, rfl, wipe2 (by decide), tYes_if ⟨_, w2_one l6 (by decide), _, _, rfl, rfl, ⟨by decide, by decide, by decide⟩, _, _, rfl, rfl, sz1 rfl, fun t nt => ?_⟩⟩
    exact pvp_next h nD1 hp h8 (same_upd nt) upd_same
  · intro H3 h
    obtain ⟨zs, e3, hz, s3⟩ := pvp_end h hxl
    refine ⟨D1, zs, rfl, .inl ⟨SqL.of e3, fun l nl => q _ _ ⟨(wd.same (s3.trans (same_upd nl))).set (by decide), _, _, get_set_eq (by rw [wd.len]; decide), .tup upd_same (hz.same (same_upd nl)), ?_, ?_⟩⟩⟩
    · refine Ok.mono (k := 2) (c := 552) (k' := 6) (c' := 600000) (ok_pairs (qs := ps.map fun p : Int × Int => (p.1, (M20 + 1 : Int))) (fun p hp => ?_) (by rw [List.length_map]; omega)) (by decide) (by decide)
      obtain ⟨p0, hp0, rfl⟩ := List.mem_map.mp hp
      exact ⟨(wd.good.abs p0 hp0).1, by show (M20 + 1 : Int).natAbs ≤ _; decide⟩
    · show (List.map pairD _).length ≤ 1000000
      rw [List.length_map, List.length_map]
      omega
def t4 : TS := fun Dn σ H => ∃ D B C cells n ps r b, W4 D B C cells n ps r b σ H ∧ ∀ σ' H', W5 D B C cells n ps r b 9 σ' H' → Dn.nx σ' H'
theorem b4 (T : Env58 P w K mg base) : PS (LX P w K mg base f cdv Ar out s0 H0 E) (stL 4) t4 := by
  refine ps_imp (ps_set (i := 9) scLaw.nd rfl (.inl rfl) (pe_lst (pa_cons (pv 5) (pa_cons (pe_slice sl_tupA (pv 5) (po_some pe_int) po_none) (pa_cons (pe_op op_catA (pv 5) (pe_tup (pa_cons (pe_tup (pa_cons pe_int (pa_cons pe_int pa_nil))) pa_nil)))
    (pa_cons (pe_callTy call_list_of (by rfl) T.bn.lst boot_list' (pa_cons (pv 5) pa_nil)) (pa_cons (pe_revT (pv 5)) (pa_cons (pv 8)
    (pa_cons (pe_callTy call_tuple_of (by rfl) T.bn.tup boot_tuple' (pa_cons (pe_lc (own := [("_law_own", 18)]) (g := gName 18) (tt := tYes) (te := tRevT K (tVar 18)) rfl scLaw.nd (pi_tup (pv 5)) (blkOk_by (N := nLaw) (sc := defScope sLaw) (by decide +kernel))
      (fun _ _ _ _ _ => pg_name (i := 18) scLaw.nd rfl (.inl rfl)) (fun _ _ _ _ _ => pts_nil) (fun _ _ _ _ _ => pe_revT (pv 18))) pa_nil))
    (pa_cons (pe_tup pa_nil) (pa_cons pe_non pa_nil))))))))))) ?_
  rintro Dn σ H ⟨D, B, C, cells, n, ps, r, b, w4, q⟩
  have wd := w4.toWd
  obtain ⟨vf, df, hf8, itf⟩ := w4.far
  obtain ⟨a, xs, ea, e, ha⟩ := wd.box.tupE
  cases ea
  have hxl : xs.length = ps.length := by rw [ha.len, List.length_map]
  have h8 := wd.good.len
  have l18 : 18 < σ.length := by rw [wd.len]; decide
  have pk := pairs_ok wd.good.abs
  have lk : (ps.map pairD).length ≤ 8 := by rw [List.length_map]; exact h8
  refine ⟨_, wd.s5, _, wd.s5, _, rfl, ?_⟩
  dsimp only [tNoPart]
  refine sl_read e fun c1 H1 s1 g1 => ?_
  obtain ⟨es1, hes1, mem1, len1⟩ := cut_data (ha.same s1) (some 1) none
  refine ⟨_, wd.s5, sz1 rfl, fun t1 n1 => ⟨sz1 rfl, fun t2 n2 => ?_⟩⟩
  have s2 := (same_upd (o := .tup [.int 0, .int 1]) n1).trans (same_upd (o := .tup [.ref t1]) n2)
  refine cat_read ((s1.trans s2) _ _ e) upd_same (by show _ + 1 ≤ 1000; omega) fun c2 H2 s3 g2 => ?_
  have s02 := s1.trans (s2.trans s3)
  have t1at : H2 t1 = some (.tup [.int 0, .int 1]) := s3 _ _ (same_upd (o := .tup [.ref t1]) n2 _ _ upd_same)
  refine ⟨_, wd.s5, b, xs, rfl, .inr (SqT.of (s02 _ _ e)), fun c3 n3 => ?_⟩
  have s4 := same_upd (o := .lst xs) n3
  have s04 := s02.trans s4
  have dk2 := wd.dk.same s02
  refine ⟨_, wd.s5, b, xs, rfl, SqT.of (s04 _ _ e), fun c4 n4 => ?_⟩
  have s5 := same_upd (o := .tup xs.reverse) n4
  have s05 := s04.trans s5
  refine ⟨_, hf8, _, wd.s5, b, rfl, ⟨_, SqT.of (s05 _ _ e)⟩, fun D1 nD1 => ?_⟩
  refine lc_tup (K := K) (a := b) (xs := xs) (PvP D B _ D1 ps fun p => (p.2, p.1)) (pvp_start nD1) (fun i H3 _ h => by obtain ⟨_, _, _, s⟩ := h; exact SqT.of ((s05.trans s) _ _ e)) ?_ ?_
  · intro i x H3 hi h
    obtain ⟨_, _, _, s⟩ := id h
    obtain ⟨p, c, hp, rfl, ec⟩ := ha.pairAt hi
    refine ⟨wipe1, tYes_if ⟨_, w1_own l18, c, _, rfl, SqT.of ((s05.trans s) _ _ ec), fun t nt => ?_⟩⟩
    exact pvp_next h nD1 hp h8 (same_upd nt) upd_same
  · intro H3 h
    obtain ⟨zs, e3, hz, s6⟩ := pvp_end h hxl
    refine ⟨D1, zs, rfl, .inl ⟨SqL.of e3, fun c5 n5 => ⟨Nat.zero_le _, fun c6 n6 => ⟨sz1 rfl, fun L nL => ?_⟩⟩⟩⟩
    have s7 := same_upd (o := .tup zs) n5
    have s8 := same_upd (o := .tup []) n6
    have s9 := same_upd (o := .lst [.ref b, .ref c1, .ref c2, .ref c3, .ref c4, vf, .ref c5, .ref c6, .non]) nL
    have s39 := ((s6.trans s7).trans s8).trans s9
    have s59 : Same _ _ := s5.trans s39
    have s29 := s4.trans s59
    have s19 := (s2.trans s3).trans s29
    have s09 := s1.trans s19
    have nLD := (((wd.dk.same s05).same s6).same (s7.trans s8)).neD nL
    have nLB := (((wd.dk.same s05).same s6).same (s7.trans s8)).neB nL
    refine q _ _ ⟨(wd.same s09).set (by decide), L, _, [boxD ps, .tuple es1, .tuple (ps.map pairD ++ [pairD (0, 1)]), .list (ps.map pairD), .tuple (ps.map pairD).reverse, df, boxD (ps.map fun p => (p.2, p.1)), .tuple [], .none], get_set_eq (by rw [wd.len]; decide), upd_same, nLD, nLB, ?_, ?_, rfl⟩
    · refine .cons (wd.box.same s09) (.cons (.tup (s19 _ _ g1) (hes1.same s19)) (.cons (.tup (s29 _ _ g2) ?_) (.cons (.lst (dk2.neD n3) (dk2.neB n3) (s59 _ _ upd_same) (ha.same s09)) (.cons (.tup (s39 _ _ upd_same) (ha.rev.same s09)) (.cons (itf.dq.same s09) (.cons (.tup ((s8.trans s9) _ _ upd_same) (hz.same ((s7.trans s8).trans s9))) (.cons (.tup (s9 _ _ upd_same) .nil) (.cons .non .nil))))))))
      exact DqAll.append (.cons (.tup (s29 _ _ t1at) (.cons (.int 0) (.cons (.int 1) .nil))) .nil) (ha.same s09)
    · refine all_cons (up_tup pk (by omega)) (all_cons (up_tup (fun x hx => pk x (mem1 x hx)) (by omega)) (all_cons (up_tup (all_app pk (all_cons (ok_pair (by decide) (by decide)) all_nil)) (by rw [List.length_append]; show _ + 1 ≤ 9; omega)) (all_cons (up_lst pk (by omega)) (all_cons (up_tup (fun x hx => pk x (List.mem_reverse.mp hx)) (by rw [List.length_reverse]; omega)) (all_cons ⟨itf.ok, itf.sz⟩ (all_cons (up_tup (pairs_ok (qs := ps.map fun p => (p.2, p.1)) fun p hp => ?_) (by rw [List.length_map, List.length_map]; omega)) (all_cons (up_tup all_nil (by decide)) (all_cons ⟨ok_non.mono (by decide) (by decide), Nat.zero_le _⟩ all_nil))))))))
      obtain ⟨p0, hp0, rfl⟩ := List.mem_map.mp hp
      exact ⟨(wd.good.abs p0 hp0).2, (wd.good.abs p0 hp0).1⟩
end
end Jg
namespace Jg
open PySem PySem.Spec PyProof.Rows L2
/-! ### t * 1 is t, t * 0 is () -/
theorem tmul_one (l : Addr) (its : Array Value) (n : Nat) (dd : Option Addr) (sl : Array (Option Value)) (u : Tok) :
    Meets (Builtin.«tuple.__mul__» ⟨[.ref l, .int 1 u], []⟩) (fun _ R s => s.heap.get? l = some { cls := .type "tuple", dict := dd, data := .seq its n, slots := sl } ∧ R (.ok (.ret (Value.ref l))) s) := by
  refine .of_wp fun prog w A R s h => ?_
  obtain ⟨hp, g, d, tk, os⟩ := s
  obtain ⟨hl, h⟩ := h
  have f1 := AutoSeq1.idx_int
  have c1 : (its.isEmpty || (1 : Int) == 1) = true := by simp
  wp_walk using AutoSeq1.wpAny_loadPart' hl
  exact ⟨_, rfl, h⟩
theorem tmul_nought (l : Addr) (its : Array Value) (n : Nat) (dd : Option Addr) (sl : Array (Option Value)) (u : Tok) (hi : its.isEmpty = false) :
    Meets (Builtin.«tuple.__mul__» ⟨[.ref l, .int 0 u], []⟩) (fun _ R s => s.heap.get? l = some { cls := .type "tuple", dict := dd, data := .seq its n, slots := sl } ∧
      R (.ok (.ret (Value.ref s.heap.objs.size))) { s with heap := s.heap.push { cls := Value.type "tuple", data := Data.seq #[] }, toks := s.toks }) := by
  refine .of_wp fun prog w A R s h => ?_
  obtain ⟨hp, g, d, tk, os⟩ := s
  obtain ⟨hl, h⟩ := h
  have f1 := AutoSeq1.idx_int
  have c1 : (its.isEmpty || (0 : Int) == 1) = false := by rw [hi]; rfl
  wp_walk using AutoSeq1.wpAny_loadPart' hl
  first
    | exact ⟨_, rfl, h⟩
    | (refine wpAny_ite_false (decide_eq_false (by rw [c1]; exact Bool.false_ne_true)) ?_
       wp_walk using AutoSeq1.wpAny_loadPart' hl
       exact ⟨_, rfl, h⟩)
section
variable {X : Cx}
/-- t * k, k from 0 to 8 -/
def rRepA : R2 := fun x y H Q => ∃ (l : Addr) (k : Nat) (xs : List V), x = .ref l ∧ y = .int (k : Int) ∧ H l = some (.tup xs) ∧ xs ≠ [] ∧ k ≤ 8 ∧ xs.length ≤ 100 ∧ ∀ p H', Same H H' → H' p = some (.tup (List.replicate k xs).flatten) → Q (.ref p) H'
theorem op_repA : OpR X (binaryOp .Mult) rRepA := by
  intro pins s σ H x y v u Q I rx ry h
  obtain ⟨l, k, xs, rfl, rfl, hT, hne, hk, hz, q⟩ := h
  by_cases h2 : 2 ≤ k
  · refine op_repT pins s σ H _ _ v u Q I rx ry ⟨l, (k : Int), xs, rfl, rfl, SqT.of hT, hne, by omega, by omega, by omega, fun p np => q p _ (same_upd np) ?_⟩
    rw [upd_same]
    rfl
  · cases rx
    obtain ⟨t, rfl⟩ := ry
    obtain ⟨its, r, ⟨⟨cls, dd, data, sl⟩, ho, hc, n, hd⟩, hs⟩ := I.tuple (SqT.of hT)
    simp only at hc hd
    subst hc hd
    have hi : its.toArray.isEmpty = false := by
      cases its with
      | nil =>
        cases r
        exact absurd rfl hne
      | cons a b => rfl
    have two : k = 0 ∨ k = 1 := by omega
    rcases two with rfl | rfl
    · refine wpAny_binaryOp_repeat_ref (T := "tuple") (U := "int") (by decide) ⟨_, ho, rfl⟩ (fun s' => typeIs_int s' _ t) noFill_tuple_mul F.fills_int_mul F.slot_int_rmul repeat_tuple F.slot_int_index.lookup
        (call_meets F.slot_int_rmul (typeIs_int s _ t) F.entry_int_rmul (F.args_int_rmul_2 _ _) (int_rmul_tuple _ t l its.toArray n dd sl) ⟨ho, rfl, ⟨_, ho, rfl⟩, call_meets F.slot_tuple_mul ⟨_, ho, rfl⟩ F.entry_tuple_mul (F.args_tuple_mul_2 _ _) (tmul_nought l its.toArray n dd sl t hi) ⟨ho, ?_⟩⟩)
      have nf : H s.heap.objs.size = none := I.hok.fresh (Nat.le_refl _)
      refine ⟨.ref s.heap.objs.size, _, I.laid (t' := s.toks) (o := .tup []) (fun b ob z => Heap.get?_push_of_some _ z) (Nat.le_refl _) ?_, rfl, q _ _ (same_upd nf) upd_same⟩
      exact ⟨Nat.zero_le _, [], .nil, IsTup.new _ _⟩
    · refine wpAny_binaryOp_repeat_ref (T := "tuple") (U := "int") (by decide) ⟨_, ho, rfl⟩ (fun s' => typeIs_int s' _ t) noFill_tuple_mul F.fills_int_mul F.slot_int_rmul repeat_tuple F.slot_int_index.lookup
        (call_meets F.slot_int_rmul (typeIs_int s _ t) F.entry_int_rmul (F.args_int_rmul_2 _ _) (int_rmul_tuple _ t l its.toArray n dd sl) ⟨ho, rfl, ⟨_, ho, rfl⟩, call_meets F.slot_tuple_mul ⟨_, ho, rfl⟩ F.entry_tuple_mul (F.args_tuple_mul_2 _ _) (tmul_one l its.toArray n dd sl t) ⟨ho, ?_⟩⟩)
      exact ⟨.ref l, H, I, rfl, q l H (Same.refl H) (by rw [hT, List.replicate_one, List.flatten_cons, List.flatten_nil, List.append_nil])⟩
end
end Jg
namespace Jg
open PySem PySem.Spec PyProof.Rows L2
/-! ### lists made from the pairs of a box -/
def listD (p : Int × Int) : PyData := .list [.int p.1, .int p.2]
def PL (D B D1 : Addr) (H : Hp) : List V → List (Int × Int) → Prop
  | [], [] => True
  | v :: vs, p :: ps => (∃ a, v = .ref a ∧ a ≠ D ∧ a ≠ B ∧ a ≠ D1 ∧ H a = some (.lst [.int p.1, .int p.2])) ∧ PL D B D1 H vs ps
  | _, _ => False
theorem PL.keep {D B D1 : Addr} {H H' : Hp} (f : ∀ b o, b ≠ D1 → H b = some o → H' b = some o) : ∀ {vs : List V} {ps : List (Int × Int)}, PL D B D1 H vs ps → PL D B D1 H' vs ps
  | [], [], _ => trivial
  | v :: vs, p :: ps, h => by
    obtain ⟨⟨a, e1, e2, e3, e4, e5⟩, h2⟩ := h
    exact ⟨⟨a, e1, e2, e3, e4, f _ _ e4 e5⟩, PL.keep f h2⟩
theorem PL.snoc {D B D1 : Addr} {H : Hp} {a : Addr} {p : Int × Int} (h1 : a ≠ D) (h2 : a ≠ B) (h3 : a ≠ D1) (e : H a = some (.lst [.int p.1, .int p.2])) : ∀ {vs : List V} {ps : List (Int × Int)}, PL D B D1 H vs ps → PL D B D1 H (vs ++ [.ref a]) (ps ++ [p])
  | [], [], _ => ⟨⟨a, rfl, h1, h2, h3, e⟩, trivial⟩
  | v :: vs, q :: ps, h => ⟨h.1, PL.snoc h1 h2 h3 e h.2⟩
theorem PL.dq {D B D1 : Addr} {H : Hp} : ∀ {vs : List V} {ps : List (Int × Int)}, PL D B D1 H vs ps → DqAll D B H vs (ps.map listD)
  | [], [], _ => .nil
  | v :: vs, p :: ps, h => by
    obtain ⟨⟨a, rfl, e2, e3, e4, e5⟩, h2⟩ := h
    exact .cons (.lst e2 e3 e5 (.cons (.int _) (.cons (.int _) .nil))) (PL.dq h2)
theorem PL.len {D B D1 : Addr} {H : Hp} : ∀ {vs : List V} {ps : List (Int × Int)}, PL D B D1 H vs ps → vs.length = ps.length
  | [], [], _ => rfl
  | v :: vs, p :: ps, h => congrArg Nat.succ (PL.len h.2)
theorem DqAll.repl {D B : Addr} {H : Hp} {v : V} {d : PyData} (h : Dq D B H v d) : ∀ k, DqAll D B H (List.replicate k [v]).flatten (List.replicate k d)
  | 0 => .nil
  | k + 1 => .cons h (DqAll.repl h k)
theorem ok_small {i : Int} (h : i.natAbs < 10 ^ 1) : Ok 0 2 (.int i) := by
  have h2 : i.natAbs < 2 ^ 90 := Nat.lt_trans h (by decide)
  refine ⟨(ok_intW (k := 90) (by decide) (by decide) h2).sh, (ok_intW (k := 90) (by decide) (by decide) h2).dp, ?_⟩
  simp only [PyData.shown]
  rw [PySem.ofString_length]
  exact int_text_length_le10 (by decide) h
theorem fine_rep {d : PyData} {k : Nat} (h : Ok 1 59 d) (hk : k ≤ 8) : Fine (.tuple (List.replicate k d)) := up_tup (fun x hx => (List.mem_replicate.mp hx).2 ▸ h) (by rw [List.length_replicate]; omega)
section
variable {P : Program} {w : World} {K : PySem.W.Frag} {mg : Str → Option Value} {base : Heap} {f : Addr} {cdv : Value} {Ar : Around} {out : List Env} {s0 : Shared} {H0 : Hp} {E : XK}
def t5 (m m' : Nat) : TS := fun Dn σ H => ∃ D B C cells n ps r b, W5 D B C cells n ps r b m σ H ∧ ∀ σ' H', W5 D B C cells n ps r b m' σ' H' → Dn.nx σ' H'
theorem b5 (T : Env58 P w K mg base) : PS (LX P w K mg base f cdv Ar out s0 H0 E) (stL 5) (t5 9 12) := by
  refine ps_imp (ps_set (i := 9) scLaw.nd rfl (.inl rfl) (pe_op op_cat (pv 9) (pe_lst (pa_cons (pe_callTy call_tuple_of (by rfl) T.bn.tup boot_tuple' (pa_cons (pe_lc (own := [("_law_own", 18)]) (g := gName 18) (tt := tYes) (te := tCB (fun xs H Q => ∃ p ys, xs = [.ref p] ∧ (SqL K H p ys ∨ SqT K H p ys) ∧ ∀ l, H l = none → Q (.ref l) (upd H l (.lst ys))) (tCons (tVar 18) tNil)) rfl scLaw.nd (pi_tup (pv 5)) (blkOk_by (N := nLaw) (sc := defScope sLaw) (by decide +kernel))
      (fun _ _ _ _ _ => pg_name (i := 18) scLaw.nd rfl (.inl rfl)) (fun _ _ _ _ _ => pts_nil) (fun _ _ _ _ _ => pe_callTy call_list_of (by rfl) T.bn.lst boot_list' (pa_cons (pv 18) pa_nil))) pa_nil))
    (pa_cons (pe_op op_repA (pe_tup (pa_cons (pe_tup (pa_cons (pe_op op_sub pe_int (pe_op op_pow pe_int pe_int)) (pa_cons (pe_op op_pow pe_int pe_int) pa_nil))) pa_nil)) (pv 3))
    (pa_cons (pe_op op_repA (pe_tup (pa_cons (pe_tup (pa_cons pe_int (pa_cons pe_bl pa_nil))) pa_nil)) (pv 3)) pa_nil)))))) ?_
  rintro Dn σ H ⟨D, B, C, cells, n, ps, r, b, w5, q⟩
  have wd := w5.toWd
  obtain ⟨L, vs, ds, hs9, eL, nLD, nLB, hvs, fine, hm⟩ := w5.some
  obtain ⟨a, xs, ea, e, ha⟩ := wd.box.tupE
  cases ea
  have hxl : xs.length = ps.length := by rw [ha.len, List.length_map]
  have h8 := wd.good.len
  have n8 := wd.n8
  have l18 : 18 < σ.length := by rw [wd.len]; decide
  refine ⟨_, hs9, _, wd.s5, b, rfl, ⟨_, SqT.of e⟩, fun D1 nD1 => ?_⟩
  refine lc_tup (K := K) (a := b) (xs := xs) (fun i H3 => ∃ zs, H3 D1 = some (.lst zs) ∧ PL D B D1 H3 zs (ps.take i) ∧ Same H H3) ⟨[], upd_same, trivial, same_upd nD1⟩ (fun i H3 _ ⟨_, _, _, s⟩ => SqT.of (s _ _ e)) ?_ ?_
  · rintro i x H3 hi ⟨zs, e3, hz, s3⟩
    obtain ⟨p, c, hp, rfl, ec⟩ := ha.pairAt hi
    have hil : i < ps.length := (List.getElem?_eq_some_iff.mp hp).1
    have dk3 := wd.dk.same s3
    refine ⟨wipe1, tYes_if ⟨_, w1_own l18, c, _, rfl, .inr (SqT.of (s3 _ _ ec)), fun t nt => ?_⟩⟩
    have s4 := same_upd (o := .lst [.int p.1, .int p.2]) nt
    have nt1 : t ≠ D1 := fun z => by
      rw [z, e3] at nt
      cases nt
    have fL : ∀ b o, b ≠ D1 → (upd H3 t (.lst [.int p.1, .int p.2])) b = some o → (upd (upd H3 t (.lst [.int p.1, .int p.2])) D1 (.lst (zs ++ [.ref t]))) b = some o := fun b o hb h => by
      rw [upd_ne hb]
      exact h
    refine ⟨zs, s4 _ _ e3, small1000 (by rw [hz.len, List.length_take]; omega), zs ++ [.ref t], upd_same, ?_, ?_⟩
    · rw [List.take_add_one, hp]
      exact PL.snoc (dk3.neD nt) (dk3.neB nt) nt1 (fL _ _ nt1 upd_same) ((hz.keep fun b o _ h => s4 b o h).keep fL)
    · intro c2 o h
      rw [upd_ne (ne_of_none h nD1)]
      exact s4 _ _ (s3 _ _ h)
  · rintro H3 ⟨zs, e3, hz, s3⟩
    rw [hxl, List.take_length] at hz
    refine ⟨D1, zs, rfl, .inl ⟨SqL.of e3, fun c1 n1 => ?_⟩⟩
    have s4 := same_upd (o := .tup zs) n1
    refine ⟨_, _, rfl, rfl, ⟨by decide, by decide, by decide⟩, _, _, rfl, rfl, _, _, rfl, rfl, ⟨by decide, by decide, by decide⟩, sz1 rfl, fun t1 m1 => ⟨sz1 rfl, fun t2 m2 => ⟨_, wd.s3, t2, n, [.ref t1], rfl, rfl, upd_same, (fun z => nomatch z), n8, (by show 1 ≤ 100; decide), fun c2 H5 s5 g5 => ?_⟩⟩⟩
    have s6 := same_upd (o := .tup [.int (0 - M20), .int M20]) m1
    have s7 := same_upd (o := .tup [.ref t1]) m2
    refine ⟨sz1 rfl, fun t3 m3 => ⟨sz1 rfl, fun t4 m4 => ⟨_, wd.s3, t4, n, [.ref t3], rfl, rfl, upd_same, (fun z => nomatch z), n8, (by show 1 ≤ 100; decide), fun c3 H6 s8 g6 => ⟨sz1 rfl, fun M nM => ?_⟩⟩⟩⟩
    have s9 := same_upd (o := .tup [.int 0, .bl true]) m3
    have s10 := same_upd (o := .tup [.ref t3]) m4
    have s11 := same_upd (o := .lst [.ref c1, .ref c2, .ref c3]) nM
    have k5 := ((s4.trans s6).trans s7).trans s5
    have k6 := (s9.trans s10).trans s8
    have kA := (s3.trans k5).trans (k6.trans s11)
    have dkA := wd.dk.same kA
    have hds : vs.length = 9 := by rw [hvs.len, hm]
    refine ⟨L, M, vs, _, rfl, rfl, kA _ _ eL, upd_same, ?_, fun p np => ?_⟩
    · rw [hds]
      exact sz1 (l := [(0 : Nat), 0, 0, 0, 0, 0, 0, 0, 0, 0, 0, 0]) rfl
    have s12 := same_upd (o := .lst (vs ++ [.ref c1, .ref c2, .ref c3])) np
    have kB := kA.trans s12
    refine q _ _ ⟨(wd.same kB).set (by decide), p, _, ds ++ [.tuple (ps.map listD), .tuple (List.replicate n (pairD (0 - M20, M20))), .tuple (List.replicate n (.tuple [.int 0, .bool true]))], get_set_eq (by rw [wd.len]; decide), upd_same, dkA.neD np, dkA.neB np, DqAll.append ?_ (hvs.same kB), all_app fine ?_, by rw [List.length_append, hm]; rfl⟩
    · have kE := s11.trans s12
      refine .cons (.tup (((((s6.trans s7).trans s5).trans k6).trans kE) _ _ upd_same) (hz.dq.same (k5.trans (k6.trans kE)))) (.cons (.tup ((k6.trans kE) _ _ g5) (DqAll.repl ?_ n)) (.cons (.tup (kE _ _ g6) (DqAll.repl ?_ n)) .nil))
      · exact .tup ((((s7.trans s5).trans k6).trans kE) _ _ upd_same) (.cons (.int _) (.cons (.int _) .nil))
      · exact .tup (((s10.trans s8).trans kE) _ _ upd_same) (.cons (.int _) (.cons (.bl _) .nil))
    · refine all_cons (up_tup (fun x hx => ?_) (by rw [List.length_map]; omega)) (all_cons (fine_rep (ok_pair (by decide) (by decide)) n8) (all_cons (fine_rep ?_ n8) all_nil))
      · obtain ⟨p0, hp0, rfl⟩ := List.mem_map.mp hx
        have g := wd.good.abs p0 hp0
        exact ok_lst (n := 2) (k := 0) (c := 26) (all_cons (ok_int25 (Nat.lt_of_le_of_lt g.1 (by decide))) (all_cons (ok_int25 (Nat.lt_of_le_of_lt g.2 (by decide))) all_nil)) (Nat.le_refl 2)
      · exact ok_tup (n := 2) (k := 0) (c := 26) (all_cons (ok_int25 (by decide)) (all_cons (ok_bl true) all_nil)) (Nat.le_refl 2)
theorem b6 : PS (LX P w K mg base f cdv Ar out s0 H0 E) (stL 6) (t5 12 15) := by
  refine ps_imp (ps_set (i := 9) scLaw.nd rfl (.inl rfl) (pe_op op_cat (pv 9) (pe_lst (pa_cons (pe_op op_repA (pe_tup (pa_cons (pe_tup (pa_cons (pe_op op_sub (pe_op op_sub pe_int (pe_op op_pow pe_int pe_int)) pe_int) (pa_cons pe_int pa_nil))) pa_nil)) (pv 3))
    (pa_cons (pe_op op_repA (pe_tup (pa_cons (pe_tup (pa_cons pe_int (pa_cons pe_int pa_nil))) pa_nil)) (pv 3)) (pa_cons (pe_op op_repA (pe_tup (pa_cons (pe_tup (pa_cons pe_int (pa_cons pe_int (pa_cons pe_int pa_nil)))) pa_nil)) (pv 3)) pa_nil)))))) ?_
  rintro Dn σ H ⟨D, B, C, cells, n, ps, r, b, w5, q⟩
  have wd := w5.toWd
  obtain ⟨L, vs, ds, hs9, eL, nLD, nLB, hvs, fine, hm⟩ := w5.some
  have n8 := wd.n8
  refine ⟨_, hs9, _, _, rfl, rfl, ⟨by decide, by decide, by decide⟩, _, _, rfl, rfl, _, _, rfl, rfl, sz1 rfl, fun t1 m1 => ⟨sz1 rfl, fun t2 m2 => ⟨_, wd.s3, t2, n, [.ref t1], rfl, rfl, upd_same, (fun z => nomatch z), n8, (by show 1 ≤ 100; decide), fun c1 H5 s5 g5 => ?_⟩⟩⟩
  have s6 := same_upd (o := .tup [.int (0 - M20 - 1), .int 0]) m1
  have s7 := same_upd (o := .tup [.ref t1]) m2
  refine ⟨sz1 rfl, fun t3 m3 => ⟨sz1 rfl, fun t4 m4 => ⟨_, wd.s3, t4, n, [.ref t3], rfl, rfl, upd_same, (fun z => nomatch z), n8, (by show 1 ≤ 100; decide), fun c2 H6 s8 g6 => ?_⟩⟩⟩
  have s9 := same_upd (o := .tup [.int 1, .int 0]) m3
  have s10 := same_upd (o := .tup [.ref t3]) m4
  refine ⟨sz1 rfl, fun t5 m5 => ⟨sz1 rfl, fun t6 m6 => ⟨_, wd.s3, t6, n, [.ref t5], rfl, rfl, upd_same, (fun z => nomatch z), n8, (by show 1 ≤ 100; decide), fun c3 H7 s13 g7 => ⟨sz1 rfl, fun M nM => ?_⟩⟩⟩⟩
  have s14 := same_upd (o := .tup [.int 0, .int 0, .int 0]) m5
  have s15 := same_upd (o := .tup [.ref t5]) m6
  have s11 := same_upd (o := .lst [.ref c1, .ref c2, .ref c3]) nM
  have k5 := (s6.trans s7).trans s5
  have k6 := (s9.trans s10).trans s8
  have k7 := (s14.trans s15).trans s13
  have kA := k5.trans (k6.trans (k7.trans s11))
  have dkA := wd.dk.same kA
  have hds : vs.length = 12 := by rw [hvs.len, hm]
  refine ⟨L, M, vs, _, rfl, rfl, kA _ _ eL, upd_same, ?_, fun p np => ?_⟩
  · rw [hds]
    exact sz1 (l := [(0 : Nat), 0, 0, 0, 0, 0, 0, 0, 0, 0, 0, 0, 0, 0, 0]) rfl
  have s12 := same_upd (o := .lst (vs ++ [.ref c1, .ref c2, .ref c3])) np
  have kB := kA.trans s12
  refine q _ _ ⟨(wd.same kB).set (by decide), p, _, ds ++ [.tuple (List.replicate n (pairD (0 - M20 - 1, 0))), .tuple (List.replicate n (pairD (1, 0))), .tuple (List.replicate n (.tuple [.int 0, .int 0, .int 0]))], get_set_eq (by rw [wd.len]; decide), upd_same, dkA.neD np, dkA.neB np, DqAll.append ?_ (hvs.same kB), all_app fine ?_, by rw [List.length_append, hm]; rfl⟩
  · have kE := s11.trans s12
    have k7E := k7.trans kE
    refine .cons (.tup ((k6.trans k7E) _ _ g5) (DqAll.repl ?_ n)) (.cons (.tup (k7E _ _ g6) (DqAll.repl ?_ n)) (.cons (.tup (kE _ _ g7) (DqAll.repl ?_ n)) .nil))
    · exact .tup (((s7.trans s5).trans (k6.trans k7E)) _ _ upd_same) (.cons (.int _) (.cons (.int _) .nil))
    · exact .tup (((s10.trans s8).trans k7E) _ _ upd_same) (.cons (.int _) (.cons (.int _) .nil))
    · exact .tup (((s15.trans s13).trans kE) _ _ upd_same) (.cons (.int _) (.cons (.int _) (.cons (.int _) .nil)))
  · refine all_cons (fine_rep (ok_pair (by decide) (by decide)) n8) (all_cons (fine_rep (ok_pair (by decide) (by decide)) n8) (all_cons (fine_rep ?_ n8) all_nil))
    exact (ok_tup (n := 3) (k := 0) (c := 2) (all_cons (ok_small (by decide)) (all_cons (ok_small (by decide)) (all_cons (ok_small (by decide)) all_nil))) (Nat.le_refl 3)).mono (by decide) (by decide)
end
end Jg
namespace Jg
open PySem PySem.Spec PyProof.Rows L2
theorem piled_ge : ∀ ts : List Str, ts.length ≤ piled ts
  | [] => Nat.le_refl _
  | t :: ts => by
    have h := piled_ge ts
    rw [piled_cons]
    simp only [List.length_cons]
    omega
theorem sz_shown (d : PyData) : szT d ≤ d.shown.length + 2 := by
  cases d with
  | tuple ds =>
    show ds.length ≤ _
    simp only [PyData.shown]
    have hl : (PyData.shownAll ds).length = ds.length := by
      induction ds with
      | nil => rfl
      | cons d ds ih => simp only [PyData.shownAll, List.length_cons, ih]
    cases hq : PyData.shownAll ds with
    | nil =>
      rw [hq] at hl
      rw [← hl]
      exact Nat.zero_le _
    | cons t r =>
      have h1 := join_length_add (t :: r) (by simp)
      have h2 := piled_ge (t :: r)
      rw [hq] at hl
      unfold tupleText
      rw [strLen_append, strLen_append]
      omega
  | _ => exact Nat.zero_le _
theorem fine_of {d : PyData} (h : Ok 6 600000 d) : Fine d := ⟨h, by have := sz_shown d; have := h.ln; omega⟩
theorem Ok.zl {d : PyData} (o : Ok 6 600000 d) : d.shown.length ≤ sizeLine := Nat.le_trans o.ln (by rw [sizeLine_eq]; decide)
theorem Ok.dl {d : PyData} (o : Ok 6 600000 d) : d.depth ≤ 60 := Nat.le_trans o.dp (by decide)
theorem ok_blF (b : Bool) : Ok 6 600000 (.bool b) := (ok_bl b).mono (by decide) (by decide)
theorem boot_repr' : bootBuiltins "repr" = some (.builtin "repr") := by decide +kernel
theorem Wd.at_ {D B C : Addr} {cells : List Int} {n : Nat} {ps : List (Int × Int)} {r b : Addr} {σ : L2.St} {H : Hp} (wd : Wd D B C cells n ps r b σ H) {i : Nat} (h : i < 20) {v : Option V} : (σ.set i v)[i]? = some v := get_set_eq (by rw [wd.len]; exact h)
section
variable {P : Program} {w : World} {K : PySem.W.Frag} {mg : Str → Option Value} {base : Heap} {f : Addr} {cdv : Value} {Ar : Around} {out : List Env} {s0 : Shared} {H0 : Hp} {E : XK}
def t7 : TS := fun Dn σ H => ∃ D B C cells n ps r b, W5 D B C cells n ps r b 15 σ H ∧ ∀ σ' H', Wd D B C cells n ps r b σ' H' → Dn.nx σ' H'
theorem b7 (T : Env58 P w K mg base) (hr : Room 6 (LX P w K mg base f cdv Ar out s0 H0 E).A) (hg : (LX P w K mg base f cdv Ar out s0 H0 E).A.guards = some []) : PS (LX P w K mg base f cdv Ar out s0 H0 E) (stL 7) t7 := by
  obtain ⟨fB, fdB, GB⟩ := T.bent
  obtain ⟨fX, fdX, GX⟩ := T.odd
  obtain ⟨fI, fdI, GI, _⟩ := T.isbox
  obtain ⟨fL, fdL, GL⟩ := T.lbox
  have hu := hr.units
  refine ps_imp (ps_for PassesOwn.never rfl (pi_list (pe_op op_cat (pe_op op_cat (pv 9) (pe_lc (own := [("_law_k", 19)]) (g := gName 19) (tt := tYes) rfl scLaw.nd (pi_range1 rfl T.bn.rng (pa_cons pe_int pa_nil)) (blkOk_by (N := nLaw) (sc := defScope sLaw) (by decide +kernel))
        (fun _ _ _ _ _ => pg_name (i := 19) scLaw.nd rfl (.inl rfl)) (fun _ _ _ _ _ => pts_nil) (fun _ _ _ _ _ => pe_call GB.F hr (by rfl) GB.g GB.kp GB.b .nil pass0 (pa_cons (pv 1) (pa_cons (pv 5) (pa_cons pe_int pa_nil))))))
      (pe_lst (pa_cons (pe_call GX.F (hr.mono (by decide)) (by rfl) GX.g GX.kp GX.b .nil pass0 (pa_cons (pv 1) pa_nil)) pa_nil)))) (pg_name (i := 10) scLaw.nd rfl (.inl rfl))
    (pss_cons (ps_set (i := 11) scLaw.nd rfl (.inl rfl) (pe_callB (call_reprD hg hu) (by rfl) T.bn.rep boot_repr' (pa_cons (pv 10) pa_nil)))
    (pss_one (ps_if (PW.pt (pw_or (pt_cmpR op_ne (pe_callB (call_reprD hg hu) (by rfl) T.bn.rep boot_repr' (pa_cons (pe_call GI.F (hr.mono (by decide)) (by rfl) GI.g GI.kp GI.b .nil pass0 (pa_cons (pv 4) (pa_cons (pv 10) pa_nil))) pa_nil))
        (pe_callB (call_reprD hg hu) (by rfl) T.bn.rep boot_repr' (pa_cons (pe_call GL.F (hr.mono (by decide)) (by rfl) GL.g GL.kp GL.b .nil pass0 (pa_cons (pv 3) (pa_cons (pv 10) pa_nil))) pa_nil)) (nomark _))
      (pw_or1 (pt_cmpR op_ne (pe_callB (call_reprD hg hu) (by rfl) T.bn.rep boot_repr' (pa_cons (pv 10) pa_nil)) (pv 11) (nomark _))))) (pss_one (ps_ret pe_bl)) pss_nil)))) ?_
  rintro Dn σ H ⟨D, B, C, cells, n, ps, r, b, w5, q⟩
  have wd := w5.toWd
  obtain ⟨L, vs, ds, hs9, eL, nLD, nLB, hvs, fine, hm⟩ := w5.some
  have plain : Plain 2 (boxD ps) := by
    refine ⟨_, rfl, by rw [List.length_map]; exact wd.good.len, fun x hx => ?_⟩
    obtain ⟨p, hp, rfl⟩ := List.mem_map.mp hx
    have h1 := wd.good.lo p hp
    have h2 := wd.good.le p hp
    have h3 := wd.good.hi p hp
    have e : (M20 : Int) = 100000000000000000000 := by decide
    rw [e] at h1 h3
    exact ⟨_, rfl, (by show 2 ≤ 8; decide), all_cons ⟨p.1, rfl, by omega⟩ (all_cons ⟨p.2, rfl, by omega⟩ all_nil)⟩
  refine ⟨_, hs9, 6, rfl, by decide, by decide, fun D1 nD1 => ?_⟩
  have nD := wd.dk.neD nD1
  have nB := wd.dk.neB nD1
  have nC := ne_of_none wd.dk.cel nD1
  have nL1 : L ≠ D1 := ne_of_none eL nD1
  -- the six bent ones: their data, each not the list itself
  refine lc_range (lo := 0) (n := 6) (fun i H3 => ∃ acc es, H3 D1 = some (.lst acc) ∧ DqAll D B H3 acc es ∧ DqAll D1 D1 H3 acc es ∧ (∀ d ∈ es, Fine d) ∧ acc.length = i ∧ DeckAt D B C cells H3 ∧ Fr D B H H3) ⟨[], [], upd_same, .nil, .nil, all_nil, rfl, wd.dk.same (same_upd nD1), Fr.of_same (same_upd nD1)⟩ ?_ ?_
  · rintro i H3 hi ⟨acc, es, e3, ha, haZ, hf, hl, dk3, f3⟩
    have w3 := wd.go dk3 f3
    refine ⟨wipe1, tYes_if ⟨_, (w1_out (i := 19) (k := 1) (by decide)).trans wd.s1, _, (w1_out (i := 19) (k := 5) (by decide)).trans wd.s5, D, B, C, cells, .ref b, boxD ps, rfl, dk3, w3.box, plain, fun v4 d4 H4 o4 q4 z4 dk4 f4 => ?_⟩⟩
    have e4 := f4 _ _ nD nB e3
    have a4 := dk3.dataAll f4 ha
    have a4Z := DqAll.two dk3.isD dk3.isB f4 es acc ha haZ
    have q4Z := z4 D1 (by rw [e3]; exact fun z => nomatch z)
    have fL : Fr D1 D1 H4 (upd H4 D1 (.lst (acc ++ [v4]))) := fun c o h _ h2 => by
      rw [upd_ne h]
      exact h2
    have isL : ∃ zs, H4 D1 = some (.lst zs) := ⟨_, e4⟩
    refine ⟨acc, e4, small1000 (by omega), acc ++ [v4], es ++ [d4], upd_same, ?_, ?_, all_app hf (all_cons (fine_of (o4.mono (by decide) (by decide))) all_nil), by rw [List.length_append, hl]; rfl, dk4.but (fun c o h h2 => fL c o h h h2) nD.symm nB.symm nC, fun c o h1 h2 h3 => ?_⟩
    · exact DqAll.append (.cons (Dq.two isL isL fL d4 v4 q4Z q4) .nil) (DqAll.two isL isL fL es acc a4Z a4)
    · exact DqAll.append (.cons (Dq.keep isL isL fL d4 v4 q4Z) .nil) (DqAll.keep isL isL fL es acc a4Z)
    · rw [upd_ne (ne_of_none h3 nD1)]
      exact f4 _ _ h1 h2 (f3 _ _ h1 h2 h3)
  · rintro H3 ⟨acc, es, e3, ha, _, hf, hl, dk3, f3⟩
    have hvl : vs.length = 15 := by rw [hvs.len, hm]
    refine ⟨L, D1, vs, acc, rfl, rfl, f3 _ _ nLD nLB eL, e3, by rw [hvl, hl]; exact sz1 (l := List.replicate 21 (0 : Nat)) rfl, fun p1 n1 => ?_⟩
    have s4 := same_upd (o := .lst (vs ++ acc)) n1
    have dk4 := dk3.same s4
    have pD := dk3.neD n1
    have pB := dk3.neB n1
    refine ⟨_, wd.s1, D, B, C, cells, rfl, dk4, fun vO dO H5 mO qO zO dk5 f5 => ⟨sz1 rfl, fun M nM => ?_⟩⟩
    have s6 := same_upd (o := .lst [vO]) nM
    have dk6 := dk5.same s6
    refine ⟨p1, M, vs ++ acc, _, rfl, rfl, s6 _ _ (f5 _ _ pD pB upd_same), upd_same, by rw [List.length_append, hvl, hl]; exact sz1 (l := List.replicate 22 (0 : Nat)) rfl, fun p2 n2 => ?_⟩
    have s7 := same_upd (o := .lst ((vs ++ acc) ++ [vO])) n2
    have f37 := ((Fr.of_same s4).trans f5).trans (Fr.of_same (s6.trans s7))
    have f07 := f3.trans f37
    have dk7 := dk6.same s7
    have w7 := wd.go dk7 f07
    have all : DqAll D B (upd (upd H5 M (.lst [vO])) p2 (.lst ((vs ++ acc) ++ [vO]))) ((vs ++ acc) ++ [vO]) ((ds ++ es) ++ [dO]) := DqAll.append (.cons ((qO.same s6).same s7) .nil) (DqAll.append (dk3.dataAll f37 ha) (wd.dk.dataAll f07 hvs))
    have fineA : ∀ d ∈ (ds ++ es) ++ [dO], Fine d := all_app (all_app fine hf) (all_cons (fine_of ((odd_ok _ mO).mono (by decide) (by decide))) all_nil)
    generalize (ds ++ es) ++ [dO] = dsA at all fineA
    generalize (vs ++ acc) ++ [vO] = vsA at all w7 ⊢
    refine ⟨p2, rfl, ⟨_, SqL.of upd_same⟩, for_list (K := K) (a := p2) (xs := vsA) (fun i σ3 H8 => Wd D B C cells n ps r b σ3 H8 ∧ H8 p2 = some (.lst vsA) ∧ DqAll D B H8 vsA dsA) ⟨w7, upd_same, all⟩ (fun i σ3 H8 _ h => SqL.of h.2.1) ?_ ?_⟩
    · rintro i x σ3 H8 hi ⟨w8, e8, a8⟩
      obtain ⟨d, hd, hq⟩ := a8.at_ i x hi
      obtain ⟨okd, szd⟩ := fineA d (List.mem_of_getElem? hd)
      obtain ⟨rs, hrow⟩ := w8.row
      have w9 := w8.set (i := 10) (v := some x) (by decide)
      have g10 : ((σ3.set 10 (some x)).set 11 (some (.str d.shown)))[10]? = some (some x) := by
        rw [get_set_ne (by decide)]
        exact w8.at_ (by decide)
      have w10 := w9.set (i := 11) (v := some (.str d.shown)) (by decide)
      refine ⟨_, w8.at_ (by decide), D, B, x, d, rfl, hq, okd.sh, okd.zl, okd.dl, ?_⟩
      refine ⟨_, w10.s4, _, g10, D, B, r, (n : Int), rs, x, d, rfl, hrow, hq, szd, fun H9 s9 => ⟨D, B, _, _, rfl, .bl _, (ok_blF _).sh, (ok_blF _).zl, (ok_blF _).dl, ?_⟩⟩
      refine ⟨_, w10.s3, _, g10, D, B, (n : Int), x, d, rfl, hq.same s9, szd, fun H10 s10 => ⟨D, B, _, _, rfl, .bl _, (ok_blF _).sh, (ok_blF _).zl, (ok_blF _).dl, rfl, _, rfl, iteNS rfl ?_⟩⟩
      have s910 := s9.trans s10
      refine ⟨_, g10, D, B, x, d, rfl, hq.same s910, okd.sh, okd.zl, okd.dl, _, w9.at_ (by decide), rfl, _, rfl, iteNS rfl ⟨w10.same s910, s910 _ _ e8, a8.same s910⟩⟩
    · rintro σ3 H8 ⟨w8, _, _⟩
      exact q σ3 H8 w8
end
end Jg
namespace Jg
open PySem PySem.Spec PyProof.Rows L2
abbrev midD (ps : List (Int × Int)) : PyData := .tuple (ps.map fun p => .int (midP p))
structure W9 (D B C : Addr) (cells : List Int) (n : Nat) (ps : List (Int × Int)) (r b : Addr) (z : Int) (σ : L2.St) (H : Hp) : Prop extends Wd D B C cells n ps r b σ H where
  s12 : σ[12]? = some (some (.int z))
structure Wm (D B C : Addr) (cells : List Int) (n : Nat) (ps : List (Int × Int)) (r b : Addr) (σ : L2.St) (H : Hp) : Prop extends Wd D B C cells n ps r b σ H where
  s12 : σ[12]? = some (some (.int (cnt ps)))
  s13 : ∃ a, σ[13]? = some (some (.ref a)) ∧ Dq D B H (.ref a) (midD ps)
theorem Good.cnt_ok {ps : List (Int × Int)} (g : Good ps) : Ok 0 546 (.int (cnt ps)) := by
  have h := g.cnt_lt ps.length (Nat.le_refl _)
  rw [List.take_length] at h
  have h2 : (cnt ps).natAbs < 2 ^ 545 := Nat.lt_of_lt_of_le h (Nat.pow_le_pow_right (by decide) (by have := g.len; omega))
  exact ok_intW (by decide) (by decide) h2
theorem Good.mid_ok {ps : List (Int × Int)} (g : Good ps) : Ok 1 227 (midD ps) := by
  refine ok_tup (n := 8) (k := 0) (c := 26) (fun x hx => ?_) (by rw [List.length_map]; exact g.len)
  obtain ⟨p, hp, rfl⟩ := List.mem_map.mp hx
  have h1 := g.lo p hp
  have h2 := g.le p hp
  have h3 := g.hi p hp
  have e : (M20 : Int) = 100000000000000000000 := by decide
  rw [e] at h1 h3
  refine ok_int25 ?_
  unfold midP
  rw [show (10 : Nat) ^ 25 = 10000000000000000000000000 by decide]
  omega
theorem Good.pair_ok {ps : List (Int × Int)} (g : Good ps) : Ok 6 600000 (.list [.int (cnt ps), midD ps]) :=
  Ok.mono (ok_lst (n := 2) (k := 1) (c := 546) (all_cons (g.cnt_ok.mono (by decide) (Nat.le_refl _)) (all_cons (g.mid_ok.mono (Nat.le_refl _) (by decide)) all_nil)) (Nat.le_refl 2)) (by decide) (by decide)
theorem Good.three_ok {ps : List (Int × Int)} (g : Good ps) : Ok 6 600000 (.list [.int (cnt ps), midD ps, .bool true]) :=
  Ok.mono (ok_lst (n := 3) (k := 1) (c := 546) (all_cons (g.cnt_ok.mono (by decide) (Nat.le_refl _)) (all_cons (g.mid_ok.mono (Nat.le_refl _) (by decide)) (all_cons ((ok_bl true).mono (by decide) (by decide)) all_nil))) (Nat.le_refl 3)) (by decide) (by decide)
theorem Good.boxOk {ps : List (Int × Int)} (g : Good ps) {n : Nat} (h : ps.length = n) : boxOk (n : Int) (boxD ps) = true := by
  show (decide (((ps.map pairD).length : Int) = (n : Int)) && (ps.map pairD).all rangeOk) = true
  rw [List.length_map, h, decide_eq_true rfl, Bool.true_and, List.all_map, List.all_eq_true]
  intro p hp
  show (decide (-M20 ≤ p.1) && decide (p.1 ≤ M20) && (decide (p.1 ≤ p.2) && decide (p.2 ≤ M20))) = true
  have h1 := g.lo p hp
  have h2 := g.le p hp
  have h3 := g.hi p hp
  rw [decide_eq_true h1, decide_eq_true (show p.1 ≤ M20 by omega), decide_eq_true h2, decide_eq_true h3]
  rfl
section
variable {P : Program} {w : World} {K : PySem.W.Frag} {mg : Str → Option Value} {base : Heap} {f : Addr} {cdv : Value} {Ar : Around} {out : List Env} {s0 : Shared} {H0 : Hp} {E : XK}
def t8 : TS := fun Dn σ H => ∃ D B C cells n ps r b, Wd D B C cells n ps r b σ H ∧ ∀ σ' H', W9 D B C cells n ps r b 1 σ' H' → Dn.nx σ' H'
theorem b8 : PS (LX P w K mg base f cdv Ar out s0 H0 E) (stL 8) t8 := by
  refine ps_imp (ps_set (i := 12) scLaw.nd rfl (.inl rfl) pe_int) ?_
  rintro Dn σ H ⟨D, B, C, cells, n, ps, r, b, wd, q⟩
  exact q _ _ ⟨wd.set (by decide), wd.at_ (by decide)⟩
def t9 : TS := fun Dn σ H => ∃ D B C cells n ps r b, W9 D B C cells n ps r b 1 σ H ∧ ∀ σ' H', W9 D B C cells n ps r b (cnt ps) σ' H' → Dn.nx σ' H'
theorem b9 : PS (LX P w K mg base f cdv Ar out s0 H0 E) (stL 9) t9 := by
  refine ps_imp (ps_for PassesOwn.never rfl (pi_tup (pv 5)) (pg_tup rfl (pgs_cons (pg_name (i := 6) scLaw.nd rfl (.inl rfl)) (pgs_cons (pg_name (i := 7) scLaw.nd rfl (.inl rfl)) pgs_nil)))
    (pss_one (ps_set (i := 12) scLaw.nd rfl (.inl rfl) (pe_op op_mulW (pv 12) (pe_op op_sub (pe_op op_add (pv 7) pe_int) (pv 6)))))) ?_
  rintro Dn σ H ⟨D, B, C, cells, n, ps, r, b, w9, q⟩
  have wd := w9.toWd
  have g := wd.good
  obtain ⟨a, xs, ea, e, ha⟩ := wd.box.tupE
  cases ea
  have hl : xs.length = ps.length := by rw [ha.len, List.length_map]
  refine ⟨_, wd.s5, b, rfl, ⟨_, SqT.of e⟩, for_tup (K := K) (a := b) (xs := xs) (fun i σ3 H3 => W9 D B C cells n ps r b (cnt (ps.take i)) σ3 H3 ∧ H3 = H) ⟨w9, rfl⟩ (fun i σ3 H3 _ h => by rw [h.2]; exact SqT.of e) ?_ ?_⟩
  · rintro i x σ3 H3 hi ⟨w3, rfl⟩
    obtain ⟨p, c, hp, rfl, ec⟩ := ha.pairAt hi
    have hil : i < ps.length := (List.getElem?_eq_some_iff.mp hp).1
    have hw := wide_mul (g.cnt_lt i (by omega)) (g.wide (List.mem_of_getElem? hp)) (by omega) (by decide) (by have := g.len; omega)
    have w6 := (w3.toWd.set (i := 6) (v := some (.int p.1)) (by decide)).set (i := 7) (v := some (.int p.2)) (by decide)
    have g12 : ((σ3.set 6 (some (.int p.1))).set 7 (some (.int p.2)))[12]? = some (some (.int (cnt (ps.take i)))) := by
      rw [get_set_ne (by decide), get_set_ne (by decide)]
      exact w3.s12
    have g7 : ((σ3.set 6 (some (.int p.1))).set 7 (some (.int p.2)))[7]? = some (some (.int p.2)) := (w3.toWd.set (i := 6) (by decide)).at_ (by decide)
    have g6 : ((σ3.set 6 (some (.int p.1))).set 7 (some (.int p.2)))[6]? = some (some (.int p.1)) := by
      rw [get_set_ne (by decide)]
      exact w3.toWd.at_ (by decide)
    have ew : p.2 + 1 - p.1 = p.2 - p.1 + 1 := by omega
    refine ⟨c, _, rfl, SqT.of ec, rfl, .int p.1, [.int p.2], rfl, .int p.2, [], rfl, rfl, _, g12, _, g7, _, _, rfl, rfl, _, g6, _, _, rfl, rfl, _, _, rfl, rfl, ?_, ⟨w6.set (by decide), ?_⟩, rfl⟩
    · show CMulW _ (p.2 + 1 - p.1)
      rw [ew]
      exact hw
    · rw [w6.at_ (by decide), cnt_next hp, ← ew]
  · rintro σ3 H3 ⟨w3, rfl⟩
    rw [hl, List.take_length] at w3
    exact q σ3 H3 w3
def t10 : TS := fun Dn σ H => ∃ D B C cells n ps r b, W9 D B C cells n ps r b (cnt ps) σ H ∧ ∀ σ' H', Wm D B C cells n ps r b σ' H' → Dn.nx σ' H'
theorem b10 (T : Env58 P w K mg base) : PS (LX P w K mg base f cdv Ar out s0 H0 E) (stL 10) t10 := by
  refine ps_imp (ps_set (i := 13) scLaw.nd rfl (.inl rfl) (pe_callTy call_tuple_of (by rfl) T.bn.tup boot_tuple' (pa_cons (pe_lc (own := [("_law_low", 6), ("_law_high", 7)]) (g := gTup K 2 (gCons (gName 6) (gCons (gName 7) gNil))) (tt := tYes) rfl scLaw.nd (pi_tup (pv 5))
      (blkOk_by (N := nLaw) (sc := defScope sLaw) (by decide +kernel)) (fun _ _ _ _ _ => pg_tup rfl (pgs_cons (pg_name (i := 6) scLaw.nd rfl (.inl rfl) (.inr rfl)) (pgs_cons (pg_name (i := 7) scLaw.nd rfl (.inl rfl) (.inr rfl)) pgs_nil))) (fun _ _ _ _ _ => pts_nil)
      (fun _ _ _ _ _ => pe_op op_fdiv (pe_op op_add (pv 6) (pv 7)) pe_int)) pa_nil))) ?_
  rintro Dn σ H ⟨D, B, C, cells, n, ps, r, b, w9, q⟩
  have wd := w9.toWd
  obtain ⟨a, xs, ea, e, ha⟩ := wd.box.tupE
  cases ea
  have hl : xs.length = ps.length := by rw [ha.len, List.length_map]
  have h8 := wd.good.len
  have l6 : 6 < σ.length := by rw [wd.len]; decide
  have l7 : 7 < σ.length := by rw [wd.len]; decide
  refine ⟨_, wd.s5, b, rfl, ⟨_, SqT.of e⟩, fun D1 nD1 => ?_⟩
  refine lc_tup (K := K) (a := b) (xs := xs) (fun i H3 => H3 D1 = some (.lst (((ps.take i).map midP).map V.int)) ∧ Same H H3) ⟨upd_same, same_upd nD1⟩ (fun i H3 _ h => SqT.of (h.2 _ _ e)) ?_ ?_
  · rintro i x H3 hi ⟨e1, s3⟩
    obtain ⟨p, c, hp, rfl, ec⟩ := ha.pairAt hi
    have hil : i < ps.length := (List.getElem?_eq_some_iff.mp hp).1
    refine ⟨c, _, rfl, SqT.of (s3 _ _ ec), rfl, .int p.1, [.int p.2], rfl, .int p.2, [], rfl, rfl, wipe2 (by decide), tYes_if ⟨_, w2_one l6 (by decide), _, w2_two l7, _, _, rfl, rfl, _, _, rfl, rfl, ⟨by decide, by decide⟩, _, e1, ?_, ?_, ?_⟩⟩
    · simp only [List.length_map, List.length_take]
      exact Nat.lt_of_le_of_lt (Nat.min_le_left _ _) (small1000 (by omega))
    · rw [upd_same, take_map_next hp, List.map_append]
      show some (HO.lst (_ ++ [V.int ((p.1 + p.2) / 2)])) = some (HO.lst (_ ++ [V.int (p.1 + (p.2 - p.1) / 2)]))
      rw [show (p.1 + p.2) / 2 = p.1 + (p.2 - p.1) / 2 by omega]
    · intro c2 o hc
      rw [upd_ne (ne_of_none hc nD1)]
      exact s3 c2 o hc
  · rintro H3 ⟨e1, s3⟩
    rw [hl, List.take_length] at e1
    refine ⟨D1, _, rfl, .inl ⟨SqL.of e1, fun l nl => q _ _ ⟨(wd.same (s3.trans (same_upd nl))).set (by decide), ?_, l, wd.at_ (by decide), .tup upd_same ?_⟩⟩⟩
    · rw [get_set_ne (by decide)]
      exact w9.s12
    · have e3 : (ps.map midP).map PyData.int = ps.map fun p => .int (midP p) := by
        rw [List.map_map]
        rfl
      rw [← e3]
      exact dqAll_ints _
def t11 : TS := fun Dn σ H => ∃ D B C cells n ps r b, Wm D B C cells n ps r b σ H ∧ ∀ σ' H', Wm D B C cells n ps r b σ' H' → Dn.nx σ' H'
theorem Wm.same {D B C : Addr} {cells : List Int} {n : Nat} {ps : List (Int × Int)} {r b : Addr} {σ : L2.St} {H H' : Hp} (h : Wm D B C cells n ps r b σ H) (s : Same H H') : Wm D B C cells n ps r b σ H' := by
  obtain ⟨a, h1, h2⟩ := h.s13
  exact ⟨h.toWd.same s, h.s12, a, h1, h2.same s⟩
theorem b11 (T : Env58 P w K mg base) (hr : Room 6 (LX P w K mg base f cdv Ar out s0 H0 E).A) (hg : (LX P w K mg base f cdv Ar out s0 H0 E).A.guards = some []) : PS (LX P w K mg base f cdv Ar out s0 H0 E) (stL 11) t11 := by
  obtain ⟨fC, fdC, GC, _⟩ := T.cnt
  obtain ⟨fM, fdM, GM, _⟩ := T.mid
  have hu := hr.units
  refine ps_imp (ps_if (pt_cmpR op_ne (pe_callB (call_reprD hg hu) (by rfl) T.bn.rep boot_repr' (pa_cons (pe_lst (pa_cons (pe_call GC.F (hr.mono (by decide)) (by rfl) GC.g GC.kp GC.b .nil pass0 (pa_cons (pv 5) pa_nil)) (pa_cons (pe_call GM.F (hr.mono (by decide)) (by rfl) GM.g GM.kp GM.b .nil pass0 (pa_cons (pv 5) pa_nil)) pa_nil))) pa_nil))
    (pe_callB (call_reprD hg hu) (by rfl) T.bn.rep boot_repr' (pa_cons (pe_lst (pa_cons (pv 12) (pa_cons (pv 13) pa_nil))) pa_nil)) (nomark _)) (pss_one (ps_ret pe_bl)) pss_nil) ?_
  rintro Dn σ H ⟨D, B, C, cells, n, ps, r, b, wm, q⟩
  have wd := wm.toWd
  have ok := wd.good.pair_ok
  obtain ⟨a, h13, hq⟩ := wm.s13
  refine ⟨_, wd.s5, D, B, .ref b, ps, rfl, wd.box, wd.good, _, wd.s5, D, B, .ref b, ps, rfl, wd.box, wd.good, fun m1 H1 s1 q1 => ⟨sz1 rfl, fun L nL => ?_⟩⟩
  have s2 := same_upd (o := .lst [.int (cnt ps), .ref m1]) nL
  have dk1 := wd.dk.same s1
  refine ⟨D, B, .ref L, .list [.int (cnt ps), midD ps], rfl, .lst (dk1.neD nL) (dk1.neB nL) upd_same (.cons (.int _) (.cons (q1.same s2) .nil)), ok.sh, ok.zl, ok.dl, _, wm.s12, _, h13, sz1 rfl, fun M nM => ?_⟩
  have s3 := same_upd (o := .lst [.int (cnt ps), .ref a]) nM
  have dk2 := dk1.same s2
  have s03 := s1.trans (s2.trans s3)
  exact ⟨D, B, .ref M, .list [.int (cnt ps), midD ps], rfl, .lst (dk2.neD nM) (dk2.neB nM) upd_same (.cons (.int _) (.cons (hq.same s03) .nil)), ok.sh, ok.zl, ok.dl, rfl, _, rfl, iteNS rfl (q σ _ (wm.same s03))⟩
set_option maxHeartbeats 4000000 in
theorem b12 (T : Env58 P w K mg base) (hr : Room 6 (LX P w K mg base f cdv Ar out s0 H0 E).A) (hg : (LX P w K mg base f cdv Ar out s0 H0 E).A.guards = some []) : PS (LX P w K mg base f cdv Ar out s0 H0 E) (stL 12) t11 := by
  obtain ⟨fC, fdC, GC, kC⟩ := T.cnt
  obtain ⟨fM, fdM, GM, kM⟩ := T.mid
  obtain ⟨fI, fdI, GI, kI⟩ := T.isbox
  have hu := hr.units
  refine ps_imp (ps_if (pt_cmpR op_ne (pe_callB (call_reprD hg hu) (by rfl) T.bn.rep boot_repr' (pa_cons (pe_lst (pa_cons (pe_callKO GC.F (hr.mono (by decide)) (by rfl) GC.g GC.kp kC pass0 (pk_cons (pv 5) pk_nil)) (pa_cons (pe_callKO GM.F (hr.mono (by decide)) (by rfl) GM.g GM.kp kM pass0 (pk_cons (pv 5) pk_nil))
      (pa_cons (pe_callKO GI.F (hr.mono (by decide)) (by rfl) GI.g GI.kp kI pass0 (pk_cons (pv 5) (pk_cons (pv 4) pk_nil))) pa_nil)))) pa_nil))
    (pe_callB (call_reprD hg hu) (by rfl) T.bn.rep boot_repr' (pa_cons (pe_lst (pa_cons (pv 12) (pa_cons (pv 13) (pa_cons pe_bl pa_nil)))) pa_nil)) (nomark _)) (pss_one (ps_ret pe_bl)) pss_nil) ?_
  rintro Dn σ H ⟨D, B, C, cells, n, ps, r, b, wm, q⟩
  have wd := wm.toWd
  have ok := wd.good.three_ok
  obtain ⟨a, h13, hq⟩ := wm.s13
  obtain ⟨rs, hrow⟩ := wd.row
  refine ⟨_, wd.s5, D, B, .ref b, ps, rfl, wd.box, wd.good, _, wd.s5, D, B, .ref b, ps, rfl, wd.box, wd.good, fun m1 H1 s1 q1 => ⟨_, wd.s5, _, wd.s4, D, B, r, (n : Int), rs, .ref b, boxD ps, rfl, s1 _ _ hrow, wd.box.same s1, by rw [sz_box]; have := wd.good.len; omega, fun H2 s2 => ⟨sz1 rfl, fun L nL => ?_⟩⟩⟩
  rw [wd.good.boxOk wd.np]
  have s3 := same_upd (o := .lst [.int (cnt ps), .ref m1, .bl true]) nL
  have dk2 := wd.dk.same (s1.trans s2)
  refine ⟨D, B, .ref L, .list [.int (cnt ps), midD ps, .bool true], rfl, .lst (dk2.neD nL) (dk2.neB nL) upd_same (.cons (.int _) (.cons ((q1.same s2).same s3) (.cons (.bl _) .nil))), ok.sh, ok.zl, ok.dl, _, wm.s12, _, h13, sz1 rfl, fun M nM => ?_⟩
  have s4 := same_upd (o := .lst [.int (cnt ps), .ref a, .bl true]) nM
  have dk3 := dk2.same s3
  have s04 := (s1.trans s2).trans (s3.trans s4)
  exact ⟨D, B, .ref M, .list [.int (cnt ps), midD ps, .bool true], rfl, .lst (dk3.neD nM) (dk3.neB nM) upd_same (.cons (.int _) (.cons (hq.same s04) (.cons (.bl _) .nil))), ok.sh, ok.zl, ok.dl, rfl, _, rfl, iteNS rfl (q σ _ (wm.same s04))⟩
end
end Jg
namespace Jg
open PySem PySem.Spec PyProof.Rows L2
/-- the list of wide inputs, and what is shown of the box -/
structure Ww (D B C : Addr) (cells : List Int) (n : Nat) (ps : List (Int × Int)) (r b : Addr) (σ : L2.St) (H : Hp) : Prop extends Wd D B C cells n ps r b σ H where
  s11 : σ[11]? = some (some (.str (boxD ps).shown))
  s14 : ∃ (L : Addr) (ks : List Nat), σ[14]? = some (some (.ref L)) ∧ H L = some (.lst ((ks.map fun (k : Nat) => ((k : Nat) : Int)).map V.int)) ∧ L ≠ D ∧ L ≠ B ∧ ∀ k ∈ ks, ∃ p, ps[k]? = some p ∧ p.1 < p.2
theorem DqAll.ofAt {D B : Addr} {H : Hp} : ∀ {xs : List V} {ds : List PyData}, DqAll D B H xs ds → ∀ (i : Nat) (d : PyData), ds[i]? = some d → ∃ x, xs[i]? = some x ∧ Dq D B H x d
  | _, _, .nil, _, _, e => by simp at e
  | _, _, .cons h _, 0, _, e => by
    simp at e
    subst e
    exact ⟨_, rfl, h⟩
  | _, _, .cons _ h, i + 1, d, e => by
    obtain ⟨x, e2, q⟩ := h.ofAt i d (by simpa using e)
    exact ⟨x, by simpa using e2, q⟩
theorem box_at {D B : Addr} {H : Hp} {b : Addr} {ps : List (Int × Int)} (h : Dq D B H (.ref b) (boxD ps)) {k : Nat} {p : Int × Int} (hp : ps[k]? = some p) : ∃ xs c, H b = some (.tup xs) ∧ xs[k]? = some (.ref c) ∧ H c = some (.tup [.int p.1, .int p.2]) := by
  obtain ⟨a, xs, ea, e, ha⟩ := h.tupE
  cases ea
  obtain ⟨x, hx, hq⟩ := ha.ofAt k (pairD p) (by rw [List.getElem?_map, hp]; rfl)
  obtain ⟨c, rfl, ec⟩ := hq.pairE
  exact ⟨xs, c, e, hx, ec⟩
section
variable {P : Program} {w : World} {K : PySem.W.Frag} {mg : Str → Option Value} {base : Heap} {f : Addr} {cdv : Value} {Ar : Around} {out : List Env} {s0 : Shared} {H0 : Hp} {E : XK}
def t13 : TS := fun Dn σ H => ∃ D B C cells n ps r b, Wd D B C cells n ps r b σ H ∧ ∀ σ' H', Ww D B C cells n ps r b σ' H' → Dn.nx σ' H'
theorem b13 (T : Env58 P w K mg base) (hr : Room 6 (LX P w K mg base f cdv Ar out s0 H0 E).A) (hg : (LX P w K mg base f cdv Ar out s0 H0 E).A.guards = some []) : PS (LX P w K mg base f cdv Ar out s0 H0 E) (stL 13) t13 := by
  have hu := hr.units
  refine ps_imp (ps_par (i := 14) (j := 11) rfl scLaw.nd rfl rfl (by decide) rfl rfl (pa_cons (pe_lc (own := [("_law_k", 19)]) (g := gName 19) (tt := tTest (tOp (rI0 fun i j => .bl (decide (i < j))) (tOp (rIxT K) (tOp (rIxT K) (tVar 5) (tVar 19)) (tC (.int 0))) (tOp (rIxT K) (tOp (rIxT K) (tVar 5) (tVar 19)) (tC (.int 1))))) rfl scLaw.nd (pi_range1 rfl T.bn.rng (pa_cons (pv 3) pa_nil))
        (blkOk_by (N := nLaw) (sc := defScope sLaw) (by decide +kernel)) (fun _ _ _ _ _ => pg_name (i := 19) scLaw.nd rfl (.inl rfl))
        (fun _ _ _ _ _ => pts_one (pt_cmpR op_lt (pe_ix ix_tup (pe_ix ix_tup (pv 5) (pv 19) (fun _ _ => rfl)) pe_int (fun _ _ => rfl)) (pe_ix ix_tup (pe_ix ix_tup (pv 5) (pv 19) (fun _ _ => rfl)) pe_int (fun _ _ => rfl)) (nomark _))) (fun _ _ _ _ _ => pv 19))
      (pa_cons (pe_callB (call_reprD hg hu) (by rfl) T.bn.rep boot_repr' (pa_cons (pv 5) pa_nil)) pa_nil)) rfl) ?_
  rintro Dn σ H ⟨D, B, C, cells, n, ps, r, b, wd, q⟩
  have n8 := wd.n8
  have l19 : 19 < σ.length := by rw [wd.len]; decide
  refine ⟨_, wd.s3, n, rfl, by omega, by omega, fun D1 nD1 => ?_⟩
  refine lc_range (lo := 0) (n := n) (fun i H3 => ∃ ks : List Nat, H3 D1 = some (.lst ((ks.map fun (k : Nat) => ((k : Nat) : Int)).map V.int)) ∧ (∀ k ∈ ks, ∃ p, ps[k]? = some p ∧ p.1 < p.2) ∧ ks.length ≤ i ∧ Same H H3) ⟨[], upd_same, (fun _ h => nomatch h), Nat.le_refl _, same_upd nD1⟩ ?_ ?_
  · rintro i H3 hi ⟨ks, e3, hks, hl, s3⟩
    have hip : i < ps.length := by rw [wd.np]; exact hi
    obtain ⟨xs, c, e, hx, ec⟩ := box_at wd.box (List.getElem?_eq_getElem hip)
    have e' := s3 _ _ e
    have ec' := s3 _ _ ec
    have g5 : ((wipe σ [19]).set 19 (some (.int (0 + (i : Int)))))[5]? = some (some (.ref b)) := (w1_out (i := 19) (k := 5) (by decide)).trans wd.s5
    have g19 : ((wipe σ [19]).set 19 (some (.int (0 + (i : Int)))))[19]? = some (some (.int (0 + (i : Int)))) := w1_own l19
    have hat : atI xs (0 + (i : Int)) = some (.ref c) := by
      rw [Int.zero_add]
      exact atI_nat hx
    refine ⟨wipe1, _, g5, _, g19, b, xs, _, _, rfl, rfl, SqT.of e', hat, c, _, _, _, rfl, rfl, SqT.of ec', atI_nat (j := 0) rfl, _, g5, _, g19, b, xs, _, _, rfl, rfl, SqT.of e', hat, c, _, _, _, rfl, rfl, SqT.of ec', atI_nat (j := 1) rfl, _, _, rfl, rfl, _, rfl, ite2 (fun hlt => ?_) (fun _ => ⟨ks, e3, hks, by omega, s3⟩)⟩
    refine ⟨_, g19, _, e3, small1000 (by rw [List.length_map, List.length_map]; omega), ks ++ [i], ?_, fun k hk => ?_, by rw [List.length_append]; show ks.length + 1 ≤ i + 1; omega, fun c2 o h => ?_⟩
    · rw [upd_same, Int.zero_add, List.map_append, List.map_append]
      rfl
    · rcases List.mem_append.mp hk with hk | hk
      · exact hks k hk
      · rw [List.mem_singleton.mp hk]
        exact ⟨_, List.getElem?_eq_getElem hip, of_decide_eq_true hlt⟩
    · rw [upd_ne (ne_of_none h nD1)]
      exact s3 _ _ h
  · rintro H3 ⟨ks, e3, hks, hl, s3⟩
    have w3 := wd.same s3
    have ok : Ok 6 600000 (boxD ps) := (ok_pairs wd.good.abs (by have := wd.good.len; omega)).mono (by decide) (by decide)
    refine ⟨_, w3.s5, D, B, .ref b, boxD ps, rfl, w3.box, ok.sh, ok.zl, ok.dl, _, _, rfl, q _ _ ⟨(w3.set (by decide)).set (by decide), ?_, D1, ks, ?_, e3, wd.dk.neD nD1, wd.dk.neB nD1, hks⟩⟩
    · exact get_set_eq (by rw [List.length_set, wd.len]; decide)
    · rw [get_set_ne (by decide)]
      exact wd.at_ (by decide)
end
end Jg
namespace Jg
open PySem PySem.Spec PyProof.Rows L2
theorem boxes_keep {D B L : Addr} {H H' : Hp} {ys : List V} (eL : H L = some (.lst ys)) (f : ∀ b o, b ≠ L → H b = some o → H' b = some o) : ∀ {xs : List V} {bs : List (List (Int × Int))}, DqAll D B H xs (bs.map boxD) → DqAll D B H' xs (bs.map boxD)
  | _, [], h => by
    cases h
    exact .nil
  | _, p :: ps, h => by
    cases h with
    | cons h1 h2 =>
      obtain ⟨a, xs, rfl, e, ha⟩ := h1.tupE
      exact .cons (.tup (f _ _ (fun z => by rw [z, eL] at e; cases e) e) (pairs_keep eL f ha)) (boxes_keep eL f h2)
/-- the box with another range in the place k -/
def putB (ps : List (Int × Int)) (k : Nat) (q : Int × Int) : List (Int × Int) := ps.take k ++ q :: ps.drop (k + 1)
theorem part_eq (ps : List (Int × Int)) (k : Nat) (m : Int) (p : Int × Int) : partD ps k m p = .tuple ([(p.1, m), (m + 1, p.2)].map fun q => boxD (putB ps k q)) := rfl
theorem putB_len {ps : List (Int × Int)} {k : Nat} {q : Int × Int} (h : k < ps.length) : (putB ps k q).length = ps.length := by
  unfold putB
  rw [List.length_append, List.length_take, List.length_cons, List.length_drop]
  omega
theorem Good.part_ok {ps : List (Int × Int)} (g : Good ps) {k : Nat} {m : Int} {p : Int × Int} (hp : ps[k]? = some p) (h1 : p.1 ≤ m) (h2 : m < p.2) : Ok 6 600000 (partD ps k m p) := by
  have hk : k < ps.length := (List.getElem?_eq_some_iff.mp hp).1
  have h8 := g.len
  have gp := g.abs p (List.mem_of_getElem? hp)
  have l1 := g.lo p (List.mem_of_getElem? hp)
  have l3 := g.hi p (List.mem_of_getElem? hp)
  have e : (M20 : Int) = 100000000000000000000 := by decide
  have e2 : (10 : Nat) ^ 20 + 1 = 100000000000000000001 := by decide
  rw [e] at l1 l3
  have one : ∀ q : Int × Int, q.1.natAbs ≤ 10 ^ 20 + 1 → q.2.natAbs ≤ 10 ^ 20 + 1 → Ok 2 552 (boxD (putB ps k q)) := fun q h3 h4 => ok_pairs (fun x hx => by
    unfold putB at hx
    rcases List.mem_append.mp hx with hx | hx
    · exact g.abs x (List.mem_of_mem_take hx)
    · rcases List.mem_cons.mp hx with rfl | hx
      · exact ⟨h3, h4⟩
      · exact g.abs x (List.mem_of_mem_drop hx)) (by rw [putB_len hk]; omega)
  rw [part_eq]
  refine Ok.mono (ok_tup (n := 2) (k := 2) (c := 552) (all_cons (one _ gp.1 ?_) (all_cons (one _ ?_ gp.2) all_nil)) (Nat.le_refl 2)) (by decide) (by decide)
  · show m.natAbs ≤ _
    rw [e2]
    omega
  · show (m + 1).natAbs ≤ _
    rw [e2]
    omega
theorem cut_nats (ks : List Nat) (lo hi : Option Int) : ∃ ms : List Nat, cutV ((ks.map fun (k : Nat) => ((k : Nat) : Int)).map V.int) lo hi = (ms.map fun (k : Nat) => ((k : Nat) : Int)).map V.int ∧ ∀ k ∈ ms, k ∈ ks := by
  unfold cutV
  refine ⟨(ks.drop _).take _, by rw [List.map_take, List.map_take, List.map_drop, List.map_drop], fun k hk => List.mem_of_mem_drop (List.mem_of_mem_take hk)⟩
/-- the turn of the inner loop: an input, its range, a number -/
structure Wn (D B C : Addr) (cells : List Int) (n : Nat) (ps : List (Int × Int)) (r b : Addr) (k : Nat) (p : Int × Int) (σ : L2.St) (H : Hp) : Prop extends Wd D B C cells n ps r b σ H where
  s11 : σ[11]? = some (some (.str (boxD ps).shown))
  s15 : σ[15]? = some (some (.int (k : Int)))
  s6 : σ[6]? = some (some (.int p.1))
  s7 : σ[7]? = some (some (.int p.2))
theorem Wn.same {D B C : Addr} {cells : List Int} {n : Nat} {ps : List (Int × Int)} {r b : Addr} {k : Nat} {p : Int × Int} {σ : L2.St} {H H' : Hp} (h : Wn D B C cells n ps r b k p σ H) (s : Same H H') : Wn D B C cells n ps r b k p σ H' := ⟨h.toWd.same s, h.s11, h.s15, h.s6, h.s7⟩
theorem Wn.set {D B C : Addr} {cells : List Int} {n : Nat} {ps : List (Int × Int)} {r b : Addr} {k : Nat} {p : Int × Int} {σ : L2.St} {H : Hp} {v : Option V} (h : Wn D B C cells n ps r b k p σ H) {i : Nat} (hi : 15 < i) : Wn D B C cells n ps r b k p (σ.set i v) H :=
  ⟨h.toWd.set (by omega), by rw [get_set_ne (by omega)]; exact h.s11, by rw [get_set_ne (by omega)]; exact h.s15, by rw [get_set_ne (by omega)]; exact h.s6, by rw [get_set_ne (by omega)]; exact h.s7⟩
section
variable {P : Program} {w : World} {K : PySem.W.Frag} {mg : Str → Option Value} {base : Heap} {f : Addr} {cdv : Value} {Ar : Around} {out : List Env} {s0 : Shared} {H0 : Hp} {E : XK}
def inB : List Stmt := forBody ((forBody (stL 14)).getD 1 (.Pass ⟨0, 0, 0, 0⟩))
def stN (i : Nat) : Stmt := inB.getD i (.Pass ⟨0, 0, 0, 0⟩)
/-- both = [..] -/
def u0 : TS := fun Dn σ H => ∃ D B C cells n ps r b k p m, Wn D B C cells n ps r b k p σ H ∧ ps[k]? = some p ∧ σ[16]? = some (some (.int m)) ∧
  ∀ L acc H', Same H H' → H' L = some (.lst acc) → DqAll D B H' acc ([putB ps k (p.1, m), putB ps k (m + 1, p.2)].map boxD) → Dn.nx (σ.set 17 (some (.ref L))) H'
theorem n0 : PS (LX P w K mg base f cdv Ar out s0 H0 E) (stN 0) u0 := by
  refine ps_imp (ps_setLc (i := 17) (own := [("_law_own", 18)]) (g := gName 18) (tt := tYes) (te := tOp (rCatA K) (tOp (rCatA K) (tSl (rSlA K) (tVar 5) tNoPart (tPart (tVar 15))) (tTup (tCons (tVar 18) tNil))) (tSl (rSlA K) (tVar 5) (tPart (tOp (rI0 fun i j => .int (i + j)) (tVar 15) (tC (.int 1)))) tNoPart)) rfl scLaw.nd rfl rfl (sw_true rfl rfl rfl (by decide +kernel))
    (pi_tup (pe_tup (pa_cons (pe_tup (pa_cons (pv 6) (pa_cons (pv 16) pa_nil))) (pa_cons (pe_tup (pa_cons (pe_op op_add (pv 16) pe_int) (pa_cons (pv 7) pa_nil))) pa_nil)))) (blkOk_by (N := nLaw) (sc := defScope sLaw) (by decide +kernel))
    (fun _ _ _ _ _ => pg_name (i := 18) scLaw.nd rfl (.inl rfl)) (fun _ _ _ _ _ => pts_nil)
    (fun _ _ _ _ _ => pe_op op_catA (pe_op op_catA (pe_slice sl_tupA (pv 5) po_none (po_some (pv 15))) (pe_tup (pa_cons (pv 18) pa_nil))) (pe_slice sl_tupA (pv 5) (po_some (pe_op op_add (pv 15) pe_int)) po_none))) ?_
  rintro Dn σ H ⟨D, B, C, cells, n, ps, r, b, k, p, m, wn, hp, g16, q⟩
  have wd := wn.toWd
  have h8 := wd.good.len
  have hk : k < ps.length := (List.getElem?_eq_some_iff.mp hp).1
  have l18 : 18 < σ.length := by rw [wd.len]; decide
  obtain ⟨a, xs, ea, e, ha⟩ := wd.box.tupE
  cases ea
  have hxl : xs.length = ps.length := by rw [ha.len, List.length_map]
  refine ⟨_, wn.s6, _, g16, sz1 rfl, fun a1 n1 => ⟨_, g16, _, _, rfl, rfl, _, wn.s7, sz1 rfl, fun a2 n2 => ⟨sz1 rfl, fun a3 n3 => ⟨a3, rfl, ⟨_, SqT.of upd_same⟩, fun D1 nD1 => ?_⟩⟩⟩⟩
  have s1 := same_upd (o := .tup [.int p.1, .int m]) n1
  have s2 := same_upd (o := .tup [.int (m + 1), .int p.2]) n2
  have s3 := same_upd (o := .tup [.ref a1, .ref a2]) n3
  have s03 := (s1.trans s2).trans s3
  refine lc_tup (K := K) (a := a3) (xs := [.ref a1, .ref a2]) (fun i H5 => ∃ acc, H5 D1 = some (.lst acc) ∧ DqAll D B H5 acc ((([putB ps k (p.1, m), putB ps k (m + 1, p.2)]).take i).map boxD) ∧ Same _ H5) ⟨[], upd_same, .nil, same_upd nD1⟩ (fun i H5 _ ⟨_, _, _, s⟩ => SqT.of (s _ _ upd_same)) ?_ ?_
  · rintro i x H5 hi ⟨acc, e5, h5, s5⟩
    obtain ⟨qq, t, hq, rfl, et⟩ : ∃ (qq : Int × Int) (t : Addr), [putB ps k (p.1, m), putB ps k (m + 1, p.2)][i]? = some (putB ps k qq) ∧ x = .ref t ∧ H5 t = some (.tup [.int qq.1, .int qq.2]) := by
      match i, hi with
      | 0, hi => exact ⟨(p.1, m), a1, rfl, (Option.some.inj hi).symm, s5 _ _ (s3 _ _ (s2 _ _ upd_same))⟩
      | 1, hi => exact ⟨(m + 1, p.2), a2, rfl, (Option.some.inj hi).symm, s5 _ _ (s3 _ _ upd_same)⟩
      | i + 2, hi => cases hi
    have k5 := s03.trans s5
    have e5b := k5 _ _ e
    have ha5 := ha.same k5
    have g5 : ((wipe σ [18]).set 18 (some (.ref t)))[5]? = some (some (.ref b)) := (w1_out (i := 18) (k := 5) (by decide)).trans wd.s5
    have g15 : ((wipe σ [18]).set 18 (some (.ref t)))[15]? = some (some (.int (k : Int))) := (w1_out (i := 18) (k := 15) (by decide)).trans wn.s15
    have g18 : ((wipe σ [18]).set 18 (some (.ref t)))[18]? = some (some (.ref t)) := w1_own l18
    have hkl : (xs.take k).length = k := by
      rw [List.length_take]
      omega
    refine ⟨wipe1, tYes_if ⟨_, g5, _, g15, _, rfl, sl_read e5b fun c1 H6 s6 e6 => ⟨_, g18, sz1 rfl, fun t2 n2' => cat_read (xs := xs.take k) (ys := [.ref t]) (same_upd n2' _ _ (by rw [← cutV_to]; exact e6)) upd_same (by rw [hkl]; show k + 1 ≤ 1000; omega) fun c2 H7 s7 e7 => ⟨_, g5, _, g15, _, _, rfl, rfl, _, rfl, ?_⟩⟩⟩⟩
    dsimp only [tNoPart]
    have s57 := (s6.trans (same_upd n2')).trans s7
    refine sl_read (s57 _ _ e5b) fun c3 H8 s8 e8 => cat_read (s8 _ _ e7) e8 (by rw [List.length_append, hkl]; have := cutV_length xs (some ((k : Int) + 1)) none; show k + 1 + _ ≤ 1000; omega) fun c4 H9 s9 e9 => ?_
    have s59 := s57.trans (s8.trans s9)
    have e8' : cutV xs (some ((k : Int) + 1)) none = xs.drop (k + 1) := cutV_from xs (k + 1)
    rw [e8'] at e9
    have a9 := ha5.same s59
    have bx : DqAll D B H9 (xs.take k ++ [.ref t] ++ xs.drop (k + 1)) ((putB ps k qq).map pairD) := by
      unfold putB
      rw [List.map_append, List.map_cons, List.map_take, List.map_drop, List.append_assoc]
      exact DqAll.append (.cons (.tup (s59 _ _ et) (.cons (.int _) (.cons (.int _) .nil))) (a9.drop (k + 1))) (a9.take k)
    have e9D := s59 _ _ e5
    have nc : c4 ≠ D1 := fun z => by
      rw [z, e9D] at e9
      cases e9
    have fL : ∀ c o, c ≠ D1 → H9 c = some o → (upd H9 D1 (.lst (acc ++ [.ref c4]))) c = some o := fun c o hc h => by
      rw [upd_ne hc]
      exact h
    refine ⟨acc, e9D, small1000 (by rw [h5.len, List.length_map, List.length_take]; show min i 2 ≤ 1000; omega), acc ++ [.ref c4], upd_same, ?_, fun c o h => ?_⟩
    · rw [take_map_next hq]
      exact DqAll.append (.cons (.tup (fL _ _ nc e9) (pairs_keep e9D fL bx)) .nil) (boxes_keep e9D fL (h5.same s59))
    · rw [upd_ne (ne_of_none h nD1)]
      exact s59 _ _ (s5 _ _ h)
  · rintro H5 ⟨acc, e5, h5, s5⟩
    exact q D1 acc H5 (s03.trans s5) e5 h5
end
end Jg
namespace Jg
open PySem PySem.Spec PyProof.Rows L2
section
variable {P : Program} {w : World} {K : PySem.W.Frag} {mg : Str → Option Value} {base : Heap} {f : Addr} {cdv : Value} {Ar : Around} {out : List Env} {s0 : Shared} {H0 : Hp} {E : XK}
/-- the two looks at what is parted -/
def u1 : TS := fun Dn σ H => ∃ D B C cells n ps r b k p m L acc, Wn D B C cells n ps r b k p σ H ∧ ps[k]? = some p ∧ p.1 ≤ m ∧ m < p.2 ∧ σ[16]? = some (some (.int m)) ∧ σ[17]? = some (some (.ref L)) ∧ H L = some (.lst acc) ∧ DqAll D B H acc ([putB ps k (p.1, m), putB ps k (m + 1, p.2)].map boxD) ∧
  ∀ H', Same H H' → Dn.nx σ H'
set_option maxHeartbeats 4000000 in
theorem n1 (T : Env58 P w K mg base) (hr : Room 6 (LX P w K mg base f cdv Ar out s0 H0 E).A) (hg : (LX P w K mg base f cdv Ar out s0 H0 E).A.guards = some []) : PS (LX P w K mg base f cdv Ar out s0 H0 E) (stN 1) u1 := by
  obtain ⟨fP, fdP, GP, _⟩ := T.part
  have hu := hr.units
  refine ps_imp (ps_if (PW.pt (pw_or (pt_cmpR op_ne (pe_callB (call_reprD hg hu) (by rfl) T.bn.rep boot_repr' (pa_cons (pe_call GP.F (hr.mono (by decide)) (by rfl) GP.g GP.kp GP.b .nil pass0 (pa_cons (pv 5) (pa_cons (pv 15) (pa_cons (pv 16) pa_nil)))) pa_nil))
      (pe_callB (call_reprD hg hu) (by rfl) T.bn.rep boot_repr' (pa_cons (pe_callTy call_tuple_of (by rfl) T.bn.tup boot_tuple' (pa_cons (pv 17) pa_nil)) pa_nil)) (nomark _))
    (pw_or1 (pt_cmpR op_ne (pe_callB (call_reprD hg hu) (by rfl) T.bn.rep boot_repr' (pa_cons (pv 5) pa_nil)) (pv 11) (nomark _))))) (pss_one (ps_ret pe_bl)) pss_nil) ?_
  rintro Dn σ H ⟨D, B, C, cells, n, ps, r, b, k, p, m, L, acc, wn, hp, hm1, hm2, g16, g17, eL, ha, q⟩
  have wd := wn.toWd
  have ok := wd.good.part_ok hp hm1 hm2
  have okb : Ok 6 600000 (boxD ps) := (ok_pairs wd.good.abs (by have := wd.good.len; omega)).mono (by decide) (by decide)
  refine ⟨_, wd.s5, _, wn.s15, _, g16, D, B, .ref b, ps, k, m, p, rfl, wd.box, wd.good, hp, fun t H1 s1 hq => ⟨D, B, .ref t, partD ps k m p, rfl, hq, ok.sh, ok.zl, ok.dl, _, g17, L, acc, rfl, .inl ⟨SqL.of (s1 _ _ eL), fun l nl => ?_⟩⟩⟩
  have s2 := same_upd (o := .tup acc) nl
  have s02 := s1.trans s2
  exact ⟨D, B, .ref l, partD ps k m p, rfl, .tup upd_same (ha.same s02), ok.sh, ok.zl, ok.dl, rfl, _, rfl, iteNS rfl ⟨_, wd.s5, D, B, .ref b, boxD ps, rfl, wd.box.same s02, okb.sh, okb.zl, okb.dl, _, wn.s11, rfl, _, rfl, iteNS rfl (q _ s02)⟩⟩
set_option maxHeartbeats 4000000 in
theorem n2 (T : Env58 P w K mg base) (hr : Room 6 (LX P w K mg base f cdv Ar out s0 H0 E).A) (hg : (LX P w K mg base f cdv Ar out s0 H0 E).A.guards = some []) : PS (LX P w K mg base f cdv Ar out s0 H0 E) (stN 2) u1 := by
  obtain ⟨fP, fdP, GP, kP⟩ := T.part
  have hu := hr.units
  refine ps_imp (ps_if (pt_cmpR op_ne (pe_callB (call_reprD hg hu) (by rfl) T.bn.rep boot_repr' (pa_cons (pe_callKO GP.F (hr.mono (by decide)) (by rfl) GP.g GP.kp kP pass0 (pk_cons (pv 16) (pk_cons (pv 5) (pk_cons (pv 15) pk_nil)))) pa_nil))
      (pe_callB (call_reprD hg hu) (by rfl) T.bn.rep boot_repr' (pa_cons (pe_callTy call_tuple_of (by rfl) T.bn.tup boot_tuple' (pa_cons (pv 17) pa_nil)) pa_nil)) (nomark _)) (pss_one (ps_ret pe_bl)) pss_nil) ?_
  rintro Dn σ H ⟨D, B, C, cells, n, ps, r, b, k, p, m, L, acc, wn, hp, hm1, hm2, g16, g17, eL, ha, q⟩
  have wd := wn.toWd
  have ok := wd.good.part_ok hp hm1 hm2
  refine ⟨_, g16, _, wd.s5, _, wn.s15, D, B, .ref b, ps, k, m, p, rfl, wd.box, wd.good, hp, fun t H1 s1 hq => ⟨D, B, .ref t, partD ps k m p, rfl, hq, ok.sh, ok.zl, ok.dl, _, g17, L, acc, rfl, .inl ⟨SqL.of (s1 _ _ eL), fun l nl => ?_⟩⟩⟩
  have s2 := same_upd (o := .tup acc) nl
  have s02 := s1.trans s2
  exact ⟨D, B, .ref l, partD ps k m p, rfl, .tup upd_same (ha.same s02), ok.sh, ok.zl, ok.dl, rfl, _, rfl, iteNS rfl (q _ s02)⟩
/-- the loop over the numbers -/
def u2 : TS := fun Dn σ H => ∃ D B C cells n ps r b k p, Wn D B C cells n ps r b k p σ H ∧ ps[k]? = some p ∧ p.1 < p.2 ∧ ∀ σ' H', Wn D B C cells n ps r b k p σ' H' → σ'[14]? = σ[14]? → Fr D B H H' → Dn.nx σ' H'
theorem inB_eq : inB = [stN 0, stN 1, stN 2] := rfl
theorem nF (T : Env58 P w K mg base) (hr : Room 6 (LX P w K mg base f cdv Ar out s0 H0 E).A) (hg : (LX P w K mg base f cdv Ar out s0 H0 E).A.guards = some []) : PS (LX P w K mg base f cdv Ar out s0 H0 E) ((forBody (stL 14)).getD 1 (.Pass ⟨0, 0, 0, 0⟩)) u2 := by
  obtain ⟨fA, fdA, GA⟩ := T.far
  refine ps_imp (ps_for PassesOwn.never rfl (pi_list (pe_lst (pa_cons (pv 6) (pa_cons (pe_op op_sub (pv 7) pe_int) (pa_cons (pe_op op_add (pv 6) (pe_call GA.F (hr.mono (by decide)) (by rfl) GA.g GA.kp GA.b .nil pass0 (pa_cons (pv 1) (pa_cons (pe_op op_sub (pv 7) (pv 6)) pa_nil)))) pa_nil)))))
    (pg_name (i := 16) scLaw.nd rfl (.inl rfl)) (pss_cons n0 (pss_cons (n1 T hr hg) (pss_one (n2 T hr hg))))) ?_
  rintro Dn σ H ⟨D, B, C, cells, n, ps, r, b, k, p, wn, hp, hlt, q⟩
  have wd := wn.toWd
  refine ⟨_, wn.s6, _, wn.s7, _, _, rfl, rfl, _, wn.s6, _, wd.s1, _, wn.s7, _, wn.s6, _, _, rfl, rfl, D, B, C, cells, p.2 - p.1, rfl, wd.dk, by omega, fun j H1 j0 j1 dk1 f1 => ⟨_, _, rfl, rfl, sz1 rfl, fun M nM => ⟨M, rfl, ⟨_, SqL.of upd_same⟩, ?_⟩⟩⟩
  have s2 := same_upd (o := .lst [.int p.1, .int (p.2 - 1), .int (p.1 + j)]) nM
  have w2 := wd.go (dk1.same s2) (f1.trans (Fr.of_same s2))
  refine for_list (K := K) (a := M) (xs := [.int p.1, .int (p.2 - 1), .int (p.1 + j)]) (fun i σ3 H3 => Wn D B C cells n ps r b k p σ3 H3 ∧ σ3[14]? = σ[14]? ∧ H3 M = some (.lst [.int p.1, .int (p.2 - 1), .int (p.1 + j)]) ∧ Fr D B H H3) ⟨⟨w2, wn.s11, wn.s15, wn.s6, wn.s7⟩, rfl, upd_same, f1.trans (Fr.of_same s2)⟩ (fun i σ3 H3 _ h => SqL.of h.2.2.1) ?_ ?_
  · rintro i x σ3 H3 hi ⟨w3, e14, eM, f3⟩
    obtain ⟨m, rfl, hm1, hm2⟩ : ∃ m : Int, x = .int m ∧ p.1 ≤ m ∧ m < p.2 := by
      match i, hi with
      | 0, hi => exact ⟨_, (Option.some.inj hi).symm, by omega, by omega⟩
      | 1, hi => exact ⟨_, (Option.some.inj hi).symm, by omega, by omega⟩
      | 2, hi => exact ⟨_, (Option.some.inj hi).symm, by omega, by omega⟩
      | i + 3, hi => cases hi
    have w4 := w3.set (i := 16) (v := some (.int m)) (by decide)
    refine ⟨D, B, C, cells, n, ps, r, b, k, p, m, w4, hp, w3.toWd.at_ (by decide), fun L acc H5 s5 eL ha => ?_⟩
    have w5 := (w4.same s5).set (i := 17) (v := some (.ref L)) (by decide)
    have g16 : ((σ3.set 16 (some (.int m))).set 17 (some (.ref L)))[16]? = some (some (.int m)) := by
      rw [get_set_ne (by decide)]
      exact w3.toWd.at_ (by decide)
    have g17 : ((σ3.set 16 (some (.int m))).set 17 (some (.ref L)))[17]? = some (some (.ref L)) := w4.toWd.at_ (by decide)
    refine ⟨D, B, C, cells, n, ps, r, b, k, p, m, L, acc, w5, hp, hm1, hm2, g16, g17, eL, ha, fun H6 s6 => ⟨D, B, C, cells, n, ps, r, b, k, p, m, L, acc, w5.same s6, hp, hm1, hm2, g16, g17, s6 _ _ eL, ha.same s6, fun H7 s7 => ⟨(w5.same s6).same s7, ?_, s7 _ _ (s6 _ _ (s5 _ _ eM)), f3.trans (Fr.of_same ((s5.trans s6).trans s7))⟩⟩⟩
    rw [get_set_ne (by decide), get_set_ne (by decide)]
    exact e14
  · rintro σ3 H3 ⟨w3, e14, _, f3⟩
    exact q σ3 H3 w3 e14 f3
/-- the loop over the wide inputs -/
def t14 : TS := fun Dn σ H => ∃ D B C cells n ps r b, Ww D B C cells n ps r b σ H ∧ ∀ σ' H', Wd D B C cells n ps r b σ' H' → Dn.nx σ' H'
theorem b14 (T : Env58 P w K mg base) (hr : Room 6 (LX P w K mg base f cdv Ar out s0 H0 E).A) (hg : (LX P w K mg base f cdv Ar out s0 H0 E).A.guards = some []) : PS (LX P w K mg base f cdv Ar out s0 H0 E) (stL 14) t14 := by
  refine ps_imp (ps_for PassesOwn.never rfl (pi_list (pe_slice sl_list (pv 14) po_none (po_some pe_int))) (pg_name (i := 15) scLaw.nd rfl (.inr rfl))
    (pss_cons (ps_asg (pe_ix ix_tup (pv 5) (pv 15) (fun _ _ => rfl)) (pg_tup rfl (pgs_cons (pg_name (i := 6) scLaw.nd rfl (.inl rfl)) (pgs_cons (pg_name (i := 7) scLaw.nd rfl (.inl rfl)) pgs_nil)))) (pss_one (nF T hr hg)))) ?_
  rintro Dn σ H ⟨D, B, C, cells, n, ps, r, b, ww, q⟩
  have wd := ww.toWd
  obtain ⟨L, ks, h14, eL, nLD, nLB, hks⟩ := ww.s14
  obtain ⟨ms, hms, sub⟩ := cut_nats ks none (some 3)
  refine ⟨_, h14, 3, rfl, L, _, rfl, SqL.of eL, fun c nc => ?_⟩
  rw [hms]
  have s1 := same_upd (o := .lst ((ms.map fun (k : Nat) => ((k : Nat) : Int)).map V.int)) nc
  have cD := wd.dk.neD nc
  have cB' := wd.dk.neB nc
  refine ⟨c, rfl, ⟨_, SqL.of upd_same⟩, for_list (K := K) (a := c) (xs := (ms.map fun (k : Nat) => ((k : Nat) : Int)).map V.int) (fun i σ3 H3 => Wd D B C cells n ps r b σ3 H3 ∧ σ3[11]? = some (some (.str (boxD ps).shown)) ∧ H3 c = some (.lst ((ms.map fun (k : Nat) => ((k : Nat) : Int)).map V.int))) ⟨wd.same s1, ww.s11, upd_same⟩ (fun i σ3 H3 _ h => SqL.of h.2.2) ?_ ?_⟩
  · rintro i x σ3 H3 hi ⟨w3, e11, ec⟩
    obtain ⟨k, rfl, hkm⟩ : ∃ k : Nat, x = .int (k : Int) ∧ k ∈ ms := by
      rw [List.getElem?_map, List.getElem?_map] at hi
      cases hk : ms[i]? with
      | none =>
        rw [hk] at hi
        cases hi
      | some k =>
        rw [hk] at hi
        exact ⟨k, (Option.some.inj hi).symm, List.mem_of_getElem? hk⟩
    obtain ⟨p, hp, hlt⟩ := hks k (sub k hkm)
    obtain ⟨xs, c2, e, hx, ec2⟩ := box_at w3.box hp
    have w4 := w3.set (i := 15) (v := some (.int (k : Int))) (by decide)
    have w6 := (w4.set (i := 6) (v := some (.int p.1)) (by decide)).set (i := 7) (v := some (.int p.2)) (by decide)
    refine ⟨_, w4.s5, _, w3.at_ (by decide), b, xs, _, _, rfl, rfl, SqT.of e, atI_nat hx, c2, _, rfl, SqT.of ec2, rfl, .int p.1, [.int p.2], rfl, .int p.2, [], rfl, rfl, ?_⟩
    refine ⟨D, B, C, cells, n, ps, r, b, k, p, ⟨w6, ?_, ?_, ?_, ?_⟩, hp, hlt, fun σ' H' wn _ fr => ⟨wn.toWd, wn.s11, fr _ _ cD cB' ec⟩⟩
    · rw [get_set_ne (by decide), get_set_ne (by decide), get_set_ne (by decide)]
      exact e11
    · rw [get_set_ne (by decide), get_set_ne (by decide)]
      exact w3.at_ (by decide)
    · rw [get_set_ne (by decide)]
      exact w4.at_ (by decide)
    · exact (w4.set (i := 6) (by decide)).at_ (by decide)
  · rintro σ3 H3 ⟨w3, _, _⟩
    exact q σ3 H3 w3
end
end Jg
namespace Jg
open PySem PySem.Spec PyProof.Rows L2
def spLaw (K : PySem.W.Frag) : Sp := fun vs H Q _ => ∃ (a : Addr) (ns : List Int), vs = [.ref a] ∧ SqL K H a (ns.map V.int) ∧ ns.length ≤ 63 ∧ ∀ H', Q (.bl true) H'
section
variable {P : Program} {w : World} {K : PySem.W.Frag} {mg : Str → Option Value} {base : Heap}
theorem run_law {f : Addr} {fd : FuncData} (F : Fun K "law" "law" sLaw f fd) (T : Env58 P w K mg base) : RunG P w K mg base 7 f fd ["_law_script"] (spLaw K) := by
  refine runG_of F scLaw (fun vs H Q E h => ?_) (fun cdv Ar out s0 H vs Q E hg hr h => ?_)
  · obtain ⟨a, ns, rfl, _⟩ := h
    rfl
  · obtain ⟨a, ns, rfl, hS, hn, q⟩ := h
    obtain ⟨fK, fdK, GK⟩ := T.deck
    refine ⟨_, pss_cons (ps_set (i := 1) scLaw.nd rfl (.inr rfl) (pe_call GK.F (hr.mono (by decide)) (by rfl) GK.g GK.kp GK.b .nil pass0 (pa_cons (pv 0) pa_nil)))
      (pss_cons (ps_for PassesOwn.never rfl (pi_range1 rfl T.bn.rng (pa_cons pe_int pa_nil)) (pg_name (i := 2) scLaw.nd rfl (.inl rfl))
        (pss_cons (b0 T hr) (pss_cons (b1 T hr) (pss_cons (b2 T hr) (pss_cons (b3 T) (pss_cons (b4 T) (pss_cons (b5 T) (pss_cons b6 (pss_cons (b7 T hr hg) (pss_cons b8 (pss_cons b9 (pss_cons (b10 T) (pss_cons (b11 T hr hg) (pss_cons (b12 T hr hg) (pss_cons (b13 T hr hg) (pss_one (b14 T hr hg)))))))))))))))))
      (pss_one (ps_ret pe_bl))), ?_⟩
    refine ⟨_, rfl, a, ns, rfl, hS, hn, fun H1 D B C cells s1 _ _ _ dk => ?_⟩
    refine ⟨10, rfl, by decide, by decide, for_range (n := 10) (fun i σ H3 => ∃ D B C cells, W0 D B C cells σ H3) ⟨D, B, C, cells, rfl, rfl, dk⟩ ?_ ?_⟩
    · rintro i σ H3 hi ⟨D, B, C, cells, w0⟩
      refine ⟨D, B, C, cells, w0.set (by decide), fun n σ1 G1 w1 => ⟨D, B, C, cells, n, w1, fun ps r b σ2 G2 wd => ⟨D, B, C, cells, n, ps, r, b, wd, fun ps b σ3 G3 wd => ⟨D, B, C, cells, n, ps, r, b, wd, fun σ4 G4 w4 => ⟨D, B, C, cells, n, ps, r, b, w4, fun σ5 G5 w5 =>
        ⟨D, B, C, cells, n, ps, r, b, w5, fun σ6 G6 w6 => ⟨D, B, C, cells, n, ps, r, b, w6, fun σ7 G7 w7 => ⟨D, B, C, cells, n, ps, r, b, w7, fun σ8 G8 wd => ⟨D, B, C, cells, n, ps, r, b, wd, fun σ9 G9 w9 => ⟨D, B, C, cells, n, ps, r, b, w9, fun σa Ga wa =>
        ⟨D, B, C, cells, n, ps, r, b, wa, fun σb Gb wm => ⟨D, B, C, cells, n, ps, r, b, wm, fun σc Gc wm => ⟨D, B, C, cells, n, ps, r, b, wm, fun σd Gd wm => ⟨D, B, C, cells, n, ps, r, b, wm.toWd, fun σe Ge ww => ⟨D, B, C, cells, n, ps, r, b, ww, fun σf Gf wd => ⟨D, B, C, cells, wd.toW0⟩⟩⟩⟩⟩⟩⟩⟩⟩⟩⟩⟩⟩⟩⟩⟩
    · rintro σ H3 _
      exact q H3
end
end Jg
namespace Jg
open PySem PySem.Spec PyProof.Rows L2
/-! ### keywords -/
theorem kb_one {K : PySem.W.Frag} {fd : FuncData} {x : Str} (h : ∀ v, bindArgs fd ⟨[], [(x, v)]⟩ = pure [(x, v)]) : KBinds K fd [x] [x] kwOne kwOneV where
  to := fun s us ws _ hl => match us, ws, hl with
    | [], [v], _ => .of_eq (h v)
    | [], [], z => absurd z Nat.zero_ne_one
    | [], _ :: _ :: _, z => absurd z (Nat.zero_ne_one)
    | _ :: _, _, z => absurd z (Nat.zero_ne_one)
  rel := fun r1 r2 => by
    cases r1 with
    | nil =>
      cases r2 with
      | nil => exact .nil
      | cons a r =>
        cases r with
        | nil => exact .cons a .nil
        | cons b r => exact .nil
    | cons a r => exact .nil
theorem kb_two {K : PySem.W.Frag} {fd : FuncData} {x y : Str} (h : ∀ u v, bindArgs fd ⟨[], [(y, v), (x, u)]⟩ = pure [(x, u), (y, v)]) : KBinds K fd [x, y] [y, x] kwBox kwBoxV where
  to := fun s us ws _ hl => match us, ws, hl with
    | [], [v, u], _ => .of_eq (h u v)
    | [], [], z => absurd z (Nat.zero_ne_add_one 1)
    | [], [_], z => absurd z (Nat.zero_ne_add_one 1)
    | [], _ :: _ :: _ :: _, z => absurd z (Nat.zero_ne_add_one 1)
    | _ :: _, _, z => absurd z (Nat.zero_ne_add_one 1)
  rel := fun r1 r2 => by
    cases r1 with
    | nil =>
      cases r2 with
      | nil => exact .nil
      | cons a r =>
        cases r with
        | nil => exact .nil
        | cons b r =>
          cases r with
          | nil => exact .cons b (.cons a .nil)
          | cons c r => exact .nil
    | cons a r => exact .nil
theorem kb_three {K : PySem.W.Frag} {fd : FuncData} {x y z : Str} (h : ∀ u v t, bindArgs fd ⟨[], [(z, t), (x, u), (y, v)]⟩ = pure [(x, u), (y, v), (z, t)]) : KBinds K fd [x, y, z] [z, x, y] kwPart kwPartV where
  to := fun s us ws _ hl => match us, ws, hl with
    | [], [t, u, v], _ => .of_eq (h u v t)
    | [], [], z => absurd z (Nat.zero_ne_add_one 2)
    | [], [_], z => absurd z (Nat.zero_ne_add_one 2)
    | [], [_, _], z => absurd z (Nat.zero_ne_add_one 2)
    | [], _ :: _ :: _ :: _ :: _, z => absurd z (Nat.zero_ne_add_one 2)
    | _ :: _, _, z => absurd z (Nat.zero_ne_add_one 2)
  rel := fun r1 r2 => by
    cases r1 with
    | nil =>
      cases r2 with
      | nil => exact .nil
      | cons a r =>
        cases r with
        | nil => exact .nil
        | cons b r =>
          cases r with
          | nil => exact .nil
          | cons c r =>
            cases r with
            | nil => exact .cons b (.cons c (.cons a .nil))
            | cons d r => exact .nil
    | cons a r => exact .nil
/-! ### what the top has written; the law's own head -/
theorem all_mk {l : PySem.W.OpenLaw} {w : World} {K : PySem.W.Frag} {h : Heap} {mg : Str → Option Value} {fa f2 f3 f4 f6 f7 f8 f9 f10 f12 f13 f14 f15 f16 f17 f18 f19 f20 f21 f22 f23 : Addr} {tkM : Tok} (X : K.In h) (G : h.Ns mainGlobals mg) (hfa : mg "law" = some (.ref fa))
    {od2 an2 od3 an3 od4 an4 od6 an6 od7 an7 od8 an8 od9 an9 od10 an10 od12 an12 od13 an13 od14 an14 od15 an15 od16 an16 od17 an17 od18 an18 od19 an19 od20 an20 od21 an21 od22 an22 od23 an23 : Option Addr} {sl2 sl3 sl4 sl6 sl7 sl8 sl9 sl10 sl12 sl13 sl14 sl15 sl16 sl17 sl18 sl19 sl20 sl21 sl22 sl23 : Array (Option Value)} {oc2 kV2 dc2 pm2 cd2 ct2 oc3 kV3 dc3 pm3 cd3 ct3 oc4 kV4 dc4 pm4 cd4 ct4 oc6 kV6 dc6 pm6 cd6 ct6 oc7 kV7 dc7 pm7 cd7 ct7 oc8 kV8 dc8 pm8 cd8 ct8 oc9 kV9 dc9 pm9 cd9 ct9 oc10 kV10 dc10 pm10 cd10 ct10 oc12 kV12 dc12 pm12 cd12 ct12 oc13 kV13 dc13 pm13 cd13 ct13 oc14 kV14 dc14 pm14 cd14 ct14 oc15 kV15 dc15 pm15 cd15 ct15 oc16 kV16 dc16 pm16 cd16 ct16 oc17 kV17 dc17 pm17 cd17 ct17 oc18 kV18 dc18 pm18 cd18 ct18 oc19 kV19 dc19 pm19 cd19 ct19 oc20 kV20 dc20 pm20 cd20 ct20 oc21 kV21 dc21 pm21 cd21 ct21 oc22 kV22 dc22 pm22 cd22 ct22 oc23 kV23 dc23 pm23 cd23 ct23 : Value}
    (a2 : PySem.W.nsIn K mainGlobals "is_integer" = some (some (.ref f2))) (l2 : K.lookup f2 = some ⟨oc2, od2, .func (PySem.W.fnOf "is_integer" "is_integer" (defArgs sInt) (defBody sInt) (defScope sInt) .none kV2 dc2 pm2 an2 cd2 ct2), sl2⟩) (c2 : PySem.W.codeIn K cd2 "is_integer" = true) (k2 : PySem.W.keepIn K (.ref f2) = true)
    (a3 : PySem.W.nsIn K mainGlobals "is_within" = some (some (.ref f3))) (l3 : K.lookup f3 = some ⟨oc3, od3, .func (PySem.W.fnOf "is_within" "is_within" (defArgs sWith) (defBody sWith) (defScope sWith) .none kV3 dc3 pm3 an3 cd3 ct3), sl3⟩) (c3 : PySem.W.codeIn K cd3 "is_within" = true) (k3 : PySem.W.keepIn K (.ref f3) = true)
    (a4 : PySem.W.nsIn K mainGlobals "is_tuple_of" = some (some (.ref f4))) (l4 : K.lookup f4 = some ⟨oc4, od4, .func (PySem.W.fnOf "is_tuple_of" "is_tuple_of" (defArgs sTupO) (defBody sTupO) (defScope sTupO) .none kV4 dc4 pm4 an4 cd4 ct4), sl4⟩) (c4 : PySem.W.codeIn K cd4 "is_tuple_of" = true) (k4 : PySem.W.keepIn K (.ref f4) = true)
    (a6 : PySem.W.nsIn K mainGlobals "is_box" = some (some (.ref f6))) (l6 : K.lookup f6 = some ⟨oc6, od6, .func (PySem.W.fnOf "is_box" "is_box" (defArgs sIsBox) (defBody sIsBox) (defScope sIsBox) .none kV6 dc6 pm6 an6 cd6 ct6), sl6⟩) (c6 : PySem.W.codeIn K cd6 "is_box" = true) (k6 : PySem.W.keepIn K (.ref f6) = true)
    (a7 : PySem.W.nsIn K mainGlobals "_is_range" = some (some (.ref f7))) (l7 : K.lookup f7 = some ⟨oc7, od7, .func (PySem.W.fnOf "_is_range" "_is_range" (defArgs sIsR) (defBody sIsR) (defScope sIsR) .none kV7 dc7 pm7 an7 cd7 ct7), sl7⟩) (c7 : PySem.W.codeIn K cd7 "_is_range" = true) (k7 : PySem.W.keepIn K (.ref f7) = true)
    (a8 : PySem.W.nsIn K mainGlobals "point_count" = some (some (.ref f8))) (l8 : K.lookup f8 = some ⟨oc8, od8, .func (PySem.W.fnOf "point_count" "point_count" (defArgs sCnt) (defBody sCnt) (defScope sCnt) .none kV8 dc8 pm8 an8 cd8 ct8), sl8⟩) (c8 : PySem.W.codeIn K cd8 "point_count" = true) (k8 : PySem.W.keepIn K (.ref f8) = true)
    (a9 : PySem.W.nsIn K mainGlobals "middle" = some (some (.ref f9))) (l9 : K.lookup f9 = some ⟨oc9, od9, .func (PySem.W.fnOf "middle" "middle" (defArgs sMid) (defBody sMid) (defScope sMid) .none kV9 dc9 pm9 an9 cd9 ct9), sl9⟩) (c9 : PySem.W.codeIn K cd9 "middle" = true) (k9 : PySem.W.keepIn K (.ref f9) = true)
    (a10 : PySem.W.nsIn K mainGlobals "parted" = some (some (.ref f10))) (l10 : K.lookup f10 = some ⟨oc10, od10, .func (PySem.W.fnOf "parted" "parted" (defArgs sPart) (defBody sPart) (defScope sPart) .none kV10 dc10 pm10 an10 cd10 ct10), sl10⟩) (c10 : PySem.W.codeIn K cd10 "parted" = true) (k10 : PySem.W.keepIn K (.ref f10) = true)
    (a12 : PySem.W.nsIn K mainGlobals "_law_deck" = some (some (.ref f12))) (l12 : K.lookup f12 = some ⟨oc12, od12, .func (PySem.W.fnOf "_law_deck" "_law_deck" (defArgs sDeck) (defBody sDeck) (defScope sDeck) .none kV12 dc12 pm12 an12 cd12 ct12), sl12⟩) (c12 : PySem.W.codeIn K cd12 "_law_deck" = true) (k12 : PySem.W.keepIn K (.ref f12) = true)
    (a13 : PySem.W.nsIn K mainGlobals "_law_draw" = some (some (.ref f13))) (l13 : K.lookup f13 = some ⟨oc13, od13, .func (PySem.W.fnOf "_law_draw" "_law_draw" (defArgs sDraw) (defBody sDraw) (defScope sDraw) .none kV13 dc13 pm13 an13 cd13 ct13), sl13⟩) (c13 : PySem.W.codeIn K cd13 "_law_draw" = true) (k13 : PySem.W.keepIn K (.ref f13) = true)
    (a14 : PySem.W.nsIn K mainGlobals "_law_one" = some (some (.ref f14))) (l14 : K.lookup f14 = some ⟨oc14, od14, .func (PySem.W.fnOf "_law_one" "_law_one" (defArgs sOne) (defBody sOne) (defScope sOne) .none kV14 dc14 pm14 an14 cd14 ct14), sl14⟩) (c14 : PySem.W.codeIn K cd14 "_law_one" = true) (k14 : PySem.W.keepIn K (.ref f14) = true)
    (a15 : PySem.W.nsIn K mainGlobals "_law_far" = some (some (.ref f15))) (l15 : K.lookup f15 = some ⟨oc15, od15, .func (PySem.W.fnOf "_law_far" "_law_far" (defArgs sFar) (defBody sFar) (defScope sFar) .none kV15 dc15 pm15 an15 cd15 ct15), sl15⟩) (c15 : PySem.W.codeIn K cd15 "_law_far" = true) (k15 : PySem.W.keepIn K (.ref f15) = true)
    (a16 : PySem.W.nsIn K mainGlobals "_law_odd" = some (some (.ref f16))) (l16 : K.lookup f16 = some ⟨oc16, od16, .func (PySem.W.fnOf "_law_odd" "_law_odd" (defArgs sOdd) (defBody sOdd) (defScope sOdd) .none kV16 dc16 pm16 an16 cd16 ct16), sl16⟩) (c16 : PySem.W.codeIn K cd16 "_law_odd" = true) (k16 : PySem.W.keepIn K (.ref f16) = true)
    (a17 : PySem.W.nsIn K mainGlobals "_law_bent" = some (some (.ref f17))) (l17 : K.lookup f17 = some ⟨oc17, od17, .func (PySem.W.fnOf "_law_bent" "_law_bent" (defArgs sBent) (defBody sBent) (defScope sBent) .none kV17 dc17 pm17 an17 cd17 ct17), sl17⟩) (c17 : PySem.W.codeIn K cd17 "_law_bent" = true) (k17 : PySem.W.keepIn K (.ref f17) = true)
    (a18 : PySem.W.nsIn K mainGlobals "_law_whole" = some (some (.ref f18))) (l18 : K.lookup f18 = some ⟨oc18, od18, .func (PySem.W.fnOf "_law_whole" "_law_whole" (defArgs sWhole) (defBody sWhole) (defScope sWhole) .none kV18 dc18 pm18 an18 cd18 ct18), sl18⟩) (c18 : PySem.W.codeIn K cd18 "_law_whole" = true) (k18 : PySem.W.keepIn K (.ref f18) = true)
    (a19 : PySem.W.nsIn K mainGlobals "_law_number" = some (some (.ref f19))) (l19 : K.lookup f19 = some ⟨oc19, od19, .func (PySem.W.fnOf "_law_number" "_law_number" (defArgs sNum) (defBody sNum) (defScope sNum) .none kV19 dc19 pm19 an19 cd19 ct19), sl19⟩) (c19 : PySem.W.codeIn K cd19 "_law_number" = true) (k19 : PySem.W.keepIn K (.ref f19) = true)
    (a20 : PySem.W.nsIn K mainGlobals "_law_box" = some (some (.ref f20))) (l20 : K.lookup f20 = some ⟨oc20, od20, .func (PySem.W.fnOf "_law_box" "_law_box" (defArgs sMkBox) (defBody sMkBox) (defScope sMkBox) .none kV20 dc20 pm20 an20 cd20 ct20), sl20⟩) (c20 : PySem.W.codeIn K cd20 "_law_box" = true) (k20 : PySem.W.keepIn K (.ref f20) = true)
    (a21 : PySem.W.nsIn K mainGlobals "_law_is_range" = some (some (.ref f21))) (l21 : K.lookup f21 = some ⟨oc21, od21, .func (PySem.W.fnOf "_law_is_range" "_law_is_range" (defArgs sLR) (defBody sLR) (defScope sLR) .none kV21 dc21 pm21 an21 cd21 ct21), sl21⟩) (c21 : PySem.W.codeIn K cd21 "_law_is_range" = true) (k21 : PySem.W.keepIn K (.ref f21) = true)
    (a22 : PySem.W.nsIn K mainGlobals "_law_is_box" = some (some (.ref f22))) (l22 : K.lookup f22 = some ⟨oc22, od22, .func (PySem.W.fnOf "_law_is_box" "_law_is_box" (defArgs sLB) (defBody sLB) (defScope sLB) .none kV22 dc22 pm22 an22 cd22 ct22), sl22⟩) (c22 : PySem.W.codeIn K cd22 "_law_is_box" = true) (k22 : PySem.W.keepIn K (.ref f22) = true)
    (a23 : PySem.W.nsIn K mainGlobals "law" = some (some (.ref f23))) (l23 : K.lookup f23 = some ⟨oc23, od23, .func (PySem.W.fnOf "law" "law" (defArgs sLaw) (defBody sLaw) (defScope sLaw) .none kV23 dc23 pm23 an23 cd23 ct23), sl23⟩) (c23 : PySem.W.codeIn K cd23 "law" = true) (k23 : PySem.W.keepIn K (.ref f23) = true)
    (aM : PySem.W.nsIn K mainGlobals "MAX_NUMBER" = some (some (.int M20 tkM)))
    (z_isinstance : PySem.W.nsIn K mainGlobals "isinstance" = some none) (z_int : PySem.W.nsIn K mainGlobals "int" = some none) (z_bool : PySem.W.nsIn K mainGlobals "bool" = some none) (z_tuple : PySem.W.nsIn K mainGlobals "tuple" = some none) (z_len : PySem.W.nsIn K mainGlobals "len" = some none) (z_all : PySem.W.nsIn K mainGlobals "all" = some none) (z_range : PySem.W.nsIn K mainGlobals "range" = some none) (z_list : PySem.W.nsIn K mainGlobals "list" = some none) (z_str : PySem.W.nsIn K mainGlobals "str" = some none) (z_min : PySem.W.nsIn K mainGlobals "min" = some none) (z_repr : PySem.W.nsIn K mainGlobals "repr" = some none) (z_abs : PySem.W.nsIn K mainGlobals "abs" = some none) :
    ∃ fd : FuncData, (∀ (s : Shared) (v : Value), BindsTo s fd ⟨[v], []⟩ [("_law_script", v)]) ∧ ∀ base : Heap, K.In base → base.Ns mainGlobals mg → RunG l.prog w K mg base 7 fa fd ["_law_script"] (spLaw K) := by
  have e := hfa.symm.trans (PySem.W.mg_of X G a23)
  cases e
  have T : Bn mg := ⟨PySem.W.mg_none_of X G z_isinstance, PySem.W.mg_none_of X G z_int, PySem.W.mg_none_of X G z_bool, PySem.W.mg_none_of X G z_tuple, PySem.W.mg_none_of X G z_len, PySem.W.mg_none_of X G z_all, PySem.W.mg_none_of X G z_range, PySem.W.mg_none_of X G z_list, PySem.W.mg_none_of X G z_str, PySem.W.mg_none_of X G z_min, PySem.W.mg_none_of X G z_repr, PySem.W.mg_none_of X G z_abs⟩
  have F2 := fun_mk (st := sInt) l2 c2 k2
  have b2 := F2.binds (ps := ["value"]) fun _ _ _ _ _ _ us hl => match us, hl with | [_], _ => rfl
  have g2 := PySem.W.mg_of X G a2
  have F3 := fun_mk (st := sWith) l3 c3 k3
  have b3 := F3.binds (ps := ["value", "low", "high"]) fun _ _ _ _ _ _ us hl => match us, hl with | [_, _, _], _ => rfl
  have g3 := PySem.W.mg_of X G a3
  have F4 := fun_mk (st := sTupO) l4 c4 k4
  have b4 := F4.binds (ps := ["value", "many"]) fun _ _ _ _ _ _ us hl => match us, hl with | [_, _], _ => rfl
  have g4 := PySem.W.mg_of X G a4
  have F6 := fun_mk (st := sIsBox) l6 c6 k6
  have b6 := F6.binds (ps := ["row", "value"]) fun _ _ _ _ _ _ us hl => match us, hl with | [_, _], _ => rfl
  have g6 := PySem.W.mg_of X G a6
  have F7 := fun_mk (st := sIsR) l7 c7 k7
  have b7 := F7.binds (ps := ["value"]) fun _ _ _ _ _ _ us hl => match us, hl with | [_], _ => rfl
  have g7 := PySem.W.mg_of X G a7
  have F8 := fun_mk (st := sCnt) l8 c8 k8
  have b8 := F8.binds (ps := ["box"]) fun _ _ _ _ _ _ us hl => match us, hl with | [_], _ => rfl
  have g8 := PySem.W.mg_of X G a8
  have F9 := fun_mk (st := sMid) l9 c9 k9
  have b9 := F9.binds (ps := ["box"]) fun _ _ _ _ _ _ us hl => match us, hl with | [_], _ => rfl
  have g9 := PySem.W.mg_of X G a9
  have F10 := fun_mk (st := sPart) l10 c10 k10
  have b10 := F10.binds (ps := ["box", "unknown", "number"]) fun _ _ _ _ _ _ us hl => match us, hl with | [_, _, _], _ => rfl
  have g10 := PySem.W.mg_of X G a10
  have F12 := fun_mk (st := sDeck) l12 c12 k12
  have b12 := F12.binds (ps := ["_law_script"]) fun _ _ _ _ _ _ us hl => match us, hl with | [_], _ => rfl
  have g12 := PySem.W.mg_of X G a12
  have F13 := fun_mk (st := sDraw) l13 c13 k13
  have b13 := F13.binds (ps := ["_law_deck_here", "_law_many"]) fun _ _ _ _ _ _ us hl => match us, hl with | [_, _], _ => rfl
  have g13 := PySem.W.mg_of X G a13
  have F14 := fun_mk (st := sOne) l14 c14 k14
  have b14 := F14.binds (ps := ["_law_deck_here", "_law_items"]) fun _ _ _ _ _ _ us hl => match us, hl with | [_, _], _ => rfl
  have g14 := PySem.W.mg_of X G a14
  have F15 := fun_mk (st := sFar) l15 c15 k15
  have b15 := F15.binds (ps := ["_law_deck_here", "_law_many"]) fun _ _ _ _ _ _ us hl => match us, hl with | [_, _], _ => rfl
  have g15 := PySem.W.mg_of X G a15
  have F16 := fun_mk (st := sOdd) l16 c16 k16
  have b16 := F16.binds (ps := ["_law_deck_here"]) fun _ _ _ _ _ _ us hl => match us, hl with | [_], _ => rfl
  have g16 := PySem.W.mg_of X G a16
  have F17 := fun_mk (st := sBent) l17 c17 k17
  have b17 := F17.binds (ps := ["_law_deck_here", "_law_value", "_law_deep"]) fun _ _ _ _ _ _ us hl => match us, hl with | [_, _, _], _ => rfl
  have g17 := PySem.W.mg_of X G a17
  have F18 := fun_mk (st := sWhole) l18 c18 k18
  have b18 := F18.binds (ps := ["_law_value", "_law_least", "_law_most"]) fun _ _ _ _ _ _ us hl => match us, hl with | [_, _, _], _ => rfl
  have g18 := PySem.W.mg_of X G a18
  have F19 := fun_mk (st := sNum) l19 c19 k19
  have b19 := F19.binds (ps := ["_law_deck_here"]) fun _ _ _ _ _ _ us hl => match us, hl with | [_], _ => rfl
  have g19 := PySem.W.mg_of X G a19
  have F20 := fun_mk (st := sMkBox) l20 c20 k20
  have b20 := F20.binds (ps := ["_law_deck_here", "_law_inputs", "_law_wide"]) fun _ _ _ _ _ _ us hl => match us, hl with | [_, _, _], _ => rfl
  have g20 := PySem.W.mg_of X G a20
  have F21 := fun_mk (st := sLR) l21 c21 k21
  have b21 := F21.binds (ps := ["_law_value"]) fun _ _ _ _ _ _ us hl => match us, hl with | [_], _ => rfl
  have g21 := PySem.W.mg_of X G a21
  have F22 := fun_mk (st := sLB) l22 c22 k22
  have b22 := F22.binds (ps := ["_law_inputs", "_law_value"]) fun _ _ _ _ _ _ us hl => match us, hl with | [_, _], _ => rfl
  have g22 := PySem.W.mg_of X G a22
  have F23 := fun_mk (st := sLaw) l23 c23 k23
  have gM := PySem.W.mg_of X G aM
  have D_ : Dr K mg f13 _ := ⟨F13, b13, g13⟩
  have O_ : On K mg f14 _ := ⟨F14, b14, g14⟩
  have A_ : Fa K mg f15 _ := ⟨F15, b15, g15⟩
  have X_ : Od K mg f16 _ := ⟨F16, b16, g16⟩
  have N_ : Nu K mg f19 _ := ⟨F19, b19, g19⟩
  refine ⟨PySem.W.fnOf "law" "law" (defArgs sLaw) (defBody sLaw) (defScope sLaw) .none kV23 dc23 pm23 an23 cd23 ct23, fun s v => .of_eq rfl, fun base _ _ => run_law F23 ?_⟩
  refine {
    bn := T
    deck := ⟨f12, _, ⟨ok_deck F12 T.abs T.len, g12, k12, b12⟩⟩
    draw := ⟨f13, _, ⟨ok_draw F13 T.int T.len, g13, k13, b13⟩⟩
    one := ⟨f14, _, ⟨ok_one F14 F13 b13 g13 T.int T.len, g14, k14, b14⟩⟩
    far := ⟨f15, _, ⟨ok_far A_ D_ T, g15, k15, b15⟩⟩
    odd := ⟨f16, _, ⟨ok_odd F16 F14 b14 g14 F13 b13 g13 T, g16, k16, b16⟩⟩
    bent := ⟨f17, _, ⟨?_, g17, k17, b17⟩⟩
    box := ⟨f20, _, ⟨ok_mkbox F20 N_ A_ O_ D_ T, g20, k20, b20⟩⟩
    lbox := ⟨f22, _, ⟨ok_lbox F22 F18 b18 g18 F21 b21 g21 T, g22, k22, b22⟩⟩
    isbox := ⟨f6, _, ⟨ok_isbox F6 F2 b2 g2 F3 b3 g3 F4 b4 g4 F7 b7 g7 gM T, g6, k6, b6⟩, kb_two fun u v => rfl⟩
    cnt := ⟨f8, _, ⟨ok_cnt F8, g8, k8, b8⟩, kb_one fun v => rfl⟩
    mid := ⟨f9, _, ⟨ok_mid F9 T, g9, k9, b9⟩, kb_one fun v => rfl⟩
    part := ⟨f10, _, ⟨ok_part F10, g10, k10, b10⟩, kb_three fun u v t => rfl⟩ }
  have B1 := ok_bent (P := l.prog) (w := w) (base := base) (k := 3) (n := 0) (by decide) (by decide) F17 b17 g17 ⟨fun _ _ _ _ z => False.elim z, fun _ _ _ _ _ _ _ _ _ _ _ _ _ z => False.elim z⟩ X_ O_ D_ T
  have B2 := ok_bent (n := 1) (by decide) (by decide) F17 b17 g17 B1 X_ O_ D_ T
  exact ok_bent (n := 2) (by decide) (by decide) F17 b17 g17 B2 X_ O_ D_ T
end Jg
open PySem PySem.W PyProof.Rows
set_option maxRecDepth 100000 in
set_option maxHeartbeats 0 in
theorem PySem.Challenge.cw_rowsback_k58_boxes_judged_holds : PySem.Challenge.rw_rowsback_k58_boxes_judged.Holds := by
  w_on; o_law; k_head; (case hw => w_witness2)
  k_fill
  refine Jg.walk_ofG (l := PySem.Challenge.rw_rowsback_k58_boxes_judged) (n := 63) (k := 7) (x := "_law_script") (sp := fun w => Jg.spLaw _) rfl (by decide) rfl ⟨rfl, by decide, by decide⟩ (fun w h Y => PySem.W.kIn_of Y) ?F (fun _ _ a ns hl _ hS => ⟨a, ns, rfl, hS, hl, fun _ => rfl⟩)
  case F =>
    intro w mg fa h KX G hmg
    refine' Jg.all_mk KX G hmg ?a2 ?l2 ?c2 ?k2 ?a3 ?l3 ?c3 ?k3 ?a4 ?l4 ?c4 ?k4 ?a6 ?l6 ?c6 ?k6 ?a7 ?l7 ?c7 ?k7 ?a8 ?l8 ?c8 ?k8 ?a9 ?l9 ?c9 ?k9 ?a10 ?l10 ?c10 ?k10 ?a12 ?l12 ?c12 ?k12 ?a13 ?l13 ?c13 ?k13 ?a14 ?l14 ?c14 ?k14 ?a15 ?l15 ?c15 ?k15 ?a16 ?l16 ?c16 ?k16 ?a17 ?l17 ?c17 ?k17 ?a18 ?l18 ?c18 ?k18 ?a19 ?l19 ?c19 ?k19 ?a20 ?l20 ?c20 ?k20 ?a21 ?l21 ?c21 ?k21 ?a22 ?l22 ?c22 ?k22 ?a23 ?l23 ?c23 ?k23 ?aM ?z_isinstance ?z_int ?z_bool ?z_tuple ?z_len ?z_all ?z_range ?z_list ?z_str ?z_min ?z_repr ?z_abs
    (case a2 => k_is); (case l2 => k_is); (case c2 => k_is); (case k2 => k_is)
    (case a3 => k_is); (case l3 => k_is); (case c3 => k_is); (case k3 => k_is)
    (case a4 => k_is); (case l4 => k_is); (case c4 => k_is); (case k4 => k_is)
    (case a6 => k_is); (case l6 => k_is); (case c6 => k_is); (case k6 => k_is)
    (case a7 => k_is); (case l7 => k_is); (case c7 => k_is); (case k7 => k_is)
    (case a8 => k_is); (case l8 => k_is); (case c8 => k_is); (case k8 => k_is)
    (case a9 => k_is); (case l9 => k_is); (case c9 => k_is); (case k9 => k_is)
    (case a10 => k_is); (case l10 => k_is); (case c10 => k_is); (case k10 => k_is)
    (case a12 => k_is); (case l12 => k_is); (case c12 => k_is); (case k12 => k_is)
    (case a13 => k_is); (case l13 => k_is); (case c13 => k_is); (case k13 => k_is)
    (case a14 => k_is); (case l14 => k_is); (case c14 => k_is); (case k14 => k_is)
    (case a15 => k_is); (case l15 => k_is); (case c15 => k_is); (case k15 => k_is)
    (case a16 => k_is); (case l16 => k_is); (case c16 => k_is); (case k16 => k_is)
    (case a17 => k_is); (case l17 => k_is); (case c17 => k_is); (case k17 => k_is)
    (case a18 => k_is); (case l18 => k_is); (case c18 => k_is); (case k18 => k_is)
    (case a19 => k_is); (case l19 => k_is); (case c19 => k_is); (case k19 => k_is)
    (case a20 => k_is); (case l20 => k_is); (case c20 => k_is); (case k20 => k_is)
    (case a21 => k_is); (case l21 => k_is); (case c21 => k_is); (case k21 => k_is)
    (case a22 => k_is); (case l22 => k_is); (case c22 => k_is); (case k22 => k_is)
    (case a23 => k_is); (case l23 => k_is); (case c23 => k_is); (case k23 => k_is)
    (case aM => k_is)
    (case z_isinstance => k_is)
    (case z_int => k_is)
    (case z_bool => k_is)
    (case z_tuple => k_is)
    (case z_len => k_is)
    (case z_all => k_is)
    (case z_range => k_is)
    (case z_list => k_is)
    (case z_str => k_is)
    (case z_min => k_is)
    (case z_repr => k_is)
    (case z_abs => k_is)
